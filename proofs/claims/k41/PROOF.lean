import PyProof.Rows.All
import Wide.All
import OpenK.AllK
import Wide.FinOn
import PySem.Challenge.RW_drawnmore_k41_mends_by_hand
import HandS.ForMost
import HandS.ForExc
import HandS.Property
import HandS.IsInst
import HandS.Gcd
import HandS.Wide
import HandS.WideBits
import PyProof.ReprRoads
import PyProof.InstNe
import KE.GoesEnum
import KE.KTupSum
import HandS.Walk
import KE.GoesMore
import KE.GoesZip
import KE.KMathGC
import HandS.Zip
import HandS.Style
import HandS.TupAny
import HandS.Conv
import HandS.Star
import HandS.TupLe
import Flt.RightSqrt
import HandS.SortInts
import PyProof.CallFns
import HandS.Codes
import HandS.StrMore
import HandS.FStr
import HandS.ClsMeth
import HandS.Iter
import PyProof.InstSpecial
import KE.KIntText
import KE.IntTextLaws
import PyProof.Rows.StrAscii
import PyProof.Rows.Range3
import PyProof.Conv_bool
import PyProof.CallStr
import PyProof.Truth
import PyProof.EqKinds
import PyProof.NeKinds
import HandS.ExcInit
import KE.KExcSuper
import KE.KTryMore
import KE.KExcIs
import HandS.ExcIs
import HandS.Lambda
import HandS.EndTab
import HandS.WordsExc
import HandS.ExcOwn
import HandS.More
import KE.KNestM
import PyProof.ExcBaseAll.ArithmeticError
import HandS.ExcCtx
import HandS.HotCalls
import HandS.ExcInitHot
import HandS.Comp
import HandS.ExcField
import HandS.RaiseMore
import HandS.TupMul
import PyProof.CollectIter
import PyProof.Rows.TupIter
import PyProof.WalksMore
import HandS.ExcValue
import HandS.Steps
import HandS.NoneIn
set_option Elab.async false
set_option linter.all false
set_option maxRecDepth 100000
set_option maxHeartbeats 8000000
namespace Dm
open PySem PySem.Spec PyProof.Rows L2

/-! ## promises that hold where no guard is under way -/
structure FnG (P : Program) (w : World) (K : PySem.W.Frag) (mg : Str → Option Value) (base : Heap) (k : Nat)
    (f : Addr) (fd : FuncData) (ps : List Str) (sp : Sp) : Prop where
  len : ∀ vs H Q E, sp vs H Q E → vs.length = ps.length
  run : ∀ (A : Around) (outer : List Env) (s : Shared) (H : Hp) (args : Args) (us : List Value) (vs : List V) (Q : VK) (E : XK),
    A.guards = some [] → Room k A → Env0 P w K mg base A outer s H → BindsTo s fd args (ps.zip us) → Vals vs us → sp vs H Q E →
    codeAny (model P w) A (.call (.ref f) args) (CR CX0 outer P w H s Q E) s

section
variable {P : Program} {w : World} {K : PySem.W.Frag} {mg : Str → Option Value} {base : Heap}

/-- a def by its body, its caller's stack free of guards -/
theorem okG {x qual : Str} {st : Stmt} {f : Addr} {fd : FuncData} {N ps : List Str} {k : Nat} {sp : Sp}
    (F : Fun K x qual st f fd) (S : FnScope N ps (defScope st))
    (hlen : ∀ vs H Q E, sp vs H Q E → vs.length = ps.length)
    (hb : ∀ (cdv : Value) (A : Around) (outer : List Env) (s : Shared) (H : Hp) (vs : List V) (Q : VK) (E : XK),
      A.guards = some [] → Room k (A.deeper (envOfC qual (defScope st) s.heap.objs.size f cdv)) → sp vs H Q E →
      ∃ t, PSs (cxOf CX0 P w K mg base N qual (defScope st) f cdv A outer s H E).nox (defBody st) t ∧
        t { nx := fun _ H' => Q .non H', rt := Q } (start N vs) H) :
    FnG P w K mg base (k + 1) f fd ps sp := by
  obtain ⟨oc, od, kV, doc, pm, an, cdv, ct, osl, rfl, look, hcode⟩ := F.ex
  constructor
  · exact hlen
  intro A outer s H args us vs Q E hgd hrm env0 hbinds rel hsp
  have hl := hlen _ _ _ _ hsp
  have inK : K.In s.heap := env0.mod.kin.keeps fun a o h => (env0.bs a o h).1
  have nolim : s.heap.NoLimit := env0.mod.nolimit.keeps fun a o h => (env0.bs a o h).1
  have kinds : ∀ y ∈ ps.zip us, (defScope st).names.lookup y.1 = some .local ∨
      ((defScope st).names.lookup y.1 = some .cell ∧ ((cellsFrom (s.heap.objs.size + 1) (defScope st).names []).lookup y.1).isSome = true) := by
    intro ⟨n, v⟩ hy
    cases S.par n (List.of_mem_zip hy).1 with
    | inl q => exact .inl q
    | inr q => exact .inr ⟨q, PySem.W.cellsFrom_some _ _ _ (.inl q)⟩
  apply codeAny_call_function hrm.depth (inK _ _ look) rfl S.co S.gen rfl
    (PySem.W.codeRec_of inK hcode) (hbinds _ _ _ _ ?_)
  refine wpAny_newFunctionEnv_cells S.kind kinds fun env henv s1 ic => ?_
  subst henv
  refine ⟨nolim.keeps ic.toInCall.keep, codeAny_func ?_⟩
  obtain ⟨t, ht, hq⟩ := hb cdv A outer s H vs Q E hgd (hrm.deeper _) hsp
  have I := inv_start (CX := CX0) (E := E) S hrm.hd env0 hl rel ic
  refine wpAny_mono (ht.nox.run [] s1 (start N vs) H _ I hq) (fun fl s' hs => ?_) fun _ _ hs => hs
  have done : ∀ {σ' : L2.St} {H' : Hp} {v : V} {u : Value},
      Inv (cxOf CX0 P w K mg base N qual (defScope st) f cdv A outer s H E) [] σ' H' s' → RelV v u → Q v H' →
      CE outer P w H s Q u s' := fun J rv q => ⟨_, _, J.os, J.bare, J.base, J.hok, rv, q⟩
  cases fl with
  | ret u =>
    obtain ⟨v, σ', H', J, rv, q⟩ := hs
    exact done J rv q
  | next =>
    obtain ⟨σ', H', J, q⟩ := hs
    exact done (v := V.non) (u := Value.none) J rfl q
  | brk =>
    obtain ⟨_, _, _, q⟩ := hs
    exact q.elim
  | cont =>
    obtain ⟨_, _, _, q⟩ := hs
    exact q.elim

theorem FnG.of {k : Nat} {f : Addr} {fd : FuncData} {ps : List Str} {sp : Sp} (F : FnOk P w K mg base CX0 k f fd ps sp) :
    FnG P w K mg base k f fd ps sp := ⟨F.len, fun A o s H a us vs Q E _ => F.run A o s H a us vs Q E⟩

/-- the global x is a def that keeps sp -/
def Has (P : Program) (w : World) (K : PySem.W.Frag) (mg : Str → Option Value) (base : Heap) (x : Str) (k : Nat) (ps : List Str) (sp : Sp) : Prop :=
  ∃ f fd, FnOk P w K mg base CX0 k f fd ps sp ∧ mg x = some (.ref f) ∧ PySem.W.keepIn K (.ref f) = true ∧ Binds K fd ps []
def HasG (P : Program) (w : World) (K : PySem.W.Frag) (mg : Str → Option Value) (base : Heap) (x : Str) (k : Nat) (ps : List Str) (sp : Sp) : Prop :=
  ∃ f fd, FnG P w K mg base k f fd ps sp ∧ mg x = some (.ref f) ∧ PySem.W.keepIn K (.ref f) = true ∧ Binds K fd ps []
/-- the def st of the text stands under its name -/
def Df (K : PySem.W.Frag) (mg : Str → Option Value) (x : Str) (st : Stmt) (ps : List Str) : Prop :=
  ∃ f fd, Fun K x x st f fd ∧ mg x = some (.ref f) ∧ Binds K fd ps []
end

section
variable {X : Cx}
def tF (sp : Sp) (t : TA) : TE := fun σ H Q => t σ H fun vs H1 => sp vs H1 Q E0
theorem pe_has {x : Str} {k : Nat} {ps : List Str} {sp : Sp} {p pos : Pos} {e : Expr} {es : List Expr} {t : TA}
    (h : Has X.prog X.w X.K X.mg X.base x k ps sp) (hr : Room k X.A) (ha : PA X (e :: es) t) (hg : Gl X x := by rfl)
    (hdb : (x == ("__debug__" : Str)) = false := by decide)
    (he : starEach (e :: es) X.env = (false, eval e X.env) :: starEach es X.env := by rfl)
    (hpl : (backTo pos (starEach es X.env)).any (·.1) = false := by rfl) :
    PE X (.Call (.Name x p) (e :: es) [] pos) (tF sp t) := by
  obtain ⟨f, fd, F, hm, hk, hb⟩ := h
  have q := pe_call (X := X) (p := p) (pos := pos) F hr hg hm hk hb .nil (pass0 (X := X)) ha hdb he hpl
  refine ⟨fun pins s σ H Q I hq => q.run pins s σ H Q I ?_⟩
  show t σ H fun vs H1 => sp (vs ++ []) H1 Q E0
  simp only [List.append_nil]
  exact hq
theorem pe_hasG {x : Str} {k : Nat} {ps : List Str} {sp : Sp} {p pos : Pos} {e : Expr} {es : List Expr} {t : TA}
    (h : HasG X.prog X.w X.K X.mg X.base x k ps sp) (hgd : X.A.guards = some []) (hr : Room k X.A) (ha : PA X (e :: es) t) (hg : Gl X x := by rfl)
    (hdb : (x == ("__debug__" : Str)) = false := by decide)
    (he : starEach (e :: es) X.env = (false, eval e X.env) :: starEach es X.env := by rfl)
    (hpl : (backTo pos (starEach es X.env)).any (·.1) = false := by rfl) :
    PE X (.Call (.Name x p) (e :: es) [] pos) (tF sp t) := by
  obtain ⟨f, fd, F, hm, hk, hb⟩ := h
  refine ⟨fun pins s σ H Q I hq => ?_⟩
  apply wpAny_Call_Name_kw (ld_glob I hg hm ?_ hdb)
  apply PySem.W.callWith_K (h₀ := X.base) I.ok.mod.kin hk ?_ he hpl
  refine thn (ha.run pos pins s σ H _ I hq) fun us s1 ⟨vs, H1, I1, rel, hsp⟩ => ⟨I1.kIn, ?_⟩
  have hl : us.length = ps.length := by rw [← rel.length]; exact F.len _ _ _ _ hsp
  have bnd := hb s1 us I1.kIn (by rw [List.append_nil]; exact hl)
  rw [List.append_nil] at bnd
  refine wpAny_call (codeAny_mono (F.run X.A X.stack s1 H1 ⟨us, []⟩ us vs Q E0 hgd hr I1.env0 bnd rel hsp) fun r s' hc => ?_)
  cases r with
  | error er => exact ((pass0 (X := X)) pins σ H1 s1 er s' I1 hc)
  | ok fl =>
    cases fl with
    | ret u => exact I1.after hc
    | next => exact hc.elim
    | brk => exact hc.elim
    | cont => exact hc.elim

theorem PE.imp {e : Expr} {t t' : TE} (h : PE X e t) (hi : ∀ σ H Q, t' σ H Q → t σ H Q) : PE X e t' :=
  ⟨fun pins s σ H Q I hq => h.run pins s σ H Q I (hi σ H Q hq)⟩
theorem PT.imp {e : Expr} {t t' : TT} (h : PT X e t) (hi : ∀ σ H Q, t' σ H Q → t σ H Q) : PT X e t' :=
  ⟨fun pins s σ H Q I hq => h.run pins s σ H Q I (hi σ H Q hq)⟩
end


/-- the law's call, its def kept where no guard is under way -/
theorem law_callG {P : Program} {w : World} {K : PySem.W.Frag} {mg mb : Str → Option Value} {k : Nat} {fa a : Addr} {fd : FuncData} {x : Str} {sp : Sp} {s : Shared} {vs : List Value} {ns : List Int}
    (inK : K.In s.heap) (gl : s.heap.Ns mainGlobals mg) (bl : s.heap.Ns builtinsNs mb)
    (bb : ∀ y : Str, y ≠ "__name__" → mb y = bootBuiltins y) (nolim : s.heap.NoLimit) (gens : s.gens = #[])
    (obj : s.heap.get? a = some { cls := .type "list", data := .seq vs.toArray }) (ia : IntsAre vs ns) (short : ns.length ≤ sizeLine) (hrm : Room k callerA)
    (F : ∀ base : Heap, K.In base → base.Ns mainGlobals mg → FnG P w K mg base k fa fd [x] sp)
    (bind : ∀ (s : Shared) (u : Value), BindsTo s fd ⟨[u], []⟩ [(x, u)])
    (hsp : ∀ H : Hp, SqL K H a (ns.map V.int) → sp [.ref a] H (fun v _ => v = .bl true) fun _ _ _ => False) :
    codeAny (model P w) callerA (.call (.ref fa) ⟨[.ref a], []⟩)
      (fun r s' => r = .ok (.ret (.bool true)) ∧ OldK s.heap s'.heap ∧ s'.os = s.os ∧ AllBare s'.gens) s := by
  have vals := vals_ints ia
  have many := ia.length
  have main : ∀ H : Hp, Only H → SqL K H a (ns.map V.int) → HOk P w H s.heap → (∀ b, H b ≠ none → b = a) → (H a ≠ none → K.lookup a = none) →
      codeAny (model P w) callerA (.call (.ref fa) ⟨[.ref a], []⟩)
        (fun r s' => r = .ok (.ret (.bool true)) ∧ OldK s.heap s'.heap ∧ s'.os = s.os ∧ AllBare s'.gens) s := by
    intro H only script hok alone notK
    have dictFree : ∀ {b : Addr} {o : Obj} {es : Array DictEntry} {ep : Nat},
        s.heap.get? b = some o → o.data = .dict es ep → H b = none := by
      intro b o es ep e d
      cases q : H b with
      | none => rfl
      | some u =>
        have eb := alone b (by rw [q]; simp)
        subst eb
        rw [obj] at e
        cases e
        have d2 : Data.seq vs.toArray _ = Data.dict es ep := d
        cases d2
    have nsOf : ∀ {b : Addr} {m : Str → Option Value}, s.heap.Ns b m → (hidT s.heap H).Ns b m := by
      intro b m ⟨o, es, ep, e, d, r⟩
      exact ⟨o, es, ep, hidT_get e (dictFree e d), d, r⟩
    have inB : K.In (hidT s.heap H) := by
      intro b o e
      refine hidT_get (inK b o e) ?_
      cases q : H b with
      | none => rfl
      | some u =>
        have eb := alone b (by rw [q]; simp)
        subst eb
        have z := notK (by rw [q]; simp)
        rw [z] at e
        cases e
    have md : Mod K mg (hidT s.heap H) := by
      obtain ⟨mc, h1, h2⟩ := nolim
      exact ⟨inB, nsOf gl, ⟨mb, nsOf bl, bb⟩, ⟨mc, nsOf h1, h2⟩⟩
    have env0 : Env0 P w K mg (hidT s.heap H) callerA [] s H :=
      ⟨rfl, md, fun b o e => of_hidT e, Nat.le_of_eq (hidT_size _ _), trivial, fun b z => absurd (show b ∈ ([] : List Addr) from z) (by simp), hok, .of_eq gens⟩
    have run := (F _ inB (nsOf gl)).run callerA [] s H ⟨[.ref a], []⟩ [.ref a] [.ref a] _ _ rfl hrm env0 (bind s (.ref a)) (.cons rfl .nil) (hsp H script)
    refine codeAny_mono run fun r s' h => ?_
    cases r with
    | error e => exact h.elim
    | ok fl =>
      cases fl with
      | next => exact h.elim
      | brk => exact h.elim
      | cont => exact h.elim
      | ret u =>
        obtain ⟨v, H', os, bare, un, hok2, rel, q⟩ := h
        have q2 : v = .bl true := q
        subst q2
        obtain rfl : u = Value.bool true := rel
        refine ⟨rfl, OldK.of_keep fun b o e => ?_, os, bare⟩
        cases q : H b with
        | none =>
          have nn : b ∉ frs ([] : List Env) := fun z => absurd (show b ∈ ([] : List Addr) from z) (by simp)
          exact un.keep b o e q nn (by simp)
        | some u =>
          rcases only b with z | ⟨ob, xs, z⟩
          · rw [q] at z
            cases z
          · obtain ⟨e1, _⟩ := hok b _ z
            obtain ⟨e2, _⟩ := hok2 b _ (un.frzs b ob _ z)
            rw [e] at e1
            cases e1
            exact e2
  cases hk : K.lookup a with
  | some o =>
    have e := inK a o hk
    rw [obj] at e
    cases e
    refine main (fun _ => none) (fun _ => .inl rfl) (.inr ⟨_, vs.toArray, _, hk, rfl, rfl, rfl, ?_, ?_⟩) (fun b u z => ?_) (fun b z => absurd rfl z) fun z => absurd rfl z
    · rw [List.size_toArray, many]
      exact short
    · simpa using vals
    · have z2 : (none : Option HO) = some u := z
      cases z2
  | none =>
    refine main (fun b => if b = a then some (.frz { cls := .type "list", data := .seq vs.toArray } (.lst (ns.map V.int))) else none)
      (fun b => ?_) (.inl (.inr ⟨{ cls := .type "list", data := .seq vs.toArray }, if_pos rfl⟩)) (fun b u z => ?_) (fun b z => ?_) fun _ => hk
    · by_cases eb : b = a
      · exact .inr ⟨_, _, if_pos eb⟩
      · exact .inl (if_neg eb)
    · by_cases eb : b = a
      · have z2 := (if_pos eb).symm.trans z
        cases z2
        subst eb
        exact ⟨obj, by rw [List.length_map]; exact short, vs, _, vals, obj⟩
      · have z2 := (if_neg eb).symm.trans z
        cases z2
    · by_cases eb : b = a
      · exact eb
      · exact absurd (if_neg eb) z

/-- the goal behind the head -/
theorem walkG {l : PySem.W.OpenLaw} {n k : Nat} {q : Program} {loose : List Str} {XP : (Str → Option Value) → Heap → Prop} {YP : World → Heap → Prop} {d : DefRec} {K : Params → PySem.W.Frag} {sp : PySem.W.Frag → Sp} {x : Str}
    (hn : l.most = some n) (hn2 : n ≤ sizeLine) (hdf : d.params.defaults = []) (hrm : Room k callerA)
    (hY : ∀ (w : World) (h : Heap), YP w h → (K w.params).In h)
    (F : ∀ (w : World) (mg : Str → Option Value) (fa : Addr) (h : Heap), (K w.params).In h → h.Ns mainGlobals mg → mg d.name = some (.ref fa) →
      ∃ fd : FuncData, (∀ (s : Shared) (u : Value), BindsTo s fd ⟨[u], []⟩ [(x, u)]) ∧
        ∀ base : Heap, (K w.params).In base → base.Ns mainGlobals mg → FnG l.prog w (K w.params) mg base k fa fd [x] (sp (K w.params)))
    (hsp : ∀ (K : PySem.W.Frag) (H : Hp) (a : Addr) (ns : List Int), ns.length ≤ n → SqL K H a (ns.map V.int) → sp K [.ref a] H (fun v _ => v = .bl true) fun _ _ _ => False) :
    PySem.W.WalkO q loose XP YP l.row.toRowW d [] (fun f vs => PySem.call f vs) := by
  refine Att.attach_call hn hdf fun w s₀ s₁ mg mb fa o pm cd doc a vs ns G Y ho hd hcd hmg hobj hints hlen hg => ?_
  obtain ⟨fd, hb, hF⟩ := F w mg fa _ (hY w _ Y) G.T.g hmg
  exact law_callG (hY w _ Y) G.T.g G.T.b G.T.builtins G.T.nolimit hg hobj hints (Nat.le_trans hlen hn2) hrm hF hb fun H hS => hsp _ H a ns hlen hS

/-! enumerate of a tuple, sum of a tuple -/

/-- behind enumerate(t): the tuple's iterator, the enumerate object -/
def enumSt (s : Shared) (t : Addr) : Shared :=
  { s with heap := Heap.push (s.heap.push { cls := .type "tuple_iterator", data := .fields #[.ref t, .int 0 0] }) { cls := .type "enumerate", data := .fields #[.none, .bool false, .ref s.heap.objs.size, rawInt 0, .none, .none] } }
theorem meets_enumT (t : Addr) (items : Array Value) :
    Meets (Builtin.«enumerate.__new__» ⟨[.type "enumerate", .ref t], []⟩) (fun _ R s => s.heap.IsTuple t items ∧
      R (.ok (.ret (.ref (s.heap.push { cls := .type "tuple_iterator", data := .fields #[.ref t, .int 0 0] }).objs.size)))
        (enumSt s t)) :=
  .of_wp fun prog w A R s h => by
    obtain ⟨hp, g, d, tk, os⟩ := s
    obtain ⟨ht, h⟩ := h
    have sub := sub_enumerate
    have q1 : ∀ {A' : Around} {E : Value → Shared → Prop} {Q : Value → Shared → Prop},
        Q (.ref hp.objs.size) ⟨hp.push { cls := .type "tuple_iterator", data := .fields #[.ref t, .int 0 0] }, g, d, tk, os⟩ →
        wpAny (model prog w) A' (pyIter (.ref t)) Q E ⟨hp, g, d, tk, os⟩ :=
      fun q => wpAny_pyIter_tuple (s := ⟨hp, g, d, tk, os⟩) ht q
    wp_walk using q1
    refine wpAny_stack_any fun st => wpAny_pure ?_
    split
    · rename_i c _ _ _ _ _
      cases (c == Value.type "enumerate") <;> (wp_walk using q1; exact ⟨_, rfl, h⟩)
    · wp_walk using q1
      exact ⟨_, rfl, h⟩

section
variable {prog : Program} {w : World} {A : Around} {E : Value → Shared → Prop} {s : Shared}
theorem call_enumT {l : Addr} {items : Array Value} {Q : Value → Shared → Prop} (hL : s.heap.IsTuple l items)
    (h : ∀ h', IsEnum h' (s.heap.objs.size + 1) s.heap.objs.size 0 .none → h'.IsTupleIter s.heap.objs.size l 0 →
      (∀ b o, s.heap.get? b = some o → h'.get? b = some o) → Q (.ref (s.heap.objs.size + 1)) { s with heap := h' }) :
    wpAny (model prog w) A (call (.type "enumerate") [.ref l]) Q E s := by
  refine callType_new F.called_enumerate (by decide) (F.typeCall_enumerate_1 _) (F.newCall_enumerate_1 _)
    (fun obj => F.args_object_init_2 obj _) F.entry_enumerate_new (meets_enumT l items) ⟨hL, ?_⟩
  have sz : (s.heap.push { cls := .type "tuple_iterator", data := .fields #[.ref l, .int 0 0] }).objs.size = s.heap.objs.size + 1 := Heap.size_push ..
  show _ ∧ _
  rw [sz]
  have got := Heap.get?_push_size (s.heap.push { cls := .type "tuple_iterator", data := .fields #[.ref l, .int 0 0] })
    (o := { cls := .type "enumerate", data := .fields #[.none, .bool false, .ref s.heap.objs.size, rawInt 0, .none, .none] }) rfl
  rw [sz] at got
  have en : IsEnum ((s.heap.push { cls := .type "tuple_iterator", data := .fields #[.ref l, .int 0 0] }).push
      { cls := .type "enumerate", data := .fields #[.none, .bool false, .ref s.heap.objs.size, rawInt 0, .none, .none] })
      (s.heap.objs.size + 1) s.heap.objs.size 0 .none := got
  have itr : Heap.IsTupleIter ((s.heap.push { cls := .type "tuple_iterator", data := .fields #[.ref l, .int 0 0] }).push
      { cls := .type "enumerate", data := .fields #[.none, .bool false, .ref s.heap.objs.size, rawInt 0, .none, .none] }) s.heap.objs.size l 0 :=
    ⟨_, Heap.get?_push_of_some _ (Heap.get?_push_size _ rfl), rfl, rfl⟩
  exact ⟨⟨_, got, rfl⟩, h _ en itr fun b o x => Heap.get?_push_of_some _ (Heap.get?_push_of_some _ x)⟩
end

/-- the tuple at a, each item in a new pair with its place -/
def Iet (K : PySem.W.Frag) (a : Addr) : It :=
  ⟨fun i H => ∃ (xs : List V) (x : V), SqT K H a xs ∧ xs[i]? = some x,
   fun i H v H' => ∃ T x, v = .ref T ∧ H T = none ∧ H' = upd H T (.tup [.int (i : Nat), x]) ∧ ∀ xs, SqT K H a xs → xs[i]? = some x,
   fun i H => ∃ xs : List V, SqT K H a xs ∧ xs.length ≤ i⟩

theorem turn_enumT {P : Program} {w : World} {K : PySem.W.Frag} {elts : List Expr} {kk : Nat} {tpos : Pos} (a e it : Addr) :
    Turn P w K (.Tuple elts kk tpos) (Iet K a) [e, it] e (fun i h => (∃ old, IsEnum h e it ((i : Nat) : Int) old) ∧ h.IsTupleIter it a i ∧ e ≠ it) where
  mem := by simp
  obj := by
    intro i h st b hb
    obtain ⟨⟨old, he⟩, ⟨o, ho, hc, hd⟩, _⟩ := st
    have eb : b = e ∨ b = it := by simpa using hb
    cases eb with
    | inl z =>
      rw [z]
      exact ⟨_, he, fun v q => nomatch q⟩
    | inr z =>
      rw [z]
      refine ⟨o, ho, fun v q => ?_⟩
      rw [hd] at q
      cases q
  keep := fun i h h' st k =>
    let ⟨⟨old, he⟩, hi, hne⟩ := st
    ⟨⟨old, k e (by simp) _ he⟩, hi.at fun o q => k it (by simp) o q, hne⟩
  item := by
    intro X hP hw hK hc i pins s σ H E I hf st hg
    subst hP hw hK
    obtain ⟨⟨old, he⟩, hit, hne⟩ := st
    obtain ⟨xs, x, hq, hx⟩ := hg
    obtain ⟨its, rv, p, hz⟩ := I.tuple hq
    obtain ⟨u, hu, ru⟩ := rv.get hx
    have hel : e < s.heap.objs.size := Heap.lt_size he
    have hil : it < s.heap.objs.size := by
      obtain ⟨_, q, _⟩ := hit
      exact Heap.lt_size q
    have isT : s.heap.IsTuple a its.toArray := p
    have ane : a ≠ it := by
      intro z
      obtain ⟨o1, h1, c1, _⟩ := isT
      obtain ⟨o2, h2, c2, _⟩ := hit
      rw [z, h2] at h1
      cases h1
      rw [c1] at c2
      exact absurd c2 (by decide)
    have aee : e ≠ a := by
      intro z
      obtain ⟨o1, h1, c1, _⟩ := isT
      have h2 : s.heap.get? e = _ := he
      rw [z, h1] at h2
      have c2 : Value.type "tuple" = Value.type "enumerate" := c1.symm.trans (congrArg Obj.cls (Option.some.inj h2))
      exact absurd c2 (by decide)
    have D := Draws.tuple (prog := X.prog) (w := X.w) (A := X.A.in1) (I.ok.hd hc) it a ane its.toArray
    have hlt : i < its.toArray.size := by
      have := (List.getElem?_eq_some_iff.mp hu).1
      simpa using this
    refine wpAny_pyNext_enum_itemD D he ⟨hit, isT⟩ hlt hne (by simp [hne, aee]) fun x' h' tk hP ho hst' hT hsz hk => ?_
    have ex : x' = u := by
      have z : its.toArray[i]? = some x' := hP
      rw [List.getElem?_toArray, hu] at z
      cases z
      rfl
    subst ex
    refine ⟨_, rfl, wpAny_letOwnedTupleGo_enum (s := { s with heap := h', toks := tk + 1 }) ho fun h'' he' sb => ?_⟩
    have hT2 : h''.get? s.heap.objs.size = some { cls := .type "tuple", data := .seq #[.int i tk, x'] } := (sb.2 _ (Nat.ne_of_gt hel)).trans hT
    have new : ObjOk X.prog X.w (upd H s.heap.objs.size (.tup [.int (i : Nat), x])) h'' s.heap.objs.size (.tup [.int (i : Nat), x]) := by
      refine ⟨by show 2 ≤ sizeLine; decide, [.int i tk, x'], ?_, ⟨_, hT2, rfl, _, rfl⟩⟩
      exact .cons ⟨_, rfl⟩ (.cons ru .nil)
    have I1 : Inv X pins σ (upd H s.heap.objs.size (.tup [.int (i : Nat), x])) { s with heap := h'', toks := tk + 1 } := by
      refine I.turnedNew (ch := [e, it]) (fun b ob hb q => ?_) hf (Nat.le_refl _) new
      have b1 : b ≠ e := fun z => hb (by simp [z])
      have b2 : b ≠ it := fun z => hb (by simp [z])
      exact (sb.2 b b1).trans (hk b ob b1 b2 q)
    refine ⟨.ref s.heap.objs.size, _, I1, rfl, ⟨_, x, rfl, I.hok.fresh (Nat.le_refl _), rfl, fun ys hy => ?_⟩, ⟨⟨x', ?_⟩, ?_, hne⟩, fun b hb => ?_⟩
    · rw [I.tuple_inj hy hq]
      exact hx
    · have e1 : ((i + 1 : Nat) : Int) = (i : Int) + 1 := by omega
      rw [e1]
      exact he'
    · exact hst'.1.at fun o q => (sb.2 it (Ne.symm hne)).trans q
    · have small : b < s.heap.objs.size := by
        have eb : b = e ∨ b = it := by simpa using hb
        cases eb with
        | inl z => rw [z]; exact hel
        | inr z => rw [z]; exact hil
      rw [upd_ne (Nat.ne_of_lt small)]
      exact (hf b hb).1
  done := by
    intro X hP hw hK hc i pins s σ H E I hf st hg
    subst hP hw hK
    obtain ⟨⟨old, he⟩, hit, hne⟩ := st
    obtain ⟨xs, hq, hx⟩ := hg
    obtain ⟨its, rv, p, hz⟩ := I.tuple hq
    obtain ⟨f0, f1, f2, f3, f4, f5⟩ := hf it (by simp)
    have isT : s.heap.IsTuple a its.toArray := p
    have hl := rv.length
    -- past the end the iterator's place does not matter: i is at least the length
    have hd : wpAny (model X.prog X.w) X.A (pyNext (.ref e)) (fun r s1 => r = none ∧ Inv X pins σ H s1) E s := by
      have hT : s.TypeIs (.ref e) "enumerate" := ⟨_, he, rfl⟩
      unfold pyNext
      refine wpAny_bind (wpAny_attempt (wpAny_callSpecial?_slot (name := Str.ofString "__next__") hT F.slot_enumerate_next
        (wpAny_call_entry F.slot_enumerate_next hT F.entry_enumerate_next ?_ (F.args_enumerate_next_1 _))))
      show wpAny _ _ (field (.ref e) 2 >>= _) _ _ _
      refine wpAny_bind (wpAny_field he rfl (x := .ref it) rfl ?_)
      refine wpAny_bind (wpAny_nextOf_tuple_end (I.ok.hd hc) hit isT (by simp; omega) fun h' x eb hx' => ?_)
      obtain ⟨o, ho, hcl⟩ := hx'
      refine wpAny_bind (wpAny_isInstance (T := "StopIteration") (b := true) ⟨o, ho, hcl⟩ isSubtype_stop ?_)
      exact wpAny_pure ⟨rfl, I.turned (t' := s.toks) (fun b o hb q => eb b o hb q) f0 f1 f3 f4 f5⟩
    exact hd
  self := fun A i s Q E st h => let ⟨⟨_, he⟩, _⟩ := st; wpAny_pyIter_enum he h

def iEnumT (K : PySem.W.Frag) (ta : TA) : TI := fun σ H R => ta σ H fun vs H1 => ∃ a xs, vs = [.ref a] ∧ SqT K H1 a xs ∧ R (Iet K a) H1
theorem pi_enumT {X : Cx} {e : Expr} {ta : TA} {p pos tpos : Pos} {elts : List Expr} {kk : Nat} (hg : Gl X "enumerate") (hm : X.mg "enumerate" = none) (ha : PA X [e] ta)
    (hs : starEach [e] X.env = [(false, eval e X.env)] := by rfl) :
    PI X (.Tuple elts kk tpos) (.Call (.Name "enumerate" p) [e] [] pos) (iEnumT X.K ta) := by
  refine ⟨fun pins s σ H R I h => ?_⟩
  refine Call_ (ld_blt I hg hm boot_enumerate ?_)
  refine PyProof.Rows.callWith_type1 (thn (ha.run pos pins s σ H _ I h) fun us s1 ⟨vs, H1, I1, r1, q1⟩ => ?_) hs rfl
  obtain ⟨a, xs, ex, hq, q⟩ := q1
  subst ex
  have eu := Vals.ref1 r1
  subst eu
  obtain ⟨its, rv, p', hz⟩ := I1.tuple hq
  refine call_enumT (show s1.heap.IsTuple a its.toArray from p') fun h' he hit hk => wpAny_pyIter_enum he ?_
  have I2 : Inv X pins σ H1 { s1 with heap := h' } := I1.kept (t' := s1.toks) hk
  refine ⟨s1.heap.objs.size + 1, [s1.heap.objs.size + 1, s1.heap.objs.size], _, _, H1, rfl, I2,
    turn_enumT a (s1.heap.objs.size + 1) s1.heap.objs.size, ⟨⟨.none, he⟩, hit, Nat.succ_ne_self _⟩, fun b hb => ?_, q⟩
  have eb : b = s1.heap.objs.size + 1 ∨ b = s1.heap.objs.size := by simpa using hb
  have hle : s1.heap.objs.size ≤ b := by
    cases eb with
    | inl z => rw [z]; exact Nat.le_add_right _ _
    | inr z => rw [z]; exact Nat.le_refl _
  exact I1.fpOk hle (I1.hok.fresh hle)
theorem walk_enumT {K : PySem.W.Frag} {a : Addr} {xs : List V} :
    Walk (Iet K a) xs.length (fun H => SqT K H a xs) (YPair (fun i => some (.int (i : Nat))) (fun i => xs[i]?)) := by
  refine ⟨fun i _ hi q => ⟨xs, xs[i], q, by simp [hi]⟩, fun _ q => ⟨xs, q, Nat.le_refl _⟩, fun i H v H' _ q y => ?_⟩
  obtain ⟨T, x, h1, h2, h3, h4⟩ := y
  exact ⟨T, .int (i : Nat), x, h1, h2, h3, rfl, h4 xs q⟩

section
variable {X : Cx}
def rSumN (K : PySem.W.Frag) : List V → Hp → VK → Prop := fun vs H Q => ∃ (a : Addr) (ns : List Int), vs = [V.ref a] ∧ (SqL K H a (ns.map V.int) ∨ SqT K H a (ns.map V.int)) ∧ Q (.int ns.sum) H
theorem cr_sumN (hc : X.calm = true) : CallR X (.builtin "sum") (rSumN X.K) := by
  intro pins s σ H vs us Q I r h
  obtain ⟨a, ns, rfl, hs, q⟩ := h
  cases hs with
  | inl hs => exact cr_sum hc pins s σ H _ us Q I r ⟨a, ns, rfl, hs, q⟩
  | inr hs =>
    obtain ⟨its, rv, hl, _⟩ := I.tuple hs
    have isT : s.heap.IsTuple a its.toArray := hl
    rw [Vals.ref1 r]
    have hi := rv.ints
    obtain ⟨xs, e⟩ := hi.allInts.items
    have hn : numsOf (intItems xs).toList = ns := by
      rw [← e]
      exact hi.numsOf
    rw [nums_intItems] at hn
    rw [e] at isT
    refine PySem.W.ktm_sumG (I.ok.hd hc) isT fun h' tk t' hk => ⟨.int ns.sum, H, I.kept hk, ?_, q⟩
    refine ⟨t', ?_⟩
    rw [preSum_eq, List.take_of_length_le (by simp), hn]
end

/-! heaps that grow; rules whose readings say it -/

/-! ### relations of heaps -/
def Ex (H H' : Hp) : Prop := ∀ a o, H a = some o → H' a = some o
/-- all but lists are kept -/
def Kp (H H' : Hp) : Prop := ∀ a o, H a = some o → (∀ xs, o ≠ .lst xs) → H' a = some o
theorem Ex.refl (H : Hp) : Ex H H := fun _ _ h => h
theorem Ex.trans {H H1 H2 : Hp} (a : Ex H H1) (b : Ex H1 H2) : Ex H H2 := fun x o h => b x o (a x o h)
theorem Ex.new {H : Hp} {p : Addr} {o : HO} (h : H p = none) : Ex H (upd H p o) := fun a u e => by
  rw [upd_ne (ne_of_none e h)]
  exact e
theorem Ex.kp {H H' : Hp} (e : Ex H H') : Kp H H' := fun a o h _ => e a o h
theorem Ex.free {H H' : Hp} (e : Ex H H') {l : Addr} (h : H' l = none) : H l = none := by
  cases q : H l with
  | none => rfl
  | some o =>
    rw [e l o q] at h
    cases h
theorem Kp.refl (H : Hp) : Kp H H := fun _ _ h _ => h
theorem Kp.trans {H H1 H2 : Hp} (a : Kp H H1) (b : Kp H1 H2) : Kp H H2 := fun x o h n => b x o (a x o h n) n

/-- the draws' list: a figure, a seed, a counter -/
def VatAt (H : Hp) (v : Addr) : Prop := ∃ a b c : Int, H v = some (.lst [.int a, .int b, .int c]) ∧ 0 ≤ a ∧ 0 ≤ b ∧ 0 ≤ c
/-- what calls that draw leave -/
structure Gv (v : Addr) (H H' : Hp) : Prop where
  old : VatAt H v
  keep : ∀ a o, a ≠ v → H a = some o → H' a = some o
  new : VatAt H' v
theorem VatAt.ex {H H' : Hp} {v : Addr} (h : VatAt H v) (e : Ex H H') : VatAt H' v := by
  obtain ⟨a, b, c, h1, h2⟩ := h
  exact ⟨a, b, c, e _ _ h1, h2⟩
theorem Gv.kp {v : Addr} {H H' : Hp} (g : Gv v H H') : Kp H H' := fun a o h n => by
  refine g.keep a o (fun z => ?_) h
  obtain ⟨x, y, w, h1, _⟩ := g.old
  rw [z, h1] at h
  exact n _ (Option.some.inj h).symm
theorem Gv.of {v : Addr} {H H' : Hp} (h : VatAt H v) (e : Ex H H') : Gv v H H' := ⟨h, fun a o _ q => e a o q, h.ex e⟩
theorem Gv.refl {v : Addr} {H : Hp} (h : VatAt H v) : Gv v H H := Gv.of h (Ex.refl H)
theorem Gv.trans {v : Addr} {H H1 H2 : Hp} (a : Gv v H H1) (b : Gv v H1 H2) : Gv v H H2 :=
  ⟨a.old, fun x o n h => b.keep x o n (a.keep x o n h), b.new⟩
theorem Gv.ex {v : Addr} {H H1 H2 : Hp} (a : Gv v H H1) (b : Ex H1 H2) : Gv v H H2 := a.trans (Gv.of a.new b)
/-- where the list is new nothing old is changed -/
theorem Gv.out {v : Addr} {H H1 H2 : Hp} (n : H v = none) (e : Ex H H1) (g : Gv v H1 H2) : Ex H H2 := fun a o h =>
  g.keep a o (fun z => by rw [z, n] at h; cases h) (e a o h)
theorem Gv.lst {v l : Addr} {H H' : Hp} {xs : List V} (g : Gv v H H') (n : l ≠ v) (h : H l = some (.lst xs)) : H' l = some (.lst xs) := g.keep l _ n h

theorem sqT_kp {K : PySem.W.Frag} {H H' : Hp} {a : Addr} {xs : List V} (h : SqT K H a xs) (e : Kp H H') : SqT K H' a xs := by
  rcases h with (h | ⟨o, h⟩) | h
  · exact .inl (.inl (e _ _ h (fun _ z => nomatch z)))
  · exact .inl (.inr ⟨o, e _ _ h (fun _ z => nomatch z)⟩)
  · exact .inr h
theorem sqL_ex {K : PySem.W.Frag} {H H' : Hp} {a : Addr} {xs : List V} (h : SqL K H a xs) (e : Ex H H') : SqL K H' a xs := by
  rcases h with (h | ⟨o, h⟩) | h
  · exact .inl (.inl (e _ _ h))
  · exact .inl (.inr ⟨o, e _ _ h⟩)
  · exact .inr h

/-! ### new objects, told by what they hold -/
section
variable {X : Cx} {f : Value} {g : Value → Value → Sem Value}
theorem CallR.imp {r r' : List V → Hp → VK → Prop} (h : CallR X f r) (hi : ∀ vs H Q, r' vs H Q → r vs H Q) : CallR X f r' :=
  fun pins s σ H xs us Q I rel q => h pins s σ H xs us Q I rel (hi _ _ _ q)
theorem OpR.imp {r r' : R2} (h : OpR X g r) (hi : ∀ x y H Q, r' x y H Q → r x y H Q) : OpR X g r' :=
  fun pins s σ H x y v u Q I rx ry q => h pins s σ H x y v u Q I rx ry (hi _ _ _ _ q)
theorem SlR.imp {r r' : V → Option Int → Option Int → Hp → VK → Prop} (h : SlR X r) (hi : ∀ x lo hi H Q, r' x lo hi H Q → r x lo hi H Q) : SlR X r' :=
  fun pins s σ H x v vl vu lo hi' sl Q I rx hs pl pu q => h pins s σ H x v vl vu lo hi' sl Q I rx hs pl pu (hi _ _ _ _ _ q)

/-- a new object o, all else as it was -/
def New (H : Hp) (o : HO) (Q : VK) : Prop := ∀ p H', H p = none → Ex H H' → H' p = some o → Q (.ref p) H'
theorem New.at {H : Hp} {o : HO} {Q : VK} (h : New H o Q) : ∀ p, H p = none → Q (.ref p) (upd H p o) :=
  fun p n => h p _ n (Ex.new n) upd_same

def nLst (t : TA) : TE := fun σ H Q => t σ H fun xs H1 => xs.length ≤ sizeLine ∧ New H1 (.lst xs) Q
def nTup (t : TA) : TE := fun σ H Q => t σ H fun xs H1 => xs.length ≤ sizeLine ∧ New H1 (.tup xs) Q
end
section
variable {X : Cx} {es : List Expr} {t : TA} {pos : Pos}
/-- a reading closed under what follows from the wanted -/
def tm (t : TA) : TA := fun σ H R => ∃ R0 : List V → Hp → Prop, t σ H R0 ∧ ∀ vs H', R0 vs H' → R vs H'
theorem PA.mon (h : PA X es t) : PA X es (tm t) := by
  refine ⟨fun pos pins s σ H R I ⟨R0, h0, hi⟩ => thn (h.run pos pins s σ H R0 I h0) fun us s' q => ?_⟩
  obtain ⟨vs, H', I', rel, z⟩ := q
  exact ⟨vs, H', I', rel, hi vs H' z⟩
theorem pe_lstN (h : PA X es t) : PE X (.List es pos) (nLst t) :=
  ⟨fun pins s σ H Q I hq => (pe_lst (PA.mon h)).run pins s σ H Q I ⟨_, hq, fun vs H' ⟨z, n⟩ => ⟨z, n.at⟩⟩⟩
theorem pe_tupN {k : Nat} (h : PA X es t) : PE X (.Tuple es k pos) (nTup t) :=
  ⟨fun pins s σ H Q I hq => (pe_tup (PA.mon h)).run pins s σ H Q I ⟨_, hq, fun vs H' ⟨z, n⟩ => ⟨z, n.at⟩⟩⟩

/-- tuple(x) of a list, of a tuple -/
def rTupleN (K : PySem.W.Frag) : List V → Hp → VK → Prop := fun vs H Q => ∃ p ys, vs = [.ref p] ∧ SqL K H p ys ∧ New H (.tup ys) Q
theorem call_tupleN : CallR X (.type "tuple") (rTupleN X.K) :=
  CallR.imp call_tuple_of fun vs H Q ⟨p, ys, e, h, n⟩ => ⟨p, ys, e, .inl ⟨h, n.at⟩⟩
def rListN (K : PySem.W.Frag) : List V → Hp → VK → Prop := fun vs H Q => ∃ p ys, vs = [.ref p] ∧ (SqL K H p ys ∨ SqT K H p ys) ∧ New H (.lst ys) Q
theorem call_list_ofN : CallR X (.type "list") (rListN X.K) :=
  CallR.imp call_list_of fun vs H Q ⟨p, ys, e, h, n⟩ => ⟨p, ys, e, h, n.at⟩
/-- divmod by a positive number below 2 ^ 9000 -/
def rDivmodN : List V → Hp → VK → Prop := fun vs H Q => ∃ i j, vs = [.int i, .int j] ∧ 0 < j ∧ j.natAbs.log2 < 9000 ∧ New H (.tup [.int (i / j), .int (i % j)]) Q
theorem call_divmodN : CallR X (.builtin "divmod") rDivmodN :=
  CallR.imp call_divmodW fun vs H Q ⟨i, j, e, h0, h1, n⟩ => ⟨i, j, e, ⟨h0, PyProof.noPylong_of_log2 h1⟩, n.at⟩
/-- xs + ys, two lists that may be written -/
def rCatN : R2 := fun x y H Q => ∃ l b xs zs, x = .ref l ∧ y = .ref b ∧ H l = some (.lst xs) ∧ H b = some (.lst zs) ∧ xs.length + zs.length ≤ sizeLine ∧ New H (.lst (xs ++ zs)) Q
theorem op_catN : OpR X (binaryOp .Add) rCatN :=
  OpR.imp op_cat fun x y H Q ⟨l, b, xs, zs, e1, e2, h1, h2, z, n⟩ => ⟨l, b, xs, zs, e1, e2, h1, h2, z, n.at⟩
def rRepN : R2 := fun x y H Q => ∃ l k xs, x = .ref l ∧ y = .int k ∧ H l = some (.lst xs) ∧ 0 ≤ k ∧ k < 2 ^ 63 ∧ xs.length * k.toNat ≤ sizeLine ∧ New H (.lst (List.replicate k.toNat xs).flatten) Q
theorem op_repN : OpR X (binaryOp .Mult) rRepN :=
  OpR.imp op_rep fun x y H Q ⟨l, k, xs, e1, e2, h1, h2, h3, z, n⟩ => ⟨l, k, xs, e1, e2, h1, by omega, h3, z, n.at⟩
def rSlN (K : PySem.W.Frag) : V → Option Int → Option Int → Hp → VK → Prop := fun x lo hi H Q => ∃ a xs, x = .ref a ∧ SqL K H a xs ∧ New H (.lst (cutV xs lo hi)) Q
theorem sl_listN : SlR X (rSlN X.K) := SlR.imp sl_list fun x lo hi H Q ⟨a, xs, e, h, n⟩ => ⟨a, xs, e, h, n.at⟩
end

/-! ### data -/
/-- v tells d in H -/
abbrev Is (K : PySem.W.Frag) (H : Hp) (v : V) (d : PyData) : Prop := Dp K H v d
mutual
theorem dp_kp {K : PySem.W.Frag} {H H' : Hp} (e : Ex H H') : ∀ (d : PyData) (v : V), Dp K H v d → Dp K H' v d
  | .none, _, h => by cases h; exact .non
  | .bool _, _, h => by cases h; exact .bl _
  | .int _, _, h => by cases h; exact .int _
  | .str _, _, h => by cases h; exact .str _
  | .list ds, _, h => by
    cases h with
    | lst hs ha => exact .lst (sqL_ex hs e) (dpAll_kp e ds _ ha)
  | .tuple ds, _, h => by
    cases h with
    | tup hs ha => exact .tup (sqT_kp hs e.kp) (dpAll_kp e ds _ ha)
  | .dict _, _, h => by cases h
theorem dpAll_kp {K : PySem.W.Frag} {H H' : Hp} (e : Ex H H') : ∀ (ds : List PyData) (vs : List V), DpAll K H vs ds → DpAll K H' vs ds
  | [], _, h => by cases h; exact .nil
  | d :: ds, _, h => by
    cases h with
    | cons h1 h2 => exact .cons (dp_kp e d _ h1) (dpAll_kp e ds _ h2)
end
theorem dp_ints {K : PySem.W.Frag} {H : Hp} : ∀ ns : List Int, DpAll K H (ns.map V.int) (ns.map PyData.int)
  | [] => .nil
  | _ :: ns => .cons (.int _) (dp_ints ns)
/-- data without lists is kept by all that keeps tuples -/
def noList : PyData → Bool
  | .list _ => false
  | .tuple ds => noLists ds
  | _ => true
where noLists : List PyData → Bool
  | [] => true
  | d :: ds => noList d && noLists ds
mutual
theorem dp_keep {K : PySem.W.Frag} {H H' : Hp} (e : Kp H H') : ∀ (d : PyData) (v : V), noList d = true → Dp K H v d → Dp K H' v d
  | .none, _, _, h => by cases h; exact .non
  | .bool _, _, _, h => by cases h; exact .bl _
  | .int _, _, _, h => by cases h; exact .int _
  | .str _, _, _, h => by cases h; exact .str _
  | .list ds, _, n, _ => by simp [noList] at n
  | .tuple ds, _, n, h => by
    cases h with
    | tup hs ha => exact .tup (sqT_kp hs e) (dpAll_keep e ds _ (by simpa [noList] using n) ha)
  | .dict _, _, _, h => by cases h
theorem dpAll_keep {K : PySem.W.Frag} {H H' : Hp} (e : Kp H H') : ∀ (ds : List PyData) (vs : List V), noList.noLists ds = true → DpAll K H vs ds → DpAll K H' vs ds
  | [], _, _, h => by cases h; exact .nil
  | d :: ds, _, n, h => by
    cases h with
    | cons h1 h2 =>
      simp only [noList.noLists, Bool.and_eq_true] at n
      exact .cons (dp_keep e d _ n.1 h1) (dpAll_keep e ds _ n.2 h2)
end

section
variable {X : Cx}
/-- != of two that tell one and the same -/
def rNeN (K : PySem.W.Frag) : R2 := fun x y H Q => ∃ d, Dp K H x d ∧ Dp K H y d ∧ SeqAt.shaped d = true ∧ Q (.bl false) H
theorem op_neDN (hu : X.A.units + 64 < cLine) : OpR X (compareOp .NotEq) (rNeN X.K) :=
  OpR.imp (op_neD hu) fun x y H Q ⟨d, h1, h2, z, q⟩ => ⟨d, d, h1, h2, z, z, by rw [SeqAt.eqv_refl _ (SeqAt.canLay_of_shaped z)]; exact q⟩
def rEqN (K : PySem.W.Frag) : R2 := fun x y H Q => ∃ d, Dp K H x d ∧ Dp K H y d ∧ SeqAt.shaped d = true ∧ Q (.bl true) H
theorem op_eqDN (hu : X.A.units + 64 < cLine) : OpR X (compareOp .Eq) (rEqN X.K) :=
  OpR.imp (op_eqD hu) fun x y H Q ⟨d, h1, h2, z, q⟩ => ⟨d, d, h1, h2, z, z, by rw [SeqAt.eqv_refl _ (SeqAt.canLay_of_shaped z)]; exact q⟩
end

/-! ### repr -/
mutual
def costD : PyData → Nat
  | .none => 4
  | .bool _ => 5
  | .int _ => 1930
  | .str x => (reprText x).length
  | .list ds => costs ds + 3
  | .tuple ds => costs ds + 3
  | .dict _ => 0
def costs : List PyData → Nat
  | [] => 0
  | d :: ds => costD d + 2 + costs ds
end
theorem listText_len : ∀ ts : List Str, (listText ts).length ≤ piled ts + 2
  | [] => by decide +kernel
  | t :: r => by
    have e1 : ("[" : Str).length = 1 := rfl
    have e2 : ("]" : Str).length = 1 := rfl
    have e3 : ("" : Str).length = 0 := rfl
    unfold listText
    rw [strLen_append]
    show (textFrom (0 + 1) (("[" : Str) ++ (if (0 : Nat) > 0 then ", " else "" : String) ++ t) r).length + _ ≤ _
    rw [textFrom_length_pos _ _ _ (Nat.succ_pos 0), if_neg (by decide), strLen_append, strLen_append, e1, e2, piled_cons]
    show 1 + ("" : Str).length + t.length + piled r + 1 ≤ _
    rw [e3]
    omega
theorem tupleText_len (ts : List Str) : (tupleText ts).length ≤ piled ts + 3 := by
  have e3 : (((if ts.length == 1 then ",)" else ")" : String) : Str)).length ≤ 2 := by split <;> decide +kernel
  have e1 : ("(" : Str).length = 1 := rfl
  unfold tupleText
  rw [strLen_append, strLen_append, e1]
  by_cases h : ts = []
  · subst h
    decide +kernel
  · have := join_length_add ts h
    omega
mutual
theorem shown_cost : ∀ d : PyData, d.showable = true → d.hasDict = false → d.shown.length ≤ costD d
  | .none, _, _ => by decide +kernel
  | .bool b, _, _ => by cases b <;> decide +kernel
  | .int i, h, _ => by
    have h1 : i.natAbs.log2 < 1920 := by simpa [PyData.showable] using h
    have h2 := int_text_length_le (k := 1920) (by decide) h1
    show (Str.ofString (toString i)).length ≤ 1930
    rw [PySem.ofString_length]
    omega
  | .str x, _, _ => Nat.le_refl _
  | .list ds, h, n => by
    have q := showns_cost ds (by simpa [PyData.showable] using h) (by simpa [PyData.hasDict] using n)
    have q2 := listText_len (PyData.shownAll ds)
    show (listText (PyData.shownAll ds)).length ≤ costs ds + 3
    omega
  | .tuple ds, h, n => by
    have q := showns_cost ds (by simpa [PyData.showable] using h) (by simpa [PyData.hasDict] using n)
    have q2 := tupleText_len (PyData.shownAll ds)
    show (tupleText (PyData.shownAll ds)).length ≤ costs ds + 3
    omega
  | .dict _, _, n => by simp [PyData.hasDict] at n
theorem showns_cost : ∀ ds : List PyData, PyData.showableAll ds = true → PyData.hasDictAll ds = false → piled (PyData.shownAll ds) ≤ costs ds
  | [], _, _ => Nat.le_refl _
  | d :: ds, h, n => by
    simp only [PyData.showableAll, Bool.and_eq_true] at h
    simp only [PyData.hasDictAll, Bool.or_eq_false_iff] at n
    have q1 := shown_cost d h.1 n.1
    have q2 := showns_cost ds h.2 n.2
    show piled (d.shown :: PyData.shownAll ds) ≤ costD d + 2 + costs ds
    rw [piled_cons]
    omega
end
section
variable {X : Cx}
/-- repr of data that is a list or a tuple -/
def rRepr (K : PySem.W.Frag) : List V → Hp → VK → Prop := fun vs H Q => ∃ a d, vs = [V.ref a] ∧ Dp K H (.ref a) d ∧ d.showable = true ∧ d.hasDict = false ∧ d.depth ≤ 20 ∧ costD d ≤ sizeLine ∧ Q (.str d.shown) H
theorem cr_repr (hg : X.A.guards = some []) (hu : X.A.units + 64 < cLine) : CallR X (.builtin "repr") (rRepr X.K) := by
  intro pins s σ H vs us Q I r h
  obtain ⟨a, d, rfl, hd, h1, h2, h3, h4, q⟩ := h
  obtain ⟨as, rd⟩ := Dp.reads I d (.ref a) (.ref a) hd rfl
  rw [Vals.ref1 r]
  have sz := shown_cost d h1 h2
  refine repr_of_reads' rd h1 (fun z => ?_) hg (by omega) (fun _ _ e => e) (fun h' u tk hk => ⟨.str d.shown, H, I.kept hk, ⟨u, rfl⟩, q⟩) (by omega)
  rw [h2] at z
  cases z
end

/-! readings run by rewriting -/

def LoopW (J : It) (g : TG) (tb : TS) (D : Ends) (σ : L2.St) (H1 : Hp) : Prop :=
  ∃ W : Nat → Nat → L2.St → Hp → Prop, (∃ m, W 0 m σ H1) ∧ ∀ (i m : Nat) (σ : L2.St) (H : Hp), W i m σ H →
    (J.stop i H ∧ D.nx σ H) ∨ (J.go i H ∧ ∃ N : L2.St → Hp → Prop, (∀ (σ' : L2.St) (H' : Hp), N σ' H' → ∃ m', m' < m ∧ W (i + 1) m' σ' H') ∧
      ∀ (x : V) (H' : Hp), J.yld i H x H' → g x σ H' fun σ2 H2 => tb { nx := N, rt := D.rt, bk := D.nx, ct := N } σ2 H2)
def LcW (J : It) (g : TG) (tt : TT) (te : TE) (vs : List Nat) (σ : L2.St) (H1 : Hp) (D : Addr) (Q : VK) : Prop :=
  ∃ W : Nat → Nat → Hp → Prop, (∃ m, W 0 m (upd H1 D (.lst []))) ∧ ∀ (i m : Nat) (H : Hp), W i m H →
    (J.stop i H ∧ Q (V.ref D) H) ∨ (J.go i H ∧ ∃ Nx : Hp → Prop, (∀ (H' : Hp), Nx H' → ∃ m', m' < m ∧ W (i + 1) m' H') ∧
      ∀ (x : V) (H' : Hp), J.yld i H x H' → g x (wipe σ vs) H' fun σ2 H2 => wipe σ2 vs = wipe σ vs ∧ tt σ2 H2 fun b H3 =>
        if b = true then te σ2 H3 fun y H4 => ∃ acc, H4 D = some (.lst acc) ∧ acc.length < sizeLine ∧ Nx (upd H4 D (.lst (acc ++ [y]))) else Nx H3)
section
variable {X : Cx}
def tmE (t : TE) : TE := fun σ H R => ∃ R0 : VK, t σ H R0 ∧ ∀ v H', R0 v H' → R v H'
theorem PE.mon {e : Expr} {t : TE} (h : PE X e t) : PE X e (tmE t) := by
  refine ⟨fun pins s σ H R I ⟨R0, h0, hi⟩ => thn (h.run pins s σ H R0 I h0) fun u s' q => ?_⟩
  obtain ⟨v, H', I', rel, z⟩ := q
  exact ⟨v, H', I', rel, hi v H' z⟩
def tmT (t : TT) : TT := fun σ H R => ∃ R0 : Bool → Hp → Prop, t σ H R0 ∧ ∀ v H', R0 v H' → R v H'
theorem PT.mon {e : Expr} {t : TT} (h : PT X e t) : PT X e (tmT t) := by
  refine ⟨fun pins s σ H R I ⟨R0, h0, hi⟩ => thn (h.run pins s σ H R0 I h0) fun u s' q => ?_⟩
  obtain ⟨H', I', z⟩ := q
  exact ⟨H', I', hi u H' z⟩
def tCut (t u : TS) : TS := fun D σ H => ∃ Mid : L2.St → Hp → Prop, t { nx := Mid, rt := D.rt, bk := D.bk, ct := D.ct } σ H ∧ ∀ σ' H', Mid σ' H' → u D σ' H'
theorem pss_cut {st : Stmt} {rest : List Stmt} {t u : TS} (h1 : PS X st t) (h2 : PSs X rest u) : PSs X (st :: rest) (tCut t u) := by
  refine ⟨fun pins s σ H D I ⟨Mid, hm, hu⟩ => ?_⟩
  refine wpAny_execs_cons (thn (h1.run pins s σ H { nx := Mid, rt := D.rt, bk := D.bk, ct := D.ct } I hm) fun fl s1 q => ?_)
  cases fl with
  | next =>
    obtain ⟨σ', H', I', z⟩ := q
    exact h2.run pins s1 σ' H' D I' (hu σ' H' z)
  | ret v => exact q
  | brk => exact q
  | cont => exact q
end
section
variable {t u : TS} {D : Ends} {σ : L2.St} {H : Hp} {te ta tb tc : TE} {g : TG} {Q : VK} {tt tu : TT} {K : PySem.W.Frag} {wi : TI} {tx tr : TA} {to th : TO} {R : Bool → Hp → Prop}
theorem r_seq : tSeq t u D σ H = t { nx := u D, rt := D.rt, bk := D.bk, ct := D.ct } σ H := rfl
theorem r_asg : tAsg te g D σ H = te σ H fun x H1 => g x σ H1 D.nx := rfl
theorem r_name {i : Nat} {v : V} {S : L2.St → Hp → Prop} : gName i v σ H S = S (σ.set i (some v)) H := rfl
theorem r_ifS : tIfS tt t u D σ H = tt σ H fun b H1 => if b = true then t D σ H1 else u D σ H1 := rfl
theorem r_next : tNext D σ H = D.nx σ H := rfl
theorem r_ret : tRet te D σ H = te σ H D.rt := rfl
theorem r_retN : tRetN D σ H = D.rt V.non H := rfl
theorem r_drop : tDrop te D σ H = te σ H fun _ H1 => D.nx σ H1 := rfl
theorem r_test : tTest te σ H R = te σ H fun x H1 => ∃ k, x = V.bl k ∧ R k H1 := rfl
theorem r_B : tB te σ H R = te σ H fun x H1 => ∃ k, x = V.bl k ∧ R k H1 := rfl
theorem r_if : tIf tt ta tb σ H Q = tt σ H fun c H1 => if c = true then ta σ H1 Q else tb σ H1 Q := rfl
theorem r_cons {S : List V → Hp → Prop} : tCons ta tx σ H S = ta σ H fun x H1 => tx σ H1 fun xs H2 => S (x :: xs) H2 := rfl
theorem r_nil {S : List V → Hp → Prop} : tNil σ H S = S [] H := rfl
theorem r_cb {r : List V → Hp → VK → Prop} : tCB r tx σ H Q = tx σ H fun vs H1 => r vs H1 Q := rfl
theorem r_tF {sp : Sp} : tF sp tx σ H Q = tx σ H fun vs H1 => sp vs H1 Q E0 := rfl
theorem r_part {S : Option Int → Hp → Prop} : tPart te σ H S = te σ H fun x H1 => ∃ i, x = V.int i ∧ S (some i) H1 := rfl
theorem r_nopart {S : Option Int → Hp → Prop} : tNoPart σ H S = S none H := rfl
theorem r_sl {r : V → Option Int → Option Int → Hp → VK → Prop} : L2.tSl r te to th σ H Q = te σ H fun x H1 => to σ H1 fun l H2 => th σ H2 fun u H3 => r x l u H3 Q := rfl
theorem r_par {i j : Nat} : tPar i j tx D σ H = tx σ H fun vs H1 => ∃ v w, vs = [v, w] ∧ D.nx ((σ.set i (some v)).set j (some w)) H1 := rfl
theorem r_chain {r r' : R2} : tChain r r' ta tb tc σ H Q = ta σ H fun x H1 => tb σ H1 fun y H2 => r x y H2 fun z H3 => ∃ k, z = V.bl k ∧ if k = true then tc σ H3 fun w' H4 => r' y w' H4 Q else Q (V.bl false) H3 := rfl
theorem r_or : tOr tt tu σ H R = tt σ H fun c H1 => if c = true then R true H1 else tu σ H1 R := rfl
theorem r_and : tAnd tt tu σ H R = tt σ H fun c H1 => if c = true then tu σ H1 R else R false H1 := rfl
theorem r_not : tNot tt σ H R = tt σ H fun c H1 => R (!c) H1 := rfl
theorem r_orV : tOrV ta tb σ H Q = ta σ H fun x H1 => ∃ c, x = V.bl c ∧ if c = true then Q (.bl true) H1 else tb σ H1 Q := rfl
theorem r_andV : tAndV ta tb σ H Q = ta σ H fun x H1 => ∃ c, x = V.bl c ∧ if c = true then tb σ H1 Q else Q (.bl false) H1 := rfl
theorem r_notV : tNotV ta σ H Q = ta σ H fun x H1 => ∃ c, x = V.bl c ∧ Q (.bl (!c)) H1 := rfl
theorem r_op {r : R2} : tOp r ta tb σ H Q = ta σ H fun x H1 => tb σ H1 fun y H2 => r x y H2 Q := rfl
theorem r_un {r : V → Hp → VK → Prop} : tUn r ta σ H Q = ta σ H fun x H1 => r x H1 Q := rfl
theorem r_var {i : Nat} : tVar i σ H Q = ∃ v, σ[i]? = some (some v) ∧ Q v H := rfl
theorem r_c {v : V} : tC v σ H Q = Q v H := rfl
theorem r_yes {R : Bool → Hp → Prop} : tYes σ H R = R true H := rfl
theorem r_sfld {tv : TE} {f : Str} : sFld K ta tv f D σ H = tv σ H fun y H1 => ta σ H1 fun x H2 => ∃ a C dx fs, x = V.ref a ∧ H2 a = some (HO.ins C dx fs) ∧ Cls K C ∧ NoAttr K C f ∧ fs.length < 1000 ∧ D.nx σ (upd H2 a (HO.ins C dx (putF f y fs))) := rfl
theorem r_never : tNever D σ H ↔ False := Iff.rfl
theorem r_I0 {f : Int → Int → V} {i j : Int} : rI0 f (.int i) (.int j) H Q ↔ Q (f i j) H := by simp [rI0]
theorem r_I {C : Int → Int → Prop} {f : Int → Int → V} {i j : Int} : rI C f (.int i) (.int j) H Q ↔ C i j ∧ Q (f i j) H := by simp [rI]
theorem r_U {f : Int → V} {i : Int} : rU f (.int i) H Q ↔ Q (f i) H := by simp [rU]
theorem r_eqI {i j : Int} : rEq (.int i) (.int j) H Q ↔ Q (.bl (decide (i = j))) H := by simp [rEq, scal]
theorem r_neI {i j : Int} : rNe (.int i) (.int j) H Q ↔ Q (.bl (!decide (i = j))) H := by simp [rNe, scal]
theorem r_eqS {x y : Str} : rEq (.str x) (.str y) H Q ↔ Q (.bl (decide (x = y))) H := by simp [rEq, scal]
theorem r_neS {x y : Str} : rNe (.str x) (.str y) H Q ↔ Q (.bl (!decide (x = y))) H := by simp [rNe, scal]
theorem r_lst {es : TA} : nLst es σ H Q = es σ H fun xs H1 => xs.length ≤ sizeLine ∧ New H1 (.lst xs) Q := rfl
theorem r_tup {es : TA} : nTup es σ H Q = es σ H fun xs H1 => xs.length ≤ sizeLine ∧ New H1 (.tup xs) Q := rfl
theorem r_for {D : Ends} : tFor wi g t D σ H = wi σ H fun J H1 => LoopW J g t D σ H1 := rfl
theorem r_lc {vs : List Nat} : tLc wi g tt te vs σ H Q = wi σ H fun J H1 => ∀ Dd, H1 Dd = none → LcW J g tt te vs σ H1 Dd Q := rfl
theorem r_list {S : It → Hp → Prop} : iList K te σ H S = te σ H fun x H1 => ∃ a, x = V.ref a ∧ (∃ xs, SqL K H1 a xs) ∧ S (Itl K a) H1 := rfl
theorem r_tupI {S : It → Hp → Prop} : iTup K te σ H S = te σ H fun x H1 => ∃ a, x = V.ref a ∧ (∃ xs, SqT K H1 a xs) ∧ S (Itt K a) H1 := rfl
theorem r_rng1 {S : It → Hp → Prop} : iRng1 tx σ H S = tx σ H fun vs H1 => ∃ j, vs = [V.int j] ∧ -2 ^ 62 ≤ j ∧ j < 2 ^ 62 ∧ S (Itr 0 j.toNat) H1 := rfl
theorem r_rng2 {S : It → Hp → Prop} : iRng2 tx σ H S = tx σ H fun vs H1 => ∃ i j : Int, vs = [.int i, .int j] ∧ (-(2 ^ 62) ≤ i ∧ i < 2 ^ 62 ∧ -(2 ^ 62) ≤ j ∧ j < 2 ^ 62) ∧ S (Itr i (j - i).toNat) H1 := rfl
theorem r_enumT {S : It → Hp → Prop} : iEnumT K tx σ H S = tx σ H fun vs H1 => ∃ a xs, vs = [.ref a] ∧ SqT K H1 a xs ∧ S (Iet K a) H1 := rfl
theorem r_bm {T : String} {r : V → List V → Hp → VK → Prop} : tBM K T r te tx σ H Q = te σ H fun x H1 => tyV K T x H1 ∧ tx σ H1 fun xs H2 => r x xs H2 Q := rfl
theorem r_fld {f : Str} : tFld K ta f σ H Q = ta σ H fun x H1 => ∃ a C dx fs v, x = V.ref a ∧ H1 a = some (HO.ins C dx fs) ∧ Cls K C ∧ NoAttr K C f ∧ List.lookup f fs = some v ∧ Q v H1 := rfl
theorem r_subT {o i : TE} {s : TSet} {v : V} {S : L2.St → Hp → Prop} : gSub o i s v σ H S = o σ H fun x H1 => i σ H1 fun y H2 => s x y v H2 fun H3 => S σ H3 := rfl
theorem r_gtup {n : Nat} {ts : TGs} {v : V} {S : L2.St → Hp → Prop} : gTup K n ts v σ H S = ∃ a xs, v = .ref a ∧ SqT K H a xs ∧ xs.length = n ∧ ts xs σ H S := rfl
theorem r_gcons {ts : TGs} {v : V} {xs : List V} {S : L2.St → Hp → Prop} : gCons g ts (v :: xs) σ H S ↔ g v σ H fun σ' H' => ts xs σ' H' S := by
  constructor
  · rintro ⟨w, r, e, h⟩
    cases e
    exact h
  · exact fun h => ⟨v, xs, rfl, h⟩
theorem r_gnil {S : L2.St → Hp → Prop} : gNil [] σ H S ↔ S σ H := by
  simp [gNil]
section
variable {P : Program} {w : World} {mg : Str → Option Value} {base : Heap} {N : List Str} {q : Str} {sc : Scope} {f : Addr} {cd : Value} {A : Around} {outer : List Env} {s : Shared} {E : XK}
theorem r_K0 : (cxOf CX0 P w K mg base N q sc f cd A outer s H E).K = K := rfl
theorem r_K : (cxOf CX0 P w K mg base N q sc f cd A outer s H E).nox.K = K := rfl
theorem r_Kb {s' : Shared} {H' : Hp} {sc' : Scope} {ce : Env} {fp : List Addr} : (((cxOf CX0 P w K mg base N q sc f cd A outer s H E).nox).blk s' H' sc' ce fp).K = K := rfl
end
/-- loops -/
theorem loopL {a : Addr} {xs : List V} {tb : TS} (Pv : Nat → L2.St → Hp → Prop) (h0 : Pv 0 σ H) (hl : ∀ i σ H, i ≤ xs.length → Pv i σ H → SqL K H a xs)
    (hs : ∀ i x σ H, xs[i]? = some x → Pv i σ H → g x σ H fun σ2 H2 => tb { nx := Pv (i + 1), rt := D.rt, bk := D.nx, ct := Pv (i + 1) } σ2 H2) (hd : ∀ σ H, Pv xs.length σ H → D.nx σ H) : LoopW (Itl K a) g tb D σ H := for_list Pv h0 hl hs hd
theorem loopT {a : Addr} {xs : List V} {tb : TS} (Pv : Nat → L2.St → Hp → Prop) (h0 : Pv 0 σ H) (hl : ∀ i σ H, i ≤ xs.length → Pv i σ H → SqT K H a xs)
    (hs : ∀ i x σ H, xs[i]? = some x → Pv i σ H → g x σ H fun σ2 H2 => tb { nx := Pv (i + 1), rt := D.rt, bk := D.nx, ct := Pv (i + 1) } σ2 H2) (hd : ∀ σ H, Pv xs.length σ H → D.nx σ H) : LoopW (Itt K a) g tb D σ H := for_tup Pv h0 hl hs hd
theorem loopR {lo : Int} {n : Nat} {tb : TS} (Pv : Nat → L2.St → Hp → Prop) (h0 : Pv 0 σ H)
    (hs : ∀ i σ H, i < n → Pv i σ H → g (.int (lo + i)) σ H fun σ2 H2 => tb { nx := Pv (i + 1), rt := D.rt, bk := D.nx, ct := Pv (i + 1) } σ2 H2) (hd : ∀ σ H, Pv n σ H → D.nx σ H) : LoopW (Itr lo n) g tb D σ H := for_range Pv h0 hs hd
theorem loopE {a : Addr} {xs : List V} {tb : TS} (Pv : Nat → L2.St → Hp → Prop) (h0 : Pv 0 σ H) (hl : ∀ i σ H, i ≤ xs.length → Pv i σ H → SqT K H a xs)
    (hs : ∀ i x σ H T H', xs[i]? = some x → Pv i σ H → Ex H H' → H' T = some (.tup [.int (i : Nat), x]) → g (.ref T) σ H' fun σ2 H2 => tb { nx := Pv (i + 1), rt := D.rt, bk := D.nx, ct := Pv (i + 1) } σ2 H2) (hd : ∀ σ H, Pv xs.length σ H → D.nx σ H) : LoopW (Iet K a) g tb D σ H :=
  for_it (walk_enumT (K := K) (a := a) (xs := xs)) Pv h0 hl (fun i v σ H H' hi hp y => by
    obtain ⟨T, x, z, rfl, hn, rfl, h1, h2⟩ := y
    cases h1
    exact hs i z σ H T _ h2 hp (Ex.new hn) upd_same) hd
end

/-! comprehensions; small rules of values -/
section
variable {g : TG} {te : TE} {vs : List Nat} {σ : L2.St} {H1 : Hp} {Dd : Addr} {Q : VK} {K : PySem.W.Frag} {a : Addr} {xs : List V}
/-- the state of a comprehension: what is made so far tells R -/
def LcJ (H1 : Hp) (Dd : Addr) (R : Nat → V → Hp → Prop) (i : Nat) (H : Hp) : Prop :=
  ∃ acc : List V, H Dd = some (.lst acc) ∧ acc.length = i ∧ Ex H1 H ∧ ∀ (j : Nat) y, acc[j]? = some y → R j y H
theorem lcJ_turn {R : Nat → V → Hp → Prop} (hR : ∀ i y H H', Kp H H' → R i y H → R i y H') (hD : H1 Dd = none) {i : Nat} {H H4 : Hp} {y : V}
    (p : LcJ H1 Dd R i H) (e : Ex H H4) (r : R i y H4) (hi : i < 1000000) :
    ∃ acc, H4 Dd = some (.lst acc) ∧ acc.length < sizeLine ∧ LcJ H1 Dd R (i + 1) (upd H4 Dd (.lst (acc ++ [y]))) := by
  obtain ⟨acc, h1, h2, h3, h4⟩ := p
  have k : Kp H4 (upd H4 Dd (.lst (acc ++ [y]))) := fun b o hb n => by
    rw [upd_ne]
    · exact hb
    · intro z
      rw [z, e _ _ h1] at hb
      exact n _ (Option.some.inj hb).symm
  refine ⟨acc, e _ _ h1, Nat.lt_of_lt_of_le (show acc.length < 1000000 by omega) (by decide), acc ++ [y], upd_same, by simp [h2], fun b o hb => ?_, fun j z hz => ?_⟩
  · rw [upd_ne (ne_of_none hb hD)]
    exact e _ _ (h3 _ _ hb)
  · by_cases hj : j < acc.length
    · rw [List.getElem?_append_left hj] at hz
      exact hR _ _ _ _ (e.kp.trans k) (h4 j z hz)
    · have hj2 : j = acc.length := by
        have := (List.getElem?_eq_some_iff.mp hz).1
        rw [List.length_append, List.length_singleton] at this
        omega
      subst hj2
      rw [List.getElem?_append_right (Nat.le_refl _), Nat.sub_self] at hz
      cases hz
      rw [h2]
      exact hR _ _ _ _ k r
theorem lcJ_start {R : Nat → V → Hp → Prop} (hD : H1 Dd = none) : LcJ H1 Dd R 0 (upd H1 Dd (.lst [])) :=
  ⟨[], upd_same, rfl, Ex.new hD, fun j y h => by simp at h⟩
/-- what is wanted behind a comprehension -/
def LcEnd (H1 : Hp) (Dd : Addr) (n : Nat) (R : Nat → V → Hp → Prop) (Q : VK) : Prop :=
  ∀ H ys, Ex H1 H → H Dd = some (.lst ys) → ys.length = n → (∀ (i : Nat) y, ys[i]? = some y → R i y H) → Q (.ref Dd) H
theorem lcL {J0 : Prop} (R : Nat → V → Hp → Prop) (hR : ∀ i y H H', Kp H H' → R i y H → R i y H') (hD : H1 Dd = none) (hx : SqL K H1 a xs) (hz : xs.length ≤ 100000)
    (hs : ∀ (i : Nat) x H, xs[i]? = some x → Ex H1 H → g x (wipe σ vs) H fun σ2 H2 => wipe σ2 vs = wipe σ vs ∧ tmE te σ2 H2 fun y H4 => Ex H H4 ∧ R i y H4)
    (hg : ∀ (i : Nat) x H S S', xs[i]? = some x → (∀ σ2 H2, S σ2 H2 → S' σ2 H2) → g x (wipe σ vs) H S → g x (wipe σ vs) H S')
    (hd : LcEnd H1 Dd xs.length R Q) : LcW (Itl K a) g tYes (tmE te) vs σ H1 Dd Q :=
  lc_list (xs := xs) (LcJ H1 Dd R) (lcJ_start hD) (fun i H _ ⟨_, _, _, e, _⟩ => sqL_ex hx e) (fun i x H hi p => by
    obtain ⟨acc, q1, q2, q3, q4⟩ := id p
    refine hg i x H _ _ hi (fun σ2 H2 ⟨w, z⟩ => ⟨w, ?_⟩) (hs i x H hi q3)
    show tmE te σ2 H2 _
    obtain ⟨R0, z1, z2⟩ := z
    exact ⟨R0, z1, fun y H4 r0 => lcJ_turn hR hD p (z2 y H4 r0).1 (z2 y H4 r0).2 (by have := (List.getElem?_eq_some_iff.mp hi).1; omega)⟩)
    fun H ⟨acc, q1, q2, q3, q4⟩ => hd H acc q3 q1 q2 q4
theorem lcT (R : Nat → V → Hp → Prop) (hR : ∀ i y H H', Kp H H' → R i y H → R i y H') (hD : H1 Dd = none) (hx : SqT K H1 a xs) (hz : xs.length ≤ 100000)
    (hs : ∀ (i : Nat) x H, xs[i]? = some x → Ex H1 H → g x (wipe σ vs) H fun σ2 H2 => wipe σ2 vs = wipe σ vs ∧ tmE te σ2 H2 fun y H4 => Ex H H4 ∧ R i y H4)
    (hg : ∀ (i : Nat) x H S S', xs[i]? = some x → (∀ σ2 H2, S σ2 H2 → S' σ2 H2) → g x (wipe σ vs) H S → g x (wipe σ vs) H S')
    (hd : LcEnd H1 Dd xs.length R Q) : LcW (Itt K a) g tYes (tmE te) vs σ H1 Dd Q :=
  lc_tup (xs := xs) (LcJ H1 Dd R) (lcJ_start hD) (fun i H _ ⟨_, _, _, e, _⟩ => sqT_kp hx e.kp) (fun i x H hi p => by
    obtain ⟨acc, q1, q2, q3, q4⟩ := id p
    refine hg i x H _ _ hi (fun σ2 H2 ⟨w, z⟩ => ⟨w, ?_⟩) (hs i x H hi q3)
    show tmE te σ2 H2 _
    obtain ⟨R0, z1, z2⟩ := z
    exact ⟨R0, z1, fun y H4 r0 => lcJ_turn hR hD p (z2 y H4 r0).1 (z2 y H4 r0).2 (by have := (List.getElem?_eq_some_iff.mp hi).1; omega)⟩)
    fun H ⟨acc, q1, q2, q3, q4⟩ => hd H acc q3 q1 q2 q4
theorem lcR {lo : Int} {n : Nat} {j : Nat} (R : Nat → V → Hp → Prop) (hR : ∀ i y H H', Kp H H' → R i y H → R i y H') (hD : H1 Dd = none) (hz : n ≤ 100000)
    (hw : ∀ x, wipe ((wipe σ vs).set j (some x)) vs = wipe σ vs)
    (hs : ∀ (i : Nat) H, i < n → Ex H1 H → tmE te ((wipe σ vs).set j (some (.int (lo + i)))) H fun y H4 => Ex H H4 ∧ R i y H4)
    (hd : LcEnd H1 Dd n R Q) : LcW (Itr lo n) (gName j) tYes (tmE te) vs σ H1 Dd Q :=
  lc_range (LcJ H1 Dd R) (lcJ_start hD) (fun i H hi p => by
    obtain ⟨acc, q1, q2, q3, q4⟩ := id p
    refine ⟨hw _, ?_⟩
    obtain ⟨R0, z1, z2⟩ := hs i H hi q3
    exact ⟨R0, z1, fun y H4 r0 => lcJ_turn hR hD p (z2 y H4 r0).1 (z2 y H4 r0).2 (by omega)⟩)
    fun H ⟨acc, q1, q2, q3, q4⟩ => hd H acc q3 q1 q2 q4
/-- a name as the target -/
theorem lcLn {j : Nat} (R : Nat → V → Hp → Prop) (hR : ∀ i y H H', Kp H H' → R i y H → R i y H') (hD : H1 Dd = none) (hx : SqL K H1 a xs) (hz : xs.length ≤ 100000)
    (hw : ∀ x, wipe ((wipe σ vs).set j (some x)) vs = wipe σ vs)
    (hs : ∀ (i : Nat) x H, xs[i]? = some x → Ex H1 H → tmE te ((wipe σ vs).set j (some x)) H fun y H4 => Ex H H4 ∧ R i y H4)
    (hd : LcEnd H1 Dd xs.length R Q) : LcW (Itl K a) (gName j) tYes (tmE te) vs σ H1 Dd Q :=
  lcL (J0 := True) R hR hD hx hz (fun i x H hi e => ⟨hw x, hs i x H hi e⟩) (fun _ _ _ _ _ _ h q => h _ _ q) hd
theorem lcTn {j : Nat} (R : Nat → V → Hp → Prop) (hR : ∀ i y H H', Kp H H' → R i y H → R i y H') (hD : H1 Dd = none) (hx : SqT K H1 a xs) (hz : xs.length ≤ 100000)
    (hw : ∀ x, wipe ((wipe σ vs).set j (some x)) vs = wipe σ vs)
    (hs : ∀ (i : Nat) x H, xs[i]? = some x → Ex H1 H → tmE te ((wipe σ vs).set j (some x)) H fun y H4 => Ex H H4 ∧ R i y H4)
    (hd : LcEnd H1 Dd xs.length R Q) : LcW (Itt K a) (gName j) tYes (tmE te) vs σ H1 Dd Q :=
  lcT R hR hD hx hz (fun i x H hi e => ⟨hw x, hs i x H hi e⟩) (fun _ _ _ _ _ _ h q => h _ _ q) hd
end
section
variable {K : PySem.W.Frag} {H : Hp} {Q : VK} {p : Addr} {xs : List V} {i : Int} {v : V}
theorem q_ixL (h : SqL K H p xs) (e : atI xs i = some v) (q : Q v H) : rIxL K (.ref p) (.int i) H Q := ⟨p, xs, i, v, rfl, rfl, h, e, q⟩
theorem q_ixT (h : SqT K H p xs) (e : atI xs i = some v) (q : Q v H) : rIxT K (.ref p) (.int i) H Q := ⟨p, xs, i, v, rfl, rfl, h, e, q⟩
theorem at_int {ns : List Int} {i : Int} (h0 : 0 ≤ i) (h : i < ns.length) : ∃ z, ns[i.toNat]? = some z ∧ atI (ns.map V.int) i = some (.int z) := by
  obtain ⟨n, rfl⟩ := Int.eq_ofNat_of_zero_le h0
  have hn : n < ns.length := by omega
  refine ⟨ns[n], by simp [hn], at_of (j := n) rfl ?_⟩
  simp [hn]
/-- products: both together short, or one of them small -/
def CMulS (i j : Int) : Prop := CMulX i j ∨ CMul i j
theorem op_mulS {X : Cx} : OpR X (binaryOp .Mult) (rI CMulS fun i j => .int (i * j)) := fun pins s σ H x y v u Q I rx ry ⟨i, j, e1, e2, c, q⟩ =>
  c.elim (fun c => op_mulX pins s σ H x y v u Q I rx ry ⟨i, j, e1, e2, c, q⟩) fun c => op_mul pins s σ H x y v u Q I rx ry ⟨i, j, e1, e2, c, q⟩
theorem cmul {i j : Int} (a b : Nat) (ha : i.natAbs < 2 ^ a) (hb : j.natAbs < 2 ^ b) (h : a + b ≤ 134217728 := by decide) : CMulS i j := .inl (mulx_ok ha hb h)
theorem cmulL {i j : Int} (h1 : -(2 ^ 64) < i := by first | decide | omega) (h2 : i < 2 ^ 64 := by first | decide | omega) : CMulS i j := .inr (.inl ⟨h1, h2⟩)
theorem cmulR {i j : Int} (h1 : -(2 ^ 64) < j := by first | decide | omega) (h2 : j < 2 ^ 64 := by first | decide | omega) : CMulS i j := .inr (.inr ⟨h1, h2⟩)
theorem ints_cut {ns : List Int} {lo hi : Option Int} {x : V} (h : x ∈ cutV (ns.map V.int) lo hi) : ∃ z, x = .int z := by
  unfold cutV at h
  have h2 := List.mem_of_mem_drop (List.mem_of_mem_take h)
  obtain ⟨z, _, e⟩ := List.mem_map.mp h2
  exact ⟨z, e.symm⟩
theorem call_intN {X : Cx} : CallR X (.type "int") (fun xs H Q => ∃ i, xs = [V.int i] ∧ Q (.int i) H) :=
  CallR.imp call_int1 fun _ _ _ h => .inl h
theorem r_set {o i v : V} {S : Hp → Prop} : rSetL o i v H S = ∃ p xs k j, o = .ref p ∧ i = .int k ∧ H p = some (.lst xs) ∧ ixN xs.length k = some j ∧ S (upd H p (.lst (xs.set j v))) := rfl
theorem sizeLine_le {n : Nat} (h : n ≤ 1000000) : n ≤ sizeLine := Nat.le_trans h (by decide)
end

/-! fractions in lowest terms are rational numbers; plain counts -/

/-- a fraction as a tuple's items -/
def fr (r : Rat) : List V := [.int r.num, .int ((r.den : Nat) : Int)]
def frD (r : Rat) : PyData := .tuple [.int r.num, .int ((r.den : Nat) : Int)]
/-- both parts below 2 ^ n -/
def sz (r : Rat) (n : Nat) : Prop := r.num.natAbs < 2 ^ n ∧ r.den < 2 ^ n

theorem nac {k : Int} (hk : 0 < k) : ((k.natAbs : Nat) : Int) = k := by omega
theorem div_num {t b : Int} (hb : 0 < b) : ((t : Rat) / (b : Rat)).num = t / ((Int.gcd b t : Nat) : Int) := by
  rw [← Rat.divInt_eq_div, Rat.num_divInt, Int.sign_eq_one_of_pos hb, Int.one_mul]
theorem div_den {t b : Int} (hb : 0 < b) : ((((t : Rat) / (b : Rat)).den : Nat) : Int) = b / ((Int.gcd b t : Nat) : Int) := by
  rw [← Rat.divInt_eq_div, Rat.den_divInt, if_neg (by omega), Int.natCast_ediv, nac hb]
theorem part_eq {t b : Int} (hb : 0 < b) : [V.int (t / ((Int.gcd b t : Nat) : Int)), V.int (b / ((Int.gcd b t : Nat) : Int))] = fr ((t : Rat) / (b : Rat)) := by
  unfold fr
  rw [div_num hb, div_den hb]
theorem natAbs_div_le (t : Int) (g : Nat) : (t / (g : Int)).natAbs ≤ t.natAbs ∨ g = 0 := by
  by_cases h : g = 0
  · exact .inr h
  · left
    have := Int.natAbs_ediv_le_natAbs t (g : Int)
    omega
theorem sz_div {t b : Int} {n : Nat} (hb : 0 < b) (h1 : t.natAbs < 2 ^ n) (h2 : b.natAbs < 2 ^ n) : sz ((t : Rat) / (b : Rat)) n := by
  have q1 := Int.natAbs_ediv_le_natAbs t ((Int.gcd b t : Nat) : Int)
  have q2 := Int.natAbs_ediv_le_natAbs b ((Int.gcd b t : Nat) : Int)
  have e1 := div_num (t := t) hb
  have e2 := div_den (t := t) hb
  constructor
  · rw [e1]
    omega
  · have : (((t : Rat) / (b : Rat)).den) = (b / ((Int.gcd b t : Nat) : Int)).natAbs := by
      rw [← e2]
      simp
    omega
theorem sz_mono {r : Rat} {n m : Nat} (h : sz r n) (e : n ≤ m) : sz r m :=
  ⟨Nat.lt_of_lt_of_le h.1 (Nat.pow_le_pow_right (by decide) e), Nat.lt_of_lt_of_le h.2 (Nat.pow_le_pow_right (by decide) e)⟩
theorem den_pos (r : Rat) : (0 : Int) < ((r.den : Nat) : Int) := by
  have := r.den_pos
  omega
theorem add_parts (s r : Rat) : (((s.num * ((r.den : Nat) : Int) + r.num * ((s.den : Nat) : Int) : Int) : Rat)) / (((((s.den : Nat) : Int) * ((r.den : Nat) : Int) : Int)) : Rat) = s + r := by
  rw [Rat.add_def', Rat.mkRat_eq_div]
  congr 1
theorem mul_parts (s r : Rat) : (((s.num * r.num : Int) : Rat)) / (((((s.den : Nat) : Int) * ((r.den : Nat) : Int) : Int)) : Rat) = s * r := by
  rw [Rat.mul_def', Rat.mkRat_eq_div]
  congr 1
theorem add_lt2 {a b : Int} {n : Nat} (h1 : a.natAbs < 2 ^ n) (h2 : b.natAbs < 2 ^ n) : (a + b).natAbs < 2 ^ (n + 1) := by
  have : (2 : Nat) ^ (n + 1) = 2 ^ n + 2 ^ n := by rw [Nat.pow_succ]; omega
  omega
theorem lt2_mono {a : Int} {n m : Nat} (h : a.natAbs < 2 ^ n) (e : n ≤ m) : a.natAbs < 2 ^ m := Nat.lt_of_lt_of_le h (Nat.pow_le_pow_right (by decide) e)
theorem den_lt {r : Rat} {n : Nat} (h : sz r n) : (((r.den : Nat) : Int)).natAbs < 2 ^ n := by
  have := h.2
  simpa using this
theorem sz_add {s r : Rat} {n m : Nat} (h1 : sz s n) (h2 : sz r m) : sz (s + r) (n + m + 1) := by
  rw [← add_parts]
  refine sz_div (Int.mul_pos (den_pos s) (den_pos r)) ?_ ?_
  · refine add_lt2 (wide_lt h1.1 (den_lt h2)) ?_
    rw [Nat.add_comm]
    exact wide_lt h2.1 (den_lt h1)
  · exact lt2_mono (wide_lt (den_lt h1) (den_lt h2)) (by omega)
theorem sz_mul {s r : Rat} {n m : Nat} (h1 : sz s n) (h2 : sz r m) : sz (s * r) (n + m) := by
  rw [← mul_parts]
  exact sz_div (Int.mul_pos (den_pos s) (den_pos r)) (wide_lt h1.1 h2.1) (wide_lt (den_lt h1) (den_lt h2))
/-- the sum, from the left -/
def sumR (rs : List Rat) : Rat := rs.foldl (· + ·) 0
theorem sumR_take {rs : List Rat} {i : Nat} {r : Rat} (h : rs[i]? = some r) : sumR (rs.take (i + 1)) = sumR (rs.take i) + r := by
  unfold sumR
  rw [List.take_add_one, h]
  simp
theorem sz_sum {n : Nat} : ∀ (rs : List Rat) (i : Nat), (∀ r ∈ rs, sz r n) → i ≤ rs.length → sz (sumR (rs.take i)) (i * (n + 1) + 1)
  | rs, 0, _, _ => by
    have e : 2 ^ (0 * (n + 1) + 1) = 2 := by rw [Nat.zero_mul]
    simp only [List.take_zero]
    unfold sz
    rw [e]
    constructor <;> decide
  | rs, i + 1, h, hi => by
    have hr : rs[i]? = some rs[i] := List.getElem?_eq_getElem (by omega)
    rw [sumR_take hr]
    refine sz_mono (sz_add (sz_sum rs i h (by omega)) (h _ (List.getElem_mem _))) ?_
    rw [Nat.add_mul]
    omega

/-! ### plain counts -/
def gcdL (cs : List Int) : Nat := cs.foldl (fun (g : Nat) c => Int.gcd (g : Int) c) 0
def plainL (cs : List Int) : List Int := cs.map fun c => c / ((gcdL cs : Nat) : Int)
theorem gcdL_take {cs : List Int} {i : Nat} {c : Int} (h : cs[i]? = some c) : gcdL (cs.take (i + 1)) = Int.gcd ((gcdL (cs.take i) : Nat) : Int) c := by
  unfold gcdL
  rw [List.take_add_one, h]
  simp
theorem gcdF_dvd : ∀ (cs : List Int) (g : Nat), cs.foldl (fun (g : Nat) c => Int.gcd (g : Int) c) g ∣ g ∧ ∀ c ∈ cs, ((cs.foldl (fun (g : Nat) c => Int.gcd (g : Int) c) g : Nat) : Int) ∣ c
  | [], g => ⟨Nat.dvd_refl _, fun _ h => by simp at h⟩
  | c :: cs, g => by
    obtain ⟨h1, h2⟩ := gcdF_dvd cs (Int.gcd (g : Int) c)
    have d1 : Int.gcd (g : Int) c ∣ g := by
      have := Int.gcd_dvd_left (a := (g : Int)) (b := c)
      exact Int.ofNat_dvd.mp this
    have d2 : ((Int.gcd (g : Int) c : Nat) : Int) ∣ c := Int.gcd_dvd_right ..
    refine ⟨Nat.dvd_trans h1 d1, fun x hx => ?_⟩
    rcases List.mem_cons.mp hx with rfl | hx
    · exact Int.dvd_trans (Int.ofNat_dvd.mpr h1) d2
    · exact h2 x hx
theorem gcdL_dvd {cs : List Int} {c : Int} (h : c ∈ cs) : ((gcdL cs : Nat) : Int) ∣ c := (gcdF_dvd cs 0).2 c h
theorem dvd_gcdF : ∀ (cs : List Int) (g d : Nat), d ∣ g → (∀ c ∈ cs, (d : Int) ∣ c) → d ∣ cs.foldl (fun (g : Nat) c => Int.gcd (g : Int) c) g
  | [], g, d, h, _ => h
  | c :: cs, g, d, h, hc => by
    refine dvd_gcdF cs _ d ?_ fun x hx => hc x (List.mem_cons_of_mem _ hx)
    exact Int.dvd_gcd (Int.ofNat_dvd.mpr h) (hc c List.mem_cons_self)
theorem dvd_gcdL {cs : List Int} {d : Nat} (h : ∀ c ∈ cs, (d : Int) ∣ c) : d ∣ gcdL cs := dvd_gcdF cs 0 d (Nat.dvd_zero d) h
/-- the common divisor is told by its divisors -/
theorem gcdL_eq {cs : List Int} {g : Nat} (h1 : ∀ c ∈ cs, (g : Int) ∣ c) (h2 : ∀ d : Nat, (∀ c ∈ cs, (d : Int) ∣ c) → d ∣ g) : gcdL cs = g :=
  Nat.dvd_antisymm (h2 _ fun _ hc => gcdL_dvd hc) (dvd_gcdL h1)
theorem gcdL_pos {cs : List Int} (h : ∃ c ∈ cs, c ≠ 0) : 0 < gcdL cs := by
  obtain ⟨c, hc, hn⟩ := h
  apply Nat.pos_of_ne_zero
  intro z
  have := gcdL_dvd hc
  rw [z] at this
  exact hn (Int.zero_dvd.mp this)
theorem gcdL_le {cs : List Int} {c : Int} (hc : c ∈ cs) (h : 0 < c) : ((gcdL cs : Nat) : Int) ≤ c := Int.le_of_dvd h (gcdL_dvd hc)
/-- so many times as great -/
theorem gcdL_scale (cs : List Int) {k : Int} (hk : 0 < k) : ((gcdL (cs.map (k * ·)) : Nat) : Int) = k * ((gcdL cs : Nat) : Int) := by
  have key : gcdL (cs.map (k * ·)) = k.natAbs * gcdL cs := by
    apply gcdL_eq
    · intro c hc
      obtain ⟨x, hx, rfl⟩ := List.mem_map.mp hc
      rw [Int.natCast_mul, nac hk]
      exact Int.mul_dvd_mul_left k (gcdL_dvd hx)
    · intro d hd
      have kd : k.natAbs ∣ gcdL (cs.map (k * ·)) := by
        apply dvd_gcdL
        intro c hc
        obtain ⟨x, hx, rfl⟩ := List.mem_map.mp hc
        rw [nac hk]
        exact Int.dvd_mul_right k x
      obtain ⟨m, hm⟩ := kd
      have hm2 : m ∣ gcdL cs := by
        apply dvd_gcdL
        intro c hc
        have h1 := gcdL_dvd (cs := cs.map (k * ·)) (c := k * c) (List.mem_map.mpr ⟨c, hc, rfl⟩)
        rw [hm, Int.natCast_mul, nac hk] at h1
        exact Int.dvd_of_mul_dvd_mul_left (by omega) h1
      have h3 : d ∣ gcdL (cs.map (k * ·)) := dvd_gcdL hd
      rw [hm] at h3
      exact Nat.dvd_trans h3 (Nat.mul_dvd_mul_left _ hm2)
  rw [key, Int.natCast_mul, nac hk]
theorem plainL_scale (cs : List Int) {k : Int} (hk : 0 < k) : plainL (cs.map (k * ·)) = plainL cs := by
  unfold plainL
  rw [List.map_map, gcdL_scale cs hk]
  apply List.map_congr_left
  intro c _
  exact Int.mul_ediv_mul_of_pos _ _ hk
theorem plainL_len (cs : List Int) : (plainL cs).length = cs.length := List.length_map _
/-- the counts are so many times the plain ones -/
theorem plainL_mul (cs : List Int) : (plainL cs).map (((gcdL cs : Nat) : Int) * ·) = cs := by
  unfold plainL
  rw [List.map_map]
  conv => rhs; rw [← List.map_id cs]
  apply List.map_congr_left
  intro c hc
  exact Int.mul_ediv_cancel' (gcdL_dvd hc)
theorem plainL_plain (cs : List Int) (h : 0 < gcdL cs) : gcdL (plainL cs) = 1 := by
  have e := gcdL_scale (plainL cs) (k := ((gcdL cs : Nat) : Int)) (by omega)
  rw [plainL_mul] at e
  have hp : (0 : Int) < ((gcdL cs : Nat) : Int) := by omega
  have : ((gcdL cs : Nat) : Int) * 1 = ((gcdL cs : Nat) : Int) * ((gcdL (plainL cs) : Nat) : Int) := by rw [Int.mul_one]; exact e
  have := Int.eq_of_mul_eq_mul_left (by omega) this
  omega
theorem plainL_twice (cs : List Int) (h : 0 < gcdL cs) : plainL (plainL cs) = plainL cs := by
  have e := plainL_plain cs h
  conv => lhs; unfold plainL
  rw [show gcdL (List.map (fun c => c / ((gcdL cs : Nat) : Int)) cs) = 1 from e]
  simp [plainL]
/-- counts in one proportion are alike -/
theorem plainL_prop {cs ds : List Int} {a b : Int} (ha : 0 < a) (hb : 0 < b) (h : cs.map (a * ·) = ds.map (b * ·)) : plainL cs = plainL ds := by
  rw [← plainL_scale cs ha, h, plainL_scale ds hb]

/-! data that can be shown and compared -/
/-- d can be laid, shown within c signs, compared; k deep -/
structure Gd (d : PyData) (k c : Nat) : Prop where
  lay : d.canLay0 = true
  sh : d.showable = true
  nd : d.hasDict = false
  dp : d.depth ≤ k
  co : costD d ≤ c
theorem Gd.int {i : Int} (h : i.natAbs.log2 < 1920) : Gd (.int i) 0 1930 :=
  ⟨by simp [PyData.canLay0], by simp [PyData.showable, h], by simp [PyData.hasDict], Nat.le_of_eq (by simp [PyData.depth]), Nat.le_of_eq (by simp [costD])⟩
theorem Gd.bool (b : Bool) : Gd (.bool b) 0 1930 :=
  ⟨by simp [PyData.canLay0], by simp [PyData.showable], by simp [PyData.hasDict], Nat.le_of_eq (by simp [PyData.depth]), by simp [costD]⟩
theorem gds {k c : Nat} : ∀ {ds : List PyData}, (∀ d ∈ ds, Gd d k c) → PyData.canLayAll0 ds = true ∧ PyData.showableAll ds = true ∧ PyData.hasDictAll ds = false ∧ PyData.depthAll ds ≤ k ∧ costs ds ≤ ds.length * (c + 2)
  | [], _ => ⟨by simp [PyData.canLayAll0], by simp [PyData.showableAll], by simp [PyData.hasDictAll], by simp [PyData.depthAll], by simp [costs]⟩
  | d :: ds, h => by
    obtain ⟨h1, h2, h3, h4, h5⟩ := gds fun x hx => h x (List.mem_cons_of_mem _ hx)
    obtain ⟨g1, g2, g3, g4, g5⟩ := h d List.mem_cons_self
    refine ⟨by simp [PyData.canLayAll0, g1, h1], by simp [PyData.showableAll, g2, h2], by simp [PyData.hasDictAll, g3, h3], ?_, ?_⟩
    · simp only [PyData.depthAll]
      omega
    · simp only [costs, List.length_cons]
      rw [Nat.add_mul]
      omega
theorem Gd.tuple {k c n : Nat} {ds : List PyData} (h : ∀ d ∈ ds, Gd d k c) (hn : ds.length ≤ n) : Gd (.tuple ds) (k + 1) (n * (c + 2) + 3) := by
  obtain ⟨h1, h2, h3, h4, h5⟩ := gds h
  refine ⟨by simpa [PyData.canLay0] using h1, by simpa [PyData.showable] using h2, by simpa [PyData.hasDict] using h3, ?_, ?_⟩
  · simp only [PyData.depth]
    omega
  · simp only [costD]
    have := Nat.mul_le_mul_right (c + 2) hn
    omega
theorem Gd.list {k c n : Nat} {ds : List PyData} (h : ∀ d ∈ ds, Gd d k c) (hn : ds.length ≤ n) : Gd (.list ds) (k + 1) (n * (c + 2) + 3) := by
  obtain ⟨h1, h2, h3, h4, h5⟩ := gds h
  refine ⟨by simpa [PyData.canLay0] using h1, by simpa [PyData.showable] using h2, by simpa [PyData.hasDict] using h3, ?_, ?_⟩
  · simp only [PyData.depth]
    omega
  · simp only [costD]
    have := Nat.mul_le_mul_right (c + 2) hn
    omega
theorem Gd.mono {d : PyData} {k c k' c' : Nat} (h : Gd d k c) (hk : k ≤ k') (hc : c ≤ c') : Gd d k' c' := ⟨h.lay, h.sh, h.nd, Nat.le_trans h.dp hk, Nat.le_trans h.co hc⟩
theorem Gd.shaped {d : PyData} {k c : Nat} (h : Gd d k c) (hk : k ≤ 64) : SeqAt.shaped d = true := by
  unfold SeqAt.shaped
  rw [h.lay]
  simp only [Bool.true_and, decide_eq_true_eq]
  exact Nat.le_trans h.dp hk
theorem log1920 {i : Int} (h : i.natAbs < 2 ^ 1900) : i.natAbs.log2 < 1920 := Nat.lt_of_lt_of_le (PySem.Flt.log2_lt_of (k := 1900) (by decide) h) (show 1900 ≤ 1920 by decide)
theorem gd_ints {cs : List Int} {n : Nat} (hn : cs.length ≤ n) (h : ∀ c ∈ cs, c.natAbs < 2 ^ 1900) : Gd (.tuple (cs.map PyData.int)) 1 (n * 1932 + 3) :=
  Gd.tuple (k := 0) (c := 1930) (fun d hd => by
    obtain ⟨c, hc, rfl⟩ := List.mem_map.mp hd
    exact .int (log1920 (h c hc))) (by rw [List.length_map]; exact hn)
theorem gd_fr {r : Rat} (h : sz r 1900) : Gd (frD r) 1 4000 := by
  have g : Gd (.tuple [.int r.num, .int ((r.den : Nat) : Int)]) 1 (2 * (1930 + 2) + 3) :=
    Gd.tuple (k := 0) (c := 1930) (n := 2) (fun d hd => by
      simp only [List.mem_cons, List.not_mem_nil, or_false] at hd
      rcases hd with rfl | rfl
      · exact .int (log1920 h.1)
      · exact .int (log1920 (den_lt h))) (Nat.le_refl 2)
  exact g.mono (Nat.le_refl 1) (by decide)
section
variable {X : Cx}
def rReprG (K : PySem.W.Frag) : List V → Hp → VK → Prop := fun vs H Q => ∃ v d k c, vs = [v] ∧ Dp K H v d ∧ (∃ a, v = V.ref a) ∧ Gd d k c ∧ k ≤ 20 ∧ c ≤ 10000000 ∧ Q (.str d.shown) H
theorem cr_reprG (hg : X.A.guards = some []) (hu : X.A.units + 64 < cLine) : CallR X (.builtin "repr") (rReprG X.K) :=
  CallR.imp (cr_repr hg hu) fun vs H Q ⟨v, d, k, c, e, h, ⟨a, ea⟩, g, hk, hc, q⟩ =>
    ⟨a, d, by rw [e, ea], by rw [← ea]; exact h, g.sh, g.nd, Nat.le_trans g.dp hk, Nat.le_trans g.co (Nat.le_trans hc (by decide)), q⟩
end

/-! ### the rules with the written part named: their readings do not hang on a block -/
section
variable {X : Cx} {K : PySem.W.Frag}
theorem ixL (h : X.K = K := by rfl) : IxR X (rIxL K) := by
  subst h
  exact ix_list
theorem ixT (h : X.K = K := by rfl) : IxR X (rIxT K) := by
  subst h
  exact ix_tup
def rLen (K : PySem.W.Frag) : List V → Hp → VK → Prop := fun xs H Q => ∃ p ys, xs = [.ref p] ∧ (SqL K H p ys ∨ SqT K H p ys) ∧ Q (.int ys.length) H
theorem kLen (h : X.K = K := by rfl) : CallR X (.builtin "len") (rLen K) := by
  subst h
  exact call_len_seq
theorem kSum (hc : X.calm = true) (h : X.K = K := by rfl) : CallR X (.builtin "sum") (rSumN K) := by
  subst h
  exact cr_sumN hc
theorem kAll (hc : X.calm = true) (h : X.K = K := by rfl) : CallR X (.builtin "all") (rAll K) := by
  subst h
  exact cr_all hc
theorem kTuple (h : X.K = K := by rfl) : CallR X (.type "tuple") (rTupleN K) := by
  subst h
  exact call_tupleN
theorem kList (h : X.K = K := by rfl) : CallR X (.type "list") (rListN K) := by
  subst h
  exact call_list_ofN
theorem kRepr (hg : X.A.guards = some []) (hu : X.A.units + 64 < cLine) (h : X.K = K := by rfl) : CallR X (.builtin "repr") (rReprG K) := by
  subst h
  exact cr_reprG hg hu
theorem kIsi (h : X.K = K := by rfl) : CallR X (.builtin "isinstance") (rIsi K) := by
  subst h
  exact call_isi
theorem kNe (hu : X.A.units + 64 < cLine) (h : X.K = K := by rfl) : OpR X (compareOp .NotEq) (rNeN K) := by
  subst h
  exact op_neDN hu
theorem kEq (hu : X.A.units + 64 < cLine) (h : X.K = K := by rfl) : OpR X (compareOp .Eq) (rEqN K) := by
  subst h
  exact op_eqDN hu
theorem slL (h : X.K = K := by rfl) : L2.SlR X (rSlN K) := by
  subst h
  exact sl_listN
theorem kFld {e : Expr} {f : Str} {pos : Pos} {ta : TE} (he : PE X e ta) (hb : attributeBase e f X.env (eval e X.env) = eval e X.env) (h : X.K = K := by rfl) : PE X (.Attribute e f pos) (tFld K ta f) := by
  subst h
  exact pe_fld he hb
theorem r_len {xs : List V} {H : Hp} {Q : VK} : rLen K xs H Q = ∃ p ys, xs = [.ref p] ∧ (SqL K H p ys ∨ SqT K H p ys) ∧ Q (.int ys.length) H := rfl
end

/-! zip of lists and tuples in any order; comb, lcm; words alone; a tuple turned about -/

/-- a list (true) or a tuple -/
def SqB (K : PySem.W.Frag) : Bool → Hp → Addr → List V → Prop
  | true => SqL K
  | false => SqT K
def IsB : Bool → Heap → Addr → Array Value → Prop
  | true => Heap.IsList
  | false => Heap.IsTuple
def ItB : Bool → Heap → Addr → Addr → Nat → Prop
  | true => Heap.IsListIter
  | false => Heap.IsTupleIter
def oB : Bool → Addr → Obj
  | true, l => { cls := .type "list_iterator", data := .fields #[.ref l, .int 0 0] }
  | false, l => { cls := .type "tuple_iterator", data := .fields #[.ref l, .int 0 0] }
theorem sqB_kp {K : PySem.W.Frag} {k : Bool} {H H' : Hp} {a : Addr} {xs : List V} (h : SqB K k H a xs) (e : Ex H H') : SqB K k H' a xs := by
  cases k
  · exact sqT_kp h e.kp
  · exact sqL_ex h e
theorem side {X : Cx} {pins : List (Addr × Obj)} {σ : L2.St} {H : Hp} {s : Shared} {k : Bool} {a : Addr} {xs : List V} (I : Inv X pins σ H s) (h : SqB X.K k H a xs) :
    ∃ its : List Value, Vals xs its ∧ IsB k s.heap a its.toArray ∧ a < s.heap.objs.size := by
  cases k
  · obtain ⟨its, rv, p, _⟩ := I.tuple h
    have p' : s.heap.IsTuple a its.toArray := p
    obtain ⟨_, e, _⟩ := id p'
    exact ⟨its, rv, p', Heap.lt_size e⟩
  · obtain ⟨its, rv, p, _⟩ := I.list h
    exact ⟨its, rv, p.isList, p.lt⟩
theorem sqB_inj {X : Cx} {pins : List (Addr × Obj)} {σ : L2.St} {H : Hp} {s : Shared} {k : Bool} {a : Addr} {xs ys : List V} (I : Inv X pins σ H s) (h : SqB X.K k H a xs) (h2 : SqB X.K k H a ys) : xs = ys := by
  cases k
  · exact I.tuple_inj h h2
  · exact I.list_inj h h2
theorem drawsB {prog : Program} {w : World} {A : Around} (k : Bool) (hh : A.handled = none) (it l : Addr) (hne : l ≠ it) (items : Array Value) :
    Draws prog w A it [it, l] items.size (fun i v => items[i]? = some v) (fun i h => ItB k h it l i ∧ IsB k h l items) := by
  cases k
  · exact Draws.tuple hh it l hne items
  · exact Draws.list hh it l hne items
theorem beginsB (k : Bool) (l : Addr) (items : Array Value) : Begins (.ref l) (oB k l) (fun h => IsB k h l items) := by
  cases k
  · exact begins_tuple l items
  · exact begins_list l items
theorem itB_new {k : Bool} {h : Heap} {it l : Addr} (e : h.get? it = some (oB k l)) : ItB k h it l 0 := by
  cases k
  · exact ⟨_, e, rfl, rfl⟩
  · exact ⟨_, e, rfl, rfl⟩
theorem itB_at {k : Bool} {h h' : Heap} {it l : Addr} {i : Nat} (x : ItB k h it l i) (e : ∀ o, h.get? it = some o → h'.get? it = some o) : ItB k h' it l i := by
  cases k
  · exact Heap.IsTupleIter.at x e
  · exact Heap.IsListIter.at x e
theorem itB_obj {k : Bool} {h : Heap} {it l : Addr} {i : Nat} (x : ItB k h it l i) : ∃ o, h.get? it = some o ∧ ∃ fs, o.data = .fields fs := by
  cases k
  · obtain ⟨o, e, _, d⟩ := x
    exact ⟨o, e, _, d⟩
  · obtain ⟨o, e, _, d⟩ := x
    exact ⟨o, e, _, d⟩
theorem isB_ne {k k2 : Bool} {h : Heap} {a it l : Addr} {i : Nat} {xs : Array Value} (x : IsB k h a xs) (y : ItB k2 h it l i) : a ≠ it := by
  intro z
  subst z
  obtain ⟨o, e, fs, d⟩ := itB_obj y
  cases k
  · obtain ⟨o2, e2, _, _, d2⟩ := x
    rw [e2] at e
    cases e
    rw [d2] at d
    cases d
  · obtain ⟨o2, e2, _, _, d2⟩ := x
    rw [e2] at e
    cases e
    rw [d2] at d
    cases d

/-- both as they stand at each turn, the items in new pairs -/
def ItzB (K : PySem.W.Frag) (k1 k2 : Bool) (a b : Addr) : It :=
  ⟨fun i H => ∃ (xs ys : List V) (x y : V), (SqB K k1 H a xs ∧ SqB K k2 H b ys) ∧ xs[i]? = some x ∧ ys[i]? = some y,
    fun i H v H' => ∃ T x y, v = .ref T ∧ H T = none ∧ H' = upd H T (.tup [x, y]) ∧ (∀ xs, SqB K k1 H a xs → xs[i]? = some x) ∧ ∀ ys, SqB K k2 H b ys → ys[i]? = some y,
    fun i H => ∃ xs ys : List V, (SqB K k1 H a xs ∧ SqB K k2 H b ys) ∧ i = min xs.length ys.length⟩
def zSt (k1 k2 : Bool) (a b z TI TO i1 i2 : Addr) (i : Nat) (h : Heap) : Prop :=
  (IsZip h z TI TO .none ∧ IsTupOf2 h TI (.ref i1) (.ref i2)) ∧ (∃ x y, IsTupOf2 h TO x y) ∧ ItB k1 h i1 a i ∧ ItB k2 h i2 b i
theorem five {c z TI TO i1 i2 : Addr} (h : c ∈ [z, TI, TO, i1, i2]) : c = z ∨ c = TI ∨ c = TO ∨ c = i1 ∨ c = i2 := by
  simpa using h
theorem turn_zipB {P : Program} {w : World} {K : PySem.W.Frag} {elts : List Expr} {kk : Nat} {tpos : Pos} {k1 k2 : Bool} {a b z TI TO i1 i2 : Addr} (S : ZipSep2 z TI TO i1 i2 [i1, a] [i2, b]) :
    Turn P w K (.Tuple elts kk tpos) (ItzB K k1 k2 a b) [z, TI, TO, i1, i2] z (zSt k1 k2 a b z TI TO i1 i2) where
  mem := List.mem_cons_self ..
  obj := by
    intro i h st c hc
    obtain ⟨⟨hz, hTI⟩, ⟨x, y, hTO⟩, h1, h2⟩ := st
    obtain ⟨o1, e1, f1, d1⟩ := itB_obj h1
    obtain ⟨o2, e2, f2, d2⟩ := itB_obj h2
    rcases five hc with q | q | q | q | q <;> subst q
    · exact ⟨_, hz, fun v q => nomatch q⟩
    · exact ⟨_, hTI, fun v q => nomatch q⟩
    · exact ⟨_, hTO, fun v q => nomatch q⟩
    · refine ⟨o1, e1, fun v q => ?_⟩
      rw [d1] at q
      cases q
    · refine ⟨o2, e2, fun v q => ?_⟩
      rw [d2] at q
      cases q
  keep := by
    intro i h h' st k
    obtain ⟨⟨hz, hTI⟩, ⟨x, y, hTO⟩, h1, h2⟩ := st
    exact ⟨⟨k _ (by simp) _ hz, k _ (by simp) _ hTI⟩, ⟨x, y, k _ (by simp) _ hTO⟩, itB_at h1 fun o q => k _ (by simp) o q, itB_at h2 fun o q => k _ (by simp) o q⟩
  item := by
    intro X hP hw hK hc i pins s σ H E I hf st hg
    subst hP hw hK
    obtain ⟨⟨hz, hTI⟩, ⟨x0, y0, hTO⟩, h1, h2⟩ := st
    obtain ⟨xs, ys, x, y, ⟨qx, qy⟩, hx, hy⟩ := hg
    obtain ⟨us, rx, px, _⟩ := side I qx
    obtain ⟨vs, ry, py, _⟩ := side I qy
    have hzl : z < s.heap.objs.size := Heap.lt_size hz
    have lx : i < us.toArray.size := by
      have := (List.getElem?_eq_some_iff.mp hx).1
      have := rx.length
      simp
      omega
    have ly : i < vs.toArray.size := by
      have := (List.getElem?_eq_some_iff.mp hy).1
      have := ry.length
      simp
      omega
    have hh : X.A.in1.handled = none := I.ok.hd hc
    have D1 := drawsB (prog := X.prog) (w := X.w) k1 hh i1 a (isB_ne px h1) us.toArray
    have D2 := drawsB (prog := X.prog) (w := X.w) k2 hh i2 b (isB_ne py h2) vs.toArray
    refine wpAny_pyNext_zipD2_item S D1 D2 hz hTI hTO (show _ ∧ _ from ⟨h1, px⟩) (show _ ∧ _ from ⟨h2, py⟩) lx ly
      fun u v h' tk pu pv z' TO' s1' s2' hT hsz hk => ?_
    obtain ⟨u', eu, ru⟩ := rx.get hx
    obtain ⟨v', ev, rv⟩ := ry.get hy
    have eu2 : us.toArray[i]? = some u := pu
    have ev2 : vs.toArray[i]? = some v := pv
    rw [List.getElem?_toArray, eu] at eu2
    rw [List.getElem?_toArray, ev] at ev2
    cases eu2
    cases ev2
    refine ⟨_, rfl, wpAny_letOwnedTupleGo_zip (s := { s with heap := h', toks := tk }) z' fun h'' z'' sb => ?_⟩
    have away : ∀ c, c ≠ z → ∀ o, h'.get? c = some o → h''.get? c = some o := fun c n o q => (sb.2 c n).trans q
    have nT : s.heap.objs.size ≠ z := Nat.ne_of_gt hzl
    have new : ObjOk X.prog X.w (upd H s.heap.objs.size (.tup [x, y])) h'' s.heap.objs.size (.tup [x, y]) := by
      refine ⟨show 2 ≤ sizeLine by decide, [u, v], ?_, ⟨_, away _ nT _ hT, rfl, _, rfl⟩⟩
      exact .cons ru (.cons rv .nil)
    have I1 : Inv X pins σ (upd H s.heap.objs.size (.tup [x, y])) { s with heap := h'', toks := tk } := by
      refine I.turnedNew (t' := tk) (ch := [z, TI, TO, i1, i2]) (fun c o hb q => ?_) hf (Nat.le_refl _) new
      have nz : c ≠ z := fun e => hb (by simp [e])
      refine away c nz o (hk c o nz ?_ ?_ ?_ q)
      · exact fun e => hb (by simp [e])
      · exact fun e => hb (by simp [e])
      · exact fun e => hb (by simp [e])
    refine ⟨.ref s.heap.objs.size, _, I1, rfl, ⟨_, x, y, rfl, I.hok.fresh (Nat.le_refl _), rfl, fun l hl => ?_, fun l hl => ?_⟩, ⟨⟨z'', ?_⟩, ⟨u, v, away _ S.TOz _ TO'⟩, ?_, ?_⟩, fun c hcm => ?_⟩
    · rw [sqB_inj I hl qx]
      exact hx
    · rw [sqB_inj I hl qy]
      exact hy
    · exact away _ S.TIz _ (hk _ _ S.TIz S.TITO S.TIi1 S.TIi2 hTI)
    · exact itB_at s1'.1 fun o q => away _ (Ne.symm S.zi1) o q
    · exact itB_at s2'.1 fun o q => away _ (Ne.symm S.zi2) o q
    · have hlt : c < s.heap.objs.size := by
        obtain ⟨o1, e1, _⟩ := itB_obj h1
        obtain ⟨o2, e2, _⟩ := itB_obj h2
        rcases five hcm with q | q | q | q | q <;> subst q
        · exact hzl
        · exact Heap.lt_size hTI
        · exact Heap.lt_size hTO
        · exact Heap.lt_size e1
        · exact Heap.lt_size e2
      rw [upd_ne (Nat.ne_of_lt hlt)]
      exact (hf c hcm).1
  done := by
    intro X hP hw hK hc i pins s σ H E I hf st hg
    subst hP hw hK
    obtain ⟨⟨hz, hTI⟩, ⟨x0, y0, hTO⟩, h1, h2⟩ := st
    obtain ⟨xs, ys, ⟨qx, qy⟩, hi⟩ := hg
    obtain ⟨us, rx, px, _⟩ := side I qx
    obtain ⟨vs, ry, py, _⟩ := side I qy
    have lx : xs.length = us.toArray.size := by rw [List.size_toArray]; exact rx.length
    have ly : ys.length = vs.toArray.size := by rw [List.size_toArray]; exact ry.length
    have hh : X.A.in1.handled = none := I.ok.hd hc
    have D1 := drawsB (prog := X.prog) (w := X.w) k1 hh i1 a (isB_ne px h1) us.toArray
    have D2 := drawsB (prog := X.prog) (w := X.w) k2 hh i2 b (isB_ne py h2) vs.toArray
    refine wpAny_pyNext_zipD2_end (i := i) S D1 D2 hz hTI hTO (show _ ∧ _ from ⟨h1, px⟩) (show _ ∧ _ from ⟨h2, py⟩) (by omega) (by omega) (by omega)
      fun h' tk hk => ⟨rfl, ?_⟩
    refine I.turnedL (t' := tk) (ch := [z, TI, TO, i1, i2]) (fun c o hb q => hk c o ?_ ?_ ?_ ?_ q) hf
    · exact fun e => hb (by simp [e])
    · exact fun e => hb (by simp [e])
    · exact fun e => hb (by simp [e])
    · exact fun e => hb (by simp [e])
  self := fun A i s Q E st h => wpAny_pyIter_zip st.1.1 h

def iZipB (K : PySem.W.Frag) (ta : TA) : TI := fun σ H R => ta σ H fun vs H1 => ∃ k1 k2 a b xs ys, vs = [.ref a, .ref b] ∧ SqB K k1 H1 a xs ∧ SqB K k2 H1 b ys ∧ R (ItzB K k1 k2 a b) H1
theorem pi_zipB {X : Cx} {e e2 : Expr} {ta : TA} {p pos tpos : Pos} {elts : List Expr} {kk : Nat} (hg : Gl X "zip") (hm : X.mg "zip" = none) (ha : PA X [e, e2] ta)
    (hs : starEach [e, e2] X.env = (false, eval e X.env) :: starEach [e2] X.env := by rfl) (hpl : (backTo pos (starEach [e2] X.env)).any (·.1) = false := by rfl) :
    PI X (.Tuple elts kk tpos) (.Call (.Name "zip" p) [e, e2] [] pos) (iZipB X.K ta) := by
  refine ⟨fun pins s σ H R I h => ?_⟩
  refine Call_ (ld_blt I hg hm PyProof.Rows.boot_zip ?_)
  refine PyProof.Rows.callWith_type1 (thn (ha.run pos pins s σ H _ I h) fun us s1 ⟨vs, H1, I1, r1, q1⟩ => ?_) hs hpl
  obtain ⟨k1, k2, a, b, xs, ys, ex, qx, qy, q⟩ := q1
  subst ex
  cases r1 with
  | cons r rr =>
    cases rr with
    | cons r' rr =>
      cases rr
      cases r
      cases r'
      obtain ⟨ws, rx, px, la⟩ := side I1 qx
      obtain ⟨zs, ry, py, lb⟩ := side I1 qy
      refine zip_begins2 (beginsB k1 a ws.toArray) (beginsB k2 b zs.toArray) px py fun h' hz hTI hTO o1 o2 hsz hk => wpAny_pyIter_zip hz ?_
      have I2 : Inv X pins σ H1 { s1 with heap := h' } := I1.kept (t' := s1.toks) hk
      have S := zip_sep2 (N := s1.heap.objs.size) (fp1 := [a]) (fp2 := [b]) (by simpa using la) (by simpa using lb)
      refine ⟨_, _, _, _, H1, rfl, I2, turn_zipB (k1 := k1) (k2 := k2) S, ⟨⟨hz, hTI⟩, ⟨_, _, hTO⟩, itB_new o1, itB_new o2⟩, fun c hcm => ?_, q⟩
      have hle : s1.heap.objs.size ≤ c := by
        rcases five hcm with e | e | e | e | e <;> subst e
        · exact Nat.le_add_right _ _
        · exact Nat.le_add_right _ _
        · exact Nat.le_add_right _ _
        · exact Nat.le_refl _
        · exact Nat.le_add_right _ _
      exact I1.fpOk hle (I1.hok.fresh hle)
theorem walk_zipB {K : PySem.W.Frag} {k1 k2 : Bool} {a b : Addr} {xs ys : List V} {n : Nat} (hn : n = min xs.length ys.length) :
    Walk (ItzB K k1 k2 a b) n (fun H => SqB K k1 H a xs ∧ SqB K k2 H b ys) (YPair (fun i => xs[i]?) (fun i => ys[i]?)) := by
  subst hn
  refine ⟨fun i _ hi q => ?_, fun _ q => ⟨xs, ys, q, rfl⟩, fun i H v H' _ q y => ?_⟩
  · have h1 : i < xs.length := by omega
    have h2 : i < ys.length := by omega
    exact ⟨xs, ys, xs[i], ys[i], q, by simp [h1], by simp [h2]⟩
  · obtain ⟨T, x, z, h1, h2, h3, h4, h5⟩ := y
    exact ⟨T, x, z, h1, h2, h3, h4 xs q.1, h5 ys q.2⟩
theorem kZip {X : Cx} {K : PySem.W.Frag} {e e2 : Expr} {ta : TA} {p pos tpos : Pos} {elts : List Expr} {kk : Nat} (hg : Gl X "zip") (hm : X.mg "zip" = none) (ha : PA X [e, e2] ta) (h : X.K = K := by rfl)
    (hs : starEach [e, e2] X.env = (false, eval e X.env) :: starEach [e2] X.env := by rfl) (hpl : (backTo pos (starEach [e2] X.env)).any (·.1) = false := by rfl) :
    PI X (.Tuple elts kk tpos) (.Call (.Name "zip" p) [e, e2] [] pos) (iZipB K ta) := by
  subst h
  exact pi_zipB hg hm ha hs hpl
theorem kEnumT {X : Cx} {K : PySem.W.Frag} {e : Expr} {ta : TA} {p pos tpos : Pos} {elts : List Expr} {kk : Nat} (hg : Gl X "enumerate") (hm : X.mg "enumerate" = none) (ha : PA X [e] ta) (h : X.K = K := by rfl)
    (hs : starEach [e] X.env = [(false, eval e X.env)] := by rfl) :
    PI X (.Tuple elts kk tpos) (.Call (.Name "enumerate" p) [e] [] pos) (iEnumT K ta) := by
  subst h
  exact pi_enumT hg hm ha hs

section
variable {g : TG} {te : TE} {vs : List Nat} {σ : L2.St} {H H1 : Hp} {Dd : Addr} {Q : VK} {K : PySem.W.Frag} {D : Ends}
/-! ### targets pass what is wanted on -/
def GMono (g : TG) : Prop := ∀ v σ H S S', (∀ σ2 H2, S σ2 H2 → S' σ2 H2) → g v σ H S → g v σ H S'
def GsMono (g : TGs) : Prop := ∀ v σ H S S', (∀ σ2 H2, S σ2 H2 → S' σ2 H2) → g v σ H S → g v σ H S'
theorem gm_name {i : Nat} : GMono (gName i) := fun _ _ _ _ _ h q => h _ _ q
theorem gm_nil : GsMono gNil := fun _ _ _ _ _ h q => ⟨q.1, h _ _ q.2⟩
theorem gm_cons {t : TG} {u : TGs} (a : GMono t) (b : GsMono u) : GsMono (gCons t u) := fun _ σ H S S' h ⟨v, r, e, q⟩ =>
  ⟨v, r, e, a _ _ _ _ _ (fun σ2 H2 z => b _ _ _ _ _ h z) q⟩
theorem gm_tup {n : Nat} {t : TGs} (a : GsMono t) : GMono (gTup K n t) := fun _ σ H S S' h ⟨p, xs, e, q, l, z⟩ => ⟨p, xs, e, q, l, a _ _ _ _ _ h z⟩
/-! ### loops and comprehensions over pairs -/
theorem loopZ {k1 k2 : Bool} {a b : Addr} {xs ys : List V} {n : Nat} {tb : TS} (hn : n = min xs.length ys.length) (Pv : Nat → L2.St → Hp → Prop) (h0 : Pv 0 σ H) (hl : ∀ i σ H, i ≤ n → Pv i σ H → SqB K k1 H a xs ∧ SqB K k2 H b ys)
    (hs : ∀ i x y σ H T H', xs[i]? = some x → ys[i]? = some y → Pv i σ H → Ex H H' → H' T = some (.tup [x, y]) → g (.ref T) σ H' fun σ2 H2 => tb { nx := Pv (i + 1), rt := D.rt, bk := D.nx, ct := Pv (i + 1) } σ2 H2)
    (hd : ∀ σ H, Pv n σ H → D.nx σ H) : LoopW (ItzB K k1 k2 a b) g tb D σ H :=
  for_it (walk_zipB hn) Pv h0 hl (fun i v σ H H' hi hp y => by
    obtain ⟨T, x, z, rfl, hn, rfl, h1, h2⟩ := y
    exact hs i x z σ H T _ h1 h2 hp (Ex.new hn) upd_same) hd
theorem lcP {J : It} {n : Nat} {G : Hp → Prop} {fx fy : Nat → Option V} (w : Walk J n G (YPair fx fy)) (R : Nat → V → Hp → Prop) (hR : ∀ i y H H', Kp H H' → R i y H → R i y H') (hD : H1 Dd = none) (hG : ∀ H, Ex H1 H → G H) (hz : n ≤ 100000)
    (hm : GMono g)
    (hs : ∀ (i : Nat) x y T H, i < n → fx i = some x → fy i = some y → Ex H1 H → H T = some (.tup [x, y]) → g (.ref T) (wipe σ vs) H fun σ2 H2 => wipe σ2 vs = wipe σ vs ∧ tmE te σ2 H2 fun y H4 => Ex H H4 ∧ R i y H4)
    (hd : LcEnd H1 Dd n R Q) : LcW J g tYes (tmE te) vs σ H1 Dd Q :=
  lc_it (Qd := fun H => Q (.ref Dd) H) w (LcJ H1 Dd R) (lcJ_start hD) (fun i H _ ⟨_, _, _, e, _⟩ => hG H e) (fun i v H H' hi p y => by
    obtain ⟨T, x, z, rfl, hn, rfl, h1, h2⟩ := y
    obtain ⟨acc, q1, q2, q3, q4⟩ := id p
    have e : Ex H (upd H T (.tup [x, z])) := Ex.new hn
    refine hm _ _ _ _ _ (fun σ2 H2 ⟨w, u⟩ => ⟨w, ?_⟩) (hs i x z T _ hi h1 h2 (q3.trans e) upd_same)
    show tmE te σ2 H2 _
    obtain ⟨R0, z1, z2⟩ := u
    exact ⟨R0, z1, fun y H4 r0 => lcJ_turn hR hD p (e.trans (z2 y H4 r0).1) (z2 y H4 r0).2 (by omega)⟩)
    fun H ⟨acc, q1, q2, q3, q4⟩ => hd H acc q3 q1 q2 q4
/-- over enumerate of a tuple -/
theorem lcE {a : Addr} {xs : List V} (R : Nat → V → Hp → Prop) (hR : ∀ i y H H', Kp H H' → R i y H → R i y H') (hD : H1 Dd = none) (hx : SqT K H1 a xs) (hz : xs.length ≤ 100000) (hm : GMono g)
    (hs : ∀ (i : Nat) y T H, xs[i]? = some y → Ex H1 H → H T = some (.tup [.int (i : Nat), y]) → g (.ref T) (wipe σ vs) H fun σ2 H2 => wipe σ2 vs = wipe σ vs ∧ tmE te σ2 H2 fun y H4 => Ex H H4 ∧ R i y H4)
    (hd : LcEnd H1 Dd xs.length R Q) : LcW (Iet K a) g tYes (tmE te) vs σ H1 Dd Q :=
  lcP (walk_enumT (K := K) (a := a) (xs := xs)) R hR hD (fun H e => sqT_kp hx e.kp) hz hm (fun i x y T H _ h1 h2 e t => by
    cases h1
    exact hs i y T H h2 e t) hd
theorem lcZ {k1 k2 : Bool} {a b : Addr} {xs ys : List V} {n : Nat} (hn : n = min xs.length ys.length) (R : Nat → V → Hp → Prop) (hR : ∀ i y H H', Kp H H' → R i y H → R i y H') (hD : H1 Dd = none)
    (hx : SqB K k1 H1 a xs) (hy : SqB K k2 H1 b ys) (hz : n ≤ 100000) (hm : GMono g)
    (hs : ∀ (i : Nat) x y T H, xs[i]? = some x → ys[i]? = some y → Ex H1 H → H T = some (.tup [x, y]) → g (.ref T) (wipe σ vs) H fun σ2 H2 => wipe σ2 vs = wipe σ vs ∧ tmE te σ2 H2 fun y H4 => Ex H H4 ∧ R i y H4)
    (hd : LcEnd H1 Dd n R Q) : LcW (ItzB K k1 k2 a b) g tYes (tmE te) vs σ H1 Dd Q :=
  lcP (walk_zipB hn) R hR hD (fun H e => ⟨sqB_kp hx e, sqB_kp hy e⟩) hz hm (fun i x y T H _ h1 h2 e t => hs i x y T H h1 h2 e t) hd
theorem r_zipB {tx : TA} {S : It → Hp → Prop} : iZipB K tx σ H S = tx σ H fun vs H1 => ∃ k1 k2 a b xs ys, vs = [.ref a, .ref b] ∧ SqB K k1 H1 a xs ∧ SqB K k2 H1 b ys ∧ S (ItzB K k1 k2 a b) H1 := rfl
end

/-! ### comb, lcm -/
theorem fp_abs {n : Int} {c : Nat} (h0 : 0 ≤ n) (hn : n.natAbs ≤ 2 ^ c) (k : Nat) : (k : Int) ≤ n → (Builtin.Math.fallingProduct n k).natAbs ≤ 2 ^ (c * k) := by
  induction k with
  | zero =>
    intro _
    rw [PySem.W.mc_fp_zero]
    simp
  | succ k ih =>
    intro h
    rw [PySem.W.mc_fp_succ, Int.natAbs_mul, Nat.mul_succ, Nat.pow_add]
    have h1 := ih (by omega)
    have h2 : (n - (k : Int)).natAbs ≤ 2 ^ c := by omega
    exact Nat.mul_le_mul h1 h2
theorem lg {m c : Nat} (h : m ≤ 2 ^ c) (hc : c < 100000000) : m.log2 < bitsLine := by
  have p : 0 < 2 ^ c := Nat.two_pow_pos c
  have h2 : m < 2 ^ (c + 1) := by
    rw [Nat.pow_succ]
    omega
  by_cases h0 : m = 0
  · subst h0
    show (0 : Nat).log2 < 2 ^ 27
    decide +kernel
  have := (Nat.log2_lt h0).mpr h2
  show m.log2 < 2 ^ 27
  omega
/-- the numbers that comb is asked for -/
def CombOk (a b : Int) : Prop := 0 ≤ a ∧ 0 ≤ b ∧ b ≤ 8 ∧ a < 2 ^ 300
theorem gives_comb {a b : Int} (t u : Tok) (h : CombOk a b) : Gives (Builtin.«math.comb» ⟨[.int a t, .int b u], []⟩) (.int (PySem.W.mcComb a b)) := by
  obtain ⟨ha, hb, hs, hl⟩ := h
  by_cases h : b > a
  · rw [PySem.W.mcComb_above h]
    exact PySem.W.mc_run_comb0 a t b u (by omega) (by omega) h
  · have hm : min b (a - b) ≤ 8 := by omega
    have hm0 : 0 ≤ min b (a - b) := by omega
    have hq : PySem.W.mcComb a b = Builtin.Math.fallingProduct a (min b (a - b)).toNat / Builtin.Math.fallingProduct (min b (a - b)) (min b (a - b)).toNat := PySem.W.mcComb_at hb (by omega) rfl
    have h1 : (Builtin.Math.fallingProduct a (min b (a - b)).toNat).natAbs ≤ 2 ^ (300 * (min b (a - b)).toNat) := fp_abs ha (by omega) _ (by omega)
    have h2 : (PySem.W.mcComb a b).natAbs ≤ (Builtin.Math.fallingProduct a (min b (a - b)).toNat).natAbs := by
      rw [hq]
      exact Int.natAbs_ediv_le_natAbs _ _
    have hs : (PySem.W.mcComb a b).natAbs.log2 < bitsLine := lg (Nat.le_trans h2 h1) (by omega)
    have h3 : ¬min b (a - b) > Builtin.Math.maxSsize := by show ¬min b (a - b) > 2 ^ 63 - 1; omega
    have h4 : ¬min b (a - b) > Builtin.Math.manyFactors := by show ¬min b (a - b) > 20000; omega
    rw [hq] at hs ⊢
    exact PySem.W.mc_run_comb a t b u (by omega) (by omega) h h3 h4 (by omega) hs
section
variable {X : Cx}
def rComb : List V → Hp → VK → Prop := fun vs H Q => ∃ a b : Int, vs = [.int a, .int b] ∧ CombOk a b ∧ Q (.int (PySem.W.mcComb a b)) H
theorem cr_comb : CallR X (.builtin "math.comb") rComb := by
  intro pins s σ H vs us Q I r h
  obtain ⟨a, b, rfl, ok, q⟩ := h
  obtain ⟨t, u, rfl⟩ := Vals.int2 r
  exact call_function_meets PySem.W.MGF.kind_comb PySem.W.MGF.plain_comb PySem.W.MGF.entry_comb (PySem.W.MGF.args_comb _ _) (gives_comb t u ok).meets ⟨.int _, H, I.tok _, ⟨_, rfl⟩, q⟩
def rLcm : List V → Hp → VK → Prop := fun vs H Q => ∃ a b : Int, vs = [.int a, .int b] ∧ a.natAbs < 2 ^ 13000 ∧ b.natAbs < 2 ^ 13000 ∧ Q (.int ((Nat.lcm a.natAbs b.natAbs : Nat) : Int)) H
theorem log_le {m c : Nat} (h : m < 2 ^ c) : m.log2 ≤ c := by
  by_cases h0 : m = 0
  · subst h0
    exact Nat.zero_le _
  exact Nat.le_of_lt ((Nat.log2_lt h0).mpr h)
theorem lcm_le (m n : Nat) : m.lcm n ≤ m * n := Nat.div_le_self _ _
theorem cr_lcm : CallR X (.builtin "math.lcm") rLcm := by
  intro pins s σ H vs us Q I r h
  obtain ⟨a, b, rfl, la, lb, q⟩ := h
  obtain ⟨t, u, rfl⟩ := Vals.int2 r
  have hl : (Nat.lcm a.natAbs b.natAbs) ≤ 2 ^ 26000 := by
    have h1 := lcm_le a.natAbs b.natAbs
    have h2 := Nat.mul_le_mul (Nat.le_of_lt la) (Nat.le_of_lt lb)
    rw [← Nat.pow_add] at h2
    exact Nat.le_trans h1 h2
  have h1 : (max 1 a.natAbs).log2 ≤ 13000 := log_le (by
    have : 1 < 2 ^ 13000 := Nat.one_lt_two_pow (by decide)
    omega)
  have h2 : (max a.natAbs b.natAbs).log2 ≤ 13000 := log_le (by omega)
  have e : Nat.lcm 1 a.natAbs = a.natAbs := PySem.W.mc_lcm_one _
  have g := PySem.W.mg_run_lcm a t b u (by omega) (by omega) (by rw [e]; exact lg hl (by decide))
  rw [e] at g
  exact call_function_meets PySem.W.MGF.kind_lcm PySem.W.MGF.plain_lcm PySem.W.MGF.entry_lcm (PySem.W.MGF.args_lcm _ _) g.meets ⟨.int _, H, I.tok _, ⟨_, rfl⟩, q⟩

/-! ### words alone -/
/-- the written values put in the parameters' order: ix tells for each parameter which of them -/
def arr {α : Type} (ix : List Nat) (ws : List α) : List α := ix.filterMap (ws[·]?)
theorem arr_vals {zs : List V} {ws : List Value} (r : Vals zs ws) : ∀ ix : List Nat, Vals (arr ix zs) (arr ix ws)
  | [] => .nil
  | i :: ix => by
    have ih := arr_vals r ix
    unfold arr at ih ⊢
    have hl := r.length
    cases h : zs[i]? with
    | none =>
      have h2 : ws[i]? = none := by
        rw [List.getElem?_eq_none_iff] at h ⊢
        omega
      rw [List.filterMap_cons, List.filterMap_cons, h, h2]
      exact ih
    | some z =>
      obtain ⟨u, hu, ru⟩ := r.get h
      rw [List.filterMap_cons, List.filterMap_cons, h, hu]
      exact .cons ru ih
def KwOk (fd : FuncData) (ps ks : List Str) (ix : List Nat) : Prop := ∀ (s : Shared) (ws : List Value), ws.length = ks.length → BindsTo s fd ⟨[], ks.zip ws⟩ (ps.zip (arr ix ws))
def HasW (P : Program) (w : World) (K : PySem.W.Frag) (mg : Str → Option Value) (base : Heap) (x : Str) (k : Nat) (ps : List Str) (sp : Sp) (ks : List Str) (ix : List Nat) : Prop :=
  ∃ f fd, FnOk P w K mg base CX0 k f fd ps sp ∧ mg x = some (.ref f) ∧ PySem.W.keepIn K (.ref f) = true ∧ KwOk fd ps ks ix
/-- the def st of the text, called by words -/
def DfW (K : PySem.W.Frag) (mg : Str → Option Value) (x : Str) (st : Stmt) (ps ks : List Str) (ix : List Nat) : Prop :=
  ∃ f fd, Fun K x x st f fd ∧ mg x = some (.ref f) ∧ KwOk fd ps ks ix
theorem HasW.of {P : Program} {w : World} {K : PySem.W.Frag} {mg : Str → Option Value} {base : Heap} {x : Str} {st : Stmt} {ps ks : List Str} {ix : List Nat} {k : Nat} {sp : Sp} (D : DfW K mg x st ps ks ix)
    (h : ∀ f fd, Fun K x x st f fd → FnOk P w K mg base CX0 k f fd ps sp) : HasW P w K mg base x k ps sp ks ix := by
  obtain ⟨f, fd, F, hm, hb⟩ := D
  exact ⟨f, fd, h f fd F, hm, F.kp, hb⟩
def tW (sp : Sp) (m : Nat) (ix : List Nat) (tk : TA) : TE := fun σ H Q => tk σ H fun zs H1 => zs.length = m ∧ sp (arr ix zs) H1 Q E0
theorem pe_hasW {x : Str} {k : Nat} {ps ks : List Str} {ix : List Nat} {sp : Sp} {p pos : Pos} {kws : List Keyword} {tk : TA}
    (h : HasW X.prog X.w X.K X.mg X.base x k ps sp ks ix) (hr : Room k X.A) (hkw : PK X kws tk) (hg : Gl X x := by rfl)
    (hdb : (x == ("__debug__" : Str)) = false := by decide)
    (hall : (backToKw pos (keywordEach kws X.env)).all (·.1.isSome) = true := by rfl) (hks : (backToKw pos (keywordEach kws X.env)).filterMap (·.1) = ks := by rfl)
    (hpl : ((backTo pos (starEach [] X.env)).any (·.1) || (backToKw pos (keywordEach kws X.env)).any (·.1.isNone)) = false := by rfl) :
    PE X (.Call (.Name x p) [] kws pos) (tW sp ks.length ix tk) := by
  obtain ⟨f, fd, F, hm, hk, hb⟩ := h
  refine ⟨fun pins s σ H Q I h => ?_⟩
  apply wpAny_Call_Name_kw (ld_glob I hg hm ?_ hdb)
  apply PySem.W.callWith_KW0 (h₀ := X.base) I.ok.mod.kin hk hall ?_ hpl
  refine thn (hkw.run pos pins s σ H _ I h) fun ws s2 ⟨zs, H2, I2, rz, l, hsp⟩ => ⟨I2.kIn, ?_⟩
  rw [hks]
  have r2 := arr_vals rz ix
  have bnd := hb s2 ws (by rw [← rz.length]; exact l)
  refine wpAny_call (codeAny_mono (F.run X.A X.stack s2 H2 ⟨[], ks.zip ws⟩ (arr ix ws) (arr ix zs) Q E0 hr I2.env0 bnd r2 hsp) fun r s' hc => ?_)
  cases r with
  | error er => exact ((pass0 (X := X)) pins σ H2 s2 er s' I2 hc)
  | ok fl =>
    cases fl with
    | ret u => exact I2.after hc
    | next => exact hc.elim
    | brk => exact hc.elim
    | cont => exact hc.elim
theorem r_tW {sp : Sp} {m : Nat} {ix : List Nat} {tk : TA} {σ : L2.St} {H : Hp} {Q : VK} : tW sp m ix tk σ H Q = tk σ H fun zs H1 => zs.length = m ∧ sp (arr ix zs) H1 Q E0 := rfl
end

/-! ### a tuple turned about -/
theorem fm_congr {α β : Type} {f g : α → Option β} : ∀ {l : List α}, (∀ x ∈ l, f x = g x) → l.filterMap f = l.filterMap g
  | [], _ => rfl
  | a :: l, h => by
    rw [List.filterMap_cons, List.filterMap_cons, h a (List.mem_cons_self ..), fm_congr fun x hx => h x (List.mem_cons_of_mem _ hx)]
theorem rev_pick (xs : Array Value) : ((List.range xs.size).filterMap fun (m : Nat) => xs[(((xs.size : Int) - 1) + (m : Int) * (-1)).toNat]?).toArray = xs.toList.reverse.toArray := by
  congr 1
  apply List.ext_getElem?
  intro i
  have e : (List.range xs.size).filterMap (fun (m : Nat) => xs[(((xs.size : Int) - 1) + (m : Int) * (-1)).toNat]?) = (List.range xs.size).filterMap (fun m => xs.toList.reverse[m]?) := by
    apply fm_congr
    intro m hm
    replace hm := List.mem_range.mp hm
    have z : (((xs.size : Int) - 1) + (m : Int) * (-1)).toNat = xs.size - 1 - m := by omega
    rw [z, List.getElem?_reverse (by simpa using hm)]
    simp
  rw [e]
  have : (List.range xs.size).filterMap (fun m => xs.toList.reverse[m]?) = xs.toList.reverse := by
    have h : ∀ (l : List Value), (List.range l.length).filterMap (fun m => l[m]?) = l := by
      intro l
      induction l with
      | nil => rfl
      | cons a l ih =>
        rw [List.length_cons, List.range_succ_eq_map, List.filterMap_cons]
        simp only [List.getElem?_cons_zero, List.filterMap_map]
        congr 1
    have h2 := h xs.toList.reverse
    rw [List.length_reverse, Array.length_toList] at h2
    exact h2
  rw [this]
section
variable {prog : Program} {w : World} {A : Around} {E : Value → Shared → Prop} {s : Shared}
theorem adjust_rev (n : Nat) : Builtin.Slice.sliceAdjust none none (-1) (n : Int) = ((n : Int) - 1, -1) := by
  unfold Builtin.Slice.sliceAdjust
  simp
theorem places_rev (n : Nat) : Builtin.Slice.slicePlaces ((n : Int) - 1) (-1) (-1) = n := by
  unfold Builtin.Slice.slicePlaces
  have h1 : ¬ ((-1 : Int) > 0) := by omega
  rw [if_neg h1]
  split
  · have : ((n : Int) - 1 - -1 - 1) / (- -1) = (n : Int) - 1 := by
      rw [show (- -1 : Int) = 1 by decide, Int.ediv_one]
      omega
    rw [this]
    omega
  · omega
theorem item_rev {t sl : Addr} {items : Array Value} {vl vu vs : Value} {Q : Value → Shared → Prop} (ht : IsTup s.heap t items) (hs : s.heap.IsSliceOf sl vl vu vs) (pl : IsPart vl none) (pu : IsPart vu none) (ps : IsPart vs (some (-1)))
    (h : Q (.ref s.heap.objs.size) { s with heap := s.heap.push { cls := .type "tuple", data := .seq items.toList.reverse.toArray } })
    (hsz : items.size ≤ sizeLine) : wpAny (model prog w) A (getItem (.ref t) (.ref sl)) Q E s := by
  have hok : sizeOk (.seq items.toList.reverse.toArray) := by
    show items.toList.reverse.toArray.size ≤ sizeLine
    simpa using hsz
  obtain ⟨os, hos, hcs, hds⟩ := id hs
  have hTs : s.TypeIs (.ref sl) "slice" := ⟨os, hos, hcs⟩
  have hTt : s.TypeIs (.ref t) "tuple" := let ⟨o, ho, hc, _⟩ := ht; ⟨o, ho, hc⟩
  unfold getItem
  try with_reducible refine wpAny_holding ?_
  first | refine wpAny_bind (wpAny_pure ?_) | skip
  refine wpAny_bind (wpAny_sequenceKey hTt (by decide) ?_)
  apply wpAny_bind
  apply wpAny_callSpecial?_slot (name := Str.ofString "__getitem__") hTt PyProof.Rows.slot_tuple_getitem
  apply wpAny_call_entry PyProof.Rows.slot_tuple_getitem hTt PyProof.Rows.entry_tuple_getitem ?_ (PyProof.Rows.args_tuple_getitem _ _)
  show wpAny _ _ (Builtin.Tuple.tupleItemsOf (.ref t) >>= _) _ _ s
  refine wpAny_bind (tupleItemsOf_ ht ?_)
  refine wpAny_bind (wpAny_typeOf hTs ?_)
  rw [if_pos (by decide)]
  apply wpAny_bind
  unfold Builtin.Slice.sliceApplied Builtin.Slice.sliceFields
  apply wpAny_bind
  refine wpAny_bind (wpAny_field hos hds (x := vl) rfl ?_)
  refine wpAny_bind (wpAny_field hos hds (x := vu) rfl ?_)
  refine wpAny_bind (wpAny_field hos hds (x := vs) rfl (wpAny_pure ?_))
  refine wpAny_bind (HT.slicePart_ ps ?_)
  show wpAny _ _ (if ((-1 : Int) == 0) = true then _ else _) _ _ s
  rw [if_neg (by decide)]
  refine wpAny_bind (HT.slicePart_ pl ?_)
  refine wpAny_bind (HT.slicePart_ pu ?_)
  refine wpAny_bind (wpAny_pure ?_)
  show wpAny _ _ (match Builtin.Slice.sliceAdjust none none (-1) (items.size : Int) with | (lo, hi) => pure (lo, (-1 : Int), Builtin.Slice.slicePlaces lo hi (-1))) _ _ s
  rw [adjust_rev]
  show wpAny _ _ (pure ((items.size : Int) - 1, (-1 : Int), Builtin.Slice.slicePlaces ((items.size : Int) - 1) (-1) (-1))) _ _ s
  rw [places_rev]
  refine wpAny_pure ?_
  have no : ¬ ((((items.size : Int) - 1 == 0) && ((-1 : Int) == 1) && (items.size == items.size)) = true) := by
    intro q
    rw [Bool.and_eq_true, Bool.and_eq_true] at q
    exact absurd q.1.2 (by decide)
  show wpAny _ _ (if (((items.size : Int) - 1 == 0) && ((-1 : Int) == 1) && (items.size == items.size)) = true then _ else _) _ _ s
  rw [if_neg no, rev_pick]
  first
    | exact wpAny_bind (m := Builtin.Tuple.tupleExact _) (wpAny_newObj_type (wpAny_pure ⟨_, rfl, wpAny_pure h⟩) hok)
    | exact wpAny_bind (m := Builtin.Tuple.tupleExact _) (wpAny_newObj_type (wpAny_bind (wpAny_pure (wpAny_pure ⟨_, rfl, wpAny_pure h⟩))) hok)
    | exact wpAny_bind (wpAny_bind (m := Builtin.Tuple.tupleExact _) (wpAny_newObj_type (wpAny_pure (wpAny_pure ⟨_, rfl, wpAny_pure h⟩)) hok))
    | exact wpAny_bind (wpAny_bind (m := Builtin.Tuple.tupleExact _) (wpAny_newObj_type (wpAny_pure ⟨_, rfl, wpAny_pure h⟩) hok))
end
section
variable {X : Cx}
def tRevT (K : PySem.W.Frag) (te : TE) : TE := fun σ H Q => te σ H fun x H1 => ∃ a xs, x = .ref a ∧ SqT K H1 a xs ∧ New H1 (.tup xs.reverse) Q
theorem pe_revT {e : Expr} {te : TE} {k : Nat} {p1 p2 p3 pos : Pos} (he : PE X e te) : PE X (.Subscript e (.Slice none none (some (.UnaryOp .USub (.Constant (.int 1) k p1) p2)) p3) pos) (tRevT X.K te) := by
  refine ⟨fun pins s σ H Q I h => ?_⟩
  refine Subscript_ (thn (he.run pins s σ H _ I h) fun v s1 ⟨x, H1, I1, r1, q1⟩ => ?_)
  obtain ⟨a, xs, ex, hx, q⟩ := q1
  subst ex
  cases r1
  have hst : PO X (some (.UnaryOp .USub (.Constant (.int 1) k p1) p2)) (tPart (tUn (rU fun i => .int (-i)) (tC (.int 1)))) := po_some (pe_un un_neg pe_int)
  apply wpAny_Slice
  refine thn (po_none.run pins s1 σ H1 (fun o H2 => o = none ∧ H2 = H1) I1 ⟨rfl, rfl⟩) fun vl s2 ⟨l, H2, I2, pl, el, e2⟩ => ?_
  cases el
  cases e2
  refine thn (po_none.run pins s2 σ H1 (fun o H2 => o = none ∧ H2 = H1) I2 ⟨rfl, rfl⟩) fun vu s3 ⟨u, H3, I3, pu, eu, e3⟩ => ?_
  cases eu
  cases e3
  refine thn (hst.run pins s3 σ H1 (fun o H2 => o = some (-1) ∧ H2 = H1) I3 ⟨1, rfl, -1, rfl, rfl, rfl⟩) fun vs s4 ⟨o, H4, I4, ps, eo, e4⟩ => ?_
  cases eo
  cases e4
  let so : Obj := { cls := .type "slice", data := .fields #[vl, vu, vs] }
  have I5 : Inv X pins σ H1 { s4 with heap := s4.heap.push so } := I4.kept (t' := s4.toks) fun b ob q => Heap.get?_push_of_some _ q
  obtain ⟨its, r, ht, hz⟩ := I5.tuple hx
  have hlen := r.length
  have hT : ({ s4 with heap := s4.heap.push so } : Shared).TypeIs (.ref a) "tuple" := let ⟨o, ho, hc, _⟩ := ht; ⟨o, ho, hc⟩
  show wpAny (model X.prog X.w) X.A (subscriptTail e (.Slice none none (some (.UnaryOp .USub (.Constant (.int 1) k p1) p2)) p3) (.ref a) (.ref s4.heap.objs.size)) (EP X pins σ Q) X.xe { s4 with heap := s4.heap.push so }
  refine tail_any (ops := [.ref a, .ref s4.heap.objs.size]) hT PyProof.Rows.slot_tuple_getitem.lookup ?_ (by with_unfolding_all rfl)
  refine item_rev ht (Heap.IsSliceOf.new _ vl vu vs) pl pu ps ?_ (by rw [List.size_toArray]; omega)
  refine ⟨.ref _, _, I5.laid (t' := s4.toks) (o := .tup xs.reverse) (fun b ob q => Heap.get?_push_of_some _ q) (Nat.le_refl _) ?_, rfl, ?_⟩
  · exact ⟨by rw [List.length_reverse]; omega, _, by simpa using r.reverse, IsTup.new _ _⟩
  · exact q.at _ (I5.hok.fresh (Nat.le_refl _))
theorem kRevT {K : PySem.W.Frag} {e : Expr} {te : TE} {k : Nat} {p1 p2 p3 pos : Pos} (he : PE X e te) (h : X.K = K := by rfl) : PE X (.Subscript e (.Slice none none (some (.UnaryOp .USub (.Constant (.int 1) k p1) p2)) p3) pos) (tRevT K te) := by
  subst h
  exact pe_revT he
theorem r_revT {K : PySem.W.Frag} {te : TE} {σ : L2.St} {H : Hp} {Q : VK} : tRevT K te σ H Q = te σ H fun x H1 => ∃ a xs, x = .ref a ∧ SqT K H1 a xs ∧ New H1 (.tup xs.reverse) Q := rfl
end
section
variable {P : Program} {w : World} {K : PySem.W.Frag} {mg : Str → Option Value} {base : Heap} {N : List Str} {q : Str} {sc : Scope} {f : Addr} {cd : Value} {A : Around} {outer : List Env} {s : Shared} {H : Hp} {E : XK}
theorem r_Kbb {s' s2 : Shared} {H' H2 : Hp} {sc' sc2 : Scope} {ce ce2 : Env} {fp fp2 : List Addr} : ((((cxOf CX0 P w K mg base N q sc f cd A outer s H E).nox).blk s' H' sc' ce fp).blk s2 H2 sc2 ce2 fp2).K = K := rfl
end

/-! ### ways to choose, small -/
def chs : Nat → Nat → Nat
  | _, 0 => 1
  | 0, _ + 1 => 0
  | n + 1, k + 1 => chs n k + chs n (k + 1)
theorem comb_chs {a b : Nat} (ha : a < 6) (hb : b < 6) : PySem.W.mcComb (a : Int) (b : Int) = ((chs a b : Nat) : Int) := by
  have h : ∀ a < 6, ∀ b < 6, PySem.W.mcComb ((a : Nat) : Int) ((b : Nat) : Int) = ((chs a b : Nat) : Int) := by decide +kernel
  exact h a ha b hb
theorem chs_le {a b : Nat} (ha : a < 6) (hb : b < 6) : chs a b ≤ 10 := by
  have h : ∀ a < 6, ∀ b < 6, chs a b ≤ 10 := by decide +kernel
  exact h a ha b hb
theorem chs_pos {a b : Nat} (ha : a < 6) (hb : b ≤ a) : 0 < chs a b := by
  have h : ∀ a < 6, ∀ b < a + 1, 0 < chs a b := by decide +kernel
  exact h a ha b (by omega)
theorem comb_ok {a b : Nat} (ha : a < 6) (hb : b < 6) : CombOk (a : Int) (b : Int) := ⟨by omega, by omega, by omega, by omega⟩
/-! ### all-yes chances -/
def hitsL (ps : List Int) (j : Nat) : List Int := ps.mapIdx fun k c => c * ((chs k j : Nat) : Int)
def ay (ps : List Int) (j : Nat) : Rat := (((hitsL ps j).sum : Int) : Rat) / ((ps.sum * ((chs (ps.length - 1) j : Nat) : Int) : Int) : Rat)
/-! ### blending -/
abbrev Zs := List (List Int × Rat)
def denW (z : List Int × Rat) : Int := z.1.sum * ((z.2.den : Nat) : Int)
def botF (zs : Zs) : Nat := zs.foldl (fun B z => Nat.lcm B (denW z).natAbs) 1
def wgt (B : Nat) (z : List Int × Rat) : Int := z.2.num * ((B : Int) / denW z)
def colW (B : Nat) (k : Nat) (zs : Zs) : List Int := zs.map fun z => wgt B z * z.1.getD k 0
def blendL (m : Nat) (zs : Zs) : List Int := (List.range m).map fun k => (colW (botF zs) k zs).sum
theorem botF_take {zs : Zs} {i : Nat} {z : List Int × Rat} (h : zs[i]? = some z) : botF (zs.take (i + 1)) = Nat.lcm (botF (zs.take i)) (denW z).natAbs := by
  unfold botF
  rw [List.take_add_one, h]
  simp
theorem lcm0 {a b : Nat} (ha : 0 < a) (hb : 0 < b) : 0 < Nat.lcm a b := Nat.lcm_pos ha hb
theorem botG (zs : Zs) : ∀ (B : Nat), 0 < B → (∀ z ∈ zs, 0 < denW z) → 0 < zs.foldl (fun B z => Nat.lcm B (denW z).natAbs) B ∧ B ∣ zs.foldl (fun B z => Nat.lcm B (denW z).natAbs) B ∧ ∀ z ∈ zs, (denW z).natAbs ∣ zs.foldl (fun B z => Nat.lcm B (denW z).natAbs) B := by
  induction zs with
  | nil => exact fun B h _ => ⟨h, Nat.dvd_refl _, fun r h => by simp at h⟩
  | cons z zs ih =>
    intro B hB hz
    have hd := hz z (List.mem_cons_self ..)
    obtain ⟨h1, h2, h3⟩ := ih (Nat.lcm B (denW z).natAbs) (lcm0 hB (by omega)) fun x hx => hz x (List.mem_cons_of_mem _ hx)
    refine ⟨h1, Nat.dvd_trans (Nat.dvd_lcm_left _ _) h2, fun x hx => ?_⟩
    rcases List.mem_cons.mp hx with rfl | hx
    · exact Nat.dvd_trans (Nat.dvd_lcm_right _ _) h2
    · exact h3 x hx
structure BlendOk (zs : Zs) (N m : Nat) (cs : List Int) (S : Int) : Prop where
  n0 : 0 < zs.length
  n1 : zs.length ≤ 8
  nN : N ≤ 800
  m0 : 2 ≤ m
  m1 : m ≤ 6
  len : ∀ z ∈ zs, z.1.length = m
  tp : ∀ z ∈ zs, 0 < z.1.sum
  ds : ∀ z ∈ zs, (denW z).natAbs < 2 ^ N
  tn : ∀ z ∈ zs, ∀ t ∈ z.1, 0 ≤ t ∧ t.natAbs < 2 ^ N
  rn : ∀ z ∈ zs, 0 ≤ z.2.num ∧ z.2.num.natAbs < 2 ^ N
  cl : cs.length = m
  S0 : 0 < S
  pr : ∀ k < m, (zs.map fun z => z.2 * ((z.1.getD k 0 : Int) : Rat) / ((z.1.sum : Int) : Rat)).sum = ((cs.getD k 0 : Int) : Rat) / (S : Rat)
  cp : ∃ c ∈ cs, c ≠ 0
theorem denW_pos {z : List Int × Rat} (h : 0 < z.1.sum) : 0 < denW z := Int.mul_pos h (den_pos _)
theorem botF_lt {N : Nat} : ∀ (zs : Zs) (i : Nat), (∀ z ∈ zs, (denW z).natAbs < 2 ^ N) → i ≤ zs.length → botF (zs.take i) < 2 ^ (i * N + 1)
  | zs, 0, _, _ => by
    rw [Nat.zero_mul, List.take_zero]
    show 1 < 2 ^ (0 + 1)
    decide
  | zs, i + 1, h, hi => by
    have hr : zs[i]? = some zs[i] := List.getElem?_eq_getElem (by omega)
    rw [botF_take hr]
    have h1 := botF_lt zs i h (by omega)
    have h2 := h _ (List.getElem_mem (h := show i < zs.length by omega))
    have e : (i + 1) * N + 1 = (i * N + 1) + N := by rw [Nat.add_mul]; omega
    rw [e, Nat.pow_add]
    exact Nat.lt_of_le_of_lt (lcm_le _ _) (Nat.mul_lt_mul'' h1 h2)
theorem botF_pos {zs : Zs} (h : ∀ z ∈ zs, 0 < z.1.sum) : 0 < botF zs := (botG zs 1 Nat.one_pos fun z hz => denW_pos (h z hz)).1
theorem botF_dvd {zs : Zs} (h : ∀ z ∈ zs, 0 < z.1.sum) {z : List Int × Rat} (hz : z ∈ zs) : denW z ∣ ((botF zs : Nat) : Int) :=
  Int.natAbs_dvd.mp (Int.ofNat_dvd.mpr ((botG zs 1 Nat.one_pos fun z hz => denW_pos (h z hz)).2.2 z hz))
theorem wgt_rat {B : Nat} {z : List Int × Rat} (h : 0 < z.1.sum) (hd : denW z ∣ (B : Int)) (t : Int) :
    ((wgt B z * t : Int) : Rat) = ((B : Int) : Rat) * (z.2 * (t : Rat) / ((z.1.sum : Int) : Rat)) := by
  obtain ⟨q, hq⟩ := hd
  have d0 := denW_pos h
  have e : (B : Int) / denW z = q := by rw [hq]; exact Int.mul_ediv_cancel_left _ (by omega)
  unfold wgt
  rw [e]
  have eB : ((B : Int) : Rat) = ((z.1.sum : Int) : Rat) * (((z.2.den : Nat) : Int) : Rat) * (q : Rat) := by
    rw [hq]
    unfold denW
    rw [Rat.intCast_mul, Rat.intCast_mul]
  rw [eB, Rat.intCast_mul, Rat.intCast_mul]
  have en : ((z.2.num : Int) : Rat) = z.2 * (((z.2.den : Nat) : Int) : Rat) := by
    have := Rat.num_divInt_den z.2
    rw [Rat.divInt_eq_div] at this
    have hn : (((z.2.den : Nat) : Int) : Rat) ≠ 0 := fun x => by
      have := congrArg Rat.num x
      have := den_pos z.2
      simp at *
      omega
    have h2 : ((z.2.num : Int) : Rat) / (((z.2.den : Nat) : Int) : Rat) = z.2 := this
    grind
  have hs : ((z.1.sum : Int) : Rat) ≠ 0 := fun x => by
    have := congrArg Rat.num x
    simp at this
    omega
  rw [en]
  grind
theorem col_rat {B : Nat} (k : Nat) : ∀ (zs : Zs), (∀ z ∈ zs, 0 < z.1.sum ∧ denW z ∣ (B : Int)) →
    (((colW B k zs).sum : Int) : Rat) = ((B : Int) : Rat) * (zs.map fun z => z.2 * ((z.1.getD k 0 : Int) : Rat) / ((z.1.sum : Int) : Rat)).sum
  | [], _ => by
    simp [colW]
  | z :: zs, h => by
    have ih := col_rat (B := B) k zs fun x hx => h x (List.mem_cons_of_mem _ hx)
    obtain ⟨h1, h2⟩ := h z (List.mem_cons_self ..)
    have e : colW B k (z :: zs) = wgt B z * z.1.getD k 0 :: colW B k zs := rfl
    rw [e, List.sum_cons, Rat.intCast_add, ih, wgt_rat h1 h2, List.map_cons, List.sum_cons]
    grind
theorem blend_col {zs : Zs} {N m : Nat} {cs : List Int} {S : Int} (h : BlendOk zs N m cs S) {k : Nat} (hk : k < m) : S * (colW (botF zs) k zs).sum = ((botF zs : Nat) : Int) * cs.getD k 0 := by
  have e := col_rat (B := botF zs) k zs fun z hz => ⟨h.tp z hz, botF_dvd h.tp hz⟩
  rw [h.pr k hk] at e
  have hS : ((S : Int) : Rat) ≠ 0 := fun x => by
    have := congrArg Rat.num x
    have := h.S0
    simp at *
    omega
  have e2 : ((S * (colW (botF zs) k zs).sum : Int) : Rat) = ((((botF zs : Nat) : Int) * cs.getD k 0 : Int) : Rat) := by
    rw [Rat.intCast_mul, Rat.intCast_mul, e]
    grind
  exact Rat.intCast_inj.mp e2
theorem blend_plain {zs : Zs} {N m : Nat} {cs : List Int} {S : Int} (h : BlendOk zs N m cs S) : (blendL m zs).map (S * ·) = cs.map (((botF zs : Nat) : Int) * ·) := by
  apply List.ext_getElem?
  intro k
  by_cases hk : k < m
  · have hc : cs[k]? = some (cs.getD k 0) := by
      have hl : k < cs.length := by rw [h.cl]; exact hk
      rw [List.getD_eq_getElem?_getD, List.getElem?_eq_getElem hl]
      rfl
    have e := blend_col h hk
    rw [List.getElem?_map, List.getElem?_map, hc]
    simp only [blendL, List.getElem?_map, List.getElem?_range hk, Option.map_some]
    rw [e]
  · rw [List.getElem?_eq_none (by simp [blendL]; omega), List.getElem?_eq_none (by simp [h.cl]; omega)]
theorem sum_abs_lt {n : Nat} : ∀ (xs : List Int) (a : Nat), (∀ x ∈ xs, x.natAbs < 2 ^ n) → xs.length ≤ a → xs.sum.natAbs ≤ a * 2 ^ n
  | [], a, _, _ => by simp
  | x :: xs, 0, _, h => by simp at h
  | x :: xs, a + 1, h, hl => by
    have ih := sum_abs_lt xs a (fun y hy => h y (List.mem_cons_of_mem _ hy)) (by simpa using hl)
    have h1 := h x (List.mem_cons_self ..)
    rw [List.sum_cons, Nat.add_mul]
    omega
theorem mc_abs {a b : Int} {c : Nat} (h0 : 0 ≤ a) (ha : a.natAbs ≤ 2 ^ c) (hb : 0 ≤ b) (hb8 : b ≤ 8) : (PySem.W.mcComb a b).natAbs < 2 ^ (c * 8 + 1) := by
  by_cases h : b > a
  · rw [PySem.W.mcComb_above h]
    exact Nat.two_pow_pos _
  · have hm : min b (a - b) ≤ 8 := by omega
    have hq : PySem.W.mcComb a b = PySem.Builtin.Math.fallingProduct a (min b (a - b)).toNat / PySem.Builtin.Math.fallingProduct (min b (a - b)) (min b (a - b)).toNat := PySem.W.mcComb_at hb (by omega) rfl
    have h1 : (PySem.Builtin.Math.fallingProduct a (min b (a - b)).toNat).natAbs ≤ 2 ^ (c * (min b (a - b)).toNat) := fp_abs h0 ha _ (by omega)
    have h2 : (PySem.W.mcComb a b).natAbs ≤ (PySem.Builtin.Math.fallingProduct a (min b (a - b)).toNat).natAbs := by
      rw [hq]
      exact Int.natAbs_ediv_le_natAbs _ _
    have h3 : c * (min b (a - b)).toNat ≤ c * 8 := Nat.mul_le_mul_left _ (by omega)
    have h4 := Nat.pow_le_pow_right (show 0 < 2 by decide) h3
    have h5 : 2 ^ (c * 8 + 1) = 2 ^ (c * 8) + 2 ^ (c * 8) := by rw [Nat.pow_succ]; omega
    have := Nat.two_pow_pos (c * 8)
    omega
theorem BlendOk.sl {zs : Zs} {N m : Nat} {cs : List Int} {S : Int} (h : BlendOk zs N m cs S) {z : List Int × Rat} (hz : z ∈ zs) : z.1.sum.natAbs < 2 ^ N := by
  have h1 := h.ds z hz
  unfold denW at h1
  rw [Int.natAbs_mul] at h1
  have h2 : 1 ≤ (((z.2.den : Nat) : Int)).natAbs := by have := den_pos z.2; omega
  have h3 := Nat.mul_le_mul_left z.1.sum.natAbs h2
  omega
theorem BlendOk.dl {zs : Zs} {N m : Nat} {cs : List Int} {S : Int} (h : BlendOk zs N m cs S) {z : List Int × Rat} (hz : z ∈ zs) : (((z.2.den : Nat) : Int)).natAbs < 2 ^ N := by
  have h1 := h.ds z hz
  unfold denW at h1
  rw [Int.natAbs_mul] at h1
  have h2 : 1 ≤ z.1.sum.natAbs := by have := h.tp z hz; omega
  have h3 := Nat.mul_le_mul_right (((z.2.den : Nat) : Int)).natAbs h2
  omega

theorem kMax {X : Cx} {K : PySem.W.Frag} (hc : X.calm = true) (h : X.K = K := by rfl) : CallR X (.builtin "max") (rMax K) := by
  subst h
  exact cr_max hc
/-- a power that is written out, as one value -/
theorem pe_pow {X : Cx} {a b : Expr} {i j c : Int} {pos : Pos} (ha : PE X a (tC (.int i))) (hb : PE X b (tC (.int j))) (h : CPow i j) (e : i ^ j.toNat = c) : PE X (.BinOp a .Pow b pos) (tC (.int c)) :=
  PE.imp (pe_op op_pow ha hb) fun σ H Q q => ⟨i, j, rfl, rfl, h, by
    have q2 : Q (.int c) H := q
    rw [← e] at q2
    exact q2⟩
theorem pe_less {X : Cx} {a b : Expr} {i j c : Int} {pos : Pos} (ha : PE X a (tC (.int i))) (hb : PE X b (tC (.int j))) (e : i - j = c) : PE X (.BinOp a .Sub b pos) (tC (.int c)) :=
  PE.imp (pe_op op_sub ha hb) fun σ H Q q => ⟨i, j, rfl, rfl, by
    have q2 : Q (.int c) H := q
    rw [← e] at q2
    exact q2⟩

/-! comprehensions that draw; a list or a tuple walked, indexed -/
section
variable {g : TG} {te : TE} {vs : List Nat} {σ : L2.St} {H1 : Hp} {Dd v : Addr} {Q : VK} {K : PySem.W.Frag} {a : Addr} {xs : List V} {D : Ends} {H : Hp}
def LcV (v : Addr) (H1 : Hp) (Dd : Addr) (R : Nat → V → Hp → Prop) (i : Nat) (H : Hp) : Prop :=
  ∃ acc : List V, H Dd = some (.lst acc) ∧ acc.length = i ∧ Gv v H1 H ∧ ∀ (j : Nat) y, acc[j]? = some y → R j y H
theorem vat_ne (hD : H1 Dd = none) (hv : VatAt H1 v) : Dd ≠ v := fun z => by
  obtain ⟨x, y, w, h1, _⟩ := hv
  rw [← z, hD] at h1
  cases h1
theorem lcV_turn {R : Nat → V → Hp → Prop} (hR : ∀ i y H H', Kp H H' → R i y H → R i y H') (hD : H1 Dd = none) (hv : VatAt H1 v) {i : Nat} {H H4 : Hp} {y : V}
    (p : LcV v H1 Dd R i H) (e : Gv v H H4) (r : R i y H4) (hi : i < 1000000) :
    ∃ acc, H4 Dd = some (.lst acc) ∧ acc.length < sizeLine ∧ LcV v H1 Dd R (i + 1) (upd H4 Dd (.lst (acc ++ [y]))) := by
  obtain ⟨acc, h1, h2, h3, h4⟩ := p
  have dv := vat_ne hD hv
  have h5 := e.lst dv h1
  have k : Kp H4 (upd H4 Dd (.lst (acc ++ [y]))) := fun b o hb n => by
    rw [upd_ne]
    · exact hb
    · intro z
      rw [z, h5] at hb
      exact n _ (Option.some.inj hb).symm
  refine ⟨acc, h5, Nat.lt_of_lt_of_le (show acc.length < 1000000 by omega) (by decide), acc ++ [y], upd_same, by simp [h2], ⟨hv, fun b o n hb => ?_, ?_⟩, fun j z hz => ?_⟩
  · rw [upd_ne (ne_of_none hb hD)]
    exact (h3.trans e).keep _ _ n hb
  · obtain ⟨x, y, w, q1, q2⟩ := e.new
    exact ⟨x, y, w, by rw [upd_ne (Ne.symm dv)]; exact q1, q2⟩
  · by_cases hj : j < acc.length
    · rw [List.getElem?_append_left hj] at hz
      exact hR _ _ _ _ (e.kp.trans k) (h4 j z hz)
    · have hj2 : j = acc.length := by
        have := (List.getElem?_eq_some_iff.mp hz).1
        rw [List.length_append, List.length_singleton] at this
        omega
      subst hj2
      rw [List.getElem?_append_right (Nat.le_refl _), Nat.sub_self] at hz
      cases hz
      rw [h2]
      exact hR _ _ _ _ k r
theorem lcV_start {R : Nat → V → Hp → Prop} (hD : H1 Dd = none) (hv : VatAt H1 v) : LcV v H1 Dd R 0 (upd H1 Dd (.lst [])) :=
  ⟨[], upd_same, rfl, .of hv (Ex.new hD), fun j y h => by simp at h⟩
/-- what is wanted behind a comprehension that draws -/
def LcEndV (v : Addr) (H1 : Hp) (Dd : Addr) (n : Nat) (R : Nat → V → Hp → Prop) (Q : VK) : Prop :=
  ∀ H ys, Gv v H1 H → H Dd = some (.lst ys) → ys.length = n → (∀ (i : Nat) y, ys[i]? = some y → R i y H) → Q (.ref Dd) H
theorem lcRv {lo : Int} {n : Nat} {j : Nat} (R : Nat → V → Hp → Prop) (hR : ∀ i y H H', Kp H H' → R i y H → R i y H') (hD : H1 Dd = none) (hv : VatAt H1 v) (hz : n ≤ 100000)
    (hw : ∀ x, wipe ((wipe σ vs).set j (some x)) vs = wipe σ vs)
    (hs : ∀ (i : Nat) H, i < n → Gv v H1 H → tmE te ((wipe σ vs).set j (some (.int (lo + i)))) H fun y H4 => Gv v H H4 ∧ R i y H4)
    (hd : LcEndV v H1 Dd n R Q) : LcW (Itr lo n) (gName j) tYes (tmE te) vs σ H1 Dd Q :=
  lc_range (LcV v H1 Dd R) (lcV_start hD hv) (fun i H hi p => by
    obtain ⟨acc, q1, q2, q3, q4⟩ := id p
    refine ⟨hw _, ?_⟩
    obtain ⟨R0, z1, z2⟩ := hs i H hi q3
    exact ⟨R0, z1, fun y H4 r0 => lcV_turn hR hD hv p (z2 y H4 r0).1 (z2 y H4 r0).2 (by omega)⟩)
    fun H ⟨acc, q1, q2, q3, q4⟩ => hd H acc q3 q1 q2 q4
/-! ### a list or a tuple -/
def ItS (K : PySem.W.Frag) : Bool → Addr → It
  | true => Itl K
  | false => Itt K
def iSeq (K : PySem.W.Frag) (tl : TE) : TI := fun σ H R => tl σ H fun x H1 => ∃ a k, x = .ref a ∧ (∃ xs, SqB K k H1 a xs) ∧ R (ItS K k a) H1
theorem r_seqI {tl : TE} {S : It → Hp → Prop} : iSeq K tl σ H S = tl σ H fun x H1 => ∃ a k, x = .ref a ∧ (∃ xs, SqB K k H1 a xs) ∧ S (ItS K k a) H1 := rfl
theorem loopB {k : Bool} {a : Addr} {xs : List V} {tb : TS} (Pv : Nat → L2.St → Hp → Prop) (h0 : Pv 0 σ H) (hl : ∀ i σ H, i ≤ xs.length → Pv i σ H → SqB K k H a xs)
    (hs : ∀ i x σ H, xs[i]? = some x → Pv i σ H → g x σ H fun σ2 H2 => tb { nx := Pv (i + 1), rt := D.rt, bk := D.nx, ct := Pv (i + 1) } σ2 H2) (hd : ∀ σ H, Pv xs.length σ H → D.nx σ H) : LoopW (ItS K k a) g tb D σ H := by
  cases k
  · exact for_tup Pv h0 hl hs hd
  · exact for_list Pv h0 hl hs hd
theorem lcB {k : Bool} (R : Nat → V → Hp → Prop) (hR : ∀ i y H H', Kp H H' → R i y H → R i y H') (hD : H1 Dd = none) (hx : SqB K k H1 a xs) (hz : xs.length ≤ 100000)
    (hs : ∀ (i : Nat) x H, xs[i]? = some x → Ex H1 H → g x (wipe σ vs) H fun σ2 H2 => wipe σ2 vs = wipe σ vs ∧ tmE te σ2 H2 fun y H4 => Ex H H4 ∧ R i y H4)
    (hg : GMono g)
    (hd : LcEnd H1 Dd xs.length R Q) : LcW (ItS K k a) g tYes (tmE te) vs σ H1 Dd Q := by
  cases k
  · exact lcT R hR hD hx hz hs (fun i x H S S' _ h q => hg _ _ _ _ _ h q) hd
  · exact lcL (J0 := True) R hR hD hx hz hs (fun i x H S S' _ h q => hg _ _ _ _ _ h q) hd
theorem sqB_or {k : Bool} {a : Addr} {xs : List V} (h : SqB K k H a xs) : SqL K H a xs ∨ SqT K H a xs := by
  cases k
  · exact .inr h
  · exact .inl h
theorem q_ixB {k : Bool} {p : Addr} {xs : List V} {i : Int} {v : V} (h : SqB K k H p xs) (e : atI xs i = some v) (q : Q v H) : rIxL K (.ref p) (.int i) H Q ∨ rIxT K (.ref p) (.int i) H Q := by
  cases k
  · exact .inr (q_ixT h e q)
  · exact .inl (q_ixL h e q)
end
section
variable {X : Cx} {tg : Expr} {K : PySem.W.Frag}
theorem pi_seq {l : Expr} {tl : TE} (hl : PE X l tl) (h : X.K = K := by rfl) : PI X tg l (iSeq K tl) := by
  subst h
  refine ⟨fun pins s σ H R I h => ?_⟩
  refine thn (hl.run pins s σ H _ I h) fun v s1 ⟨x, H1, I1, r1, q1⟩ => ?_
  obtain ⟨a, k, e, ⟨xs, hq⟩, q⟩ := q1
  subst e
  cases r1
  cases k
  · obtain ⟨its, rv, p, hz⟩ := I1.tuple hq
    refine wpAny_pyIter_tuple (show s1.heap.IsTuple a its.toArray from p) ?_
    refine ⟨s1.heap.objs.size, [s1.heap.objs.size], _, _, H1, rfl, I1.kept (t' := s1.toks) fun b o e => Heap.get?_push_of_some _ e, turn_tuple a _, ⟨_, Heap.get?_push_size _ rfl, rfl, rfl⟩, fun b hb => ?_, q⟩
    have e : b = s1.heap.objs.size := by simpa using hb
    subst e
    exact I1.fpOk (Nat.le_refl _) (I1.hok.fresh (Nat.le_refl _))
  · obtain ⟨its, rv, p, hz⟩ := I1.list hq
    refine wpAny_pyIter_list p.isList ?_
    refine ⟨s1.heap.objs.size, [s1.heap.objs.size], _, _, H1, rfl, I1.kept (t' := s1.toks) fun b o e => Heap.get?_push_of_some _ e, turn_list a _, ⟨_, Heap.get?_push_size _ rfl, rfl, rfl⟩, fun b hb => ?_, q⟩
    have e : b = s1.heap.objs.size := by simpa using hb
    subst e
    exact I1.fpOk (Nat.le_refl _) (I1.hok.fresh (Nat.le_refl _))
def rIxB (K : PySem.W.Frag) : R2 := fun x y H Q => rIxL K x y H Q ∨ rIxT K x y H Q
theorem ixB (h : X.K = K := by rfl) : IxR X (rIxB K) := by
  subst h
  exact ix_list.or ix_tup
theorem call_intB : CallR X (.type "int") (fun xs H Q => (∃ i, xs = [.int i] ∧ Q (.int i) H) ∨ ∃ k, xs = [.bl k] ∧ Q (.int (if k then 1 else 0)) H) := call_int1
end

/-! comprehensions whose items may be lists -/
/-- all but the list d stays -/
def But (d : Addr) (H H' : Hp) : Prop := ∀ a o, (a ≠ d ∨ ∀ xs, o ≠ .lst xs) → H a = some o → H' a = some o
theorem Ex.but {d : Addr} {H H' : Hp} (e : Ex H H') : But d H H' := fun a o _ h => e a o h
theorem But.kp {d : Addr} {H H' : Hp} (b : But d H H') : Kp H H' := fun a o h n => b a o (.inr n) h
theorem But.trans {d : Addr} {H H1 H2 : Hp} (a : But d H H1) (b : But d H1 H2) : But d H H2 := fun x o n h => b x o n (a x o n h)
section
variable {g : TG} {te : TE} {vs : List Nat} {σ : L2.St} {H1 : Hp} {Dd v : Addr} {Q : VK} {K : PySem.W.Frag} {a : Addr} {xs : List V} {D : Ends} {H : Hp}
theorem lcB_turn {R : Nat → V → Hp → Prop} (hR : ∀ i y H H', But Dd H H' → R i y H → R i y H') (hD : H1 Dd = none) {i : Nat} {H H4 : Hp} {y : V}
    (p : LcJ H1 Dd R i H) (e : Ex H H4) (r : R i y H4) (hi : i < 1000000) :
    ∃ acc, H4 Dd = some (.lst acc) ∧ acc.length < sizeLine ∧ LcJ H1 Dd R (i + 1) (upd H4 Dd (.lst (acc ++ [y]))) := by
  obtain ⟨acc, h1, h2, h3, h4⟩ := p
  have k : But Dd H4 (upd H4 Dd (.lst (acc ++ [y]))) := fun b o n hb => by
    rw [upd_ne]
    · exact hb
    · intro z
      rw [z, e _ _ h1] at hb
      rcases n with n | n
      · exact n z
      · exact n _ (Option.some.inj hb).symm
  refine ⟨acc, e _ _ h1, Nat.lt_of_lt_of_le (show acc.length < 1000000 by omega) (by decide), acc ++ [y], upd_same, by simp [h2], fun b o hb => ?_, fun j z hz => ?_⟩
  · rw [upd_ne (ne_of_none hb hD)]
    exact e _ _ (h3 _ _ hb)
  · by_cases hj : j < acc.length
    · rw [List.getElem?_append_left hj] at hz
      exact hR _ _ _ _ (e.but.trans k) (h4 j z hz)
    · have hj2 : j = acc.length := by
        have := (List.getElem?_eq_some_iff.mp hz).1
        rw [List.length_append, List.length_singleton] at this
        omega
      subst hj2
      rw [List.getElem?_append_right (Nat.le_refl _), Nat.sub_self] at hz
      cases hz
      rw [h2]
      exact hR _ _ _ _ k r
/-- over a tuple, by a name -/
theorem lcTb {j : Nat} (R : Nat → V → Hp → Prop) (hR : ∀ i y H H', But Dd H H' → R i y H → R i y H') (hD : H1 Dd = none) (hx : SqT K H1 a xs) (hz : xs.length ≤ 100000)
    (hw : ∀ x, wipe ((wipe σ vs).set j (some x)) vs = wipe σ vs)
    (hs : ∀ (i : Nat) x H, xs[i]? = some x → Ex H1 H → (∃ acc, H Dd = some (.lst acc)) → tmE te ((wipe σ vs).set j (some x)) H fun y H4 => Ex H H4 ∧ R i y H4)
    (hd : LcEnd H1 Dd xs.length R Q) : LcW (Itt K a) (gName j) tYes (tmE te) vs σ H1 Dd Q :=
  lc_tup (xs := xs) (LcJ H1 Dd R) (lcJ_start hD) (fun i H _ ⟨_, _, _, e, _⟩ => sqT_kp hx e.kp) (fun i x H hi p => by
    obtain ⟨acc, q1, q2, q3, q4⟩ := id p
    refine ⟨hw _, ?_⟩
    obtain ⟨R0, z1, z2⟩ := hs i x H hi q3 ⟨_, q1⟩
    exact ⟨R0, z1, fun y H4 r0 => lcB_turn hR hD p (z2 y H4 r0).1 (z2 y H4 r0).2 (by have := (List.getElem?_eq_some_iff.mp hi).1; omega)⟩)
    fun H ⟨acc, q1, q2, q3, q4⟩ => hd H acc q3 q1 q2 q4
/-- over a list, by a name -/
theorem lcLb {j : Nat} (R : Nat → V → Hp → Prop) (hR : ∀ i y H H', But Dd H H' → R i y H → R i y H') (hD : H1 Dd = none) (hx : SqL K H1 a xs) (hz : xs.length ≤ 100000)
    (hw : ∀ x, wipe ((wipe σ vs).set j (some x)) vs = wipe σ vs)
    (hs : ∀ (i : Nat) x H, xs[i]? = some x → Ex H1 H → (∃ acc, H Dd = some (.lst acc)) → tmE te ((wipe σ vs).set j (some x)) H fun y H4 => Ex H H4 ∧ R i y H4)
    (hd : LcEnd H1 Dd xs.length R Q) : LcW (Itl K a) (gName j) tYes (tmE te) vs σ H1 Dd Q :=
  lc_list (xs := xs) (LcJ H1 Dd R) (lcJ_start hD) (fun i H _ ⟨_, _, _, e, _⟩ => sqL_ex hx e) (fun i x H hi p => by
    obtain ⟨acc, q1, q2, q3, q4⟩ := id p
    refine ⟨hw _, ?_⟩
    obtain ⟨R0, z1, z2⟩ := hs i x H hi q3 ⟨_, q1⟩
    exact ⟨R0, z1, fun y H4 r0 => lcB_turn hR hD p (z2 y H4 r0).1 (z2 y H4 r0).2 (by have := (List.getElem?_eq_some_iff.mp hi).1; omega)⟩)
    fun H ⟨acc, q1, q2, q3, q4⟩ => hd H acc q3 q1 q2 q4
/-- over a range -/
theorem lcRb {lo : Int} {n : Nat} {j : Nat} (R : Nat → V → Hp → Prop) (hR : ∀ i y H H', But Dd H H' → R i y H → R i y H') (hD : H1 Dd = none) (hz : n ≤ 100000)
    (hw : ∀ x, wipe ((wipe σ vs).set j (some x)) vs = wipe σ vs)
    (hs : ∀ (i : Nat) H, i < n → Ex H1 H → (∃ acc, H Dd = some (.lst acc)) → tmE te ((wipe σ vs).set j (some (.int (lo + i)))) H fun y H4 => Ex H H4 ∧ R i y H4)
    (hd : LcEnd H1 Dd n R Q) : LcW (Itr lo n) (gName j) tYes (tmE te) vs σ H1 Dd Q :=
  lc_range (LcJ H1 Dd R) (lcJ_start hD) (fun i H hi p => by
    obtain ⟨acc, q1, q2, q3, q4⟩ := id p
    refine ⟨hw _, ?_⟩
    obtain ⟨R0, z1, z2⟩ := hs i H hi q3 ⟨_, q1⟩
    exact ⟨R0, z1, fun y H4 r0 => lcB_turn hR hD p (z2 y H4 r0).1 (z2 y H4 r0).2 (by omega)⟩)
    fun H ⟨acc, q1, q2, q3, q4⟩ => hd H acc q3 q1 q2 q4
theorem sqL_but {d a : Addr} {H H' : Hp} {xs : List V} (h : SqL K H a xs) (n : a ≠ d) (e : But d H H') : SqL K H' a xs := by
  rcases h with (h | ⟨o, h⟩) | h
  · exact .inl (.inl (e _ _ (.inl n) h))
  · exact .inl (.inr ⟨o, e _ _ (.inl n) h⟩)
  · exact .inr h
end

/-! tuples added, data that differ, comprehensions with a test, ways to choose of great numbers -/
section
variable {X : Cx} {K : PySem.W.Frag}
/-- t + u, u not empty -/
def rCatAN (K : PySem.W.Frag) : R2 := fun x y H Q => ∃ a b xs ys, x = .ref a ∧ y = .ref b ∧ SqT K H a xs ∧ SqT K H b ys ∧ ys ≠ [] ∧ xs.length + ys.length ≤ sizeLine ∧
  ∀ p H', Ex H H' → SqT K H' p (xs ++ ys) → Q (.ref p) H'
theorem op_catAN (h : X.K = K := by rfl) : OpR X (binaryOp .Add) (rCatAN K) := by
  subst h
  exact OpR.imp op_catA fun x y H Q ⟨a, b, xs, ys, e1, e2, h1, h2, hy, z, n⟩ => ⟨a, b, xs, ys, e1, e2, h1, h2, z,
    fun q => n b H (Ex.refl H) (by rw [q]; exact h2), fun _ q => absurd q hy, fun _ _ p hp => n p _ (Ex.new hp) (.of upd_same)⟩
theorem op_neB (hu : X.A.units + 64 < cLine) (h : X.K = K := by rfl) : OpR X (compareOp .NotEq) (rNeD K) := by
  subst h
  exact op_neD hu
theorem op_eqB (hu : X.A.units + 64 < cLine) (h : X.K = K := by rfl) : OpR X (compareOp .Eq) (rEqD K) := by
  subst h
  exact op_eqD hu
end
section
variable {g : TG} {te : TE} {tt : TT} {vs : List Nat} {σ : L2.St} {H1 : Hp} {Dd : Addr} {Q : VK} {K : PySem.W.Frag} {a : Addr}
/-- the ints of a tuple for which a test holds -/
theorem lcTf {j : Nat} (p : Int → Bool) {ts : List Int} (hD : H1 Dd = none) (hx : SqT K H1 a (ts.map V.int)) (hz : ts.length ≤ 100000)
    (hw : ∀ x, wipe ((wipe σ vs).set j (some x)) vs = wipe σ vs)
    (hs : ∀ c H (S : Bool → Hp → Prop), S (p c) H → tt ((wipe σ vs).set j (some (.int c))) H S)
    (hv : ∀ c H (S : VK), S (.int c) H → te ((wipe σ vs).set j (some (.int c))) H S)
    (hd : ∀ H, Ex H1 H → H Dd = some (.lst ((ts.filter p).map V.int)) → Q (.ref Dd) H) : LcW (Itt K a) (gName j) tt (tmE te) vs σ H1 Dd Q :=
  lc_tup (xs := ts.map V.int) (fun i H => H Dd = some (.lst (((ts.take i).filter p).map V.int)) ∧ Ex H1 H) ⟨by simp [upd_same], Ex.new hD⟩ (fun i H _ h => sqT_kp hx h.2.kp) (fun i x H hi h => by
    obtain ⟨hl, he⟩ := h
    rw [List.getElem?_map] at hi
    cases hc : ts[i]? with
    | none => rw [hc] at hi; cases hi
    | some c =>
      rw [hc] at hi
      cases hi
      have et : ts.take (i + 1) = ts.take i ++ [c] := by
        rw [List.take_add_one, hc]
        rfl
      refine ⟨hw _, hs c H _ ?_⟩
      cases hp : p c with
      | false =>
        rw [if_neg (by decide)]
        refine ⟨?_, he⟩
        rw [et, List.filter_append, List.filter_cons, hp]
        simpa using hl
      | true =>
        rw [if_pos rfl]
        refine ⟨fun y H' => y = .int c ∧ H' = H, hv c H _ ⟨rfl, rfl⟩, ?_⟩
        rintro y H' ⟨rfl, rfl⟩
        refine ⟨_, hl, ?_, ?_, ?_⟩
        · have h1 := List.length_filter_le p (ts.take i)
          have h2 := List.length_take_le i ts
          rw [List.length_map]
          refine Nat.lt_of_lt_of_le (show _ < 1000000 from ?_) (by decide)
          have h3 : (ts.take i).length ≤ ts.length := by rw [List.length_take]; omega
          omega
        · rw [et, List.filter_append, List.filter_cons, hp]
          simp [upd_same]
        · exact fun b o hb => by
            rw [upd_ne (ne_of_none hb hD)]
            exact he _ _ hb)
    fun H h => by
      rw [List.length_map, List.take_length] at h
      exact hd H h.2 h.1
end
/-! ### ways to choose -/
theorem chs_zero (a : Nat) : chs a 0 = 1 := by cases a <;> rfl
theorem chs_big : ∀ (a k : Nat), a < k → chs a k = 0
  | _, 0, h => by omega
  | 0, k + 1, _ => rfl
  | a + 1, k + 1, h => by
    show chs a k + chs a (k + 1) = 0
    rw [chs_big a k (by omega), chs_big a (k + 1) (by omega)]
theorem chs_self : ∀ a : Nat, chs a a = 1
  | 0 => rfl
  | a + 1 => by
    show chs a a + chs a (a + 1) = 1
    rw [chs_self a, chs_big a (a + 1) (by omega)]
theorem chs_step : ∀ (a k : Nat), ((k : Int) + 1) * ((chs a (k + 1) : Nat) : Int) = ((a : Int) - (k : Int)) * ((chs a k : Nat) : Int)
  | 0, 0 => by decide
  | 0, k + 1 => by
    have h1 : chs 0 (k + 1) = 0 := rfl
    have h2 : chs 0 (k + 1 + 1) = 0 := rfl
    rw [h1, h2]
    simp
  | a + 1, 0 => by
    have ih := chs_step a 0
    have h1 : chs (a + 1) (0 + 1) = chs a 0 + chs a (0 + 1) := rfl
    rw [h1, chs_zero, chs_zero] at *
    push_cast at *
    omega
  | a + 1, k + 1 => by
    have ih := chs_step a (k + 1)
    have ih2 := chs_step a k
    have h1 : chs (a + 1) (k + 1 + 1) = chs a (k + 1) + chs a (k + 1 + 1) := rfl
    have h2 : chs (a + 1) (k + 1) = chs a k + chs a (k + 1) := rfl
    rw [h1, h2]
    generalize chs a (k + 1 + 1) = z at *
    generalize chs a (k + 1) = y at *
    generalize chs a k = x at *
    push_cast at *
    grind
def fct : Nat → Int
  | 0 => 1
  | k + 1 => fct k * ((k : Int) + 1)
theorem fct_pos : ∀ k : Nat, 0 < fct k
  | 0 => by decide
  | k + 1 => Int.mul_pos (fct_pos k) (by omega)
theorem fall_chs (a : Nat) : ∀ k : Nat, Builtin.Math.fallingProduct (a : Int) k = ((chs a k : Nat) : Int) * fct k
  | 0 => by
    rw [PySem.W.mc_fp_zero, chs_zero]
    rfl
  | k + 1 => by
    rw [PySem.W.mc_fp_succ, fall_chs a k]
    have := chs_step a k
    show _ = _ * (fct k * ((k : Int) + 1))
    grind
theorem comb_big {a k : Nat} (hk : k < 6) : PySem.W.mcComb (a : Int) (k : Int) = ((chs a k : Nat) : Int) := by
  by_cases h : k ≤ a
  · by_cases h2 : a < 12
    · have g : ∀ a < 12, ∀ k < 6, PySem.W.mcComb ((a : Nat) : Int) ((k : Nat) : Int) = ((chs a k : Nat) : Int) := by decide +kernel
      exact g a h2 k hk
    · have e := PySem.W.mcComb_at (a := (a : Int)) (b := (k : Int)) (by omega) (by omega) (m := (k : Int)) (by omega)
      rw [e]
      have t : ((k : Int)).toNat = k := by omega
      rw [t, fall_chs a k, fall_chs k k, chs_self]
      have := fct_pos k
      rw [show (((1 : Nat)) : Int) = 1 from rfl, Int.one_mul]
      exact Int.mul_ediv_cancel _ (by omega)
  · rw [PySem.W.mcComb_above (by omega), chs_big a k (by omega)]
    rfl
theorem chs_pow : ∀ (a k : Nat), chs a k ≤ a ^ k
  | a, 0 => by rw [chs_zero]; simp
  | a, k + 1 => by
    by_cases h : a < k
    · rw [chs_big a (k + 1) (by omega)]
      exact Nat.zero_le _
    have ih := chs_pow a k
    have e := chs_step a k
    have h1 : ((a : Int) - (k : Int)) = ((a - k : Nat) : Int) := by omega
    rw [h1] at e
    have e2 : (k + 1) * chs a (k + 1) = (a - k) * chs a k := by
      have : (((k + 1) * chs a (k + 1) : Nat) : Int) = (((a - k) * chs a k : Nat) : Int) := by
        push_cast
        push_cast at e
        exact e
      exact Int.ofNat_inj.mp this
    have h2 : (a - k) * chs a k ≤ a * a ^ k := Nat.mul_le_mul (by omega) ih
    have h3 : 1 * chs a (k + 1) ≤ (k + 1) * chs a (k + 1) := Nat.mul_le_mul_right _ (by omega)
    rw [Nat.pow_succ, Nat.mul_comm]
    omega
theorem chs_lt {a k n : Nat} (ha : a < 2 ^ n) (hk : k ≤ 5) : chs a k < 2 ^ (n * 5 + 1) := by
  have h1 := chs_pow a k
  have h2 : a ^ k ≤ (2 ^ n) ^ k := Nat.pow_le_pow_left (by omega) k
  rw [← Nat.pow_mul] at h2
  have h3 := Nat.pow_le_pow_right (show 0 < 2 by decide) (Nat.mul_le_mul_left n hk)
  have h4 : 2 ^ (n * 5 + 1) = 2 ^ (n * 5) + 2 ^ (n * 5) := by rw [Nat.pow_succ]; omega
  have := Nat.two_pow_pos (n * 5)
  omega
theorem chs_posG {a k : Nat} (h : k ≤ a) : 0 < chs a k := by
  have g : ∀ (a k : Nat), k ≤ a → 0 < chs a k := by
    intro a
    induction a with
    | zero =>
      intro k h
      have : k = 0 := by omega
      subst this
      decide
    | succ a ih =>
      intro k h
      cases k with
      | zero => rw [chs_zero]; decide
      | succ k =>
        have := ih k (by omega)
        show 0 < chs a k + chs a (k + 1)
        omega
  exact g a k h

/-! sums of products of ways to choose -/
/-- f 0 + .. + f (m - 1) -/
def Zs' (m : Nat) (f : Nat → Int) : Int := ((List.range m).map f).sum
theorem Zs_zero (f : Nat → Int) : Zs' 0 f = 0 := rfl
theorem Zs_succ (m : Nat) (f : Nat → Int) : Zs' (m + 1) f = Zs' m f + f m := by
  unfold Zs'
  rw [List.range_succ, List.map_append, List.sum_append]
  simp only [List.map_cons, List.map_nil, List.sum_cons, List.sum_nil]
  omega
theorem Zs_first : ∀ (m : Nat) (f : Nat → Int), Zs' (m + 1) f = f 0 + Zs' m fun k => f (k + 1)
  | 0, f => by rw [Zs_succ, Zs_zero, Zs_zero]; omega
  | m + 1, f => by rw [Zs_succ, Zs_first m f, Zs_succ m]; omega
theorem Zs_congr {m : Nat} {f g : Nat → Int} (h : ∀ k < m, f k = g k) : Zs' m f = Zs' m g := by
  induction m with
  | zero => rfl
  | succ m ih => rw [Zs_succ, Zs_succ, ih fun k hk => h k (by omega), h m (by omega)]
theorem Zs_add (f g : Nat → Int) : ∀ m : Nat, Zs' m (fun k => f k + g k) = Zs' m f + Zs' m g
  | 0 => rfl
  | m + 1 => by rw [Zs_succ, Zs_succ, Zs_succ, Zs_add f g m]; omega
theorem Zs_mul (c : Int) (f : Nat → Int) : ∀ m : Nat, Zs' m (fun k => c * f k) = c * Zs' m f
  | 0 => by rw [Zs_zero, Zs_zero, Int.mul_zero]
  | m + 1 => by rw [Zs_succ, Zs_succ, Zs_mul c f m, Int.mul_add]
/-- the ways to choose d of y and r things, by how many are of the y -/
def vd (y r d : Nat) : Int := Zs' (d + 1) fun k => ((chs y k : Nat) : Int) * ((chs r (d - k) : Nat) : Int)
theorem vd_zero (y r : Nat) : vd y r 0 = 1 := by
  unfold vd
  rw [Zs_succ, Zs_zero, chs_zero, chs_zero]
  rfl
theorem vd_none (r d : Nat) : vd 0 r d = ((chs r d : Nat) : Int) := by
  unfold vd
  rw [Zs_first]
  have e : Zs' d (fun k => ((chs 0 (k + 1) : Nat) : Int) * ((chs r (d - (k + 1)) : Nat) : Int)) = Zs' d (fun k => 0 * ((chs r (d - (k + 1)) : Nat) : Int)) := Zs_congr fun k _ => rfl
  rw [e, Zs_mul, chs_zero]
  simp
theorem vd_step (y r d : Nat) : vd (y + 1) r (d + 1) = vd y r (d + 1) + vd y r d := by
  unfold vd
  rw [Zs_first, Zs_first (d + 1) fun k => ((chs y k : Nat) : Int) * ((chs r (d + 1 - k) : Nat) : Int)]
  have e : Zs' (d + 1) (fun k => ((chs (y + 1) (k + 1) : Nat) : Int) * ((chs r (d + 1 - (k + 1)) : Nat) : Int)) =
      Zs' (d + 1) (fun k => ((chs y (k + 1) : Nat) : Int) * ((chs r (d + 1 - (k + 1)) : Nat) : Int) + ((chs y k : Nat) : Int) * ((chs r (d - k) : Nat) : Int)) := by
    apply Zs_congr
    intro k _
    have h1 : chs (y + 1) (k + 1) = chs y k + chs y (k + 1) := rfl
    have h2 : d + 1 - (k + 1) = d - k := by omega
    rw [h1, h2, Int.natCast_add, Int.add_mul]
    omega
  rw [e, Zs_add, chs_zero, chs_zero]
  omega
theorem vandermonde : ∀ (y r d : Nat), vd y r d = ((chs (y + r) d : Nat) : Int)
  | 0, r, d => by rw [vd_none, Nat.zero_add]
  | y + 1, r, 0 => by rw [vd_zero, chs_zero]; rfl
  | y + 1, r, d + 1 => by
    rw [vd_step, vandermonde y r (d + 1), vandermonde y r d]
    have e : y + 1 + r = y + r + 1 := by omega
    have h1 : chs (y + r + 1) (d + 1) = chs (y + r) d + chs (y + r) (d + 1) := rfl
    rw [e, h1, Int.natCast_add]
    omega
theorem fall_add (a : Int) (j : Nat) : ∀ i : Nat, Builtin.Math.fallingProduct a (j + i) = Builtin.Math.fallingProduct a j * Builtin.Math.fallingProduct (a - (j : Int)) i
  | 0 => by rw [PySem.W.mc_fp_zero, Nat.add_zero, Int.mul_one]
  | i + 1 => by
    rw [show j + (i + 1) = (j + i) + 1 from rfl, PySem.W.mc_fp_succ, PySem.W.mc_fp_succ, fall_add a j i, Int.mul_assoc]
    congr 2
    omega
/-- choosing k of a, then j of these: choosing j of a, then the others -/
theorem revise {a k j : Nat} (hj : j ≤ k) : ((chs a k : Nat) : Int) * ((chs k j : Nat) : Int) = ((chs a j : Nat) : Int) * ((chs (a - j) (k - j) : Nat) : Int) := by
  by_cases ha : j ≤ a
  · have e1 := fall_chs a k
    have e2 := fall_chs a j
    have e3 := fall_chs (a - j) (k - j)
    have e4 := fall_chs k j
    have e5 := fall_chs (k - j) (k - j)
    have e6 := fall_chs k k
    rw [chs_self] at e5 e6
    have s1 := fall_add (a : Int) j (k - j)
    have s2 := fall_add (k : Int) j (k - j)
    rw [show j + (k - j) = k by omega] at s1 s2
    have c1 : (a : Int) - (j : Int) = ((a - j : Nat) : Int) := by omega
    have c2 : (k : Int) - (j : Int) = ((k - j : Nat) : Int) := by omega
    rw [c1] at s1
    rw [c2] at s2
    rw [e1, e2, e3] at s1
    rw [e6, e4, e5] at s2
    have p1 := fct_pos j
    have p2 := fct_pos (k - j)
    have one : (((1 : Nat)) : Int) = 1 := rfl
    rw [one] at s2
    generalize ((chs a k : Nat) : Int) = x at *
    generalize ((chs k j : Nat) : Int) = y at *
    generalize ((chs a j : Nat) : Int) = z at *
    generalize ((chs (a - j) (k - j) : Nat) : Int) = u at *
    generalize fct k = f at *
    generalize fct j = g at *
    generalize fct (k - j) = h at *
    have key : x * y * (g * h) = z * u * (g * h) := by
      have a1 : x * y * (g * h) = x * (y * g * (1 * h)) := by grind
      rw [a1, ← s2]
      have a2 : x * (1 * f) = x * f := by rw [Int.one_mul]
      rw [a2, s1]
      grind
    exact Int.eq_of_mul_eq_mul_right (Int.ne_of_gt (Int.mul_pos p1 p2)) key
  · rw [chs_big a k (by omega), chs_big a j (by omega)]
    simp
/-- the mean of the ways to choose j of the yes among d draws -/
theorem moment {y r d j : Nat} (hj : j ≤ d) : (Zs' (d + 1) fun k => ((chs y k : Nat) : Int) * ((chs r (d - k) : Nat) : Int) * ((chs k j : Nat) : Int)) = ((chs y j : Nat) : Int) * (if j ≤ y then ((chs (y - j + r) (d - j) : Nat) : Int) else 0) := by
  obtain ⟨e, rfl⟩ : ∃ e, d = j + e := ⟨d - j, by omega⟩
  have split : ∀ (j : Nat) (f : Nat → Int), Zs' (j + e + 1) f = Zs' j f + Zs' (e + 1) fun k => f (j + k) := by
    intro j f
    clear hj
    induction e with
    | zero => rw [Zs_succ, Zs_succ, Zs_zero]; simp
    | succ e ih => rw [show j + (e + 1) + 1 = (j + e + 1) + 1 from rfl, Zs_succ, ih, Zs_succ (e + 1)]; simp only [Nat.add_assoc]; omega
  rw [split]
  have z : Zs' j (fun k => ((chs y k : Nat) : Int) * ((chs r (j + e - k) : Nat) : Int) * ((chs k j : Nat) : Int)) = Zs' j (fun k => 0 * ((chs y k : Nat) : Int)) := by
    apply Zs_congr
    intro k hk
    rw [chs_big k j hk]
    simp
  rw [z, Zs_mul, Int.zero_mul, Int.zero_add]
  have t : Zs' (e + 1) (fun k => ((chs y (j + k) : Nat) : Int) * ((chs r (j + e - (j + k)) : Nat) : Int) * ((chs (j + k) j : Nat) : Int)) =
      Zs' (e + 1) (fun k => ((chs y j : Nat) : Int) * (((chs (y - j) k : Nat) : Int) * ((chs r (e - k) : Nat) : Int))) := by
    apply Zs_congr
    intro k _
    have h := revise (a := y) (k := j + k) (j := j) (by omega)
    have e1 : j + k - j = k := by omega
    have e2 : j + e - (j + k) = e - k := by omega
    rw [e1] at h
    rw [e2]
    calc _ = ((chs y (j + k) : Nat) : Int) * ((chs (j + k) j : Nat) : Int) * ((chs r (e - k) : Nat) : Int) := by grind
      _ = _ := by rw [h]; grind
  rw [t, Zs_mul]
  have e3 : j + e - j = e := by omega
  rw [e3]
  by_cases hy : j ≤ y
  · rw [if_pos hy]
    have := vandermonde (y - j) r e
    unfold vd at this
    rw [this]
  · rw [if_neg hy, chs_big y j (by omega)]
    simp

/-! slices of tuples; lists told by an own notion under changes of one list -/
def rSlAN (K : PySem.W.Frag) : V → Option Int → Option Int → Hp → VK → Prop := fun x lo hi H Q => ∃ a xs, x = .ref a ∧ SqT K H a xs ∧ ∀ p H', Ex H H' → SqT K H' p (cutV xs lo hi) → Q (.ref p) H'
theorem sl_tupAN {X : Cx} {K : PySem.W.Frag} (h : X.K = K := by rfl) : L2.SlR X (rSlAN K) := by
  subst h
  refine SlR.imp sl_tupA fun x lo hi H Q ⟨a, xs, e, hS, n⟩ => ⟨a, xs, e, hS, fun w => ?_, fun _ p hp => n p _ (Ex.new hp) (.of upd_same)⟩
  refine n a H (Ex.refl H) ?_
  unfold cutV
  rw [w.1, w.2]
  simpa using hS
theorem cut_take (xs : List V) (n : Nat) : cutV xs none (some (n : Int)) = xs.take n := by
  unfold cutV
  rw [HT.sIx_none, HT.sIx_nat, List.drop_zero, Nat.sub_zero]
  by_cases h : n ≤ xs.length
  · rw [Nat.min_eq_left h]
  · rw [Nat.min_eq_right (by omega), List.take_length, List.take_of_length_le (by omega)]
theorem cut_drop (xs : List V) (n : Nat) : cutV xs (some (n : Int)) none = xs.drop n := by
  unfold cutV
  rw [HT.sIx_none, HT.sIx_nat]
  by_cases h : n ≤ xs.length
  · rw [Nat.min_eq_left h, List.take_of_length_le (by rw [List.length_drop]; omega)]
  · rw [Nat.min_eq_right (by omega), List.drop_eq_nil_of_le (Nat.le_refl _), List.drop_eq_nil_of_le (by omega)]
    simp

/-! walks within a comprehension, their K named -/
section
variable {X : Cx} {K : PySem.W.Frag} {tg e : Expr} {te : TE}
theorem kPiL (he : PE X e te) (h : X.K = K := by rfl) : PI X tg e (iList K te) := by
  subst h
  exact pi_list he
theorem kPiT (he : PE X e te) (h : X.K = K := by rfl) : PI X tg e (iTup K te) := by
  subst h
  exact pi_tup he
end

/-! list(range(n)) as a new list of numbers -/
section
variable {X : Cx} {a : Expr} {ta : TE}
def natV (n : Nat) : List Int := (List.range n).map fun i : Nat => (i : Int)
def tListR (ta : TE) : TE := fun σ H Q => ta σ H fun x H1 => ∃ n : Nat, x = .int (n : Int) ∧ n ≤ 1000 ∧ New H1 (.lst ((natV n).map V.int)) Q
theorem pe_listR {p p2 pos pos2 : Pos} (hc : X.calm = true) (gl : Gl X "list") (ml : X.mg "list" = none) (gr : Gl X "range") (mr : X.mg "range" = none) (ha : PE X a ta)
    (na : starEach [a] X.env = (false, eval a X.env) :: starEach [] X.env := by rfl) :
    PE X (.Call (.Name "list" p) [.Call (.Name "range" p2) [a] [] pos2] [] pos) (tListR ta) := by
  have q := pe_listRg (p := p) (pos := pos) hc gl ml (prg_1 (p := p2) (pos := pos2) gr mr (PE.mon ha) na)
  refine ⟨fun pins s σ H Q I h => q.run pins s σ H Q I ?_⟩
  refine ⟨_, h, ?_⟩
  rintro x H1 ⟨n, rfl, n1, hq⟩
  refine ⟨n, rfl, RgOk.of_le (by decide) (by omega) (by decide) (by omega), fun q nq => ?_⟩
  have e : rgV 0 (n : Int) = (natV n).map V.int := by
    unfold rgV natV
    rw [List.map_map, show ((n : Int) - 0).toNat = n by omega]
    apply List.map_congr_left
    intro i _
    simp
  rw [e]
  exact hq q _ nq (Ex.new nq) upd_same
end

/-! math.factorial; comprehensions of two clauses; a star in a tuple -/
open PySem PySem.Spec PyProof.Rows L2 StX
section
variable {X : Cx}
def rFact : List V → Hp → VK → Prop := fun vs H Q => ∃ n : Nat, vs = [.int (n : Int)] ∧ n ≤ 1000 ∧ Q (.int ((Builtin.Math.factorialNat n : Nat) : Int)) H
theorem cr_fact : CallR X (.builtin "math.factorial") rFact := by
  intro pins s σ H vs us Q I r h
  obtain ⟨n, rfl, hn, q⟩ := h
  cases r with
  | cons r1 r2 =>
    cases r2
    obtain ⟨t, rfl⟩ := r1
    refine PySem.W.mc_factorial (by omega) (by omega) fun _ => ⟨.int _, H, I.tok _, ⟨_, rfl⟩, ?_⟩
    exact q
/-- the inner walk of a comprehension of two clauses -/
def Lc2In (g1 : TG) (tt1 : TT) (te : TE) (vs1 : List Nat) (σ2 : L2.St) (D : Addr) (Nx : Hp → Prop) (J1 : It) (H4 : Hp) : Prop := ∃ W1 : Nat → Nat → Hp → Prop, (∃ m, W1 0 m H4) ∧ ∀ j k H, W1 j k H →
      (J1.stop j H ∧ Nx H) ∨ (J1.go j H ∧ ∃ Nx1 : Hp → Prop, (∀ H', Nx1 H' → ∃ k', k' < k ∧ W1 (j + 1) k' H') ∧ ∀ x H', J1.yld j H x H' → g1 x (wipe σ2 vs1) H' fun σ3 H5 => wipe σ3 vs1 = wipe σ2 vs1 ∧ tt1 σ3 H5 fun b H6 =>
        if b = true then te σ3 H6 fun y H7 => ∃ acc, H7 D = some (.lst acc) ∧ acc.length < sizeLine ∧ Nx1 (upd H7 D (.lst (acc ++ [y]))) else Nx1 H6)
def LcW2 (J : It) (g : TG) (tt : TT) (wi1 : TI) (g1 : TG) (tt1 : TT) (te : TE) (vs vs1 : List Nat) (σ : L2.St) (H1 : Hp) (D : Addr) (Q : VK) : Prop := ∃ W : Nat → Nat → Hp → Prop, (∃ m, W 0 m (upd H1 D (.lst []))) ∧ ∀ i m H, W i m H →
  (J.stop i H ∧ Q (.ref D) H) ∨ (J.go i H ∧ ∃ Nx : Hp → Prop, (∀ H', Nx H' → ∃ m', m' < m ∧ W (i + 1) m' H') ∧ ∀ x H', J.yld i H x H' → g x (wipe σ vs) H' fun σ2 H2 => wipe σ2 vs = wipe σ vs ∧ tt σ2 H2 fun b H3 =>
    if b = true then wi1 σ2 H3 fun J1 H4 => Lc2In g1 tt1 te vs1 σ2 D Nx J1 H4 else Nx H3)
theorem r_lc2 {wi : TI} {g : TG} {tt : TT} {wi1 : TI} {g1 : TG} {tt1 : TT} {te : TE} {vs vs1 : List Nat} {σ : L2.St} {H : Hp} {Q : VK} : tLc2 wi g tt wi1 g1 tt1 te vs vs1 σ H Q = wi σ H fun J H1 => ∀ D, H1 D = none → LcW2 J g tt wi1 g1 tt1 te vs vs1 σ H1 D Q := rfl
theorem r_star {K : PySem.W.Frag} {te : TE} {t : TA} {σ : L2.St} {H : Hp} {Q : List V → Hp → Prop} : tStar K te t σ H Q = te σ H fun x H1 => ∃ p xs, x = V.ref p ∧ (SqT K H1 p xs ∨ SqL K H1 p xs) ∧ t σ H1 fun ys H2 => Q (xs ++ ys) H2 := rfl
section
variable {J : It} {n : Nat} {G : Hp → Prop} {Y : Nat → Hp → V → Hp → Prop}
theorem lc2_it (w : Walk J n G Y) {g : TG} {tt : TT} {wi1 : TI} {g1 : TG} {tt1 : TT} {te : TE} {vs vs1 : List Nat} {σ : L2.St} {H1 : Hp} {D : Addr} {Q : VK} (Pv : Nat → Hp → Prop) (h0 : Pv 0 (upd H1 D (.lst []))) (hG : ∀ i H, i ≤ n → Pv i H → G H)
    (hs : ∀ i x H H', i < n → Pv i H → Y i H x H' → g x (wipe σ vs) H' fun σ2 H2 => wipe σ2 vs = wipe σ vs ∧ tt σ2 H2 fun b H3 => if b = true then wi1 σ2 H3 fun J1 H4 => Lc2In g1 tt1 te vs1 σ2 D (Pv (i + 1)) J1 H4 else Pv (i + 1) H3)
    (hd : ∀ H, Pv n H → Q (.ref D) H) : LcW2 J g tt wi1 g1 tt1 te vs vs1 σ H1 D Q := by
  refine ⟨fun i m H => m = n - i ∧ i ≤ n ∧ Pv i H, ⟨n, by simp, Nat.zero_le _, h0⟩, ?_⟩
  rintro i m H ⟨rfl, hi, p⟩
  have q := hG i H hi p
  by_cases hlt : i < n
  · exact .inr ⟨w.goes i H hlt q, Pv (i + 1), fun H' p' => ⟨n - (i + 1), by omega, rfl, hlt, p'⟩, fun x H' y => hs i x H H' hlt p (w.yields i H x H' hlt q y)⟩
  · have e : i = n := by omega
    subst e
    exact .inl ⟨w.stops H q, hd H p⟩
theorem lc2_in (w : Walk J n G Y) {g1 : TG} {tt1 : TT} {te : TE} {vs1 : List Nat} {σ2 : L2.St} {H4 : Hp} {D : Addr} {Nx : Hp → Prop} (Pv : Nat → Hp → Prop) (h0 : Pv 0 H4) (hG : ∀ i H, i ≤ n → Pv i H → G H)
    (hs : ∀ i x H H', i < n → Pv i H → Y i H x H' → g1 x (wipe σ2 vs1) H' fun σ3 H5 => wipe σ3 vs1 = wipe σ2 vs1 ∧ tt1 σ3 H5 fun b H6 => if b = true then te σ3 H6 fun y H7 => ∃ acc, H7 D = some (.lst acc) ∧ acc.length < sizeLine ∧ Pv (i + 1) (upd H7 D (.lst (acc ++ [y]))) else Pv (i + 1) H6)
    (hd : ∀ H, Pv n H → Nx H) : Lc2In g1 tt1 te vs1 σ2 D Nx J H4 := by
  refine ⟨fun i m H => m = n - i ∧ i ≤ n ∧ Pv i H, ⟨n, by simp, Nat.zero_le _, h0⟩, ?_⟩
  rintro i m H ⟨rfl, hi, p⟩
  have q := hG i H hi p
  by_cases hlt : i < n
  · exact .inr ⟨w.goes i H hlt q, Pv (i + 1), fun H' p' => ⟨n - (i + 1), by omega, rfl, hlt, p'⟩, fun x H' y => hs i x H H' hlt p (w.yields i H x H' hlt q y)⟩
  · have e : i = n := by omega
    subst e
    exact .inl ⟨w.stops H q, hd H p⟩
end
/-- the truth of a tuple -/
theorem pt_truT {K : PySem.W.Frag} {a : Expr} {ta : TE} (ha : PE X a ta) (he : ∀ whole, isTrue a X.env whole = (do let v ← whole; standAt a.pos; holding [v] (truthy v))) (h : X.K = K := by rfl) :
    PT X a (fun σ H Q => ta σ H fun x H' => ∃ p xs, x = .ref p ∧ SqT K H' p xs ∧ Q (!xs.isEmpty) H') := by
  subst h
  refine ⟨fun pins s σ H Q I q => ?_⟩
  refine isTrue_plain (thn ((PE.mon ha).run pins s σ H _ I ⟨_, q, fun y H' z => z⟩) fun v s1 ⟨x, H1, I1, r1, p, xs, e, hx, q1⟩ => ?_) (he _)
  refine tru_ok pins s1 σ H1 x v Q I1 r1 ⟨_, ?_, q1⟩
  subst e
  exact .inr (.inl ⟨xs, hx, rfl⟩)
theorem loopEl {K : PySem.W.Frag} {g : TG} {D : Ends} {σ : L2.St} {H : Hp} {a : Addr} {xs : List V} {tb : TS} (Pv : Nat → L2.St → Hp → Prop) (h0 : Pv 0 σ H) (hl : ∀ i σ H, i ≤ xs.length → Pv i σ H → SqL K H a xs)
    (hs : ∀ i x σ H T H', xs[i]? = some x → Pv i σ H → Ex H H' → H' T = some (.tup [.int (i : Nat), x]) → g (.ref T) σ H' fun σ2 H2 => tb { nx := Pv (i + 1), rt := D.rt, bk := D.nx, ct := Pv (i + 1) } σ2 H2) (hd : ∀ σ H, Pv xs.length σ H → D.nx σ H) : LoopW (Ite K a) g tb D σ H :=
  for_it (walk_enum (K := K) (a := a) (xs := xs)) Pv h0 hl (fun i v σ H H' hi hp y => by
    obtain ⟨T, x, z, rfl, hn, rfl, h1, h2⟩ := y
    cases h1
    exact hs i z σ H T _ h2 hp (Ex.new hn) upd_same) hd
theorem kStar {K : PySem.W.Frag} {e : Expr} {es : List Expr} {te : TE} {t : TA} {p : Pos} (he : PE X e te) (hr : PA X es t) (hs : starEach (.Starred e p :: es) X.env = (true, eval e X.env) :: starEach es X.env := by rfl) (h : X.K = K := by rfl) : PA X (.Starred e p :: es) (tStar K te t) := by
  subst h
  exact pa_star he hr hs
def rNotT : R2 := fun x y H Q => ∃ a b, x = .bl a ∧ y = .bl b ∧ Q (.bl (!decide (a = b))) H
theorem op_notT : OpR X (compareOp .IsNot) rNotT := op_isnot_bl
/-- a loop over enumerate of a list -/
theorem r_enumL {tx : TA} {K : PySem.W.Frag} {σ : L2.St} {H : Hp} {S : It → Hp → Prop} : iEnum K tx σ H S = tx σ H fun vs H1 => ∃ a xs, vs = [.ref a] ∧ SqL K H1 a xs ∧ S (Ite K a) H1 := rfl
end

/-! perm, isqrt, in, sorted, name op= e -/
section
variable {X : Cx}
def prm (a : Nat) (k : Nat) : Int := Builtin.Math.fallingProduct (a : Int) k
def rPerm : List V → Hp → VK → Prop := fun vs H Q => ∃ a k : Nat, vs = [.int (a : Int), .int (k : Int)] ∧ k ≤ a ∧ k ≤ 8 ∧ a < 2 ^ 2000 ∧ Q (.int (prm a k)) H
theorem cr_perm : CallR X (.builtin "math.perm") rPerm := by
  intro pins s σ H vs us Q I r h
  obtain ⟨a, k, rfl, hk, h8, ha, q⟩ := h
  obtain ⟨t, u, rfl⟩ := Vals.int2 r
  have hb : (Builtin.Math.fallingProduct (a : Int) k).natAbs ≤ 2 ^ (2000 * k) := fp_abs (by omega) (by rw [Int.natAbs_natCast]; exact Nat.le_of_lt ha) k (by omega)
  have hs : (Builtin.Math.fallingProduct (a : Int) ((k : Int)).toNat).natAbs.log2 < bitsLine := by
    rw [Int.toNat_natCast]
    exact lg (Nat.le_trans hb (Nat.pow_le_pow_right (by decide) (show 2000 * k ≤ 16000 by omega))) (by decide)
  have g := PySem.W.mc_run_perm (a : Int) t (k : Int) u (by omega) (by omega) (by omega) (by show ¬(k : Int) > 2 ^ 63 - 1; omega) (by show ¬(k : Int) > 20000; omega) hs
  rw [Int.toNat_natCast] at g
  exact call_function_meets PySem.W.MGF.kind_perm PySem.W.MGF.plain_perm PySem.W.MGF.entry_perm (PySem.W.MGF.args_perm _ _) g.meets ⟨.int _, H, I.tok _, ⟨_, rfl⟩, q⟩
def rIsqrt : List V → Hp → VK → Prop := fun vs H Q => ∃ a : Nat, vs = [.int (a : Int)] ∧ a < 2 ^ 2000 ∧ ∀ m : Nat, m * m ≤ a → a < (m + 1) * (m + 1) → Q (.int (m : Int)) H
theorem cr_isqrt : CallR X (.builtin "math.isqrt") rIsqrt := by
  intro pins s σ H vs us Q I r h
  obtain ⟨a, rfl, ha, q⟩ := h
  cases r with
  | cons r1 r2 =>
    cases r2
    obtain ⟨t, rfl⟩ := r1
    have hl : a.log2 ≤ 2000 := log_le ha
    have g := PySem.W.mg_run_isqrt (a : Int) t (by omega) (by rw [Int.toNat_natCast]; omega) (by rw [Int.toNat_natCast]; omega)
    rw [Int.toNat_natCast] at g
    obtain ⟨s1, s2⟩ := PySem.Float64.isqrt_spec a
    exact call_function_meets PySem.W.MGF.kind_isqrt PySem.W.MGF.plain_isqrt PySem.W.MGF.entry_isqrt (PySem.W.MGF.args_isqrt _) g.meets ⟨.int _, H, I.tok _, ⟨_, rfl⟩, q _ s1 s2⟩
/-- a number among a list's numbers -/
def rInI (K : PySem.W.Frag) : R2 := fun x y H Q => ∃ (p : Addr) (i : Int) (ns : List Int), x = .int i ∧ y = .ref p ∧ SqL K H p (ns.map V.int) ∧ Q (.bl (ns.any fun n => n == i)) H
theorem kIn {K : PySem.W.Frag} (h : X.K = K := by rfl) : OpR X (compareOp .In) (rInI K) := by
  subst h
  refine OpR.imp op_in_seq fun x y H Q ⟨p, i, ns, e1, e2, hs, q⟩ => ?_
  subst e1 e2
  refine ⟨p, ns.map V.int, rfl, .inl hs, rfl, by simp [List.all_map, flatV], ?_⟩
  have : inV (.int i) (ns.map V.int) = ns.any fun n => n == i := by
    unfold inV
    rw [List.any_map]
    congr 1
  rw [this]
  exact q
def rSrtN (K : PySem.W.Frag) : List V → Hp → VK → Prop := fun vs H Q => ∃ (a : Addr) (ns : List Int), vs = [V.ref a] ∧ SqL K H a (ns.map V.int) ∧ ∀ ns' : List Int, ns'.Perm ns → ns'.Pairwise (· ≤ ·) → New H (.lst (ns'.map V.int)) Q
theorem kSrt {K : PySem.W.Frag} (h : X.K = K := by rfl) : CallR X (.builtin "sorted") (rSrtN K) := by
  subst h
  exact CallR.imp cr_sortedI fun vs H Q ⟨a, ns, e, hs, q⟩ => ⟨a, ns, e, hs, fun ns' p h1 h2 np => (q ns' h1 h2).at p np⟩
def rReprB : List V → Hp → VK → Prop := fun vs H Q => ∃ b : Bool, vs = [.bl b] ∧ Q (.str (if b = true then "True" else "False")) H
theorem cr_reprB : CallR X (.builtin "repr") rReprB := by
  intro pins s σ H xs us Q I r h
  obtain ⟨b, rfl, q⟩ := h
  cases r with
  | cons r1 r2 =>
    cases r2
    cases r1
    exact PySem.P.repr_of_bool ⟨.str _, H, I.tok _, ⟨_, rfl⟩, q⟩
theorem r_aug {i : Nat} {te : TE} {ti : TIp} {D : Ends} {σ : L2.St} {H : Hp} : tAug i te ti D σ H = ∃ x, σ[i]? = some (some x) ∧ te σ H fun y H1 => ti x y H1 fun z H2 => D.nx (σ.set i (some z)) H2 := rfl
end

/-! perm beyond its number -/
section
variable {X : Cx}
def prmA (a k : Nat) : Int := if k ≤ a then prm a k else 0
def rPermA : List V → Hp → VK → Prop := fun vs H Q => ∃ a k : Nat, vs = [.int (a : Int), .int (k : Int)] ∧ k ≤ 8 ∧ a < 2 ^ 2000 ∧ Q (.int (prmA a k)) H
theorem cr_permA : CallR X (.builtin "math.perm") rPermA := by
  intro pins s σ H vs us Q I r h
  obtain ⟨a, k, rfl, h8, ha, q⟩ := h
  by_cases hk : k ≤ a
  · refine cr_perm pins s σ H _ us Q I r ⟨a, k, rfl, hk, h8, ha, ?_⟩
    unfold prmA at q
    rw [if_pos hk] at q
    exact q
  · obtain ⟨t, u, rfl⟩ := Vals.int2 r
    have g := PySem.W.mc_run_perm0 (a : Int) t (k : Int) u (by omega) (by omega) (by omega)
    unfold prmA at q
    rw [if_neg hk] at q
    exact call_function_meets PySem.W.MGF.kind_perm PySem.W.MGF.plain_perm PySem.W.MGF.entry_perm (PySem.W.MGF.args_perm _ _) g.meets ⟨.int _, H, I.tok _, ⟨_, rfl⟩, q⟩
end
/-! powers of great numbers -/
section
variable {X : Cx}
def CPowW (i j : Int) : Prop := 0 ≤ j ∧ j ≤ 1000 ∧ i.natAbs < 2 ^ 8000
theorem op_powW : OpR X (binaryOp .Pow) (rI CPowW fun i j => .int (i ^ j.toNat)) := opI fun i j _ _ _ _ _ hc q => pow_int hc.1 (by
  have hb : Builtin.Int.intBits i ≤ 8000 := intBits_le hc.2.2
  have h0 := hc.1
  have h1 := hc.2.1
  have h2 : (Builtin.Int.intBits i : Int) * j ≤ 8000 * j := Int.mul_le_mul_of_nonneg_right (by omega) h0
  omega) q
end
def b30 : Int := 1000000000000000000000000000000
theorem b30_eq : b30 = 1000000000000000000000000000000 := rfl
def b9 : Int := 1000000000
theorem b9_eq : b9 = 1000000000 := rfl

/-! texts -/
open PySem PySem.Spec PyProof.Rows L2 SX
open PySem.Builtin.Str (padded strSub subAt)
theorem zfill_S {a : List Nat} {n : Nat} (h0 : ∀ c, a.head? = some c → 48 ≤ c) (hn : a.length ≤ n) : Txt.zfill (S a) (n : Int) = S (List.replicate (n - a.length) 48 ++ a) := by
  unfold Txt.zfill
  rw [S_len]
  by_cases h : (n : Int) ≤ (a.length : Int)
  · rw [if_pos h, show n - a.length = 0 by omega]
    rfl
  · rw [if_neg h, Int.toNat_natCast]
    unfold zfilled
    have pe : padded (S a) (n - a.length) 0 48 = S (List.replicate (n - a.length) 48 ++ a) := by
      unfold padded
      refine TL.ext_tl ?_
      simp [TL.tl, S]
    have g : (S a).cps[0]? = a.head? := by
      cases a <;> simp [S]
    rw [g]
    split
    · rename_i e
      have := h0 _ e
      omega
    · rename_i e
      have := h0 _ e
      omega
    · exact pe
theorem drop_tw {p : Nat → Bool} : ∀ a : List Nat, a.drop (a.takeWhile p).length = a.dropWhile p
  | [] => rfl
  | c :: a => by
    by_cases h : p c = true
    · rw [List.takeWhile_cons_of_pos h, List.dropWhile_cons_of_pos h, List.length_cons, List.drop_succ_cons]
      exact drop_tw a
    · rw [List.takeWhile_cons_of_neg h, List.dropWhile_cons_of_neg h]
      rfl
theorem lstrip_S {a b : List Nat} : Txt.lstripChars (S a) (S b) = S (a.dropWhile b.contains) := by
  have hg : ((S b).cps.contains : Nat → Bool) = b.contains := by
    funext c
    simp [S]
  have lo : stripLo (S b).cps.contains true (S a) = (a.takeWhile b.contains).length := by
    unfold stripLo
    rw [if_pos rfl, hg]
  have hi : stripHi (S b).cps.contains false (S a) (stripLo (S b).cps.contains true (S a)) = a.length := by
    unfold stripHi
    rw [if_neg (by decide), S_len]
  unfold Txt.lstripChars Txt.stripBy stripSame stripped
  rw [hi, lo, S_len]
  by_cases h : (a.takeWhile b.contains).length = 0
  · rw [h]
    have := drop_tw (p := b.contains) a
    rw [h, List.drop_zero] at this
    rw [← this]
    simp
  · have hb : ((a.takeWhile b.contains).length == 0 && a.length == a.length) = false := by
      rw [beq_eq_false_iff_ne.mpr h]
      rfl
    rw [hb, if_neg (by decide)]
    refine TL.ext_tl ?_
    have := TL.tl_strSub (S a) (a.takeWhile b.contains).length a.length
    rw [this]
    show ((a.drop _).take _) = _
    have l1 := congrArg List.length (drop_tw (p := b.contains) a)
    rw [List.length_drop] at l1
    rw [drop_tw, List.take_of_length_le (by omega)]
theorem ascii_S {a : List Nat} (h : ∀ c ∈ a, c < 128) : Txt.isascii (S a) = true := by
  unfold Txt.isascii
  rw [← Array.all_toList]
  exact List.all_eq_true.mpr fun c hc => decide_eq_true (h c hc)
theorem isdig (c : Nat) (h : 48 ≤ c ∧ c ≤ 57) : Unicode.isDigit c = true := by
  have : ∀ c, c < 58 → 48 ≤ c → Unicode.isDigit c = true := by decide +kernel
  exact this c (by omega) h.1
theorem digit_S {a : List Nat} (h : ∀ c ∈ a, 48 ≤ c ∧ c ≤ 57) (hne : a ≠ []) : Txt.isdigit (S a) = true := by
  unfold Txt.isdigit
  rw [S_len, ← Array.all_toList, Bool.and_eq_true]
  refine ⟨decide_eq_true ?_, List.all_eq_true.mpr fun c hc => isdig c (h c hc)⟩
  exact List.length_pos_iff.mpr hne
theorem start_S {a b : List Nat} : Txt.startswith (S a) (S b) = (a.take b.length == b) := by
  unfold Txt.startswith subAt
  rw [S_len, S_len, Nat.zero_add]
  have e : ((S a).cps.extract 0 b.length == (S b).cps) = (a.take b.length == b) := by
    have : (S a).cps.extract 0 b.length = (a.take b.length).toArray := by simp [S]
    rw [this]
    have h2 : ((a.take b.length).toArray == b.toArray) = (a.take b.length == b) := by simp
    exact h2
  rw [e]
  by_cases h : b.length ≤ a.length
  · rw [decide_eq_true h, Bool.true_and]
  · rw [decide_eq_false h, Bool.false_and]
    symm
    refine beq_eq_false_iff_ne.mpr fun z => h ?_
    have := congrArg List.length z
    rw [List.length_take] at this
    omega
theorem num_head {n : Nat} (h : 0 < n) : ∃ c l, TL.numL n = c :: l ∧ c ≠ 48 := by
  induction n using Nat.strongRecOn with
  | ind n ih =>
    by_cases h10 : n < 10
    · exact ⟨48 + n, [], TL.numL_lt h10, by omega⟩
    · obtain ⟨c, l, e, hc⟩ := ih (n / 10) (by omega) (by omega)
      refine ⟨c, l ++ [48 + n % 10], ?_, hc⟩
      rw [TL.numL_step (by omega), e]
      rfl
theorem num_zero : TL.numL 0 = [48] := TL.numL_lt (by decide)
theorem drop_num (k n : Nat) : (List.replicate k 48 ++ TL.numL n).dropWhile ([48] : List Nat).contains = if n = 0 then [] else TL.numL n := by
  induction k with
  | zero =>
    rw [List.replicate_zero, List.nil_append]
    by_cases h : n = 0
    · subst h
      rw [if_pos rfl, num_zero]
      decide
    · rw [if_neg h]
      obtain ⟨c, l, e, hc⟩ := num_head (by omega : 0 < n)
      rw [e, List.dropWhile_cons_of_neg]
      simp
      omega
  | succ k ih =>
    rw [List.replicate_succ, List.cons_append, List.dropWhile_cons_of_pos (by decide)]
    exact ih
theorem val_zeros (k : Nat) (a : List Nat) : NumText.digitsVal (List.replicate k 48 ++ a) = NumText.digitsVal a := by
  unfold NumText.digitsVal
  rw [List.foldl_append]
  have : ∀ k : Nat, (List.replicate k 48).foldl (fun acc c => acc * 10 + (c - 48)) 0 = 0 := by
    intro k
    induction k with
    | zero => rfl
    | succ k ih =>
      rw [List.replicate_succ, List.foldl_cons]
      exact ih
  rw [this]
section
variable {X : Cx}
/-- int of a text of digits -/
def rIntT : List V → Hp → VK → Prop := fun vs H Q => ∃ a : List Nat, vs = [.str (S a)] ∧ NumText.AllDigits a ∧ a ≠ [] ∧ a.length ≤ 640 ∧ Q (.int ((NumText.digitsVal a : Nat) : Int)) H
theorem cr_intT : CallR X (.type "int") rIntT := by
  intro pins s σ H xs us Q I r h
  obtain ⟨a, rfl, hd, hn, hl, q⟩ := h
  obtain ⟨u, rfl, t, rfl⟩ := vals1 r
  have z := intText_digits (x := S a) hd hn (by rw [S_len]; omega)
  exact PySem.W.KIN.call_text z (by rw [S_len]; exact hl) ⟨.int _, H, I.tok _, ⟨_, rfl⟩, q⟩
end
section
variable {σ : L2.St} {H : Hp} {Q : VK} {to te : TE} {rr : V → List V → Hp → VK → Prop} {ts : List TE} {acc : Str} {Qs : Str → Hp → Prop} {t : TE}
theorem r_m0 : tM0 rr to σ H Q = to σ H fun x H1 => (∃ a, x = .str a) ∧ rr x [] H1 Q := rfl
theorem r_m1 : tM1 rr to te σ H Q = to σ H fun x H1 => (∃ a, x = .str a) ∧ te σ H1 fun y H2 => rr x [y] H2 Q := rfl
theorem r_js0 : tJs [] acc σ H Qs = Qs acc H := rfl
theorem r_js : tJs (t :: ts) acc σ H Qs = t σ H fun x H1 => ∃ y : Str, x = .str y ∧ (acc ++ y).length ≤ sizeLine ∧ tJs ts (acc ++ y) σ H1 Qs := rfl
theorem r_fmt : tFmt te σ H Q = te σ H fun x H1 => (∃ y : Str, x = .str y ∧ y.length ≤ sizeLine ∧ Q (.str y) H1) ∨ ∃ i : Int, x = .int i ∧ i.natAbs.log2 < 1920 ∧ Q (.str (toString i)) H1 := rfl
end
open PySem PySem.Spec PyProof.Rows L2 SX
theorem slice_zero (z : Str) (hi : Option Int) : Txt.slice z (some 0) hi = Txt.slice z none hi := by
  unfold Txt.slice
  have : Builtin.Str.strSliceIndices (some 0) hi 1 z.length = Builtin.Str.strSliceIndices none hi 1 z.length := by
    simp only [Builtin.Str.strSliceIndices]
    congr 1
  rw [this]
section
variable {X : Cx} {K : PySem.W.Frag}
def rJoin (K : PySem.W.Frag) : V → List V → Hp → VK → Prop := fun x xs H Q => ∃ a p, ∃ ys : List Str, x = .str a ∧ xs = [.ref p] ∧ (SqL K H p (ys.map V.str) ∨ SqT K H p (ys.map V.str)) ∧
    (ys.map (·.length)).sum + ys.length * a.length ≤ 16777216 ∧ Q (.str (Txt.join a ys)) H
theorem kJoin (h : X.K = K := by rfl) : MtR X "str.join" (rJoin K) := by
  subst h
  exact mt_join
end
open PySem PySem.Spec PyProof.Rows L2 SX
section
variable {X : Cx} {K : PySem.W.Frag}
def tRevN (K : PySem.W.Frag) (te : TE) : TE := fun σ H Q => te σ H fun x H1 => ∃ a xs, x = .ref a ∧ SqL K H1 a xs ∧ New H1 (.lst xs.reverse) Q
theorem kRevL {e : Expr} {te : TE} {k : Nat} {p1 p2 p3 pos : Pos} (he : PE X e te) (h : X.K = K := by rfl) : PE X (.Subscript e (.Slice none none (some (.UnaryOp .USub (.Constant (.int 1) k p1) p2)) p3) pos) (tRevN K te) := by
  subst h
  refine ⟨fun pins s σ H Q I q => (pe_revL (pos := pos) (p1 := p1) (p2 := p2) (p3 := p3) (k := k) (PE.mon he)).run pins s σ H Q I ?_⟩
  refine ⟨_, q, ?_⟩
  rintro x H1 ⟨a, xs, e1, h1, nw⟩
  exact ⟨a, xs, e1, h1, fun p hp => nw.at p hp⟩
theorem r_revN {te : TE} {σ : L2.St} {H : Hp} {Q : VK} : tRevN K te σ H Q = te σ H fun x H1 => ∃ a xs, x = .ref a ∧ SqL K H1 a xs ∧ New H1 (.lst xs.reverse) Q := rfl
theorem r_rng3 {ta : TA} {σ : L2.St} {H : Hp} {S : It → Hp → Prop} : iRng3 ta σ H S = ta σ H fun vs H1 => ∃ (i j c : Int) (n : Nat), vs = [.int i, .int j, .int c] ∧ RgC i j c n ∧ S (Itc i c n) H1 := rfl
end
section
variable {te : TE} {vs : List Nat} {σ : L2.St} {H1 : Hp} {Dd : Addr} {Q : VK} {j : Nat}
/-- a comprehension over a range with a step -/
theorem lcC {lo c : Int} {n : Nat} (R : Nat → V → Hp → Prop) (hR : ∀ i y H H', Kp H H' → R i y H → R i y H') (hD : H1 Dd = none) (hz : n ≤ 100000)
    (hw : ∀ x, wipe ((wipe σ vs).set j (some x)) vs = wipe σ vs)
    (hs : ∀ (i : Nat) H, i < n → Ex H1 H → tmE te ((wipe σ vs).set j (some (.int (lo + (i : Nat) * c)))) H fun y H4 => Ex H H4 ∧ R i y H4)
    (hd : LcEnd H1 Dd n R Q) : LcW (Itc lo c n) (gName j) tYes (tmE te) vs σ H1 Dd Q :=
  lc_it (Qd := fun H => Q (.ref Dd) H) walk_rangeC (LcJ H1 Dd R) (lcJ_start hD) (fun i H _ _ => trivial) (fun i v H H' hi p y => by
    obtain ⟨e1, e2⟩ := y
    subst e1 e2
    obtain ⟨acc, q1, q2, q3, q4⟩ := id p
    refine ⟨hw _, ?_⟩
    obtain ⟨R0, z1, z2⟩ := hs i _ hi q3
    exact ⟨R0, z1, fun y H4 r0 => lcJ_turn hR hD p (z2 y H4 r0).1 (z2 y H4 r0).2 (by omega)⟩)
    fun H ⟨acc, q1, q2, q3, q4⟩ => hd H acc q3 q1 q2 q4
end

/-! len, bool, str, repr by a class's own methods -/
open PySem.Builtin PySem.Builtin.Str
/-- C's own special method `name` is the def at f -/
def OwnSp (K : PySem.W.Frag) (C : Addr) (name : Str) (f : Addr) : Prop := ∃ (N : Addr) (of : Obj) (nm q : Str) (bs : List Value) (hdct : Bool) (sn : List Str) (sub : List Value) (ab : Bool) (col : Option Bool) (dd : Option Addr) (k0 k1 k2 k3 k5 : Option Value) (newId : String),
  K.lookup C = some (excClassObj nm q C N bs [.type "object"] hdct sn sub ab col dd k0 k1 k2 k3 k5 newId) ∧ PySem.W.nsOkIn K N = true ∧ PySem.W.nsIn K N name = some (some (.ref f)) ∧ K.lookup f = some of ∧ of.cls = .type "function"
/-- C has no special method `name` -/
def NoSp (K : PySem.W.Frag) (C : Addr) (name : Str) : Prop := ∃ (N : Addr) (nm q : Str) (bs : List Value) (hdct : Bool) (sn : List Str) (sub : List Value) (ab : Bool) (col : Option Bool) (dd : Option Addr) (k0 k1 k2 k3 k5 : Option Value) (newId : String),
  K.lookup C = some (excClassObj nm q C N bs [.type "object"] hdct sn sub ab col dd k0 k1 k2 k3 k5 newId) ∧ PySem.W.nsOkIn K N = true ∧ PySem.W.nsIn K N name = some none
theorem ns_some2 {K : PySem.W.Frag} {h : Heap} {N : Addr} {m : Str → Option Value} {n : Str} {v : Value} (X : K.In h) (G : h.Ns N m) (e : PySem.W.nsIn K N n = some (some v)) : m n = some v := by
  obtain ⟨o, es, ep, ho, hd, ok, hf⟩ := G
  unfold PySem.W.nsIn at e
  split at e
  · rename_i q
    have z := X _ _ q
    rw [ho] at z
    cases z
    cases hd
    split at e
    · rename_i en hen
      cases e
      rw [← hf]
      unfold nsFind findBy
      rw [← Array.find?_toList, hen]
      rfl
    · split at e <;> cases e
  · cases e
theorem OwnSp.at {K : PySem.W.Frag} {C f a : Addr} {name : Str} {hp : Heap} {o : Obj} {y : Option Value} (S : OwnSp K C name f) (KI : K.In hp) (ha : hp.get? a = some o) (hc : o.cls = .ref C) (hB : typeLookup (.type "object") name = pure y) : hp.OwnSpecial a C f "object" name := by
  obtain ⟨N, of, nm, q, bs, hdct, sn, sub, ab, col, dd, k0, k1, k2, k3, k5, newId, lC, okN, n1, lf, cf⟩ := S
  have hns : hp.Ns N (hp.nsMap N) := .of_isNs (PySem.W.isNs_of_in KI okN)
  exact ⟨o, of, nm, q, N, bs, _, hdct, sn, sub, ab, col, dd, k0, k1, k2, k3, k5, newId, _, y, ha, hc, KI _ _ lC, hns, ns_some2 KI hns n1, KI _ _ lf, cf, PySem.F.cmp_object.mro, hB⟩
theorem obj_len : typeLookup (.type "object") "__len__" = pure none := by rw [typeLookup_type, builtinLookup_eq_fast]; kernel_rfl
theorem obj_bool : typeLookup (.type "object") "__bool__" = pure none := by rw [typeLookup_type, builtinLookup_eq_fast]; kernel_rfl
theorem obj_str : typeLookup (.type "object") "__str__" = pure (some (.builtin "object.__str__")) := by rw [typeLookup_type, builtinLookup_eq_fast]; kernel_rfl
theorem obj_repr : typeLookup (.type "object") "__repr__" = pure (some (.builtin "object.__repr__")) := by rw [typeLookup_type, builtinLookup_eq_fast]; kernel_rfl
section
variable {prog : Program} {w : World} {A : Around} {E : Value → Shared → Prop} {h : Heap} {g : Array GenState} {d : Drawn} {t : Nat} {os : OsState} {C x f : Addr} {B : String}
theorem str_own {Q : Value → Shared → Prop} (X : h.OwnSpecial x C f B "__str__") (hu : A.in1.in1.units < cLine)
    (hcall : wpAny (model prog w) A.in1.in1 (call (.ref f) [.ref x]) (fun r s' => ∃ m tk, r = .str m tk ∧ Q (.str m tk) s') E ⟨h, g, d, t, os⟩) :
    wpAny (model prog w) A (call (.type "str") [.ref x]) Q E ⟨h, g, d, t, os⟩ := by
  refine callType_newIn (S := fun A' R s => wpAny (model prog w) A'.in1 (Builtin.Str.strOf (.ref x)) (fun r s' => R (.ok (.ret r)) s') (fun e s' => R (.error e) s') s) F.called_str (by decide) (F.typeCall_str_1 _) (F.newCall_str_1 _) (fun obj => F.args_object_init_2 obj _) F.entry_str_new ?_ ?_
  · intro A' R s hs
    rw [str_new_tree (.ref x)]
    refine wpAny_bind (wpAny_pure ?_)
    refine wpAny_bind (wpAny_of_eq isSubtype_str_str ?_)
    exact wpAny_bind (wpAny_mono hs (fun r s' h' => wpAny_pure h') fun _ _ e => e)
  · unfold Builtin.Str.strOf
    rw [if_neg (by simp [isExactStr])]
    refine wpAny_bind (wpAny_cRoomFor hu ?_)
    refine wpAny_bind (m := callSpecial? (.ref x) (Str.ofString "__str__")) (wpAny_callSpecial?_own X (wpAny_mono hcall (fun r s' hr => ?_) fun _ _ y => y))
    obtain ⟨m, tk, rfl, hq⟩ := hr
    refine wpAny_bind (wpAny_pure ?_)
    exact wpAny_pure ⟨typeIs_str _ _ _, hq⟩
theorem special_none {M : Model} {name : Str} {K : PySem.W.Frag} {o : Obj} {Q : Option Value → Shared → Prop} (S : NoSp K C name) (KI : K.In h) (ha : h.get? x = some o) (hc : o.cls = .ref C) (hB : typeLookup (.type "object") name = pure none) (hq : Q none ⟨h, g, d, t, os⟩) :
    wpAny M A (specialOf (.ref x) name) Q E ⟨h, g, d, t, os⟩ := by
  obtain ⟨N, nm, q, bs, hdct, sn, sub, ab, col, dd, k0, k1, k2, k3, k5, newId, lC, okN, n1⟩ := S
  have hns : h.Ns N (h.nsMap N) := .of_isNs (PySem.W.isNs_of_in KI okN)
  have hf := PySem.W.ns_none_of KI hns n1
  have hC := KI _ _ lC
  unfold specialOf
  repeat (first | (with_reducible refine wpAny_loadPart_at ha ?_; rw [hc]) | (with_reducible refine wpAny_typeLookup_exc hC hns PySem.F.cmp_object.mro hB ?_; rw [hf]) | wp_step)
  exact hq
theorem callSpecial_none {M : Model} {name : Str} {args : List Value} {K : PySem.W.Frag} {o : Obj} {Q : Option Value → Shared → Prop} (S : NoSp K C name) (KI : K.In h) (ha : h.get? x = some o) (hc : o.cls = .ref C) (hB : typeLookup (.type "object") name = pure none) (hq : Q none ⟨h, g, d, t, os⟩) :
    wpAny M A (callSpecial? (.ref x) name args) Q E ⟨h, g, d, t, os⟩ := by
  unfold callSpecial?
  refine wpAny_bind (special_none S KI ha hc hB ?_)
  exact wpAny_pure hq
theorem truthy_ownlen {K : PySem.W.Frag} {o : Obj} {Q : Bool → Shared → Prop} (S : NoSp K C "__bool__") (KI : K.In h) (ha : h.get? x = some o) (hc : o.cls = .ref C) (X : h.OwnSpecial x C f B "__len__")
    (hcall : wpAny (model prog w) A.in1 (call (.ref f) [.ref x]) (fun r s' => ∃ n u, r = .int n u ∧ 0 ≤ n ∧ n < 2 ^ 63 ∧ Q (n != 0) { s' with toks := s'.toks + 1 }) E ⟨h, g, d, t, os⟩) :
    wpAny (model prog w) A (truthy (.ref x)) Q E ⟨h, g, d, t, os⟩ := by
  have key : wpAny (model prog w) A (runValue (.builtin "len" ⟨[.ref x], []⟩)) (fun r s' => ∃ n u, r = .int n u ∧ Q (n != 0) s') E ⟨h, g, d, t, os⟩ := by
    refine wpAny_runValue (codeAny_builtin entry_len ?_)
    rw [Around.under_plainId plain_len _]
    unfold Builtin.«len»
    refine wpAny_bind (m := oneArg "len" _) (wpAny_pure ?_)
    refine wpAny_bind (m := callSpecial? (.ref x) (Str.ofString "__len__")) (wpAny_callSpecial?_own X (wpAny_mono hcall (fun r s' hr => ?_) fun _ _ y => y))
    obtain ⟨n, u, rfl, h0, h1, hq⟩ := hr
    refine wpAny_bind (wpAny_holding (wpAny_pure ?_))
    refine wpAny_bind (wpAny_letGo ?_)
    show wpAny _ _ (if n < 0 then _ else _) _ _ _
    rw [if_neg (by omega)]
    show wpAny _ _ (if n ≥ 2 ^ 63 then _ else _) _ _ _
    rw [if_neg (by omega)]
    exact wpAny_bind (wpAny_mkInt (wpAny_pure ⟨n, _, rfl, hq⟩))
  unfold truthy
  first
    | refine wpAny_bind (m := callSpecial? (.ref x) (Str.ofString "__bool__")) (callSpecial_none S KI ha hc obj_bool ?_)
    | (refine wpAny_bind (wpAny_pure ?_); refine wpAny_bind (m := callSpecial? (.ref x) (Str.ofString "__bool__")) (callSpecial_none S KI ha hc obj_bool ?_))
  first
    | refine wpAny_bind (wpAny_specialOf_own X ?_)
    | (refine wpAny_bind (wpAny_pure ?_); refine wpAny_bind (wpAny_specialOf_own X ?_))
  first
    | exact wpAny_bind (wpAny_mono key (fun r s' h' => by obtain ⟨n, u, rfl, hq⟩ := h'; exact wpAny_pure hq) fun _ _ e => e)
    | exact wpAny_bind (wpAny_pure (wpAny_bind (wpAny_mono key (fun r s' h' => by obtain ⟨n, u, rfl, hq⟩ := h'; exact wpAny_pure hq) fun _ _ e => e)))
theorem bool_own {Q : Value → Shared → Prop} (ht : wpAny (model prog w) A.in1.in1 (truthy (.ref x)) (fun b s' => Q (.bool b) s') E ⟨h, g, d, t, os⟩) :
    wpAny (model prog w) A (call (.type "bool") [.ref x]) Q E ⟨h, g, d, t, os⟩ := by
  refine callType_newIn (S := fun A' R s => wpAny (model prog w) A'.in1 (truthy (.ref x)) (fun b s' => R (.ok (.ret (.bool b))) s') (fun e s' => R (.error e) s') s) F.called_bool F.newNe_bool (F.typeCall_bool_1 _) (F.newCall_bool_1 _) (fun obj => F.args_object_init_2 obj _) F.entry_bool_new ?_ ?_
  · intro A' R s hs
    have f1 := F.conv_sub_bool
    unfold Builtin.«bool.__new__»
    refine wpAny_bind (wpAny_pure ?_)
    refine wpAny_bind (wpAny_of_eq f1 ?_)
    refine wpAny_bind (wpAny_pure ?_)
    exact wpAny_bind (wpAny_mono hs (fun b s' h' => wpAny_pure h') fun _ _ e => e)
  · exact wpAny_mono ht (fun b s' hq => ⟨PySem.typeIs_bool _ _, hq⟩) fun _ _ e => e
end

/-! == and != of an own instance and a value of another kind -/
open PySem.Builtin AutoSeq1 MeetsSeq
/-- x is an instance of the class whose object says: bases of its order bm -/
def InsAt (h : Heap) (x C : Addr) (bm : List Value) : Prop := ∃ (o : Obj) (nm q : Str) (N : Addr) (bs : List Value) (hdct : Bool) (sn : List Str) (sub : List Value) (ab : Bool) (col : Option Bool) (dd : Option Addr) (k0 k1 k2 k3 k5 : Option Value) (newId : String),
  h.get? x = some o ∧ o.cls = .ref C ∧ o.data = .plain ∧ h.get? C = some (excClassObj nm q C N bs bm hdct sn sub ab col dd k0 k1 k2 k3 k5 newId)
local macro_rules | `(tactic| walk_at "noins") => `(tactic| (
  intro prog w A R s h
  obtain ⟨hp, g, d, tk, os⟩ := s
  obtain ⟨⟨o, nm, q, N, bs, hdct, sn, sub, ab, col, dd, k0, k1, k2, k3, k5, newId, hx, hc, hd, hC⟩, h⟩ := h
  obtain ⟨oc, od, odt, osl⟩ := o
  cases hc
  cases hd
  wp_walk using wpAny_loadPart' hx, wpAny_load hx, wpAny_isSubtype_exc hC
  first | exact h | exact ⟨_, rfl, h⟩))
abbrev DeclI (B : Builtin) (v : Value) : Prop := ∀ (l C : Addr), Meets (B ⟨[v, .ref l], []⟩) (fun _ R s => InsAt s.heap l C [.type "object"] ∧ R (.ok (.ret .notImplemented)) s)
theorem str_eq_ins (x : Str) (t : Tok) : DeclI Builtin.«str.__eq__» (.str x t) := fun l C => by walk_at "noins"
theorem str_ne_ins (x : Str) (t : Tok) : DeclI Builtin.«str.__ne__» (.str x t) := fun l C => by walk_at "noins"
theorem int_eq_ins (i : Int) (t : Tok) : DeclI Builtin.«int.__eq__» (.int i t) := fun l C => by walk_at "noins"
theorem int_ne_ins (i : Int) (t : Tok) : DeclI Builtin.«int.__ne__» (.int i t) := fun l C => by walk_at "noins"
theorem bool_eq_ins (b : Bool) : DeclI Builtin.«int.__eq__» (.bool b) := fun l C => by walk_at "noins"
theorem bool_ne_ins (b : Bool) : DeclI Builtin.«int.__ne__» (.bool b) := fun l C => by walk_at "noins"
theorem none_eq_ins : DeclI Builtin.«NoneType.__eq__» .none := fun l C => by walk_at "noins"
theorem none_ne_ins : DeclI Builtin.«NoneType.__ne__» .none := fun l C => by walk_at "noins"
local macro_rules | `(tactic| walk_at "noins2") => `(tactic| (
  intro prog w A R s h
  obtain ⟨hp, g, d, tk, os⟩ := s
  obtain ⟨hl, ⟨o, nm, q, N, bs, hdct, sn, sub, ab, col, dd, k0, k1, k2, k3, k5, newId, hx, hc, hd, hC⟩, h⟩ := h
  obtain ⟨oc, od, odt, osl⟩ := o
  cases hc
  cases hd
  wp_walk using wpAny_loadPart' hl, wpAny_loadPart' hx, wpAny_load hx, wpAny_isSubtype_exc hC
  first | exact h | exact ⟨_, rfl, h⟩))
abbrev DeclS (B : Builtin) (T : String) : Prop := ∀ (a l C : Addr) (items : Array Value) (n : Nat) (dd : Option Addr) (sl : Array (Option Value)),
  Meets (B ⟨[.ref a, .ref l], []⟩) (fun _ R s => s.heap.get? a = some { cls := .type T, dict := dd, data := .seq items n, slots := sl } ∧ InsAt s.heap l C [.type "object"] ∧ R (.ok (.ret .notImplemented)) s)
theorem list_eq_ins : DeclS Builtin.«list.__eq__» "list" := fun a l C items n dd sl => by walk_at "noins2"
theorem list_ne_ins : DeclS Builtin.«list.__ne__» "list" := fun a l C items n dd sl => by walk_at "noins2"
theorem tuple_eq_ins : DeclS Builtin.«tuple.__eq__» "tuple" := fun a l C items n dd sl => by walk_at "noins2"
theorem tuple_ne_ins : DeclS Builtin.«tuple.__ne__» "tuple" := fun a l C items n dd sl => by walk_at "noins2"
abbrev DeclD (B : Builtin) : Prop := ∀ (a l C : Addr) (es : Array DictEntry) (n : Nat) (dd : Option Addr) (sl : Array (Option Value)),
  Meets (B ⟨[.ref a, .ref l], []⟩) (fun _ R s => s.heap.get? a = some { cls := .type "dict", dict := dd, data := .dict es n, slots := sl } ∧ InsAt s.heap l C [.type "object"] ∧ R (.ok (.ret .notImplemented)) s)
theorem dict_eq_ins : DeclD Builtin.«dict.__eq__» := fun a l C items n dd sl => by walk_at "noins2"
theorem dict_ne_ins : DeclD Builtin.«dict.__ne__» := fun a l C items n dd sl => by walk_at "noins2"

/-! == and != of an own instance and a value of another kind: the rule -/
open PySem.Builtin
/-- what a value of another kind gives when it is compared -/
structure OddC (s : Shared) (u : Value) (T : String) : Prop where
  ty : s.TypeIs u T
  sub : ∀ C : Addr, isSubtype (.type T) (.ref C) = pure false
  top : ([Value.type "object"] : List Value).contains (.type T) = false
  eq : ∀ (prog : Program) (w : World) (A : Around) (E : Value → Shared → Prop) (Q : Option Value → Shared → Prop) (x C : Addr), InsAt s.heap x C [.type "object"] → Q none s → wpAny (model prog w) A (tryCompare u "__eq__" (.ref x)) Q E s
  ne : ∀ (prog : Program) (w : World) (A : Around) (E : Value → Shared → Prop) (Q : Option Value → Shared → Prop) (x C : Addr), InsAt s.heap x C [.type "object"] → Q none s → wpAny (model prog w) A (tryCompare u "__ne__" (.ref x)) Q E s
theorem odd_str (s : Shared) (x : Str) (t : Tok) : OddC s (.str x t) "str" := ⟨typeIs_str s x t, fun C => by rw [isSubtype_type]; kernel_rfl, by decide +kernel,
  fun prog w A E Q l C h q => wpAny_tryCompare_declines (typeIs_str s x t) F.slot_str_eq (call_meets F.slot_str_eq (typeIs_str s x t) F.entry_str_eq (F.args_str_eq_2 _ _) (str_eq_ins x t l C) ⟨h, rfl, q⟩),
  fun prog w A E Q l C h q => wpAny_tryCompare_declines (typeIs_str s x t) F.slot_str_ne (call_meets F.slot_str_ne (typeIs_str s x t) F.entry_str_ne (F.args_str_ne_2 _ _) (str_ne_ins x t l C) ⟨h, rfl, q⟩)⟩
theorem odd_int (s : Shared) (x : Int) (t : Tok) : OddC s (.int x t) "int" := ⟨typeIs_int s x t, fun C => by rw [isSubtype_type]; kernel_rfl, by decide +kernel,
  fun prog w A E Q l C h q => wpAny_tryCompare_declines (typeIs_int s x t) F.slot_int_eq (call_meets F.slot_int_eq (typeIs_int s x t) F.entry_int_eq (F.args_int_eq_2 _ _) (int_eq_ins x t l C) ⟨h, rfl, q⟩),
  fun prog w A E Q l C h q => wpAny_tryCompare_declines (typeIs_int s x t) F.slot_int_ne (call_meets F.slot_int_ne (typeIs_int s x t) F.entry_int_ne (F.args_int_ne_2 _ _) (int_ne_ins x t l C) ⟨h, rfl, q⟩)⟩
theorem odd_bool (s : Shared) (b : Bool) : OddC s (.bool b) "bool" := ⟨rfl, fun C => by rw [isSubtype_type]; kernel_rfl, by decide +kernel,
  fun prog w A E Q l C h q => wpAny_tryCompare_declines rfl F.slot_bool_eq (call_meets F.slot_bool_eq rfl F.entry_int_eq (F.args_int_eq_2 _ _) (bool_eq_ins b l C) ⟨h, rfl, q⟩),
  fun prog w A E Q l C h q => wpAny_tryCompare_declines rfl F.slot_bool_ne (call_meets F.slot_bool_ne rfl F.entry_int_ne (F.args_int_ne_2 _ _) (bool_ne_ins b l C) ⟨h, rfl, q⟩)⟩
theorem odd_none (s : Shared) : OddC s .none "NoneType" := ⟨rfl, fun C => by rw [isSubtype_type]; kernel_rfl, by decide +kernel,
  fun prog w A E Q l C h q => wpAny_tryCompare_declines rfl F.slot_NoneType_eq (call_meets F.slot_NoneType_eq rfl F.entry_NoneType_eq (F.args_NoneType_eq_2 _ _) (none_eq_ins l C) ⟨h, rfl, q⟩),
  fun prog w A E Q l C h q => wpAny_tryCompare_declines rfl F.slot_NoneType_ne (call_meets F.slot_NoneType_ne rfl F.entry_NoneType_ne (F.args_NoneType_ne_2 _ _) (none_ne_ins l C) ⟨h, rfl, q⟩)⟩
theorem odd_list (s : Shared) (a : Addr) {dd : Option Addr} {its : Array Value} {n : Nat} {sl : Array (Option Value)} (ho : s.heap.get? a = some { cls := .type "list", dict := dd, data := .seq its n, slots := sl }) : OddC s (.ref a) "list" := by
  have ty : s.TypeIs (.ref a) "list" := ⟨_, ho, rfl⟩
  exact ⟨ty, fun C => by rw [isSubtype_type]; kernel_rfl, by decide +kernel,
    fun prog w A E Q l C h q => wpAny_tryCompare_declines ty F.slot_list_eq (call_meets F.slot_list_eq ty F.entry_list_eq (F.args_list_eq_2 _ _) (list_eq_ins a l C _ _ _ _) ⟨ho, h, rfl, q⟩),
    fun prog w A E Q l C h q => wpAny_tryCompare_declines ty F.slot_list_ne (call_meets F.slot_list_ne ty F.entry_list_ne (F.args_list_ne_2 _ _) (list_ne_ins a l C _ _ _ _) ⟨ho, h, rfl, q⟩)⟩
theorem odd_tuple (s : Shared) (a : Addr) {dd : Option Addr} {its : Array Value} {n : Nat} {sl : Array (Option Value)} (ho : s.heap.get? a = some { cls := .type "tuple", dict := dd, data := .seq its n, slots := sl }) : OddC s (.ref a) "tuple" := by
  have ty : s.TypeIs (.ref a) "tuple" := ⟨_, ho, rfl⟩
  exact ⟨ty, fun C => by rw [isSubtype_type]; kernel_rfl, by decide +kernel,
    fun prog w A E Q l C h q => wpAny_tryCompare_declines ty F.slot_tuple_eq (call_meets F.slot_tuple_eq ty F.entry_tuple_eq (F.args_tuple_eq_2 _ _) (tuple_eq_ins a l C _ _ _ _) ⟨ho, h, rfl, q⟩),
    fun prog w A E Q l C h q => wpAny_tryCompare_declines ty F.slot_tuple_ne (call_meets F.slot_tuple_ne ty F.entry_tuple_ne (F.args_tuple_ne_2 _ _) (tuple_ne_ins a l C _ _ _ _) ⟨ho, h, rfl, q⟩)⟩
theorem odd_dict (s : Shared) (a : Addr) {dd : Option Addr} {es : Array DictEntry} {n : Nat} {sl : Array (Option Value)} (ho : s.heap.get? a = some { cls := .type "dict", dict := dd, data := .dict es n, slots := sl }) : OddC s (.ref a) "dict" := by
  have ty : s.TypeIs (.ref a) "dict" := ⟨_, ho, rfl⟩
  exact ⟨ty, fun C => by rw [isSubtype_type]; kernel_rfl, by decide +kernel,
    fun prog w A E Q l C h q => wpAny_tryCompare_declines ty F.slot_dict_eq (call_meets F.slot_dict_eq ty F.entry_dict_eq (F.args_dict_eq_2 _ _) (dict_eq_ins a l C _ _ _ _) ⟨ho, h, rfl, q⟩),
    fun prog w A E Q l C h q => wpAny_tryCompare_declines ty F.slot_dict_ne (call_meets F.slot_dict_ne ty F.entry_dict_ne (F.args_dict_ne_2 _ _) (dict_ne_ins a l C _ _ _ _) ⟨ho, h, rfl, q⟩)⟩

/-! == and != of an own instance and a value of another kind, both ways round -/
open PySem.Builtin
section
variable {prog : Program} {w : World} {A : Around} {E : Value → Shared → Prop} {h : Heap} {g : Array GenState} {d : Drawn} {t : Nat} {os : OsState} {C x f : Addr} {v : Value} {T : String}
theorem try_eq_own {B : String} {Q : Option Value → Shared → Prop} (X : h.OwnSpecial x C f B "__eq__")
    (hc : wpAny (model prog w) A (call (.ref f) [.ref x, v]) (fun r s' => ∃ b, r = .bool b ∧ Q (some (.bool b)) s') E ⟨h, g, d, t, os⟩) : wpAny (model prog w) A (tryCompare (.ref x) "__eq__" v) Q E ⟨h, g, d, t, os⟩ := by
  unfold tryCompare
  refine wpAny_bind (wpAny_callSpecialIfBound?_own X (wpAny_mono hc (fun r s' hr => ?_) fun _ _ z => z))
  obtain ⟨b, rfl, q⟩ := hr
  exact wpAny_pure q
theorem obj_ne_own {B : String} {bm : List Value} (X : h.OwnEqNoNe x C f B bm) (hu : A.units < cLine) {Q : Fin → Shared → Prop}
    (hc : wpAny (model prog w) A (call (.ref f) [.ref x, v]) (fun u s' => ∃ b, u = .bool b ∧ Q (.done (.ret (.bool (!b)))) s') E ⟨h, g, d, t, os⟩) :
    wpAny (model prog w) A (Builtin.«object.__ne__» ⟨[.ref x, v], []⟩) Q E ⟨h, g, d, t, os⟩ := by
  unfold Builtin.«object.__ne__»
  repeat (first
    | with_reducible refine wpAny_cRoomFor hu ?_
    | (refine wpAny_bind (m := callSpecialIfBound? (.ref x) (Str.ofString "__eq__") [v]) (wpAny_callSpecialIfBound?_own X.ownEq (wpAny_mono hc (fun r s' hr => by
          obtain ⟨b, rfl, q⟩ := hr
          repeat (first | exact q | exact wpAny_pure q | exact wpAny_truthy_bool q | (refine wpAny_bind (m := truthy (.bool _)) (wpAny_truthy_bool ?_)) | wp_step)) fun _ _ z => z)))
    | wp_step)
theorem try_ne_own {B : String} {bm : List Value} (FB : CmpFacts B bm) (X : h.OwnEqNoNe x C f B bm) (hu : A.units + 1 < cLine) {Q : Option Value → Shared → Prop}
    (hc : wpAny (model prog w) A.in1 (call (.ref f) [.ref x, v]) (fun r s' => ∃ b, r = .bool b ∧ Q (some (.bool (!b))) s') E ⟨h, g, d, t, os⟩) : wpAny (model prog w) A (tryCompare (.ref x) "__ne__" v) Q E ⟨h, g, d, t, os⟩ := by
  obtain ⟨o, of, nm, q, N, bs, hdct, sn, sub, ab, col, dd, k0, k1, k2, k3, k5, newId, mN, yv, hx, ho, hC, hn, _, _, _, _, _, hne⟩ := id X
  unfold tryCompare
  have e0 : wpAny (model prog w) A.in1 (Builtin.«object.__ne__» ⟨[.ref x, v], []⟩) (fun fin s' => ∃ b, fin = .done (.ret (.bool b)) ∧ Q (some (.bool b)) s') E ⟨h, g, d, t, os⟩ :=
    obj_ne_own (A := A.in1) X hu (wpAny_mono hc (fun r s' hr => let ⟨b, e, q⟩ := hr; ⟨b, e, _, rfl, q⟩) fun _ _ z => z)
  refine wpAny_bind (wpAny_callSpecialIfBound?_inst hx ho hC hn hne FB.mro FB.ne ?_)
  refine wpAny_call (codeAny_call_builtin FB.ne.plain F.cmpEntry_ne ?_)
  refine wpAny_check_slot_inst F.cmpKind_ne F.cmpSplit_ne (F.cmpArgs_ne _ _) FB.hasObject hx ho hC ?_
  refine wpAny_mono e0 (fun fin s' hf => ?_) fun _ _ z => z
  obtain ⟨b, rfl, q⟩ := hf
  exact wpAny_pure q
theorem rich_row_odd {op : CmpOp} {sym : String} {n r : Str} {Q : Value → Shared → Prop} (hop : cmpInfo op = (sym, n, r)) (S : InsAt h x C [.type "object"]) (O : OddC ⟨h, g, d, t, os⟩ v T) (hu : A.units < cLine)
    (ht : wpAny (model prog w) A (tryCompare (.ref x) n v) (fun z s' => ∃ y, z = some y ∧ Q y s') E ⟨h, g, d, t, os⟩) : wpAny (model prog w) A (richCompare op (.ref x) v) Q E ⟨h, g, d, t, os⟩ := by
  obtain ⟨o, nm, q, N, bs, hdct, sn, sub, ab, col, dd, k0, k1, k2, k3, k5, newId, hx, hc, hd, hC⟩ := S
  unfold richCompare
  simp only [oneThing_ref]
  refine wpAny_holding (wpAny_bind (wpAny_cRoomFor hu ?_))
  rw [hop]
  dsimp only
  refine wpAny_bind (wpAny_typeOf_ref hx ?_)
  rw [hc]
  refine wpAny_bind (wpAny_typeOf O.ty ?_)
  rw [show (Value.ref C != Value.type T) = true by simp]
  simp only [if_true]
  refine wpAny_bind (wpAny_of_eq (O.sub C) ?_)
  simp only [Bool.false_eq_true, if_false]
  refine wpAny_bind (wpAny_mono ht (fun z s' hz => ?_) fun _ _ e => e)
  obtain ⟨y, rfl, q⟩ := hz
  exact wpAny_pure q
theorem rich_odd_row {op : CmpOp} {sym : String} {n r : Str} {Q : Value → Shared → Prop} (hop : cmpInfo op = (sym, n, r)) (S : InsAt h x C [.type "object"]) (O : OddC ⟨h, g, d, t, os⟩ v T) (hu : A.units < cLine)
    (hn : ∀ Q' : Option Value → Shared → Prop, Q' none ⟨h, g, d, t, os⟩ → wpAny (model prog w) A (tryCompare v n (.ref x)) Q' E ⟨h, g, d, t, os⟩)
    (ht : wpAny (model prog w) A (tryCompare (.ref x) r v) (fun z s' => ∃ y, z = some y ∧ Q y s') E ⟨h, g, d, t, os⟩) : wpAny (model prog w) A (richCompare op v (.ref x)) Q E ⟨h, g, d, t, os⟩ := by
  obtain ⟨o, nm, q, N, bs, hdct, sn, sub, ab, col, dd, k0, k1, k2, k3, k5, newId, hx, hc, hd, hC⟩ := S
  simp only [richCompare, hop, O.ty.oneThing_none]
  refine wpAny_holding (wpAny_bind (wpAny_cRoomFor hu ?_))
  refine wpAny_bind (wpAny_typeOf O.ty (wpAny_bind (wpAny_typeOf_ref hx ?_)))
  rw [hc, show (Value.type T != Value.ref C) = true by simp]
  simp only [if_true]
  refine wpAny_bind (wpAny_isSubtype_exc hC ?_)
  have e : ((Value.ref C :: [Value.type "object"]).contains (.type T)) = false := by
    rw [List.contains_cons, O.top, Bool.or_false]
    simp
  rw [e]
  simp only [Bool.false_eq_true, if_false, Bool.not_false, if_true]
  refine wpAny_bind (hn _ ?_)
  refine wpAny_bind (wpAny_mono ht (fun z s' hz => ?_) fun _ _ e => e)
  obtain ⟨y, rfl, q⟩ := hz
  exact wpAny_pure q
end
section
variable {X : Cx} {K : PySem.W.Frag}
/-- t + u of two tuples, an empty one among them too -/
def rCatTN (K : PySem.W.Frag) : R2 := fun x y H Q => ∃ a b xs ys, x = .ref a ∧ y = .ref b ∧ SqT K H a xs ∧ SqT K H b ys ∧ xs.length + ys.length ≤ sizeLine ∧
  ∀ p H', Ex H H' → SqT K H' p (xs ++ ys) → Q (.ref p) H'
theorem op_catTN (h : X.K = K := by rfl) : OpR X (binaryOp .Add) (rCatTN K) := by
  subst h
  exact OpR.imp op_catA fun x y H Q ⟨a, b, xs, ys, e1, e2, h1, h2, z, n⟩ => ⟨a, b, xs, ys, e1, e2, h1, h2, z,
    fun q => n b H (Ex.refl H) (by rw [q]; exact h2), fun _ q => n a H (Ex.refl H) (by rw [q, List.append_nil]; exact h1), fun _ _ p hp => n p _ (Ex.new hp) (.of upd_same)⟩
end

/-! an own exception's __init__: super().__init__(text), then self.field = argument -/
/-- where such a def runs -/
def cxI (P : Program) (w : World) (K : PySem.W.Frag) (mg : Str → Option Value) (base : Heap) (qual : Str) (scope : Scope) (f : Addr) (cd : Value) (cc : Addr) (pn : Str) (A : Around) (outer : List Env) (s : Shared) (H : Hp) (E : XK) : Cx :=
  { cxOf CX0 P w K mg base ["self", pn] qual scope f cd A outer s H E with
    env := PySem.W.envX qual scope s.heap.objs.size f cd [("__class__", cc)]
    A := A.deeper (PySem.W.envX qual scope s.heap.objs.size f cd [("__class__", cc)])
    stack := PySem.W.envX qual scope s.heap.objs.size f cd [("__class__", cc)] :: outer
    fn := fun _ => false
    xe := fun e s' => wpAny (model P w) (A.deeper (PySem.W.envX qual scope s.heap.objs.size f cd [("__class__", cc)])) (leaving (PySem.W.envX qual scope s.heap.objs.size f cd [("__class__", cc)]) e) (fun _ s'' => CX0 outer H s E e s'') (fun e' s'' => CX0 outer H s E e' s'') s' }
/-- the names of such a def -/
structure IScope (pn : Str) (scope : Scope) : Prop where
  kind : scope.kind = .function
  self : scope.names.lookup ("self" : Str) = some .local
  arg : scope.names.lookup pn = some .local
  sup : scope.names.lookup ("super" : Str) = some .globalImplicit
  cls : scope.names.lookup ("__class__" : Str) = some .free
  nocell : ∀ x ∈ scope.names, x.2 ≠ .cell
  free : ∀ x ∈ scope.names, x.2 = .free → x.1 = "__class__"
  ne : (pn == ("self" : Str)) = false
  nd : (pn == ("__debug__" : Str)) = false
  ncd : (pn == ("__classdict__" : Str)) = false
theorem inv_startI {P : Program} {w : World} {K : PySem.W.Frag} {mg : Str → Option Value} {base : Heap} {qual pn : Str} {scope : Scope} {f cc D : Addr} {cd cl : Value} {cld : Option Addr} {csl : Array (Option Value)} {A : Around} {outer : List Env} {s : Shared} {H : Hp} {E : XK} {x y : V} {u v : Value} {h₁ : Heap} {tk : Nat}
    (S : IScope pn scope) (hd : A.handled = none) (e0 : Env0 P w K mg base A outer s H) (rx : RelV x u) (ry : RelV y v) (hcc : K.lookup cc = some ⟨cl, cld, .cell (some (.ref D)), csl⟩)
    (hns : h₁.Ns s.heap.objs.size fun z => ((["self", pn] : List Str).zip [u, v]).reverse.lookup z) (kp : ∀ b o, s.heap.get? b = some o → h₁.get? b = some o) :
    Inv (cxI P w K mg base qual scope f cd cc pn A outer s H E) [] [some x, some y] H { s with heap := h₁, toks := tk } := by
  have hb := e0.bs cc _ (e0.mod.kin _ _ hcc)
  have cells : ∀ {z c}, List.lookup z [(("__class__" : Str), cc)] = some c → z = "__class__" ∧ c = cc := fun {z c} h => by
    simp only [List.lookup] at h
    split at h
    · rename_i e
      exact ⟨by simpa using e, (Option.some.inj h).symm⟩
    · cases h
  have noA : ∀ b : Addr, b ∉ (cxI P w K mg base qual scope f cd cc pn A outer s H E).ex := fun b z => absurd (show b ∈ ([] : List Addr) from z) (by simp)
  refine ⟨⟨e0.mod, S.kind, rfl, rfl, Nat.le_refl _, fun y z c h1 h2 => ?_, fun y hy => ?_, fun y c z _ => ?_, fun _ => hd, Around.frames_deeper e0.frames, .inr ⟨rfl, rfl⟩, fun b z => absurd z (noA b), e0.bs, e0.bsz, fun b _ _ => noA b, fun b z => absurd z (noA b), e0.funs, e0.frf⟩,
    rfl, e0.bare, Un.kept kp, ⟨_, hns, fun i z v2 h1 h2 h3 => ?_⟩, fun z c h => ?_, e0.hok.fresh (Nat.le_refl _), fun z c h => ?_, fun p hp => absurd (show p ∈ ([] : List (Addr × Obj)) from hp) (by simp), e0.hok.kept kp, rfl⟩
  · rw [(cells h1).1, (cells h2).1]
  · have hy : scope.names.lookup y = some .cell ∨ scope.names.lookup y = some .free := hy
    rcases hy with hy | hy
    · exact absurd rfl (S.nocell _ (PySem.mem_of_lookup hy))
    · have := S.free _ (PySem.mem_of_lookup hy) rfl
      have : y = "__class__" := this
      subst this
      exact ⟨cc, by simp [cxI]⟩
  · cases (show false = true from z)
  · have hv : Vis scope z := h3
    have e2 : ((pn : Str) == ("self" : Str)) = false := S.ne
    match i, h1, h2 with
    | 0, h1, h2 =>
      cases h1
      cases h2
      refine ⟨u, rx, .inl ⟨S.self, ?_⟩⟩
      have e3 : (("self" : Str) == pn) = false := by
        rw [beq_eq_false_iff_ne] at e2 ⊢
        exact fun q => e2 q.symm
      show List.lookup _ [(pn, v), (("self" : Str), u)] = some u
      simp only [List.lookup, e3]
      simp
    | 1, h1, h2 =>
      cases h1
      cases h2
      refine ⟨v, ry, .inl ⟨S.arg, ?_⟩⟩
      show List.lookup _ [(pn, v), (("self" : Str), u)] = some v
      simp [List.lookup]
    | i + 2, h1, _ => cases h1
  · obtain ⟨rfl, rfl⟩ := cells h
    exact ⟨_, _, kp _ _ hb.1, rfl⟩
  · obtain ⟨rfl, rfl⟩ := cells h
    exact hb.2

/-- the def of an own exception's __init__ that says super().__init__(text); self.fld = pn -/
structure XInit (K : PySem.W.Frag) (P : Program) (C f cc cda : Addr) (qual pn fld : Str) (st : Stmt) (fd : FuncData) : Prop where
  fd_eq : ∃ (oc : Value) (od : Option Addr) (dV kV doc pm : Value) (an : Option Addr) (ct : Value) (osl : Array (Option Value)),
    fd = PySem.W.fnX "__init__" qual (defArgs st) (defBody st) (defScope st) [("__class__", cc)] dV kV doc pm an (.ref cda) ct ∧ K.lookup f = some ⟨oc, od, .func fd, osl⟩ ∧ PySem.W.codeIn K (.ref cda) qual = true
  code : ∃ (ccl : Value) (cdd : Option Addr) (vs : Array Value) (ccs : Array (Option Value)) (file : Str) (tf : Tok), K.lookup cda = some ⟨ccl, cdd, .fields vs, ccs⟩ ∧ vs[2]? = some (.str file tf) ∧ ((P.main.file : Str) == file) = true
  cell : ∃ (cl : Value) (cld : Option Addr) (csl : Array (Option Value)), K.lookup cc = some ⟨cl, cld, .cell (some (.ref C)), csl⟩
  sup : PySem.W.ks_superIn K C C "__init__" = some (some (.builtin "ValueError.__init__"))
  sub : PySem.W.subIn K (.ref C) (.type "ValueError") = some true
  self : PySem.W.mroIn K C (.ref C) = some true
  opq : PySem.W.nsIn K cStatics "thirdparty.any" = some none
  top : (P.main.scope.names.lookup ("super" : Str)).isSome = false
  body : ∃ (m : Str) (j : Nat) (p0 p1 p2 p3 p4 p5 q0 q1 q2 q3 : Pos) (pl : Env → Sem Bool), m.length ≤ 1000 ∧ (∀ env : Env, eval (.Call (.Attribute (.Call (.Name "super" p0) [] [] p1) "__init__" p2) [.Constant (.str m) j p3] [] p4) env = (do
      let ov ← attributeBase (.Call (.Name "super" p0) [] [] p1) "__init__" env (eval (.Call (.Name "super" p0) [] [] p1) env)
      standAt p2.atName
      let (f, first) ← holding [ov] (getMethod ov "__init__" (pl env))
      callWith p4 f first (backTo p4 (starEach [.Constant (.str m) j p3] env)) [])) ∧ defBody st = [.Expr (.Call (.Attribute (.Call (.Name "super" p0) [] [] p1) "__init__" p2) [.Constant (.str m) j p3] [] p4) p5, .Assign [.Attribute (.Name "self" q0) fld q1] (.Name pn q2) q3]
  arg0 : ∃ ar : Arg, ((defArgs st).posonlyargs ++ (defArgs st).args).head? = some ar ∧ ar.arg = "self"
  scope : IScope pn (defScope st)
  noco : (defScope st).isCoroutine = false
  nogen : (defScope st).isGenerator = false
/-- super().__init__(text), in the def of the class -/
theorem super_step {X : Cx} {pins : List (Addr × Obj)} {σ : L2.St} {H : Hp} {s : Shared} {C f cc cda a : Addr} {qual pn fld m : Str} {st : Stmt} {fd : FuncData} {body : List Stmt} {j : Nat} {p0 p1 p2 p3 p4 p5 : Pos} {pl : Env → Sem Bool} (I : Inv X pins σ H s) (F : XInit X.K X.prog C f cc cda qual pn fld st fd) (T : OexC X.K C) (nos : X.mg "super" = none)
    (hi : interactive X.env = false) (hks : X.env.kindOf "super" = some .globalImplicit) (hkc : X.env.kindOf "__class__" = some .free) (hka : X.env.kindOf "self" = some .local) (hfu : X.env.func = some f) (hco : X.env.code = .ref cda) (hcl : X.env.cells.lookup ("__class__" : Str) = some cc)
    (he : eval (.Call (.Attribute (.Call (.Name "super" p0) [] [] p1) "__init__" p2) [.Constant (.str m) j p3] [] p4) X.env = (do
      let ov ← attributeBase (.Call (.Name "super" p0) [] [] p1) "__init__" X.env (eval (.Call (.Name "super" p0) [] [] p1) X.env)
      standAt p2.atName
      let (f, first) ← holding [ov] (getMethod ov "__init__" (pl X.env))
      callWith p4 f first (backTo p4 (starEach [.Constant (.str m) j p3] X.env)) []))
    (hN : X.N[0]? = some ("self" : Str)) (hσ : σ[0]? = some (some (.ref a))) (ea : H a = some (exo a C none)) :
    PySem.wpAt (model X.prog X.w) X.A (.func body X.env) (exec (.Expr (.Call (.Attribute (.Call (.Name "super" p0) [] [] p1) "__init__" p2) [.Constant (.str m) j p3] [] p4) p5) X.env) (fun fl s' => fl = .next ∧ Inv X pins σ H s') X.xe s := by
  obtain ⟨oc, od, dV, kV, doc, pm, an, ct, osl, rfl, look, hcode⟩ := F.fd_eq
  obtain ⟨ccl, cdd, vs, ccs, file, tf, lkc, hvs, hfile⟩ := F.code
  obtain ⟨cl, cld, csl, hcc⟩ := F.cell
  obtain ⟨ar, har, harg⟩ := F.arg0
  obtain ⟨nm, q, N, bs, bm, sn, sub, ab, col, dd, k0, k1, k2, k3, k5, hC, hbm⟩ := T.cls
  have hc : PySem.W.clsIn X.K C = some { name := nm, bases := bs, mro := .ref C :: bm, ns := N, qualname := q, hasDict := true, slotNames := sn, subclasses := sub, abstract := ab, collection := col, hasDel := false } := by unfold PySem.W.clsIn; rw [hC] <;> rfl
  obtain ⟨t1, ho⟩ := exo_at I.hok ea
  have KI := I.kIn
  have hk : X.env.scope.kind = .function := I.ok.kind
  refine PySem.ks_wpAt_Expr_any ?_ hi rfl
  refine PySem.ks_wpAt_MethodCall ?_ he
  refine PySem.ks_wpAt_super_base hks hkc (by decide) hfu (KI _ _ look) rfl har hco (KI _ _ lkc) rfl hvs hfile F.top ?_
  obtain ⟨mb, b1, b2⟩ := I.mod.blt
  refine PySem.W.ks_loadName_global hk hks (Calls.loadGlobal_builtin (by rw [I.ok.glob]; exact I.mod.glob.keeps I.bk) nos (by rw [I.ok.blt]; exact b1.keeps I.bk) ((b2 "super" (by decide)).trans PyProof.Rows.Boot.«super») ⟨rfl, ?_⟩)
  refine wpAny_loadName_free hk hkc hcl ⟨_, KI _ _ hcc, rfl⟩ ?_
  obtain ⟨mL, hn, hl⟩ := I.loc
  obtain ⟨u, r, l⟩ := hl 0 "self" (.ref a) hN hσ (.inl hka)
  obtain rfl : u = Value.ref a := r
  have hv : mL "self" = some (.ref a) := by
    rcases l with ⟨_, h⟩ | ⟨h | h, _⟩
    · exact h
    · rw [hka] at h; cases h
    · rw [hka] at h; cases h
  rw [harg]
  refine wpAny_loadName_local hk hka hn hv ?_
  obtain ⟨hp, g, d, t, os⟩ := s
  refine PySem.ks_wpAny_isType_cls (KI _ _ hC) rfl ⟨rfl, ?_⟩
  refine PySem.ks_wpAny_call_super (KI _ _ hC) rfl ho rfl (fun c z => by cases z) (PySem.W.looks_mroIn KI F.self) (fun h2 hso k2 => ?_)
  have I2 : Inv X pins σ H ⟨h2, g, d, t, os⟩ := I.un (t' := t) (Un.kept k2) (I.hok.kept k2)
  have KI2 := I2.kIn
  have ia : PySem.W.InstAt h2 a _ C none := ⟨k2 _ _ ho, rfl, rfl, trivial⟩
  have hI : PySem.W.Looks (model X.prog X.w) h2 (isInstance (.ref a) (.type "ValueError")) true := ia.type.andThen (PySem.W.looks_subIn KI2 F.sub)
  have hsup := F.sup
  unfold PySem.W.ks_superIn at hsup
  rw [hc] at hsup
  refine PySem.W.kxs_getMethod PySem.W.kxs_ValueError hso (PySem.W.looks_opaque KI2 F.opq) (l₀ := .ref C :: bm) (fun A Q E s k q => wpAny_bind ((PySem.W.looks_clsIn KI2 hc) A _ E s k (wpAny_pure q))) rfl KI2 hsup hI (PySem.W.ks_ne KI2 ia hc) (by decide) ?_
  have I3 : Inv X ((h2.objs.size, PySem.W.kxs_mw "ValueError.__init__" a) :: pins) σ H ⟨h2.push (PySem.W.kxs_mw "ValueError.__init__" a), g, d, t + 1, os⟩ :=
    ClX.pin_new (t' := t + 1) I2 (fun b o e => Heap.get?_push_of_some _ e) (Nat.le_refl _) (Heap.get?_push_at rfl rfl) (fun v z => by cases z)
  generalize h2.push (PySem.W.kxs_mw "ValueError.__init__" a) = h3 at I3
  generalize h2.objs.size = u3 at I3
  have hst : starEach [.Constant (.str m) j p3] X.env = (false, eval (.Constant (.str m) j p3) X.env) :: starEach [] X.env := rfl
  rw [hst]
  refine PySem.W.kxs_callWith (i := "ValueError.__init__") (u := u3) (x := a) (by rfl) (Calls.evalArgs_plain ?_)
  show wpAny _ _ (spliced (backTo p4 (starEach [.Constant (.str m) j p3] X.env))) _ _ _
  have pa : PA X [.Constant (.str m) j p3] (tCons (tC (.str m)) tNil) := pa_cons pe_str pa_nil
  refine thn (pa.run p4 ((u3, PySem.W.kxs_mw "ValueError.__init__" a) :: pins) _ σ H (fun vs H' => vs = [.str m] ∧ H' = H) I3 ⟨rfl, rfl⟩) fun us s4 hq => ?_
  obtain ⟨vs4, H4, I4, r4, ev4, eh4⟩ := hq
  subst ev4 eh4
  obtain ⟨u5, rfl, _⟩ := vals1 r4
  have hu4 := ClX.pin_at I4
  refine ⟨hu4, ?_⟩
  obtain ⟨t4, ho4⟩ := exo_at I4.hok ea
  have KI4 := I4.kIn
  obtain ⟨hh, g4, d4, tk4, os4⟩ := s4
  refine wpAny_call (codeAny_of_tree ?_)
  show wpAny _ X.A.in1 (callAny (.ref u3) ⟨[u5], []⟩) _ _ _
  simp only [callAny]
  refine wpAny_bind (wpAny_load hu4 ?_)
  have hm1 : (Value.type "method-wrapper" == Value.type "method" || Value.type "method-wrapper" == Value.type "builtin_function_or_method" || Value.type "method-wrapper" == Value.type "method-wrapper") = true := by decide
  have hm2 : (Value.type "method-wrapper" != Value.type "method") = true := by decide
  show wpAny _ _ (if (Value.type "method-wrapper" == Value.type "method" || Value.type "method-wrapper" == Value.type "builtin_function_or_method" || Value.type "method-wrapper" == Value.type "method-wrapper") = true then
    (if (Value.type "method-wrapper" != Value.type "method") = true then (checkBoundCall "ValueError.__init__" ⟨[.ref a, u5], []⟩ >>= fun _ => again (.builtin "ValueError.__init__" ⟨[.ref a, u5], []⟩)) else _) else _) _ _ _
  rw [if_pos hm1, if_pos hm2]
  have FB := PySem.F.excBase_ValueError
  refine wpAny_bind (PySem.W.check_bound_init FB.toExcCallFacts (KI4 _ _ hC) ho4 rfl ?_)
  refine wpAny_pure ⟨plainId_quiet FB.init.plain _, codeAny_builtin FB.initEntry ?_⟩
  refine PySem.W.exc_init_tree (cls := .ref C) (t0 := t4) (dv := none) (c2 := .none) (c3 := .none) (b4 := .bool false) ho4 (by rw [sizeLine_eq]; simp) fun h6 k6 e6 _ => ⟨True.intro, ?_⟩
  have J := (ClX.unpin I4).write (t' := tk4) (x := a) (e := a) (o := exo a C none) (by rw [ea]; exact True.intro) (.inl rfl) k6 ⟨_, e6⟩ (exo_ok e6)
  have eu : upd H4 a (exo a C none) = H4 := by
    funext b
    by_cases hb : b = a
    · rw [hb, upd_same, ea]
    · rw [upd_ne hb]
  rw [eu] at J
  exact J
def spXI (K : PySem.W.Frag) (C : Addr) (fld : Str) : Sp := fun vs H Q _ => ∃ (a : Addr) (y : V), vs = [.ref a, y] ∧ H a = some (exo a C none) ∧ ∀ dx H', H dx = none → dx ≠ a → H' = upd (upd H dx (exd dx [(fld, y)])) a (exo a C (some dx)) → Q .non H'
theorem okXI {P : Program} {w : World} {K : PySem.W.Frag} {mg : Str → Option Value} {base : Heap} {C f cc cda : Addr} {qual pn fld : Str} {st : Stmt} {fd : FuncData} (F : XInit K P C f cc cda qual pn fld st fd) (T : OexC K C) (nof : PySem.W.findIn K (.ref C) fld = some none) (nos : mg "super" = none) :
    FnOk P w K mg base CX0 4 f fd ["self", pn] (spXI K C fld) := by
  obtain ⟨oc, od, dV, kV, doc, pm, an, ct, osl, rfl, look, hcode⟩ := F.fd_eq
  obtain ⟨ccl, cdd, vs, ccs, file, tf, lkc, hvs, hfile⟩ := F.code
  obtain ⟨cl, cld, csl, hcc⟩ := F.cell
  obtain ⟨m, j, p0, p1, p2, p3, p4, p5, q0, q1, q2, q3, pl, hml, he, hbody⟩ := F.body
  obtain ⟨ar, har, harg⟩ := F.arg0
  have S := F.scope
  constructor
  · intro vs H Q E h
    obtain ⟨a, y, rfl, _⟩ := h
    rfl
  intro A outer s H args us vs Q E hrm e0 hbinds rel hsp
  obtain ⟨a, y, rfl, ea, k⟩ := hsp
  obtain ⟨ua, uy, rfl, ra, ry⟩ := vals2 rel
  obtain rfl : ua = Value.ref a := ra
  have inK : K.In s.heap := e0.mod.kin.keeps fun a o h => (e0.bs a o h).1
  have nolim : s.heap.NoLimit := e0.mod.nolimit.keeps fun a o h => (e0.bs a o h).1
  refine PySem.ks_codeAny_call_defAt (body := defBody st) (binds := (["self", pn] : List Str).zip [.ref a, uy]) hrm.depth (inK _ _ look) rfl nolim (PySem.W.codeRec_of inK hcode) rfl hbinds S.nocell (fun x hx => ?_) (fun h₁ hns hk₁ => ?_) F.noco F.nogen S.kind
  · rcases List.mem_cons.mp hx with rfl | hx
    · exact S.self
    · rcases List.mem_cons.mp hx with rfl | hx
      · exact S.arg
      · cases hx
  have I := inv_startI (P := P) (w := w) (mg := mg) (base := base) (qual := qual) (f := f) (cd := .ref cda) (E := E) (tk := s.toks + ((["self", pn] : List Str).zip [Value.ref a, uy]).length) S hrm.hd e0 (x := .ref a) (y := y) rfl ry hcc hns hk₁
  obtain ⟨X, hX⟩ : ∃ X : Cx, X = cxI P w K mg base qual (defScope st) f (.ref cda) cc pn A outer s H E := ⟨_, rfl⟩
  have sup := super_step (X := cxI P w K mg base qual (defScope st) f (.ref cda) cc pn A outer s H E) (body := defBody st) (p5 := p5) I F T nos (by simp [interactive, cxI, S.kind]) S.sup S.cls S.self rfl rfl (by simp [cxI]) (he _) rfl rfl ea
  have rest : ∀ s', Inv (cxI P w K mg base qual (defScope st) f (.ref cda) cc pn A outer s H E) [] [some (.ref a), some y] H s' →
      wpAny (model P w) (A.deeper (PySem.W.envX qual (defScope st) s.heap.objs.size f (.ref cda) [("__class__", cc)])) (execs [.Assign [.Attribute (.Name "self" q0) fld q1] (.Name pn q2) q3] (PySem.W.envX qual (defScope st) s.heap.objs.size f (.ref cda) [("__class__", cc)]))
        (SP (cxI P w K mg base qual (defScope st) f (.ref cda) cc pn A outer s H E) [] { nx := fun _ H' => Q .non H', rt := Q }) (cxI P w K mg base qual (defScope st) f (.ref cda) cc pn A outer s H E).xe s' := fun s' J => by
    have ps : PSs (cxI P w K mg base qual (defScope st) f (.ref cda) cc pn A outer s H E) [.Assign [.Attribute (.Name "self" q0) fld q1] (.Name pn q2) q3] (tOst K fld (tVar 0) (tVar 1)) :=
      pss_one (ps_ost (pe_var rfl (.inl S.self)) (pe_var rfl (.inl S.arg) S.nd S.ncd))
    exact ps.run [] s' _ H _ J ⟨y, rfl, .ref a, rfl, a, C, rfl, T, nof, .inl ⟨ea, fun dx n ne => k dx _ n ne rfl⟩⟩
  have eb : execs (defBody st) (PySem.W.envX qual (defScope st) s.heap.objs.size f (.ref cda) [("__class__", cc)]) = execs [.Expr (.Call (.Attribute (.Call (.Name "super" p0) [] [] p1) "__init__" p2) [.Constant (.str m) j p3] [] p4) p5, .Assign [.Attribute (.Name "self" q0) fld q1] (.Name pn q2) q3] (PySem.W.envX qual (defScope st) s.heap.objs.size f (.ref cda) [("__class__", cc)]) := by rw [hbody]
  show PySem.wpAt (model P w) (A.deeper (PySem.W.envX qual (defScope st) s.heap.objs.size f (.ref cda) [("__class__", cc)])) (.func (defBody st) (PySem.W.envX qual (defScope st) s.heap.objs.size f (.ref cda) [("__class__", cc)])) (execs (defBody st) (PySem.W.envX qual (defScope st) s.heap.objs.size f (.ref cda) [("__class__", cc)])) _ _ _
  rw [eb]
  refine PySem.ks_wpAt_execs_cons (PySem.ks_wpAt_mono sup (fun fl s' hf => ?_) fun e s' h => ?_)
  · obtain ⟨e, J⟩ := hf
    subst e
    refine PySem.wpAt_of_wpAny (wpAny_mono (rest s' J) (fun fl s2 hs => ?_) fun e s2 h => ?_)
    · have fin : ∀ {σ' : L2.St} {H' : Hp} {v : V} {u : Value}, Inv (cxI P w K mg base qual (defScope st) f (.ref cda) cc pn A outer s H E) [] σ' H' s2 → RelV v u → Q v H' → CE outer P w H s Q u s2 :=
        fun J rv q => ⟨_, _, J.os, J.bare, J.base, J.hok, rv, q⟩
      cases fl with
      | ret u =>
        obtain ⟨v, σ', H', J2, rv, q⟩ := hs
        exact fin J2 rv q
      | next =>
        obtain ⟨σ', H', J2, q⟩ := hs
        exact fin (v := V.non) (u := Value.none) J2 rfl q
      | brk =>
        obtain ⟨_, _, _, q⟩ := hs
        exact q.elim
      | cont =>
        obtain ⟨_, _, _, q⟩ := hs
        exact q.elim
    · exact h
  · exact h

/-- an own exception class over ValueError whose __init__ keeps its argument as a field -/
structure XCls (K : PySem.W.Frag) (P : Program) (C : Addr) (pn fld : Str) : Prop where
  oex : OexC K C
  ini : ∃ (f cc cda : Addr) (qual : Str) (st : Stmt) (fd : FuncData), XInit K P C f cc cda qual pn fld st fd ∧ PySem.W.findIn K (.ref C) "__init__" = some (some (.ref f)) ∧ PySem.W.typeIn K (.ref f) = some (.type "function") ∧ Binds K fd ["self", pn] []
  nof : PySem.W.findIn K (.ref C) fld = some none
/-- raise X(e) -/
theorem ps_raiseX {X : Cx} {W : WX} {C : Addr} {x pn fld : Str} {e : Expr} {te : TE} {p pos pos' : Pos} (calm : X.calm = true) (tk : Takes X W) (F : XCls X.K X.prog C pn fld) (nos : X.mg "super" = none) (hr : Room 5 X.A) (isC : X.mg x = some (.ref C)) (he : PE X e te) (gl : Gl X x := by rfl) (nd : (x == ("__debug__" : Str)) = false := by decide) (hst : starEach [e] X.env = (false, eval e X.env) :: starEach [] X.env := by rfl) :
    PS X (.Raise (some (.Call (.Name x p) [e] [] pos)) none pos') (fun _ σ H => te σ H fun v H1 => ∀ d H2, Ex H1 H2 → H2 d = some (.xd [(fld, v)]) → W (.ref C) (some d) σ H2) := by
  obtain ⟨f, cc, cda, qual, st, fd, XI, iC, tI, hb⟩ := F.ini
  have F1 := okXI (P := X.prog) (w := X.w) (mg := X.mg) (base := X.base) XI F.oex F.nof nos
  have q := ps_raise (pos := pos') calm tk (pmk_oex (p := p) (pos := pos) F.oex iC tI F1 hr hb .nil (pass0 (X := X)) gl isC (pa_cons (PE.mon he) pa_nil hst) nd hst rfl)
  refine ⟨fun pins s σ H D I h => q.run pins s σ H D I ?_⟩
  refine ⟨_, h, fun v H1 hv => ⟨by simp, fun a na => ?_⟩⟩
  refine ⟨a, v, rfl, upd_same, fun dx H' nd ne e' => ⟨rfl, dx, [(fld, v)], ?_, ?_, ?_, ?_⟩⟩
  · rw [e', upd_same]
  · rw [e', upd_ne ne, upd_same]
  · rw [upd_ne ne] at nd
    exact nd
  · rw [upd_ne ne] at nd
    refine hv dx _ (fun b o hb => ?_) upd_same
    have b1 : b ≠ a := fun z => by rw [z, na] at hb; cases hb
    have b2 : b ≠ dx := fun z => by rw [z, nd] at hb; cases hb
    rw [upd_ne b2, del_ne b1, e', upd_ne b1, upd_ne b2, upd_ne b1]
    exact hb

/-! figures read: any ASCII text -/
open PySem PySem.Spec PyProof.Rows L2 SX
/-- w tells a number as it is written -/
def decM (w : List Nat) : Bool := !w.isEmpty && (w.all fun c => decide (48 ≤ c) && decide (c ≤ 57)) && (w == [48] || w.head? != some 48)
theorem isdig_ascii : ∀ c < 128, Unicode.isDigit c = (decide (48 ≤ c) && decide (c ≤ 57)) := by decide +kernel
theorem digit_S2 {a : List Nat} (h : ∀ c ∈ a, c < 128) : Txt.isdigit (S a) = (!a.isEmpty && a.all fun c => decide (48 ≤ c) && decide (c ≤ 57)) := by
  unfold Txt.isdigit
  rw [S_len, ← Array.all_toList]
  have e1 : (S a).cps.toList = a := rfl
  have e2 : (a.all fun c => Unicode.isDigit c) = a.all fun c => decide (48 ≤ c) && decide (c ≤ 57) := by
    induction a with
    | nil => rfl
    | cons c a ih =>
      simp only [List.all_cons]
      rw [isdig_ascii c (h c List.mem_cons_self), ih (fun x hx => h x (List.mem_cons_of_mem _ hx)) rfl]
  rw [show ((S a).cps.toList.all Unicode.isDigit) = (a.all fun c => Unicode.isDigit c) from rfl, e2]
  congr 1
  cases a <;> simp
theorem val_snoc (w : List Nat) (d : Nat) : NumText.digitsVal (w ++ [d]) = NumText.digitsVal w * 10 + (d - 48) := by
  unfold NumText.digitsVal
  rw [List.foldl_append]
  rfl
theorem val_pos {w : List Nat} {c : Nat} {l : List Nat} (e : w = c :: l) (h : 48 < c) : 0 < NumText.digitsVal w := by
  subst e
  have key : ∀ (l : List Nat) (a : Nat), 0 < a → 0 < l.foldl (fun acc c => acc * 10 + (c - 48)) a := by
    intro l
    induction l with
    | nil => exact fun a h => h
    | cons x l ih =>
      intro a h
      exact ih _ (show 0 < a * 10 + (x - 48) by omega)
  unfold NumText.digitsVal
  exact key l _ (by simp; omega)
theorem num_back : ∀ (k : Nat) {w : List Nat}, w.length = k → decM w = true → TL.numL (NumText.digitsVal w) = w := by
  intro k
  induction k with
  | zero =>
    intro w hl h
    have : w = [] := List.length_eq_zero_iff.mp hl
    subst this
    cases h
  | succ k ih =>
    intro w hl h
    have hne : w ≠ [] := fun z => by rw [z] at hl; cases hl
    obtain ⟨w', d, rfl⟩ : ∃ w' d, w = w' ++ [d] := ⟨w.dropLast, w.getLast hne, (List.dropLast_concat_getLast hne).symm⟩
    simp only [decM, Bool.and_eq_true, Bool.or_eq_true, List.all_eq_true, decide_eq_true_eq] at h
    obtain ⟨⟨_, hd⟩, hz⟩ := h
    have dd := hd d (by simp)
    rw [val_snoc]
    cases w' with
    | nil =>
      rw [TL.numL_lt (by simp [NumText.digitsVal]; omega)]
      simp [NumText.digitsVal]
      omega
    | cons c l =>
      have c48 : c ≠ 48 := by
        rcases hz with hz | hz
        · simp at hz
        · simpa using hz
      have cd := hd c (by simp)
      have hw : decM (c :: l) = true := by
        simp only [decM, Bool.and_eq_true, Bool.or_eq_true, List.all_eq_true, decide_eq_true_eq]
        refine ⟨⟨rfl, fun x hx => hd x (List.mem_append_left _ hx)⟩, .inr ?_⟩
        simpa using c48
      have vp := val_pos (w := c :: l) rfl (by omega)
      rw [TL.numL_step (by omega)]
      have e1 : (NumText.digitsVal (c :: l) * 10 + (d - 48)) / 10 = NumText.digitsVal (c :: l) := by omega
      have e2 : (NumText.digitsVal (c :: l) * 10 + (d - 48)) % 10 = d - 48 := by omega
      rw [e1, e2, ih (by simpa using hl) hw]
      congr 2
      omega
theorem val_lt {w : List Nat} {k : Nat} (h : NumText.AllDigits w) (hl : w.length ≤ k) : NumText.digitsVal w < 10 ^ k := by
  have key : ∀ (n : Nat) (w : List Nat), w.length = n → NumText.AllDigits w → NumText.digitsVal w < 10 ^ n := by
    intro n
    induction n with
    | zero =>
      intro w hl _
      rw [List.length_eq_zero_iff.mp hl]
      decide
    | succ n ih =>
      intro w hl h
      have hne : w ≠ [] := fun z => by rw [z] at hl; cases hl
      obtain ⟨w', d, rfl⟩ : ∃ w' d, w = w' ++ [d] := ⟨w.dropLast, w.getLast hne, (List.dropLast_concat_getLast hne).symm⟩
      have h1 := ih w' (by simpa using hl) fun c hc => h c (List.mem_append_left _ hc)
      have h2 := h d (by simp)
      rw [val_snoc, Nat.pow_succ]
      omega
  exact Nat.lt_of_lt_of_le (key _ w rfl h) (Nat.pow_le_pow_right (by decide) hl)

/-! except (A, B, C) as name -/
theorem flying_kept {B h h' : Heap} {l : List Env} {a : Addr} {Z : Obj → Prop} (k : ∀ b o, h.get? b = some o → h'.get? b = some o) (fl : HandSPX.FlyingZ B l a Z h) : HandSPX.FlyingZ B l a Z h' := by
  obtain ⟨f1, f2, f3, oe, vs, T, oT, ts, t1, t2, t3, t4, t5, t6, t7, t8, t9⟩ := fl
  exact ⟨fun b o e => k b o (f1 b o e), f2, f3.of_keeps (fun b o e _ => ⟨o, k b o e, rfl⟩), oe, vs, T, oT, ts, k _ _ t1, t2, t3, t4, t5, t6, k _ _ t7, t8, t9⟩
/-- what the clause `except (A, B, C) as n` wishes of an error of the body -/
def wAsL (K : PySem.W.Frag) (cs : List Value) (i : Nat) (ts : Addr → Value → Option Addr → TS) (Wout : WX) (D : Ends) : WX := fun cls d σ H =>
  ∃ b, PySem.W.exmAny K cls cs = some b ∧ (b = false → Wout cls d σ H) ∧
    (b = true → ∀ a, H a = none → ts a cls d { nx := fun σ' H' => D.nx (σ'.set i none) H', rt := D.rt, bk := fun σ' H' => D.bk (σ'.set i none) H', ct := fun σ' H' => D.ct (σ'.set i none) H' } (σ.set i (some (.ref a))) H)
section
variable {X : Cx} {x1 x2 x3 n : Str} {c1 c2 c3 : Value} {i tk0 : Nat} {body suite : List Stmt} {b₀ : Stmt} {q1 q2 q3 tp pos pos' : Pos} {tb : WX → TS} {ts : Addr → Value → Option Addr → TS} {Wout : WX}
/-- a class is named: nothing is laid -/
theorem name_here {Y : Cx} {pn : List (Addr × Obj)} {σ : L2.St} {H : Hp} {s : Shared} {x : Str} {c : Value} {p : Pos} {Q : Value → Shared → Prop} {E : Value → Shared → Prop} (G : Inv Y pn σ H s) (hc : Names Y x c) (q : Q c s) : wpAny (model Y.prog Y.w) Y.A (eval (.Name x p) Y.env) Q E s := by
  obtain ⟨h1, h2, h3 | ⟨h3, h4, h5⟩⟩ := hc
  · exact ld_glob G h1 h3 q h2
  · exact ld_blt G h1 h3 h4 q h5 h2
/-- the tuple of three classes is laid -/
theorem tup_here {Y : Cx} {pn : List (Addr × Obj)} {σ : L2.St} {H : Hp} {s : Shared} {Q : Value → Shared → Prop} {E : Value → Shared → Prop} (G : Inv Y pn σ H s) (h1 : Names Y x1 c1) (h2 : Names Y x2 c2) (h3 : Names Y x3 c3)
    (q : Q (.ref s.heap.objs.size) { s with heap := s.heap.push { cls := .type "tuple", data := .seq [c1, c2, c3].toArray } }) : wpAny (model Y.prog Y.w) Y.A (eval (.Tuple [.Name x1 q1, .Name x2 q2, .Name x3 q3] tk0 tp) Y.env) Q E s := by
  refine wpAny_Tuple_spliced ?_
  exact Calls.spliced_cons (name_here G h1 (Calls.spliced_cons (name_here G h2 (Calls.spliced_cons (name_here G h3 (Calls.spliced_nil ⟨by rw [sizeLine_eq]; simp, q⟩))))))
theorem ps_try_asL (stk : X.stack = X.env :: X.outer) (fr : X.env.frame = some X.env.locals) (nod : X.N.Nodup) (hi : X.N[i]? = some n) (loc : X.env.kindOf n = some .local) (h1 : Names X x1 c1) (h2 : Names X x2 c2) (h3 : Names X x3 c3) (tk : Takes X Wout)
    (hb : ∀ (W : WX) (pn : List (Addr × Obj)) (xe : Value → Shared → Prop), Takes (X.tr pn xe) W → PassesOwn (model X.prog X.w) X.A X.env xe → PSs (X.tr pn xe) body (tb W))
    (hsu : ∀ (a : Addr) (oe : Obj) (cls : Value) (d : Option Addr) (pn : List (Addr × Obj)), Zc cls d oe → (∃ vs, oe.data = .fields vs) → PSs (X.suite a ((a, oe) :: pn)) (b₀ :: suite) (ts a cls d)) :
    PS X (.Try body [.ExceptHandler (some (.Tuple [.Name x1 q1, .Name x2 q2, .Name x3 q3] tk0 tp)) (some n) (b₀ :: suite) pos'] [] [] pos) (fun D σ H => tb (wAsL X.K [c1, c2, c3] i ts Wout D) D σ H) := by
  refine ⟨fun pins s σ H D G h => wpAny_Try_except ?_⟩
  have ok := G.ok
  have frames : X.A.frames = some (X.env :: X.outer) := ok.frames.trans (by rw [stk])
  have run := hb (wAsL X.K [c1, c2, c3] i ts Wout D) (X.pn ++ pins) (fun e s1 => wpAny (model X.prog X.w) X.A (noteFrame e X.env) (fun _ s2 => wpAny (model X.prog X.w) X.A (setFlight e none) (fun _ s3 =>
    wpAny (model X.prog X.w) X.A (handleBy e X.env [.ExceptHandler (some (.Tuple [.Name x1 q1, .Name x2 q2, .Name x3 q3] tk0 tp)) (some n) (b₀ :: suite) pos']) (SP X pins D) X.xe s3) X.xe s2) X.xe s1) (fun u sx caught => ?_) PassesOwn.looking
  · refine wpAny_mono (run.run [] s σ H D (G.toTry _) h) (fun f s1 hsp => ?_) fun _ _ z => z
    cases f with
    | next =>
      obtain ⟨σ', H', G', q⟩ := hsp
      exact wpAny_execs_nil ⟨σ', H', G'.ofTry ok, q⟩
    | brk => exact let ⟨σ', H', G', q⟩ := hsp; ⟨σ', H', G'.ofTry ok, q⟩
    | cont => exact let ⟨σ', H', G', q⟩ := hsp; ⟨σ', H', G'.ofTry ok, q⟩
    | ret u => exact let ⟨v, σ', H', G', r, q⟩ := hsp; ⟨v, σ', H', G'.ofTry ok, r, q⟩
  obtain ⟨a, B, sI, pins', σ1, H1, cls, d, rfl, G0, nb, up, sky, na, os, ag, b, hb1, hno, hyes⟩ := caught
  have G1 : Inv X pins σ1 H1 sI := G0.ofTry ok
  rw [stk] at sky
  show wpAny (model X.prog X.w) X.A (noteFrame (.ref a) X.env) _ _ _
  refine Sky.land Zc.steady frames fr sky fun hp2 fl2 up2 => ?_
  have G2 : Inv X pins σ1 H1 { sx with heap := hp2 } := G1.landed nb fl2.1 (up.trans up2) os ag
  have apart : ∀ {hp : Heap}, HandSPX.FlyingZ B (X.env :: X.outer) a (Zc cls d) hp → a ∉ frs (X.env :: X.outer) := fun fl hm => by
    obtain ⟨o, vs, e1, _, e3⟩ := fl.there
    obtain ⟨_, o', e4, nf⟩ := fl.2.2.1.mem hm
    rw [e1] at e4
    cases e4
    exact nf _ e3
  have noFr := apart fl2
  have noL : a ≠ X.env.locals := fun z => noFr (List.mem_filterMap.mpr ⟨X.env, List.mem_cons_self, by rw [fr, z]⟩)
  have noO : a ∉ X.fs := fun hm => by
    obtain ⟨e, he, q⟩ := List.mem_filterMap.mp hm
    exact noFr (List.mem_filterMap.mpr ⟨e, List.mem_cons_of_mem _ he, q⟩)
  obtain ⟨o2, v2, e2, z2, d2⟩ := fl2.there
  have GS := G2.suite e2 d2 na noL noO
  refine wpAny_handleBy_cons (codeAny_handlers_test ?_) (by intro q; cases q)
  refine tup_here (Y := X.suite a ((a, o2) :: (X.pn ++ pins))) GS h1 h2 h3 ?_
  have k3 : ∀ c o, hp2.get? c = some o → (hp2.push { cls := .type "tuple", data := .seq [c1, c2, c3].toArray }).get? c = some o := fun c o e => Heap.get?_push_of_some _ e
  have t3 : (hp2.push { cls := .type "tuple", data := .seq [c1, c2, c3].toArray }).get? hp2.objs.size = some { cls := .type "tuple", data := .seq [c1, c2, c3].toArray } := Heap.get?_push_at rfl rfl
  show wpAny _ _ (excMatches (.ref a) (.ref hp2.objs.size)) _ _ _
  generalize hp2.push { cls := .type "tuple", data := .seq [c1, c2, c3].toArray } = hp3 at k3 t3
  have fl3 := flying_kept k3 fl2
  have up3 : sI.heap.UpToSlots hp3 := (up.trans up2).trans (Heap.UpToSlots.of_keeps k3)
  have G3 : Inv X pins σ1 H1 { sx with heap := hp3 } := G1.landed nb fl3.1 up3 os ag
  have look : PySem.W.Looks (model X.prog X.w) hp3 (typeOf (.ref a)) cls := fun A Q E s k q => wpAny_typeOf_ref (k _ _ (k3 _ _ e2)) (by rw [z2.1]; exact q)
  refine (PySem.W.exm_tup3 G3.kIn look t3 hb1).here ?_
  cases b with
  | false =>
    show wpAny _ X.A (handleBy (.ref a) X.env []) _ _ _
    refine wpAny_handleBy_nil ?_
    obtain ⟨_, _, _, o5, v5, T5, _, _, g1, _, g3, g4, _⟩ := id fl3
    have leave : wpAny (model X.prog X.w) X.A (setFlight (.ref a) X.env.frame) (fun _ s4 => wpAny (model X.prog X.w) X.A (throw (.ref a) : Sem Flow) (SP X pins D) X.xe s4) X.xe { sx with heap := hp3 } := by
      rw [fr]
      exact HandSPX.setFlight_upZ fl3 fun hp4 held up4 => wpAny_throw (tk _ _ ⟨a, B, sI, pins, σ1, H1, cls, d, rfl, G1, nb, up3.trans up4, .inr (.inr (by rw [stk]; exact held)), na, os, ag, hno rfl⟩)
    unfold PySem.passOn
    refine wpAny_bind (wpAny_field g1 g3 g4 ?_)
    rw [if_neg (by simp : ¬ (Value.ref T5 == Value.none) = true)]
    first
      | exact wpAny_bind leave
      | exact wpAny_bind (wpAny_pure (wpAny_bind leave))
  | true =>
    refine codeAny_handlers_suite_as ?_
    refine HandSPX.lands_againZ fl3 fun hp4 fl4 up4 => ?_
    have G4 : Inv X pins σ1 H1 { sx with heap := hp4 } := G1.landed nb fl4.1 (up3.trans up4) os ag
    obtain ⟨o4, v4, e4, z4, d4⟩ := fl4.there
    refine store_ok (X := X.suite a ((a, o4) :: (X.pn ++ pins))) (v := .ref a) (G4.suite e4 d4 na noL noO) nod hi (.inl loc) rfl (fun s5 G5 => ?_) (.inr loc)
    refine wpAny_mono ((hsu a o4 cls d (X.pn ++ pins) z4 ⟨_, d4⟩).run [] s5 _ H1 _ G5 (hyes rfl a na)) (fun f s6 hsp => ?_) fun _ _ z => z.elim
    have fin : ∀ {σ6 : L2.St} {H6 : Hp} {Q : Shared → Prop}, Inv (X.suite a ((a, o4) :: (X.pn ++ pins))) [] σ6 H6 s6 → (∀ s7, Inv X pins (σ6.set i none) H6 s7 → Q s7) →
        wpAny (model X.prog X.w) X.A (do bindName X.env n .none; unbindBehindTheSuite X.env n pos') (fun _ s7 => Q s7) X.xe s6 := fun G6 q => gone_ok (G6.unsuite ok) nod hi loc q
    cases f with
    | next => exact let ⟨σ6, H6, G6, q6⟩ := hsp; fin G6 fun s7 G7 => ⟨_, _, G7, q6⟩
    | brk => exact let ⟨σ6, H6, G6, q6⟩ := hsp; fin G6 fun s7 G7 => ⟨_, _, G7, q6⟩
    | cont => exact let ⟨σ6, H6, G6, q6⟩ := hsp; fin G6 fun s7 G7 => ⟨_, _, G7, q6⟩
    | ret u => exact let ⟨v6, σ6, H6, G6, r6, q6⟩ := hsp; fin G6 fun s7 G7 => ⟨_, _, _, G7, r6, q6⟩
end

/-! isinstance of a caught error that has a dict -/
/-- isinstance(e, c), e the caught error of the class D, its dict at d -/
def rIsD (K : PySem.W.Frag) (D a d : Addr) : List V → Hp → VK → Prop := fun xs H Q => ∃ (c : V) (cv : Value) (b : Bool) (fs : List (Str × V)), xs = [.ref a, c] ∧ (∀ u, RelV c u → u = cv) ∧ PySem.W.kitOne K (.ref D) cv = some b ∧ H d = some (.xd fs) ∧ Q (.bl b) H
theorem call_isD {X : Cx} {a D d : Addr} {oe : Obj} {pn : List (Addr × Obj)} (C : ExcC X.K D) (hz : Zc (.ref D) (some d) oe) (hf : ∃ vs, oe.data = .fields vs) : CallR (X.suite a ((a, oe) :: pn)) (.builtin "isinstance") (rIsD X.K D a d) := by
  intro pins s σ H xs us Q I r h
  obtain ⟨c, cv, b, fs, rfl, hcv, e, hd, q⟩ := h
  obtain ⟨u1, u2, rfl, r1, r2⟩ := vals2 r
  obtain rfl : u1 = Value.ref a := r1
  have ec := hcv _ r2
  subst ec
  obtain ⟨hget, _⟩ := I.pin (a, oe) (List.mem_append.mpr (.inl List.mem_cons_self))
  obtain ⟨vs, hv⟩ := hf
  have ok : ObjOk X.prog X.w H s.heap d (.xd fs) := I.hok d _ hd
  obtain ⟨mA, ⟨oD, es, ep, hoD, _⟩, _⟩ := ok
  have J : PySem.W.InstAt s.heap a oe D (some oD) := by
    obtain ⟨oc, od, oda, osl⟩ := oe
    obtain ⟨h1, h2⟩ := hz
    dsimp only at h1 h2 hv
    subst h1 h2 hv
    exact ⟨hget, rfl, rfl, hoD⟩
  have isC : (PySem.W.clsIn X.K D).isSome = true := by
    obtain ⟨cd, hc, _⟩ := PySem.W.any_some C.hd
    rw [hc]
    rfl
  exact PySem.W.kia_one (PySem.W.kitx_exc isC C.hg C.hk C.hs C.ha C.hn C.ht C.hm) I.kIn J e (fun z => nomatch z) fun tk => ⟨.bl b, H, I.kept (t' := tk) fun _ _ z => z, rfl, q⟩

/-! ## exceptions of own classes, defs that let them out, a lambda tried -/
section
variable {X : Cx}
/-- an own class of exceptions called without anything -/
theorem pmk_own0 {C : Addr} {bmB : List Value} {B nId iId : String} {x : Str} {p pos : Pos}
    (facts : ExcBaseFacts B nId iId bmB) (cls : PySem.W.excIn X.K C bmB nId = true) (raisable : Raises X (.ref C))
    (kept : PySem.W.keepIn X.K (.ref C) = true) (isC : X.mg x = some (.ref C)) (gl : Gl X x := by rfl) (nd : (x == ("__debug__" : Str)) = false := by decide) :
    PMk X (.Call (.Name x p) [] [] pos) (fun _ H Q => Q (.ref C) none H) := by
  intro pins s σ H Q I q
  refine wpAny_Call_Name_kw (ld_glob I gl isC ?_ nd)
  refine PySem.W.callWith_K0 I.kIn kept ?_
  obtain ⟨_, _, _, _, _, _, _, _, _, _, _, _, _, _, _, _, _, hC, hN, hni, T⟩ := exc_obj I.kIn cls
  refine wpAny_call_exc_subT facts T hC hN hni (fun h' e made => ?_) (Nat.zero_le _)
  exact mk_of I made raisable q (I.hok.gone made.new)
end
/-- what is known of an own class over ArithmeticError that has no __init__ of its own -/
structure ExcA (K : PySem.W.Frag) (C : Addr) : Prop where
  cls : PySem.W.excIn K C [.type "ArithmeticError", .type "Exception", .type "BaseException", .type "object"] "ArithmeticError.__new__" = true
  sub : PySem.W.subIn K (.ref C) (.type "BaseException") = some true
  typ : PySem.W.typeIn K (.ref C) = some (.type "type")
  kept : PySem.W.keepIn K (.ref C) = true
  own : PySem.W.exmOne K (.ref C) (.ref C) = some true
/-- raise X() -/
theorem ps_raise0 {X : Cx} {W : WX} {C : Addr} {x : Str} {p pos pos' : Pos} (calm : X.calm = true) (tk : Takes X W) (F : ExcA X.K C) (isC : X.mg x = some (.ref C)) (gl : Gl X x := by rfl) (nd : (x == ("__debug__" : Str)) = false := by decide) :
    PS X (.Raise (some (.Call (.Name x p) [] [] pos)) none pos') (fun _ σ H => W (.ref C) none σ H) :=
  ps_raise calm tk (pmk_own0 PySem.F.excBase_ArithmeticError F.cls (raises_own F.sub F.typ) F.kept isC gl nd)
/-- the global x is a def that keeps sp, and may raise -/
def HasX (P : Program) (w : World) (K : PySem.W.Frag) (mg : Str → Option Value) (base : Heap) (x : Str) (k : Nat) (ps : List Str) (sp : Sp) : Prop :=
  ∃ f fd, FnOk P w K mg base (L2.CX P w) k f fd ps sp ∧ mg x = some (.ref f) ∧ PySem.W.keepIn K (.ref f) = true ∧ Binds K fd ps []
def HasXW (P : Program) (w : World) (K : PySem.W.Frag) (mg : Str → Option Value) (base : Heap) (x : Str) (k : Nat) (ps : List Str) (sp : Sp) (ks : List Str) (ix : List Nat) : Prop :=
  ∃ f fd, FnOk P w K mg base (L2.CX P w) k f fd ps sp ∧ mg x = some (.ref f) ∧ PySem.W.keepIn K (.ref f) = true ∧ KwOk fd ps ks ix
theorem HasX.of {P : Program} {w : World} {K : PySem.W.Frag} {mg : Str → Option Value} {base : Heap} {x : Str} {st : Stmt} {ps : List Str} {k : Nat} {sp : Sp} (D : Df K mg x st ps)
    (h : ∀ f fd, Fun K x x st f fd → FnOk P w K mg base (L2.CX P w) k f fd ps sp) : HasX P w K mg base x k ps sp := by
  obtain ⟨f, fd, F, hm, hb⟩ := D
  exact ⟨f, fd, h f fd F, hm, F.kp, hb⟩
theorem HasXW.of {P : Program} {w : World} {K : PySem.W.Frag} {mg : Str → Option Value} {base : Heap} {x : Str} {st : Stmt} {ps ks : List Str} {ix : List Nat} {k : Nat} {sp : Sp} (D : DfW K mg x st ps ks ix)
    (h : ∀ f fd, Fun K x x st f fd → FnOk P w K mg base (L2.CX P w) k f fd ps sp) : HasXW P w K mg base x k ps sp ks ix := by
  obtain ⟨f, fd, F, hm, hb⟩ := D
  exact ⟨f, fd, h f fd F, hm, F.kp, hb⟩
section
variable {X : Cx}
def tFX (sp : Sp) (E : XK) (t : TA) : TE := fun σ H Q => t σ H fun vs H1 => sp vs H1 Q E
def tWX (sp : Sp) (E : XK) (m : Nat) (ix : List Nat) (tk : TA) : TE := fun σ H Q => tk σ H fun zs H1 => zs.length = m ∧ sp (arr ix zs) H1 Q E
abbrev offE (E : XK) : WX := fun cls d _ H => E cls d H
theorem pe_hasX {x : Str} {k : Nat} {ps : List Str} {sp : Sp} {E : XK} {p pos : Pos} {e : Expr} {es : List Expr} {t : TA}
    (h : HasX X.prog X.w X.K X.mg X.base x k ps sp) (tk : Takes X (offE E)) (hr : Room k X.A) (ha : PA X (e :: es) t) (hg : Gl X x := by rfl)
    (hdb : (x == ("__debug__" : Str)) = false := by decide)
    (he : starEach (e :: es) X.env = (false, eval e X.env) :: starEach es X.env := by rfl)
    (hpl : (backTo pos (starEach es X.env)).any (·.1) = false := by rfl) :
    PE X (.Call (.Name x p) (e :: es) [] pos) (tFX sp E t) := by
  obtain ⟨f, fd, F, hm, hk, hb⟩ := h
  have q := pe_call (X := X) (p := p) (pos := pos) F hr hg hm hk hb .nil (passes_call tk fun _ _ _ _ z => z) ha hdb he hpl
  refine ⟨fun pins s σ H Q I hq => q.run pins s σ H Q I ?_⟩
  show t σ H fun vs H1 => sp (vs ++ []) H1 Q E
  simp only [List.append_nil]
  exact hq
theorem pe_hasXW {x : Str} {k : Nat} {ps ks : List Str} {ix : List Nat} {sp : Sp} {E : XK} {p pos : Pos} {kws : List Keyword} {ta : TA}
    (h : HasXW X.prog X.w X.K X.mg X.base x k ps sp ks ix) (tk : Takes X (offE E)) (hr : Room k X.A) (hkw : PK X kws ta) (hg : Gl X x := by rfl)
    (hdb : (x == ("__debug__" : Str)) = false := by decide)
    (hall : (backToKw pos (keywordEach kws X.env)).all (·.1.isSome) = true := by rfl) (hks : (backToKw pos (keywordEach kws X.env)).filterMap (·.1) = ks := by rfl)
    (hpl : ((backTo pos (starEach [] X.env)).any (·.1) || (backToKw pos (keywordEach kws X.env)).any (·.1.isNone)) = false := by rfl) :
    PE X (.Call (.Name x p) [] kws pos) (tWX sp E ks.length ix ta) := by
  obtain ⟨f, fd, F, hm, hk, hb⟩ := h
  refine ⟨fun pins s σ H Q I h => ?_⟩
  apply wpAny_Call_Name_kw (ld_glob I hg hm ?_ hdb)
  apply PySem.W.callWith_KW0 (h₀ := X.base) I.ok.mod.kin hk hall ?_ hpl
  refine thn (hkw.run pos pins s σ H _ I h) fun ws s2 ⟨zs, H2, I2, rz, l, hsp⟩ => ⟨I2.kIn, ?_⟩
  rw [hks]
  have r2 := arr_vals rz ix
  have bnd := hb s2 ws (by rw [← rz.length]; exact l)
  refine wpAny_call (codeAny_mono (F.run X.A X.stack s2 H2 ⟨[], ks.zip ws⟩ (arr ix ws) (arr ix zs) Q E hr I2.env0 bnd r2 hsp) fun r s' hc => ?_)
  cases r with
  | error er => exact passes_call tk (fun _ _ _ _ z => z) pins σ H2 s2 er s' I2 hc
  | ok fl =>
    cases fl with
    | ret u => exact I2.after hc
    | next => exact hc.elim
    | brk => exact hc.elim
    | cont => exact hc.elim
/-- what leaves a def's body -/
theorem takes_def {P : Program} {w : World} {K : PySem.W.Frag} {mg : Str → Option Value} {base : Heap} {N : List Str} {q : Str} {sc : Scope} {f : Addr} {cd : Value} {A : Around} {outer : List Env} {s : Shared} {H : Hp} {E : XK} :
    Takes (cxOf (L2.CX P w) P w K mg base N q sc f cd A outer s H E) (offE E) :=
  takes_of rfl rfl rfl rfl
theorem takes_lam {A : Around} {outer : List Env} {s : Shared} {H : Hp} {E : XK} {scope : Scope} {f c' : Addr} :
    Takes (LamX.lamCx X A outer s H E scope f c') (offE E) :=
  takes_of rfl rfl rfl rfl
end
/-! ### a lambda tried by a def of the law -/
/-- what such a def makes of the lambda: its value, or None where it raises an exception of the class -/
def TTnone (K : PySem.W.Frag) (CN : Addr) : (XK → Hp → VK → Prop) → Hp → VK → Prop := fun tl H Q =>
  tl (fun cls _ H' => PySem.W.exmOne K cls (.ref CN) = some true ∧ Q .non H') H Q
/-- the def x: try: return a() / except e: return None -/
structure Trier (K : PySem.W.Frag) (mg : Str → Option Value) (x a e : Str) (CN : Addr) (N : List Str) (st : Stmt) : Prop where
  df : Df K mg x st [a]
  sc : FnScope N [a] (defScope st)
  nm : N[0]? = some a
  start : ∀ f : Addr, (L2.start N [V.ref f])[0]? = some (some (V.ref f))
  vis : Vis (defScope st) a
  gl : (defScope st).names.lookup e = some .globalImplicit
  cls : mg e = some (.ref CN)
  ne : (e == ("__debug__" : Str)) = false
  na : (a == ("__debug__" : Str)) = false
  nc : (a == ("__classdict__" : Str)) = false
  body : ∃ (p1 p2 p3 p4 p5 p6 p7 p8 : Pos) (j : Nat), defBody st = [.Try [.Return (some (.Call (.Name a p1) [] [] p2)) p3] [.ExceptHandler (some (.Name e p4)) none [.Return (some (.Constant .none j p5)) p6] p7] [] [] p8]
theorem told_none {X : Cx} {N : List Str} {x a e q : Str} {sg : Scope} {g CN : Addr} {cdg : Value} {j : Nat} {p1 p2 p3 p4 p5 p6 p7 p8 : Pos}
    (start0 : ∀ f : Addr, (L2.start N [V.ref f])[0]? = some (some (V.ref f))) (isGl : sg.names.lookup e = some .globalImplicit) (isC : X.mg e = some (.ref CN)) (nd : (e == ("__debug__" : Str)) = false) :
    LamX.GivesTo X N x sg g cdg [.Try [.Return (some (.Call (.Name a p1) [] [] p2)) p3] [.ExceptHandler (some (.Name e p4)) none [.Return (some (.Constant .none j p5)) p6] p7] [] [] p8] a q (TTnone X.K CN) := by
  intro f c' s H Q tl run code goal
  have glob : Gl (cxOf C8.CX0 X.prog X.w X.K X.mg X.base N x sg g cdg X.A X.stack s H C8.E0).nox e := isGl
  let tbody : WX → TS := fun W D σ G => ∃ Er : XK, (∀ cls d σ' G', Er cls d G' → W cls d σ' G') ∧ σ[0]? = some (some (.ref f)) ∧ G c' = some (LamX.CodeO c' q) ∧ tl Er G D.rt
  have first : ∀ (W : WX) (pn : List (Addr × Obj)) (xe : Value → Shared → Prop), Takes ((cxOf C8.CX0 X.prog X.w X.K X.mg X.base N x sg g cdg X.A X.stack s H C8.E0).nox.tr pn xe) W →
      PSs ((cxOf C8.CX0 X.prog X.w X.K X.mg X.base N x sg g cdg X.A X.stack s H C8.E0).nox.tr pn xe) [.Return (some (.Call (.Name a p1) [] [] p2)) p3] (tbody W) := by
    intro W pn xe tk
    refine ⟨fun pins s' σ G D I ⟨Er, h0, h1, h2, h3⟩ => ?_⟩
    exact (pss_one (ps_ret (pos := p3) (run W pn xe Er p1 p2 tk h0))).run pins s' σ G D I ⟨h1, h2, h3⟩
  refine ⟨_, pss_one (ps_try_only (X := (cxOf C8.CX0 X.prog X.w X.K X.mg X.base N x sg g cdg X.A X.stack s H C8.E0).nox) (c := .ref CN) (tb := tbody)
    rfl rfl ⟨glob, nd, .inl isC⟩ LamX.takes0 (fun W pn xe tk _ => first W pn xe tk) (fun _ _ _ _ _ _ _ => pss_one (ps_ret pe_non))), ?_⟩
  refine ⟨fun cls _ G => PySem.W.exmOne X.K cls (.ref CN) = some true ∧ Q .non G, ?_, start0 f, code, goal⟩
  rintro cls d σ' G ⟨h1, h2⟩
  exact ⟨true, h1, fun _ _ _ => h2, fun z => nomatch z⟩
theorem pe_told {X : Cx} {x a e : Str} {CN c P : Addr} {N : List Str} {st : Stmt} {k : Nat} {params : Arguments} {body : Expr} {scope : Scope} {t : XK → TE} {p lpos pos : Pos}
    (Tr : Trier X.K X.mg x a e CN N st) (TB : LamX.TabB X.base X.mg c P) (hcode : X.env.code = .ref c) (hr : Room (k + 2) X.A)
    (hbody : ∀ (A : Around) (outer : List Env) (s : Shared) (H : Hp) (E : XK) (f c' : Addr), Room k (A.deeper (LamX.lamEnv X scope s.heap.objs.size f c')) → PE (LamX.lamCx X A outer s H E scope f c') body (t E))
    (hg : Gl X x := by rfl) (L : LamX.LamS X.env.scope scope := by exact LamX.lamS_by rfl) (hdef : defaultsOf params X.env = ([], []) := by rfl)
    (hbind : ∀ (q : Str) (cl : List (Str × Addr)) (pm cv ctv : Value), bindArgs (PySem.W.kla_fn "<lambda>" q params body scope cl pm cv ctv) ⟨[], []⟩ = pure [] := by intros; rfl)
    (hdb : (x == ("__debug__" : Str)) = false := by decide) :
    PE X (.Call (.Name x p) [.Lambda params body scope lpos] [] pos) (LamX.tLam [(P, X.env.qual ++ "<lambda>")] (TTnone X.K CN) t) := by
  obtain ⟨g, fd, F, hm, hb⟩ := Tr.df
  obtain ⟨oc, od, kV, doc, pm, an, cdv, ct, osl, rfl, look, hcd⟩ := F.ex
  obtain ⟨p1, p2, p3, p4, p5, p6, p7, p8, j, eb⟩ := Tr.body
  have gives := told_none (X := X) (N := N) (x := x) (a := a) (q := X.env.qual ++ "<lambda>") (g := g) (cdg := cdv) (j := j) (p1 := p1) (p2 := p2) (p3 := p3) (p4 := p4) (p5 := p5) (p6 := p6) (p7 := p7) (p8 := p8) Tr.start Tr.gl Tr.cls Tr.ne
  rw [← eb] at gives
  refine LamX.pe_lamcall (k := k) hg hm F.kp look hcd hb Tr.sc Tr.nm Tr.vis gives TB hcode (List.mem_singleton.mpr rfl) ?_ hr L hdef hbind hbody hdb Tr.na Tr.nc
  intro y hy _
  rw [List.mem_singleton.mp hy]

/-! except (A, B): without a name -/
/-- what the clause `except (A, B)` wishes of an error of the body -/
def wOnlyL (K : PySem.W.Frag) (cs : List Value) (ts : Addr → Value → Option Addr → TS) (Wout : WX) (D : Ends) : WX := fun cls d σ H =>
  ∃ b, PySem.W.exmAny K cls cs = some b ∧ (b = false → Wout cls d σ H) ∧ (b = true → ∀ a, H a = none → ts a cls d D σ H)
section
variable {X : Cx} {x1 x2 : Str} {c1 c2 : Value} {tk0 : Nat} {body suite : List Stmt} {b₀ : Stmt} {q1 q2 tp pos pos' : Pos} {tb : WX → TS} {ts : Addr → Value → Option Addr → TS} {Wout : WX}
theorem tup_here2 {Y : Cx} {pn : List (Addr × Obj)} {σ : L2.St} {H : Hp} {s : Shared} {Q : Value → Shared → Prop} {E : Value → Shared → Prop} (G : Inv Y pn σ H s) (h1 : Names Y x1 c1) (h2 : Names Y x2 c2)
    (q : Q (.ref s.heap.objs.size) { s with heap := s.heap.push { cls := .type "tuple", data := .seq [c1, c2].toArray } }) : wpAny (model Y.prog Y.w) Y.A (eval (.Tuple [.Name x1 q1, .Name x2 q2] tk0 tp) Y.env) Q E s := by
  refine wpAny_Tuple_spliced ?_
  exact Calls.spliced_cons (name_here G h1 (Calls.spliced_cons (name_here G h2 (Calls.spliced_nil ⟨by rw [sizeLine_eq]; simp, q⟩))))
theorem ps_try_onlyL (stk : X.stack = X.env :: X.outer) (fr : X.env.frame = some X.env.locals) (h1 : Names X x1 c1) (h2 : Names X x2 c2) (tk : Takes X Wout)
    (hb : ∀ (W : WX) (pn : List (Addr × Obj)) (xe : Value → Shared → Prop), Takes (X.tr pn xe) W → PassesOwn (model X.prog X.w) X.A X.env xe → PSs (X.tr pn xe) body (tb W))
    (hsu : ∀ (a : Addr) (oe : Obj) (cls : Value) (d : Option Addr) (pn : List (Addr × Obj)), Zc cls d oe → (∃ vs, oe.data = .fields vs) → PSs (X.suite a ((a, oe) :: pn)) (b₀ :: suite) (ts a cls d)) :
    PS X (.Try body [.ExceptHandler (some (.Tuple [.Name x1 q1, .Name x2 q2] tk0 tp)) none (b₀ :: suite) pos'] [] [] pos) (fun D σ H => tb (wOnlyL X.K [c1, c2] ts Wout D) D σ H) := by
  refine ⟨fun pins s σ H D G h => wpAny_Try_except ?_⟩
  have ok := G.ok
  have frames : X.A.frames = some (X.env :: X.outer) := ok.frames.trans (by rw [stk])
  have run := hb (wOnlyL X.K [c1, c2] ts Wout D) (X.pn ++ pins) (fun e s1 => wpAny (model X.prog X.w) X.A (noteFrame e X.env) (fun _ s2 => wpAny (model X.prog X.w) X.A (setFlight e none) (fun _ s3 =>
    wpAny (model X.prog X.w) X.A (handleBy e X.env [.ExceptHandler (some (.Tuple [.Name x1 q1, .Name x2 q2] tk0 tp)) none (b₀ :: suite) pos']) (SP X pins D) X.xe s3) X.xe s2) X.xe s1) (fun u sx caught => ?_) PassesOwn.looking
  · refine wpAny_mono (run.run [] s σ H D (G.toTry _) h) (fun f s1 hsp => ?_) fun _ _ z => z
    cases f with
    | next =>
      obtain ⟨σ', H', G', q⟩ := hsp
      exact wpAny_execs_nil ⟨σ', H', G'.ofTry ok, q⟩
    | brk => exact let ⟨σ', H', G', q⟩ := hsp; ⟨σ', H', G'.ofTry ok, q⟩
    | cont => exact let ⟨σ', H', G', q⟩ := hsp; ⟨σ', H', G'.ofTry ok, q⟩
    | ret u => exact let ⟨v, σ', H', G', r, q⟩ := hsp; ⟨v, σ', H', G'.ofTry ok, r, q⟩
  obtain ⟨a, B, sI, pins', σ1, H1, cls, d, rfl, G0, nb, up, sky, na, os, ag, b, hb1, hno, hyes⟩ := caught
  have G1 : Inv X pins σ1 H1 sI := G0.ofTry ok
  rw [stk] at sky
  show wpAny (model X.prog X.w) X.A (noteFrame (.ref a) X.env) _ _ _
  refine Sky.land Zc.steady frames fr sky fun hp2 fl2 up2 => ?_
  have G2 : Inv X pins σ1 H1 { sx with heap := hp2 } := G1.landed nb fl2.1 (up.trans up2) os ag
  have apart : ∀ {hp : Heap}, HandSPX.FlyingZ B (X.env :: X.outer) a (Zc cls d) hp → a ∉ frs (X.env :: X.outer) := fun fl hm => by
    obtain ⟨o, vs, e1, _, e3⟩ := fl.there
    obtain ⟨_, o', e4, nf⟩ := fl.2.2.1.mem hm
    rw [e1] at e4
    cases e4
    exact nf _ e3
  have noFr := apart fl2
  have noL : a ≠ X.env.locals := fun z => noFr (List.mem_filterMap.mpr ⟨X.env, List.mem_cons_self, by rw [fr, z]⟩)
  have noO : a ∉ X.fs := fun hm => by
    obtain ⟨e, he, q⟩ := List.mem_filterMap.mp hm
    exact noFr (List.mem_filterMap.mpr ⟨e, List.mem_cons_of_mem _ he, q⟩)
  obtain ⟨o2, v2, e2, z2, d2⟩ := fl2.there
  have GS := G2.suite e2 d2 na noL noO
  refine wpAny_handleBy_cons (codeAny_handlers_test ?_) (by intro q; cases q)
  refine tup_here2 (Y := X.suite a ((a, o2) :: (X.pn ++ pins))) GS h1 h2 ?_
  have k3 : ∀ c o, hp2.get? c = some o → (hp2.push { cls := .type "tuple", data := .seq [c1, c2].toArray }).get? c = some o := fun c o e => Heap.get?_push_of_some _ e
  have t3 : (hp2.push { cls := .type "tuple", data := .seq [c1, c2].toArray }).get? hp2.objs.size = some { cls := .type "tuple", data := .seq [c1, c2].toArray } := Heap.get?_push_at rfl rfl
  show wpAny _ _ (excMatches (.ref a) (.ref hp2.objs.size)) _ _ _
  generalize hp2.push { cls := .type "tuple", data := .seq [c1, c2].toArray } = hp3 at k3 t3
  have fl3 := flying_kept k3 fl2
  have up3 : sI.heap.UpToSlots hp3 := (up.trans up2).trans (Heap.UpToSlots.of_keeps k3)
  have G3 : Inv X pins σ1 H1 { sx with heap := hp3 } := G1.landed nb fl3.1 up3 os ag
  have look : PySem.W.Looks (model X.prog X.w) hp3 (typeOf (.ref a)) cls := fun A Q E s k q => wpAny_typeOf_ref (k _ _ (k3 _ _ e2)) (by rw [z2.1]; exact q)
  refine (PySem.W.exm_tup2 G3.kIn look t3 hb1).here ?_
  cases b with
  | false =>
    show wpAny _ X.A (handleBy (.ref a) X.env []) _ _ _
    refine wpAny_handleBy_nil ?_
    obtain ⟨_, _, _, o5, v5, T5, _, _, g1, _, g3, g4, _⟩ := id fl3
    have leave : wpAny (model X.prog X.w) X.A (setFlight (.ref a) X.env.frame) (fun _ s4 => wpAny (model X.prog X.w) X.A (throw (.ref a) : Sem Flow) (SP X pins D) X.xe s4) X.xe { sx with heap := hp3 } := by
      rw [fr]
      exact HandSPX.setFlight_upZ fl3 fun hp4 held up4 => wpAny_throw (tk _ _ ⟨a, B, sI, pins, σ1, H1, cls, d, rfl, G1, nb, up3.trans up4, .inr (.inr (by rw [stk]; exact held)), na, os, ag, hno rfl⟩)
    unfold PySem.passOn
    refine wpAny_bind (wpAny_field g1 g3 g4 ?_)
    rw [if_neg (by simp : ¬ (Value.ref T5 == Value.none) = true)]
    first
      | exact wpAny_bind leave
      | exact wpAny_bind (wpAny_pure (wpAny_bind leave))
  | true =>
    refine codeAny_handlers_suite ?_
    refine HandSPX.lands_againZ fl3 fun hp4 fl4 up4 => ?_
    have G4 : Inv X pins σ1 H1 { sx with heap := hp4 } := G1.landed nb fl4.1 (up3.trans up4) os ag
    obtain ⟨o4, v4, e4, z4, d4⟩ := fl4.there
    refine wpAny_mono ((hsu a o4 cls d (X.pn ++ pins) z4 ⟨_, d4⟩).run [] _ _ H1 _ (G4.suite e4 d4 na noL noO) (hyes rfl a na)) (fun f s6 hsp => ?_) fun _ _ z => z.elim
    cases f with
    | next => exact let ⟨σ6, H6, G6, q6⟩ := hsp; ⟨_, _, G6.unsuite ok, q6⟩
    | brk => exact let ⟨σ6, H6, G6, q6⟩ := hsp; ⟨_, _, G6.unsuite ok, q6⟩
    | cont => exact let ⟨σ6, H6, G6, q6⟩ := hsp; ⟨_, _, G6.unsuite ok, q6⟩
    | ret u => exact let ⟨v6, σ6, H6, G6, r6, q6⟩ := hsp; ⟨_, _, _, G6.unsuite ok, r6, q6⟩
end

/-! lambdas that are kept: the object told as it is, the cells lent for a call -/
/-- an object as it is -/
def Pin (a : Addr) (o : Obj) : HO := .ext fun h => h.get? a = some o
theorem pin_ok {P : Program} {w : World} {H : Hp} {h : Heap} {a : Addr} {o : Obj} (e : h.get? a = some o) : ObjOk P w H h a (Pin a o) :=
  ⟨e, ⟨o, e⟩, fun _ _ p st => st _ p⟩
theorem pin_get {P : Program} {w : World} {H : Hp} {h : Heap} {a : Addr} {o : Obj} (ok : HOk P w H h) (e : H a = some (Pin a o)) : h.get? a = some o := by
  obtain ⟨q, _⟩ := ok a _ e
  exact q
theorem pin_own {a x : Addr} {o : Obj} : Pin a o ≠ .own x := fun z => by unfold Pin at z; cases z
theorem pin_tup {a : Addr} {o : Obj} {xs : List V} : Pin a o ≠ .tup xs := fun z => by unfold Pin at z; cases z
theorem pin_lst {a : Addr} {o : Obj} {xs : List V} : Pin a o ≠ .lst xs := fun z => by unfold Pin at z; cases z
theorem pin_tbl {a : Addr} {o : Obj} {ps : Array Value} : Pin a o ≠ .tbl ps := fun z => by unfold Pin at z; cases z
open Classical in
noncomputable def dropC (C : Addr → Prop) (H : Hp) : Hp := fun b => if C b then none else H b
open Classical in
noncomputable def putC (C : Addr → Prop) (H0 H1 : Hp) : Hp := fun b => if C b then H0 b else H1 b
section
variable {C : Addr → Prop} {H H0 H1 : Hp} {b : Addr}
theorem drop_on (h : C b) : dropC C H b = none := by unfold dropC; rw [if_pos h]
theorem drop_off (h : ¬ C b) : dropC C H b = H b := by unfold dropC; rw [if_neg h]
theorem put_on (h : C b) : putC C H0 H1 b = H0 b := by unfold putC; rw [if_pos h]
theorem put_off (h : ¬ C b) : putC C H0 H1 b = H1 b := by unfold putC; rw [if_neg h]
end
/-- the objects at C, lent -/
structure Lent (C : Addr → Prop) (h : Heap) (H H' : Hp) : Prop where
  none : ∀ b, C b → H b = none
  off : ∀ b, ¬ C b → H' b = H b
  on : ∀ b, C b → ∃ o, h.get? b = some o ∧ H' b = some (Pin b o)
open Classical in
theorem lend_ex {C : Addr → Prop} {h : Heap} {H : Hp} (n : ∀ b, C b → H b = none) (e : ∀ b, C b → ∃ o, h.get? b = some o) : ∃ H', Lent C h H H' := by
  refine ⟨fun b => if C b then (h.get? b).map (Pin b) else H b, n, fun b hb => if_neg hb, fun b hb => ?_⟩
  obtain ⟨o, ho⟩ := e b hb
  exact ⟨o, ho, by rw [if_pos hb, ho]; rfl⟩
section
variable {P : Program} {w : World} {C : Addr → Prop} {h h' B : Heap} {H H' H1 HZ : Hp}
theorem Lent.nc (L : Lent C h H H') {b : Addr} {o : HO} (e : H b = some o) : ¬ C b := fun z => by
  rw [L.none b z] at e
  cases e
theorem Lent.ex (L : Lent C h H H') : Ex H H' := fun b o e => by rw [L.off b (L.nc e)]; exact e
theorem Lent.hok (L : Lent C h H H') (ok : HOk P w H h) : HOk P w H' h := by
  intro b o e
  by_cases hb : C b
  · obtain ⟨o', h1, h2⟩ := L.on b hb
    rw [h2] at e
    cases e
    exact pin_ok h1
  · rw [L.off b hb] at e
    exact (ok b o e).stay (fun _ _ _ q => q) (fun c q => L.ex _ _ q) fun c xs q => L.ex _ _ q
/-- what is lent in H', taken away -/
theorem drop_hok (hp : ∀ b, C b → ∃ o, H' b = some (Pin b o)) (ok : HOk P w H' h) : HOk P w (dropC C H') h := by
  intro b o e
  by_cases hb : C b
  · rw [drop_on hb] at e
    cases e
  · rw [drop_off hb] at e
    refine (ok b o e).stay (fun _ _ _ q => q) (fun c q => ?_) fun c xs q => ?_
    · rw [drop_off (fun z => ?_)]
      · exact q
      · obtain ⟨o', q'⟩ := hp c z
        rw [q'] at q
        exact pin_own (Option.some.inj q)
    · rw [drop_off (fun z => ?_)]
      · exact q
      · obtain ⟨o', q'⟩ := hp c z
        rw [q'] at q
        exact pin_tup (Option.some.inj q)
/-- a call that had C lent, behind it -/
theorem ce_back {outer : List Env} {s s' : Shared} {Q : VK} {u : Value} (L : Lent C s.heap H H')
    (c : CE outer P w H' s (fun v H2 => (∀ b, C b → H2 b = H' b) ∧ Q v (dropC C H2)) u s') : CE outer P w H s Q u s' := by
  obtain ⟨v, H2, os, bare, un, hok, r, hC, q⟩ := c
  have pins : ∀ b, C b → ∃ o, s.heap.get? b = some o ∧ H2 b = some (Pin b o) := fun b hb => by
    obtain ⟨o, h1, h2⟩ := L.on b hb
    exact ⟨o, h1, (hC b hb).trans h2⟩
  have at_ : ∀ b, C b → ∀ o, s.heap.get? b = some o → s'.heap.get? b = some o := fun b hb o e => by
    obtain ⟨o', h1, h2⟩ := pins b hb
    rw [h1] at e
    cases e
    exact pin_get hok h2
  refine ⟨v, dropC C H2, os, bare, ⟨fun b o e n hb hx => ?_, fun b o e n hb hx => ?_, fun b o e n hx => ?_, un.there, fun b xs e => ?_, fun b o u e => ?_, fun b ps e => ?_⟩, drop_hok (fun b hb => let ⟨o, _, q⟩ := pins b hb; ⟨o, q⟩) hok, r, q⟩
  · by_cases z : C b
    · exact at_ b z o e
    · exact un.keep b o e (by rw [L.off b z]; exact n) hb hx
  · by_cases z : C b
    · exact ⟨o.slots, at_ b z o e⟩
    · exact un.slot b o e (by rw [L.off b z]; exact n) hb hx
  · by_cases z : C b
    · exact drop_on z
    · rw [drop_off z]
      exact un.free b o e (by rw [L.off b z]; exact n) hx
  · rw [drop_off (L.nc e)]
    exact un.tups b xs (L.ex _ _ e)
  · rw [drop_off (L.nc e)]
    exact un.frzs b o u (L.ex _ _ e)
  · rw [drop_off (L.nc e)]
    exact un.tbls b ps (L.ex _ _ e)
/-- the other way about: C, told in HZ, taken away for a call -/
structure Told (C : Addr → Prop) (HZ : Hp) : Prop where
  on : ∀ b, C b → ∃ o, HZ b = some (Pin b o)
theorem Told.nc (T : Told C HZ) {b : Addr} (e : HZ b = none) : ¬ C b := fun z => by
  obtain ⟨o, q⟩ := T.on b z
  rw [e] at q
  cases q
theorem Told.ex (T : Told C HZ) (e : Ex (dropC C HZ) H1) : Ex HZ (putC C HZ H1) := fun b o q => by
  by_cases z : C b
  · rw [put_on z]
    exact q
  · rw [put_off z]
    exact e b o (by rw [drop_off z]; exact q)
theorem put_hok {fs : List Addr} (T : Told C HZ) (ok : HOk P w HZ h) (ok1 : HOk P w H1 B) (keep : ∀ b o, h.get? b = some o → dropC C HZ b = none → b ∉ fs → B.get? b = some o) (free : ∀ b o, h.get? b = some o → dropC C HZ b = none → H1 b = none)
    (hf : ∀ b ∈ fs, HZ b = none) : HOk P w (putC C HZ H1) B := by
  intro b o e
  by_cases z : C b
  · rw [put_on z] at e
    obtain ⟨o', q⟩ := T.on b z
    rw [q] at e
    cases e
    refine pin_ok (keep b o' (pin_get ok q) (drop_on z) fun hb => ?_)
    rw [hf b hb] at q
    cases q
  · rw [put_off z] at e
    have nc : ∀ c u, H1 c = some u → ¬ C c := fun c u q z => by
      obtain ⟨o', q'⟩ := T.on c z
      rw [free c o' (pin_get ok q') (drop_on z)] at q
      cases q
    exact (ok1 b o e).stay (fun _ _ _ q => q) (fun c q => by rw [put_off (nc _ _ q)]; exact q) fun c xs q => by rw [put_off (nc _ _ q)]; exact q
theorem ce_put {outer : List Env} {s s' : Shared} {Q : VK} {u : Value} (T : Told C HZ) (ok : HOk P w HZ s.heap) (hf : ∀ b ∈ frs outer, HZ b = none)
    (c : CE outer P w (dropC C HZ) s (fun v H1 => (∀ b, C b → H1 b = none) → Q v (putC C HZ H1)) u s') : CE outer P w HZ s Q u s' := by
  obtain ⟨v, H1, os, bare, un, hok, r, q⟩ := c
  have q := q fun b hb => let ⟨o, h⟩ := T.on b hb; un.free b o (pin_get ok h) (drop_on hb) (by simp)
  refine ⟨v, putC C HZ H1, os, bare, ⟨fun b o e n hb hx => ?_, fun b o e n hb hx => ?_, fun b o e n hx => ?_, un.there, fun b xs e => ?_, fun b o u e => ?_, fun b ps e => ?_⟩,
    put_hok (fs := frs outer) T ok hok (fun b o e n hb => un.keep b o e n hb (by simp)) (fun b o e n => un.free b o e n (by simp)) hf, r, q⟩
  · exact un.keep b o e (by rw [drop_off (T.nc n)]; exact n) hb hx
  · exact un.slot b o e (by rw [drop_off (T.nc n)]; exact n) hb hx
  · rw [put_off (T.nc n)]
    exact un.free b o e (by rw [drop_off (T.nc n)]; exact n) hx
  · have z : ¬ C b := fun z => by
      obtain ⟨o', q'⟩ := T.on b z
      rw [q'] at e
      exact pin_tup (Option.some.inj e)
    rw [put_off z]
    exact un.tups b xs (by rw [drop_off z]; exact e)
  · have z : ¬ C b := fun z => by
      obtain ⟨o', q'⟩ := T.on b z
      rw [q'] at e
      have e := Option.some.inj e
      unfold Pin at e
      cases e
    rw [put_off z]
    exact un.frzs b o u (by rw [drop_off z]; exact e)
  · have z : ¬ C b := fun z => by
      obtain ⟨o', q'⟩ := T.on b z
      rw [q'] at e
      exact pin_tbl (Option.some.inj e)
    rw [put_off z]
    exact un.tbls b ps (by rw [drop_off z]; exact e)
theorem cx_put {outer : List Env} {s s' : Shared} {E : XK} {u : Value} (T : Told C HZ) (ok : HOk P w HZ s.heap) (hf : ∀ b ∈ frs outer, HZ b = none)
    (c : L2.CX P w outer (dropC C HZ) s (fun cls d H1 => (∀ b, C b → H1 b = none) → E cls d (putC C HZ H1)) u s') : L2.CX P w outer HZ s E u s' := by
  obtain ⟨a, B, H1, cls, d, rfl, fl, hok, ub, na, os, ag, q⟩ := c
  have q := q fun b hb => let ⟨o, h⟩ := T.on b hb; ub.free b o (pin_get ok h) (drop_on hb)
  have nC : ¬ C a := fun z => by
    obtain ⟨o', q'⟩ := T.on a z
    have e := ub.keep a o' (pin_get ok q') (drop_on z) fun hb => by rw [hf a hb] at q'; cases q'
    rw [fl.2.1] at e
    cases e
  refine ⟨a, B, putC C HZ H1, cls, d, rfl, fl, put_hok (fs := frs outer) T ok hok (fun b o e n hb => ub.keep b o e n hb) (fun b o e n => ub.free b o e n) hf, ⟨fun b o e n hb => ?_, ub.slot, fun b o e n => ?_, ub.there, fun b xs e => ?_, fun b o u e => ?_, fun b ps e => ?_⟩, ?_, os, ag, q⟩
  · exact ub.keep b o e (by rw [drop_off (T.nc n)]; exact n) hb
  · rw [put_off (T.nc n)]
    exact ub.free b o e (by rw [drop_off (T.nc n)]; exact n)
  · have z : ¬ C b := fun z => by
      obtain ⟨o', q'⟩ := T.on b z
      rw [q'] at e
      exact pin_tup (Option.some.inj e)
    rw [put_off z]
    exact ub.tups b xs (by rw [drop_off z]; exact e)
  · have z : ¬ C b := fun z => by
      obtain ⟨o', q'⟩ := T.on b z
      rw [q'] at e
      have e := Option.some.inj e
      unfold Pin at e
      cases e
    rw [put_off z]
    exact ub.frzs b o u (by rw [drop_off z]; exact e)
  · have z : ¬ C b := fun z => by
      obtain ⟨o', q'⟩ := T.on b z
      rw [q'] at e
      exact pin_tbl (Option.some.inj e)
    rw [put_off z]
    exact ub.tbls b ps (by rw [drop_off z]; exact e)
  · rw [put_off nC]
    exact na
end
/-! ### cells, told with what they hold -/
def Ad (cells : List (Str × Addr)) : Addr → Prop := fun b => ∃ y, cells.lookup y = some b
structure CellsAt (N : List Str) (cells : List (Str × Addr)) (ok : Str → Prop) (σ : L2.St) (H : Hp) : Prop where
  cell : ∀ y c, cells.lookup y = some c → ok y → ∃ o v, H c = some (Pin c o) ∧ o.data = .cell v ∧ ∀ (i : Nat) (x : V), N[i]? = some y → σ[i]? = some (some x) → ∃ u, v = some u ∧ RelV x u
  len : σ.length = N.length
theorem CellsAt.ex {N : List Str} {cells : List (Str × Addr)} {ok : Str → Prop} {σ : L2.St} {H H' : Hp} (h : CellsAt N cells ok σ H) (e : ∀ b o, Ad cells b → H b = some (Pin b o) → H' b = some (Pin b o)) : CellsAt N cells ok σ H' :=
  ⟨fun y c hc hy => by
    obtain ⟨o, v, h1, h2, h3⟩ := h.cell y c hc hy
    exact ⟨o, v, e _ _ ⟨y, hc⟩ h1, h2, h3⟩, h.len⟩
/-! ### a thing that is called with nothing -/
def Thunk (P : Program) (w : World) (K : PySem.W.Frag) (mg : Str → Option Value) (base : Heap) (k : Nat) (f : Addr) (R : Hp → VK → XK → Prop) : Prop :=
  ∀ (A : Around) (outer : List Env) (s : Shared) (H : Hp) (Q : VK) (E : XK), Room k A → Env0 P w K mg base A outer s H → R H Q E →
    (∃ fd : FuncData, s.heap.get? f = some { cls := .type "function", data := .func fd }) ∧ codeAny (model P w) A (.call (.ref f) ⟨[], []⟩) (CR (L2.CX P w) outer P w H s Q E) s
/-- the context of a kept lambda's body -/
def thCx (P : Program) (w : World) (K : PySem.W.Frag) (mg : Str → Option Value) (base : Heap) (N : List Str) (qual : Str) (scope : Scope) (cells : List (Str × Addr)) (A : Around) (outer : List Env) (s : Shared) (H : Hp) (E : XK) (f c' : Addr) : Cx where
  prog := P
  w := w
  K := K
  mg := mg
  base := base
  A := A.deeper (PySem.W.envX qual scope s.heap.objs.size f (.ref c') cells)
  N := N
  s_0 := s
  H_0 := H
  env := PySem.W.envX qual scope s.heap.objs.size f (.ref c') cells
  outer := outer
  stack := PySem.W.envX qual scope s.heap.objs.size f (.ref c') cells :: outer
  ex := []
  fn := fun _ => false
  calm := true
  pn := []
  xe := fun e s' => wpAny (model P w) (A.deeper (PySem.W.envX qual scope s.heap.objs.size f (.ref c') cells)) (leaving (PySem.W.envX qual scope s.heap.objs.size f (.ref c') cells) e) (fun _ s'' => L2.CX P w outer H s E e s'') (fun e' s'' => L2.CX P w outer H s E e' s'') s'
theorem takes_th {P : Program} {w : World} {K : PySem.W.Frag} {mg : Str → Option Value} {base : Heap} {N : List Str} {qual : Str} {scope : Scope} {cells : List (Str × Addr)} {A : Around} {outer : List Env} {s : Shared} {H : Hp} {E : XK} {f c' : Addr} :
    Takes (thCx P w K mg base N qual scope cells A outer s H E f c') (offE E) := takes_of rfl rfl rfl rfl
/-- a lambda's own names: captured ones and globals -/
structure ThS (scope : Scope) (cells : List (Str × Addr)) : Prop where
  kind : scope.kind = .function
  co : scope.isCoroutine = false
  gen : scope.isGenerator = false
  own : ∀ y ∈ scope.names, y.2 ≠ .local ∧ y.2 ≠ .cell
  has : ∀ y, scope.names.lookup y = some .free → ∃ c, cells.lookup y = some c
  inj : ∀ x y c, cells.lookup x = some c → cells.lookup y = some c → x = y
section
variable {P : Program} {w : World} {K : PySem.W.Frag} {mg : Str → Option Value} {base : Heap} {N : List Str} {qual : Str} {scope : Scope} {cells : List (Str × Addr)} {A : Around} {outer : List Env} {s : Shared} {HZ : Hp} {E : XK} {f c' : Addr}
theorem CellsAt.told {σ : L2.St} (h : CellsAt N cells (fun _ => True) σ HZ) : Told (Ad cells) HZ :=
  ⟨fun b ⟨y, hy⟩ => let ⟨o, _, q, _⟩ := h.cell y b hy True.intro; ⟨o, q⟩⟩
theorem env0_drop {C : Addr → Prop} (T : Told C HZ) (e : Env0 P w K mg base A outer s HZ) : Env0 P w K mg base A outer s (dropC C HZ) :=
  ⟨e.frames, e.mod, fun b o q => ⟨(e.bs b o q).1, by rw [drop_off (T.nc (e.bs b o q).2)]; exact (e.bs b o q).2⟩, e.bsz, e.funs, fun b q => by rw [drop_off (T.nc (e.frf b q))]; exact e.frf b q, drop_hok T.on e.hok, e.bare⟩
theorem th_start {h₁ : Heap} {tk : Nat} {σ : L2.St} (L : ThS scope cells) (h : CellsAt N cells (fun _ => True) σ HZ) (e0 : Env0 P w K mg base A outer s HZ) (hd : A.handled = none)
    (hns : h₁.Ns s.heap.objs.size fun y => ([] : List (Str × Value)).reverse.lookup y) (kp : ∀ b o, s.heap.get? b = some o → h₁.get? b = some o) :
    Inv (thCx P w K mg base N qual scope cells A outer s (dropC (Ad cells) HZ) E f c') [] σ (dropC (Ad cells) HZ) { s with heap := h₁, toks := tk } := by
  have T := h.told
  have e1 := env0_drop T e0
  have noA : ∀ b : Addr, b ∉ (thCx P w K mg base N qual scope cells A outer s (dropC (Ad cells) HZ) E f c').ex := fun b z => absurd (show b ∈ ([] : List Addr) from z) (by simp)
  have cel : ∀ y c, cells.lookup y = some c → ∃ v, s.heap.IsCell c v ∧ ∀ (i : Nat) (x : V), N[i]? = some y → σ[i]? = some (some x) → ∃ u, v = some u ∧ RelV x u := fun y c hc => by
    obtain ⟨o, v, h1, h2, h3⟩ := h.cell y c hc True.intro
    exact ⟨v, ⟨o, pin_get e0.hok h1, h2⟩, h3⟩
  refine ⟨⟨e1.mod, L.kind, rfl, rfl, Nat.le_refl _, fun y z c h1 h2 => L.inj y z c h1 h2, fun y hy => ?_, fun y c z _ => ?_, fun _ => hd, Around.frames_deeper e1.frames, .inr ⟨rfl, rfl⟩, fun b z => absurd z (noA b), e1.bs, e1.bsz, fun b _ _ => noA b,
      fun b z => absurd z (noA b), e1.funs, e1.frf⟩,
    rfl, e1.bare, Un.kept kp, ⟨_, hns, fun i y v h1 h2 h3 => ?_⟩, fun y c e => ?_, e1.hok.fresh (Nat.le_refl _), fun y c e => ?_, fun q hq => absurd (show q ∈ ([] : List (Addr × Obj)) ++ [] from hq) (by simp), e1.hok.kept kp, h.len⟩
  · have hy : scope.names.lookup y = some .cell ∨ scope.names.lookup y = some .free := hy
    rcases hy with hy | hy
    · exact absurd rfl (L.own _ (PySem.mem_of_lookup hy)).2
    · exact L.has y hy
  · have z : false = true := z
    cases z
  · have h3 : Vis scope y := h3
    rcases h3 with k | k | k
    · exact absurd rfl (L.own _ (PySem.mem_of_lookup k)).1
    · exact absurd rfl (L.own _ (PySem.mem_of_lookup k)).2
    · obtain ⟨c, hc⟩ := L.has y k
      obtain ⟨v', hc', hv⟩ := cel y c hc
      obtain ⟨u, rfl, r⟩ := hv i v h1 h2
      exact ⟨u, r, .inr ⟨.inr k, c, hc, hc'.keeps kp⟩⟩
  · obtain ⟨v', hc', _⟩ := cel y c e
    exact ⟨v', hc'.keeps kp⟩
  · exact drop_on ⟨y, e⟩
/-- the promise of a kept lambda -/
theorem thunk_lam {k : Nat} {params : Arguments} {body : Expr} {pm ctv : Value} {t : XK → TE} (L : ThS scope cells)
    (hbind : bindArgs (PySem.W.kla_fn "<lambda>" qual params body scope cells pm (.ref c') ctv) ⟨[], []⟩ = pure [])
    (hbody : ∀ (A : Around) (outer : List Env) (s : Shared) (H : Hp) (E : XK), Room k (A.deeper (PySem.W.envX qual scope s.heap.objs.size f (.ref c') cells)) → PE (thCx P w K mg base N qual scope cells A outer s H E f c') body (t E)) :
    Thunk P w K mg base (k + 1) f (fun HZ Q E => HZ f = some (Pin f (PySem.W.kla_obj "<lambda>" qual params body scope cells pm c' ctv)) ∧ HZ c' = some (LamX.CodeO c' qual) ∧
      ∃ σ, CellsAt N cells (fun _ => True) σ HZ ∧ t (fun cls d H1 => (∀ b, Ad cells b → H1 b = none) → E cls d (putC (Ad cells) HZ H1)) σ (dropC (Ad cells) HZ) (fun v H1 => (∀ b, Ad cells b → H1 b = none) → Q v (putC (Ad cells) HZ H1))) := by
  intro A outer s HZ Q E hr e0 ⟨hf, hc, σ, hcel, ht⟩
  have T := hcel.told
  have of1 := pin_get e0.hok hf
  obtain ⟨⟨oc, vs, tt, hoc, hdc, hvc⟩, _, _⟩ := e0.hok c' _ hc
  refine ⟨⟨_, of1⟩, ?_⟩
  have nolim : s.heap.NoLimit := e0.mod.nolimit.keeps fun a o h => (e0.bs a o h).1
  have rc : codeAny (model P w) A (.call (.ref f) ⟨[], []⟩) (CR (L2.CX P w) outer P w (dropC (Ad cells) HZ) s (fun v H1 => (∀ b, Ad cells b → H1 b = none) → Q v (putC (Ad cells) HZ H1)) (fun cls d H1 => (∀ b, Ad cells b → H1 b = none) → E cls d (putC (Ad cells) HZ H1))) s := by
    refine PySem.W.kla_callFunE hr.depth of1 rfl L.co L.gen rfl ⟨c', oc, vs, tt, rfl, hoc, hdc, hvc⟩ ?_
    rw [hbind]
    refine wpAny_pure (wpAny_newFunctionEnv (fun y hy => (L.own y hy).2) (fun y hy => absurd hy (by simp)) (fun h₁ hns hsb => ⟨nolim.fresh _ hsb, ?_⟩) L.kind)
    show codeAny _ _ (.expr body (PySem.W.envX qual scope s.heap.objs.size f (.ref c') cells)) _ _
    have kp : ∀ b o, s.heap.get? b = some o → h₁.get? b = some o := fun b o e => hsb.extBut b o (Nat.ne_of_lt (Heap.lt_size e)) (Heap.get?_push_of_some _ e)
    have J : Inv (thCx P w K mg base N qual scope cells A outer s (dropC (Ad cells) HZ) (fun cls d H1 => (∀ b, Ad cells b → H1 b = none) → E cls d (putC (Ad cells) HZ H1)) f c') [] σ (dropC (Ad cells) HZ) { s with heap := h₁, toks := s.toks + ([] : List (Str × Value)).length } :=
      th_start L hcel e0 hr.hd hns kp
    refine PySem.W.kla_codeExpr (wpAny_mono ((hbody A outer s _ _ (hr.deeper _)).run [] _ _ _ _ J ht) (fun v s' hq => ?_) fun e s' hq => hq)
    obtain ⟨w', H', J', rv, q⟩ := hq
    exact ⟨w', H', J'.os, J'.bare, J'.base, J'.hok, rv, q⟩
  refine codeAny_mono rc fun r s' hq => ?_
  cases r with
  | error e => exact cx_put T e0.hok e0.frf hq
  | ok fl =>
    cases fl with
    | ret u => exact ce_put T e0.hok e0.frf hq
    | next => exact False.elim hq
    | brk => exact False.elim hq
    | cont => exact False.elim hq
end

/-! ## the law's call where one def of the text makes lambdas -/
/-- the code object c of a maker, its table Pt empty at the start -/
structure Maker (K : PySem.W.Frag) (h : Heap) (c Pt : Addr) : Prop where
  code : PySem.W.CodeHd h c Pt
  none : K.lookup Pt = none
  empty : h.get? Pt = some { cls := .none, data := .fields #[] }
theorem law_callGT {P : Program} {w : World} {K : PySem.W.Frag} {mg mb : Str → Option Value} {k : Nat} {fa a c Pt : Addr} {fd : FuncData} {x : Str} {sp : Sp} {s : Shared} {vs : List Value} {ns : List Int}
    (inK : K.In s.heap) (gl : s.heap.Ns mainGlobals mg) (bl : s.heap.Ns builtinsNs mb)
    (bb : ∀ y : Str, y ≠ "__name__" → mb y = bootBuiltins y) (nolim : s.heap.NoLimit) (gens : s.gens = #[]) (M : Maker K s.heap c Pt)
    (mods : ∃ (bm : Addr) (ob : Obj), mg "__builtins__" = some (.ref bm) ∧ bm ≠ builtinsNs ∧ s.heap.get? bm = some ob ∧ ob.cls = .type "module" ∧ ob.dict = some builtinsNs ∧ ob.data = .plain)
    (obj : s.heap.get? a = some { cls := .type "list", data := .seq vs.toArray }) (ia : IntsAre vs ns) (short : ns.length ≤ sizeLine) (hrm : Room k callerA)
    (F : ∀ base : Heap, K.In base → base.Ns mainGlobals mg → LamX.TabB base mg c Pt → FnG P w K mg base k fa fd [x] sp)
    (bind : ∀ (s : Shared) (u : Value), BindsTo s fd ⟨[u], []⟩ [(x, u)])
    (hsp : ∀ H : Hp, H Pt = some (.tbl #[]) → SqL K H a (ns.map V.int) → sp [.ref a] H (fun v _ => v = .bl true) fun _ _ _ => False) :
    codeAny (model P w) callerA (.call (.ref fa) ⟨[.ref a], []⟩)
      (fun r s' => r = .ok (.ret (.bool true)) ∧ OldK s.heap s'.heap ∧ s'.os = s.os ∧ AllBare s'.gens) s := by
  have vals := vals_ints ia
  have many := ia.length
  have aP : a ≠ Pt := fun z => by
    have q := M.empty
    rw [← z, obj] at q
    have d2 : Data.seq vs.toArray _ = Data.fields #[] := congrArg Obj.data (Option.some.inj q)
    cases d2
  have main : ∀ H : Hp, H Pt = some (.tbl #[]) → (∀ b, H b = none ∨ b = Pt ∨ ∃ o xs, H b = some (.frz o (.lst xs))) → SqL K H a (ns.map V.int) → HOk P w H s.heap → (∀ b, H b ≠ none → b = a ∨ b = Pt) → (H a ≠ none → K.lookup a = none) →
      codeAny (model P w) callerA (.call (.ref fa) ⟨[.ref a], []⟩)
        (fun r s' => r = .ok (.ret (.bool true)) ∧ OldK s.heap s'.heap ∧ s'.os = s.os ∧ AllBare s'.gens) s := by
    intro H tab only script hok alone notK
    have untracked : ∀ {b : Addr} {o : Obj}, s.heap.get? b = some o → (∀ us n, o.data ≠ .seq us n) → o.data ≠ .fields #[] → H b = none := by
      intro b o e d1 d2
      cases q : H b with
      | none => rfl
      | some u =>
        rcases alone b (by rw [q]; simp) with rfl | rfl
        · rw [obj] at e
          cases e
          exact (d1 _ _ rfl).elim
        · rw [M.empty] at e
          cases e
          exact (d2 rfl).elim
    have nsOf : ∀ {b : Addr} {m : Str → Option Value}, s.heap.Ns b m → (hidT s.heap H).Ns b m := by
      intro b m ⟨o, es, ep, e, d, r⟩
      exact ⟨o, es, ep, hidT_get e (untracked e (fun us n z => by rw [d] at z; cases z) fun z => by rw [d] at z; cases z), d, r⟩
    have inB : K.In (hidT s.heap H) := by
      intro b o e
      refine hidT_get (inK b o e) ?_
      cases q : H b with
      | none => rfl
      | some u =>
        rcases alone b (by rw [q]; simp) with rfl | rfl
        · have z := notK (by rw [q]; simp)
          rw [z] at e
          cases e
        · rw [M.none] at e
          cases e
    have md : Mod K mg (hidT s.heap H) := by
      obtain ⟨mc, h1, h2⟩ := nolim
      exact ⟨inB, nsOf gl, ⟨mb, nsOf bl, bb⟩, ⟨mc, nsOf h1, h2⟩⟩
    have env0 : Env0 P w K mg (hidT s.heap H) callerA [] s H :=
      ⟨rfl, md, fun b o e => of_hidT e, Nat.le_of_eq (hidT_size _ _), trivial, fun b z => absurd (show b ∈ ([] : List Addr) from z) (by simp), hok, .of_eq gens⟩
    have tb : LamX.TabB (hidT s.heap H) mg c Pt := by
      refine ⟨?_, ?_, fun z => ?_⟩
      · obtain ⟨o, us, f1, f2, f3, f4, f5, f6, f7, e1, r1, r2, r3, rest⟩ := M.code
        refine ⟨o, us, f1, f2, f3, f4, f5, f6, f7, hidT_get e1 (untracked e1 (fun zs n z => ?_) fun z => ?_), r1, r2, r3, rest⟩
        · rw [r2] at z
          cases z
        · rw [r2] at z
          cases z
          simp at r3
      · obtain ⟨bm, ob, b1, b2, b3, b4, b5, b6⟩ := mods
        have ng : bm ≠ mainGlobals := by
          rintro rfl
          obtain ⟨o, es, ep, e, d, _⟩ := gl
          rw [e] at b3
          cases b3
          rw [d] at b6
          cases b6
        have np : bm ≠ Pt := by
          rintro rfl
          rw [M.empty] at b3
          cases b3
          cases b6
        exact ⟨bm, ob, b1, b2, ng, np, hidT_get b3 (untracked b3 (fun zs n z => by rw [b6] at z; cases z) fun z => by rw [b6] at z; cases z), b4, b5, b6⟩
      · obtain ⟨o, es, ep, e, d, _⟩ := gl
        rw [z, M.empty] at e
        cases e
        cases d
    have run := (F _ inB (nsOf gl) tb).run callerA [] s H ⟨[.ref a], []⟩ [.ref a] [.ref a] _ _ rfl hrm env0 (bind s (.ref a)) (.cons rfl .nil) (hsp H tab script)
    refine codeAny_mono run fun r s' h => ?_
    cases r with
    | error e => exact h.elim
    | ok fl =>
      cases fl with
      | next => exact h.elim
      | brk => exact h.elim
      | cont => exact h.elim
      | ret u =>
        obtain ⟨v, H', os, bare, un, hok2, rel, q⟩ := h
        have q2 : v = .bl true := q
        subst q2
        obtain rfl : u = Value.bool true := rel
        have stays : ∀ b o, b ≠ Pt → s.heap.get? b = some o → s'.heap.get? b = some o := by
          intro b o nb e
          cases q : H b with
          | none =>
            have nn : b ∉ frs ([] : List Env) := fun z => absurd (show b ∈ ([] : List Addr) from z) (by simp)
            exact un.keep b o e q nn (by simp)
          | some u =>
            rcases only b with z | z | ⟨ob, xs, z⟩
            · rw [q] at z
              cases z
            · exact absurd z nb
            · obtain ⟨e1, _⟩ := hok b _ z
              obtain ⟨e2, _⟩ := hok2 b _ (un.frzs b ob _ z)
              rw [e] at e1
              cases e1
              exact e2
        obtain ⟨more, ht⟩ := un.tbls Pt #[] tab
        have grown : s'.heap.get? Pt = some { cls := .none, data := .fields (#[] ++ more) } := hok2 Pt _ ht
        refine ⟨rfl, ⟨fun b o e => ?_, fun b o e => ?_⟩, os, bare⟩
        · by_cases nb : b = Pt
          · subst nb
            have e0 := M.empty
            rw [e0] at e
            cases e
            exact .inr (.inl ⟨(M.code.tab M.empty).isCodeTable, rfl, #[], more, rfl, grown⟩)
          · exact .inl (stays b o nb e)
        · by_cases nb : b = Pt
          · subst nb
            exact ⟨_, grown⟩
          · exact ⟨o, stays b o nb e⟩
  cases hk : K.lookup a with
  | some o =>
    have e := inK a o hk
    rw [obj] at e
    cases e
    refine main (fun b => if b = Pt then some (.tbl #[]) else none) (if_pos rfl) (fun b => ?_) (.inr ⟨_, vs.toArray, _, hk, rfl, rfl, rfl, ?_, ?_⟩) (fun b u z => ?_) (fun b z => ?_) fun z => absurd (if_neg aP) z
    · by_cases eb : b = Pt
      · exact .inr (.inl eb)
      · exact .inl (if_neg eb)
    · rw [List.size_toArray, many]
      exact short
    · simpa using vals
    · by_cases eb : b = Pt
      · have z2 := (if_pos eb).symm.trans z
        cases z2
        subst eb
        exact M.empty
      · have z2 := (if_neg eb).symm.trans z
        cases z2
    · by_cases eb : b = Pt
      · exact .inr eb
      · exact absurd (if_neg eb) z
  | none =>
    refine main (fun b => if b = a then some (.frz { cls := .type "list", data := .seq vs.toArray } (.lst (ns.map V.int))) else if b = Pt then some (.tbl #[]) else none)
      ((if_neg aP.symm).trans (if_pos rfl)) (fun b => ?_) (.inl (.inr ⟨{ cls := .type "list", data := .seq vs.toArray }, if_pos rfl⟩)) (fun b u z => ?_) (fun b z => ?_) fun _ => hk
    · by_cases eb : b = a
      · exact .inr (.inr ⟨_, _, if_pos eb⟩)
      · by_cases ec : b = Pt
        · exact .inr (.inl ec)
        · exact .inl ((if_neg eb).trans (if_neg ec))
    · by_cases eb : b = a
      · have z2 := (if_pos eb).symm.trans z
        cases z2
        subst eb
        exact ⟨obj, by rw [List.length_map]; exact short, vs, _, vals, obj⟩
      · have z2 := (if_neg eb).symm.trans z
        by_cases ec : b = Pt
        · have z3 := (if_pos ec).symm.trans z2
          cases z3
          subst ec
          exact M.empty
        · have z3 := (if_neg ec).symm.trans z2
          cases z3
    · by_cases eb : b = a
      · exact .inl eb
      · by_cases ec : b = Pt
        · exact .inr ec
        · exact absurd ((if_neg eb).trans (if_neg ec)) z
/-- the goal behind such a head -/
theorem walkGT {l : PySem.W.OpenLaw} {n k : Nat} {q : Program} {loose : List Str} {XP : (Str → Option Value) → Heap → Prop} {YP : World → Heap → Prop} {d : DefRec} {K : Params → PySem.W.Frag} {sp : PySem.W.Frag → Addr → Addr → Sp} {x : Str}
    (hn : l.most = some n) (hn2 : n ≤ sizeLine) (hdf : d.params.defaults = []) (hrm : Room k callerA)
    (hY : ∀ (w : World) (h : Heap), YP w h → (K w.params).In h)
    (F : ∀ (w : World) (mg : Str → Option Value) (fa : Addr) (h : Heap), YP w h → (K w.params).In h → h.Ns mainGlobals mg → mg d.name = some (.ref fa) →
      ∃ (c Pt : Addr) (fd : FuncData), Maker (K w.params) h c Pt ∧ (∀ (s : Shared) (u : Value), BindsTo s fd ⟨[u], []⟩ [(x, u)]) ∧
        ∀ base : Heap, (K w.params).In base → base.Ns mainGlobals mg → LamX.TabB base mg c Pt → FnG l.prog w (K w.params) mg base k fa fd [x] (sp (K w.params) c Pt))
    (hsp : ∀ (K : PySem.W.Frag) (c Pt : Addr) (H : Hp) (a : Addr) (ns : List Int), ns.length ≤ n → H Pt = some (.tbl #[]) → SqL K H a (ns.map V.int) → sp K c Pt [.ref a] H (fun v _ => v = .bl true) fun _ _ _ => False) :
    PySem.W.WalkO q loose XP YP l.row.toRowW d [] (fun f vs => PySem.call f vs) := by
  refine Att.attach_call hn hdf fun w s₀ s₁ mg mb fa o pm cd doc a vs ns G Y ho hd hcd hmg hobj hints hlen hg => ?_
  obtain ⟨c, Pt, fd, M, hb, hF⟩ := F w mg fa _ Y (hY w _ Y) G.T.g hmg
  exact law_callGT (hY w _ Y) G.T.g G.T.b G.T.builtins G.T.nolimit hg M G.T.bmain hobj hints (Nat.le_trans hlen hn2) hrm hF hb fun H hT hS => hsp _ _ _ H a ns hlen hT hS

/-! ## a def of the law that makes lambdas: its own code object is c -/
structure FunC (K : PySem.W.Frag) (x qual : Str) (st : Stmt) (f : Addr) (fd : FuncData) (c : Addr) : Prop where
  ex : ∃ (oc : Value) (od : Option Addr) (kV doc pm : Value) (an : Option Addr) (ct : Value) (osl : Array (Option Value)),
    fd = PySem.W.fnOf x qual (defArgs st) (defBody st) (defScope st) .none kV doc pm an (.ref c) ct ∧ K.lookup f = some ⟨oc, od, .func fd, osl⟩ ∧ PySem.W.codeIn K (.ref c) qual = true
  kp : PySem.W.keepIn K (.ref f) = true
def DfC (K : PySem.W.Frag) (mg : Str → Option Value) (x : Str) (st : Stmt) (ps : List Str) (c : Addr) : Prop :=
  ∃ f fd, FunC K x x st f fd c ∧ mg x = some (.ref f) ∧ Binds K fd ps []
section
variable {P : Program} {w : World} {K : PySem.W.Frag} {mg : Str → Option Value} {base : Heap}
theorem okGc {x qual : Str} {st : Stmt} {f c : Addr} {fd : FuncData} {N ps : List Str} {k : Nat} {sp : Sp}
    (F : FunC K x qual st f fd c) (S : FnScope N ps (defScope st))
    (hlen : ∀ vs H Q E, sp vs H Q E → vs.length = ps.length)
    (hb : ∀ (A : Around) (outer : List Env) (s : Shared) (H : Hp) (vs : List V) (Q : VK) (E : XK),
      A.guards = some [] → Room k (A.deeper (envOfC qual (defScope st) s.heap.objs.size f (.ref c))) → sp vs H Q E →
      ∃ t, PSs (cxOf CX0 P w K mg base N qual (defScope st) f (.ref c) A outer s H E).nox (defBody st) t ∧
        t { nx := fun _ H' => Q .non H', rt := Q } (start N vs) H) :
    FnG P w K mg base (k + 1) f fd ps sp := by
  obtain ⟨oc, od, kV, doc, pm, an, ct, osl, rfl, look, hcode⟩ := F.ex
  constructor
  · exact hlen
  intro A outer s H args us vs Q E hgd hrm env0 hbinds rel hsp
  have hl := hlen _ _ _ _ hsp
  have inK : K.In s.heap := env0.mod.kin.keeps fun a o h => (env0.bs a o h).1
  have nolim : s.heap.NoLimit := env0.mod.nolimit.keeps fun a o h => (env0.bs a o h).1
  have kinds : ∀ y ∈ ps.zip us, (defScope st).names.lookup y.1 = some .local ∨
      ((defScope st).names.lookup y.1 = some .cell ∧ ((cellsFrom (s.heap.objs.size + 1) (defScope st).names []).lookup y.1).isSome = true) := by
    intro ⟨n, v⟩ hy
    cases S.par n (List.of_mem_zip hy).1 with
    | inl q => exact .inl q
    | inr q => exact .inr ⟨q, PySem.W.cellsFrom_some _ _ _ (.inl q)⟩
  apply codeAny_call_function hrm.depth (inK _ _ look) rfl S.co S.gen rfl
    (PySem.W.codeRec_of inK hcode) (hbinds _ _ _ _ ?_)
  refine wpAny_newFunctionEnv_cells S.kind kinds fun env henv s1 ic => ?_
  subst henv
  refine ⟨nolim.keeps ic.toInCall.keep, codeAny_func ?_⟩
  obtain ⟨t, ht, hq⟩ := hb A outer s H vs Q E hgd (hrm.deeper _) hsp
  have I := inv_start (CX := CX0) (E := E) S hrm.hd env0 hl rel ic
  refine wpAny_mono (ht.nox.run [] s1 (start N vs) H _ I hq) (fun fl s' hs => ?_) fun _ _ hs => hs
  have done : ∀ {σ' : L2.St} {H' : Hp} {v : V} {u : Value},
      Inv (cxOf CX0 P w K mg base N qual (defScope st) f (.ref c) A outer s H E) [] σ' H' s' → RelV v u → Q v H' →
      CE outer P w H s Q u s' := fun J rv q => ⟨_, _, J.os, J.bare, J.base, J.hok, rv, q⟩
  cases fl with
  | ret u =>
    obtain ⟨v, σ', H', J, rv, q⟩ := hs
    exact done J rv q
  | next =>
    obtain ⟨σ', H', J, q⟩ := hs
    exact done (v := V.non) (u := Value.none) J rfl q
  | brk =>
    obtain ⟨_, _, _, q⟩ := hs
    exact q.elim
  | cont =>
    obtain ⟨_, _, _, q⟩ := hs
    exact q.elim
theorem HasG.ofC {x : Str} {st : Stmt} {ps : List Str} {c : Addr} {k : Nat} {sp : Sp} (D : DfC K mg x st ps c)
    (h : ∀ f fd, FunC K x x st f fd c → FnG P w K mg base k f fd ps sp) : HasG P w K mg base x k ps sp := by
  obtain ⟨f, fd, F, hm, hb⟩ := D
  exact ⟨f, fd, h f fd F, hm, F.kp, hb⟩
end
/-- one reading or the other -/
theorem OpR.either {X : Cx} {g : Value → Value → Sem Value} {r1 r2 : R2} (h1 : OpR X g r1) (h2 : OpR X g r2) : OpR X g (fun x y H Q => r1 x y H Q ∨ r2 x y H Q) :=
  fun pins s σ H x y v u Q I rx ry q => q.elim (h1 pins s σ H x y v u Q I rx ry) (h2 pins s σ H x y v u Q I rx ry)
/-! ### heaps whose tables may have grown -/
abbrev ExN (H H' : Hp) : Prop := LamX.ExtN H H'
theorem Ex.n {H H' : Hp} (e : Ex H H') : ExN H H' := LamX.ExtN.of e
theorem ExN.trans {H H1 H2 : Hp} (a : ExN H H1) (b : ExN H1 H2) : ExN H H2 := LamX.ExtN.trans a b
theorem ExN.refl (H : Hp) : ExN H H := LamX.ExtN.refl H
/-- all but lists and tables -/
def KpN (H H' : Hp) : Prop := ∀ a o, H a = some o → (∀ xs, o ≠ .lst xs) → (∀ ps, o ≠ .tbl ps) → H' a = some o
theorem Kp.n {H H' : Hp} (e : Kp H H') : KpN H H' := fun a o h n _ => e a o h n
theorem ExN.kn {H H' : Hp} (e : ExN H H') : KpN H H' := fun a o h _ n => e a o h n
theorem KpN.trans {H H1 H2 : Hp} (a : KpN H H1) (b : KpN H1 H2) : KpN H H2 := fun x o h n m => b x o (a x o h n m) n m
theorem KpN.refl (H : Hp) : KpN H H := fun _ _ h _ _ => h
theorem sqT_kn {K : PySem.W.Frag} {H H' : Hp} {a : Addr} {xs : List V} (h : SqT K H a xs) (e : KpN H H') : SqT K H' a xs := by
  rcases h with (h | ⟨o, h⟩) | h
  · exact .inl (.inl (e _ _ h (fun _ z => nomatch z) (fun _ z => nomatch z)))
  · exact .inl (.inr ⟨o, e _ _ h (fun _ z => nomatch z) (fun _ z => nomatch z)⟩)
  · exact .inr h
theorem sqL_en {K : PySem.W.Frag} {H H' : Hp} {a : Addr} {xs : List V} (h : SqL K H a xs) (e : ExN H H') : SqL K H' a xs := by
  rcases h with (h | ⟨o, h⟩) | h
  · exact .inl (.inl (e _ _ h (fun _ z => nomatch z)))
  · exact .inl (.inr ⟨o, e _ _ h (fun _ z => nomatch z)⟩)
  · exact .inr h
theorem ExN.lst {H H' : Hp} (e : ExN H H') {a : Addr} {xs : List V} (h : H a = some (.lst xs)) : H' a = some (.lst xs) := e _ _ h (fun _ z => nomatch z)
/-- all but the vat and the tables -/
structure Gn (v : Addr) (H H' : Hp) : Prop where
  old : VatAt H v
  keep : ∀ a o, a ≠ v → H a = some o → (∀ ps, o ≠ .tbl ps) → H' a = some o
  new : VatAt H' v
theorem VatAt.en {H H' : Hp} {v : Addr} (h : VatAt H v) (e : ExN H H') : VatAt H' v := by
  obtain ⟨a, b, c, h1, h2⟩ := h
  exact ⟨a, b, c, e.lst h1, h2⟩
theorem Gv.n {v : Addr} {H H' : Hp} (g : Gv v H H') : Gn v H H' := ⟨g.old, fun a o n h _ => g.keep a o n h, g.new⟩
theorem Gn.refl {v : Addr} {H : Hp} (h : VatAt H v) : Gn v H H := (Gv.refl h).n
theorem Gn.trans {v : Addr} {H H1 H2 : Hp} (a : Gn v H H1) (b : Gn v H1 H2) : Gn v H H2 :=
  ⟨a.old, fun x o n h m => b.keep x o n (a.keep x o n h m) m, b.new⟩
theorem Gn.en {v : Addr} {H H1 H2 : Hp} (a : Gn v H H1) (b : ExN H1 H2) : Gn v H H2 :=
  a.trans ⟨a.new, fun _ _ _ h m => b _ _ h m, a.new.en b⟩
theorem Gn.out {v : Addr} {H H1 H2 : Hp} (n : H v = none) (e : Ex H H1) (g : Gn v H1 H2) : ExN H H2 := fun a o h m =>
  g.keep a o (fun z => by rw [z, n] at h; cases h) (e a o h) m
theorem Gn.kn {v : Addr} {H H' : Hp} (g : Gn v H H') : KpN H H' := fun a o h n m => by
  refine g.keep a o (fun z => ?_) h m
  obtain ⟨x, y, w, h1, _⟩ := g.old
  rw [z, h1] at h
  exact n _ (Option.some.inj h).symm
/-- the list p is written, else nothing -/
theorem Gn.set {v p : Addr} {H H1 : Hp} {o : HO} (g : Gn v H H1) (n : H p = none) (pv : p ≠ v) : Gn v H (L2.upd H1 p o) := by
  refine ⟨g.old, fun a u ha h m => ?_, ?_⟩
  · rw [upd_ne (ne_of_none h n)]
    exact g.keep a u ha h m
  · obtain ⟨x, y, z, h1, h2⟩ := g.new
    exact ⟨x, y, z, by rw [upd_ne (Ne.symm pv)]; exact h1, h2⟩
/-! ### the table of lambdas, kept -/
abbrev Tb (Pt : Addr) (q : Str) (H : Hp) : Prop := LamX.Tabs [(Pt, q)] H
theorem Tb.ex {Pt : Addr} {q : Str} {H H' : Hp} (t : Tb Pt q H) (e : Ex H H') : Tb Pt q H' := LamX.Tabs.ext t e
/-- what keeps all but lists keeps the table -/
theorem Tb.kp {Pt : Addr} {q : Str} {H H' : Hp} (t : Tb Pt q H) (e : Kp H H') : Tb Pt q H' := by
  intro y hy
  obtain ⟨ps, h1, h2, h3⟩ := t y hy
  refine ⟨ps, e _ _ h1 (fun _ z => nomatch z), h2, fun pos cv hc => ?_⟩
  obtain ⟨c, e1, e2⟩ := h3 pos cv hc
  exact ⟨c, e1, e _ _ e2 (fun _ z => by unfold LamX.CodeO at z; cases z)⟩
theorem Tb.start {Pt : Addr} {q : Str} {H : Hp} (h : H Pt = some (.tbl #[])) : Tb Pt q H := by
  intro y hy
  rw [List.mem_singleton.mp hy]
  exact LamX.TabS.nil h

/-! kept lambdas: made, called, handed on -/
section
variable {X : Cx} {pins : List (Addr × Obj)} {σ : L2.St} {H : Hp} {s : Shared}
abbrev lamQ0 (X : Cx) : Str := X.env.qual ++ "<lambda>"
abbrev lamC (X : Cx) (scope : Scope) : List (Str × Addr) := cloFrom X.env.cells scope.names []
abbrev lamO (X : Cx) (params : Arguments) (body : Expr) (scope : Scope) (pm : Value) (c' : Addr) (ctv : Value) : Obj := PySem.W.kla_obj "<lambda>" (lamQ0 X) params body scope (lamC X scope) pm c' ctv
/-- the table of code objects with one more -/
theorem tabs_put {T : List (Addr × Str)} {P c' : Addr} {q : Str} {ps ps' : Array Value} {pos : Pos} (hT : LamX.Tabs T H) (hP : H P = some (.tbl ps)) (tri : TriplesOk ps.toList) (hu : ∀ p ∈ T, p.1 = P → p.2 = q)
    (hps : ps'.toList = ps.toList ++ [rawInt pos.line, rawInt pos.col, .ref c']) (nc : H c' = none) :
    LamX.ExtN H (upd (upd H P (.tbl ps')) c' (LamX.CodeO c' q)) ∧ LamX.Tabs T (upd (upd H P (.tbl ps')) c' (LamX.CodeO c' q)) := by
  have old : LamX.ExtN H (upd (upd H P (.tbl ps')) c' (LamX.CodeO c' q)) := fun b o e n => by
    have b1 : b ≠ P := fun z => by rw [z, hP] at e; exact n ps (Option.some.inj e).symm
    rw [upd_ne (ne_of_none e nc), upd_ne b1, e]
  refine ⟨old, fun p hp => ?_⟩
  obtain ⟨qs, hq, tq, among⟩ := hT p hp
  by_cases at_ : p.1 = P
  · have eq : qs = ps := by
      rw [at_, hP] at hq
      injection hq with e
      injection e with e
      exact e.symm
    subst eq
    refine ⟨ps', by rw [at_, upd_ne (ne_of_none hP nc), upd_same], by rw [hps]; exact PySem.TriplesOk_snoc _ _ _ _ tri, fun pos' cv hc => ?_⟩
    rw [hps] at hc
    cases LamX.among_app _ tri hc with
    | inl was => exact let ⟨c0, e1, e2⟩ := among pos' cv was; ⟨c0, e1, old _ _ e2 LamX.codeO_ne⟩
    | inr new => exact ⟨c', new, by rw [hu p hp at_]; exact upd_same⟩
  · exact ⟨qs, by rw [upd_ne (ne_of_none hq nc), upd_ne at_, hq], tq, fun pos' cv hc => let ⟨c0, e1, e2⟩ := among pos' cv hc; ⟨c0, e1, old _ _ e2 LamX.codeO_ne⟩⟩
/-- a new object is pinned as it is -/
theorem inv_pin {G : Heap} {tk : Nat} {H1 : Hp} (o : Obj) (J : Inv X pins σ H1 { s with heap := G, toks := tk }) (live : o.isFreed = false := by rfl) :
    Inv X pins σ (upd H1 G.objs.size (Pin G.objs.size o)) { s with heap := G.push o, toks := tk } :=
  J.laid (t' := tk) (fun b u e => Heap.get?_push_of_some _ e) (Nat.le_refl _) (pin_ok (Heap.get?_push_size _ live))
/-- the lambda is made and told -/
theorem lam_make3 {T : List (Addr × Str)} {c P : Addr} {params : Arguments} {body : Expr} {scope : Scope} {pos : Pos} {E : Value → Shared → Prop} {Q : Value → Shared → Prop} (I : Inv X pins σ H s) (TB : LamX.TabB X.base X.mg c P) (hcode : X.env.code = .ref c)
    (hm : (P, lamQ0 X) ∈ T) (hu : ∀ p ∈ T, p.1 = P → p.2 = lamQ0 X) (hT : LamX.Tabs T H) (hdef : defaultsOf params X.env = ([], [])) (hfree : ∀ y ∈ scope.names, y.2 = .free → ∃ c, X.env.cells.lookup y.1 = some c)
    (h : ∀ (f c' : Addr) (pm ctv : Value) (H1 : Hp) (s' : Shared), Inv X pins σ (upd H1 f (Pin f (lamO X params body scope pm c' ctv))) s' → LamX.ExtN H H1 → LamX.Tabs T H1 → H1 f = none → H1 c' = some (LamX.CodeO c' (lamQ0 X)) → Q (.ref f) s') :
    wpAny (model X.prog X.w) X.A (eval (.Lambda params body scope pos) X.env) Q E s := by
  apply PySem.W.kla_eval hdef
  obtain ⟨ps, isTbl, tri, among⟩ := hT _ hm
  have tblAt : s.heap.get? P = some { cls := .none, data := .fields ps } := I.hok P _ isTbl
  have glob := I.mod.glob.keeps I.bk
  have code := TB.code.keeps I.bk
  have blt := TB.bm.keeps I.bk
  have clo := closure_ok hfree
  cases hc : codeAmong pos ps.toList with
  | some cv =>
    obtain ⟨c', rfl, told⟩ := among pos cv hc
    apply PySem.W.kla_makeFunctionHit (mg := X.mg) (c := c) (P := P) (ps := ps) clo I.ok.glob glob hcode code tblAt tri hc blt
    intro ctv G tk keep grew
    exact h _ c' _ ctv H _ (inv_pin _ (I.kept fun b o e => keep b o e)) (LamX.ExtN.refl H) hT (I.hok.fresh grew) told
  | none =>
    apply PySem.W.kla_makeFunction (mg := X.mg) (c := c) (P := P) (ps := ps) clo I.ok.glob glob hcode code tblAt tri hc TB.gP blt
    rintro c' ctv G tk keep newer older ⟨c2, oc, vs, t, same, hoc, hd, hv⟩ table
    cases same
    have grew : s.heap.objs.size ≤ G.objs.size := by omega
    obtain ⟨old, tabs⟩ := tabs_put (c' := c') (pos := pos) (q := lamQ0 X) (ps' := ps ++ #[rawInt pos.line, rawInt pos.col, .ref c']) hT isTbl tri hu (by simp) (I.hok.fresh newer)
    have J := LamX.inv_table (t' := tk) (more := #[rawInt pos.line, rawInt pos.col, .ref c']) (h' := G) I isTbl (fun b o nb e => keep b o nb e) table newer ⟨oc, vs, t, hoc, hd, hv⟩
    refine h _ c' _ ctv _ _ (inv_pin _ J) old tabs ?_ upd_same
    have below := Heap.lt_size tblAt
    rw [upd_ne (Nat.ne_of_gt older), upd_ne (Nat.ne_of_gt (Nat.lt_of_lt_of_le below grew))]
    exact I.hok.fresh grew
/-- lambda: body, as a value -/
def tLamK (X : Cx) (T : List (Addr × Str)) (params : Arguments) (body : Expr) (scope : Scope) : TE := fun _ H Q => LamX.Tabs T H ∧
  ∀ (f c' : Addr) (pm ctv : Value) (H1 : Hp), X.Ok → ExN H H1 → LamX.Tabs T H1 → H1 f = none → H1 c' = some (LamX.CodeO c' (lamQ0 X)) → Q (.ref f) (upd H1 f (Pin f (lamO X params body scope pm c' ctv)))
theorem pe_lamK {T : List (Addr × Str)} {c P : Addr} {params : Arguments} {body : Expr} {scope : Scope} {pos : Pos} (TB : LamX.TabB X.base X.mg c P) (hcode : X.env.code = .ref c)
    (hm : (P, lamQ0 X) ∈ T) (hu : ∀ p ∈ T, p.1 = P → p.2 = lamQ0 X) (L : LamX.LamS X.env.scope scope := by exact LamX.lamS_by rfl) (hdef : defaultsOf params X.env = ([], []) := by rfl) :
    PE X (.Lambda params body scope pos) (tLamK X T params body scope) := by
  refine ⟨fun pins s σ H Q I h => ?_⟩
  obtain ⟨hT, h⟩ := h
  exact lam_make3 I TB hcode hm hu hT hdef (L.has I.ok) fun f c' pm ctv H1 s' I1 eN T1 hn hc => ⟨V.ref f, _, I1, rfl, h f c' pm ctv H1 I.ok eN T1 hn hc⟩
/-! ### the captured cells -/
theorem clo_cell {scope : Scope} (L : LamX.LamS X.env.scope scope) (ok : X.Ok) {y : Str} {c : Addr} (e : (lamC X scope).lookup y = some c) : X.env.cells.lookup y = some c ∧ (X.env.kindOf y = some .cell ∨ X.env.kindOf y = some .free) := by
  cases cloFrom_mem (PySem.mem_of_lookup e) with
  | inl none_ => cases none_
  | inr q =>
    obtain ⟨d, there⟩ := L.has ok _ q.1 rfl
    have there : X.env.cells.lookup y = some d := there
    have same : c = d := by
      rw [q.2, there] <;> rfl
    exact ⟨same ▸ there, L.free _ q.1 rfl⟩
theorem clo_th {scope : Scope} (L : LamX.LamS X.env.scope scope) (ok : X.Ok) : ThS scope (lamC X scope) :=
  ⟨L.kind, L.co, L.gen, L.own, fun y hl => mem_lookup (cloFrom_has (cells := X.env.cells) (acc := []) (PySem.mem_of_lookup hl)), fun y z c h1 h2 => ok.inj y z c (clo_cell L ok h1).1 (clo_cell L ok h2).1⟩
/-- the cells of X, lent -/
abbrev okN (X : Cx) : Str → Prop := fun y => X.env.kindOf y = some .cell ∨ X.env.kindOf y = some .free
theorem clo_at {scope : Scope} (L : LamX.LamS X.env.scope scope) (ok : X.Ok) (h : CellsAt X.N X.env.cells (okN X) σ H) : CellsAt X.N (lamC X scope) (fun _ => True) σ H :=
  ⟨fun y c e _ => h.cell y c (clo_cell L ok e).1 (clo_cell L ok e).2, h.len⟩
theorem clo_sub {scope : Scope} (L : LamX.LamS X.env.scope scope) (ok : X.Ok) {b : Addr} (h : Ad (lamC X scope) b) : Ad X.env.cells b :=
  let ⟨y, e⟩ := h; ⟨y, (clo_cell L ok e).1⟩
/-- what is known while they are lent -/
structure LentX (X : Cx) (σ : L2.St) (H H' : Hp) : Prop where
  none : ∀ b, Ad X.env.cells b → H b = none
  off : ∀ b, ¬ Ad X.env.cells b → H' b = H b
  on : ∀ b, Ad X.env.cells b → ∃ o, H' b = some (Pin b o)
  at_ : CellsAt X.N X.env.cells (okN X) σ H'
theorem LentX.ex {H' : Hp} (L : LentX X σ H H') : Ex H H' := fun b o e => by
  rw [L.off b fun z => by rw [L.none b z] at e; cases e]
  exact e
theorem LentX.back {H' H2 : Hp} (L : LentX X σ H H') (e : ExN H' H2) : (∀ b, Ad X.env.cells b → H2 b = H' b) ∧ ExN H (dropC (Ad X.env.cells) H2) := by
  refine ⟨fun b hb => ?_, fun b o q n => ?_⟩
  · obtain ⟨o, h⟩ := L.on b hb
    rw [h]
    exact e b _ h fun ps => pin_tbl
  · rw [drop_off fun z => by rw [L.none b z] at q; cases q]
    exact e b o (L.ex _ _ q) n
theorem lend_inv (I : Inv X pins σ H s) : ∃ H', Lent (Ad X.env.cells) s.heap H H' ∧ LentX X σ H H' := by
  obtain ⟨H', L⟩ := lend_ex (C := Ad X.env.cells) (h := s.heap) (H := H) (fun b ⟨y, e⟩ => I.freeC y b e) fun b ⟨y, e⟩ => by
    obtain ⟨v, o, ho, _⟩ := I.cell y b e
    exact ⟨o, ho⟩
  refine ⟨H', L, L.none, L.off, fun b hb => let ⟨o, _, q⟩ := L.on b hb; ⟨o, q⟩, ⟨fun y c hc hy => ?_, I.len⟩⟩
  obtain ⟨v, o, ho, hd⟩ := I.cell y c hc
  obtain ⟨o', ho', q⟩ := L.on c ⟨y, hc⟩
  rw [ho] at ho'
  cases ho'
  refine ⟨o, v, q, hd, fun i x h1 h2 => ?_⟩
  obtain ⟨m, _, hl⟩ := I.loc
  obtain ⟨u, r, l⟩ := hl i y x h1 h2 (hy.elim (fun k => .inr (.inl k)) (fun k => .inr (.inr k)))
  refine ⟨u, ?_, r⟩
  rcases l with ⟨k, _⟩ | ⟨_, c3, e3, z⟩
  · have k : X.env.kindOf y = some .local := k
    rcases hy with z | z <;> rw [z] at k <;> cases k
  · rw [hc] at e3
    cases e3
    obtain ⟨o2, ho2, hd2⟩ := z
    rw [ho] at ho2
    cases ho2
    rw [hd] at hd2
    injection hd2
/-- the cells stand apart from frames and from what was there -/
theorem cells_new (I : Inv X pins σ H s) (hf : ∀ y, X.fn y = true) {b : Addr} (h : Ad X.env.cells b) : X.base.get? b = none ∧ b ∉ frs X.stack := by
  obtain ⟨y, e⟩ := h
  have ge := I.ok.cab y b (hf y) e
  refine ⟨?_, fun hb => ?_⟩
  · cases q : X.base.get? b with
    | none => rfl
    | some o => exact absurd (Nat.lt_of_lt_of_le (Heap.lt_size (I.ok.bs b o q).1) ge) (Nat.lt_irrefl _)
  · rcases List.mem_cons.mp (I.stkSub b hb) with z | z
    · exact I.cne y b e z
    · obtain ⟨_, o, ho, _⟩ := I.ok.funs.mem z
      exact absurd (Nat.lt_of_lt_of_le (Heap.lt_size ho) ge) (Nat.lt_irrefl _)
theorem lend_env0 {H' : Hp} (I : Inv X pins σ H s) (hf : ∀ y, X.fn y = true) (L : Lent (Ad X.env.cells) s.heap H H') : Env0 X.prog X.w X.K X.mg X.base X.A X.stack s H' := by
  have e := I.env0
  refine ⟨e.frames, e.mod, fun b o q => ⟨(e.bs b o q).1, ?_⟩, e.bsz, e.funs, fun b q => ?_, L.hok e.hok, e.bare⟩
  · rw [L.off b fun z => by rw [(cells_new I hf z).1] at q; cases q]
    exact (e.bs b o q).2
  · rw [L.off b fun z => (cells_new I hf z).2 q]
    exact e.frf b q
/-- x(e, ..) while the cells are lent -/
def tLend (X : Cx) (sp : Sp) (t : TA) : TE := fun σ H Q => t σ H fun vs H1 => ∀ H', X.Ok → LentX X σ H1 H' → sp vs H' (fun v H2 => (∀ b, Ad X.env.cells b → H2 b = H' b) ∧ Q v (dropC (Ad X.env.cells) H2)) E0
theorem pe_lendG {x : Str} {k : Nat} {ps : List Str} {sp : Sp} {p pos : Pos} {e : Expr} {es : List Expr} {t : TA}
    (h : HasG X.prog X.w X.K X.mg X.base x k ps sp) (hgd : X.A.guards = some []) (hr : Room k X.A) (ha : PA X (e :: es) t) (hf : ∀ y, X.fn y = true := by intro _; rfl) (hg : Gl X x := by rfl)
    (hdb : (x == ("__debug__" : Str)) = false := by decide)
    (he : starEach (e :: es) X.env = (false, eval e X.env) :: starEach es X.env := by rfl)
    (hpl : (backTo pos (starEach es X.env)).any (·.1) = false := by rfl) :
    PE X (.Call (.Name x p) (e :: es) [] pos) (tLend X sp t) := by
  obtain ⟨f, fd, F, hm, hk, hb⟩ := h
  refine ⟨fun pins s σ H Q I hq => ?_⟩
  apply wpAny_Call_Name_kw (ld_glob I hg hm ?_ hdb)
  apply PySem.W.callWith_K (h₀ := X.base) I.ok.mod.kin hk ?_ he hpl
  refine thn (ha.run pos pins s σ H _ I hq) fun us s1 ⟨vs, H1, I1, rel, hsp⟩ => ⟨I1.kIn, ?_⟩
  obtain ⟨H', L, LX⟩ := lend_inv I1
  have hsp := hsp H' I1.ok LX
  have hl : us.length = ps.length := by rw [← rel.length]; exact F.len _ _ _ _ hsp
  have bnd := hb s1 us I1.kIn (by rw [List.append_nil]; exact hl)
  rw [List.append_nil] at bnd
  refine wpAny_call (codeAny_mono (F.run X.A X.stack s1 H' ⟨us, []⟩ us vs _ E0 hgd hr (lend_env0 I1 hf L) bnd rel hsp) fun r s' hc => ?_)
  cases r with
  | error er => exact (show False from hc).elim
  | ok fl =>
    cases fl with
    | ret u => exact I1.after (ce_back L hc)
    | next => exact hc.elim
    | brk => exact hc.elim
    | cont => exact hc.elim
/-- x(), x a slot that holds a thing that is called with nothing -/
def tAct (P : Program) (w : World) (K : PySem.W.Frag) (mg : Str → Option Value) (base : Heap) (k i : Nat) (E : XK) : TE := fun σ H Q => ∃ (f : Addr) (R : Hp → VK → XK → Prop), σ[i]? = some (some (.ref f)) ∧ Thunk P w K mg base k f R ∧ R H Q E
theorem pe_actK {W : WX} {E : XK} {k i : Nat} {a : Str} {p1 p2 : Pos} (tk : Takes X W) (hW : ∀ cls d σ' H', E cls d H' → W cls d σ' H') (hr : Room k X.A)
    (hN : X.N[i]? = some a) (hv : Vis X.env.scope a) (hd : (a == ("__debug__" : Str)) = false := by decide) (hcd : (a == ("__classdict__" : Str)) = false := by decide) :
    PE X (.Call (.Name a p1) [] [] p2) (tAct X.prog X.w X.K X.mg X.base k i E) := by
  constructor
  rintro pins s σ H Q I ⟨f, R, at_, T, hR⟩
  apply wpAny_Call_Name_kw
  apply thn ((pe_var (pos := p1) (i := i) hN hv hd hcd).run pins s σ H (fun v H1 => v = .ref f ∧ H1 = H) I ⟨.ref f, at_, rfl, rfl⟩)
  rintro u s1 ⟨_, _, I1, rel, rfl, rfl⟩
  have eu : u = Value.ref f := rel
  rw [eu]
  obtain ⟨⟨fd, hf⟩, rc⟩ := T X.A X.stack s1 _ Q E hr I1.env0 hR
  apply PySem.W.callWith_F0 ⟨_, _, _, _, hf⟩
  apply wpAny_call
  apply codeAny_mono rc
  rintro (e | fl) s' came
  · exact passes_call tk hW pins σ _ s1 e s' I1 came
  · match fl, came with
    | .ret u, came => exact I1.after came
end

/-! the same where an exception's context is known to be None (a list is walked in the suite) -/
section
variable {P : Program} {w : World} {C : Addr → Prop} {h h' B : Heap} {H H' H1 HZ : Hp}
theorem cx_putN {outer : List Env} {s s' : Shared} {E : XK} {u : Value} (T : Told C HZ) (ok : HOk P w HZ s.heap) (hf : ∀ b ∈ frs outer, HZ b = none)
    (c : L2N.CX P w outer (dropC C HZ) s (fun cls d H1 => (∀ b, C b → H1 b = none) → E cls d (putC C HZ H1)) u s') : L2N.CX P w outer HZ s E u s' := by
  obtain ⟨a, B, H1, cls, d, rfl, fl, hok, ub, na, os, ag, q⟩ := c
  have q := q fun b hb => let ⟨o, h⟩ := T.on b hb; ub.free b o (pin_get ok h) (drop_on hb)
  have nC : ¬ C a := fun z => by
    obtain ⟨o', q'⟩ := T.on a z
    have e := ub.keep a o' (pin_get ok q') (drop_on z) fun hb => by rw [hf a hb] at q'; cases q'
    rw [fl.2.1] at e
    cases e
  refine ⟨a, B, putC C HZ H1, cls, d, rfl, fl, put_hok (fs := frs outer) T ok hok (fun b o e n hb => ub.keep b o e n hb) (fun b o e n => ub.free b o e n) hf, ⟨fun b o e n hb => ?_, ub.slot, fun b o e n => ?_, ub.there, fun b xs e => ?_, fun b o u e => ?_, fun b ps e => ?_⟩, ?_, os, ag, q⟩
  · exact ub.keep b o e (by rw [drop_off (T.nc n)]; exact n) hb
  · rw [put_off (T.nc n)]
    exact ub.free b o e (by rw [drop_off (T.nc n)]; exact n)
  · have z : ¬ C b := fun z => by
      obtain ⟨o', q'⟩ := T.on b z
      rw [q'] at e
      exact pin_tup (Option.some.inj e)
    rw [put_off z]
    exact ub.tups b xs (by rw [drop_off z]; exact e)
  · have z : ¬ C b := fun z => by
      obtain ⟨o', q'⟩ := T.on b z
      rw [q'] at e
      have e := Option.some.inj e
      unfold Pin at e
      cases e
    rw [put_off z]
    exact ub.frzs b o u (by rw [drop_off z]; exact e)
  · have z : ¬ C b := fun z => by
      obtain ⟨o', q'⟩ := T.on b z
      rw [q'] at e
      exact pin_tbl (Option.some.inj e)
    rw [put_off z]
    exact ub.tbls b ps (by rw [drop_off z]; exact e)
  · rw [put_off nC]
    exact na
end
/-! ### a thing that is called with nothing -/
def ThunkN (P : Program) (w : World) (K : PySem.W.Frag) (mg : Str → Option Value) (base : Heap) (k : Nat) (f : Addr) (R : Hp → VK → XK → Prop) : Prop :=
  ∀ (A : Around) (outer : List Env) (s : Shared) (H : Hp) (Q : VK) (E : XK), Room k A → Env0 P w K mg base A outer s H → R H Q E →
    (∃ fd : FuncData, s.heap.get? f = some { cls := .type "function", data := .func fd }) ∧ codeAny (model P w) A (.call (.ref f) ⟨[], []⟩) (CR (L2N.CX P w) outer P w H s Q E) s
/-- the context of a kept lambda's body -/
def thCxN (P : Program) (w : World) (K : PySem.W.Frag) (mg : Str → Option Value) (base : Heap) (N : List Str) (qual : Str) (scope : Scope) (cells : List (Str × Addr)) (A : Around) (outer : List Env) (s : Shared) (H : Hp) (E : XK) (f c' : Addr) : Cx where
  prog := P
  w := w
  K := K
  mg := mg
  base := base
  A := A.deeper (PySem.W.envX qual scope s.heap.objs.size f (.ref c') cells)
  N := N
  s_0 := s
  H_0 := H
  env := PySem.W.envX qual scope s.heap.objs.size f (.ref c') cells
  outer := outer
  stack := PySem.W.envX qual scope s.heap.objs.size f (.ref c') cells :: outer
  ex := []
  fn := fun _ => false
  calm := true
  pn := []
  xe := fun e s' => wpAny (model P w) (A.deeper (PySem.W.envX qual scope s.heap.objs.size f (.ref c') cells)) (leaving (PySem.W.envX qual scope s.heap.objs.size f (.ref c') cells) e) (fun _ s'' => L2N.CX P w outer H s E e s'') (fun e' s'' => L2N.CX P w outer H s E e' s'') s'
theorem takes_thN {P : Program} {w : World} {K : PySem.W.Frag} {mg : Str → Option Value} {base : Heap} {N : List Str} {qual : Str} {scope : Scope} {cells : List (Str × Addr)} {A : Around} {outer : List Env} {s : Shared} {H : Hp} {E : XK} {f c' : Addr} :
    L2N.Takes (thCxN P w K mg base N qual scope cells A outer s H E f c') (offE E) 
    := L2N.takes_of rfl rfl rfl rfl
section
variable {P : Program} {w : World} {K : PySem.W.Frag} {mg : Str → Option Value} {base : Heap} {N : List Str} {qual : Str} {scope : Scope} {cells : List (Str × Addr)} {A : Around} {outer : List Env} {s : Shared} {HZ : Hp} {E : XK} {f c' : Addr}
theorem th_startN {h₁ : Heap} {tk : Nat} {σ : L2.St} (L : ThS scope cells) (h : CellsAt N cells (fun _ => True) σ HZ) (e0 : Env0 P w K mg base A outer s HZ) (hd : A.handled = none)
    (hns : h₁.Ns s.heap.objs.size fun y => ([] : List (Str × Value)).reverse.lookup y) (kp : ∀ b o, s.heap.get? b = some o → h₁.get? b = some o) :
    Inv (thCxN P w K mg base N qual scope cells A outer s (dropC (Ad cells) HZ) E f c') [] σ (dropC (Ad cells) HZ) { s with heap := h₁, toks := tk } := by
  have T := h.told
  have e1 := env0_drop T e0
  have noA : ∀ b : Addr, b ∉ (thCxN P w K mg base N qual scope cells A outer s (dropC (Ad cells) HZ) E f c').ex := fun b z => absurd (show b ∈ ([] : List Addr) from z) (by simp)
  have cel : ∀ y c, cells.lookup y = some c → ∃ v, s.heap.IsCell c v ∧ ∀ (i : Nat) (x : V), N[i]? = some y → σ[i]? = some (some x) → ∃ u, v = some u ∧ RelV x u := fun y c hc => by
    obtain ⟨o, v, h1, h2, h3⟩ := h.cell y c hc True.intro
    exact ⟨v, ⟨o, pin_get e0.hok h1, h2⟩, h3⟩
  refine ⟨⟨e1.mod, L.kind, rfl, rfl, Nat.le_refl _, fun y z c h1 h2 => L.inj y z c h1 h2, fun y hy => ?_, fun y c z _ => ?_, fun _ => hd, Around.frames_deeper e1.frames, .inr ⟨rfl, rfl⟩, fun b z => absurd z (noA b), e1.bs, e1.bsz, fun b _ _ => noA b,
      fun b z => absurd z (noA b), e1.funs, e1.frf⟩,
    rfl, e1.bare, Un.kept kp, ⟨_, hns, fun i y v h1 h2 h3 => ?_⟩, fun y c e => ?_, e1.hok.fresh (Nat.le_refl _), fun y c e => ?_, fun q hq => absurd (show q ∈ ([] : List (Addr × Obj)) ++ [] from hq) (by simp), e1.hok.kept kp, h.len⟩
  · have hy : scope.names.lookup y = some .cell ∨ scope.names.lookup y = some .free := hy
    rcases hy with hy | hy
    · exact absurd rfl (L.own _ (PySem.mem_of_lookup hy)).2
    · exact L.has y hy
  · have z : false = true := z
    cases z
  · have h3 : Vis scope y := h3
    rcases h3 with k | k | k
    · exact absurd rfl (L.own _ (PySem.mem_of_lookup k)).1
    · exact absurd rfl (L.own _ (PySem.mem_of_lookup k)).2
    · obtain ⟨c, hc⟩ := L.has y k
      obtain ⟨v', hc', hv⟩ := cel y c hc
      obtain ⟨u, rfl, r⟩ := hv i v h1 h2
      exact ⟨u, r, .inr ⟨.inr k, c, hc, hc'.keeps kp⟩⟩
  · obtain ⟨v', hc', _⟩ := cel y c e
    exact ⟨v', hc'.keeps kp⟩
  · exact drop_on ⟨y, e⟩
/-- the promise of a kept lambda -/
theorem thunk_lamN {k : Nat} {params : Arguments} {body : Expr} {pm ctv : Value} {t : XK → TE} (L : ThS scope cells)
    (hbind : bindArgs (PySem.W.kla_fn "<lambda>" qual params body scope cells pm (.ref c') ctv) ⟨[], []⟩ = pure [])
    (hbody : ∀ (A : Around) (outer : List Env) (s : Shared) (H : Hp) (E : XK), Room k (A.deeper (PySem.W.envX qual scope s.heap.objs.size f (.ref c') cells)) → PE (thCxN P w K mg base N qual scope cells A outer s H E f c') body (t E)) :
    ThunkN P w K mg base (k + 1) f (fun HZ Q E => HZ f = some (Pin f (PySem.W.kla_obj "<lambda>" qual params body scope cells pm c' ctv)) ∧ HZ c' = some (LamX.CodeO c' qual) ∧
      ∃ σ, CellsAt N cells (fun _ => True) σ HZ ∧ t (fun cls d H1 => (∀ b, Ad cells b → H1 b = none) → E cls d (putC (Ad cells) HZ H1)) σ (dropC (Ad cells) HZ) (fun v H1 => (∀ b, Ad cells b → H1 b = none) → Q v (putC (Ad cells) HZ H1))) := by
  intro A outer s HZ Q E hr e0 ⟨hf, hc, σ, hcel, ht⟩
  have T := hcel.told
  have of1 := pin_get e0.hok hf
  obtain ⟨⟨oc, vs, tt, hoc, hdc, hvc⟩, _, _⟩ := e0.hok c' _ hc
  refine ⟨⟨_, of1⟩, ?_⟩
  have nolim : s.heap.NoLimit := e0.mod.nolimit.keeps fun a o h => (e0.bs a o h).1
  have rc : codeAny (model P w) A (.call (.ref f) ⟨[], []⟩) (CR (L2N.CX P w) outer P w (dropC (Ad cells) HZ) s (fun v H1 => (∀ b, Ad cells b → H1 b = none) → Q v (putC (Ad cells) HZ H1)) (fun cls d H1 => (∀ b, Ad cells b → H1 b = none) → E cls d (putC (Ad cells) HZ H1))) s := by
    refine PySem.W.kla_callFunE hr.depth of1 rfl L.co L.gen rfl ⟨c', oc, vs, tt, rfl, hoc, hdc, hvc⟩ ?_
    rw [hbind]
    refine wpAny_pure (wpAny_newFunctionEnv (fun y hy => (L.own y hy).2) (fun y hy => absurd hy (by simp)) (fun h₁ hns hsb => ⟨nolim.fresh _ hsb, ?_⟩) L.kind)
    show codeAny _ _ (.expr body (PySem.W.envX qual scope s.heap.objs.size f (.ref c') cells)) _ _
    have kp : ∀ b o, s.heap.get? b = some o → h₁.get? b = some o := fun b o e => hsb.extBut b o (Nat.ne_of_lt (Heap.lt_size e)) (Heap.get?_push_of_some _ e)
    have J : Inv (thCxN P w K mg base N qual scope cells A outer s (dropC (Ad cells) HZ) (fun cls d H1 => (∀ b, Ad cells b → H1 b = none) → E cls d (putC (Ad cells) HZ H1)) f c') [] σ (dropC (Ad cells) HZ) { s with heap := h₁, toks := s.toks + ([] : List (Str × Value)).length } :=
      th_startN L hcel e0 hr.hd hns kp
    refine PySem.W.kla_codeExpr (wpAny_mono ((hbody A outer s _ _ (hr.deeper _)).run [] _ _ _ _ J ht) (fun v s' hq => ?_) fun e s' hq => hq)
    obtain ⟨w', H', J', rv, q⟩ := hq
    exact ⟨w', H', J'.os, J'.bare, J'.base, J'.hok, rv, q⟩
  refine codeAny_mono rc fun r s' hq => ?_
  cases r with
  | error e => exact cx_putN T e0.hok e0.frf hq
  | ok fl =>
    cases fl with
    | ret u => exact ce_put T e0.hok e0.frf hq
    | next => exact False.elim hq
    | brk => exact False.elim hq
    | cont => exact False.elim hq
end
section
variable {X : Cx} {pins : List (Addr × Obj)} {σ : L2.St} {H : Hp} {s : Shared}
/-- x(), x a slot that holds a thing that is called with nothing -/
def tActN (P : Program) (w : World) (K : PySem.W.Frag) (mg : Str → Option Value) (base : Heap) (k i : Nat) (E : XK) : TE := fun σ H Q => ∃ (f : Addr) (R : Hp → VK → XK → Prop), σ[i]? = some (some (.ref f)) ∧ ThunkN P w K mg base k f R ∧ R H Q E
theorem pe_actN {W : WX} {E : XK} {k i : Nat} {a : Str} {p1 p2 : Pos} (tk : L2N.Takes X W) (hW : ∀ cls d σ' H', E cls d H' → W cls d σ' H') (hr : Room k X.A)
    (hN : X.N[i]? = some a) (hv : Vis X.env.scope a) (hd : (a == ("__debug__" : Str)) = false := by decide) (hcd : (a == ("__classdict__" : Str)) = false := by decide) :
    PE X (.Call (.Name a p1) [] [] p2) (tActN X.prog X.w X.K X.mg X.base k i E) := by
  refine ⟨fun pins s σ H Q I h => ?_⟩
  obtain ⟨f, R, hs, T, hR⟩ := h
  refine wpAny_Call_Name_kw (thn ((pe_var (pos := p1) (i := i) hN hv hd hcd).run pins s σ H (fun v H1 => v = .ref f ∧ H1 = H) I ⟨.ref f, hs, rfl, rfl⟩) fun u s1 ⟨v, H1, I1, r1, q1⟩ => ?_)
  obtain ⟨ev, eH⟩ := q1
  subst ev
  rw [eH] at I1
  obtain rfl : u = Value.ref f := r1
  obtain ⟨⟨fd, hf⟩, rc⟩ := T X.A X.stack s1 H Q E hr I1.env0 hR
  refine PySem.W.callWith_F0 ⟨_, _, _, _, hf⟩ ?_
  refine wpAny_call (codeAny_mono rc fun r s' hq => ?_)
  cases r with
  | error e => exact L2N.passes_call tk hW pins σ H s1 e s' I1 hq
  | ok fl =>
    cases fl with
    | ret u => exact I1.after hq
    | next => exact False.elim hq
    | brk => exact False.elim hq
    | cont => exact False.elim hq
/-- an own class of exceptions called without anything -/
theorem pmk_own0N {C : Addr} {bmB : List Value} {B nId iId : String} {x : Str} {p pos : Pos}
    (facts : ExcBaseFacts B nId iId bmB) (cls : PySem.W.excIn X.K C bmB nId = true) (raisable : Raises X (.ref C))
    (kept : PySem.W.keepIn X.K (.ref C) = true) (isC : X.mg x = some (.ref C)) (gl : Gl X x := by rfl) (nd : (x == ("__debug__" : Str)) = false := by decide) :
    L2N.PMk X (.Call (.Name x p) [] [] pos) (fun _ H Q => Q (.ref C) none H) := by
  intro pins s σ H Q I q
  refine wpAny_Call_Name_kw (ld_glob I gl isC ?_ nd)
  refine PySem.W.callWith_K0 I.kIn kept ?_
  obtain ⟨_, _, _, _, _, _, _, _, _, _, _, _, _, _, _, _, _, hC, hN, hni, T⟩ := exc_obj I.kIn cls
  refine wpAny_call_exc_subT facts T hC hN hni (fun h' e made => ?_) (Nat.zero_le _)
  exact L2N.mk_of I made raisable q (I.hok.gone made.new)
end
/-- raise X() -/
theorem ps_raise0N {X : Cx} {W : WX} {C : Addr} {x : Str} {p pos pos' : Pos} (calm : X.calm = true) (tk : L2N.Takes X W) (F : ExcA X.K C) (isC : X.mg x = some (.ref C)) (gl : Gl X x := by rfl) (nd : (x == ("__debug__" : Str)) = false := by decide) :
    PS X (.Raise (some (.Call (.Name x p) [] [] pos)) none pos') (fun _ σ H => W (.ref C) none σ H) :=
  L2N.ps_raise calm tk (pmk_own0N PySem.F.excBase_ArithmeticError F.cls (raises_own F.sub F.typ) F.kept isC gl nd)
/-- the global x is a def that keeps sp, and may raise -/
def HasN (P : Program) (w : World) (K : PySem.W.Frag) (mg : Str → Option Value) (base : Heap) (x : Str) (k : Nat) (ps : List Str) (sp : Sp) : Prop :=
  ∃ f fd, FnOk P w K mg base (L2N.CX P w) k f fd ps sp ∧ mg x = some (.ref f) ∧ PySem.W.keepIn K (.ref f) = true ∧ Binds K fd ps []
def HasNW (P : Program) (w : World) (K : PySem.W.Frag) (mg : Str → Option Value) (base : Heap) (x : Str) (k : Nat) (ps : List Str) (sp : Sp) (ks : List Str) (ix : List Nat) : Prop :=
  ∃ f fd, FnOk P w K mg base (L2N.CX P w) k f fd ps sp ∧ mg x = some (.ref f) ∧ PySem.W.keepIn K (.ref f) = true ∧ KwOk fd ps ks ix
theorem HasN.of {P : Program} {w : World} {K : PySem.W.Frag} {mg : Str → Option Value} {base : Heap} {x : Str} {st : Stmt} {ps : List Str} {k : Nat} {sp : Sp} (D : Df K mg x st ps)
    (h : ∀ f fd, Fun K x x st f fd → FnOk P w K mg base (L2N.CX P w) k f fd ps sp) : HasN P w K mg base x k ps sp := by
  obtain ⟨f, fd, F, hm, hb⟩ := D
  exact ⟨f, fd, h f fd F, hm, F.kp, hb⟩
theorem HasNW.of {P : Program} {w : World} {K : PySem.W.Frag} {mg : Str → Option Value} {base : Heap} {x : Str} {st : Stmt} {ps ks : List Str} {ix : List Nat} {k : Nat} {sp : Sp} (D : DfW K mg x st ps ks ix)
    (h : ∀ f fd, Fun K x x st f fd → FnOk P w K mg base (L2N.CX P w) k f fd ps sp) : HasNW P w K mg base x k ps sp ks ix := by
  obtain ⟨f, fd, F, hm, hb⟩ := D
  exact ⟨f, fd, h f fd F, hm, F.kp, hb⟩
section
variable {X : Cx}
def tFN (sp : Sp) (E : XK) (t : TA) : TE := fun σ H Q => t σ H fun vs H1 => sp vs H1 Q E
def tWN (sp : Sp) (E : XK) (m : Nat) (ix : List Nat) (tk : TA) : TE := fun σ H Q => tk σ H fun zs H1 => zs.length = m ∧ sp (arr ix zs) H1 Q E
theorem pe_hasN {x : Str} {k : Nat} {ps : List Str} {sp : Sp} {E : XK} {p pos : Pos} {e : Expr} {es : List Expr} {t : TA}
    (h : HasN X.prog X.w X.K X.mg X.base x k ps sp) (tk : L2N.Takes X (offE E)) (hr : Room k X.A) (ha : PA X (e :: es) t) (hg : Gl X x := by rfl)
    (hdb : (x == ("__debug__" : Str)) = false := by decide)
    (he : starEach (e :: es) X.env = (false, eval e X.env) :: starEach es X.env := by rfl)
    (hpl : (backTo pos (starEach es X.env)).any (·.1) = false := by rfl) :
    PE X (.Call (.Name x p) (e :: es) [] pos) (tFN sp E t) := by
  obtain ⟨f, fd, F, hm, hk, hb⟩ := h
  have q := pe_call (X := X) (p := p) (pos := pos) F hr hg hm hk hb .nil (L2N.passes_call tk fun _ _ _ _ z => z) ha hdb he hpl
  refine ⟨fun pins s σ H Q I hq => q.run pins s σ H Q I ?_⟩
  show t σ H fun vs H1 => sp (vs ++ []) H1 Q E
  simp only [List.append_nil]
  exact hq
theorem pe_hasNW {x : Str} {k : Nat} {ps ks : List Str} {ix : List Nat} {sp : Sp} {E : XK} {p pos : Pos} {kws : List Keyword} {ta : TA}
    (h : HasNW X.prog X.w X.K X.mg X.base x k ps sp ks ix) (tk : L2N.Takes X (offE E)) (hr : Room k X.A) (hkw : PK X kws ta) (hg : Gl X x := by rfl)
    (hdb : (x == ("__debug__" : Str)) = false := by decide)
    (hall : (backToKw pos (keywordEach kws X.env)).all (·.1.isSome) = true := by rfl) (hks : (backToKw pos (keywordEach kws X.env)).filterMap (·.1) = ks := by rfl)
    (hpl : ((backTo pos (starEach [] X.env)).any (·.1) || (backToKw pos (keywordEach kws X.env)).any (·.1.isNone)) = false := by rfl) :
    PE X (.Call (.Name x p) [] kws pos) (tWN sp E ks.length ix ta) := by
  obtain ⟨f, fd, F, hm, hk, hb⟩ := h
  refine ⟨fun pins s σ H Q I h => ?_⟩
  apply wpAny_Call_Name_kw (ld_glob I hg hm ?_ hdb)
  apply PySem.W.callWith_KW0 (h₀ := X.base) I.ok.mod.kin hk hall ?_ hpl
  refine thn (hkw.run pos pins s σ H _ I h) fun ws s2 ⟨zs, H2, I2, rz, l, hsp⟩ => ⟨I2.kIn, ?_⟩
  rw [hks]
  have r2 := arr_vals rz ix
  have bnd := hb s2 ws (by rw [← rz.length]; exact l)
  refine wpAny_call (codeAny_mono (F.run X.A X.stack s2 H2 ⟨[], ks.zip ws⟩ (arr ix ws) (arr ix zs) Q E hr I2.env0 bnd r2 hsp) fun r s' hc => ?_)
  cases r with
  | error er => exact L2N.passes_call tk (fun _ _ _ _ z => z) pins σ H2 s2 er s' I2 hc
  | ok fl =>
    cases fl with
    | ret u => exact I2.after hc
    | next => exact hc.elim
    | brk => exact hc.elim
    | cont => exact hc.elim
/-- what leaves a def's body -/
theorem takes_defN {P : Program} {w : World} {K : PySem.W.Frag} {mg : Str → Option Value} {base : Heap} {N : List Str} {q : Str} {sc : Scope} {f : Addr} {cd : Value} {A : Around} {outer : List Env} {s : Shared} {H : Hp} {E : XK} :
    L2N.Takes (cxOf (L2N.CX P w) P w K mg base N q sc f cd A outer s H E) (offE E) :=
  L2N.takes_of rfl rfl rfl rfl
end
/-- C(e), C's own __init__ keeping sp, its context None -/
theorem pmk_oexN {X : Cx} {CX : CXT} {x : Str} {e : Expr} {es : List Expr} {ta : TA} {p pos : Pos} {C fI : Addr} {k : Nat} {fd : FuncData} {ps : List Str} {sp : Sp} (T : OexC X.K C) (iC : PySem.W.findIn X.K (.ref C) "__init__" = some (some (.ref fI))) (tI : PySem.W.typeIn X.K (.ref fI) = some (.type "function"))
    (F1 : FnOk X.prog X.w X.K X.mg X.base CX k fI fd ps sp) (hr : Room (k + 1) X.A) (hb : Binds X.K fd ps []) (hx : Passes CX X (fun _ _ _ => False)) (hg : Gl X x) (hm : X.mg x = some (.ref C)) (ha : PA X (e :: es) ta)
    (hdb : (x == ("__debug__" : Str)) = false := by decide) (he : starEach (e :: es) X.env = (false, eval e X.env) :: starEach es X.env := by rfl) (hpl : (backTo pos (starEach es X.env)).any (·.1) = false := by rfl) :
    L2N.PMk X (.Call (.Name x p) (e :: es) [] pos) (tMkO C sp [] ta) := by
  obtain ⟨nm, q, N, bs, bm, sn, sub, ab, col, dd, k0, k1, k2, k3, k5, hC, hbm⟩ := T.cls
  intro pins s σ H Q I h
  apply wpAny_Call_Name_kw (ld_glob I hg hm ?_ hdb)
  refine PySem.W.callWith_K (h₀ := X.base) I.ok.mod.kin T.kC (thn (ha.run pos pins s σ H _ I h) ?_) he hpl
  rintro us ⟨G, g, dr, tk, os⟩ ⟨vs, J, I1, rel, few, made⟩
  refine ⟨I1.kIn, ?_⟩
  -- the new error stands behind the tuple of its arguments
  obtain ⟨a, ea⟩ : ∃ a, a = G.objs.size + 1 := ⟨_, rfl⟩
  obtain ⟨G2, eG⟩ : ∃ G2, G2 = (G.push (PySem.W.kdv_tup us)).push (PySem.HandSPX.excO C G.objs.size) := ⟨_, rfl⟩
  have above : G.objs.size ≤ a := by omega
  have keep : ∀ b o, G.get? b = some o → G2.get? b = some o := fun b o e => by
    rw [eG]
    exact Heap.get?_push_of_some _ (Heap.get?_push_of_some _ e)
  have at_ : G2.get? a = some (PySem.HandSPX.excO C G.objs.size) := by
    rw [eG, ea]
    heap_get
  have want := made a (I1.hok.fresh above)
  rw [List.append_nil] at want
  have I2 : Inv X pins σ (upd J a (exo a C none)) ⟨G2, g, dr, tk, os⟩ := I1.laid (t' := tk) keep above (exo_ok at_)
  have rel2 : Vals (V.ref a :: vs) (Value.ref a :: us) := .cons rfl rel
  have many : (Value.ref a :: us).length = ps.length := rel2.length.symm.trans (F1.len _ _ _ _ want)
  have short : us.length ≤ sizeLine := by
    have := Paired.length rel
    rw [sizeLine_eq]
    omega
  have binds := hb ⟨G2, g, dr, tk, os⟩ (Value.ref a :: us) I2.kIn (by rw [List.append_nil]; exact many)
  rw [List.append_nil] at binds
  have init := F1.run _ X.stack _ _ ⟨Value.ref a :: us, []⟩ _ _ _ (fun _ _ _ => False) (hr.make C us []) (I2.env0.make C us []) binds rel2 want
  rw [ea, eG] at init
  refine wpAny_call (PySem.HandSPX.call_own F.excBase_ValueError (fun Y => PySem.HandSPX.refsVE_contains Y bm hbm) (I1.kIn _ _ hC) (PySem.W.looks_findIn I1.kIn iC) (fun self => PySem.W.bind_fn I1.kIn self tI) short (codeAny_mono init ?_))
  rw [← eG, ← ea]
  rintro (er | fl) ⟨G3, g3, d3, t3, os3⟩ came
  · exact hx pins σ _ _ er _ I2 came
  · match fl, came with
    | .ret u, came =>
      obtain ⟨v, J2, same, bare, un, ok2, rv, ev, d, fs, e1, e2, e3, done⟩ := came
      subst ev
      obtain ⟨_, Gx, Jx, old, fresh, own, no_⟩ := mk_end0 (d2 := d3) (t2 := t3) I1 above keep un ok2 same bare e1 e2 e3
      exact ⟨rv, ⟨a, _, _, ⟨Gx, g3, d3, t3, os3⟩, _, .ref C, some d, rfl, Jx, old, fresh, own, ⟨rfl, rfl, fun vs hv => by cases hv; rfl⟩, rfl, rfl, no_, rfl, bare, raises_own T.exC T.tyC, done⟩⟩
/-- raise X(e) -/
theorem ps_raiseN {X : Cx} {W : WX} {C : Addr} {x pn fld : Str} {e : Expr} {te : TE} {p pos pos' : Pos} (calm : X.calm = true) (tk : L2N.Takes X W) (F : XCls X.K X.prog C pn fld) (nos : X.mg "super" = none) (hr : Room 5 X.A) (isC : X.mg x = some (.ref C)) (he : PE X e te) (gl : Gl X x := by rfl) (nd : (x == ("__debug__" : Str)) = false := by decide) (hst : starEach [e] X.env = (false, eval e X.env) :: starEach [] X.env := by rfl) :
    PS X (.Raise (some (.Call (.Name x p) [e] [] pos)) none pos') (fun _ σ H => te σ H fun v H1 => ∀ d H2, Ex H1 H2 → H2 d = some (.xd [(fld, v)]) → W (.ref C) (some d) σ H2) := by
  obtain ⟨f, cc, cda, qual, st, fd, XI, iC, tI, hb⟩ := F.ini
  have F1 := okXI (P := X.prog) (w := X.w) (mg := X.mg) (base := X.base) XI F.oex F.nof nos
  have q := L2N.ps_raise (pos := pos') calm tk (pmk_oexN (p := p) (pos := pos) F.oex iC tI F1 hr hb (pass0 (X := X)) gl isC (pa_cons (PE.mon he) pa_nil hst) nd hst rfl)
  refine ⟨fun pins s σ H D I h => q.run pins s σ H D I ?_⟩
  refine ⟨_, h, fun v H1 hv => ⟨by simp, fun a na => ?_⟩⟩
  refine ⟨a, v, rfl, upd_same, fun dx H' nd ne e' => ⟨rfl, dx, [(fld, v)], ?_, ?_, ?_, ?_⟩⟩
  · rw [e', upd_same]
  · rw [e', upd_ne ne, upd_same]
  · rw [upd_ne ne] at nd
    exact nd
  · rw [upd_ne ne] at nd
    refine hv dx _ (fun b o hb => ?_) upd_same
    have b1 : b ≠ a := fun z => by rw [z, na] at hb; cases hb
    have b2 : b ≠ dx := fun z => by rw [z, nd] at hb; cases hb
    rw [upd_ne b2, del_ne b1, e', upd_ne b1, upd_ne b2, upd_ne b1]
    exact hb
section
variable {X : Cx} {x1 x2 x3 n : Str} {c1 c2 c3 : Value} {i tk0 : Nat} {body suite : List Stmt} {b₀ : Stmt} {q1 q2 q3 tp pos pos' : Pos} {tb : WX → TS} {ts : Addr → Value → Option Addr → TS} {Wout : WX}
theorem ps_try_asN (stk : X.stack = X.env :: X.outer) (fr : X.env.frame = some X.env.locals) (nod : X.N.Nodup) (hi : X.N[i]? = some n) (loc : X.env.kindOf n = some .local) (h1 : Names X x1 c1) (h2 : Names X x2 c2) (h3 : Names X x3 c3) (tk : L2N.Takes X Wout)
    (hb : ∀ (W : WX) (pn : List (Addr × Obj)) (xe : Value → Shared → Prop), L2N.Takes (X.tr pn xe) W → PassesOwn (model X.prog X.w) X.A X.env xe → PSs (X.tr pn xe) body (tb W))
    (hsu : ∀ (a : Addr) (oe : Obj) (cls : Value) (d : Option Addr) (pn : List (Addr × Obj)), L2N.Zn cls d oe → (∃ vs, oe.data = .fields vs) → PSs (X.suite a ((a, oe) :: pn)) (b₀ :: suite) (ts a cls d)) :
    PS X (.Try body [.ExceptHandler (some (.Tuple [.Name x1 q1, .Name x2 q2, .Name x3 q3] tk0 tp)) (some n) (b₀ :: suite) pos'] [] [] pos) (fun D σ H => tb (wAsL X.K [c1, c2, c3] i ts Wout D) D σ H) := by
  refine ⟨fun pins s σ H D G h => wpAny_Try_except ?_⟩
  have ok := G.ok
  have frames : X.A.frames = some (X.env :: X.outer) := ok.frames.trans (by rw [stk])
  have run := hb (wAsL X.K [c1, c2, c3] i ts Wout D) (X.pn ++ pins) (fun e s1 => wpAny (model X.prog X.w) X.A (noteFrame e X.env) (fun _ s2 => wpAny (model X.prog X.w) X.A (setFlight e none) (fun _ s3 =>
    wpAny (model X.prog X.w) X.A (handleBy e X.env [.ExceptHandler (some (.Tuple [.Name x1 q1, .Name x2 q2, .Name x3 q3] tk0 tp)) (some n) (b₀ :: suite) pos']) (SP X pins D) X.xe s3) X.xe s2) X.xe s1) (fun u sx caught => ?_) PassesOwn.looking
  · refine wpAny_mono (run.run [] s σ H D (G.toTry _) h) (fun f s1 hsp => ?_) fun _ _ z => z
    cases f with
    | next =>
      obtain ⟨σ', H', G', q⟩ := hsp
      exact wpAny_execs_nil ⟨σ', H', G'.ofTry ok, q⟩
    | brk => exact let ⟨σ', H', G', q⟩ := hsp; ⟨σ', H', G'.ofTry ok, q⟩
    | cont => exact let ⟨σ', H', G', q⟩ := hsp; ⟨σ', H', G'.ofTry ok, q⟩
    | ret u => exact let ⟨v, σ', H', G', r, q⟩ := hsp; ⟨v, σ', H', G'.ofTry ok, r, q⟩
  obtain ⟨a, B, sI, pins', σ1, H1, cls, d, rfl, G0, nb, up, sky, na, os, ag, b, hb1, hno, hyes⟩ := caught
  have G1 : Inv X pins σ1 H1 sI := G0.ofTry ok
  rw [stk] at sky
  show wpAny (model X.prog X.w) X.A (noteFrame (.ref a) X.env) _ _ _
  refine L2N.Sky.land L2N.Zn.steady frames fr sky fun hp2 fl2 up2 => ?_
  have G2 : Inv X pins σ1 H1 { sx with heap := hp2 } := G1.landed nb fl2.1 (up.trans up2) os ag
  have apart : ∀ {hp : Heap}, HandSPX.FlyingZ B (X.env :: X.outer) a (L2N.Zn cls d) hp → a ∉ frs (X.env :: X.outer) := fun fl hm => by
    obtain ⟨o, vs, e1, _, e3⟩ := fl.there
    obtain ⟨_, o', e4, nf⟩ := fl.2.2.1.mem hm
    rw [e1] at e4
    cases e4
    exact nf _ e3
  have noFr := apart fl2
  have noL : a ≠ X.env.locals := fun z => noFr (List.mem_filterMap.mpr ⟨X.env, List.mem_cons_self, by rw [fr, z]⟩)
  have noO : a ∉ X.fs := fun hm => by
    obtain ⟨e, he, q⟩ := List.mem_filterMap.mp hm
    exact noFr (List.mem_filterMap.mpr ⟨e, List.mem_cons_of_mem _ he, q⟩)
  obtain ⟨o2, v2, e2, z2, d2⟩ := fl2.there
  have GS := G2.suite e2 d2 na noL noO
  refine wpAny_handleBy_cons (codeAny_handlers_test ?_) (by intro q; cases q)
  refine tup_here (Y := X.suite a ((a, o2) :: (X.pn ++ pins))) GS h1 h2 h3 ?_
  have k3 : ∀ c o, hp2.get? c = some o → (hp2.push { cls := .type "tuple", data := .seq [c1, c2, c3].toArray }).get? c = some o := fun c o e => Heap.get?_push_of_some _ e
  have t3 : (hp2.push { cls := .type "tuple", data := .seq [c1, c2, c3].toArray }).get? hp2.objs.size = some { cls := .type "tuple", data := .seq [c1, c2, c3].toArray } := Heap.get?_push_at rfl rfl
  show wpAny _ _ (excMatches (.ref a) (.ref hp2.objs.size)) _ _ _
  generalize hp2.push { cls := .type "tuple", data := .seq [c1, c2, c3].toArray } = hp3 at k3 t3
  have fl3 := flying_kept k3 fl2
  have up3 : sI.heap.UpToSlots hp3 := (up.trans up2).trans (Heap.UpToSlots.of_keeps k3)
  have G3 : Inv X pins σ1 H1 { sx with heap := hp3 } := G1.landed nb fl3.1 up3 os ag
  have look : PySem.W.Looks (model X.prog X.w) hp3 (typeOf (.ref a)) cls := fun A Q E s k q => wpAny_typeOf_ref (k _ _ (k3 _ _ e2)) (by rw [z2.1]; exact q)
  refine (PySem.W.exm_tup3 G3.kIn look t3 hb1).here ?_
  cases b with
  | false =>
    show wpAny _ X.A (handleBy (.ref a) X.env []) _ _ _
    refine wpAny_handleBy_nil ?_
    obtain ⟨_, _, _, o5, v5, T5, _, _, g1, _, g3, g4, _⟩ := id fl3
    have leave : wpAny (model X.prog X.w) X.A (setFlight (.ref a) X.env.frame) (fun _ s4 => wpAny (model X.prog X.w) X.A (throw (.ref a) : Sem Flow) (SP X pins D) X.xe s4) X.xe { sx with heap := hp3 } := by
      rw [fr]
      exact HandSPX.setFlight_upZ fl3 fun hp4 held up4 => wpAny_throw (tk _ _ ⟨a, B, sI, pins, σ1, H1, cls, d, rfl, G1, nb, up3.trans up4, .inr (.inr (by rw [stk]; exact held)), na, os, ag, hno rfl⟩)
    unfold PySem.passOn
    refine wpAny_bind (wpAny_field g1 g3 g4 ?_)
    rw [if_neg (by simp : ¬ (Value.ref T5 == Value.none) = true)]
    first
      | exact wpAny_bind leave
      | exact wpAny_bind (wpAny_pure (wpAny_bind leave))
  | true =>
    refine codeAny_handlers_suite_as ?_
    refine HandSPX.lands_againZ fl3 fun hp4 fl4 up4 => ?_
    have G4 : Inv X pins σ1 H1 { sx with heap := hp4 } := G1.landed nb fl4.1 (up3.trans up4) os ag
    obtain ⟨o4, v4, e4, z4, d4⟩ := fl4.there
    refine store_ok (X := X.suite a ((a, o4) :: (X.pn ++ pins))) (v := .ref a) (G4.suite e4 d4 na noL noO) nod hi (.inl loc) rfl (fun s5 G5 => ?_) (.inr loc)
    refine wpAny_mono ((hsu a o4 cls d (X.pn ++ pins) z4 ⟨_, d4⟩).run [] s5 _ H1 _ G5 (hyes rfl a na)) (fun f s6 hsp => ?_) fun _ _ z => z.elim
    have fin : ∀ {σ6 : L2.St} {H6 : Hp} {Q : Shared → Prop}, Inv (X.suite a ((a, o4) :: (X.pn ++ pins))) [] σ6 H6 s6 → (∀ s7, Inv X pins (σ6.set i none) H6 s7 → Q s7) →
        wpAny (model X.prog X.w) X.A (do bindName X.env n .none; unbindBehindTheSuite X.env n pos') (fun _ s7 => Q s7) X.xe s6 := fun G6 q => gone_ok (G6.unsuite ok) nod hi loc q
    cases f with
    | next => exact let ⟨σ6, H6, G6, q6⟩ := hsp; fin G6 fun s7 G7 => ⟨_, _, G7, q6⟩
    | brk => exact let ⟨σ6, H6, G6, q6⟩ := hsp; fin G6 fun s7 G7 => ⟨_, _, G7, q6⟩
    | cont => exact let ⟨σ6, H6, G6, q6⟩ := hsp; fin G6 fun s7 G7 => ⟨_, _, G7, q6⟩
    | ret u => exact let ⟨v6, σ6, H6, G6, r6, q6⟩ := hsp; fin G6 fun s7 G7 => ⟨_, _, _, G7, r6, q6⟩
end

/-! [.. for x in a list if ..] in any context that knows how a list's end is told, also while an exception is handled; the element may know how the block began -/
/-- at a list's end the iterator says so, and only its own record changes -/
def EndTold (P : Program) (w : World) (A : Around) (z : Shared) (it : Addr) : Prop :=
  ∀ (l : Addr) (n : Nat) (items : Array Value) (Q : Option Value → Shared → Prop) (E : Value → Shared → Prop), z.heap.IsListIter it l n → z.heap.IsList l items → items[n]? = none →
    (∀ G, (∀ b o, b ≠ it → z.heap.get? b = some o → G.get? b = some o) → Q none { z with heap := G }) → wpAny (model P w) A (pyNext (.ref it)) Q E z
theorem endTold_calm {P : Program} {w : World} {A : Around} {z : Shared} {it : Addr} (hh : A.handled = none) : EndTold P w A z it := fun l n items Q E st isl hx q =>
  wpAny_pyNext_list_end hh st isl hx fun G e => q G fun b o nb g => e b o nb g
/-- a context whose blocks tell the end of lists -/
def EndsWell (X : Cx) : Prop := ∀ {pins : List (Addr × Obj)} {σ σ' : L2.St} {H0 H' : Hp} {s0 s' : Shared} {it : Addr} {scope : Scope} {env : Env},
  Inv X pins σ H0 s0 → FpOk X pins H0 it → Inv (X.blk s0 H0 scope env [it]) [] σ' H' s' → EndTold X.prog X.w X.A s' it
theorem endsWell_calm {X : Cx} (hc : X.calm = true) : EndsWell X := fun _ _ J => endTold_calm (J.ok.hd hc)
section
variable {X : Cx} {elt tg l : Expr} {ifs : List Expr} {scope : Scope} {own : List (Str × Nat)} {pos : Pos} {tl : TE} {g : TG} {tt : TT} {te : L2.St → TE}
theorem pe_lcOwn (hw : EndsWell X) (nod : X.N.Nodup) (hl : PE X l tl) (ok : BlkOk X.N X.env.scope scope own)
    (hg : ∀ s H C cl fp, PG (X.blk s H scope (compEnvC scope cl C X.env) fp) tg g)
    (ht : ∀ s H C cl fp, PTs (X.blk s H scope (compEnvC scope cl C X.env) fp) ifs tt)
    (he : ∀ pins σ s H C cl it, Inv X pins σ H s → FpOk X pins H it → C = s.heap.objs.size → cl = cellsFrom (s.heap.objs.size + 1) scope.names (cloFrom X.env.cells scope.names []) → PE (X.blk s H scope (compEnvC scope cl C X.env) [it]) elt (te σ))
    (hs : ∀ v, foldedSetIterable l X.env v = pure v := by intro _; rfl) :
    PE X (.ListComp elt [⟨tg, l, ifs, 0⟩] scope pos) (fun σ H Q => tLc (iList X.K tl) g tt (te σ) (own.map (·.2)) σ H Q) := by
  constructor
  intro pins s σ H Q I h
  rw [eval_ListComp]
  apply wpAny_comprehension_free (use := none) rfl hs (closure_ok fun y hy e => I.ok.has _ (ok.free y hy e)) ok.kind (fun y hy e => (ok.uniq y hy).trans (congrArg some e))
  apply thn (hl.run pins s σ H _ I h)
  rintro _ z ⟨_, G, J, rel, a, rfl, ⟨xs, hxs⟩, hD⟩
  cases rel
  obtain ⟨items, _, isl, _⟩ := J.list hxs
  apply wpAny_pyIter_list isl.isList
  -- the iterator
  obtain ⟨it, hit⟩ : ∃ it, it = z.heap.objs.size := ⟨_, rfl⟩
  obtain ⟨z1, hz1⟩ : ∃ z1 : Shared, z1 = { z with heap := z.heap.push { cls := .type "list_iterator", data := .fields #[.ref a, .int 0 0] } } := ⟨_, rfl⟩
  have J1 : Inv X pins σ G z1 := by
    rw [hz1]
    exact J.kept fun b o q => Heap.get?_push_of_some _ q
  have fit : FpOk X pins G it := by
    rw [hit]
    exact J.fpOk (Nat.le_refl _) (J.hok.fresh (Nat.le_refl _))
  have st1 : z1.heap.IsListIter it a 0 := by
    rw [hz1, hit]
    exact ⟨_, Heap.get?_push_size _ rfl, rfl, rfl⟩
  rw [← hz1, ← hit]
  -- the new list
  refine wpAny_newObj_type (newEnv_comp ?_) (by show 0 ≤ sizeLine; decide)
  obtain ⟨D, hDz⟩ : ∃ D, D = z1.heap.objs.size := ⟨_, rfl⟩
  have freeD : G D = none := by
    rw [hDz]
    exact J1.hok.fresh (Nat.le_refl _)
  obtain ⟨W, ⟨m0, w0⟩, turn⟩ := hD D freeD
  have itD : it < D := by
    rw [hDz, hz1, hit, Heap.size_push]
    exact Nat.lt_succ_self _
  obtain ⟨G2, hG2⟩ : ∃ G2, G2 = upd G D (.lst []) := ⟨_, rfl⟩
  obtain ⟨z2, hz2⟩ : ∃ z2 : Shared, z2 = { z1 with heap := z1.heap.push { cls := .type "list", data := .seq ([] : List Value).toArray } } := ⟨_, rfl⟩
  have J2 : Inv X pins σ G2 z2 := by
    rw [hz2, hG2]
    exact J1.laid (fun b o q => Heap.get?_push_of_some _ q) (Nat.le_of_eq hDz.symm) ⟨Nat.zero_le _, [], 0, .nil, by rw [hDz]; exact Heap.get?_push_size _ rfl⟩
  have noIt : G2 it = none := by
    rw [hG2, upd_ne (Nat.ne_of_lt itD)]
    exact fit.1
  have fit2 : FpOk X pins G2 it := ⟨noIt, fit.2⟩
  have st2 : z2.heap.IsListIter it a 0 := by
    obtain ⟨o, q, c⟩ := st1
    rw [hz2]
    exact ⟨o, Heap.get?_push_of_some _ q, c⟩
  have itLt : it < z2.heap.objs.size := let ⟨_, q, _⟩ := st2; Heap.lt_size q
  rw [← hG2] at w0
  rw [← hz2, ← hDz]
  -- the block
  have JB := block_start (fp := [it]) J2 ok nod fun b hb => by
    obtain rfl := List.mem_singleton.mp hb
    exact ⟨fit2, itLt⟩
  obtain ⟨env, henv⟩ : ∃ env, env = compEnvC scope (cellsFrom (z2.heap.objs.size + 1) scope.names (cloFrom X.env.cells scope.names [])) z2.heap.objs.size X.env := ⟨_, rfl⟩
  have pg := hg z2 G2 z2.heap.objs.size (cellsFrom (z2.heap.objs.size + 1) scope.names (cloFrom X.env.cells scope.names [])) [it]
  have pt := ht z2 G2 z2.heap.objs.size (cellsFrom (z2.heap.objs.size + 1) scope.names (cloFrom X.env.cells scope.names [])) [it]
  have pe := he pins σ z2 G2 z2.heap.objs.size (cellsFrom (z2.heap.objs.size + 1) scope.names (cloFrom X.env.cells scope.names [])) it J2 fit2 rfl rfl
  rw [← henv] at JB pg pt pe
  have locs : env.locals = z2.heap.objs.size := by rw [henv]; rfl
  obtain ⟨z3, hz3⟩ : ∃ z3 : Shared, z3 = { z2 with heap := pushCells (z2.heap.push { cls := .type "dict", data := .dict #[] }) scope.names } := ⟨_, rfl⟩
  rw [← hz3] at JB
  have st3 : z3.heap.IsListIter it a 0 := by
    obtain ⟨o, q, c⟩ := st2
    rw [hz3]
    exact ⟨o, pushCells_keeps _ _ _ _ (Heap.get?_push_of_some _ q), c⟩
  -- within the block the iterator stays ours
  have ours : ∀ {σ' : L2.St} {H' : Hp} {s' : Shared}, Inv (X.blk z2 G2 scope env [it]) [] σ' H' s' → H' it = none → FpOk (X.blk z2 G2 scope env [it]) [] H' it := fun K n =>
    ⟨n, (K.ok.exf it (List.mem_singleton.mpr rfl)).1, K.ok.exfs it (List.mem_singleton.mpr rfl), .inl (List.mem_singleton.mpr rfl), (K.ok.exf it (List.mem_singleton.mpr rfl)).2, fun p hp => absurd hp (by simp)⟩
  have sw : ∀ {σ' : L2.St}, wipe σ' (own.map (·.2)) = wipe σ (own.map (·.2)) → (wipe σ (own.map (·.2))).length = σ'.length := fun q => by rw [← q, wipe_length]
  have loop : codeAny (model X.prog X.w) X.A (.compLoop (.ListComp elt [⟨tg, l, ifs, 0⟩] scope pos) 0 (.ref it) (.ref D) env) (compPost (model X.prog X.w) X.A X.xe none (EP X pins σ Q) (.ref D) z2.heap.objs.size) z3 := by
    refine compLoop_any (fun n y => ∃ i Y, Inv (X.blk z2 G2 scope env [it]) [] (wipe σ (own.map (·.2))) Y y ∧ y.heap.IsListIter it a i ∧ Y it = none ∧ W i n Y) ?_ m0 ⟨0, G2, JB, st3, noIt, w0⟩
    intro n y ⟨i, Y, JY, st, no, wi⟩
    have fy := ours JY no
    cases turn i n Y wi with
    | inl stop =>
      obtain ⟨⟨ys, hys, far⟩, done⟩ := stop
      obtain ⟨its, ri, isY, _⟩ := JY.list hys
      refine hw J2 fit2 JY a i _ _ _ st isY.isList (by have := ri.length; simp; omega) fun F keep => ?_
      have JF : Inv (X.blk z2 G2 scope env [it]) [] (wipe σ (own.map (·.2))) Y { y with heap := F } := JY.turned (t' := y.toks) keep fy.1 fy.2.1 fy.2.2.2.1 fy.2.2.2.2.1 fy.2.2.2.2.2
      obtain ⟨m, ns, _⟩ := JF.loc
      have freeE : Y z2.heap.objs.size = none := locs ▸ JF.free
      refine ⟨m, locs ▸ ns, fun F' sb => ?_⟩
      have back : Inv X pins σ Y { y with heap := F } := J2.call' (ch := [it]) JF.os JF.base JF.hok JF.bare fun b hb => by
        obtain rfl := List.mem_singleton.mp hb
        exact ⟨fit2.2.2.2.1, fit2.2.1, fit2.2.2.2.2.1, fit2.2.2.2.2.2⟩
      obtain ⟨e0, e1, e2, e3, e4, e5⟩ := J2.fpOk (Nat.le_refl _) freeE
      exact ⟨.ref D, Y, back.turned (t' := y.toks) (fun b o nb q => (sb.2 b nb).trans q) e0 e1 e3 e4 e5, rfl, done⟩
    | inr more =>
      obtain ⟨⟨ys, x, hys, hx⟩, Nx, hN, step⟩ := more
      obtain ⟨its, ri, isY, _⟩ := JY.list hys
      obtain ⟨u, hu, ru⟩ := ri.get hx
      refine wpAny_pyNext_list_item st isY.isList (x := u) (by simpa using hu) fun F st' sb => ?_
      have JF : Inv (X.blk z2 G2 scope env [it]) [] (wipe σ (own.map (·.2))) Y { y with heap := F } := JY.turned (t' := y.toks) (fun b o nb q => (sb.2 b nb).trans q) fy.1 fy.2.1 fy.2.2.2.1 fy.2.2.2.2.1 fy.2.2.2.2.2
      obtain ⟨oi, gi, ci, di⟩ := id st'
      refine go_of (s := { y with heap := F }) gi ci di (by decide) ?_
      -- the iterator's record is pinned through the turn
      have JP : Inv (X.blk z2 G2 scope env [it]) [(it, oi)] (wipe σ (own.map (·.2))) Y { y with heap := F } := JF.pins_of fun p hp => by
        obtain rfl := List.mem_singleton.mp hp
        exact ⟨gi, fy.1, fy.2.1, fy.2.2.1, fun v q => by rw [di] at q; cases q⟩
      have again : ∀ {σ' : L2.St} {V' : Hp} {v' : Shared}, wipe σ' (own.map (·.2)) = wipe σ (own.map (·.2)) → Inv (X.blk z2 G2 scope env [it]) [(it, oi)] σ' V' v' → Nx V' →
          ∃ m, m < n ∧ ∃ i Y, Inv (X.blk z2 G2 scope env [it]) [] (wipe σ (own.map (·.2))) Y v' ∧ v'.heap.IsListIter it a i ∧ Y it = none ∧ W i m Y := fun {σ' V' v'} ws K nx => by
        obtain ⟨m, lt, wm⟩ := hN V' nx
        have pin := K.pin (it, oi) (List.mem_append_right _ (List.mem_singleton.mpr rfl))
        exact ⟨m, lt, i + 1, V', (K.pins_of (pins' := []) fun p hp => absurd hp (by simp)).weak (sw ws) (fun k v q => (wipe_some (ws ▸ q)).1), ⟨oi, pin.1, ci, di⟩, pin.2.1, wm⟩
      apply thnF (pg.run _ { y with heap := F } _ Y x u _ JP ru (step x Y ⟨rfl, fun vs hv => by rw [JF.list_inj hv hys]; exact hx⟩))
      rintro _ y1 ⟨σ1, Y1, K1, ws, t1⟩
      apply thnF (pt.run _ y1 σ1 Y1 _ K1 t1)
      rintro b y2 ⟨Y2, K2, q2⟩
      cases b with
      | false => exact again ws K2 q2
      | true =>
        apply thnF (pe.run _ y2 σ1 Y2 _ K2 q2)
        rintro v y3 ⟨yv, Y3, K3, r3, acc, hacc, room, nx⟩
        exact app_ok (X := X.blk z2 G2 scope env [it]) K3 hacc room r3 fun y4 K4 => again ws K4 nx
  have start := codeAny_compStart_list loop (wpAny_pyIter_listiter st3 loop)
  rw [henv, hz3] at start
  exact start
end
/-- while x is handled, its context None -/
theorem endTold_hot {P : Program} {w : World} {A : Around} {z : Shared} {it x : Addr} (hot : HotX.HotAt A x z.heap) (ne : x ≠ it) : EndTold P w A z it := by
  intro l n items Q E st isl none_ q
  have ty := st.typeIs
  obtain ⟨oi, gi, ci, di⟩ := st
  obtain ⟨ol, gl, _, _, dl⟩ := isl
  obtain ⟨hh, ox, vx, gx, dx, cx⟩ := hot
  unfold pyNext
  refine wpAny_bind (wpAny_attempt (wpAny_callSpecial?_slot (name := Str.ofString "__next__") ty slot_listiter_next (wpAny_call_entry slot_listiter_next ty entry_listiter_next ?_ (args_listiter_next _))))
  wp_walk using wpAny_field gi di (x := .ref l) rfl, wpAny_field gi di (x := .int n 0) rfl, wpAny_seqItems gl dl
  rw [Int.toNat_natCast, none_]
  wp_walk using wpAny_setField gi di (by simp)
  have g1 : ∀ (b : Addr) (o : Obj), b ≠ it → z.heap.get? b = some o → ((z.heap.update it (Obj.mapFields fun y => y.setIfInBounds 0 Value.none)).push { cls := Value.type "tuple", data := Data.seq #[] }).get? b = some o := fun b o nb g =>
    Heap.get?_push_of_some _ ((Heap.get?_update_other _ _ (Ne.symm nb)).trans g)
  generalize ((z.heap.update it (Obj.mapFields fun y => y.setIfInBounds 0 Value.none)).push { cls := Value.type "tuple", data := Data.seq #[] }) = G1 at g1 ⊢
  have gx1 := g1 x ox ne gx
  refine HotX.raiseNew_hot ⟨hh, ox, vx, Heap.get?_push_of_some _ gx1, dx, cx⟩ (Nat.ne_of_lt (Heap.lt_size gx1)) (Heap.get?_push_size _ rfl) rfl (by simp [Array.size_append]; omega) ?_
  refine wpAny_bind (wpAny_isInstance ⟨_, Heap.get?_update_self _ (Heap.get?_push_size _ rfl) rfl, rfl⟩ isSubtype_stop (wpAny_pure (q _ fun b o nb g => ?_)))
  exact (Heap.get?_update_other _ _ (Nat.ne_of_gt (Heap.lt_size (g1 b o nb g)))).trans (Heap.get?_push_of_some _ (g1 b o nb g))
theorem endsWell_hot {X : Cx} (hc : L2H.HotC X) : EndsWell X := by
  intro pins σ σ' H0 H' s0 s' it scope env I f J
  obtain ⟨p, ⟨hh, vx, dx, cx⟩, hp⟩ := hc
  have pin := I.pin p (List.mem_append_left _ hp)
  have ne : p.1 ≠ it := f.2.2.2.2.2 p (List.mem_append_left _ hp)
  refine endTold_hot ⟨hh, p.2, vx, J.base.keep p.1 p.2 pin.1 pin.2.1 (fun hm => ?_) (fun hm => ne (List.mem_singleton.mp hm)), dx, cx⟩ ne
  exact (List.mem_cons.mp (I.stkSub p.1 hm)).elim pin.2.2.1 pin.2.2.2.1
/-- while an exception is handled -/
theorem pe_lcHot {X : Cx} {K : PySem.W.Frag} {elt tg l : Expr} {ifs : List Expr} {scope : Scope} {own : List (Str × Nat)} {pos : Pos} {tl : TE} {g : TG} {tt : TT} {te : TE}
    (nod : X.N.Nodup) (hc : L2H.HotC X) (hl : PE X l tl) (ok : BlkOk X.N X.env.scope scope own)
    (hg : ∀ s H C cl fp, PG (X.blk s H scope (compEnvC scope cl C X.env) fp) tg g)
    (ht : ∀ s H C cl fp, PTs (X.blk s H scope (compEnvC scope cl C X.env) fp) ifs tt)
    (he : ∀ s H C cl fp, PE (X.blk s H scope (compEnvC scope cl C X.env) fp) elt te)
    (hs : ∀ v, foldedSetIterable l X.env v = pure v := by intro _; rfl) (h : X.K = K := by rfl) :
    PE X (.ListComp elt [⟨tg, l, ifs, 0⟩] scope pos) (tLc (iList K tl) g tt te (own.map (·.2))) := by
  subst h
  exact pe_lcOwn (te := fun _ => te) (endsWell_hot hc) nod hl ok hg ht (fun _ _ s H C cl it _ _ _ _ => he s H C cl [it]) hs
/-- the element may lend the cells of X: its reading speaks of the slots that stood when the block began -/
def tLcB (K : PySem.W.Frag) (tl : TE) (g : TG) (te : L2.St → TE) (vs : List Nat) : TE := fun σ H Q => tLc (iList K tl) g tYes (te σ) vs σ H Q
theorem r_lcB {K : PySem.W.Frag} {tl : TE} {g : TG} {te : L2.St → TE} {vs : List Nat} {σ : L2.St} {H : Hp} {Q : VK} : tLcB K tl g te vs σ H Q = iList K tl σ H fun J H1 => ∀ Dd, H1 Dd = none → LcW J g tYes (te σ) vs σ H1 Dd Q := rfl
theorem pe_lcLend {X : Cx} {K : PySem.W.Frag} {tg l : Expr} {elt : Expr} {scope : Scope} {own : List (Str × Nat)} {pos : Pos} {tl : TE} {g : TG} {te : L2.St → TE}
    (nod : X.N.Nodup) (hc : X.calm = true) (hl : PE X l tl) (ok : BlkOk X.N X.env.scope scope own)
    (hg : ∀ s H C cl fp, PG (X.blk s H scope (compEnvC scope cl C X.env) fp) tg g)
    (he : ∀ pins σ s H C cl it, Inv X pins σ H s → FpOk X pins H it → PE (X.blk s H scope (compEnvC scope cl C X.env) [it]) elt (te σ))
    (hs : ∀ v, foldedSetIterable l X.env v = pure v := by intro _; rfl) (h : X.K = K := by rfl) :
    PE X (.ListComp elt [⟨tg, l, [], 0⟩] scope pos) (tLcB K tl g te (own.map (·.2))) := by
  subst h
  exact pe_lcOwn (endsWell_calm hc) nod hl ok hg (fun _ _ _ _ _ => pts_nil) (fun pins σ s H C cl it i f _ _ => he pins σ s H C cl it i f) hs

/-! what an except suite asks of its error; repr of a value of any kind -/
/-- the suite's binders in the order that leaves its reading free of the object -/
theorem ps_try_asN2 {X : Cx} {x1 x2 x3 n : Str} {c1 c2 c3 : Value} {i tk0 : Nat} {body suite : List Stmt} {b₀ : Stmt} {q1 q2 q3 tp pos pos' : Pos} {tb : WX → TS} {ts : Addr → Value → Option Addr → TS} {Wout : WX} (stk : X.stack = X.env :: X.outer) (fr : X.env.frame = some X.env.locals) (nod : X.N.Nodup) (hi : X.N[i]? = some n) (loc : X.env.kindOf n = some .local) (h1 : Names X x1 c1) (h2 : Names X x2 c2) (h3 : Names X x3 c3) (tk : L2N.Takes X Wout)
    (hb : ∀ (W : WX) (pn : List (Addr × Obj)) (xe : Value → Shared → Prop), L2N.Takes (X.tr pn xe) W → PassesOwn (model X.prog X.w) X.A X.env xe → PSs (X.tr pn xe) body (tb W))
    (hsu : ∀ (a : Addr) (cls : Value) (d : Option Addr) (oe : Obj) (pn : List (Addr × Obj)), L2N.Zn cls d oe → (∃ vs, oe.data = .fields vs) → PSs (X.suite a ((a, oe) :: pn)) (b₀ :: suite) (ts a cls d)) :
    PS X (.Try body [.ExceptHandler (some (.Tuple [.Name x1 q1, .Name x2 q2, .Name x3 q3] tk0 tp)) (some n) (b₀ :: suite) pos'] [] [] pos) (fun D σ H => tb (wAsL X.K [c1, c2, c3] i ts Wout D) D σ H) :=
  ps_try_asN stk fr nod hi loc h1 h2 h3 tk hb fun a oe cls d pn => hsu a cls d oe pn
theorem takes0N {X : Cx} : L2N.Takes X (fun _ _ _ _ => False) := fun _ _ x => by
  obtain ⟨_, _, _, _, _, _, _, _, _, _, _, _, _, _, _, _, z⟩ := x
  exact z.elim
section
variable {X : Cx} {a : Addr} {oe : Obj} {cls : Value} {d : Option Addr} {pn : List (Addr × Obj)}
theorem hotS (hz : L2N.Zn cls d oe) (hf : ∃ vs, oe.data = .fields vs) : L2H.HotC (X.suite a ((a, oe) :: pn)) := by
  obtain ⟨vs, hv⟩ := hf
  exact ⟨(a, oe), ⟨rfl, vs, hv, hz.2.2 vs hv⟩, List.mem_cons_self⟩
/-- isinstance(e, c), e the error of the suite -/
def rIsK (K : PySem.W.Frag) (a : Addr) (cls : Value) (d : Option Addr) : List V → Hp → VK → Prop := fun xs H Q => ∃ (D : Addr) (c : V) (cv : Value) (b : Bool), cls = .ref D ∧ ExcC K D ∧ (d = none ∨ ∃ dd fs, d = some dd ∧ H dd = some (.xd fs)) ∧
  xs = [.ref a, c] ∧ (∀ u, RelV c u → u = cv) ∧ PySem.W.kitOne K (.ref D) cv = some b ∧ Q (.bl b) H
theorem call_isK (hz : L2N.Zn cls d oe) (hf : ∃ vs, oe.data = .fields vs) : CallR (X.suite a ((a, oe) :: pn)) (.builtin "isinstance") (rIsK X.K a cls d) := by
  intro pins s σ H xs us Q I r h
  obtain ⟨D, c, cv, b, rfl, C, hd, ex, hcv, e, q⟩ := h
  rcases hd with rfl | ⟨dd, fs, rfl, hdd⟩
  · exact call_isE C hz.zc hf pins s σ H xs us Q I r ⟨c, cv, b, ex, hcv, e, q⟩
  · exact call_isD C hz.zc hf pins s σ H xs us Q I r ⟨c, cv, b, fs, ex, hcv, e, hdd, q⟩
theorem kIsK {K : PySem.W.Frag} (hz : L2N.Zn cls d oe) (hf : ∃ vs, oe.data = .fields vs) (h : X.K = K := by rfl) : CallR (X.suite a ((a, oe) :: pn)) (.builtin "isinstance") (rIsK K a cls d) := by
  subst h
  exact call_isK hz hf
/-- e.f, e the error of the suite -/
def tXfK (K : PySem.W.Frag) (a : Addr) (cls : Value) (d : Option Addr) (f : Str) (te : TE) : TE := fun σ H Q => te σ H fun x H1 => x = .ref a ∧ ∃ (C dd : Addr) (fs : List (Str × V)) (v : V), cls = .ref C ∧ XfC K C ∧ PySem.W.findIn K (.ref C) f = some none ∧ d = some dd ∧ H1 dd = some (.xd fs) ∧ fs.lookup f = some v ∧ Q v H1
theorem pe_xfK {K : PySem.W.Frag} {e : Expr} {te : TE} {pos : Pos} {n : Str} (hz : L2N.Zn cls d oe) (hf : ∃ vs, oe.data = .fields vs) (he : PE (X.suite a ((a, oe) :: pn)) e te) (hb : attributeBase e n X.env (eval e X.env) = eval e X.env := by rfl) (hK : X.K = K := by rfl) :
    PE (X.suite a ((a, oe) :: pn)) (.Attribute e n pos) (tXfK K a cls d n te) := by
  subst hK
  -- what is asked of the class does not hang on the state
  by_cases known : ∃ C, cls = .ref C ∧ XfC X.K C ∧ PySem.W.findIn X.K (.ref C) n = some none
  · obtain ⟨C, ec, T, hno⟩ := known
    have field := pe_xf (pos := pos) T hno ⟨hz.1, hz.2.1⟩ hf (PE.mon he) hb
    constructor
    intro pins s σ H Q I h
    refine field.run pins s σ H Q I ⟨_, h, fun x H1 hx => ?_⟩
    obtain ⟨ex, C2, dd, fs, v, _, _, _, ed, ea, l, q⟩ := hx
    exact ⟨ex, ec, dd, fs, v, ed, ea, l, q⟩
  · constructor
    intro pins s σ H Q I h
    apply attr_of hb
    apply thn (he.run pins s σ H _ I h)
    rintro u s1 ⟨x, H1, _, _, _, C, _, _, _, ec, T, hno, _⟩
    exact absurd ⟨C, ec, T, hno⟩ known
end
/-- x(), the wish at the caller's slots -/
def tActW (P : Program) (w : World) (K : PySem.W.Frag) (mg : Str → Option Value) (base : Heap) (k i : Nat) (W : WX) : TE := fun σ H Q => ∃ (f : Addr) (R : Hp → VK → XK → Prop), σ[i]? = some (some (.ref f)) ∧ ThunkN P w K mg base k f R ∧ R H Q (fun cls d H' => W cls d σ H')
theorem pe_actW {X : Cx} {W : WX} {k i : Nat} {a : Str} {p1 p2 : Pos} (tk : L2N.Takes X W) (hr : Room k X.A)
    (hN : X.N[i]? = some a) (hv : Vis X.env.scope a) (hd : (a == ("__debug__" : Str)) = false := by decide) (hcd : (a == ("__classdict__" : Str)) = false := by decide) :
    PE X (.Call (.Name a p1) [] [] p2) (tActW X.prog X.w X.K X.mg X.base k i W) := by
  constructor
  rintro pins s σ H Q I ⟨f, R, at_, T, hR⟩
  have var := (pe_var (pos := p1) (i := i) hN hv hd hcd).run pins s σ H (fun v H1 => v = .ref f ∧ H1 = H) I ⟨.ref f, at_, rfl, rfl⟩
  apply wpAny_Call_Name_kw
  apply thn var
  rintro u s1 ⟨_, _, I1, rel, rfl, rfl⟩
  have eu : u = Value.ref f := rel
  rw [eu]
  obtain ⟨⟨fd, hf⟩, rc⟩ := T X.A X.stack s1 _ Q (fun cls d H' => W cls d σ H') hr I1.env0 hR
  apply PySem.W.callWith_F0 ⟨_, _, _, _, hf⟩
  apply wpAny_call
  apply codeAny_mono rc
  rintro (e | fl) s' came
  · exact tk e s' (L2N.XE.of_call I1 (fun _ _ _ h => h) came)
  · match fl, came with
    | .ret u, came => exact I1.after came
theorem kActW {P : Program} {w : World} {K : PySem.W.Frag} {mg : Str → Option Value} {base : Heap} {X : Cx} {W : WX} {k i : Nat} {a : Str} {p1 p2 : Pos} (tk : L2N.Takes X W) (hr : Room k X.A)
    (hN : X.N[i]? = some a) (hv : Vis X.env.scope a) (hx : X.prog = P ∧ X.w = w ∧ X.K = K ∧ X.mg = mg ∧ X.base = base := by exact ⟨rfl, rfl, rfl, rfl, rfl⟩) (hd : (a == ("__debug__" : Str)) = false := by decide) (hcd : (a == ("__classdict__" : Str)) = false := by decide) :
    PE X (.Call (.Name a p1) [] [] p2) (tActW P w K mg base k i W) := by
  obtain ⟨h1, h2, h3, h4, h5⟩ := hx
  subst h1 h2 h3 h4 h5
  exact pe_actW tk hr hN hv hd hcd
/-- as Fun.ok, for a def that may raise, the error's context None -/
theorem Fun_okN {P : Program} {w : World} {K : PySem.W.Frag} {mg : Str → Option Value} {base : Heap} {x qual : Str} {st : Stmt} {f : Addr} {fd : FuncData} {N ps : List Str} {k : Nat} {sp : Sp} (F : Fun K x qual st f fd) (S : FnScope N ps (defScope st)) (len : ∀ vs H Q E, sp vs H Q E → vs.length = ps.length)
    (hbody : ∀ (cdv : Value) (A : Around) (outer : List Env) (s : Shared) (H : Hp) (vs : List V) (Q : VK) (E : XK), Room k (A.deeper (envOfC qual (defScope st) s.heap.objs.size f cdv)) → sp vs H Q E →
      ∃ t, PSs (cxOf (L2N.CX P w) P w K mg base N qual (defScope st) f cdv A outer s H E) (defBody st) t ∧ t { nx := fun _ H' => Q .non H', rt := Q } (L2.start N vs) H) : FnOk P w K mg base (L2N.CX P w) (k + 1) f fd ps sp := by
  obtain ⟨oc, od, kV, doc, pm, an, cdv, ct, osl, rfl, lk, hcd⟩ := F.ex
  exact fn_of lk hcd S len fun A outer s H vs Q E hr hsp => hbody cdv A outer s H vs Q E hr hsp
theorem passN {X : Cx} : Passes (L2N.CX X.prog X.w) X E0 := fun _ _ _ _ _ _ _ h => by
  obtain ⟨_, _, _, _, _, _, _, _, _, _, _, _, z⟩ := h
  exact z.elim
/-- where nothing is raised such a def is one that raises nothing -/
theorem fn_calm {P : Program} {w : World} {K : PySem.W.Frag} {mg : Str → Option Value} {base : Heap} {k : Nat} {f : Addr} {fd : FuncData} {ps : List Str} {sp sp' : Sp} (F : FnOk P w K mg base (L2N.CX P w) k f fd ps sp') (h : ∀ vs H Q E, sp vs H Q E → sp' vs H Q E0) : FnOk P w K mg base CX0 k f fd ps sp :=
  ⟨fun vs H Q E q => F.len vs H Q E0 (h _ _ _ _ q), fun A outer s H args us vs Q E hr he hb hv hs => codeAny_mono (F.run A outer s H args us vs Q E0 hr he hb hv (h _ _ _ _ hs)) fun r s' hc => by
    cases r with
    | error e =>
      obtain ⟨_, _, _, _, _, _, _, _, _, _, _, _, z⟩ := hc
      exact z.elim
    | ok fl => cases fl <;> exact hc⟩
theorem r_Kx {CX : CXT} {P : Program} {w : World} {K : PySem.W.Frag} {mg : Str → Option Value} {base : Heap} {N : List Str} {q : Str} {sc : Scope} {f : Addr} {cd : Value} {A : Around} {outer : List Env} {s : Shared} {H : Hp} {E : XK} : (cxOf CX P w K mg base N q sc f cd A outer s H E).K = K := rfl
theorem r_Kt {P : Program} {w : World} {K : PySem.W.Frag} {mg : Str → Option Value} {base : Heap} {N : List Str} {q : Str} {sc : Scope} {cl : List (Str × Addr)} {A : Around} {outer : List Env} {s : Shared} {H : Hp} {E : XK} {f c' : Addr} : (thCxN P w K mg base N q sc cl A outer s H E f c').K = K := rfl
theorem r_FN {sp : Sp} {E : XK} {t : TA} {σ : L2.St} {H : Hp} {Q : VK} : tFN sp E t σ H Q = t σ H fun vs H1 => sp vs H1 Q E := rfl
theorem r_WN {sp : Sp} {E : XK} {m : Nat} {ix : List Nat} {t : TA} {σ : L2.St} {H : Hp} {Q : VK} : tWN sp E m ix t σ H Q = t σ H fun zs H1 => zs.length = m ∧ sp (arr ix zs) H1 Q E := rfl
/-- a text among a list's texts -/
def rInS (K : PySem.W.Frag) : R2 := fun x y H Q => ∃ (p : Addr) (z : Str) (ns : List Str), x = .str z ∧ y = .ref p ∧ SqL K H p (ns.map V.str) ∧ Q (.bl (ns.any fun n => n == z)) H
theorem kInS {X : Cx} {K : PySem.W.Frag} (h : X.K = K := by rfl) : OpR X (compareOp .In) (rInS K) := by
  subst h
  refine OpR.imp op_in_seq fun x y H Q ⟨p, i, ns, e1, e2, hs, q⟩ => ?_
  subst e1 e2
  refine ⟨p, ns.map V.str, rfl, .inl hs, rfl, by simp [List.all_map, flatV], ?_⟩
  have : inV (.str i) (ns.map V.str) = ns.any fun n => n == i := by
    unfold inV
    rw [List.any_map]
    congr 1
  rw [this]
  exact q
/-! ### repr of a value of any kind -/
def RpT (K : PySem.W.Frag) (H : Hp) (v : V) (t : Str) : Prop :=
  (v = .non ∧ t = "None") ∨ (∃ b, v = .bl b ∧ t = (if b then ("True" : Str) else "False")) ∨ (∃ i : Int, v = .int i ∧ i.natAbs.log2 < 1920 ∧ t = (toString i : String)) ∨ (∃ x, v = .str x ∧ (reprText x).length ≤ sizeLine ∧ t = reprText x) ∨
  (∃ a d k c, v = .ref a ∧ Dp K H v d ∧ Gd d k c ∧ k ≤ 20 ∧ c ≤ 10000000 ∧ t = d.shown) ∨ (∃ a, v = .ref a ∧ H a = some (.dK []) ∧ t = "{}")
theorem RpT.ex {K : PySem.W.Frag} {H H' : Hp} {v : V} {t : Str} (h : RpT K H v t) (e : Ex H H') : RpT K H' v t := by
  rcases h with h | h | h | h | ⟨a, d, k, c, ev, hd, r⟩ | ⟨a, ev, h, r⟩
  · exact .inl h
  · exact .inr (.inl h)
  · exact .inr (.inr (.inl h))
  · exact .inr (.inr (.inr (.inl h)))
  · exact .inr (.inr (.inr (.inr (.inl ⟨a, d, k, c, ev, dp_kp e d v hd, r⟩))))
  · exact .inr (.inr (.inr (.inr (.inr ⟨a, ev, e _ _ h, r⟩))))
def rRpT (K : PySem.W.Frag) : List V → Hp → VK → Prop := fun vs H Q => ∃ v t, vs = [v] ∧ RpT K H v t ∧ Q (.str t) H
theorem cr_rpT {X : Cx} (hg : X.A.guards = some []) (hu : X.A.units + 64 < cLine) : CallR X (.builtin "repr") (rRpT X.K) := by
  intro pins s σ H xs us Q I r h
  obtain ⟨v, t, rfl, h, q⟩ := h
  have r0 := r
  cases r with
  | cons r1 r2 =>
    cases r2
    rcases h with ⟨rfl, rfl⟩ | ⟨b, rfl, rfl⟩ | ⟨i, rfl, hi, rfl⟩ | ⟨x, rfl, hx, rfl⟩ | ⟨a, d, k, c, rfl, hd, g, hk, hc, rfl⟩ | ⟨a, rfl, ha, rfl⟩
    · cases r1
      exact PySem.P.repr_of_none ⟨.str _, H, I.tok _, ⟨_, rfl⟩, q⟩
    · cases r1
      exact PySem.P.repr_of_bool ⟨.str _, H, I.tok _, ⟨_, rfl⟩, q⟩
    · obtain ⟨tk, rfl⟩ := r1
      exact PySem.P.repr_of_int hi ⟨.str _, H, I.tok _, ⟨_, rfl⟩, q⟩
    · obtain ⟨tk, rfl⟩ := r1
      exact PySem.P.repr_of_str ⟨.str _, H, I.tok _, ⟨_, rfl⟩, q⟩ hx
    · exact cr_reprG hg hu pins s σ H _ _ Q I r0 ⟨_, d, k, c, rfl, hd, ⟨a, rfl⟩, g, hk, hc, q⟩
    · cases r1
      obtain ⟨_, hsys, vs, kv, o, es, ep, e, x, dd, ko, prs, _⟩ := (show ObjOk X.prog X.w H s.heap a (.dK []) from I.hok a _ ha)
      cases kv
      have en : es.toList = [] := by
        cases q : es.toList with
        | nil => rfl
        | cons z r => rw [q] at prs; cases prs
      have rd : Reads s.heap (.ref a) (.dict []) (a :: [] ++ []) := .dict (kvs := []) e x.1 dd (by rw [en]; exact .nil) (by rw [en]; exact .nil)
      refine repr_of_reads' rd (by simp [PyData.showable, PyData.showableKv]) (fun _ z => ?_) hg (by show X.A.units + (PyData.depth (.dict []) + 1) < cLine; simp only [PyData.depth, PyData.depthKv]; omega) (fun _ _ e => e) (fun h' u tk hk => ⟨.str "{}", H, I.kept hk, ⟨u, rfl⟩, q⟩) (by decide +kernel)
      have z2 : sysModules = a := by simpa using z
      rw [z2] at hsys
      simp at hsys
theorem kRpT {X : Cx} {K : PySem.W.Frag} (hg : X.A.guards = some []) (hu : X.A.units + 64 < cLine) (h : X.K = K := by rfl) : CallR X (.builtin "repr") (rRpT K) := by
  subst h
  exact cr_rpT hg hu

/-! a tuple repeated, none and one included -/
/-- what a tuple taken no times or once comes to -/
def FewR (l : Addr) (k : Int) (s : Shared) (R : Result → Shared → Prop) : Prop :=
  if k = 1 then R (.ok (.ret (.ref l))) s else R (.ok (.ret (.ref s.heap.objs.size))) { s with heap := s.heap.push { cls := .type "tuple", data := .seq #[] } }
theorem few_mul (l : Addr) (o : Obj) (items : Array Value) (n : Nat) (ho : o.data = .seq items n) (hc : o.cls = .type "tuple") (hi : items.isEmpty = false) (k : Int) (u : Tok) (hk : k = 0 ∨ k = 1) :
    Meets (Builtin.«tuple.__mul__» ⟨[.ref l, .int k u], []⟩) (fun _ R s => s.heap.get? l = some o ∧ FewR l k s R) := by
  apply Meets.of_wp
  rintro prog w A R ⟨hp, g, d, tk, os⟩ ⟨at_, r⟩
  obtain ⟨_, _, _, _⟩ := o
  subst ho hc
  have num := AutoSeq1.idx_int
  have small : (decide (k < -(2 ^ 63)) || decide (k ≥ 2 ^ 63)) = false := by
    rcases hk with rfl | rfl <;> decide
  rcases hk with rfl | rfl
  · have once : (items.isEmpty || (0 : Int) == 1) = false := by rw [hi]; rfl
    have none_ : (decide ((0 : Int) ≤ 0) || items.isEmpty) = true := rfl
    wp_walk using wpAny_loadPart' at_, wpAny_ite_false (decide_eq_false (ne_of_eq_of_ne small Bool.false_ne_true)), wpAny_ite_false (decide_eq_false (ne_of_eq_of_ne once Bool.false_ne_true)), wpAny_ite_true (decide_eq_true none_)
    exact ⟨_, rfl, r⟩
  · have once : (items.isEmpty || (1 : Int) == 1) = true := by rw [hi]; rfl
    wp_walk using wpAny_loadPart' at_, wpAny_ite_false (decide_eq_false (ne_of_eq_of_ne small Bool.false_ne_true)), wpAny_ite_true (decide_eq_true once)
    exact ⟨_, rfl, r⟩
def rRepA (K : PySem.W.Frag) : R2 := fun x y H Q => ∃ l k xs, x = .ref l ∧ y = .int k ∧ H l = some (.tup xs) ∧ xs ≠ [] ∧ 0 ≤ k ∧ k ≤ 1000 ∧ xs.length ≤ 1000 ∧ ∀ p H', Ex H H' → SqT K H' p (List.replicate k.toNat xs).flatten → Q (.ref p) H'
theorem op_repA {X : Cx} {K : PySem.W.Frag} (hK : X.K = K := by rfl) : OpR X (binaryOp .Mult) (rRepA K) := by
  subst hK
  intro pins s σ H x y v u Q I rx ry h
  obtain ⟨l, k, xs, rfl, rfl, hl, hne, h0, h1, hz, q⟩ := h
  have hT : SqT X.K H l xs := .of hl
  by_cases k2 : 2 ≤ k
  · exact op_repT pins s σ H _ _ v u Q I rx ry ⟨l, k, xs, rfl, rfl, hT, hne, k2, h1, hz, fun p hp => q p _ (Ex.new hp) (.of upd_same)⟩
  cases rx
  obtain ⟨t, rfl⟩ := ry
  obtain ⟨its, r, ⟨o, ho, hc, n, hd⟩, _⟩ := I.tuple hT
  have some_ : its.toArray.isEmpty = false := by
    cases its with
    | nil => exact absurd (List.eq_nil_of_length_eq_zero r.length) hne
    | cons a b => rfl
  have hk : k = 0 ∨ k = 1 := by omega
  have isT : s.TypeIs (.ref l) "tuple" := ⟨o, ho, hc⟩
  -- both ways round lead to tuple.__mul__
  have run : ∀ Q' : Value → Shared → Prop, FewR l k s (fun r s' => match r with | .ok (.ret v) => Q' v s' | _ => False) → wpAny (model X.prog X.w) X.A (binaryOp .Mult (.ref l) (.int k t)) Q' X.xe s := fun Q' few => by
    obtain ⟨cls, dd, data, sl⟩ := o
    simp only at hc hd
    subst hc hd
    refine wpAny_binaryOp_repeat_ref (T := "tuple") (U := "int") (by decide) isT (fun s' => typeIs_int s' k t) noFill_tuple_mul F.fills_int_mul F.slot_int_rmul repeat_tuple F.slot_int_index.lookup (call_meets F.slot_int_rmul (typeIs_int s k t) F.entry_int_rmul (F.args_int_rmul_2 _ _) (int_rmul_tuple k t l its.toArray n dd sl) ⟨ho, rfl, isT, call_meets F.slot_tuple_mul isT F.entry_tuple_mul (F.args_tuple_mul_2 _ _) (few_mul l _ its.toArray n rfl rfl some_ k t hk) ⟨ho, ?_⟩⟩)
    unfold FewR at few ⊢
    split at few
    · rename_i k1
      rw [if_pos k1]
      exact few
    · rename_i k1
      rw [if_neg k1]
      exact few
  refine run _ ?_
  unfold FewR
  rcases hk with rfl | rfl
  · rw [if_neg (by decide)]
    refine ⟨.ref s.heap.objs.size, _, I.laid (t' := s.toks) (o := .tup []) (fun b ob q => Heap.get?_push_of_some _ q) (Nat.le_refl _) ⟨Nat.zero_le _, [], .nil, IsTup.new _ _⟩, rfl, q _ _ (Ex.new (I.hok.fresh (Nat.le_refl _))) (.of upd_same)⟩
  · rw [if_pos rfl]
    refine ⟨.ref l, H, I, rfl, q l H (Ex.refl _) ?_⟩
    rw [show (List.replicate (1 : Int).toNat xs).flatten = xs from by show (List.replicate 1 xs).flatten = xs; simp]
    exact hT

/-! texts whose points are points -/
theorem strOk_iff {x : Str} : PyData.strOk x = true ↔ ∀ c ∈ x.cps, c < 0x110000 := by
  unfold PyData.strOk
  rw [Array.all_eq_true_iff_forall_mem]
  exact ⟨fun h c hc => of_decide_eq_true (h c hc), fun h c hc => decide_eq_true (h c hc)⟩
theorem strOk_of (s : String) : PyData.strOk (PySem.Str.ofString s) = true := by
  rw [strOk_iff, PySem.Str.ofString_eq_toList]
  intro c hc
  simp only [List.mem_toArray, List.mem_map] at hc
  obtain ⟨a, _, rfl⟩ := hc
  have h := a.valid
  rcases h with h | h
  · have : a.toNat < 0xd800 := h
    omega
  · exact h.2
theorem strOk_app {a b : Str} (ha : PyData.strOk a = true) (hb : PyData.strOk b = true) : PyData.strOk (a ++ b) = true := by
  rw [strOk_iff] at ha hb ⊢
  intro c hc
  have hc : c ∈ a.cps ++ b.cps := hc
  rcases Array.mem_append.mp hc with h | h
  · exact ha c h
  · exact hb c h
theorem strOk_join {sep : Str} (hs : PyData.strOk sep = true) : ∀ {ts : List Str}, (∀ t ∈ ts, PyData.strOk t = true) → PyData.strOk (Str.join sep ts) = true
  | [], _ => by
    rw [strOk_iff]
    intro c hc
    have hc : c ∈ (#[] : Array Nat) := hc
    simp at hc
  | [t], h => h t List.mem_cons_self
  | t :: u :: ts, h => by
    show PyData.strOk (t ++ sep ++ Str.join sep (u :: ts)) = true
    exact strOk_app (strOk_app (h t List.mem_cons_self) hs) (strOk_join hs fun x hx => h x (List.mem_cons_of_mem _ hx))
theorem strOk_tuple {ts : List Str} (h : ∀ t ∈ ts, PyData.strOk t = true) : PyData.strOk (tupleText ts) = true :=
  strOk_app (strOk_app (strOk_of "(") (strOk_join (strOk_of ", ") h)) (strOk_of _)
theorem strOk_shownInts {cs : List Int} : PyData.strOk (PyData.tuple (cs.map PyData.int)).shown = true := by
  show PyData.strOk (tupleText (PyData.shownAll (cs.map PyData.int))) = true
  refine strOk_tuple fun t ht => ?_
  induction cs with
  | nil => cases ht
  | cons c cs ih =>
    rcases List.mem_cons.mp ht with rfl | ht
    · exact strOk_of _
    · exact ih ht
/-- a lambda kept, a list made of it, another kept and set behind it -/
theorem two_lams {G1 G2 G3 : Hp} {f1 f2 pA : Addr} {o1 o2 oL : HO} {xs : List V} (nf1 : G1 f1 = none) (n2 : (upd G1 f1 o1) pA = none) (e2 : Ex (upd G1 f1 o1) G2) (t2 : G2 pA = some (.lst xs)) (en3 : ExN G2 G3) (nf2 : G3 f2 = none) :
    ExN (upd G1 f1 o1) (upd (upd G3 f2 o2) pA oL) ∧ ExN G1 (upd (upd G3 f2 o2) pA oL) ∧ (upd (upd G3 f2 o2) pA oL) pA = some oL ∧ (upd (upd G3 f2 o2) pA oL) f2 = some o2 ∧ Kp G3 (upd (upd G3 f2 o2) pA oL) := by
  have h3 : G3 pA = some (.lst xs) := en3 _ _ t2 (fun _ z => nomatch z)
  have n : f2 ≠ pA := fun z => by rw [z, h3] at nf2; cases nf2
  have k3 : Kp G3 (upd (upd G3 f2 o2) pA oL) := fun a o h m => by
    rw [upd_ne (fun z => m xs (by rw [z, h3] at h; exact (Option.some.inj h).symm)), upd_ne (ne_of_none h nf2)]
    exact h
  have eB : ExN (upd G1 f1 o1) (upd (upd G3 f2 o2) pA oL) := fun a o h m => by
    have h3 := en3 _ _ (e2 _ _ h) m
    rw [upd_ne (ne_of_none h n2), upd_ne (ne_of_none h3 nf2)]
    exact h3
  exact ⟨eB, (Ex.new nf1).n.trans eB, upd_same, by rw [upd_ne n]; exact upd_same, k3⟩
theorem codeO_lst {c : Addr} {q : Str} : ∀ xs, LamX.CodeO c q ≠ .lst xs := fun _ z => by unfold LamX.CodeO at z; cases z

/-! an error without a context is an error -/
theorem fn_weak {P : Program} {w : World} {K : PySem.W.Frag} {mg : Str → Option Value} {base : Heap} {k : Nat} {f : Addr} {fd : FuncData} {ps : List Str} {sp : Sp} (F : FnOk P w K mg base (L2N.CX P w) k f fd ps sp) : FnOk P w K mg base (L2.CX P w) k f fd ps sp :=
  ⟨F.len, fun A outer s H args us vs Q E hr he hb hv hs => codeAny_mono (F.run A outer s H args us vs Q E hr he hb hv hs) fun r s' hc => by
    cases r with
    | error e =>
      obtain ⟨a, B, H', cls, d, h1, h2, h3⟩ := hc
      refine ⟨a, B, H', cls, d, h1, ?_, h3⟩
      obtain ⟨z1, z2, z3, z4⟩ := h2
      refine ⟨z1, z2, z3, ?_⟩
      obtain ⟨oe, vs, T, oT, ts, g1, g2, g3⟩ := z4
      exact ⟨oe, vs, T, oT, ts, g1, g2.zc, g3⟩
    | ok fl => cases fl <;> exact hc⟩

/-! a, *b = a tuple -/
section
variable {prog : Program} {w : World} {A : Around} {E : Value → Shared → Prop} {s : Shared} {t it : Addr} {items : Array Value}
/-- a tuple's iterator behind its first item -/
theorem walk_behind (calm : A.handled = none) (ne : t ≠ it) : WalksS prog w A.in1 it [it, t] [it] (· = ·) (items.size - 1) (fun i v => items[i + 1]? = some v) (fun i z => IsTupIter z.heap it t (i + 1) ∧ IsTup z.heap t items) where
  sub := by simp
  grefl := fun _ => rfl
  gtrans := fun _ _ _ a b => a.trans b
  frame := fun i z G tk ⟨a, b⟩ _ keep => by
    obtain ⟨o, g, r⟩ := a
    obtain ⟨o2, g2, r2⟩ := b
    exact ⟨⟨o, keep it (by simp) o g, r⟩, ⟨o2, keep t (by simp) o2 g2, r2⟩⟩
  item := fun i z Q E lt ⟨a, b⟩ q => by
    have there : items[i + 1]? = some (items[i + 1]'(by omega)) := Array.getElem?_eq_getElem (by omega)
    exact next_tuple_item a b there fun G a2 same => q _ { z with heap := G } there ⟨a2, b.extBut same.extBut ne⟩ ⟨fun c o nc g => (same.2 c (fun e => nc (by simp [e]))).trans g, rfl, rfl, rfl, Nat.le_refl _⟩
  done := fun z Q E ⟨a, b⟩ q => next_tuple_end calm a b (by rw [Array.getElem?_eq_none]; omega) fun G same => q { z with heap := G } ⟨fun c o nc g => same c o (fun e => nc (by simp [e])) g, rfl, rfl, rfl, Nat.le_refl _⟩
  self := fun i z Q E ⟨a, _⟩ q => wpAny_pyIter_tupleiter (t := t) (i := i + 1) a q
theorem unpack_star {Q : List Value → Shared → Prop} (calm : A.handled = none) (isT : IsTup s.heap t items) (one : 1 ≤ items.size) (few : items.size ≤ sizeLine)
    (q : ∀ G p tk, (∀ b o, s.heap.get? b = some o → G.get? b = some o) → s.heap.get? p = none → G.get? p = some { cls := .type "list", data := .seq (items.toList.drop 1).toArray } → Q [items[0], .ref p] { s with heap := G, toks := tk }) :
    wpAny (model prog w) A (unpackItems (.ref t) 2 (some 1)) Q E s := by
  obtain ⟨at_, hat⟩ : ∃ it, it = s.heap.objs.size := ⟨_, rfl⟩
  have lt : t < at_ := by
    obtain ⟨o, g, _⟩ := isT
    rw [hat]
    exact Heap.lt_size g
  have ne : t ≠ at_ := Nat.ne_of_lt lt
  unfold unpackItems notIterableAtAll
  refine wpAny_bind (wpAny_bind (wpAny_specialOf isT.typeIs slot_tuple_iter.lookup (wpAny_pure ?_)))
  simp only [Bool.false_eq_true, if_false]
  refine wpAny_bind (wpAny_holding (iter_tuple isT (wpAny_bind (wpAny_holding (draw_tuple (it := s.heap.objs.size) (by rw [← hat]; exact ne) 1 0 _ _ ⟨_, Heap.get?_push_size _ rfl, rfl, rfl⟩ (isT.push _) (by omega) fun G1 a1 same1 => ?_)))))
  rw [← hat] at a1 same1 ⊢
  have keep1 : ∀ b o, s.heap.get? b = some o → G1.get? b = some o := fun b o g => (same1.2 b (by rw [hat]; exact Nat.ne_of_lt (Heap.lt_size g))).trans (Heap.get?_push_of_some _ g)
  have isT1 : IsTup G1 t items := isT.keeps keep1
  have first : List.take 1 (List.drop 0 items.toList) = [items[0]] := by
    cases h : items.toList with
    | nil => simp at h; simp [h] at one
    | cons x r =>
      have e : items[0] = items.toList[0]'(by rw [h]; simp) := by simp
      rw [e]
      simp [h]
  rw [first]
  show wpAny _ _ (if (1 : Nat) < 1 then _ else _) _ _ _
  rw [if_neg (by decide)]
  have big : t < G1.objs.size ∧ at_ < G1.objs.size := by
    obtain ⟨o, g, _⟩ := isT1
    obtain ⟨o2, g2, _⟩ := a1
    exact ⟨Heap.lt_size g, Heap.lt_size g2⟩
  refine wpAny_bind (wpAny_holding (wpAny_collect_iter (T := "tuple_iterator") (by simp) (walk_behind calm ne) (fun i z h => h.1.typeIs) ⟨a1, isT1⟩ (fun b hb => by
    simp only [List.mem_cons, List.not_mem_nil, or_false] at hb
    rcases hb with rfl | rfl
    · exact big.2
    · exact big.1) (by simp) (fun z acc mv its => ?_) (by omega)))
  have eacc : acc.toList = items.toList.drop 1 := by
    obtain ⟨n, each⟩ := its
    apply List.ext_getElem?
    intro i
    rw [List.getElem?_drop, Nat.add_comm 1 i]
    by_cases hi : i < acc.size
    · have e := each i acc[i] (Array.getElem?_eq_getElem hi)
      simp only [Array.getElem?_toList]
      rw [e, Array.getElem?_eq_getElem hi]
    · simp only [Array.getElem?_toList]
      rw [Array.getElem?_eq_none (by omega), Array.getElem?_eq_none (by omega)]
  rw [eacc]
  show wpAny _ _ (if _ < (2 - 1 - 1 : Nat) then _ else _) _ _ _
  rw [if_neg (by omega)]
  have all_ : (items.toList.drop 1).take ((items.toList.drop 1).length - (2 - 1 - 1)) = items.toList.drop 1 := List.take_of_length_le (by omega)
  have none_ : (items.toList.drop 1).drop ((items.toList.drop 1).length - (2 - 1 - 1)) = [] := List.drop_of_length_le (by omega)
  simp only [all_, none_]
  refine wpAny_bind (m := newList _) (wpAny_newObj_type ?_ (by show (items.toList.drop 1).toArray.size ≤ sizeLine; simp; omega))
  refine wpAny_pure ?_
  obtain ⟨zh, zg, zd, zt, zo⟩ := z
  obtain ⟨mh, mg, md, mo, mt⟩ := mv
  have eg : zg = s.gens := mg.symm
  have ed : zd = s.drawn := md
  have eo : zo = s.os := mo
  subst eg ed eo
  have keep2 : ∀ b o, s.heap.get? b = some o → zh.get? b = some o := fun b o g => mh b o (by
    rw [List.mem_singleton, hat]
    exact Nat.ne_of_lt (Heap.lt_size g)) (keep1 b o g)
  refine q _ zh.objs.size zt (fun b o g => Heap.get?_push_of_some _ (keep2 b o g)) ?_ (Heap.get?_push_size _ rfl)
  cases g : s.heap.get? zh.objs.size with
  | none => rfl
  | some o => exact absurd (Heap.lt_size (keep2 _ _ g)) (Nat.lt_irrefl _)
end
/-- the first item, a new list of the others -/
def gStar1 (K : PySem.W.Frag) (t : TGs) : TG := fun v σ H Q => ∃ a x r, v = .ref a ∧ SqT K H a (x :: r) ∧ ∀ p, H p = none → t [x, .ref p] σ (upd H p (.lst r)) Q
theorem pg_star1 {X : Cx} {a b : Expr} {t : TGs} {k : Nat} {p1 pos : Pos} (hc : X.calm = true) (h : PGs X [a, b] t) (one : assignEach [a, .Starred b p1] X.env = [(false, assign a X.env), (true, assign b X.env)] := by rfl)
    (two : (assignEach [a, b] X.env).map (·.2) = [assign a X.env, assign b X.env] := by rfl) : PG X (.Tuple [a, .Starred b p1] k pos) (gStar1 X.K t) := by
  refine ⟨fun pins s σ H v u Q I r hw => ?_⟩
  obtain ⟨q, x, xs, e1, hq, hw⟩ := hw
  subst e1
  cases r
  obtain ⟨its, rv, isT, few⟩ := I.tuple hq
  have many := rv.length
  rw [PyProof.Rows.assign_Tuple, one]
  refine wpAny_bind (wpAny_standAt ?_)
  unfold unpack
  refine wpAny_bind (wpAny_holding ?_)
  show wpAny _ _ (unpackItems (.ref q) 2 (some 1)) _ _ s
  cases rv with
  | cons r1 r2 =>
    rename_i u0 us
    refine unpack_star (I.ok.hd hc) isT (by simp) (by have : (u0 :: us).toArray.size = (u0 :: us).length := by simp
                                                      omega) fun G p tk keep fresh new => ?_
    have free : H p = none := I.hok.gone fresh
    have J : Inv X pins σ (upd H p (.lst xs)) { s with heap := G, toks := tk } := I.laidN (t' := tk) keep fresh free ⟨by simp at few; omega, us, 0, r2, new⟩
    have run := h.run pins _ σ _ [x, .ref p] [u0, .ref p] Q J (.cons r1 (.cons rfl .nil)) (hw p free)
    rw [two] at run
    exact run

/-! any of a list of bools; a number or a text among a tuple's -/
theorem kAny {X : Cx} {K : PySem.W.Frag} (hc : X.calm = true) (h : X.K = K := by rfl) : CallR X (.builtin "any") (rAny K) := by
  subst h
  exact cr_any hc
def rInIT (K : PySem.W.Frag) : R2 := fun x y H Q => ∃ (p : Addr) (i : Int) (ns : List Int), x = .int i ∧ y = .ref p ∧ SqT K H p (ns.map V.int) ∧ Q (.bl (ns.any fun n => n == i)) H
theorem kInT {X : Cx} {K : PySem.W.Frag} (h : X.K = K := by rfl) : OpR X (compareOp .In) (rInIT K) := by
  subst h
  refine OpR.imp op_in_seq fun x y H Q ⟨p, i, ns, e1, e2, hs, q⟩ => ?_
  subst e1 e2
  exact ⟨p, ns.map V.int, rfl, .inr hs, rfl, by simp [List.all_map, flatV], by rw [show inV (.int i) (ns.map V.int) = ns.any fun n => n == i by (unfold inV; rw [List.any_map]; congr 1)]; exact q⟩
def rInST (K : PySem.W.Frag) : R2 := fun x y H Q => ∃ (p : Addr) (z : Str) (ns : List Str), x = .str z ∧ y = .ref p ∧ SqT K H p (ns.map V.str) ∧ Q (.bl (ns.any fun n => n == z)) H
theorem kInST {X : Cx} {K : PySem.W.Frag} (h : X.K = K := by rfl) : OpR X (compareOp .In) (rInST K) := by
  subst h
  refine OpR.imp op_in_seq fun x y H Q ⟨p, i, ns, e1, e2, hs, q⟩ => ?_
  subst e1 e2
  exact ⟨p, ns.map V.str, rfl, .inr hs, rfl, by simp [List.all_map, flatV], by rw [show inV (.str i) (ns.map V.str) = ns.any fun n => n == i by (unfold inV; rw [List.any_map]; congr 1)]; exact q⟩

local macro_rules | `(tactic| walk_at "rd") => `(tactic| try simp only [r_seq, r_asg, r_name, r_ifS, r_next, r_ret, r_retN, r_drop, r_test, r_B, r_if, r_cons, r_nil, r_cb, r_tF, r_part, r_nopart, r_sl, r_par, r_chain, r_or, r_and, r_not, r_orV, r_andV, r_notV, r_op, r_un, r_var, r_c, r_yes, r_I0, r_I, r_U, r_eqI, r_neI, r_eqS, r_neS, r_lst, r_tup, r_for, r_lc, r_list, r_tupI, r_rng1, r_rng2, r_enumT, r_bm, r_fld, r_subT, r_gtup, r_gcons, r_gnil, r_K0, r_K, r_Kb, wipe, r_never, r_len, r_sfld,
  L2.start, List.map_cons, List.map_nil, List.length_cons, List.length_nil, Nat.reduceAdd, Nat.reduceSub, List.reduceReplicate, List.cons_append, List.nil_append, List.set_cons_zero, List.set_cons_succ, List.getElem?_cons_zero, List.getElem?_cons_succ, Option.some.injEq, exists_eq_left', exists_eq_left, exists_eq_right, exists_eq_right', V.int.injEq, V.ref.injEq, V.bl.injEq, V.str.injEq, List.cons.injEq, and_true, true_and, and_false, false_and, or_false, false_or, exists_false, exists_const, and_assoc, reduceCtorEq, if_true, if_false, Bool.false_eq_true, Bool.not_true, Bool.not_false, Bool.not_eq_true', decide_eq_true_eq, decide_eq_false_iff_not, exists_and_left, exists_and_right, exists_eq_or_imp])
section
variable {P : Program} {w : World} {K : PySem.W.Frag} {mg : Str → Option Value} {base : Heap}
def top (i : Nat) : Stmt := PySem.Challenge.pw_drawnmore_k41_mends_by_hand.main.body.getD i (.Pass ⟨0, 0, 0, 0⟩)
/-- the built-in names that the text does not bind -/
structure Bi (mg : Str → Option Value) : Prop where
  len : mg "len" = none
  abs : mg "abs" = none
  max : mg "max" = none
  min : mg "min" = none
  sum : mg "sum" = none
  range : mg "range" = none
  tuple : mg "tuple" = none
  int : mg "int" = none
  divmod : mg "divmod" = none
  all : mg "all" = none
  repr : mg "repr" = none
  isinstance : mg "isinstance" = none
  enumerate : mg "enumerate" = none
  bool : mg "bool" = none
  zip : mg "zip" = none
  str : mg "str" = none
  list : mg "list" = none
theorem Has.of {x : Str} {st : Stmt} {ps : List Str} {k : Nat} {sp : Sp} (D : Df K mg x st ps)
    (h : ∀ f fd, Fun K x x st f fd → FnOk P w K mg base CX0 k f fd ps sp) : Has P w K mg base x k ps sp := by
  obtain ⟨f, fd, F, hm, hb⟩ := D
  exact ⟨f, fd, h f fd F, hm, F.kp, hb⟩
theorem HasG.of {x : Str} {st : Stmt} {ps : List Str} {k : Nat} {sp : Sp} (D : Df K mg x st ps)
    (h : ∀ f fd, Fun K x x st f fd → FnG P w K mg base k f fd ps sp) : HasG P w K mg base x k ps sp := by
  obtain ⟨f, fd, F, hm, hb⟩ := D
  exact ⟨f, fd, h f fd F, hm, F.kp, hb⟩

def spVat (K : PySem.W.Frag) : Sp := fun vs H Q _ => ∃ (a : Addr) (ns : List Int) (i : Int), vs = [.ref a, .int i] ∧ SqL K H a (ns.map V.int) ∧ ns.length ≤ 63 ∧ 0 ≤ i ∧ i < 100 ∧
  ∀ v H', H v = none → Ex H H' → VatAt H' v → Q (.ref v) H'
def spDip : Sp := fun vs H Q _ => ∃ (v : Addr) (m : Int), vs = [.ref v, .int m] ∧ VatAt H v ∧ 0 < m ∧ m.natAbs.log2 < 9000 ∧
  ∀ r H', Gv v H H' → 0 ≤ r → r < m → Q (.int r) H'
def spShared : Sp := fun vs H Q _ => ∃ a b : Int, vs = [.int a, .int b] ∧ Q (.int (Int.gcd a b : Nat)) H
def shM : L2.St → Nat
  | [_, some (.int y)] => y.toNat
  | _ => 0
/-- x tells the fraction r -/
def IsFr (K : PySem.W.Frag) (H : Hp) (x : V) (r : Rat) : Prop := ∃ p, x = .ref p ∧ SqT K H p (fr r)
theorem IsFr.kp {H H' : Hp} {x : V} {r : Rat} (h : IsFr K H x r) (e : Kp H H') : IsFr K H' x r := by
  obtain ⟨p, rfl, h⟩ := h
  exact ⟨p, rfl, sqT_kp h e⟩
theorem IsFr.dp {H : Hp} {x : V} {r : Rat} (h : IsFr K H x r) : Dp K H x (frD r) := by
  obtain ⟨p, rfl, h⟩ := h
  exact .tup h (.cons (.int _) (.cons (.int _) .nil))
def spPart (K : PySem.W.Frag) : Sp := fun vs H Q _ => ∃ t b : Int, vs = [.int t, .int b] ∧ 0 < b ∧ b.natAbs < 2 ^ 8990 ∧
  ∀ x H', Ex H H' → IsFr K H' x ((t : Rat) / (b : Rat)) → Q x H'
theorem log_lt {n : Nat} (h : n < 2 ^ 8990) : n.log2 < 9000 := Nat.lt_of_lt_of_le (PySem.Flt.log2_lt_of (k := 8990) (by decide) h) (show 8990 ≤ 9000 by decide)
theorem gcd_small {b t : Int} (hb : 0 < b) (h : b.natAbs < 2 ^ 8990) : 0 < ((Int.gcd b t : Nat) : Int) ∧ (((Int.gcd b t : Nat) : Int)).natAbs < 2 ^ 8990 := by
  have h1 : 0 < Int.gcd b t := Int.gcd_pos_of_ne_zero_left _ (by omega)
  have h2 : Int.gcd b t ≤ b.natAbs := Nat.le_of_dvd (by omega) (Nat.gcd_dvd_left _ _)
  have h3 : (((Int.gcd b t : Nat) : Int)).natAbs = Int.gcd b t := Int.natAbs_natCast _
  constructor
  · omega
  · omega
def IsInts (K : PySem.W.Frag) (H : Hp) (x : V) (cs : List Int) : Prop := ∃ p, x = .ref p ∧ SqT K H p (cs.map V.int)
theorem IsInts.kp {H H' : Hp} {x : V} {cs : List Int} (h : IsInts K H x cs) (e : Kp H H') : IsInts K H' x cs := by
  obtain ⟨p, rfl, h⟩ := h
  exact ⟨p, rfl, sqT_kp h e⟩
def intsD (cs : List Int) : PyData := .tuple (cs.map PyData.int)
theorem IsInts.dp {H : Hp} {x : V} {cs : List Int} (h : IsInts K H x cs) : Dp K H x (intsD cs) := by
  obtain ⟨p, rfl, h⟩ := h
  exact .tup h (dp_ints cs)
/-- a list of ints, told item by item -/
theorem ints_of {ys : List V} {n : Nat} {f : Nat → Int} (hl : ys.length = n) (h : ∀ (i : Nat) y, ys[i]? = some y → y = .int (f i)) : ys = ((List.range n).map f).map V.int := by
  apply List.ext_getElem?
  intro i
  by_cases hi : i < ys.length
  · have hy := List.getElem?_eq_getElem hi
    rw [hy, h i _ hy]
    simp [← hl, hi]
  · rw [List.getElem?_eq_none (by omega), List.getElem?_eq_none (by simp; omega)]
theorem ints_of_map {ys : List V} {cs : List Int} {f : Int → Int} (hl : ys.length = cs.length) (h : ∀ (i : Nat) y, ys[i]? = some y → ∃ c, cs[i]? = some c ∧ y = .int (f c)) : ys = (cs.map f).map V.int := by
  apply List.ext_getElem?
  intro i
  by_cases hi : i < ys.length
  · have hy := List.getElem?_eq_getElem hi
    obtain ⟨c, hc, e⟩ := h i _ hy
    rw [hy, e, List.getElem?_map, List.getElem?_map, hc]
    rfl
  · rw [List.getElem?_eq_none (by omega), List.getElem?_eq_none (by simp; omega)]
theorem map_int_get {cs : List Int} {i : Nat} {x : V} (h : (cs.map V.int)[i]? = some x) : ∃ c, cs[i]? = some c ∧ x = .int c := by
  rw [List.getElem?_map] at h
  cases e : cs[i]? with
  | none => rw [e] at h; cases h
  | some c => rw [e] at h; exact ⟨c, rfl, (Option.some.inj h).symm⟩
def spPlain (K : PySem.W.Frag) : Sp := fun vs H Q _ => ∃ (p : Addr) (cs : List Int), vs = [.ref p] ∧ (SqT K H p (cs.map V.int) ∨ SqL K H p (cs.map V.int)) ∧ cs.length ≤ 1000 ∧ 0 < gcdL cs ∧ gcdL cs < 2 ^ 8990 ∧
  ∀ x H', Ex H H' → IsInts K H' x (plainL cs) → Q x H'
def CountsOk (cs : List Int) : Prop := 2 ≤ cs.length ∧ cs.length ≤ 6 ∧ (∀ c ∈ cs, 0 ≤ c ∧ c ≤ 10 ^ 30) ∧ 0 < cs.sum
theorem sum_ones : ∀ n : Nat, (List.replicate n (1 : Int)).sum = (n : Int)
  | 0 => rfl
  | n + 1 => by
    rw [List.replicate_succ, List.sum_cons, sum_ones n]
    omega
theorem VatAt.ne {H : Hp} {v p : Addr} (h : VatAt H v) (n : H p = none) : p ≠ v := by
  obtain ⟨a, b, c, e, _⟩ := h
  intro z
  rw [z, e] at n
  cases n
theorem Gv.free {v p : Addr} {H H' : Hp} (g : Gv v H H') (h : p ≠ v) (n : H' p = none) : H p = none := by
  cases q : H p with
  | none => rfl
  | some o =>
    rw [g.keep p o h q] at n
    cases n
theorem Gv.upd {v p : Addr} {H H' : Hp} {o : HO} (g : Gv v H H') (n : H p = none) (h : p ≠ v) : Gv v H (L2.upd H' p o) := by
  refine ⟨g.old, fun a u ha e => ?_, ?_⟩
  · rw [upd_ne (ne_of_none e n)]
    exact g.keep a u ha e
  · obtain ⟨a, b, c, e, r⟩ := g.new
    exact ⟨a, b, c, by rw [upd_ne (Ne.symm h)]; exact e, r⟩
def spCounts (K : PySem.W.Frag) : Sp := fun vs H Q _ => ∃ (v : Addr) (i : Int), vs = [.ref v, .int i] ∧ VatAt H v ∧
  ∀ x H' cs, Gv v H H' → IsInts K H' x cs → CountsOk cs → Q x H'
end

section
variable {P : Program} {w : World} {K : PySem.W.Frag} {mg : Str → Option Value} {base : Heap}
/-! ### is_whole, _check_counts -/
def spWhole : Sp := fun vs H Q _ => ∃ i : Int, vs = [.int i] ∧ Q (.bl true) H
theorem scWhole : FnScope ["value"] ["value"] (defScope (top 12)) := ⟨rfl, rfl, rfl, by decide +kernel, rfl, by decide +kernel, by decide +kernel⟩
theorem has_whole (B : Bi mg) (D : Df K mg "is_whole" (top 12) ["value"]) : Has P w K mg base "is_whole" 1 ["value"] spWhole := by
  have sc := scWhole
  refine .of D fun f fd F => F.ok sc (fun vs H Q E h => ?_) (fun cdv A outer s H vs Q E hr h => ?_)
  · obtain ⟨i, rfl, _⟩ := h
    rfl
  · obtain ⟨i, rfl, k⟩ := h
    refine ⟨_, (pss_one (ps_ret (pe_and (pe_callB (kIsi (K := K)) (by rfl) B.isinstance (by decide +kernel) (pa_cons (pv 0) (pa_cons (pe_bltn (v := .ty "int") (by rfl) B.int (by decide +kernel) rfl) pa_nil))) (pe_one (pe_not (pe_callB (kIsi (K := K)) (by rfl) B.isinstance (by decide +kernel) (pa_cons (pv 0) (pa_cons (pe_bltn (v := .ty "bool") (by rfl) B.bool (by decide +kernel) rfl) pa_nil)))))))), ?_⟩
    walk_at "rd"
    refine ⟨_, _, _, _, true, rfl, .ty "int", .base (.int i), kit_ty (by decide +kernel), ?_⟩
    walk_at "rd"
    refine ⟨_, _, _, _, false, rfl, .ty "bool", .base (.int i), kit_ty (by decide +kernel), ?_⟩
    walk_at "rd"
    exact k
theorem ty_tup {H : Hp} {a : Addr} {xs : List V} (h : SqT K H a xs) : TyX K H (.ref a) (.type "tuple") := by
  rcases h with (h | ⟨o, h⟩) | ⟨o, its, n, h, c, _⟩
  · exact .base (.tup h)
  · exact .fTuple h
  · exact .kTuple h c
/-- counts of a row -/
def RowOk (cs : List Int) : Prop := 2 ≤ cs.length ∧ cs.length ≤ 6 ∧ (∀ c ∈ cs, 0 ≤ c) ∧ 0 < gcdL cs ∧ gcdL cs < 2 ^ 8990
def spCheck (K : PySem.W.Frag) : Sp := fun vs H Q _ => ∃ (q : Addr) (cs : List Int), vs = [.ref q] ∧ SqT K H q (cs.map V.int) ∧ RowOk cs ∧ ∀ H', Ex H H' → Q .non H'
theorem scCheck : FnScope ["counts", "yes", "count"] ["counts"] (defScope (top 23)) := ⟨rfl, rfl, rfl, by decide +kernel, rfl, by decide +kernel, by decide +kernel⟩
theorem has_check {t : Tok} (B : Bi mg) (c_MOST_DRAWS : mg "MOST_DRAWS" = some (.int 5 t)) (his_whole : Has P w K mg base "is_whole" 1 ["value"] spWhole) (D : Df K mg "_check_counts" (top 23) ["counts"]) : Has P w K mg base "_check_counts" 2 ["counts"] (spCheck K) := by
  have sc := scCheck
  refine .of D fun f fd F => F.ok sc (fun vs H Q E h => ?_) (fun cdv A outer s H vs Q E hr h => ?_)
  · obtain ⟨q, cs, rfl, _⟩ := h
    rfl
  · obtain ⟨q, cs, rfl, hS, ⟨l0, l1, pos, g0, g1⟩, k⟩ := h
    refine ⟨_, (pss_cons (ps_if (PW.pt (pw_or (pt_not (pt_val (pe_callB (kIsi (K := K)) (by rfl) B.isinstance (by decide +kernel) (pa_cons (pv 0) (pa_cons (pe_bltn (v := .ty "tuple") (by rfl) B.tuple (by decide +kernel) rfl) pa_nil))))) (pw_or1 (pt_cmpR op_lt (pe_callB (kLen (K := K)) (by rfl) B.len (by decide +kernel) (pa_cons (pv 0) pa_nil)) pe_int (nomark _))))) (pss_one ps_never) pss_nil)
      (pss_one (ps_for PassesOwn.never rfl (pi_enumT (by rfl) B.enumerate (pa_cons (pv 0) pa_nil)) (pg_tup rfl (pgs_cons (pg_name (i := 1) sc.nd rfl (by first | exact Or.inl rfl | exact Or.inr rfl)) (pgs_cons (pg_name (i := 2) sc.nd rfl (by first | exact Or.inl rfl | exact Or.inr rfl)) pgs_nil)))
      (pss_one (ps_if (PW.pt (pw_or (pt_not (pt_val (pe_has his_whole (hr.mono (by decide)) (pa_cons (pv 2) pa_nil)))) (pw_or (pt_cmpR op_lt (pv 2) pe_int (nomark _)) (pw_or1 (pt_cmpR op_gt (pv 1) (pe_glob (v := .int 5) rfl c_MOST_DRAWS ⟨_, rfl⟩) (nomark _)))))) (pss_one ps_never) pss_nil))))), ?_⟩
    walk_at "rd"
    refine ⟨_, _, _, _, true, rfl, .ty "tuple", ty_tup hS, kit_ty (by decide +kernel), ?_⟩
    walk_at "rd"
    refine ⟨_, .inr hS, ?_⟩
    rw [List.length_map, if_neg (by omega)]
    obtain ⟨Pv, hP⟩ : ∃ P : Nat → L2.St → Hp → Prop, P = fun j σ' G => Ex H G ∧ ∃ s1 s2 : Option V, σ' = [some (.ref q), s1, s2] := ⟨_, rfl⟩
    refine ⟨⟨_, hS⟩, loopE (xs := cs.map V.int) Pv (by rw [hP]; exact ⟨.refl _, _, _, rfl⟩) (fun j σ' G _ h => by rw [hP] at h; exact sqT_kp hS h.1.kp) ?_ ?_⟩
    · intro j x σ' G T G' hx h e1 t1
      rw [hP] at h
      obtain ⟨e0, s1, s2, rfl⟩ := h
      obtain ⟨c, hc, rfl⟩ := map_int_get hx
      have c0 := pos c (List.mem_of_getElem? hc)
      have hj := (List.getElem?_eq_some_iff.mp hc).1
      walk_at "rd"
      refine ⟨_, .of t1, rfl, ?_⟩
      walk_at "rd"
      refine ⟨c, rfl, ?_⟩
      walk_at "rd"
      rw [if_neg (by omega), if_neg (by omega)]
      rw [hP]
      exact ⟨e0.trans e1, _, _, rfl⟩
    · intro σ' G h
      rw [hP] at h
      exact k _ h.1

/-! ### Row -/
/-- what the text's top says of the class -/
structure RowC (K : PySem.W.Frag) (mg : Str → Option Value) (C : Addr) : Prop where
  cl : Cls K C
  nC : NoAttr K C "_counts"
  mgC : mg "Row" = some (.ref C)
  ha : PySem.W.findIn K (.ref C) "__class__" = some (some (.builtin "object.__class__"))
  hn : PySem.W.specialIn K (.builtin "object.__class__") "__get__" = some (some (.builtin "getset_descriptor.__get__"))
  htk : PySem.W.takesIn K (.builtin "object.__class__") = some true
  hm : PySem.W.mroIn K C (.type "object") = some true
theorem RowC.ty {C a dx : Addr} {H : Hp} {fs : List (Str × V)} (R : RowC K mg C) (e : H a = some (.ins C dx fs)) : TyX K H (.ref a) (.ref C) := .base (.ins e R.cl R.ha R.hn R.htk R.hm)
/-- x is a row whose plain counts are ps -/
def IsRow (K : PySem.W.Frag) (C : Addr) (H : Hp) (x : V) (ps : List Int) : Prop :=
  ∃ a dx q, x = .ref a ∧ H a = some (.ins C dx [("_counts", .ref q)]) ∧ SqT K H q (ps.map V.int)
theorem IsRow.kp {C : Addr} {H H' : Hp} {x : V} {ps : List Int} (h : IsRow K C H x ps) (e : Kp H H') : IsRow K C H' x ps := by
  obtain ⟨a, dx, q, rfl, h1, h2⟩ := h
  exact ⟨a, dx, q, rfl, e _ _ h1 (fun _ z => nomatch z), sqT_kp h2 e⟩
def spInit (K : PySem.W.Frag) (C : Addr) : Sp := fun vs H Q _ => ∃ (a dx q : Addr) (cs : List Int), vs = [.ref a, .ref q] ∧ H a = some (.ins C dx []) ∧ SqT K H q (cs.map V.int) ∧ RowOk cs ∧
  ∀ H', (∀ b o, b ≠ a → H b = some o → H' b = some o) → IsRow K C H' (.ref a) (plainL cs) → Q .non H'
theorem scInit : FnScope ["self", "counts", "common", "count"] ["self", "counts"] (defScope (inClass (top 20) 0)) := ⟨rfl, rfl, rfl, by decide +kernel, rfl, by decide +kernel, by decide +kernel⟩
theorem ok_init {C f : Addr} {fd : FuncData} (F : Fun K "__init__" "Row.__init__" (inClass (top 20) 0) f fd) (B : Bi mg) (RC : RowC K mg C) (c_gcd : mg "gcd" = some (.builtin "math.gcd"))
    (h_check_counts : Has P w K mg base "_check_counts" 2 ["counts"] (spCheck K)) : FnOk P w K mg base CX0 3 f fd ["self", "counts"] (spInit K C) := by
  have sc := scInit
  refine F.ok sc (fun vs H Q E h => ?_) (fun cdv A outer s H vs Q E hr h => ?_)
  · obtain ⟨a, dx, q, cs, rfl, _⟩ := h
    rfl
  · obtain ⟨a, dx, q, cs, rfl, hA, hS, ok, k⟩ := h
    obtain ⟨l0, l1, pos, g0, g1⟩ := id ok
    refine ⟨_, (pss_cons (ps_expr (pe_has h_check_counts (hr.mono (by decide)) (pa_cons (pv 1) pa_nil)))
      (pss_cons (ps_set (i := 2) sc.nd rfl (by first | exact Or.inl rfl | exact Or.inr rfl) pe_int)
      (pss_cons (ps_for PassesOwn.never rfl (pi_tup (pv 1)) (pg_name (i := 3) sc.nd rfl (by first | exact Or.inl rfl | exact Or.inr rfl))
      (pss_one (ps_set (i := 2) sc.nd rfl (by first | exact Or.inl rfl | exact Or.inr rfl) (pe_callBfun cr_gcd (by rfl) c_gcd (pa_cons (pv 2) (pa_cons (pv 3) pa_nil))))))
      (pss_cons (ps_if (pt_cmpR op_eq (pv 2) pe_int (nomark _)) (pss_one ps_never) pss_nil)
      (pss_one (ps_fld (pv 0) (pe_callTy (kTuple (K := K)) (by rfl) B.tuple (by decide +kernel) (pa_cons (pe_lc (own := [("count", 3)]) (g := gName 3) (tt := tYes) rfl sc.nd (pi_tup (pv 1)) (blkOk_by (N := (["self", "counts", "common", "count"] : List Str)) (sc := defScope (inClass (top 20) 0)) (by decide +kernel)) (fun _ _ _ _ _ => (pg_name (i := 3) sc.nd rfl (by first | exact Or.inl rfl | exact Or.inr rfl))) (fun _ _ _ _ _ => pts_nil) (fun _ _ _ _ _ => (PE.mon (pe_op op_fdivW (pv 3) (pv 2))))) pa_nil)) rfl)))))), ?_⟩
    walk_at "rd"
    refine ⟨q, cs, rfl, hS, ok, fun H1 e1 => ?_⟩
    walk_at "rd"
    have hS1 := sqT_kp hS e1.kp
    obtain ⟨Pv, hP⟩ : ∃ P : Nat → L2.St → Hp → Prop, P = fun j σ' G => G = H1 ∧ ∃ t : Option V, σ' = [some (.ref a), some (.ref q), some (.int ((gcdL (cs.take j) : Nat) : Int)), t] := ⟨_, rfl⟩
    refine ⟨⟨_, hS1⟩, loopT (xs := cs.map V.int) Pv (by rw [hP]; exact ⟨rfl, _, rfl⟩) (fun j σ' G _ h => by rw [hP] at h; rw [h.1]; exact hS1) ?_ ?_⟩
    · intro j x σ' G hx h
      rw [hP] at h
      obtain ⟨rfl, t, rfl⟩ := h
      obtain ⟨c, hc, rfl⟩ := map_int_get hx
      walk_at "rd"
      refine ⟨_, _, rfl, ?_⟩
      walk_at "rd"
      rw [hP]
      dsimp only
      rw [gcdL_take hc]
      exact ⟨rfl, _, rfl⟩
    · intro σ' G h
      rw [hP] at h
      obtain ⟨rfl, t, rfl⟩ := h
      rw [List.length_map, List.take_length]
      have gI : (0 : Int) < ((gcdL cs : Nat) : Int) := by omega
      have gL : (((gcdL cs : Nat) : Int)).natAbs.log2 < 9000 := by
        rw [Int.natAbs_natCast]
        exact log_lt g1
      walk_at "rd"
      rw [if_neg (by omega)]
      refine ⟨⟨_, hS1⟩, fun Dd hD => lcTn (fun i y _ => ∃ c, cs[i]? = some c ∧ y = .int (c / ((gcdL cs : Nat) : Int))) (fun _ _ _ _ _ h => h) hD hS1 (by rw [List.length_map]; omega) (fun _ => rfl) ?_ ?_⟩
      · intro i x H2 hx e
        obtain ⟨c, hc, rfl⟩ := map_int_get hx
        obtain ⟨R0, hR⟩ : ∃ R : VK, R = fun v H' => v = .int (c / ((gcdL cs : Nat) : Int)) ∧ H' = H2 := ⟨_, rfl⟩
        refine ⟨R0, ?_, fun v H' h => by rw [hR] at h; obtain ⟨rfl, rfl⟩ := h; exact ⟨Ex.refl _, c, hc, rfl⟩⟩
        walk_at "rd"
        refine ⟨⟨gI, gL⟩, ?_⟩
        rw [hR]
        exact ⟨rfl, rfl⟩
      · intro H2 ys e hy hl hr2
        rw [List.length_map] at hl
        have ey := ints_of_map hl hr2
        refine ⟨Dd, _, rfl, .of hy, fun p H3 n3 e3 t3 => ?_⟩
        rw [ey] at t3
        have e13 := (e1.trans e).trans e3
        have hA3 := e13 _ _ hA
        walk_at "rd"
        refine ⟨_, _, _, hA3, RC.cl, RC.nC, by decide, k _ (fun b o n h => by rw [upd_ne n]; exact e13 _ _ h) ⟨a, dx, p, rfl, upd_same, ?_⟩⟩
        exact .of (by rw [upd_ne (ne_of t3 hA3 (fun z => nomatch z))]; exact t3)

/-! ### the properties -/
def spGet (K : PySem.W.Frag) (C : Addr) : Sp := fun vs H Q _ => ∃ (x : V) (ps : List Int), vs = [x] ∧ IsRow K C H x ps ∧ ∀ y, IsInts K H y ps → Q y H
theorem scGet : FnScope ["self"] ["self"] (defScope (inClass (top 20) 2)) := ⟨rfl, rfl, rfl, by decide +kernel, rfl, by decide +kernel, by decide +kernel⟩
theorem look_counts (q : Addr) : List.lookup ("_counts" : Str) [(("_counts" : Str), V.ref q)] = some (.ref q) := by simp [List.lookup]
theorem ok_get {C f : Addr} {fd : FuncData} (F : Fun K "counts" "Row.counts" (inClass (top 20) 2) f fd) (RC : RowC K mg C) : FnOk P w K mg base CX0 1 f fd ["self"] (spGet K C) := by
  have sc := scGet
  refine F.ok sc (fun vs H Q E h => ?_) (fun cdv A outer s H vs Q E hr h => ?_)
  · obtain ⟨x, ps, rfl, _⟩ := h
    rfl
  · obtain ⟨x, ps, rfl, ⟨a, dx, q, rfl, hA, hS⟩, k⟩ := h
    refine ⟨_, (pss_one (ps_ret (kFld (K := K) (pv 0) rfl))), ?_⟩
    walk_at "rd"
    exact ⟨_, _, _, hA, RC.cl, RC.nC, _, look_counts q, k _ ⟨q, rfl, hS⟩⟩
def spDraws (K : PySem.W.Frag) (C : Addr) : Sp := fun vs H Q _ => ∃ (x : V) (ps : List Int), vs = [x] ∧ IsRow K C H x ps ∧ Q (.int ((ps.length : Nat) - 1 : Int)) H
theorem scDraws : FnScope ["self"] ["self"] (defScope (inClass (top 20) 4)) := ⟨rfl, rfl, rfl, by decide +kernel, rfl, by decide +kernel, by decide +kernel⟩
theorem ok_draws {C f : Addr} {fd : FuncData} (F : Fun K "draws" "Row.draws" (inClass (top 20) 4) f fd) (B : Bi mg) (RC : RowC K mg C) : FnOk P w K mg base CX0 1 f fd ["self"] (spDraws K C) := by
  have sc := scDraws
  refine F.ok sc (fun vs H Q E h => ?_) (fun cdv A outer s H vs Q E hr h => ?_)
  · obtain ⟨x, ps, rfl, _⟩ := h
    rfl
  · obtain ⟨x, ps, rfl, ⟨a, dx, q, rfl, hA, hS⟩, k⟩ := h
    refine ⟨_, (pss_one (ps_ret (pe_op op_sub (pe_callB (kLen (K := K)) (by rfl) B.len (by decide +kernel) (pa_cons (kFld (K := K) (pv 0) rfl) pa_nil)) pe_int))), ?_⟩
    walk_at "rd"
    refine ⟨_, _, _, hA, RC.cl, RC.nC, _, look_counts q, ?_⟩
    walk_at "rd"
    refine ⟨_, .inr hS, ?_⟩
    rw [List.length_map]
    exact k
/-- a tuple whose items tell the fractions -/
def FrsAt (K : PySem.W.Frag) (H : Hp) (xs : List V) (rs : List Rat) : Prop := xs.length = rs.length ∧ ∀ (i : Nat) x, xs[i]? = some x → ∃ r, rs[i]? = some r ∧ IsFr K H x r
theorem FrsAt.kp {H H' : Hp} {xs : List V} {rs : List Rat} (h : FrsAt K H xs rs) (e : Kp H H') : FrsAt K H' xs rs :=
  ⟨h.1, fun i x hx => let ⟨r, h1, h2⟩ := h.2 i x hx; ⟨r, h1, h2.kp e⟩⟩
def IsFrs (K : PySem.W.Frag) (H : Hp) (x : V) (rs : List Rat) : Prop := ∃ p xs, x = .ref p ∧ SqT K H p xs ∧ FrsAt K H xs rs
theorem IsFrs.kp {H H' : Hp} {x : V} {rs : List Rat} (h : IsFrs K H x rs) (e : Kp H H') : IsFrs K H' x rs := by
  obtain ⟨p, xs, rfl, h1, h2⟩ := h
  exact ⟨p, xs, rfl, sqT_kp h1 e, h2.kp e⟩
theorem frs_dp {H : Hp} : ∀ {xs : List V} {rs : List Rat}, FrsAt K H xs rs → DpAll K H xs (rs.map frD)
  | [], [], _ => .nil
  | [], _ :: _, h => by cases h.1
  | _ :: _, [], h => by cases h.1
  | x :: xs, r :: rs, h => by
    refine .cons ?_ (frs_dp ⟨by simpa using h.1, fun i y hy => by simpa using h.2 (i + 1) y (by simpa using hy)⟩)
    obtain ⟨r', e, q⟩ := h.2 0 x rfl
    cases e
    exact q.dp
/-- rates of plain counts -/
def ratesL (ps : List Int) : List Rat := ps.map fun p => ((p : Int) : Rat) / ((ps.sum : Int) : Rat)
end

section
variable {P : Program} {w : World} {K : PySem.W.Frag} {mg : Str → Option Value} {base : Heap}
/-! ### rows compared, the rules of rows -/
def spEqR (K : PySem.W.Frag) (C : Addr) : Sp := fun vs H Q _ => ∃ (x y : V) (ps qs : List Int), vs = [x, y] ∧ IsRow K C H x ps ∧ IsRow K C H y qs ∧ Q (.bl (PyData.eqv (intsD ps) (intsD qs))) H
theorem scEq : FnScope ["self", "other"] ["self", "other"] (defScope (inClass (top 20) 7)) := ⟨rfl, rfl, rfl, by decide +kernel, rfl, by decide +kernel, by decide +kernel⟩
theorem shaped_ints (cs : List Int) : SeqAt.shaped (intsD cs) = true := by
  have h : ∀ cs : List Int, PyData.canLayAll0 (cs.map PyData.int) = true ∧ PyData.depthAll (cs.map PyData.int) = 0 := by
    intro cs
    induction cs with
    | nil => exact ⟨by simp [PyData.canLayAll0], by simp [PyData.depthAll]⟩
    | cons c cs ih => exact ⟨by simp [PyData.canLayAll0, PyData.canLay0, ih.1], by simp [PyData.depthAll, PyData.depth, ih.2]⟩
  unfold SeqAt.shaped intsD
  simp [PyData.canLay0, PyData.depth, (h cs).1, (h cs).2]
theorem ok_eq {C f : Addr} {fd : FuncData} (F : Fun K "__eq__" "Row.__eq__" (inClass (top 20) 7) f fd) (B : Bi mg) (RC : RowC K mg C) : FnOk P w K mg base CX0 1 f fd ["self", "other"] (spEqR K C) := by
  have sc := scEq
  refine F.ok sc (fun vs H Q E h => ?_) (fun cdv A outer s H vs Q E hr h => ?_)
  · obtain ⟨x, y, ps, qs, rfl, _⟩ := h
    rfl
  · obtain ⟨x, y, ps, qs, rfl, ⟨a, dx, p, rfl, hA, hS⟩, ⟨b, dy, q, rfl, hB, hT⟩, k⟩ := h
    refine ⟨_, (pss_one (ps_ret (pe_and (pe_callB (kIsi (K := K)) (by rfl) B.isinstance (by decide +kernel) (pa_cons (pv 1) (pa_cons (pe_glob (v := .ref C) rfl RC.mgC rfl) pa_nil))) (pe_one (pe_cmpR (op_eqD hr.units) (pe_fld (pv 0) rfl) (pe_fld (pv 1) rfl) (nomark _)))))), ?_⟩
    walk_at "rd"
    refine ⟨_, _, _, _, true, rfl, .own C, RC.ty hB, by simp [PySem.W.kitOne], ?_⟩
    walk_at "rd"
    refine ⟨_, _, _, hA, RC.cl, RC.nC, _, look_counts p, _, _, _, hB, RC.cl, RC.nC, _, look_counts q, ?_⟩
    exact ⟨intsD ps, intsD qs, .tup hS (dp_ints _), .tup hT (dp_ints _), shaped_ints _, shaped_ints _, k⟩

/-- the class Row as the text makes it: its parts keep what they promise -/
structure RowT (P : Program) (w : World) (K : PySem.W.Frag) (mg : Str → Option Value) (base : Heap) (C : Addr) : Prop where
  rc : RowC K mg C
  init : ∃ f fd, Mk K C f ∧ FnOk P w K mg base CX0 3 f fd ["self", "counts"] (spInit K C) ∧ Binds K fd ["self", "counts"] []
  counts : ∃ p g fd, PropOf K C "counts" p g ∧ FnOk P w K mg base CX0 1 g fd ["self"] (spGet K C) ∧ Binds K fd ["self"] []
  draws : ∃ p g fd, PropOf K C "draws" p g ∧ FnOk P w K mg base CX0 1 g fd ["self"] (spDraws K C) ∧ Binds K fd ["self"] []
  eq : ∃ f fd, PySem.W.findIn K (.ref C) "__eq__" = some (some (.ref f)) ∧ PySem.W.isFn K (.ref f) = true ∧ FnOk P w K mg base CX0 1 f fd ["self", "other"] (spEqR K C) ∧ Binds K fd ["self", "other"] []
  ne : ∃ (f N : Addr) (of : Obj) (nm q : Str) (bs : List Value) (hdct : Bool) (sn : List Str) (sub : List Value) (ab : Bool) (col : Option Bool) (dd : Option Addr) (k0 k1 k2 k3 k5 : Option Value) (newId : String),
    PySem.W.findIn K (.ref C) "__eq__" = some (some (.ref f)) ∧ K.lookup C = some (excClassObj nm q C N bs [.type "object"] hdct sn sub ab col dd k0 k1 k2 k3 k5 newId) ∧ PySem.W.nsOkIn K N = true ∧
    PySem.W.nsIn K N "__eq__" = some (some (.ref f)) ∧ PySem.W.nsIn K N "__ne__" = some none ∧ K.lookup f = some of ∧ of.cls = .type "function"

theorem ns_some {h : Heap} {N : Addr} {m : Str → Option Value} {n : Str} {v : Value} (X : K.In h) (G : h.Ns N m) (e : PySem.W.nsIn K N n = some (some v)) : m n = some v := by
  obtain ⟨o, es, ep, ho, hd, ok, hf⟩ := G
  unfold PySem.W.nsIn at e
  split at e
  · rename_i q
    have z := X _ _ q
    rw [ho] at z
    cases z
    cases hd
    split at e
    · rename_i en hen
      cases e
      rw [← hf]
      unfold nsFind findBy
      rw [← Array.find?_toList, hen]
      rfl
    · split at e <;> cases e
  · cases e
section
variable {X : Cx} {C : Addr} {e : Expr} {es : List Expr} {te : TE} {t : TA} {p pos : Pos}
/-- Row(e) -/
def tRow (K : PySem.W.Frag) (C : Addr) (t : TA) : TE := fun σ H Q => t σ H fun vs H1 => ∃ (y : V) (cs : List Int), vs = [y] ∧ IsInts K H1 y cs ∧ RowOk cs ∧ ∀ x H2, Ex H1 H2 → IsRow K C H2 x (plainL cs) → Q x H2
theorem pe_row (T : RowT X.prog X.w X.K X.mg X.base C) (hr : Room 4 X.A) (ha : PA X (e :: es) t) (hg : Gl X "Row" := by rfl)
    (he : starEach (e :: es) X.env = (false, eval e X.env) :: starEach es X.env := by rfl) (hpl : (backTo pos (starEach es X.env)).any (·.1) = false := by rfl) :
    PE X (.Call (.Name "Row" p) (e :: es) [] pos) (tRow X.K C t) := by
  obtain ⟨f, fd, M, F, hb⟩ := T.init
  have q := pe_make (X := X) (p := p) (pos := pos) M F hr hg T.rc.mgC hb .nil (pass0 (X := X)) (PA.mon ha) (by decide) he hpl
  refine ⟨fun pins s σ H Q I hq => q.run pins s σ H Q I ⟨_, hq, ?_⟩⟩
  intro vs H1 ⟨y, cs, ev, ⟨qa, ey, hS⟩, ok, k⟩ x dx nx ndx nex
  subst ev ey
  have e1 : Ex H1 (upd (upd H1 dx (.own x)) x (.ins C dx [])) := fun b o h => by
    rw [upd_ne (ne_of_none h nx), upd_ne (ne_of_none h ndx)]
    exact h
  refine ⟨x, dx, qa, cs, rfl, upd_same, sqT_kp hS e1.kp, ok, fun H2 keep hrow => ⟨rfl, k _ _ (fun b o h => ?_) hrow⟩⟩
  exact keep b o (ne_of_none h nx) (e1 b o h)
/-- e.counts -/
def tCounts (K : PySem.W.Frag) (C : Addr) (te : TE) : TE := fun σ H Q => te σ H fun x H1 => ∃ ps, IsRow K C H1 x ps ∧ ∀ y, IsInts K H1 y ps → Q y H1
theorem pe_counts (T : RowT X.prog X.w X.K X.mg X.base C) (hr : Room 2 X.A) (he : PE X e te) (hab : attributeBase e "counts" X.env (eval e X.env) = eval e X.env := by rfl) : PE X (.Attribute e "counts" pos) (tCounts X.K C te) := by
  obtain ⟨pr, g, fd, hp, F, hb⟩ := T.counts
  have q := pe_prop (X := X) (pos := pos) (PE.mon he) T.rc.cl hp F hr hb .nil (pass0 (X := X.nox)) hab
  refine ⟨fun pins s σ H Q I hq => q.run pins s σ H Q I ⟨_, hq, ?_⟩⟩
  intro x H1 ⟨ps, hrow, k⟩
  obtain ⟨a, dx, qa, ex, hA, hS⟩ := id hrow
  exact ⟨a, dx, _, ex, hA, x, ps, by rw [ex], hrow, k⟩
def tDraws (K : PySem.W.Frag) (C : Addr) (te : TE) : TE := fun σ H Q => te σ H fun x H1 => ∃ ps : List Int, IsRow K C H1 x ps ∧ Q (.int ((ps.length : Nat) - 1 : Int)) H1
theorem pe_draws (T : RowT X.prog X.w X.K X.mg X.base C) (hr : Room 2 X.A) (he : PE X e te) (hab : attributeBase e "draws" X.env (eval e X.env) = eval e X.env := by rfl) : PE X (.Attribute e "draws" pos) (tDraws X.K C te) := by
  obtain ⟨pr, g, fd, hp, F, hb⟩ := T.draws
  have q := pe_prop (X := X) (pos := pos) (PE.mon he) T.rc.cl hp F hr hb .nil (pass0 (X := X.nox)) hab
  refine ⟨fun pins s σ H Q I hq => q.run pins s σ H Q I ⟨_, hq, ?_⟩⟩
  intro x H1 ⟨ps, hrow, k⟩
  obtain ⟨a, dx, qa, ex, hA, hS⟩ := id hrow
  exact ⟨a, dx, _, ex, hA, x, ps, by rw [ex], hrow, k⟩
def tRates (K : PySem.W.Frag) (C : Addr) (te : TE) : TE := fun σ H Q => te σ H fun x H1 => ∃ ps : List Int, IsRow K C H1 x ps ∧ ps.length ≤ 1000 ∧ 0 < ps.sum ∧ ps.sum.natAbs < 2 ^ 8990 ∧ ∀ y H', Ex H1 H' → IsFrs K H' y (ratesL ps) → Q y H'
/-- x != y, two rows -/
def rNeRow (K : PySem.W.Frag) (C : Addr) : R2 := fun x y H Q => ∃ ps qs, IsRow K C H x ps ∧ IsRow K C H y qs ∧ Q (.bl (!PyData.eqv (intsD ps) (intsD qs))) H
theorem op_neRow (T : RowT X.prog X.w X.K X.mg X.base C) (hr : Room 2 X.A) : OpR X (compareOp .NotEq) (rNeRow X.K C) := by
  intro pins s σ H x y v u Q I rx ry ⟨ps, qs, ⟨a, dx, p, ex, hA, hS⟩, ⟨b, dy, q, ey, hB, hT⟩, k⟩
  subst ex ey
  obtain rfl : v = Value.ref a := rx
  obtain rfl : u = Value.ref b := ry
  obtain ⟨f, fd, f1, f2, F, hb⟩ := T.eq
  obtain ⟨f', N, of, nm, qn, bs, hdct, sn, sub, ab, col, dd, k0, k1, k2, k3, k5, newId, f3, lC, okN, n1, n2, lf, cf⟩ := T.ne
  have ef : f' = f := by
    rw [f1] at f3
    cases f3
    rfl
  subst ef
  obtain ⟨mA, OA, _⟩ := ins_get I.hok hA
  obtain ⟨mB, OB, _⟩ := ins_get I.hok hB
  have KI := I.kIn
  obtain ⟨hp, g, d, tk, os⟩ := s
  have hns : hp.Ns N (hp.nsMap N) := .of_isNs (PySem.W.isNs_of_in KI okN)
  have nNe : hp.nsMap N "__ne__" = none := PySem.W.ns_none_of KI hns n2
  have nEq : hp.nsMap N "__eq__" = some (.ref f') := ns_some KI hns n1
  have OE : hp.OwnEqNoNe a C f' "object" [.type "object"] :=
    ⟨_, of, nm, qn, N, bs, hdct, sn, sub, ab, col, dd, k0, k1, k2, k3, k5, newId, _, _, OA.obj, rfl, KI _ _ lC, hns, nEq, KI _ _ lf, cf, PySem.F.cmp_object.mro, rfl, nNe⟩
  refine compareOp_ne_ownEq PySem.F.cmp_object OE OB.obj rfl (by have := hr.un; omega) ?_
  have hsp : spEqR X.K C [.ref a, .ref b] H (fun v H' => v = .bl (PyData.eqv (intsD ps) (intsD qs)) ∧ H' = H) E0 :=
    ⟨.ref a, .ref b, ps, qs, rfl, ⟨a, dx, p, rfl, hA, hS⟩, ⟨b, dy, q, rfl, hB, hT⟩, rfl, rfl⟩
  have hl := F.len _ _ _ _ hsp
  have r2 : Vals [V.ref a, V.ref b] [Value.ref a, Value.ref b] := .cons rfl (.cons rfl .nil)
  have bnd := hb ⟨hp, g, d, tk, os⟩ [.ref a, .ref b] KI (by simpa using hl)
  rw [List.append_nil] at bnd
  refine wpAny_call (codeAny_mono (F.run X.A.in1 X.stack ⟨hp, g, d, tk, os⟩ H ⟨[.ref a, .ref b], []⟩ [.ref a, .ref b] [.ref a, .ref b] _ E0 hr.in1 I.env0.in1 bnd r2 hsp) fun res s' hq => ?_)
  cases res with
  | error er => exact (pass0 (X := X)) pins σ H _ er s' I hq
  | ok fl =>
    cases fl with
    | next => exact hq.elim
    | brk => exact hq.elim
    | cont => exact hq.elim
    | ret z =>
      obtain ⟨y, H', I', rz, ez, eh⟩ := I.after hq
      subst ez eh
      obtain rfl : z = Value.bool _ := rz
      exact ⟨_, rfl, .bl (!PyData.eqv (intsD ps) (intsD qs)), _, I', rfl, k⟩
end
end
section
variable {X : Cx} {K : PySem.W.Frag}
section
variable {P : Program} {w : World} {mg : Str → Option Value} {base : Heap} {C : Addr} {e : Expr} {es : List Expr} {te : TE} {t : TA} {p pos : Pos}
/-- where the block stands -/
def At (X : Cx) (P : Program) (w : World) (K : PySem.W.Frag) (mg : Str → Option Value) (base : Heap) : Prop := X.prog = P ∧ X.w = w ∧ X.K = K ∧ X.mg = mg ∧ X.base = base
theorem kRow (T : RowT P w K mg base C) (hr : Room 4 X.A) (ha : PA X (e :: es) t) (hx : At X P w K mg base := by exact ⟨rfl, rfl, rfl, rfl, rfl⟩) (hg : Gl X "Row" := by rfl)
    (he : starEach (e :: es) X.env = (false, eval e X.env) :: starEach es X.env := by rfl) (hpl : (backTo pos (starEach es X.env)).any (·.1) = false := by rfl) :
    PE X (.Call (.Name "Row" p) (e :: es) [] pos) (tRow K C t) := by
  obtain ⟨h1, h2, h3, h4, h5⟩ := hx
  subst h1 h2 h3 h4 h5
  exact pe_row T hr ha hg he hpl
theorem kCounts (T : RowT P w K mg base C) (hr : Room 2 X.A) (he : PE X e te) (hx : At X P w K mg base := by exact ⟨rfl, rfl, rfl, rfl, rfl⟩) (hab : attributeBase e "counts" X.env (eval e X.env) = eval e X.env := by rfl) : PE X (.Attribute e "counts" pos) (tCounts K C te) := by
  obtain ⟨h1, h2, h3, h4, h5⟩ := hx
  subst h1 h2 h3 h4 h5
  exact pe_counts T hr he hab
theorem kDraws (T : RowT P w K mg base C) (hr : Room 2 X.A) (he : PE X e te) (hx : At X P w K mg base := by exact ⟨rfl, rfl, rfl, rfl, rfl⟩) (hab : attributeBase e "draws" X.env (eval e X.env) = eval e X.env := by rfl) : PE X (.Attribute e "draws" pos) (tDraws K C te) := by
  obtain ⟨h1, h2, h3, h4, h5⟩ := hx
  subst h1 h2 h3 h4 h5
  exact pe_draws T hr he hab
theorem kNeRow (T : RowT P w K mg base C) (hr : Room 2 X.A) (hx : At X P w K mg base := by exact ⟨rfl, rfl, rfl, rfl, rfl⟩) : OpR X (compareOp .NotEq) (rNeRow K C) := by
  obtain ⟨h1, h2, h3, h4, h5⟩ := hx
  subst h1 h2 h3 h4 h5
  exact op_neRow T hr
end
section
variable {D : Ends} {σ : L2.St} {H : Hp} {te : TE} {tx : TA} {Q : VK} {C : Addr}
theorem r_counts : tCounts K C te σ H Q = te σ H fun x H1 => ∃ ps, IsRow K C H1 x ps ∧ ∀ y, IsInts K H1 y ps → Q y H1 := rfl
theorem r_draws : tDraws K C te σ H Q = te σ H fun x H1 => ∃ ps : List Int, IsRow K C H1 x ps ∧ Q (.int ((ps.length : Nat) - 1 : Int)) H1 := rfl
theorem r_rates : tRates K C te σ H Q = te σ H fun x H1 => ∃ ps : List Int, IsRow K C H1 x ps ∧ ps.length ≤ 1000 ∧ 0 < ps.sum ∧ ps.sum.natAbs < 2 ^ 8990 ∧ ∀ y H', Ex H1 H' → IsFrs K H' y (ratesL ps) → Q y H' := rfl
theorem r_row : tRow K C tx σ H Q = tx σ H fun vs H1 => ∃ (y : V) (cs : List Int), vs = [y] ∧ IsInts K H1 y cs ∧ RowOk cs ∧ ∀ x H2, Ex H1 H2 → IsRow K C H2 x (plainL cs) → Q x H2 := rfl
end
end

local macro_rules | `(tactic| walk_at "rd") => `(tactic| try simp only [r_seq, r_asg, r_name, r_ifS, r_next, r_ret, r_retN, r_drop, r_test, r_B, r_if, r_cons, r_nil, r_cb, r_tF, r_part, r_nopart, r_sl, r_par, r_chain, r_or, r_and, r_not, r_orV, r_andV, r_notV, r_op, r_un, r_var, r_c, r_yes, r_I0, r_I, r_U, r_eqI, r_neI, r_eqS, r_neS, r_lst, r_tup, r_for, r_lc, r_list, r_tupI, r_rng1, r_rng2, r_enumT, r_bm, r_fld, r_subT, r_gtup, r_gcons, r_gnil, r_K0, r_K, r_Kb, r_Kbb, wipe, r_never, not_true_eq_false, not_false_eq_true, Int.zero_add, r_counts, r_draws, r_rates, r_row, r_len, r_sfld, r_zipB, r_revT, r_tW, r_seqI, r_m0, r_m1, r_js0, r_js, r_fmt, r_revN, r_rng3, r_enumL,
  L2.start, List.map_cons, List.map_nil, List.length_cons, List.length_nil, Nat.reduceAdd, Nat.reduceSub, List.reduceReplicate, List.cons_append, List.nil_append, List.set_cons_zero, List.set_cons_succ, List.getElem?_cons_zero, List.getElem?_cons_succ, Option.some.injEq, exists_eq_left', exists_eq_left, exists_eq_right, exists_eq_right', V.int.injEq, V.ref.injEq, V.bl.injEq, V.str.injEq, List.cons.injEq, and_true, true_and, and_false, false_and, or_false, false_or, exists_false, exists_const, and_assoc, reduceCtorEq, if_true, if_false, Bool.false_eq_true, Bool.not_true, Bool.not_false, Bool.not_eq_true', decide_eq_true_eq, decide_eq_false_iff_not, exists_and_left, exists_and_right, exists_eq_or_imp])
section
variable {P : Program} {w : World} {K : PySem.W.Frag} {mg : Str → Option Value} {base : Heap}
open SX
/-! ### figures: is_decimal, read_decimal, write_decimal -/
abbrev numS (n : Nat) : Str := S (TL.numL n)
theorem num_range (n : Nat) : ∀ c ∈ TL.numL n, 48 ≤ c ∧ c ≤ 57 := TL.numL_digits n
theorem num_len60 {n : Nat} (h : n < 10 ^ 60) : (TL.numL n).length ≤ 60 := TL.numL_len (by decide) h
theorem num_len31 {n : Nat} (h : n < 10 ^ 31) : (TL.numL n).length ≤ 31 := TL.numL_len (by decide) h
def spDec : Sp := fun vs H Q _ => ∃ n : Nat, vs = [.str (numS n)] ∧ n < 10 ^ 60 ∧ Q (.bl true) H
theorem scDec : FnScope ["word"] ["word"] (defScope (top 14)) := ⟨rfl, rfl, rfl, by decide +kernel, rfl, by decide +kernel, by decide +kernel⟩
theorem has_dec (D : Df K mg "is_decimal" (top 14) ["word"]) : Has P w K mg base "is_decimal" 1 ["word"] spDec := by
  have sc := scDec
  refine .of D fun f fd F => F.ok sc (fun vs H Q E h => ?_) (fun cdv A outer s H vs Q E hr h => ?_)
  · obtain ⟨n, rfl, _⟩ := h
    rfl
  · obtain ⟨n, rfl, hn, k⟩ := h
    refine ⟨_, (pss_cons (ps_if (PW.pt (pw_or (pt_not (pt_truth (pe_m0 PySem.F.slot_str_isascii PySem.F.type_str_isascii mt_isascii (pv 0)) (by intro _; rfl))) (pw_or1 (pt_not (pt_truth (pe_m0 PySem.F.slot_str_isdigit PySem.F.type_str_isdigit mt_isdigit (pv 0)) (by intro _; rfl)))))) (pss_one (ps_ret pe_bl)) pss_nil)
      (pss_one (ps_ret (pe_or (pe_cmpR op_eq (pv 0) pe_str (nomark _)) (pe_one (pe_not (pe_m1 PySem.F.slot_str_startswith PySem.F.type_str_startswith mt_startswith (pv 0) pe_str))))))), ?_⟩
    walk_at "rd"
    have e0 : Str.ofString "0" = S [48] := by decide +kernel
    refine ⟨⟨_, rfl⟩, true, ascii_S (fun c hc => by have := num_range n c hc; omega) ▸ rfl, ?_⟩
    rw [if_neg (by decide)]
    refine ⟨⟨_, rfl⟩, true, digit_S (num_range n) (TL.numL_ne n) ▸ rfl, ?_⟩
    rw [if_neg (by decide), e0]
    by_cases h : n = 0
    · subst h
      rw [if_pos (by unfold numS; rw [num_zero])]
      exact k
    · obtain ⟨c, l, e, hc⟩ := num_head (by omega : 0 < n)
      rw [if_neg (by
        intro z
        have := S_inj z
        rw [e] at this
        cases this
        exact hc rfl)]
      refine ⟨⟨_, rfl⟩, ?_⟩
      have : Txt.startswith (numS n) (S [48]) = false := by
        rw [start_S, e]
        simp
        exact hc
      rw [this]
      exact k
def spRead : Sp := fun vs H Q _ => ∃ n : Nat, vs = [.str (numS n)] ∧ n < 10 ^ 60 ∧ ∀ H', Ex H H' → Q (.int (n : Int)) H'
theorem scRead : FnScope ["word", "pieces", "padded", "parts", "at", "step", "k"] ["word"] (defScope (top 15)) := ⟨rfl, rfl, rfl, by decide +kernel, rfl, by decide +kernel, by decide +kernel⟩
theorem has_read {t1 t2 : Tok} (B : Bi mg) (c__WIDTH : mg "_WIDTH" = some (.int 60 t1)) (c__STEP : mg "_STEP" = some (.int (10 ^ 60) t2)) (D : Df K mg "read_decimal" (top 15) ["word"]) : Has P w K mg base "read_decimal" 1 ["word"] spRead := by
  have sc := scRead
  refine .of D fun f fd F => F.ok sc (fun vs H Q E h => ?_) (fun cdv A outer s H vs Q E hr h => ?_)
  · obtain ⟨n, rfl, _⟩ := h
    rfl
  · obtain ⟨n, rfl, hn, k⟩ := h
    refine ⟨_, (pss_cons (ps_set (i := 1) sc.nd rfl (by first | exact Or.inl rfl | exact Or.inr rfl) (pe_op op_fdivW (pe_op op_sub (pe_op op_add (pe_callB call_len_str (by rfl) B.len (by decide +kernel) (pa_cons (pv 0) pa_nil)) (pe_glob (v := .int 60) rfl c__WIDTH ⟨_, rfl⟩)) pe_int) (pe_glob (v := .int 60) rfl c__WIDTH ⟨_, rfl⟩)))
      (pss_cons (ps_set (i := 2) sc.nd rfl (by first | exact Or.inl rfl | exact Or.inr rfl) (pe_m1 PySem.F.slot_str_zfill PySem.F.type_str_zfill mt_zfill (pv 0) (pe_op op_mulS (pv 1) (pe_glob (v := .int 60) rfl c__WIDTH ⟨_, rfl⟩))))
      (pss_cons (ps_set (i := 3) sc.nd rfl (by first | exact Or.inl rfl | exact Or.inr rfl) (pe_lc (own := [("at", 4)]) (g := gName 4) (tt := tYes) rfl sc.nd (pi_range3 (by rfl) B.range (pa_cons pe_int (pa_cons (pe_callB call_len_str (by rfl) B.len (by decide +kernel) (pa_cons (pv 2) pa_nil)) (pa_cons (pe_glob (v := .int 60) rfl c__WIDTH ⟨_, rfl⟩) pa_nil)))) (blkOk_by (N := (["word", "pieces", "padded", "parts", "at", "step", "k"] : List Str)) (sc := defScope (top 15)) (by decide +kernel)) (fun _ _ _ _ _ => (pg_name (i := 4) sc.nd rfl (by first | exact Or.inl rfl | exact Or.inr rfl))) (fun _ _ _ _ _ => pts_nil) (fun _ _ _ _ _ => (PE.mon (pe_callTy cr_intT (by rfl) B.int (by decide +kernel) (pa_cons (pe_slice C8.sl_txt (pv 2) (po_some (pv 4)) (po_some (pe_op op_add (pv 4) (pe_glob (v := .int 60) rfl c__WIDTH ⟨_, rfl⟩)))) pa_nil))))))
      (pss_cons (ps_set (i := 5) sc.nd rfl (by first | exact Or.inl rfl | exact Or.inr rfl) (pe_glob (v := .int (10 ^ 60)) rfl c__STEP ⟨_, rfl⟩))
      (pss_cons (ps_while PassesOwn.never (PT.mon (pt_cmpR op_gt (pe_callB (kLen (K := K)) (by rfl) B.len (by decide +kernel) (pa_cons (pv 3) pa_nil)) pe_int (nomark _))) (pss_cons ps_never (pss_cons ps_never (pss_one ps_never))))
      (pss_one (ps_ret (pe_ix (ixL (K := K)) (pv 3) pe_int (fun _ _ => rfl))))))))), ?_⟩
    walk_at "rd"
    have l1 : 1 ≤ (TL.numL n).length := List.length_pos_iff.mpr (TL.numL_ne n)
    have l60 := num_len60 hn
    have p60 : sizeLine = 16777216 := by rw [sizeLine_eq]
    have el : (numS n).length = (TL.numL n).length := S_len _
    have e1 : (((numS n).length : Int) + 60 - 1) / 60 = 1 := by omega
    rw [e1, show (1 : Int) * 60 = ((60 : Nat) : Int) by decide]
    refine ⟨by omega, ⟨by decide, by decide⟩, ⟨_, rfl⟩, cmulL, by decide, ?_⟩
    rw [zfill_S (fun c hc => (num_range n c (List.mem_of_mem_head? hc)).1) l60]
    obtain ⟨pad, hpad⟩ : ∃ pad : List Nat, pad = List.replicate (60 - (TL.numL n).length) 48 ++ TL.numL n := ⟨_, rfl⟩
    have pl : pad.length = 60 := by rw [hpad]; simp; omega
    rw [← hpad]
    walk_at "rd"
    refine ⟨by rw [S_len]; omega, ?_⟩
    rw [S_len, pl]
    refine ⟨1, ⟨by decide, by decide, by decide, by decide⟩, fun Dd hD => ?_⟩
    have hv : NumText.digitsVal pad = n := by rw [hpad, val_zeros, TL.numL_val]
    have hd : NumText.AllDigits pad := fun c hc => by
      rw [hpad] at hc
      rcases List.mem_append.mp hc with hc | hc
      · rw [(List.mem_replicate.mp hc).2]
        decide
      · exact num_range n c hc
    refine lcC (fun i y _ => y = .int ((fun _ => (n : Int)) i)) (fun _ _ _ _ _ h => h) hD (by decide) (fun _ => rfl) ?_ ?_
    · intro i G hi e
      have i0 : i = 0 := by omega
      subst i0
      obtain ⟨R0, hR⟩ : ∃ R : VK, R = fun y G' => G' = G ∧ y = .int (n : Int) := ⟨_, rfl⟩
      refine ⟨R0, ?_, fun y G' h => by rw [hR] at h; obtain ⟨rfl, h⟩ := h; exact ⟨Ex.refl _, h⟩⟩
      walk_at "rd"
      refine ⟨S pad, rfl, by rw [S_len]; omega, ?_⟩
      rw [show (((0 : Nat) : Int)) * 60 = 0 by decide, slice_zero, slice_to (by decide)]
      refine ⟨pad, by rw [show (0 + 60 : Int).toNat = 60 from rfl, List.take_of_length_le (by omega)], hd, by rw [← List.length_pos_iff]; omega, by omega, ?_⟩
      rw [hR, hv]
      exact ⟨rfl, rfl⟩
    · intro G ys e hy hly hr2
      rw [ints_of hly hr2] at hy
      refine ⟨fun _ σ' G' => G' = G ∧ σ' = [some (.str (numS n)), some (.int 1), some (.str (S pad)), some (.ref Dd), none, some (.int (10 ^ 60)), none], ⟨0, rfl, rfl⟩, ?_⟩
      rintro m σ' G' ⟨rfl, rfl⟩
      refine ⟨fun b G2 => b = false ∧ G2 = G', ?_, fun b G2 hb => ?_⟩
      · walk_at "rd"
        exact ⟨_, .inl (.of hy), by simp⟩
      · rw [hb.1, hb.2]
        show if false = true then _ else _
        rw [if_neg (by decide)]
        walk_at "rd"
        refine q_ixL (.of hy) (i := 0) rfl ?_
        exact k _ e
def spWrite : Sp := fun vs H Q _ => ∃ n : Nat, vs = [.int (n : Int)] ∧ n < 10 ^ 60 ∧ ∀ H', Ex H H' → Q (.str (numS n)) H'
theorem scWrite : FnScope ["number", "steps", "step", "parts", "size", "part", "piece", "digits"] ["number"] (defScope (top 16)) := ⟨rfl, rfl, rfl, by decide +kernel, rfl, by decide +kernel, by decide +kernel⟩
theorem has_write {t1 t2 : Tok} (B : Bi mg) (c__WIDTH : mg "_WIDTH" = some (.int 60 t1)) (c__STEP : mg "_STEP" = some (.int (10 ^ 60) t2)) (D : Df K mg "write_decimal" (top 16) ["number"]) : Has P w K mg base "write_decimal" 1 ["number"] spWrite := by
  have sc := scWrite
  refine .of D fun f fd F => F.ok sc (fun vs H Q E h => ?_) (fun cdv A outer s H vs Q E hr h => ?_)
  · obtain ⟨n, rfl, _⟩ := h
    rfl
  · obtain ⟨n, rfl, hn, k⟩ := h
    refine ⟨_, (pss_cons (ps_set (i := 1) sc.nd rfl (by first | exact Or.inl rfl | exact Or.inr rfl) (pe_lstN pa_nil))
      (pss_cons (ps_set (i := 2) sc.nd rfl (by first | exact Or.inl rfl | exact Or.inr rfl) (pe_glob (v := .int (10 ^ 60)) rfl c__STEP ⟨_, rfl⟩))
      (pss_cons (ps_while PassesOwn.never (PT.mon (pt_cmpR op_le (pv 2) (pv 0) (nomark _))) (pss_cons ps_never (pss_one ps_never)))
      (pss_cons (ps_set (i := 3) sc.nd rfl (by first | exact Or.inl rfl | exact Or.inr rfl) (pe_lstN (pa_cons (pv 0) pa_nil)))
      (pss_cons (ps_for PassesOwn.never rfl (pi_list (kRevL (K := K) (pv 1))) (pg_name (i := 4) sc.nd rfl (by first | exact Or.inl rfl | exact Or.inr rfl))
      (pss_one ps_never))
      (pss_cons (ps_set (i := 7) sc.nd rfl (by first | exact Or.inl rfl | exact Or.inr rfl) (pe_m1 PySem.F.slot_str_lstrip PySem.F.type_str_lstrip mt_lstripChars (pe_m1 PySem.F.slot_str_join PySem.F.type_str_join (kJoin (K := K)) pe_str (pe_lc (own := [("part", 5)]) (g := gName 5) (tt := tYes) rfl sc.nd (pi_list (pv 3)) (blkOk_by (N := (["number", "steps", "step", "parts", "size", "part", "piece", "digits"] : List Str)) (sc := defScope (top 16)) (by decide +kernel)) (fun _ _ _ _ _ => (pg_name (i := 5) sc.nd rfl (by first | exact Or.inl rfl | exact Or.inr rfl))) (fun _ _ _ _ _ => pts_nil) (fun _ _ _ _ _ => (PE.mon (pe_m1 PySem.F.slot_str_zfill PySem.F.type_str_zfill mt_zfill (pe_callTy call_str_int (by rfl) B.str (by decide +kernel) (pa_cons (pv 5) pa_nil)) (pe_glob (v := .int 60) rfl c__WIDTH ⟨_, rfl⟩)))))) pe_str))
      (pss_one (ps_ret (PE.mon (pe_ifExp (pt_truth (pv 7) (by intro _; rfl)) (pv 7) pe_str)))))))))), ?_⟩
    walk_at "rd"
    refine ⟨by decide, fun st G n0 e0 t0 => ?_⟩
    refine ⟨fun _ σ' G' => G' = G ∧ σ' = [some (.int (n : Int)), some (.ref st), some (.int (10 ^ 60)), none, none, none, none, none], ⟨0, rfl, rfl⟩, ?_⟩
    rintro m σ' G' ⟨rfl, rfl⟩
    refine ⟨fun b G2 => b = false ∧ G2 = G', ?_, fun b G2 hb => ?_⟩
    · walk_at "rd"
      intro h
      have : (10 ^ 60 : Int) = ((10 ^ 60 : Nat) : Int) := by decide
      omega
    · rw [hb.1, hb.2]
      show if false = true then _ else _
      rw [if_neg (by decide)]
      walk_at "rd"
      refine ⟨by decide, fun p1 G3 n1 e1 t1 => ?_⟩
      refine ⟨_, .of (e1 _ _ t0), fun p2 G4 n2 e2 t2 => ?_⟩
      have e4 := (e0.trans e1).trans e2
      refine ⟨p2, rfl, ⟨_, .of t2⟩, ?_⟩
      obtain ⟨Pv, hP⟩ : ∃ P : Nat → L2.St → Hp → Prop, P = fun i σ' G' => G' = G4 ∧ σ' = [some (.int (n : Int)), some (.ref st), some (.int (10 ^ 60)), some (.ref p1), none, none, none, none] := ⟨_, rfl⟩
      refine loopL (xs := []) Pv (by rw [hP]; exact ⟨rfl, rfl⟩) (fun i σ' G' _ h => by rw [hP] at h; rw [h.1]; exact .of t2) (fun i x σ' G' hx => by simp at hx) ?_
      intro σ' G' h
      rw [hP] at h
      obtain ⟨rfl, rfl⟩ := h
      walk_at "rd"
      have t1' := e2 _ _ t1
      have l1 : 1 ≤ (TL.numL n).length := List.length_pos_iff.mpr (TL.numL_ne n)
      have l60 := num_len60 hn
      have p60 : sizeLine = 16777216 := by rw [sizeLine_eq]
      obtain ⟨pad, hpad⟩ : ∃ pad : List Nat, pad = List.replicate (60 - (TL.numL n).length) 48 ++ TL.numL n := ⟨_, rfl⟩
      have pl : pad.length = 60 := by rw [hpad]; simp; omega
      refine ⟨⟨_, rfl⟩, ⟨_, .of t1'⟩, fun Dd hD => ?_⟩
      refine lcLn (fun i y _ => y = .str (S pad)) (fun _ _ _ _ _ h => h) hD (.of t1') (by simp) (fun _ => rfl) ?_ ?_
      · intro i x G5 hx e5
        have i0 : i = 0 ∧ x = .int (n : Int) := by
          match i, hx with
          | 0, hx => cases hx; exact ⟨rfl, rfl⟩
          | _ + 1, hx => simp at hx
        obtain ⟨rfl, rfl⟩ := i0
        obtain ⟨R0, hR⟩ : ∃ R : VK, R = fun y G' => G' = G5 ∧ y = .str (S pad) := ⟨_, rfl⟩
        refine ⟨R0, ?_, fun y G' h => by rw [hR] at h; obtain ⟨rfl, h⟩ := h; exact ⟨Ex.refl _, h⟩⟩
        walk_at "rd"
        refine ⟨log1920 (by rw [Int.natAbs_natCast]; exact Nat.lt_of_lt_of_le (show n < 2 ^ 200 from Nat.lt_of_lt_of_le hn (by decide)) (Nat.pow_le_pow_right (by decide) (by decide))), ⟨_, rfl⟩, by decide, ?_⟩
        rw [num_S, show (60 : Int) = ((60 : Nat) : Int) by rfl, zfill_S (fun c hc => (num_range n c (List.mem_of_mem_head? hc)).1) l60, ← hpad, hR]
        exact ⟨rfl, rfl⟩
      · intro G5 ys e5 hy hly hr2
        have ey : ys = ([S pad] : List Str).map V.str := by
          match ys, hly with
          | [y], _ => rw [hr2 0 y rfl]; rfl
          | [], h => simp at h
          | _ :: _ :: _, h => simp at h
        rw [ey] at hy
        have eb : Str.ofString "" = S [] := by decide +kernel
        have e0' : Str.ofString "0" = S [48] := by decide +kernel
        refine ⟨_, Dd, [S pad], rfl, rfl, .inl (.of hy), by rw [eb, S_len]; simp [Str.length]; omega, ?_⟩
        rw [TL.join_eq]
        show (∃ a, V.str (S pad) = V.str a) ∧ _
        refine ⟨⟨_, rfl⟩, S pad, rfl, by rw [S_len]; omega, ?_⟩
        rw [e0', lstrip_S, hpad, drop_num]
        obtain ⟨R0, hR⟩ : ∃ R : VK, R = fun y G' => G' = G5 ∧ y = .str (numS n) := ⟨_, rfl⟩
        refine ⟨R0, ?_, fun y G' h => by rw [hR] at h; obtain ⟨rfl, rfl⟩ := h; exact k _ (e4.trans e5)⟩
        walk_at "rd"
        by_cases hn0 : n = 0
        · subst hn0
          rw [if_pos rfl]
          refine ⟨false, ⟨by rw [S_len]; simp, by rw [S_len]; rfl⟩, ?_⟩
          rw [if_neg (by decide), hR]
          exact ⟨rfl, by unfold numS; rw [num_zero]⟩
        · rw [if_neg hn0]
          refine ⟨true, ⟨by rw [S_len]; omega, by rw [S_len]; symm; simp; exact TL.numL_ne n⟩, ?_⟩
          rw [if_pos rfl, hR]
          exact ⟨rfl, rfl⟩
end

section
variable {P : Program} {w : World} {K : PySem.W.Frag} {mg : Str → Option Value} {base : Heap}
open SX
/-! ### the text of a row -/
def drawsL : List Nat := [100, 114, 97, 119, 115, 32]
def yesL : List Nat := [121, 101, 115, 32]
def firstL (d : Nat) : List Nat := drawsL ++ TL.numL d
def startL (k : Nat) : List Nat := yesL ++ TL.numL k ++ [32]
def lineL (k c : Nat) : List Nat := startL k ++ TL.numL c
def linesL (cs : List Nat) : List (List Nat) := (List.range cs.length).map fun k => lineL k (cs.getD k 0)
def pageP (cs : List Nat) : List (List Nat) := firstL (cs.length - 1) :: linesL cs
def pageL (cs : List Nat) : List Nat := TL.joinL [10] (pageP cs)
abbrev pageS (cs : List Nat) : Str := S (pageL cs)
def natsI (cs : List Int) : List Nat := cs.map Int.toNat
/-- a row whose counts have at most 31 figures -/
def RowSm (cs : List Int) : Prop := 2 ≤ cs.length ∧ cs.length ≤ 6 ∧ ∀ c ∈ cs, 0 ≤ c ∧ c < 10 ^ 31
theorem eE : Str.empty = S [] := rfl
theorem eYes : Str.ofString "yes " = S yesL := by decide +kernel
theorem eDraws : Str.ofString "draws " = S drawsL := by decide +kernel
theorem eSp : Str.ofString " " = S [32] := by decide +kernel
theorem eNl : Str.ofString "\n" = S [10] := by decide +kernel
theorem sum_len {L : List (List Nat)} {b : Nat} (h : ∀ l ∈ L, l.length ≤ b) : (L.map List.length).sum ≤ L.length * b := by
  induction L with
  | nil => simp
  | cons l L ih =>
    have := ih fun x hx => h x (List.mem_cons_of_mem _ hx)
    have := h l List.mem_cons_self
    simp only [List.map_cons, List.sum_cons, List.length_cons, Nat.succ_mul]
    omega
theorem page_len {cs : List Nat} {l : List Nat} (h : l ∈ pageP cs) (h6 : cs.length ≤ 6) (hc : ∀ c ∈ cs, c < 10 ^ 31) : l.length ≤ 100 := by
  unfold pageP linesL at h
  rcases List.mem_cons.mp h with rfl | h
  · have := TL.numL_len (n := cs.length - 1) (k := 1) (by decide) (by omega)
    simp [firstL, drawsL]
    omega
  · obtain ⟨k, hk, rfl⟩ := List.mem_map.mp h
    have hk := List.mem_range.mp hk
    have l1 := TL.numL_len (n := k) (k := 1) (by decide) (by omega)
    have l2 : (TL.numL (cs.getD k 0)).length ≤ 31 := num_len31 (by
      rw [List.getD_eq_getElem?_getD, List.getElem?_eq_getElem hk]
      exact hc _ (List.getElem_mem hk))
    simp only [lineL, startL, yesL, List.length_append, List.length_cons, List.length_nil]
    omega
def spText (K : PySem.W.Frag) (C : Addr) : Sp := fun vs H Q _ => ∃ (x : V) (ps : List Int), vs = [x] ∧ IsRow K C H x ps ∧ RowSm ps ∧ ∀ H', Ex H H' → Q (.str (pageS (natsI ps))) H'
theorem scText : FnScope ["self", "lines", "yes", "count"] ["self"] (defScope (inClass (top 20) 5)) := ⟨rfl, rfl, rfl, by decide +kernel, rfl, by decide +kernel, by decide +kernel⟩
theorem ok_text {C f : Addr} {fd : FuncData} (F : Fun K "text" "Row.text" (inClass (top 20) 5) f fd) (B : Bi mg) (RC : RowC K mg C) (RT : RowT P w K mg base C) (hwrite_decimal : Has P w K mg base "write_decimal" 1 ["number"] spWrite) : FnOk P w K mg base CX0 3 f fd ["self"] (spText K C) := by
  have sc := scText
  refine F.ok sc (fun vs H Q E h => ?_) (fun cdv A outer s H vs Q E hr h => ?_)
  · obtain ⟨x, ps, rfl, _⟩ := h
    rfl
  · obtain ⟨x, ps, rfl, hrow, hsm, k⟩ := h
    refine ⟨_, (pss_cons (ps_setLc (i := 1) (own := [("yes", 2), ("count", 3)]) (g := gTup K 2 (gCons (gName 2) (gCons (gName 3) gNil))) (tt := tYes) rfl sc.nd rfl rfl (sw_true rfl rfl rfl (by decide +kernel)) (pi_enumT (by rfl) B.enumerate (pa_cons (kFld (K := K) (pv 0) rfl) pa_nil)) (blkOk_by (N := (["self", "lines", "yes", "count"] : List Str)) (sc := defScope (inClass (top 20) 5)) (by decide +kernel)) (fun _ _ _ _ _ => (pg_tup rfl (pgs_cons (pg_name (i := 2) sc.nd rfl (by first | exact Or.inl rfl | exact Or.inr rfl)) (pgs_cons (pg_name (i := 3) sc.nd rfl (by first | exact Or.inl rfl | exact Or.inr rfl)) pgs_nil)))) (fun _ _ _ _ _ => pts_nil) (fun _ _ _ _ _ => (PE.mon (pe_joined (PJ.cons pe_str (PJ.cons (pe_fmt (pv 2)) (PJ.cons pe_str (PJ.cons (pe_fmt (pe_has hwrite_decimal (hr.mono (by decide)) (pa_cons (pv 3) pa_nil))) PJ.nil))))))))
      (pss_one (ps_ret (pe_m1 PySem.F.slot_str_join PySem.F.type_str_join (kJoin (K := K)) pe_str (pe_lstN (pa_cons (pe_joined (PJ.cons pe_str (PJ.cons (pe_fmt (kDraws RT (hr.mono (by decide)) (pv 0))) PJ.nil))) (kStar (K := K) (pv 1) pa_nil))))))), ?_⟩
    walk_at "rd"
    have hrow0 := hrow
    obtain ⟨a, dx, p, ex, hA, hS⟩ := hrow
    subst ex
    obtain ⟨l2, l6, sm⟩ := hsm
    have p60 : sizeLine = 16777216 := by rw [sizeLine_eq]
    refine ⟨a, rfl, _, _, _, hA, RC.cl, RC.nC, _, look_counts p, ?_⟩
    walk_at "rd"
    refine ⟨⟨_, hS⟩, fun Dd hD => ?_⟩
    refine lcE (fun i y _ => y = .str (S (lineL i ((natsI ps).getD i 0)))) (fun _ _ _ _ _ h => h) hD hS (by rw [List.length_map]; omega) (gm_tup (gm_cons gm_name (gm_cons gm_name gm_nil))) ?_ ?_
    · intro i v T H2 hv e2 hT
      obtain ⟨c, hc, rfl⟩ := map_int_get hv
      have hi := (List.getElem?_eq_some_iff.mp hc).1
      obtain ⟨c0, c31⟩ := sm c (List.mem_of_getElem? hc)
      obtain ⟨n, rfl⟩ : ∃ n : Nat, c = (n : Int) := ⟨c.toNat, by omega⟩
      have en : (natsI ps).getD i 0 = n := by
        unfold natsI
        rw [List.getD_eq_getElem?_getD, List.getElem?_map, hc]
        rfl
      have p31 : (10 ^ 31 : Int) = ((10 ^ 31 : Nat) : Int) := by decide
      have n31 : n < 10 ^ 31 := by omega
      have li := TL.numL_len (n := i) (k := 1) (by decide) (by omega)
      have ln := num_len31 n31
      rw [en]
      walk_at "rd"
      refine ⟨_, .of hT, rfl, ?_⟩
      walk_at "rd"
      obtain ⟨R1, hR1⟩ : ∃ R : VK, R = fun v H' => Ex H2 H' ∧ v = .str (S (lineL i n)) := ⟨_, rfl⟩
      refine ⟨R1, ?_, fun v H' h => by rw [hR1] at h; exact h⟩
      walk_at "rd"
      rw [eYes, eSp, eE, num_S]
      simp only [S_cat, List.nil_append, S_len]
      refine ⟨by simp [yesL]; omega, log1920 (by rw [Int.natAbs_natCast]; exact Nat.lt_of_lt_of_le (show i < 2 ^ 3 by omega) (Nat.pow_le_pow_right (by decide) (by decide))), by simp [yesL]; omega, by simp [yesL]; omega, ?_⟩
      refine ⟨n, rfl, Nat.lt_of_lt_of_le n31 (by decide), fun H3 e3 => ?_⟩
      have ec : S (yesL ++ TL.numL i ++ [32]) ++ numS n = S (lineL i n) := S_cat _ _
      have el : (S (lineL i n)).length ≤ 100 := by rw [S_len]; simp [lineL, startL, yesL]; omega
      refine .inl ⟨_, rfl, by rw [S_len]; omega, ?_⟩
      rw [ec]
      refine ⟨by omega, ?_⟩
      rw [hR1]
      exact ⟨e3, rfl⟩
    · intro H2 ys e2 hy hl hr2
      rw [List.length_map] at hl
      have ey : ys = (linesL (natsI ps)).map (fun l => V.str (S l)) := by
        apply List.ext_getElem?
        intro i
        have ln : (natsI ps).length = ps.length := by simp [natsI]
        by_cases hi : i < ys.length
        · rw [List.getElem?_eq_getElem hi, hr2 i _ (List.getElem?_eq_getElem hi)]
          unfold linesL
          rw [List.map_map, List.getElem?_map, List.getElem?_range (by omega)]
          rfl
        · rw [List.getElem?_eq_none (by omega), List.getElem?_eq_none (by simp [linesL]; omega)]
      have en : (natsI ps).length = ps.length := by simp [natsI]
      have ln1 := TL.numL_len (n := ps.length - 1) (k := 1) (by decide) (by omega)
      have el : (ps.length : Int) - 1 = ((ps.length - 1 : Nat) : Int) := by omega
      rw [eDraws, eNl, eE]
      refine ⟨⟨_, rfl⟩, by simp only [S_cat, S_len]; simp [drawsL]; omega, ps, hrow0.kp e2.kp, ?_⟩
      rw [el, num_S]
      have ef : S [] ++ S drawsL ++ S (TL.numL (ps.length - 1)) = S (firstL (ps.length - 1)) := by
        rw [S_cat, S_cat]
        rfl
      rw [ef]
      refine ⟨log1920 (by rw [Int.natAbs_natCast]; exact Nat.lt_of_lt_of_le (show ps.length - 1 < 2 ^ 3 by omega) (Nat.pow_le_pow_right (by decide) (by decide))), by rw [S_len]; simp [firstL, drawsL]; omega, ?_⟩
      rw [r_star]
      walk_at "rd"
      refine ⟨_, .inr (.of hy), ?_⟩
      rw [ey]
      refine ⟨by simp [linesL]; omega, fun q H3 n3 e3 t3 => ?_⟩
      have ep : (V.str (S (firstL (ps.length - 1))) :: ((linesL (natsI ps)).map (fun l => V.str (S l)) ++ [])) = ((pageP (natsI ps)).map S).map V.str := by
        unfold pageP
        rw [en]
        simp
      have lp : ∀ l ∈ pageP (natsI ps), l.length ≤ 100 := fun l hl => page_len hl (by omega) fun c hc => by
        obtain ⟨z, hz, rfl⟩ := List.mem_map.mp hc
        have := sm z hz
        have p31 : (10 ^ 31 : Int) = ((10 ^ 31 : Nat) : Int) := by decide
        omega
      refine ⟨_, q, (pageP (natsI ps)).map S, rfl, rfl, .inl (.of (by rw [t3]; exact congrArg (fun z => some (HO.lst z)) ep)), ?_, ?_⟩
      · have := sum_len lp
        have l7 : (pageP (natsI ps)).length ≤ 7 := by simp [pageP, linesL]; omega
        rw [lens, List.length_map, S_len]
        have e1 : ((pageP (natsI ps)).map fun x => x.length) = (pageP (natsI ps)).map List.length := rfl
        rw [e1]
        simp only [List.length_cons, List.length_nil]
        omega
      · rw [join_S]
        exact k _ (e2.trans e3)
def spLenR (K : PySem.W.Frag) (C : Addr) : Sp := fun vs H Q _ => ∃ (x : V) (ps : List Int), vs = [x] ∧ IsRow K C H x ps ∧ RowSm ps ∧ ∀ H', Ex H H' → Q (.int ((ps.length : Nat) - 1 : Int)) H'
theorem scLenR : FnScope ["self"] ["self"] (defScope (inClass (top 20) 8)) := ⟨rfl, rfl, rfl, by decide +kernel, rfl, by decide +kernel, by decide +kernel⟩
theorem ok_lenR {C f : Addr} {fd : FuncData} (F : Fun K "__len__" "Row.__len__" (inClass (top 20) 8) f fd) (B : Bi mg) (RC : RowC K mg C) : FnOk P w K mg base CX0 1 f fd ["self"] (spLenR K C) := by
  have sc := scLenR
  refine F.ok sc (fun vs H Q E h => ?_) (fun cdv A outer s H vs Q E hr h => ?_)
  · obtain ⟨x, ps, rfl, _⟩ := h
    rfl
  · obtain ⟨x, ps, rfl, hrow, hsm, k⟩ := h
    obtain ⟨a, dx, p, ex, hA, hS⟩ := hrow
    subst ex
    refine ⟨_, (pss_one (ps_ret (pe_callB (kLen (K := K)) (by rfl) B.len (by decide +kernel) (pa_cons (pe_slice (sl_tupAN (K := K)) (kFld (K := K) (pv 0) rfl) (po_some pe_int) po_none) pa_nil)))), ?_⟩
    walk_at "rd"
    refine ⟨_, _, _, hA, RC.cl, RC.nC, _, look_counts p, ?_⟩
    refine ⟨p, _, rfl, hS, fun q H' e hq => ?_⟩
    refine ⟨q, rfl, _, .inr hq, ?_⟩
    rw [show (1 : Int) = ((1 : Nat) : Int) from rfl, cut_drop, List.length_drop, List.length_map]
    have := k H' e
    obtain ⟨l2, l6, sm⟩ := hsm
    rw [show ((ps.length - 1 : Nat) : Int) = (ps.length : Int) - 1 by omega]
    exact this
def spReprR (K : PySem.W.Frag) (C : Addr) : Sp := fun vs H Q _ => ∃ (x : V) (ps : List Int), vs = [x] ∧ IsRow K C H x ps ∧ RowSm ps ∧ Q (.str (S ([82, 111, 119, 32, 111, 102, 32] ++ TL.numL (ps.length - 1) ++ [32, 100, 114, 97, 119, 115]))) H
theorem scReprR : FnScope ["self"] ["self"] (defScope (inClass (top 20) 10)) := ⟨rfl, rfl, rfl, by decide +kernel, rfl, by decide +kernel, by decide +kernel⟩
theorem ok_reprR {C f : Addr} {fd : FuncData} (F : Fun K "__repr__" "Row.__repr__" (inClass (top 20) 10) f fd) (RT : RowT P w K mg base C) : FnOk P w K mg base CX0 3 f fd ["self"] (spReprR K C) := by
  have sc := scReprR
  refine F.ok sc (fun vs H Q E h => ?_) (fun cdv A outer s H vs Q E hr h => ?_)
  · obtain ⟨x, ps, rfl, _⟩ := h
    rfl
  · obtain ⟨x, ps, rfl, hrow, hsm, k⟩ := h
    refine ⟨_, (pss_one (ps_ret (pe_joined (PJ.cons pe_str (PJ.cons (pe_fmt (kDraws RT (hr.mono (by decide)) (pv 0))) (PJ.cons pe_str PJ.nil)))))), ?_⟩
    walk_at "rd"
    obtain ⟨l2, l6, sm⟩ := hsm
    have p60 : sizeLine = 16777216 := by rw [sizeLine_eq]
    have el : (ps.length : Int) - 1 = ((ps.length - 1 : Nat) : Int) := by omega
    have eRow : Str.ofString "Row of " = S [82, 111, 119, 32, 111, 102, 32] := by decide +kernel
    have eDr : Str.ofString " draws" = S [32, 100, 114, 97, 119, 115] := by decide +kernel
    have ln := TL.numL_len (n := ps.length - 1) (k := 1) (by decide) (by omega)
    rw [eRow, eDr, eE]
    refine ⟨by simp only [S_cat, S_len]; simp; omega, ps, hrow, ?_⟩
    rw [el, num_S]
    simp only [S_cat, List.nil_append, S_len]
    exact ⟨log1920 (by rw [Int.natAbs_natCast]; exact Nat.lt_of_lt_of_le (show ps.length - 1 < 2 ^ 3 by omega) (Nat.pow_le_pow_right (by decide) (by decide))), by simp; omega, by simp; omega, k⟩
end

section
variable {P : Program} {w : World} {K : PySem.W.Frag} {mg : Str → Option Value} {base : Heap}
open SX
/-! ### rows by their own len, str, repr, bool, text -/
structure RowS (P : Program) (w : World) (K : PySem.W.Frag) (mg : Str → Option Value) (base : Heap) (C : Addr) : Prop where
  rc : RowC K mg C
  text : ∃ p g fd, PropOf K C "text" p g ∧ FnOk P w K mg base CX0 3 g fd ["self"] (spText K C) ∧ Binds K fd ["self"] []
  len : ∃ f fd, OwnSp K C "__len__" f ∧ FnOk P w K mg base CX0 1 f fd ["self"] (spLenR K C) ∧ Binds K fd ["self"] []
  repr : ∃ f fd, OwnSp K C "__repr__" f ∧ FnOk P w K mg base CX0 3 f fd ["self"] (spReprR K C) ∧ Binds K fd ["self"] []
  nob : NoSp K C "__bool__"
section
variable {X : Cx} {C : Addr} {e : Expr} {te : TE} {pos : Pos}
def tText (K : PySem.W.Frag) (C : Addr) (te : TE) : TE := fun σ H Q => te σ H fun x H1 => ∃ ps, IsRow K C H1 x ps ∧ RowSm ps ∧ ∀ H', Ex H1 H' → Q (.str (pageS (natsI ps))) H'
theorem pe_text (T : RowS X.prog X.w X.K X.mg X.base C) (hr : Room 4 X.A) (he : PE X e te) (hab : attributeBase e "text" X.env (eval e X.env) = eval e X.env := by rfl) : PE X (.Attribute e "text" pos) (tText X.K C te) := by
  obtain ⟨pr, g, fd, hp, F, hb⟩ := T.text
  have q := pe_prop (X := X) (pos := pos) (PE.mon he) T.rc.cl hp F hr hb .nil (pass0 (X := X.nox)) hab
  refine ⟨fun pins s σ H Q I hq => q.run pins s σ H Q I ⟨_, hq, ?_⟩⟩
  intro x H1 ⟨ps, hrow, hsm, k⟩
  obtain ⟨a, dx, qa, ex, hA, hS⟩ := id hrow
  exact ⟨a, dx, _, ex, hA, x, ps, by rw [ex], hrow, hsm, k⟩
/-- a call of a def of one argument from a built-in -/
theorem own_run {f a : Addr} {fd : FuncData} {k : Nat} {sp : Sp} {A : Around} {pins : List (Addr × Obj)} {s : Shared} {σ : L2.St} {H : Hp} {Q : VK} (F : FnOk X.prog X.w X.K X.mg X.base CX0 k f fd ["self"] sp) (hb : Binds X.K fd ["self"] []) (I : Inv X pins σ H s) (hr : Room k A) (he : Env0 X.prog X.w X.K X.mg X.base A X.stack s H) (rx : RelV (V.ref a) (Value.ref a)) (h : sp [.ref a] H Q E0)
    {QQ : Value → Shared → Prop} {EE : Value → Shared → Prop} (hk : ∀ u s', EP X pins σ Q u s' → QQ u s') : wpAny (model X.prog X.w) A (call (.ref f) [.ref a]) QQ EE s := by
  have bnd := hb s [.ref a] I.kIn rfl
  rw [List.append_nil] at bnd
  refine wpAny_call (codeAny_mono (F.run A X.stack s H ⟨[.ref a], []⟩ [.ref a] [.ref a] Q E0 hr he bnd (.cons rx .nil) h) fun res s' hq => ?_)
  cases res with
  | error er => exact (show False from hq).elim
  | ok fl =>
    cases fl with
    | next => exact hq.elim
    | brk => exact hq.elim
    | cont => exact hq.elim
    | ret z => exact hk _ _ (I.after hq)
def rLenRow (K : PySem.W.Frag) (C : Addr) : List V → Hp → VK → Prop := fun vs H Q => ∃ (x : V) (ps : List Int), vs = [x] ∧ IsRow K C H x ps ∧ RowSm ps ∧ ∀ H', Ex H H' → Q (.int ((ps.length : Nat) - 1 : Int)) H'
theorem cr_lenRow (T : RowS X.prog X.w X.K X.mg X.base C) (hr : Room 2 X.A) : CallR X (.builtin "len") (rLenRow X.K C) := by
  intro pins s σ H xs us Q I r h
  obtain ⟨x, ps, rfl, hrow, hsm, k⟩ := h
  obtain ⟨a, dx, p, rfl, hA, hS⟩ := id hrow
  obtain ⟨u, rfl, ru⟩ := vals1 r
  obtain rfl : u = Value.ref a := ru
  obtain ⟨f, fd, S, F, hb⟩ := T.len
  obtain ⟨mA, OA, _⟩ := ins_get I.hok hA
  have KI := I.kIn
  have J := I
  obtain ⟨hp, g, d, tk, os⟩ := s
  refine len_own (S.at KI OA.obj rfl obj_len) ?_
  refine own_run F hb J hr.in1 J.env0.in1 rfl (Q := fun v H' => v = .int ((ps.length : Nat) - 1 : Int) ∧ Ex H H') ⟨_, ps, rfl, hrow, hsm, fun H' e => ⟨rfl, e⟩⟩ fun z s' hz => ?_
  obtain ⟨v, H', I', rz, ez, eh⟩ := hz
  subst ez
  obtain ⟨tt, rfl⟩ := rz
  have := hsm.1
  have := hsm.2.1
  exact ⟨_, _, rfl, by omega, by omega, .int _, H', I'.tok _, ⟨_, rfl⟩, k H' eh⟩
def rReprRow (K : PySem.W.Frag) (C : Addr) : List V → Hp → VK → Prop := fun vs H Q => ∃ (x : V) (ps : List Int), vs = [x] ∧ IsRow K C H x ps ∧ RowSm ps ∧ Q (.str (S ([82, 111, 119, 32, 111, 102, 32] ++ TL.numL (ps.length - 1) ++ [32, 100, 114, 97, 119, 115]))) H
theorem cr_reprRow (T : RowS X.prog X.w X.K X.mg X.base C) (hr : Room 4 X.A) : CallR X (.builtin "repr") (rReprRow X.K C) := by
  intro pins s σ H xs us Q I r h
  obtain ⟨x, ps, rfl, hrow, hsm, k⟩ := h
  obtain ⟨a, dx, p, rfl, hA, hS⟩ := id hrow
  obtain ⟨u, rfl, ru⟩ := vals1 r
  obtain rfl : u = Value.ref a := ru
  obtain ⟨f, fd, S, F, hb⟩ := T.repr
  obtain ⟨mA, OA, _⟩ := ins_get I.hok hA
  have KI := I.kIn
  have J := I
  have hun := hr.un
  obtain ⟨hp, g, d, tk, os⟩ := s
  refine repr_own (S.at KI OA.obj rfl obj_repr) (by show X.A.units + 1 < cLine; omega) ?_
  refine own_run F hb J hr.in1 J.env0.in1 rfl (Q := fun v H' => v = _ ∧ H' = H) ⟨_, ps, rfl, hrow, hsm, rfl, rfl⟩ fun z s' hz => ?_
  obtain ⟨v, H', I', rz, ez, eh⟩ := hz
  subst ez eh
  obtain ⟨tt, rfl⟩ := rz
  exact ⟨_, _, rfl, .str _, _, I', ⟨_, rfl⟩, k⟩
def rBoolRow (K : PySem.W.Frag) (C : Addr) : List V → Hp → VK → Prop := fun vs H Q => ∃ (x : V) (ps : List Int), vs = [x] ∧ IsRow K C H x ps ∧ RowSm ps ∧ ∀ H', Ex H H' → Q (.bl true) H'
theorem cr_boolRow (T : RowS X.prog X.w X.K X.mg X.base C) (hr : Room 4 X.A) : CallR X (.type "bool") (rBoolRow X.K C) := by
  intro pins s σ H xs us Q I r h
  obtain ⟨x, ps, rfl, hrow, hsm, k⟩ := h
  obtain ⟨a, dx, p, rfl, hA, hS⟩ := id hrow
  obtain ⟨u, rfl, ru⟩ := vals1 r
  obtain rfl : u = Value.ref a := ru
  obtain ⟨f, fd, S, F, hb⟩ := T.len
  obtain ⟨mA, OA, _⟩ := ins_get I.hok hA
  have KI := I.kIn
  have J := I
  obtain ⟨hp, g, d, tk, os⟩ := s
  refine bool_own (truthy_ownlen T.nob KI OA.obj rfl (S.at KI OA.obj rfl obj_len) ?_)
  have h3 := hr.in1.in1.in1
  refine own_run F hb J h3 J.env0.in1.in1.in1 rfl (Q := fun v H' => v = .int ((ps.length : Nat) - 1 : Int) ∧ Ex H H') ⟨_, ps, rfl, hrow, hsm, fun H' e => ⟨rfl, e⟩⟩ fun z s' hz => ?_
  obtain ⟨v, H', I', rz, ez, eh⟩ := hz
  subst ez
  obtain ⟨tt, rfl⟩ := rz
  have h2 := hsm.1
  have h6 := hsm.2.1
  have nz : (((ps.length : Nat) - 1 : Int) != 0) = true := by
    simp
    omega
  exact ⟨_, _, rfl, by omega, by omega, by rw [nz]; exact ⟨.bl true, H', I'.tok _, rfl, k H' eh⟩⟩
end
section
variable {X : Cx}
/-- a local name that holds the class, called -/
def tRowV (K : PySem.W.Frag) (C : Addr) (i : Nat) (t : TA) : TE := fun σ H Q => σ[i]? = some (some (.ref C)) ∧ tRow K C t σ H Q
theorem pe_rowV {C : Addr} {e : Expr} {es : List Expr} {t : TA} {p pos : Pos} {x : Str} {i : Nat} (T : RowT X.prog X.w X.K X.mg X.base C) (hr : Room 4 X.A) (ha : PA X (e :: es) t) (hN : X.N[i]? = some x) (hv : Vis X.env.scope x) (hd : (x == ("__debug__" : Str)) = false := by decide) (hcd : (x == ("__classdict__" : Str)) = false := by decide)
    (he : starEach (e :: es) X.env = (false, eval e X.env) :: starEach es X.env := by rfl) (hpl : (backTo pos (starEach es X.env)).any (·.1) = false := by rfl) :
    PE X (.Call (.Name x p) (e :: es) [] pos) (tRowV X.K C i t) := by
  obtain ⟨f, fd, M, F, hb⟩ := T.init
  refine ⟨fun pins s σ H Q I h => ?_⟩
  obtain ⟨h0, h⟩ := h
  refine wpAny_Call_Name_kw (thn ((pe_var (pos := p) hN hv hd hcd).run pins s σ H (fun v H1 => v = .ref C ∧ H1 = H) I ⟨.ref C, h0, rfl, rfl⟩) fun u s1 ⟨v, H1, I1, r1, q1⟩ => ?_)
  obtain ⟨rfl, rfl⟩ := q1
  obtain rfl : u = Value.ref C := r1
  have ha' := PA.mon ha
  refine PySem.W.callWith_K (h₀ := X.base) I1.ok.mod.kin M.kp (thn (ha'.run pos pins s1 σ H1 (fun vs H2 => ∃ (y : V) (cs : List Int), vs = [y] ∧ IsInts X.K H2 y cs ∧ RowOk cs ∧ ∀ x H3, Ex H2 H3 → IsRow X.K C H3 x (plainL cs) → Q x H3) I1 ⟨_, h, fun _ _ z => z⟩) fun us s2 ⟨vs, H2, I2, r2, q2⟩ => ⟨I2.kIn, ?_⟩) he hpl
  obtain ⟨y, cs, ev, ⟨qa, ey, hS⟩, ok, k⟩ := q2
  subst ev ey
  refine run_make M F hr hb .nil (pass0 (X := X)) I2 r2 ?_
  intro x dx nx ndx nex
  have e1 : Ex H2 (upd (upd H2 dx (.own x)) x (.ins C dx [])) := fun b o h => by
    rw [upd_ne (ne_of_none h nx), upd_ne (ne_of_none h ndx)]
    exact h
  refine ⟨x, dx, qa, cs, rfl, upd_same, sqT_kp hS e1.kp, ok, fun H3 keep hrow => ⟨rfl, k _ _ (fun b o h => ?_) hrow⟩⟩
  exact keep b o (ne_of_none h nx) (e1 b o h)
def rStrS : List V → Hp → VK → Prop := fun vs H Q => ∃ y : Str, vs = [.str y] ∧ Q (.str y) H
theorem cr_strS : CallR X (.type "str") rStrS := by
  intro pins s σ H xs us Q I r h
  obtain ⟨y, rfl, q⟩ := h
  obtain ⟨u, rfl, t, rfl⟩ := vals1 r
  exact PySem.P.str_of_str ⟨.str _, H, I, ⟨_, rfl⟩, q⟩
end
section
variable {X : Cx} {C : Addr} {e : Expr} {te : TE} {pos : Pos}
theorem kRowV {es : List Expr} {t : TA} {p : Pos} {x : Str} {i : Nat} (T : RowT P w K mg base C) (hr : Room 4 X.A) (ha : PA X (e :: es) t) (hN : X.N[i]? = some x) (hv : Vis X.env.scope x) (hx : At X P w K mg base := by exact ⟨rfl, rfl, rfl, rfl, rfl⟩) (hd : (x == ("__debug__" : Str)) = false := by decide) (hcd : (x == ("__classdict__" : Str)) = false := by decide)
    (he : starEach (e :: es) X.env = (false, eval e X.env) :: starEach es X.env := by rfl) (hpl : (backTo pos (starEach es X.env)).any (·.1) = false := by rfl) :
    PE X (.Call (.Name x p) (e :: es) [] pos) (tRowV K C i t) := by
  obtain ⟨h1, h2, h3, h4, h5⟩ := hx
  subst h1 h2 h3 h4 h5
  exact pe_rowV T hr ha hN hv hd hcd he hpl
theorem r_rowV {i : Nat} {t : TA} {σ : L2.St} {H : Hp} {Q : VK} : tRowV K C i t σ H Q = (σ[i]? = some (some (.ref C)) ∧ tRow K C t σ H Q) := rfl
theorem kText (T : RowS P w K mg base C) (hr : Room 4 X.A) (he : PE X e te) (hx : At X P w K mg base := by exact ⟨rfl, rfl, rfl, rfl, rfl⟩) (hab : attributeBase e "text" X.env (eval e X.env) = eval e X.env := by rfl) : PE X (.Attribute e "text" pos) (tText K C te) := by
  obtain ⟨h1, h2, h3, h4, h5⟩ := hx
  subst h1 h2 h3 h4 h5
  exact pe_text T hr he hab
theorem kLenRow (T : RowS P w K mg base C) (hr : Room 2 X.A) (hx : At X P w K mg base := by exact ⟨rfl, rfl, rfl, rfl, rfl⟩) : CallR X (.builtin "len") (rLenRow K C) := by
  obtain ⟨h1, h2, h3, h4, h5⟩ := hx
  subst h1 h2 h3 h4 h5
  exact cr_lenRow T hr
theorem kReprRow (T : RowS P w K mg base C) (hr : Room 4 X.A) (hx : At X P w K mg base := by exact ⟨rfl, rfl, rfl, rfl, rfl⟩) : CallR X (.builtin "repr") (rReprRow K C) := by
  obtain ⟨h1, h2, h3, h4, h5⟩ := hx
  subst h1 h2 h3 h4 h5
  exact cr_reprRow T hr
theorem kBoolRow (T : RowS P w K mg base C) (hr : Room 4 X.A) (hx : At X P w K mg base := by exact ⟨rfl, rfl, rfl, rfl, rfl⟩) : CallR X (.type "bool") (rBoolRow K C) := by
  obtain ⟨h1, h2, h3, h4, h5⟩ := hx
  subst h1 h2 h3 h4 h5
  exact cr_boolRow T hr
theorem r_text {te : TE} {σ : L2.St} {H : Hp} {Q : VK} : tText K C te σ H Q = te σ H fun x H1 => ∃ ps, IsRow K C H1 x ps ∧ RowSm ps ∧ ∀ H', Ex H1 H' → Q (.str (pageS (natsI ps))) H' := rfl
end
end

local macro_rules | `(tactic| walk_at "rd") => `(tactic| try simp only [r_seq, r_asg, r_name, r_ifS, r_next, r_ret, r_retN, r_drop, r_test, r_B, r_if, r_cons, r_nil, r_cb, r_tF, r_part, r_nopart, r_sl, r_par, r_chain, r_or, r_and, r_not, r_orV, r_andV, r_notV, r_op, r_un, r_var, r_c, r_yes, r_I0, r_I, r_U, r_eqI, r_neI, r_eqS, r_neS, r_lst, r_tup, r_for, r_lc, r_list, r_tupI, r_rng1, r_rng2, r_enumT, r_bm, r_fld, r_subT, r_gtup, r_gcons, r_gnil, r_K0, r_K, r_Kb, r_Kbb, wipe, r_never, not_true_eq_false, not_false_eq_true, Int.zero_add, r_counts, r_draws, r_rates, r_row, r_len, r_sfld, r_zipB, r_revT, r_tW, r_seqI, r_m0, r_m1, r_js0, r_js, r_fmt, r_revN, r_rng3, r_enumL, r_text, r_rowV,
  L2.start, List.map_cons, List.map_nil, List.length_cons, List.length_nil, Nat.reduceAdd, Nat.reduceSub, List.reduceReplicate, List.cons_append, List.nil_append, List.set_cons_zero, List.set_cons_succ, List.getElem?_cons_zero, List.getElem?_cons_succ, Option.some.injEq, exists_eq_left', exists_eq_left, exists_eq_right, exists_eq_right', V.int.injEq, V.ref.injEq, V.bl.injEq, V.str.injEq, List.cons.injEq, and_true, true_and, and_false, false_and, or_false, false_or, exists_false, exists_const, and_assoc, reduceCtorEq, if_true, if_false, Bool.false_eq_true, Bool.not_true, Bool.not_false, Bool.not_eq_true', decide_eq_true_eq, decide_eq_false_iff_not, exists_and_left, exists_and_right, exists_eq_or_imp])
section
variable {P : Program} {w : World} {K : PySem.W.Frag} {mg : Str → Option Value} {base : Heap}
open SX
/-! ### is_decimal of any ASCII text -/
def spDec2 : Sp := fun vs H Q _ => ∃ l : List Nat, vs = [.str (S l)] ∧ (∀ c ∈ l, c < 128) ∧ l.length ≤ 100000 ∧ Q (.bl (decM l)) H
theorem has_dec2 (D : Df K mg "is_decimal" (top 14) ["word"]) : Has P w K mg base "is_decimal" 1 ["word"] spDec2 := by
  have sc := scDec
  refine .of D fun f fd F => F.ok sc (fun vs H Q E h => ?_) (fun cdv A outer s H vs Q E hr h => ?_)
  · obtain ⟨n, rfl, _⟩ := h
    rfl
  · obtain ⟨l, rfl, ha, hl, k⟩ := h
    refine ⟨_, (pss_cons (ps_if (PW.pt (pw_or (pt_not (pt_truth (pe_m0 PySem.F.slot_str_isascii PySem.F.type_str_isascii mt_isascii (pv 0)) (by intro _; rfl))) (pw_or1 (pt_not (pt_truth (pe_m0 PySem.F.slot_str_isdigit PySem.F.type_str_isdigit mt_isdigit (pv 0)) (by intro _; rfl)))))) (pss_one (ps_ret pe_bl)) pss_nil)
      (pss_one (ps_ret (pe_or (pe_cmpR op_eq (pv 0) pe_str (nomark _)) (pe_one (pe_not (pe_m1 PySem.F.slot_str_startswith PySem.F.type_str_startswith mt_startswith (pv 0) pe_str))))))), ?_⟩
    walk_at "rd"
    have e0 : Str.ofString "0" = S [48] := by decide +kernel
    refine ⟨⟨_, rfl⟩, true, ascii_S ha ▸ rfl, ?_⟩
    rw [if_neg (by decide)]
    refine ⟨⟨_, rfl⟩, _, rfl, ?_⟩
    rw [digit_S2 ha, e0]
    unfold decM at k
    cases hd : (!l.isEmpty && l.all fun c => decide (48 ≤ c) && decide (c ≤ 57)) with
    | false =>
      rw [if_pos rfl]
      rw [hd, Bool.false_and] at k
      exact k
    | true =>
      rw [if_neg (by decide)]
      rw [hd, Bool.true_and] at k
      by_cases hz : l = [48]
      · rw [if_pos (by rw [hz])]
        subst hz
        exact k
      · rw [if_neg (fun z => hz (S_inj z))]
        refine ⟨⟨_, rfl⟩, ?_⟩
        rw [start_S]
        have e1 : (l == [48]) = false := by simpa using hz
        rw [e1, Bool.false_or] at k
        have e2 : (!(l.take ([48] : List Nat).length == [48])) = (l.head? != some 48) := by
          cases l with
          | nil => rfl
          | cons c t => simp [bne]
        rw [e2]
        exact k
end

section
variable {P : Program} {w : World} {K : PySem.W.Frag} {mg : Str → Option Value} {base : Heap}
open SX
/-! ### _told_counts of any ASCII text -/
def linesOf (l : List Nat) : List (List Nat) := TL.spl [10] 0 [] l
def lineM (i : Nat) (ln : List Nat) : Option Nat := if (ln.take (startL i).length == startL i) && decM (ln.drop (startL i).length) then some (NumText.digitsVal (ln.drop (startL i).length)) else none
def loopM (i : Nat) : List (List Nat) → Option (List Nat)
  | [] => some []
  | ln :: r => (lineM i ln).bind fun n => (loopM (i + 1) r).map (n :: ·)
def toldM (L : List (List Nat)) : Option (List Nat) :=
  if L.length < 3 ∨ 7 < L.length then none else if L.headD [] != firstL (L.length - 2) then none else (loopM 0 L.tail).bind fun cs => if cs.any (0 < ·) then some cs else none
def WordsOk (L : List (List Nat)) : Prop := (∀ ln ∈ L, (∀ c ∈ ln, c < 128) ∧ ln.length ≤ 100000) ∧ ∀ ln ∈ L, ∀ i < 7, decM (ln.drop (startL i).length) = true → (ln.drop (startL i).length).length ≤ 60
theorem loopM_at {T : List (List Nat)} {i : Nat} {ln : List Nat} (h : T[i]? = some ln) : loopM i (T.drop i) = (lineM i ln).bind fun n => (loopM (i + 1) (T.drop (i + 1))).map (n :: ·) := by
  obtain ⟨hi, e⟩ := List.getElem?_eq_some_iff.mp h
  rw [List.drop_eq_getElem_cons hi, e]
  rfl
def spTold2 (K : PySem.W.Frag) : Sp := fun vs H Q _ => ∃ l : List Nat, vs = [.str (S l)] ∧ l.length ≤ 100000 ∧ WordsOk (linesOf l) ∧ ∀ x H', Ex H H' → (match toldM (linesOf l) with | none => x = .non | some cs => IsInts K H' x (cs.map fun c : Nat => (c : Int))) → Q x H'
theorem has_told2 {t : Tok} (B : Bi mg) (c_MOST_DRAWS : mg "MOST_DRAWS" = some (.int 5 t)) (his_decimal : Has P w K mg base "is_decimal" 1 ["word"] spDec2) (hread_decimal : Has P w K mg base "read_decimal" 1 ["word"] spRead) (D : Df K mg "_told_counts" (top 24) ["text"]) : Has P w K mg base "_told_counts" 2 ["text"] (spTold2 K) := by
  have sc : FnScope ["text", "lines", "draws", "counts", "yes", "line", "start", "word"] ["text"] (defScope (top 24)) := ⟨rfl, rfl, rfl, by decide +kernel, rfl, by decide +kernel, by decide +kernel⟩
  refine .of D fun f fd F => F.ok sc (fun vs H Q E h => ?_) (fun cdv A outer s H vs Q E hr h => ?_)
  · obtain ⟨cs, rfl, _⟩ := h
    rfl
  · obtain ⟨l, rfl, hl, hw, k⟩ := h
    refine ⟨_, (pss_cons (ps_if (pt_not (pt_val (pe_callB (kIsi (K := K)) (by rfl) B.isinstance (by decide +kernel) (pa_cons (pv 0) (pa_cons (pe_bltn (v := .ty "str") (by rfl) B.str (by decide +kernel) rfl) pa_nil))))) (pss_one (ps_ret pe_non)) pss_nil)
      (pss_cons (ps_set (i := 1) sc.nd rfl (by first | exact Or.inl rfl | exact Or.inr rfl) (pe_m1 PySem.F.slot_str_split PySem.F.type_str_split mt_split (pv 0) pe_str))
      (pss_cons (ps_set (i := 2) sc.nd rfl (by first | exact Or.inl rfl | exact Or.inr rfl) (pe_op op_sub (pe_callB (kLen (K := K)) (by rfl) B.len (by decide +kernel) (pa_cons (pv 1) pa_nil)) pe_int))
      (pss_cons (ps_if (PW.pt (pw_or (pt_cmpR op_lt (pv 2) pe_int (nomark _)) (pw_or (pt_cmpR op_gt (pv 2) (pe_glob (v := .int 5) rfl c_MOST_DRAWS ⟨_, rfl⟩) (nomark _)) (pw_or1 (pt_cmpR op_ne (pe_ix (ixL (K := K)) (pv 1) pe_int (fun _ _ => rfl)) (pe_joined (PJ.cons pe_str (PJ.cons (pe_fmt (pv 2)) PJ.nil))) (nomark _)))))) (pss_one (ps_ret pe_non)) pss_nil)
      (pss_cons (ps_set (i := 3) sc.nd rfl (by first | exact Or.inl rfl | exact Or.inr rfl) (pe_lstN pa_nil))
      (pss_cons (ps_for PassesOwn.never rfl (pi_enum (by rfl) B.enumerate (pa_cons (pe_slice (slL (K := K)) (pv 1) (po_some pe_int) po_none) pa_nil)) (pg_tup rfl (pgs_cons (pg_name (i := 4) sc.nd rfl (by first | exact Or.inl rfl | exact Or.inr rfl)) (pgs_cons (pg_name (i := 5) sc.nd rfl (by first | exact Or.inl rfl | exact Or.inr rfl)) pgs_nil)))
      (pss_cons (ps_set (i := 6) sc.nd rfl (by first | exact Or.inl rfl | exact Or.inr rfl) (pe_joined (PJ.cons pe_str (PJ.cons (pe_fmt (pv 4)) (PJ.cons pe_str PJ.nil)))))
      (pss_cons (ps_set (i := 7) sc.nd rfl (by first | exact Or.inl rfl | exact Or.inr rfl) (pe_slice C8.sl_txt (pv 5) (po_some (pe_callB call_len_str (by rfl) B.len (by decide +kernel) (pa_cons (pv 6) pa_nil))) po_none))
      (pss_cons (ps_if (PW.pt (pw_or (pt_not (pt_truth (pe_m1 PySem.F.slot_str_startswith PySem.F.type_str_startswith mt_startswith (pv 5) (pv 6)) (by intro _; rfl))) (pw_or1 (pt_not (pt_val (pe_has his_decimal (hr.mono (by decide)) (pa_cons (pv 7) pa_nil))))))) (pss_one (ps_ret pe_non)) pss_nil)
      (pss_one (ps_expr (pe_bm PySem.F.plainAttrs_list PySem.F.slot_list_append PySem.F.type_list_append mt_append (pv 3) (pa_cons (pe_has hread_decimal (hr.mono (by decide)) (pa_cons (pv 7) pa_nil)) pa_nil))))))))
      (pss_one (ps_ret (PE.mon (pe_ifExp (pt_cmpR op_gt (pe_callB (kMax (K := K) rfl) (by rfl) B.max (by decide +kernel) (pa_cons (pv 3) pa_nil)) pe_int (nomark _)) (pe_callTy (kTuple (K := K)) (by rfl) B.tuple (by decide +kernel) (pa_cons (pv 3) pa_nil)) pe_non)))))))))), ?_⟩
    walk_at "rd"
    have p60 : sizeLine = 16777216 := by rw [sizeLine_eq]
    refine ⟨_, _, _, _, true, rfl, .ty "str", .base (.str _), kit_ty (by decide +kernel), ?_⟩
    refine ⟨true, rfl, ?_⟩
    rw [if_neg (by decide), eNl]
    refine ⟨⟨_, rfl⟩, by decide, by rw [S_len]; omega, ?_⟩
    rw [split_S (by decide) (by decide)]
    have eL : TL.spl [10] 0 [] l = linesOf l := rfl
    rw [eL]
    generalize hLn : linesOf l = L at k hw
    intro Ls hLs
    have e1 : Ex H (upd H Ls (.lst ((L.map S).map V.str))) := Ex.new hLs
    have t1 : (upd H Ls (.lst ((L.map S).map V.str))) Ls = some (.lst ((L.map S).map V.str)) := upd_same
    generalize upd H Ls (.lst ((L.map S).map V.str)) = G1 at e1 t1
    refine ⟨Ls, rfl, _, .inl (.of t1), ?_⟩
    rw [List.length_map, List.length_map]
    by_cases h3 : L.length < 3
    · rw [if_pos (by omega)]
      refine k _ _ e1 ?_
      have hm : toldM L = none := by
        unfold toldM
        rw [if_pos (.inl h3)]
      rw [hm]
    rw [if_neg (by omega)]
    by_cases h7 : 7 < L.length
    · rw [if_pos (by omega)]
      refine k _ _ e1 ?_
      have hm : toldM L = none := by
        unfold toldM
        rw [if_pos (.inr h7)]
      rw [hm]
    rw [if_neg (by omega)]
    obtain ⟨hd, tl, rfl⟩ : ∃ hd tl, L = hd :: tl := by
      cases L with
      | nil => simp at h3
      | cons a b => exact ⟨a, b, rfl⟩
    have lt : (hd :: tl).length = tl.length + 1 := rfl
    have g0 : atI (((hd :: tl).map S).map V.str) 0 = some (.str (S hd)) := by
      unfold atI
      simp
      rw [show ixN (tl.length + 1) 0 = some 0 by unfold ixN; simp]
      rfl
    refine q_ixL (.of t1) g0 ?_
    obtain ⟨dn, hdn⟩ : ∃ dn : Nat, dn = (hd :: tl).length - 2 := ⟨_, rfl⟩
    have ed : (((hd :: tl).length : Nat) : Int) - 2 = ((dn : Nat) : Int) := by omega
    have ln1 := TL.numL_len (n := dn) (k := 1) (by decide) (by omega)
    rw [ed, eDraws, eE, num_S]
    have ef : S [] ++ S drawsL ++ S (TL.numL dn) = S (firstL dn) := by
      rw [S_cat, S_cat]
      rfl
    rw [ef]
    refine ⟨by rw [S_cat, S_len]; simp [drawsL]; omega, log1920 (by rw [Int.natAbs_natCast]; exact Nat.lt_of_lt_of_le (show dn < 2 ^ 3 by omega) (Nat.pow_le_pow_right (by decide) (by decide))), by rw [S_len]; simp only [firstL, drawsL, List.length_append, List.length_cons, List.length_nil]; omega, ?_⟩
    refine ⟨rfl, _, rfl, ?_⟩
    by_cases hf : hd = firstL dn
    rotate_left
    · rw [if_pos (by simp; exact hf)]
      refine k _ _ e1 ?_
      have hm : toldM (hd :: tl) = none := by
        unfold toldM
        rw [← hdn, if_neg (by omega), if_pos (by simpa using hf)]
      rw [hm]
    rw [if_neg (by rw [← hf]; simp)]
    have hm : toldM (hd :: tl) = (loopM 0 tl).bind fun cs => if cs.any (0 < ·) then some cs else none := by
      unfold toldM
      rw [← hdn, if_neg (by omega), if_neg (by rw [List.headD_cons, ← hf]; simp)]
      rfl
    rw [hm] at k
    refine ⟨by omega, fun Cn G2 n2 e2 t2 => ?_⟩
    walk_at "rd"
    have t1' := e2 _ _ t1
    refine ⟨Ls, _, rfl, .of t1', fun Ds G3 n3 e3 t3 => ?_⟩
    rw [show (1 : Int) = ((1 : Nat) : Int) from rfl, cut_drop, show ((((hd :: tl).map S).map V.str)).drop 1 = (tl.map S).map V.str from rfl] at t3
    have t2' := e3 _ _ t2
    have e03 := (e1.trans e2).trans e3
    have fresh : H Cn = none := by
      cases z : H Cn with
      | none => rfl
      | some o => rw [e1 _ _ z] at n2; cases n2
    refine ⟨Ds, rfl, ⟨_, .of t3⟩, ?_⟩
    have dc : Ds ≠ Cn := fun z => by
      rw [z] at n3
      rw [t2] at n3
      cases n3
    obtain ⟨Pv, hP⟩ : ∃ P : Nat → L2.St → Hp → Prop, P = fun i σ' G => Ex H G ∧ G Ds = some (.lst ((tl.map S).map V.str)) ∧ ∃ cs : List Nat, loopM 0 tl = (loopM i (tl.drop i)).map (cs ++ ·) ∧ cs.length = i ∧ G Cn = some (.lst ((cs.map fun c : Nat => (c : Int)).map V.int)) ∧ ∃ z0 z1 z2 z4 z5 z6 z7 : Option V, σ' = [z0, z1, z2, some (.ref Cn), z4, z5, z6, z7] := ⟨_, rfl⟩
    refine loopEl (xs := (tl.map S).map V.str) Pv (by rw [hP]; exact ⟨e03, t3, [], by simp, rfl, by rw [t2']; rfl, _, _, _, _, _, _, _, rfl⟩) (fun i σ' G _ h => by rw [hP] at h; exact .of h.2.1) ?_ ?_
    · intro i x σ' G T G4 hx h e4 hT
      rw [hP] at h
      obtain ⟨eG, hDs, cs, hcs, hlc, hCn, z0, z1, z2, z4, z5, z6, z7, rfl⟩ := h
      have hi : i < tl.length := by
        have := (List.getElem?_eq_some_iff.mp hx).1
        simpa using this
      obtain ⟨ln, hln, rfl⟩ : ∃ ln, tl[i]? = some ln ∧ x = .str (S ln) := by
        rw [List.getElem?_map, List.getElem?_map, List.getElem?_eq_getElem hi] at hx
        exact ⟨_, List.getElem?_eq_getElem hi, (Option.some.inj hx).symm⟩
      have hmem : ln ∈ hd :: tl := List.mem_cons_of_mem _ (List.mem_of_getElem? hln)
      obtain ⟨lna, lnl⟩ := hw.1 ln hmem
      have hword := hw.2 ln hmem i (by omega)
      rw [loopM_at hln] at hcs
      walk_at "rd"
      refine ⟨_, .of hT, rfl, ?_⟩
      walk_at "rd"
      rw [eYes, eSp, num_S]
      have es : S [] ++ S yesL ++ S (TL.numL i) ++ S [32] = S (startL i) := by
        rw [S_cat, S_cat, S_cat]
        rfl
      rw [es]
      have li := TL.numL_len (n := i) (k := 1) (by decide) (by omega)
      have lsi : (startL i).length ≤ 6 := by simp only [startL, yesL, List.length_append, List.length_cons, List.length_nil]; omega
      refine ⟨by rw [S_cat, S_len]; simp [yesL]; omega, log1920 (by rw [Int.natAbs_natCast]; exact Nat.lt_of_lt_of_le (show i < 2 ^ 3 by omega) (Nat.pow_le_pow_right (by decide) (by decide))), by rw [S_cat, S_cat, S_len]; simp [yesL]; omega, by rw [S_len]; omega, by rw [S_len]; omega, ?_⟩
      refine ⟨_, rfl, by rw [S_len]; omega, ?_⟩
      rw [S_len, slice_from (by omega), Int.toNat_natCast, start_S]
      refine ⟨⟨_, rfl⟩, _, rfl, ?_⟩
      have hlm : lineM i ln = if (ln.take (startL i).length == startL i) && decM (ln.drop (startL i).length) then some (NumText.digitsVal (ln.drop (startL i).length)) else none := rfl
      generalize hst : (ln.take (startL i).length == startL i) = st at *
      generalize hwd : ln.drop (startL i).length = wd at *
      have nonek : lineM i ln = none → ∀ G', Ex G4 G' → Q .non G' := fun hz G' e' => by
        rw [hz] at hcs
        refine k _ _ ((eG.trans e4).trans e') ?_
        rw [hcs]
        rfl
      cases st with
      | false =>
        rw [if_pos rfl]
        exact nonek (by rw [hlm]; rfl) _ (Ex.refl _)
      | true =>
        rw [if_neg (by decide)]
        have wda : ∀ c ∈ wd, c < 128 := fun c hc => by
          rw [← hwd] at hc
          exact lna c (List.mem_of_mem_drop hc)
        have wdl : wd.length ≤ 100000 := by
          rw [← hwd, List.length_drop]
          omega
        refine ⟨wd, rfl, wda, wdl, decM wd, rfl, ?_⟩
        cases hdm : decM wd with
        | false =>
          rw [if_pos rfl]
          exact nonek (by rw [hlm, hdm]; rfl) _ (Ex.refl _)
        | true =>
          rw [if_neg (by decide)]
          have w60 := hword hdm
          have hln2 : lineM i ln = some (NumText.digitsVal wd) := by
            rw [hlm, hdm]
            rfl
          have dig : NumText.AllDigits wd := fun c hc => by
            simp only [decM, Bool.and_eq_true, List.all_eq_true, decide_eq_true_eq] at hdm
            exact hdm.1.2 c hc
          have hCn4 := e4 _ _ hCn
          refine ⟨.inl ⟨rfl, _, .of hCn4⟩, NumText.digitsVal wd, ?_, val_lt dig w60, fun G5 e5 => ?_⟩
          · unfold numS
            rw [num_back _ rfl hdm]
          have hCn5 := e5 _ _ hCn4
          refine ⟨Cn, _, _, rfl, rfl, hCn5, Nat.lt_of_lt_of_le (show _ < 1000 by simp; omega) (by decide), ?_⟩
          rw [hP]
          rw [hln2] at hcs
          refine ⟨fun b o hb => ?_, ?_, cs ++ [NumText.digitsVal wd], ?_, by simp [hlc], ?_, _, _, _, _, _, _, _, rfl⟩
          · rw [upd_ne (ne_of_none hb fresh)]
            exact e5 _ _ (e4 _ _ (eG _ _ hb))
          · rw [upd_ne dc]
            exact e5 _ _ (e4 _ _ hDs)
          · rw [hcs]
            simp only [Option.bind_some, Option.map_map]
            congr 1
            funext r
            simp
          · rw [upd_same, List.map_append, List.map_append]
            rfl
    · intro σ' G h
      rw [hP] at h
      obtain ⟨eG, hDs, cs, hcs, hlc, hCn, z0, z1, z2, z4, z5, z6, z7, rfl⟩ := h
      rw [List.length_map, List.length_map] at hcs hlc
      have hend : loopM 0 tl = some cs := by
        rw [hcs, List.drop_of_length_le (Nat.le_refl _)]
        simp [loopM]
      rw [hend] at k
      walk_at "rd"
      obtain ⟨R0, hR⟩ : ∃ R : VK, R = fun y G' => Ex G G' ∧ (if cs.any (0 < ·) then IsInts K G' y (cs.map fun c : Nat => (c : Int)) else y = .non) := ⟨_, rfl⟩
      refine ⟨R0, ?_, fun y G' h => ?_⟩
      · walk_at "rd"
        refine ⟨Cn, _, rfl, .of hCn, by rw [List.length_map]; omega, fun m hm hmx => ?_⟩
        walk_at "rd"
        split
        · rename_i m0
          refine ⟨Cn, _, rfl, .of hCn, fun T5 G5 n5 e5 t5 => ?_⟩
          rw [hR]
          obtain ⟨c, hc, ec⟩ := List.mem_map.mp hm
          have ha : cs.any (0 < ·) = true := List.any_eq_true.mpr ⟨c, hc, by simp; omega⟩
          rw [if_pos ha]
          exact ⟨e5, T5, rfl, .of t5⟩
        · rename_i m0
          rw [hR]
          have ha : ¬ cs.any (0 < ·) = true := fun z => by
            obtain ⟨c, hc, h0⟩ := List.any_eq_true.mp z
            have h1 := hmx _ (List.mem_map.mpr ⟨c, hc, rfl⟩)
            simp at h0
            omega
          exact ⟨Ex.refl _, by rw [if_neg ha]⟩
      · rw [hR] at h
        refine k _ _ (eG.trans h.1) ?_
        have h2 := h.2
        show match (if cs.any (0 < ·) then some cs else none) with | none => y = .non | some cs => IsInts K G' y (cs.map fun c : Nat => (c : Int))
        split at h2
        · rename_i hc
          rw [if_pos hc]
          exact h2
        · rename_i hc
          rw [if_neg hc]
          exact h2
end

section
variable {P : Program} {w : World} {K : PySem.W.Frag} {mg : Str → Option Value} {base : Heap}
open SX
/-! ### Row.read of any ASCII text: a row, or InvalidText -/
def spReadX (K : PySem.W.Frag) (C CT : Addr) : Sp := fun vs H Q E => ∃ l : List Nat, vs = [.ref C, .str (S l)] ∧ l.length ≤ 100000 ∧ WordsOk (linesOf l) ∧
  (∀ cs, toldM (linesOf l) = some cs → RowOk (cs.map fun c : Nat => (c : Int)) ∧ ∀ x H', Ex H H' → IsRow K C H' x (plainL (cs.map fun c : Nat => (c : Int))) → Q x H') ∧
  (toldM (linesOf l) = none → ∀ d H', Ex H H' → H' d = some (.xd [("given", .str (S l))]) → E (.ref CT) (some d) H')
theorem ok_readX {C CT f : Addr} {fd : FuncData} (F : Fun K "read" "Row.read" (inClass (top 20) 1) f fd) (B : Bi mg) (RT : RowT P w K mg base C) (XT : XCls K P CT "given" "given") (nos : mg "super" = none) (c_InvalidText : mg "InvalidText" = some (.ref CT)) (h_told_counts : Has P w K mg base "_told_counts" 2 ["text"] (spTold2 K)) : FnOk P w K mg base (L2.CX P w) 7 f fd ["cls", "text"] (spReadX K C CT) := by
  have sc : FnScope ["cls", "text", "counts"] ["cls", "text"] (defScope (inClass (top 20) 1)) := ⟨rfl, rfl, rfl, by decide +kernel, rfl, by decide +kernel, by decide +kernel⟩
  refine F.okX sc (fun vs H Q E h => ?_) (fun cdv A outer s H vs Q E hr h => ?_)
  · obtain ⟨l, rfl, _⟩ := h
    rfl
  · obtain ⟨l, rfl, hl, hw, k1, k2⟩ := h
    refine ⟨_, (pss_cons (ps_set (i := 2) sc.nd rfl (by first | exact Or.inl rfl | exact Or.inr rfl) (pe_has h_told_counts (hr.mono (by decide)) (pa_cons (pv 1) pa_nil)))
      (pss_cons (ps_if (pt_cmpR op_isN (pv 2) pe_non (nomark _)) (pss_one (ps_raiseX rfl takes_def XT nos (hr.mono (by decide)) c_InvalidText (pv 1))) pss_nil)
      (pss_one (ps_ret (kRowV (i := 0) RT (hr.mono (by decide)) (pa_cons (pv 2) pa_nil) rfl (by first | exact Or.inl rfl | exact Or.inr (Or.inl rfl) | exact Or.inr (Or.inr rfl))))))), ?_⟩
    walk_at "rd"
    refine ⟨l, rfl, hl, hw, fun x H1 e1 hx => ?_⟩
    cases ht : toldM (linesOf l) with
    | none =>
      rw [ht] at hx
      subst hx
      show if V.non = V.non then _ else _
      rw [if_pos rfl]
      exact fun d H2 e2 hd => k2 ht d H2 (e1.trans e2) hd
    | some cs =>
      rw [ht] at hx
      obtain ⟨ok, k3⟩ := k1 cs ht
      obtain ⟨q, rfl, hq⟩ := id hx
      show if V.ref q = V.non then _ else _
      rw [if_neg (by simp)]
      exact ⟨_, hx, ok, fun x H2 e2 hr2 => k3 x H2 (e1.trans e2) hr2⟩
end

section
variable {P : Program} {w : World} {K : PySem.W.Frag} {mg : Str → Option Value} {base : Heap}
open SX
/-! ### is_change of a pair that is one -/
def spIsChange (K : PySem.W.Frag) : Sp := fun vs H Q _ => ∃ (p : Addr) (a n : Int) (l : List Nat), vs = [.ref p, .int n] ∧ SqT K H p [.int a, .str (S l)] ∧ 0 ≤ a ∧ a < n ∧ 10 ∉ l ∧ l.length ≤ 1000 ∧ Q (.bl true) H
theorem has_change (B : Bi mg) (his_whole : Has P w K mg base "is_whole" 1 ["value"] spWhole) (D : Df K mg "is_change" (top 22) ["value", "lines"]) : Has P w K mg base "is_change" 2 ["value", "lines"] (spIsChange K) := by
  have sc : FnScope ["value", "lines", "at", "new"] ["value", "lines"] (defScope (top 22)) := ⟨rfl, rfl, rfl, by decide +kernel, rfl, by decide +kernel, by decide +kernel⟩
  refine .of D fun f fd F => F.ok sc (fun vs H Q E h => ?_) (fun cdv A outer s H vs Q E hr h => ?_)
  · obtain ⟨p, a, n, l, rfl, _⟩ := h
    rfl
  · obtain ⟨p, a, n, l, rfl, hS, a0, a1, h10, hl, k⟩ := h
    refine ⟨_, (pss_cons (ps_if (PW.pt (pw_or (pt_not (pt_val (pe_callB (kIsi (K := K)) (by rfl) B.isinstance (by decide +kernel) (pa_cons (pv 0) (pa_cons (pe_bltn (v := .ty "tuple") (by rfl) B.tuple (by decide +kernel) rfl) pa_nil))))) (pw_or1 (pt_cmpR op_ne (pe_callB (kLen (K := K)) (by rfl) B.len (by decide +kernel) (pa_cons (pv 0) pa_nil)) pe_int (nomark _))))) (pss_one (ps_ret pe_bl)) pss_nil)
      (pss_cons (ps_asg (pv 0) (pg_tup rfl (pgs_cons (pg_name (i := 2) sc.nd rfl (by first | exact Or.inl rfl | exact Or.inr rfl)) (pgs_cons (pg_name (i := 3) sc.nd rfl (by first | exact Or.inl rfl | exact Or.inr rfl)) pgs_nil))))
      (pss_cons (ps_if (PW.pt (pw_or (pt_not (pt_val (pe_has his_whole (hr.mono (by decide)) (pa_cons (pv 2) pa_nil)))) (pw_or (pt_cmpR op_lt (pv 2) pe_int (nomark _)) (pw_or1 (pt_cmpR op_ge (pv 2) (pv 1) (nomark _)))))) (pss_one (ps_ret pe_bl)) pss_nil)
      (pss_one (ps_ret (pe_and (pe_callB (kIsi (K := K)) (by rfl) B.isinstance (by decide +kernel) (pa_cons (pv 3) (pa_cons (pe_bltn (v := .ty "str") (by rfl) B.str (by decide +kernel) rfl) pa_nil))) (pe_one (pe_cmpR op_notInS pe_str (pv 3) (by rfl))))))))), ?_⟩
    walk_at "rd"
    refine ⟨_, _, _, _, true, rfl, .ty "tuple", ty_tup hS, kit_ty (by decide +kernel), true, rfl, ?_⟩
    rw [if_neg (by decide)]
    refine ⟨_, .inr hS, ?_⟩
    rw [if_neg (by simp)]
    refine ⟨_, hS, rfl, ?_⟩
    walk_at "rd"
    refine ⟨a, rfl, true, rfl, ?_⟩
    rw [if_neg (by decide), if_neg (by omega), if_neg (by omega)]
    refine ⟨_, _, _, _, true, rfl, .ty "str", .base (.str _), kit_ty (by decide +kernel), true, rfl, ?_⟩
    rw [if_pos rfl]
    refine ⟨10, _, by rw [eNl], rfl, ?_⟩
    rw [show decide (10 ∈ (S l).cps.toList) = false from decide_eq_false h10]
    exact k
end

section
variable {σ : L2.St} {H : Hp} {Q : VK}
def nDict : TE := fun _ H Q => New H (.dK []) Q
theorem pe_dnewN {X : Cx} {pos : Pos} : PE X (.Dict [] [] pos) nDict := ⟨fun pins s σ H Q I h => pe_dnewK.run pins s σ H Q I h.at⟩
theorem r_dict : nDict σ H Q = New H (.dK []) Q := rfl
theorem r_din {ty td : TE} : tDIn ty td σ H Q = ty σ H fun y H1 => td σ H1 fun x H2 => ∃ a o, x = .ref a ∧ DGet H2 a y o ∧ Q (.bl o.isSome) H2 := rfl
theorem r_dput {D : Ends} {td ty tv : TE} : sDPut td ty tv D σ H = tv σ H fun v H1 => td σ H1 fun x H2 => ty σ H2 fun y H3 => ∃ a H4, x = .ref a ∧ DPut H3 a y v H4 ∧ D.nx σ H4 := rfl
end

local macro_rules | `(tactic| walk_at "rd") => `(tactic| try simp only [r_seq, r_asg, r_name, r_ifS, r_next, r_ret, r_retN, r_drop, r_test, r_B, r_if, r_cons, r_nil, r_cb, r_tF, r_part, r_nopart, r_sl, r_par, r_chain, r_or, r_and, r_not, r_orV, r_andV, r_notV, r_op, r_un, r_var, r_c, r_yes, r_I0, r_I, r_U, r_eqI, r_neI, r_eqS, r_neS, r_lst, r_tup, r_for, r_lc, r_list, r_tupI, r_rng1, r_rng2, r_enumT, r_bm, r_fld, r_subT, r_gtup, r_gcons, r_gnil, r_K0, r_K, r_Kb, r_Kbb, wipe, r_never, not_true_eq_false, not_false_eq_true, Int.zero_add, r_counts, r_draws, r_rates, r_row, r_len, r_sfld, r_zipB, r_revT, r_tW, r_seqI, r_m0, r_m1, r_js0, r_js, r_fmt, r_revN, r_rng3, r_enumL, r_text, r_rowV, r_dict, r_din, r_dput,
  L2.start, List.map_cons, List.map_nil, List.length_cons, List.length_nil, Nat.reduceAdd, Nat.reduceSub, List.reduceReplicate, List.cons_append, List.nil_append, List.set_cons_zero, List.set_cons_succ, List.getElem?_cons_zero, List.getElem?_cons_succ, Option.some.injEq, exists_eq_left', exists_eq_left, exists_eq_right, exists_eq_right', V.int.injEq, V.ref.injEq, V.bl.injEq, V.str.injEq, List.cons.injEq, and_true, true_and, and_false, false_and, or_false, false_or, exists_false, exists_const, and_assoc, reduceCtorEq, if_true, if_false, Bool.false_eq_true, Bool.not_true, Bool.not_false, Bool.not_eq_true', decide_eq_true_eq, decide_eq_false_iff_not, exists_and_left, exists_and_right, exists_eq_or_imp])
section
variable {P : Program} {w : World} {K : PySem.W.Frag} {mg : Str → Option Value} {base : Heap}
open SX
/-! ### _placed: changes put at their lines, or InvalidChanges at the first that falls on a line again -/
def chgKV (cs : List (Nat × List Nat)) : List (Key × V) := cs.map fun c => (Sum.inl ((c.1 : Nat) : Int), V.str (S c.2))
/-- the place of the first change whose line was taken before -/
def againM (i : Nat) (seen : List Nat) : List (Nat × List Nat) → Option Nat
  | [] => none
  | c :: r => if c.1 ∈ seen then some i else againM (i + 1) (seen ++ [c.1]) r
theorem chg_any (l : List (Nat × List Nat)) (k : Nat) : ((chgKV l).any fun kv => decide (kv.1 = (Sum.inl ((k : Nat) : Int) : Key))) = decide (k ∈ l.map (·.1)) := by
  induction l with
  | nil => rfl
  | cons c l ih =>
    show (decide ((Sum.inl ((c.1 : Nat) : Int) : Key) = Sum.inl ((k : Nat) : Int)) || ((chgKV l).any fun kv => decide (kv.1 = (Sum.inl ((k : Nat) : Int) : Key)))) = _
    rw [ih]
    by_cases h : c.1 = k
    · subst h
      simp
    · have h2 : ¬ (Sum.inl ((c.1 : Nat) : Int) : Key) = Sum.inl ((k : Nat) : Int) := fun z => h (by
        have := Sum.inl.inj z
        omega)
      simp [h2, Ne.symm h, fun z => h (Eq.symm z)]
theorem chg_get (l : List (Nat × List Nat)) (k : Nat) : (valV (chgKV l) (Sum.inl ((k : Nat) : Int) : Key)).isSome = decide (k ∈ l.map (·.1)) := by
  rw [← chg_any]
  unfold valV
  rw [Option.isSome_map]
  generalize chgKV l = m
  induction m with
  | nil => rfl
  | cons a m ih =>
    rw [List.find?_cons, List.any_cons]
    cases decide (a.1 = (Sum.inl ((k : Nat) : Int) : Key)) with
    | true => rfl
    | false => simpa using ih
theorem chg_put {l : List (Nat × List Nat)} {c : Nat × List Nat} (h : c.1 ∉ l.map (·.1)) : putK (chgKV l) (Sum.inl ((c.1 : Nat) : Int) : Key) (.str (S c.2)) = chgKV (l ++ [c]) := by
  unfold putK
  rw [chg_any, if_neg (by simpa using h)]
  simp [chgKV]
def ChgAt (K : PySem.W.Frag) (H : Hp) (x : V) (c : Nat × List Nat) : Prop := ∃ p, x = .ref p ∧ SqT K H p [.int ((c.1 : Nat) : Int), .str (S c.2)]
theorem ChgAt.kp {H H' : Hp} {x : V} {c : Nat × List Nat} (h : ChgAt K H x c) (e : Ex H H') : ChgAt K H' x c := by
  obtain ⟨p, rfl, h⟩ := h
  exact ⟨p, rfl, sqT_kp h e.kp⟩
def spPlaced (K : PySem.W.Frag) (CI : Addr) : Sp := fun vs H Q E => ∃ (p : Addr) (xs : List V) (cs : List (Nat × List Nat)) (n : Nat), vs = [.ref p, .int (n : Int)] ∧ SqT K H p xs ∧ xs.length = cs.length ∧ cs.length ≤ 1000 ∧ (∀ (i : Nat) x, xs[i]? = some x → ∃ c, cs[i]? = some c ∧ ChgAt K H x c) ∧ (∀ c ∈ cs, c.1 < n ∧ 10 ∉ c.2 ∧ c.2.length ≤ 1000) ∧
  (againM 0 [] cs = none → ∀ d H', H d = none → Ex H H' → H' d = some (.dK (chgKV cs)) → Q (.ref d) H') ∧
  (∀ i, againM 0 [] cs = some i → ∀ d H', Ex H H' → H' d = some (.xd [("index", .int (i : Int))]) → E (.ref CI) (some d) H')
theorem ok_placed {CI : Addr} (B : Bi mg) (XT : XCls K P CI "index" "index") (nos : mg "super" = none) (c_InvalidChanges : mg "InvalidChanges" = some (.ref CI)) (his_change : Has P w K mg base "is_change" 2 ["value", "lines"] (spIsChange K)) (D : Df K mg "_placed" (top 25) ["changes", "lines"]) : HasX P w K mg base "_placed" 7 ["changes", "lines"] (spPlaced K CI) := by
  have sc : FnScope ["changes", "lines", "placed", "index", "change"] ["changes", "lines"] (defScope (top 25)) := ⟨rfl, rfl, rfl, by decide +kernel, rfl, by decide +kernel, by decide +kernel⟩
  refine .of D fun f fd F => F.okX sc (fun vs H Q E h => ?_) (fun cdv A outer s H vs Q E hr h => ?_)
  · obtain ⟨p, xs, cs, n, rfl, _⟩ := h
    rfl
  · obtain ⟨p, xs, cs, n, rfl, hS, hlen, h1000, hxs, hcs, k1, k2⟩ := h
    refine ⟨_, (pss_cons (ps_if (pt_not (pt_val (pe_callB (kIsi (K := K)) (by rfl) B.isinstance (by decide +kernel) (pa_cons (pv 0) (pa_cons (pe_bltn (v := .ty "tuple") (by rfl) B.tuple (by decide +kernel) rfl) pa_nil))))) (pss_one ps_never) pss_nil)
      (pss_cons (ps_set (i := 2) sc.nd rfl (by first | exact Or.inl rfl | exact Or.inr rfl) pe_dnewN)
      (pss_cons (ps_for (passes_of rfl) rfl (pi_enumT (by rfl) B.enumerate (pa_cons (pv 0) pa_nil)) (pg_tup rfl (pgs_cons (pg_name (i := 3) sc.nd rfl (by first | exact Or.inl rfl | exact Or.inr rfl)) (pgs_cons (pg_name (i := 4) sc.nd rfl (by first | exact Or.inl rfl | exact Or.inr rfl)) pgs_nil)))
      (pss_cons (ps_if (PW.pt (pw_or (pt_not (pt_val (pe_has his_change (hr.mono (by decide)) (pa_cons (pv 4) (pa_cons (pv 1) pa_nil))))) (pw_or1 (pt_cmp (pc_din (Nat.lt_of_le_of_lt (Nat.add_le_add_left (by decide : 1 ≤ 64) _) hr.units) (pe_ix (ixT (K := K)) (pv 4) pe_int (fun _ _ => rfl)) (pv 2)) (by rfl))))) (pss_one (ps_raiseX rfl takes_def XT nos (hr.mono (by decide)) c_InvalidChanges (pv 3))) pss_nil)
      (pss_one (ps_dput (Nat.lt_of_le_of_lt (Nat.add_le_add_left (by decide : 1 ≤ 64) _) hr.units) (pv 2) (pe_ix (ixT (K := K)) (pv 4) pe_int (fun _ _ => rfl)) (pe_ix (ixT (K := K)) (pv 4) pe_int (fun _ _ => rfl)) (by rfl)))))
      (pss_one (ps_ret (pv 2)))))), ?_⟩
    walk_at "rd"
    refine ⟨_, _, _, _, true, rfl, .ty "tuple", ty_tup hS, kit_ty (by decide +kernel), true, rfl, ?_⟩
    rw [if_neg (by decide)]
    intro Dd G0 n0 e0 t0
    obtain ⟨Pv, hP⟩ : ∃ Pv : Nat → L2.St → Hp → Prop, Pv = fun i σ' G => Ex H G ∧ G Dd = some (.dK (chgKV (cs.take i))) ∧ againM 0 [] cs = againM i ((cs.take i).map (·.1)) (cs.drop i) ∧ ∃ z3 z4 : Option V, σ' = [some (.ref p), some (.int (n : Int)), some (.ref Dd), z3, z4] := ⟨_, rfl⟩
    refine ⟨⟨_, sqT_kp hS e0.kp⟩, loopE (xs := xs) Pv (by rw [hP]; exact ⟨e0, t0, rfl, _, _, rfl⟩) (fun i σ' G _ h => by rw [hP] at h; exact sqT_kp hS h.1.kp) ?_ ?_⟩
    · intro i x σ' G T G2 hx h e2 hT
      rw [hP] at h
      obtain ⟨eG, hD, ha, z3, z4, rfl⟩ := h
      obtain ⟨c, hc, hch⟩ := hxs i x hx
      obtain ⟨q, rfl, hq⟩ := (hch.kp eG).kp e2
      have hi := (List.getElem?_eq_some_iff.mp hc).1
      obtain ⟨cn, c10, cl⟩ := hcs c (List.mem_of_getElem? hc)
      have hdr : cs.drop i = c :: cs.drop (i + 1) := by
        obtain ⟨hi2, e⟩ := List.getElem?_eq_some_iff.mp hc
        rw [List.drop_eq_getElem_cons hi2, e]
      have htk : cs.take (i + 1) = cs.take i ++ [c] := by
        rw [List.take_add_one, hc]
        rfl
      walk_at "rd"
      refine ⟨_, .of hT, rfl, ?_⟩
      walk_at "rd"
      refine ⟨q, _, _, c.2, rfl, hq, by omega, by omega, c10, cl, true, rfl, ?_⟩
      rw [if_neg (by decide)]
      have hD2 := e2 _ _ hD
      have g0 : atI [V.int ((c.1 : Nat) : Int), V.str (S c.2)] 0 = some (.int ((c.1 : Nat) : Int)) := rfl
      have g1 : atI [V.int ((c.1 : Nat) : Int), V.str (S c.2)] 1 = some (.str (S c.2)) := rfl
      refine q_ixT hq g0 ⟨_, .k (k := Sum.inl ((c.1 : Nat) : Int)) hD2, ?_⟩
      rw [chg_get]
      rw [hdr] at ha
      by_cases hin : c.1 ∈ (cs.take i).map (·.1)
      · rw [if_pos (by simpa using hin)]
        have ha2 : againM 0 [] cs = some i := by
          rw [ha]
          unfold againM
          rw [if_pos hin]
        exact fun d H2 e hd => k2 i ha2 d H2 ((eG.trans e2).trans e) hd
      · rw [if_neg (by simpa using hin)]
        refine q_ixT hq g1 (q_ixT hq g0 ⟨_, .k (k := Sum.inl ((c.1 : Nat) : Int)) hD2 (Nat.lt_of_lt_of_le (show _ < 2000 by simp [chgKV]; omega) (by decide)), ?_⟩)
        rw [hP]
        refine ⟨fun b o hb => ?_, ?_, ?_, _, _, rfl⟩
        · rw [upd_ne (ne_of_none hb n0)]
          exact e2 _ _ (eG _ _ hb)
        · rw [upd_same, chg_put hin, htk]
        · rw [ha, htk, List.map_append]
          show (if _ then _ else _) = _
          rw [if_neg hin]
          rfl
    · intro σ' G h
      rw [hP] at h
      obtain ⟨eG, hD, ha, z3, z4, rfl⟩ := h
      rw [hlen, List.take_of_length_le (Nat.le_refl _)] at hD
      rw [hlen, List.drop_of_length_le (Nat.le_refl _)] at ha
      walk_at "rd"
      exact k1 ha _ _ n0 eG hD
end

section
variable {P : Program} {w : World} {K : PySem.W.Frag} {mg : Str → Option Value} {base : Heap}
open SX
/-- Row.read that may raise -/
structure RowX (P : Program) (w : World) (K : PySem.W.Frag) (mg : Str → Option Value) (base : Heap) (C CT : Addr) : Prop where
  rc : RowC K mg C
  read : ∃ mc p g fd, ClX.CRead K C mc ∧ ClX.CMet K C mc "read" p g ∧ FnOk P w K mg base (L2.CX P w) 7 g fd ["cls", "text"] (spReadX K C CT) ∧ Binds K fd ["cls", "text"] []
def tReadX (K : PySem.W.Frag) (C CT : Addr) (E : XK) (t : TA) : TE := fun σ H Q => t σ H fun vs H1 => ∃ l : List Nat, vs = [.str (S l)] ∧ l.length ≤ 100000 ∧ WordsOk (linesOf l) ∧
  (∀ cs, toldM (linesOf l) = some cs → RowOk (cs.map fun c : Nat => (c : Int)) ∧ ∀ x H', Ex H1 H' → IsRow K C H' x (plainL (cs.map fun c : Nat => (c : Int))) → Q x H') ∧
  (toldM (linesOf l) = none → ∀ d H', Ex H1 H' → H' d = some (.xd [("given", .str (S l))]) → E (.ref CT) (some d) H')
theorem pe_readX {X : Cx} {C CT : Addr} {E : XK} {e : Expr} {es : List Expr} {t : TA} {p pos apos : Pos} {pl : Sem Bool} (T : RowX X.prog X.w X.K X.mg X.base C CT) (tk : Takes X (offE E)) (hr : Room 7 X.A) (ha : PA X (e :: es) t) (hg : Gl X "Row" := by rfl)
    (hst : starEach (e :: es) X.env = (false, eval e X.env) :: starEach es X.env := by rfl) (hpl : (backTo pos (starEach es X.env)).any (·.1) = false := by rfl)
    (ht : eval (.Call (.Attribute (.Name "Row" p) "read" apos) (e :: es) [] pos) X.env = (do
      let ov ← eval (.Name "Row" p) X.env
      standAt apos.atName
      let (f, first) ← holding [ov] (getMethod ov "read" pl)
      callWith pos f first (backTo pos (starEach (e :: es) X.env)) (backToKw pos (keywordEach [] X.env))) := by rfl) :
    PE X (.Call (.Attribute (.Name "Row" p) "read" apos) (e :: es) [] pos) (tReadX X.K C CT E t) := by
  obtain ⟨mc, pp, g, fd, r, c, F, hb⟩ := T.read
  have F' : FnR X.prog X.w X.K X.mg X.base (L2.CX X.prog X.w) 7 g (fun vs H Q E => vs.length = 2 ∧ spReadX X.K C CT vs H Q E) := fun A outer s H us vs Q E hr e0 rv ⟨l2, h⟩ => by
    have KI : X.K.In s.heap := e0.mod.kin.keeps fun b o e => (e0.bs b o e).1
    have bnd := hb s us KI (by rw [List.append_nil, ← rv.length]; exact l2)
    rw [List.append_nil] at bnd
    exact F.run A outer s H ⟨us, []⟩ us vs Q E hr e0 bnd rv h
  have q := ClX.pe_cmeth (pl := pl) (he := pe_glob (X := X) (x := "Row") (v := .ref C) (pos := p) hg T.rc.mgC rfl) (r := r) (c := c) (F := F') (hr := hr) (hx := passes_call tk fun _ _ _ _ h => h) (ha := PA.mon ha) (hst := hst) (hpl := hpl) (ht := ht)
  refine ⟨fun pins s σ H Q I h => q.run pins s σ H Q I ?_⟩
  refine ⟨rfl, _, h, ?_⟩
  rintro vs H1 ⟨l, rfl, k⟩
  exact ⟨rfl, l, rfl, k⟩
theorem kReadX {X : Cx} {C CT : Addr} {E : XK} {e : Expr} {es : List Expr} {t : TA} {p pos apos : Pos} {pl : Sem Bool} (T : RowX P w K mg base C CT) (tk : Takes X (offE E)) (hr : Room 7 X.A) (ha : PA X (e :: es) t) (hx : At X P w K mg base := by exact ⟨rfl, rfl, rfl, rfl, rfl⟩) (hg : Gl X "Row" := by rfl)
    (hst : starEach (e :: es) X.env = (false, eval e X.env) :: starEach es X.env := by rfl) (hpl : (backTo pos (starEach es X.env)).any (·.1) = false := by rfl)
    (ht : eval (.Call (.Attribute (.Name "Row" p) "read" apos) (e :: es) [] pos) X.env = (do
      let ov ← eval (.Name "Row" p) X.env
      standAt apos.atName
      let (f, first) ← holding [ov] (getMethod ov "read" pl)
      callWith pos f first (backTo pos (starEach (e :: es) X.env)) (backToKw pos (keywordEach [] X.env))) := by rfl) :
    PE X (.Call (.Attribute (.Name "Row" p) "read" apos) (e :: es) [] pos) (tReadX K C CT E t) := by
  obtain ⟨h1, h2, h3, h4, h5⟩ := hx
  subst h1 h2 h3 h4 h5
  exact pe_readX (pl := pl) T tk hr ha hg hst hpl ht
theorem r_readX {C CT : Addr} {E : XK} {t : TA} {σ : L2.St} {H : Hp} {Q : VK} : tReadX K C CT E t σ H Q = t σ H fun vs H1 => ∃ l : List Nat, vs = [.str (S l)] ∧ l.length ≤ 100000 ∧ WordsOk (linesOf l) ∧
  (∀ cs, toldM (linesOf l) = some cs → RowOk (cs.map fun c : Nat => (c : Int)) ∧ ∀ x H', Ex H1 H' → IsRow K C H' x (plainL (cs.map fun c : Nat => (c : Int))) → Q x H') ∧
  (toldM (linesOf l) = none → ∀ d H', Ex H1 H' → H' d = some (.xd [("given", .str (S l))]) → E (.ref CT) (some d) H') := rfl
theorem r_FX9 {sp : Sp} {E : XK} {t : TA} {σ : L2.St} {H : Hp} {Q : VK} : tFX sp E t σ H Q = t σ H fun vs H1 => sp vs H1 Q E := rfl
theorem r_dget2 {td ty tx : TE} {σ : L2.St} {H : Hp} {Q : VK} : tDGet2 td ty tx σ H Q = td σ H fun x H1 => ∃ a, x = .ref a ∧ IsD H1 a ∧ ty σ H1 fun y H2 => tx σ H2 fun z H3 => ∃ o, DGet H3 a y o ∧ Q (o.getD z) H3 := rfl
end

local macro_rules | `(tactic| walk_at "rd") => `(tactic| try simp only [r_seq, r_asg, r_name, r_ifS, r_next, r_ret, r_retN, r_drop, r_test, r_B, r_if, r_cons, r_nil, r_cb, r_tF, r_part, r_nopart, r_sl, r_par, r_chain, r_or, r_and, r_not, r_orV, r_andV, r_notV, r_op, r_un, r_var, r_c, r_yes, r_I0, r_I, r_U, r_eqI, r_neI, r_eqS, r_neS, r_lst, r_tup, r_for, r_lc, r_list, r_tupI, r_rng1, r_rng2, r_enumT, r_bm, r_fld, r_subT, r_gtup, r_gcons, r_gnil, r_K0, r_K, r_Kb, r_Kbb, wipe, r_never, not_true_eq_false, not_false_eq_true, Int.zero_add, r_counts, r_draws, r_rates, r_row, r_len, r_sfld, r_zipB, r_revT, r_tW, r_seqI, r_m0, r_m1, r_js0, r_js, r_fmt, r_revN, r_rng3, r_enumL, r_text, r_rowV, r_dict, r_din, r_dput, r_readX, r_FX9, r_dget2,
  L2.start, List.map_cons, List.map_nil, List.length_cons, List.length_nil, Nat.reduceAdd, Nat.reduceSub, List.reduceReplicate, List.cons_append, List.nil_append, List.set_cons_zero, List.set_cons_succ, List.getElem?_cons_zero, List.getElem?_cons_succ, Option.some.injEq, exists_eq_left', exists_eq_left, exists_eq_right, exists_eq_right', V.int.injEq, V.ref.injEq, V.bl.injEq, V.str.injEq, List.cons.injEq, and_true, true_and, and_false, false_and, or_false, false_or, exists_false, exists_const, and_assoc, reduceCtorEq, if_true, if_false, Bool.false_eq_true, Bool.not_true, Bool.not_false, Bool.not_eq_true', decide_eq_true_eq, decide_eq_false_iff_not, exists_and_left, exists_and_right, exists_eq_or_imp])
section
variable {K : PySem.W.Frag} {g : TG} {te : TE} {tt : TT} {vs : List Nat} {σ : L2.St} {H1 : Hp} {Dd a : Addr} {Q : VK}
open SX
/-- over enumerate of a list -/
theorem lcEl {xs : List V} (R : Nat → V → Hp → Prop) (hR : ∀ i y H H', Kp H H' → R i y H → R i y H') (hD : H1 Dd = none) (hx : SqL K H1 a xs) (hz : xs.length ≤ 100000) (hm : GMono g)
    (hs : ∀ (i : Nat) y T H, xs[i]? = some y → Ex H1 H → H T = some (.tup [.int (i : Nat), y]) → g (.ref T) (wipe σ vs) H fun σ2 H2 => wipe σ2 vs = wipe σ vs ∧ tmE te σ2 H2 fun y H4 => Ex H H4 ∧ R i y H4)
    (hd : LcEnd H1 Dd xs.length R Q) : LcW (Ite K a) g tYes (tmE te) vs σ H1 Dd Q :=
  lcP (walk_enum (K := K) (a := a) (xs := xs)) R hR hD (fun H e => sqL_ex hx e) hz hm (fun i x y T H _ h1 h2 e t => by
    cases h1
    exact hs i y T H h2 e t) hd
/-- the texts of a list for which a test holds -/
theorem lcIfS {j : Nat} (T : List Nat → Bool) {M : List (List Nat)} (hD : H1 Dd = none) (hT : H1 a = some (.lst ((M.map S).map V.str))) (hz : M.length ≤ 1000)
    (hw : ∀ x, wipe ((wipe σ vs).set j (some x)) vs = wipe σ vs)
    (hs : ∀ (l : List Nat) (H : Hp) (S' : Bool → Hp → Prop), l ∈ M → Ex H1 H → S' (T l) H → tt ((wipe σ vs).set j (some (.str (S l)))) H S')
    (hv : ∀ (x : V) (H : Hp) (S' : VK), S' x H → te ((wipe σ vs).set j (some x)) H S')
    (hd : ∀ H, Ex H1 H → H Dd = some (.lst (((M.filter T).map S).map V.str)) → Q (.ref Dd) H) : LcW (Itl K a) (gName j) tt (tmE te) vs σ H1 Dd Q := by
  refine lc_list (xs := (M.map S).map V.str) (fun i H => Ex H1 H ∧ H Dd = some (.lst ((((M.take i).filter T).map S).map V.str))) ⟨Ex.new hD, upd_same⟩ (fun i H _ h => .of (h.1 _ _ hT)) (fun i x H hi h => ?_) (fun H h => ?_)
  · obtain ⟨e, hA⟩ := h
    rw [List.getElem?_map, List.getElem?_map] at hi
    cases ha : M[i]? with
    | none => rw [ha] at hi; cases hi
    | some l =>
      rw [ha] at hi
      cases hi
      have etk : M.take (i + 1) = M.take i ++ [l] := by rw [List.take_add_one, ha]; rfl
      have lacc : ((M.take i).filter T).length ≤ 1000 := by
        refine Nat.le_trans (List.length_filter_le _ _) ?_
        rw [List.length_take]
        omega
      refine ⟨hw _, hs l H _ (List.mem_of_getElem? ha) e ?_⟩
      rw [etk, List.filter_append]
      cases hT2 : T l with
      | true =>
        rw [if_pos rfl]
        refine ⟨fun y H' => y = .str (S l) ∧ H' = H, hv _ _ _ ⟨rfl, rfl⟩, ?_⟩
        rintro y H' ⟨rfl, rfl⟩
        refine ⟨_, hA, Nat.lt_of_lt_of_le (show _ < 1000000 by rw [List.length_map, List.length_map]; omega) (by decide), fun b o hb => ?_, ?_⟩
        · rw [upd_ne (ne_of_none hb hD)]
          exact e _ _ hb
        · rw [upd_same]
          simp [hT2]
      | false =>
        rw [if_neg (by decide)]
        refine ⟨e, ?_⟩
        rw [hA]
        simp [hT2]
  · obtain ⟨e, hA⟩ := h
    rw [List.length_map, List.length_map, List.take_of_length_le (Nat.le_refl _)] at hA
    exact hd H e hA
theorem page_free {cs : List Nat} : ∀ l ∈ pageP cs, 10 ∉ l := by
  intro l hl
  have nf : ∀ n, 10 ∉ TL.numL n := fun n => TL.numL_free (by decide)
  unfold pageP linesL at hl
  rcases List.mem_cons.mp hl with rfl | h
  · simp [firstL, drawsL, nf]
  · obtain ⟨k, hk, rfl⟩ := List.mem_map.mp h
    simp [lineL, startL, yesL, nf]
theorem join_len {L : List (List Nat)} {b : Nat} (h : ∀ l ∈ L, l.length ≤ b) : (TL.joinL [10] L).length ≤ L.length * (b + 1) := by
  induction L with
  | nil => simp [TL.joinL]
  | cons l L ih =>
    have i := ih fun x hx => h x (List.mem_cons_of_mem _ hx)
    have hl := h l List.mem_cons_self
    cases L with
    | nil =>
      simp only [TL.joinL, List.length_cons, List.length_nil]
      omega
    | cons l2 L =>
      simp only [TL.joinL, List.length_append, List.length_cons, List.length_nil, Nat.succ_mul] at i ⊢
      omega
end

section
variable {P : Program} {w : World} {K : PySem.W.Frag} {mg : Str → Option Value} {base : Heap}
open SX
/-! ### Row.changed -/
def afterM (cs : List (Nat × List Nat)) (L : List (List Nat)) : List (List Nat) := L.mapIdx fun i ln => (List.lookup i cs).getD ln
def newM (cs : List (Nat × List Nat)) (ps : List Int) : List Nat := TL.joinL [10] ((afterM cs (pageP (natsI ps))).filter fun l => !l.isEmpty)
theorem look_mem {cs : List (Nat × List Nat)} {i : Nat} {z : List Nat} (h : List.lookup i cs = some z) : (i, z) ∈ cs := by
  induction cs with
  | nil => cases h
  | cons c cs ih =>
    rw [List.lookup_cons] at h
    split at h
    · rename_i e
      cases h
      have : i = c.1 := by simpa using e
      rw [this]
      exact List.mem_cons_self
    · exact List.mem_cons_of_mem _ (ih h)
theorem chg_val (cs : List (Nat × List Nat)) (k : Nat) (ln : List Nat) : (valV (chgKV cs) (Sum.inl ((k : Nat) : Int) : Key)).getD (V.str (S ln)) = .str (S ((List.lookup k cs).getD ln)) := by
  induction cs with
  | nil => rfl
  | cons c cs ih =>
    unfold valV at ih ⊢
    show ((List.find? _ ((Sum.inl ((c.1 : Nat) : Int), V.str (S c.2)) :: chgKV cs)).map (·.2)).getD _ = _
    rw [List.find?_cons]
    by_cases h : c.1 = k
    · subst h
      simp [List.lookup]
    · have e1 : decide ((Sum.inl ((c.1 : Nat) : Int) : Key) = Sum.inl ((k : Nat) : Int)) = false := decide_eq_false fun z => h (by
        have := Sum.inl.inj z
        omega)
      have e2 : (k == c.1) = false := by simpa using Ne.symm h
      rw [show decide (((Sum.inl ((c.1 : Nat) : Int), V.str (S c.2)) : Key × V).1 = (Sum.inl ((k : Nat) : Int) : Key)) = false from e1]
      simp only [List.lookup, e2]
      exact ih
def spChangedX (K : PySem.W.Frag) (C CI CT : Addr) : Sp := fun vs H Q E => ∃ (x : V) (ps : List Int) (p : Addr) (xs : List V) (cs : List (Nat × List Nat)), vs = [x, .ref p] ∧ IsRow K C H x ps ∧ RowSm ps ∧ SqT K H p xs ∧ xs.length = cs.length ∧ cs.length ≤ 1000 ∧
  (∀ (i : Nat) x, xs[i]? = some x → ∃ c, cs[i]? = some c ∧ ChgAt K H x c) ∧ (∀ c ∈ cs, c.1 < ps.length + 1 ∧ 10 ∉ c.2 ∧ c.2.length ≤ 1000) ∧ WordsOk (linesOf (newM cs ps)) ∧
  (againM 0 [] cs = none → (∀ ks, toldM (linesOf (newM cs ps)) = some ks → RowOk (ks.map fun c : Nat => (c : Int)) ∧ ∀ y H', Ex H H' → IsRow K C H' y (plainL (ks.map fun c : Nat => (c : Int))) → Q y H') ∧
    (toldM (linesOf (newM cs ps)) = none → ∀ d H', Ex H H' → H' d = some (.xd [("given", .str (S (newM cs ps)))]) → E (.ref CT) (some d) H')) ∧
  (∀ i, againM 0 [] cs = some i → ∀ d H', Ex H H' → H' d = some (.xd [("index", .int (i : Int))]) → E (.ref CI) (some d) H')
theorem ok_changed {C CI CT f : Addr} {fd : FuncData} (F : Fun K "changed" "Row.changed" (inClass (top 20) 6) f fd) (B : Bi mg) (RS : RowS P w K mg base C) (RX : RowX P w K mg base C CT) (h_placed : HasX P w K mg base "_placed" 7 ["changes", "lines"] (spPlaced K CI)) : FnOk P w K mg base (L2.CX P w) 9 f fd ["self", "changes"] (spChangedX K C CI CT) := by
  have sc : FnScope ["self", "changes", "lines", "placed", "after", "at", "line"] ["self", "changes"] (defScope (inClass (top 20) 6)) := ⟨rfl, rfl, rfl, by decide +kernel, rfl, by decide +kernel, by decide +kernel⟩
  refine F.okX sc (fun vs H Q E h => ?_) (fun cdv A outer s H vs Q E hr h => ?_)
  · obtain ⟨x, ps, p, xs, cs, rfl, _⟩ := h
    rfl
  · obtain ⟨x, ps, p, xs, cs, rfl, hrow, hsm, hS, hlen, h1000, hxs, hcs, hw, k1, k2⟩ := h
    refine ⟨_, (pss_cons (ps_set (i := 2) sc.nd rfl (by first | exact Or.inl rfl | exact Or.inr rfl) (pe_m1 PySem.F.slot_str_split PySem.F.type_str_split mt_split (kText RS (hr.mono (by decide)) (pv 0)) pe_str))
      (pss_cons (ps_set (i := 3) sc.nd rfl (by first | exact Or.inl rfl | exact Or.inr rfl) (pe_hasX h_placed takes_def (hr.mono (by decide)) (pa_cons (pv 1) (pa_cons (pe_callB (kLen (K := K)) (by rfl) B.len (by decide +kernel) (pa_cons (pv 2) pa_nil)) pa_nil))))
      (pss_cons (ps_setLc (i := 4) (own := [("at", 5), ("line", 6)]) (g := gTup K 2 (gCons (gName 5) (gCons (gName 6) gNil))) (tt := tYes) rfl sc.nd rfl rfl (sw_true rfl rfl rfl (by decide +kernel)) (pi_enum (by rfl) B.enumerate (pa_cons (pv 2) pa_nil)) (blkOk_by (N := (["self", "changes", "lines", "placed", "after", "at", "line"] : List Str)) (sc := defScope (inClass (top 20) 6)) (by decide +kernel)) (fun _ _ _ _ _ => (pg_tup rfl (pgs_cons (pg_name (i := 5) sc.nd rfl (by first | exact Or.inl rfl | exact Or.inr rfl)) (pgs_cons (pg_name (i := 6) sc.nd rfl (by first | exact Or.inl rfl | exact Or.inr rfl)) pgs_nil)))) (fun _ _ _ _ _ => pts_nil) (fun _ _ _ _ _ => (PE.mon (pe_dget2 (Nat.lt_of_le_of_lt (Nat.add_le_add_left (by decide : 1 ≤ 64) _) hr.units) (pv 3) (pv 5) (pv 6) ⟨rfl, rfl, rfl, rfl⟩))))
      (pss_one (ps_ret (kReadX RX takes_def (hr.mono (by decide)) (pa_cons (pe_m1 PySem.F.slot_str_join PySem.F.type_str_join (kJoin (K := K)) pe_str (pe_lc (own := [("line", 6)]) (g := gName 6)  rfl sc.nd (pi_list (pv 4)) (blkOk_by (N := (["self", "changes", "lines", "placed", "after", "at", "line"] : List Str)) (sc := defScope (inClass (top 20) 6)) (by decide +kernel)) (fun _ _ _ _ _ => (pg_name (i := 6) sc.nd rfl (by first | exact Or.inl rfl | exact Or.inr rfl))) (fun _ _ _ _ _ => pts_one (pt_cmpR op_ne (pv 6) pe_str (nomark _))) (fun _ _ _ _ _ => (PE.mon (pv 6))))) pa_nil))))))), ?_⟩
    walk_at "rd"
    have p60 : sizeLine = 16777216 := by rw [sizeLine_eq]
    have ok : (natsI ps).length ≤ 6 ∧ ∀ c ∈ natsI ps, c < 10 ^ 31 := by
      obtain ⟨_, l6, b⟩ := hsm
      refine ⟨by simpa [natsI] using l6, fun n hn => ?_⟩
      obtain ⟨z, hz, rfl⟩ := List.mem_map.mp hn
      have := b z hz
      have p31 : (10 ^ 31 : Int) = ((10 ^ 31 : Nat) : Int) := by decide
      omega
    have lp : ∀ l ∈ pageP (natsI ps), l.length ≤ 100 := fun l hl => page_len hl ok.1 ok.2
    have lpp : (pageP (natsI ps)).length = ps.length + 1 := by simp [pageP, linesL, natsI]
    have lpage : (pageL (natsI ps)).length ≤ 800 := by
      have h1 := join_len lp
      have h2 : (pageP (natsI ps)).length * 101 ≤ 7 * 101 := Nat.mul_le_mul_right _ (by have := hsm.2.1; omega)
      unfold pageL
      omega
    refine ⟨ps, hrow, hsm, fun G e0 => ?_⟩
    rw [eNl]
    refine ⟨⟨_, rfl⟩, by decide, by rw [S_len]; omega, ?_⟩
    rw [split_S (by decide) (by decide)]
    have esp : TL.spl [10] 0 [] (pageL (natsI ps)) = pageP (natsI ps) := TL.spl_join (by simp [pageP]) page_free
    rw [esp]
    intro Ls hLs
    have e1 : Ex G (upd G Ls (.lst (((pageP (natsI ps)).map S).map V.str))) := Ex.new hLs
    have t1 : (upd G Ls (.lst (((pageP (natsI ps)).map S).map V.str))) Ls = some (.lst (((pageP (natsI ps)).map S).map V.str)) := upd_same
    generalize upd G Ls (.lst (((pageP (natsI ps)).map S).map V.str)) = G1 at e1 t1
    have e01 := e0.trans e1
    refine ⟨Ls, rfl, _, .inl (.of t1), ?_⟩
    rw [List.length_map, List.length_map, lpp]
    refine ⟨p, xs, cs, ps.length + 1, rfl, sqT_kp hS e01.kp, hlen, h1000, fun i x hx => let ⟨c, h1, h2⟩ := hxs i x hx; ⟨c, h1, h2.kp e01⟩, hcs, fun ha d G2 nd e2 hd => ?_, fun i ha d G2 e2 hd => k2 i ha d G2 (e01.trans e2) hd⟩
    obtain ⟨k3, k4⟩ := k1 ha
    have t2 := e2 _ _ t1
    refine ⟨Ls, rfl, ⟨_, .of t2⟩, fun Dd hD => ?_⟩
    refine lcEl (fun i y _ => y = .str (S ((afterM cs (pageP (natsI ps))).getD i []))) (fun _ _ _ _ _ h => h) hD (.of t2) (by have := hsm.2.1; simp only [List.length_map]; omega) (gm_tup (gm_cons gm_name (gm_cons gm_name gm_nil))) ?_ ?_
    · intro i y T G3 hy e3 hT
      rw [List.getElem?_map, List.getElem?_map] at hy
      cases hln : (pageP (natsI ps))[i]? with
      | none => rw [hln] at hy; cases hy
      | some ln =>
      rw [hln] at hy
      cases hy
      have ea : (afterM cs (pageP (natsI ps))).getD i [] = (List.lookup i cs).getD ln := by
        unfold afterM
        rw [List.getD_eq_getElem?_getD, List.getElem?_mapIdx, hln]
        rfl
      rw [ea]
      have hd3 := e3 _ _ hd
      walk_at "rd"
      refine ⟨_, .of hT, rfl, ?_⟩
      walk_at "rd"
      refine ⟨fun y H' => Ex G3 H' ∧ y = V.str (S ((List.lookup i cs).getD ln)), ?_, fun v H' h => h⟩
      walk_at "rd"
      refine ⟨.inl ⟨_, .inl hd3⟩, _, .k (k := Sum.inl ((i : Nat) : Int)) hd3, ?_⟩
      exact ⟨Ex.refl _, chg_val cs i ln⟩
    · intro G3 ys e3 hy hl hr2
      rw [List.length_map, List.length_map] at hl
      have la : (afterM cs (pageP (natsI ps))).length = (pageP (natsI ps)).length := by simp [afterM]
      have ey : ys = ((afterM cs (pageP (natsI ps))).map S).map V.str := by
        apply List.ext_getElem?
        intro i
        by_cases hi : i < ys.length
        · have h1 := hr2 i _ (List.getElem?_eq_getElem hi)
          have h2 : (afterM cs (pageP (natsI ps)))[i]? = some ((afterM cs (pageP (natsI ps))).getD i []) := by
            rw [List.getD_eq_getElem?_getD, List.getElem?_eq_getElem (by omega)]
            rfl
          rw [List.getElem?_eq_getElem hi, h1, List.getElem?_map, List.getElem?_map, h2]
          rfl
        · rw [List.getElem?_eq_none (by omega), List.getElem?_eq_none (by simp only [List.length_map]; omega)]
      rw [ey] at hy
      have eb : Str.ofString "" = S [] := by decide +kernel
      have l1000 : ∀ l ∈ (afterM cs (pageP (natsI ps))).filter (fun l => !l.isEmpty), l.length ≤ 1000 := fun l hl => by
        obtain ⟨i, hi, e⟩ := List.mem_iff_getElem.mp (List.mem_filter.mp hl).1
        have hi2 : i < (pageP (natsI ps)).length := by omega
        have e2 : l = (List.lookup i cs).getD (pageP (natsI ps))[i] := by
          rw [← e]
          simp [afterM]
        rw [e2]
        cases hlk : List.lookup i cs with
        | none => exact Nat.le_trans (lp _ (List.getElem_mem hi2)) (by decide)
        | some z => exact (hcs _ (look_mem hlk)).2.2
      have n7 : ((afterM cs (pageP (natsI ps))).filter fun l => !l.isEmpty).length ≤ 7 := by
        refine Nat.le_trans (List.length_filter_le _ _) ?_
        have := hsm.2.1
        omega
      refine ⟨⟨_, rfl⟩, Dd, rfl, ⟨_, .of hy⟩, fun Dj hDj => ?_⟩
      refine lcIfS (fun l => !l.isEmpty) hDj hy (by have := hsm.2.1; omega) (fun _ => rfl) ?_ ?_ ?_
      · intro l G4 S' hl4 e4 hS'
        walk_at "rd"
        rw [eb]
        have ed : (!decide (S l = S [])) = !l.isEmpty := by
          cases l with
          | nil => simp
          | cons a t =>
            have : ¬ (S (a :: t) = S []) := fun z => by
              have := S_inj z
              cases this
            simp [this]
        rw [ed]
        exact hS'
      · intro z G4 S' hS'
        walk_at "rd"
        exact hS'
      · intro G4 e4 hA
        have ls := sum_len l1000
        have lj := join_len l1000
        refine ⟨_, Dj, ((afterM cs (pageP (natsI ps))).filter fun l => !l.isEmpty).map S, rfl, rfl, .inl (.of hA), ?_, ?_⟩
        · rw [lens, List.length_map, S_len]
          have e1 : (((afterM cs (pageP (natsI ps))).filter fun l => !l.isEmpty).map fun x => x.length) = ((afterM cs (pageP (natsI ps))).filter fun l => !l.isEmpty).map List.length := rfl
          rw [e1]
          have h1 : ((afterM cs (pageP (natsI ps))).filter fun l => !l.isEmpty).length * 1000 ≤ 7 * 1000 := Nat.mul_le_mul_right _ n7
          simp only [List.length_cons, List.length_nil]
          omega
        · rw [join_S]
          have h1 : ((afterM cs (pageP (natsI ps))).filter fun l => !l.isEmpty).length * 1001 ≤ 7 * 1001 := Nat.mul_le_mul_right _ n7
          have e14 : Ex H G4 := ((e01.trans e2).trans e3).trans e4
          refine ⟨newM cs ps, rfl, by unfold newM; omega, hw, fun ks hk => ?_, fun hn d H' e hd => k4 hn d H' (e14.trans e) hd⟩
          obtain ⟨r1, r2⟩ := k3 ks hk
          exact ⟨r1, fun y H' e hr3 => r2 y H' (e14.trans e) hr3⟩
end

section
variable {P : Program} {w : World} {K : PySem.W.Frag} {mg : Str → Option Value} {base : Heap}
open SX
/-- row.changed(e), which may raise -/
structure RowG (P : Program) (w : World) (K : PySem.W.Frag) (mg : Str → Option Value) (base : Heap) (C CI CT : Addr) : Prop where
  rc : RowC K mg C
  changed : ∃ f fd, Meth K C "changed" f ∧ FnOk P w K mg base (L2.CX P w) 9 f fd ["self", "changes"] (spChangedX K C CI CT) ∧ Binds K fd ["self", "changes"] []
/-- row.changed(e): the row, then the changes, then what Row.changed promises of the two -/
def tChanged (K : PySem.W.Frag) (C CI CT : Addr) (E : XK) (te : TE) (t : TA) : TE := fun σ H Q => te σ H fun x H1 => ∃ a dx fs, x = .ref a ∧ H1 a = some (.ins C dx fs) ∧ fs.lookup ("changed" : Str) = none ∧ t σ H1 fun vs H2 => spChangedX K C CI CT (x :: vs) H2 Q E
theorem kChanged {X : Cx} {C CI CT : Addr} {E : XK} {o e : Expr} {es : List Expr} {te : TE} {t : TA} {pos apos : Pos} {pl : Sem Bool} (T : RowG P w K mg base C CI CT) {W : WX} (tk : Takes X W) (hW : ∀ cls d σ H, E cls d H → W cls d σ H) (hr : Room 9 X.A) (ho : PE X o te) (ha : PA X (e :: es) t) (hx : At X P w K mg base := by exact ⟨rfl, rfl, rfl, rfl, rfl⟩)
    (hst : starEach (e :: es) X.env = (false, eval e X.env) :: starEach es X.env := by rfl) (hpl : (backTo pos (starEach es X.env)).any (·.1) = false := by rfl)
    (ht : eval (.Call (.Attribute o "changed" apos) (e :: es) [] pos) X.env = (do
      let ov ← eval o X.env
      standAt apos.atName
      let (f, first) ← holding [ov] (getMethod ov "changed" pl)
      callWith pos f first (backTo pos (starEach (e :: es) X.env)) (backToKw pos (keywordEach [] X.env))) := by rfl) :
    PE X (.Call (.Attribute o "changed" apos) (e :: es) [] pos) (tChanged K C CI CT E te t) := by
  obtain ⟨h1, h2, h3, h4, h5⟩ := hx
  subst h1 h2 h3 h4 h5
  obtain ⟨f, fd, m, F, hb⟩ := T.changed
  have q := pe_meth (pl := pl) (PE.mon ho) T.rc.cl m F hr hb .nil (passes_call tk hW) (PA.mon ha) hst hpl ht
  refine ⟨fun pins s σ H Q I h => q.run pins s σ H Q I ⟨_, h, ?_⟩⟩
  rintro x H1 ⟨a, dx, fs, ex, hA, nf, h2⟩
  refine ⟨a, dx, fs, ex, hA, nf, _, h2, fun vs H2 z => ?_⟩
  show spChangedX X.K C CI CT (x :: (vs ++ [])) H2 Q E
  rw [List.append_nil]
  exact z
theorem r_changed {C CI CT : Addr} {E : XK} {te : TE} {t : TA} {σ : L2.St} {H : Hp} {Q : VK} : tChanged K C CI CT E te t σ H Q = te σ H fun x H1 => ∃ a dx fs, x = .ref a ∧ H1 a = some (.ins C dx fs) ∧ fs.lookup ("changed" : Str) = none ∧ t σ H1 fun vs H2 => spChangedX K C CI CT (x :: vs) H2 Q E := rfl
/-- .. in the body of a try that wishes W of errors -/
def tChangedW (K : PySem.W.Frag) (C CI CT : Addr) (W : WX) (te : TE) (t : TA) : TE := fun σ H Q => ∃ E : XK, (∀ cls d σ' H', E cls d H' → W cls d σ' H') ∧ tChanged K C CI CT E te t σ H Q
theorem kChangedW {X : Cx} {C CI CT : Addr} {o e : Expr} {es : List Expr} {te : TE} {t : TA} {pos apos : Pos} {pl : Sem Bool} (T : RowG P w K mg base C CI CT) {W : WX} (tk : Takes X W) (hr : Room 9 X.A) (ho : PE X o te) (ha : PA X (e :: es) t) (hx : At X P w K mg base := by exact ⟨rfl, rfl, rfl, rfl, rfl⟩)
    (hst : starEach (e :: es) X.env = (false, eval e X.env) :: starEach es X.env := by rfl) (hpl : (backTo pos (starEach es X.env)).any (·.1) = false := by rfl)
    (ht : eval (.Call (.Attribute o "changed" apos) (e :: es) [] pos) X.env = (do
      let ov ← eval o X.env
      standAt apos.atName
      let (f, first) ← holding [ov] (getMethod ov "changed" pl)
      callWith pos f first (backTo pos (starEach (e :: es) X.env)) (backToKw pos (keywordEach [] X.env))) := by rfl) :
    PE X (.Call (.Attribute o "changed" apos) (e :: es) [] pos) (tChangedW K C CI CT W te t) :=
  ⟨fun pins s σ H Q I ⟨E, hE, h⟩ => (kChanged (E := E) (pl := pl) T tk hE hr ho ha hx hst hpl ht).run pins s σ H Q I h⟩
end

/-! rates of plain counts -/
theorem sum_scale (k : Int) : ∀ cs : List Int, (cs.map (k * ·)).sum = k * cs.sum
  | [] => by simp
  | c :: cs => by
    rw [List.map_cons, List.sum_cons, List.sum_cons, sum_scale k cs, Int.mul_add]
theorem sum_nonneg : ∀ {cs : List Int}, (∀ c ∈ cs, 0 ≤ c) → 0 ≤ cs.sum
  | [], _ => by simp
  | c :: cs, h => by
    have h1 := h c List.mem_cons_self
    have h2 := sum_nonneg fun x hx => h x (List.mem_cons_of_mem c hx)
    rw [List.sum_cons]
    omega
theorem sum_le {b : Int} : ∀ {cs : List Int}, (∀ c ∈ cs, c ≤ b) → cs.sum ≤ (cs.length : Int) * b
  | [], _ => by simp
  | c :: cs, h => by
    have h1 := h c List.mem_cons_self
    have h2 := sum_le fun x hx => h x (List.mem_cons_of_mem c hx)
    rw [List.sum_cons, List.length_cons, Int.natCast_add, Int.add_mul]
    omega
theorem sum_pos_ex : ∀ {cs : List Int}, (∀ c ∈ cs, 0 ≤ c) → 0 < cs.sum → ∃ c ∈ cs, 0 < c
  | [], _, h => by simp at h
  | c :: cs, h, hs => by
    by_cases hc : 0 < c
    · exact ⟨c, List.mem_cons_self, hc⟩
    · have h1 := h c List.mem_cons_self
      rw [List.sum_cons] at hs
      obtain ⟨x, hx, h2⟩ := sum_pos_ex (fun x hx => h x (List.mem_cons_of_mem c hx)) (by omega)
      exact ⟨x, List.mem_cons_of_mem c hx, h2⟩
theorem mem_le_sum : ∀ {cs : List Int} {c : Int}, (∀ x ∈ cs, 0 ≤ x) → c ∈ cs → c ≤ cs.sum
  | x :: cs, c, h, hc => by
    rw [List.sum_cons]
    have h0 := h x List.mem_cons_self
    have h1 := sum_nonneg fun y hy => h y (List.mem_cons_of_mem x hy)
    rcases List.mem_cons.mp hc with rfl | hc
    · omega
    · have := mem_le_sum (fun y hy => h y (List.mem_cons_of_mem x hy)) hc
      omega
/-- top times the whole is the count times the bottom -/
theorem frac_mul {p S : Int} (hS : 0 < S) : ((p : Rat) / (S : Rat)).num * S = p * (((((p : Rat) / (S : Rat)).den : Nat)) : Int) := by
  rw [div_num hS, div_den hS]
  have d1 : ((Int.gcd S p : Nat) : Int) ∣ p := Int.gcd_dvd_right ..
  have d2 : ((Int.gcd S p : Nat) : Int) ∣ S := Int.gcd_dvd_left ..
  obtain ⟨u, hu⟩ := d1
  obtain ⟨v, hv⟩ := d2
  have g0 : ((Int.gcd S p : Nat) : Int) ≠ 0 := by
    intro z
    rw [z, Int.zero_mul] at hv
    omega
  generalize ((Int.gcd S p : Nat) : Int) = g at *
  subst hu hv
  rw [Int.mul_ediv_cancel_left _ g0, Int.mul_ediv_cancel_left _ g0]
  grind
theorem frac_nonneg {p S : Int} (hp : 0 ≤ p) (hS : 0 < S) : 0 ≤ ((p : Rat) / (S : Rat)).num := by
  rw [div_num hS]
  exact Int.ediv_nonneg hp (by omega)
theorem frac_le_one {p S : Int} (hp : p ≤ S) (hS : 0 < S) : ((p : Rat) / (S : Rat)).num ≤ (((((p : Rat) / (S : Rat)).den : Nat)) : Int) := by
  have e := frac_mul (p := p) hS
  have h2 := den_pos ((p : Rat) / (S : Rat))
  generalize (((((p : Rat) / (S : Rat)).den : Nat)) : Int) = d at *
  generalize ((p : Rat) / (S : Rat)).num = t at *
  have h3 : p * d ≤ S * d := Int.mul_le_mul_of_nonneg_right hp (by omega)
  rw [← e, Int.mul_comm S d] at h3
  exact Int.le_of_mul_le_mul_right h3 hS
theorem sumR_div (S : Rat) : ∀ (ps : List Int) (acc : Rat), (ps.map fun p => ((p : Int) : Rat) / S).foldl (· + ·) acc = acc + ((ps.sum : Int) : Rat) / S
  | [], acc => by
    simp only [List.map_nil, List.foldl_nil, List.sum_nil]
    have : (((0 : Int)) : Rat) = 0 := rfl
    rw [this]
    grind
  | p :: ps, acc => by
    rw [List.map_cons, List.foldl_cons, sumR_div S ps, List.sum_cons, Rat.intCast_add]
    grind
theorem cast_ne {S : Int} (h : S ≠ 0) : ((S : Int) : Rat) ≠ 0 := fun z => h (by
  have := congrArg Rat.num z
  simpa using this)
theorem sumR_rates {ps : List Int} (h : 0 < ps.sum) : sumR (ratesL ps) = 1 := by
  unfold sumR ratesL
  rw [sumR_div]
  have := cast_ne (S := ps.sum) (by omega)
  grind
theorem rates_sz {ps : List Int} {n : Nat} (h : 0 < ps.sum) (hs : ps.sum.natAbs < 2 ^ n) (h0 : ∀ p ∈ ps, 0 ≤ p) : ∀ r ∈ ratesL ps, sz r n := by
  intro r hr
  obtain ⟨p, hp, rfl⟩ := List.mem_map.mp hr
  refine sz_div h ?_ hs
  have h1 := mem_le_sum h0 hp
  have h2 := h0 p hp
  omega

local macro_rules | `(tactic| walk_at "rd") => `(tactic| try simp only [r_seq, r_asg, r_name, r_ifS, r_next, r_ret, r_retN, r_drop, r_test, r_B, r_if, r_cons, r_nil, r_cb, r_tF, r_part, r_nopart, r_sl, r_par, r_chain, r_or, r_and, r_not, r_orV, r_andV, r_notV, r_op, r_un, r_var, r_c, r_yes, r_I0, r_I, r_U, r_eqI, r_neI, r_eqS, r_neS, r_lst, r_tup, r_for, r_lc, r_list, r_tupI, r_rng1, r_rng2, r_enumT, r_bm, r_fld, r_subT, r_gtup, r_gcons, r_gnil, r_K0, r_K, r_Kb, r_Kbb, wipe, r_never, not_true_eq_false, not_false_eq_true, Int.zero_add, r_counts, r_draws, r_rates, r_row, r_len, r_sfld, r_zipB, r_revT, r_tW, r_seqI,
  L2.start, List.map_cons, List.map_nil, List.length_cons, List.length_nil, Nat.reduceAdd, Nat.reduceSub, List.reduceReplicate, List.cons_append, List.nil_append, List.set_cons_zero, List.set_cons_succ, List.getElem?_cons_zero, List.getElem?_cons_succ, Option.some.injEq, exists_eq_left', exists_eq_left, exists_eq_right, exists_eq_right', V.int.injEq, V.ref.injEq, V.bl.injEq, V.str.injEq, List.cons.injEq, and_true, true_and, and_false, false_and, or_false, false_or, exists_false, exists_const, and_assoc, reduceCtorEq, if_true, if_false, Bool.false_eq_true, Bool.not_true, Bool.not_false, Bool.not_eq_true', decide_eq_true_eq, decide_eq_false_iff_not, exists_and_left, exists_and_right, exists_eq_or_imp])
section
variable {P : Program} {w : World} {K : PySem.W.Frag} {mg : Str → Option Value} {base : Heap}
def spNum : Sp := fun vs H Q _ => ∃ g lo hi : Int, vs = [.int g, .int lo, .int hi] ∧ lo ≤ g ∧ g ≤ hi ∧ Q .non H
def spCheckRow (K : PySem.W.Frag) (C : Addr) : Sp := fun vs H Q _ => ∃ (x : V) (ps : List Int), vs = [x] ∧ IsRow K C H x ps ∧ Q .non H
theorem scCheckRow : FnScope ["row"] ["row"] (defScope (top 21)) := ⟨rfl, rfl, rfl, by decide +kernel, rfl, by decide +kernel, by decide +kernel⟩
theorem has_check_row {C : Addr} (B : Bi mg) (RC : RowC K mg C) (D : Df K mg "check_row" (top 21) ["row"]) : Has P w K mg base "check_row" 1 ["row"] (spCheckRow K C) := by
  have sc := scCheckRow
  refine .of D fun f fd F => F.ok sc (fun vs H Q E h => ?_) (fun cdv A outer s H vs Q E hr h => ?_)
  · obtain ⟨x, ps, rfl, _⟩ := h
    rfl
  · obtain ⟨x, ps, rfl, ⟨a, dx, q, rfl, hA, hS⟩, k⟩ := h
    refine ⟨_, (pss_one (ps_if (pt_not (pt_val (pe_callB (kIsi (K := K)) (by rfl) B.isinstance (by decide +kernel) (pa_cons (pv 0) (pa_cons (pe_glob (v := .ref C) rfl RC.mgC rfl) pa_nil))))) (pss_one ps_never) pss_nil)), ?_⟩
    walk_at "rd"
    refine ⟨_, _, _, _, true, rfl, .own C, RC.ty hA, by simp [PySem.W.kitOne], ?_⟩
    walk_at "rd"
    exact k
structure RowIn (ps : List Int) : Prop where
  l0 : 2 ≤ ps.length
  l1 : ps.length ≤ 6
  nn : ∀ p ∈ ps, 0 ≤ p
  s0 : 0 < ps.sum
  s1 : ps.sum.natAbs < 2 ^ 600
theorem getD_get {ps : List Int} {i : Nat} {c : Int} (h : ps[i]? = some c) : ps.getD i 0 = c := by
  rw [List.getD_eq_getElem?_getD, h]
  rfl
end

section
variable {P : Program} {w : World} {K : PySem.W.Frag} {mg : Str → Option Value} {base : Heap}
theorem ints_ex {G : Hp} {p : Int → Prop} : ∀ {ys : List V}, (∀ (i : Nat) y, ys[i]? = some y → (fun _ y _ => ∃ c : Int, y = .int c ∧ p c : Nat → V → Hp → Prop) i y G) → ∃ cs : List Int, ys = cs.map V.int ∧ ∀ c ∈ cs, p c
  | [], _ => ⟨[], rfl, fun _ h => by simp at h⟩
  | y :: ys, h => by
    obtain ⟨c, e, hc⟩ := h 0 y rfl
    obtain ⟨cs, e2, h2⟩ := ints_ex (G := G) (p := p) (ys := ys) fun i z hz => h (i + 1) z (by simpa using hz)
    refine ⟨c :: cs, by rw [e, e2]; rfl, fun x hx => ?_⟩
    rcases List.mem_cons.mp hx with rfl | hx
    · exact hc
    · exact h2 x hx
theorem log_sm {i : Int} (h0 : 0 ≤ i) (h1 : i ≤ 1000) : i.natAbs.log2 < 9000 := log_lt (Nat.lt_of_lt_of_le (show i.natAbs < 2 ^ 10 by omega) (Nat.pow_le_pow_right (by decide) (by decide)))
def spPick (K : PySem.W.Frag) : Sp := fun vs H Q _ => ∃ (v l : Addr) (xs : List Int), vs = [.ref v, .ref l] ∧ VatAt H v ∧ l ≠ v ∧ H l = some (.lst (xs.map V.int)) ∧ xs ≠ [] ∧ xs.length ≤ 100 ∧ ∀ r H', Gv v H H' → r ∈ xs → Q (.int r) H'
def wyG (a : Int) : Nat → Int
  | 0 => 1
  | k + 1 => wyG a k * (a - (k : Int)) / ((k : Int) + 1)
theorem wy_chs (a : Nat) : ∀ k : Nat, wyG (a : Int) k = ((chs a k : Nat) : Int)
  | 0 => by rw [chs_zero]; rfl
  | k + 1 => by
    show wyG (a : Int) k * ((a : Int) - (k : Int)) / ((k : Int) + 1) = _
    rw [wy_chs a k, Int.mul_comm, ← chs_step a k]
    exact Int.mul_ediv_cancel_left _ (by omega)
def spChoose : Sp := fun vs H Q _ => ∃ a k : Nat, vs = [.int (a : Int), .int (k : Int)] ∧ a < 14 ∧ k < 6 ∧ Q (.int ((chs a k : Nat) : Int)) H
theorem chs_small : ∀ a < 14, ∀ k < 6, chs a k ≤ 1287 := by decide +kernel
/-- a list of so many numbers from 0 on, none above b -/
def NumL (cs : List Int) (n : Nat) (b : Int) : Prop := cs.length = n ∧ ∀ c ∈ cs, 0 ≤ c ∧ c ≤ b
def spUrnL (K : PySem.W.Frag) : Sp := fun vs H Q _ => ∃ (a m n : Nat), vs = [.int (a : Int), .int (m : Int), .int (n : Int)] ∧ m ≤ a ∧ a < 14 ∧ n < 6 ∧ ∀ p H' cs, H p = none → Ex H H' → H' p = some (.lst (cs.map V.int)) → NumL cs (n + 1) 2000000 → Q (.ref p) H'
theorem NumL.get {cs : List Int} {n k : Nat} {b : Int} (h : NumL cs n b) (hk : k < n) : ∃ c, cs[k]? = some c ∧ 0 ≤ c ∧ c ≤ b := by
  have hk : k < cs.length := by rw [h.1]; exact hk
  exact ⟨cs[k], List.getElem?_eq_getElem hk, h.2 _ (List.getElem_mem hk)⟩
theorem at_num {cs : List Int} {k : Nat} {c : Int} (h : cs[k]? = some c) : atI (cs.map V.int) (k : Int) = some (.int c) := at_of (j := k) (by simp [ixN]) (by rw [List.getElem?_map, h]; rfl)
def spMixedL (K : PySem.W.Frag) : Sp := fun vs H Q _ => ∃ (v : Addr) (a n : Nat), vs = [.ref v, .int (a : Int), .int (n : Int)] ∧ VatAt H v ∧ a < 14 ∧ n < 6 ∧ ∀ p H' cs, Gv v H H' → H p = none → p ≠ v → H' p = some (.lst (cs.map V.int)) → NumL cs (n + 1) 24000000 → Q (.ref p) H'
def coinC (t r n k : Nat) : Int := ((chs n k * (t ^ k * r ^ (n - k)) : Nat) : Int)
def coinCs (t r n : Nat) : List Int := (List.range (n + 1)).map (coinC t r n)
theorem coin_small : ∀ t < 5, ∀ r < 5, ∀ n < 6, ∀ k < n + 1, ∀ j < n + 1, chs n k * (t ^ (min j k) * r ^ (j - k)) ≤ 10240 := by decide +kernel
theorem coin_step : ∀ t < 5, ∀ r < 5, ∀ n < 6, ∀ k < n + 1, ∀ j < n, chs n k * (t ^ (min j k) * r ^ (j - k)) * (if j < k then t else r) = chs n k * (t ^ (min (j + 1) k) * r ^ (j + 1 - k)) := by decide +kernel
theorem coin_pos {t r n k : Nat} (ht : 1 ≤ t) (hr : 1 ≤ r) (hn : n < 6) (hk : k ≤ n) : 1 ≤ chs n k * (t ^ k * r ^ (n - k)) := Nat.mul_pos (chs_pos hn hk) (Nat.mul_pos (Nat.pow_pos ht) (Nat.pow_pos hr))
def spCoinL (K : PySem.W.Frag) : Sp := fun vs H Q _ => ∃ (v : Addr) (n : Nat), vs = [.ref v, .int (n : Int)] ∧ VatAt H v ∧ n < 6 ∧ ∀ p H' t r, Gv v H H' → H p = none → p ≠ v → 1 ≤ t → t < 5 → 1 ≤ r → r < 5 → H' p = some (.lst ((coinCs t r n).map V.int)) → Q (.ref p) H'
theorem NumL.mono {cs : List Int} {n : Nat} {a b : Int} (h : NumL cs n a) (e : a ≤ b) : NumL cs n b := ⟨h.1, fun c hc => by have := h.2 c hc; omega⟩
theorem coins_num {t r n : Nat} (ht : t < 5) (hr : r < 5) (hn : n < 6) : NumL (coinCs t r n) (n + 1) 24000000 := by
  refine ⟨by simp [coinCs], fun c hc => ?_⟩
  obtain ⟨k, hk, rfl⟩ := List.mem_map.mp hc
  have hk := List.mem_range.mp hk
  have h := coin_small t ht r hr n hn k hk n (by omega)
  rw [show min n k = k by omega] at h
  unfold coinC
  omega
theorem NumL.set {cs : List Int} {n k : Nat} {a : Int} {c : Int} (h : NumL cs n a) (h0 : 0 ≤ c) (h1 : c ≤ a) : NumL (cs.set k c) n a := by
  refine ⟨by rw [List.length_set]; exact h.1, fun x hx => ?_⟩
  rcases List.mem_or_eq_of_mem_set hx with hx | rfl
  · exact h.2 x hx
  · exact ⟨h0, h1⟩
def spRowL (K : PySem.W.Frag) : Sp := fun vs H Q _ => ∃ (v : Addr) (n : Nat), vs = [.ref v, .int (n : Int)] ∧ VatAt H v ∧ 1 ≤ n ∧ n < 6 ∧ ∀ x H' cs, Gv v H H' → IsInts K H' x cs → NumL cs (n + 1) 24000003 → 0 < cs.sum → Q x H'
theorem coin_sums : ∀ t < 5, ∀ r < 5, ∀ n < 6, (coinCs t r n).sum ≤ 40000 := by decide +kernel
theorem coin_sum1 {t r n : Nat} (t1 : 1 ≤ t) (t5 : t < 5) (r1 : 1 ≤ r) (r5 : r < 5) (hn : n < 6) : 1 ≤ (coinCs t r n).sum := by
  have nn : ∀ c ∈ coinCs t r n, 0 ≤ c := fun c hc => ((coins_num t5 r5 hn).2 c hc).1
  have hm : coinC t r n 0 ∈ coinCs t r n := List.mem_map.mpr ⟨0, List.mem_range.mpr (by omega), rfl⟩
  have h1 := mem_le_sum nn hm
  have h2 := coin_pos t1 r1 hn (Nat.zero_le n)
  unfold coinC at h1
  omega
def twoC (A B : Int) (t r t' r' n : Nat) : List Int := (List.range (n + 1)).map fun k => A * coinC t r n k + B * coinC t' r' n k
theorem two_num {A B : Int} {t r t' r' n : Nat} (hA : 1 ≤ A ∧ A ≤ 120000) (hB : 1 ≤ B ∧ B ≤ 120000) (ht : t < 5) (hr : r < 5) (ht' : t' < 5) (hr' : r' < 5) (t1 : 1 ≤ t) (r1 : 1 ≤ r) (hn : n < 6) : (twoC A B t r t' r' n).length = n + 1 ∧ ∀ c ∈ twoC A B t r t' r' n, 1 ≤ c ∧ c ≤ 2457600000 := by
  refine ⟨by simp [twoC], fun c hc => ?_⟩
  obtain ⟨k, hk, rfl⟩ := List.mem_map.mp hc
  have hk := List.mem_range.mp hk
  have h := coin_small t ht r hr n hn k hk n (by omega)
  have h' := coin_small t' ht' r' hr' n hn k hk n (by omega)
  rw [show min n k = k by omega] at h h'
  have h1 := coin_pos t1 r1 hn (show k ≤ n by omega)
  have p1 : 1 * 1 ≤ A * coinC t r n k := Int.mul_le_mul hA.1 (by unfold coinC; omega) (by decide) (by omega)
  have p2 : A * coinC t r n k ≤ 120000 * 10240 := Int.mul_le_mul hA.2 (by unfold coinC; omega) (by unfold coinC; omega) (by decide)
  have p3 : 0 ≤ B * coinC t' r' n k := Int.mul_nonneg (by omega) (by unfold coinC; omega)
  have p4 : B * coinC t' r' n k ≤ 120000 * 10240 := Int.mul_le_mul hB.2 (by unfold coinC; omega) (by unfold coinC; omega) (by decide)
  omega
def spCoinsL (K : PySem.W.Frag) : Sp := fun vs H Q _ => ∃ (v : Addr) (n : Nat), vs = [.ref v, .int (n : Int)] ∧ VatAt H v ∧ n < 6 ∧ ∀ p H' A B t r t' r', Gv v H H' → H p = none → p ≠ v → 1 ≤ A ∧ A ≤ 120000 → 1 ≤ B ∧ B ≤ 120000 → (1 ≤ t ∧ t < 5 ∧ 1 ≤ r ∧ r < 5) → (1 ≤ t' ∧ t' < 5 ∧ 1 ≤ r' ∧ r' < 5) → H' p = some (.lst ((twoC A B t r t' r' n).map V.int)) → Q (.ref p) H'
def IsTab (H : Hp) (p : Addr) (M : List (List Int)) : Prop := ∃ xs : List V, H p = some (.lst xs) ∧ xs.length = M.length ∧ ∀ (i : Nat) (cs : List Int), M[i]? = some cs → ∃ a, xs[i]? = some (.ref a) ∧ H a = some (.lst (cs.map V.int))
theorem IsTab.ex {H H' : Hp} {p : Addr} {M : List (List Int)} (h : IsTab H p M) (e : Ex H H') : IsTab H' p M := by
  obtain ⟨xs, h1, h2, h3⟩ := h
  refine ⟨xs, e _ _ h1, h2, fun i cs hi => ?_⟩
  obtain ⟨a, h4, h5⟩ := h3 i cs hi
  exact ⟨a, h4, e _ _ h5⟩
def rowF (Dd : Addr) (f : Nat → List Int) : Nat → V → Hp → Prop := fun i y G => ∃ a, y = .ref a ∧ a ≠ Dd ∧ G a = some (.lst ((f i).map V.int))
theorem rowF_but {Dd : Addr} {f : Nat → List Int} : ∀ (i : Nat) (y : V) (H H' : Hp), But Dd H H' → rowF Dd f i y H → rowF Dd f i y H' := by
  rintro i y H H' b ⟨a, rfl, na, h⟩
  exact ⟨a, rfl, na, b a _ (.inl na) h⟩
theorem tab_of {G : Hp} {Dd : Addr} {ys : List V} {n : Nat} {f : Nat → List Int} (hy : G Dd = some (.lst ys)) (hl : ys.length = n) (hr : ∀ (i : Nat) y, ys[i]? = some y → rowF Dd f i y G) : IsTab G Dd ((List.range n).map f) := by
  refine ⟨ys, hy, by simp [hl], fun i cs hi => ?_⟩
  rw [List.getElem?_map] at hi
  by_cases h : i < n
  · rw [List.getElem?_range h] at hi
    cases hi
    have hyi : ys[i]? = some ys[i] := List.getElem?_eq_getElem (by omega)
    obtain ⟨a, e, _, ha⟩ := hr i _ hyi
    exact ⟨a, by rw [hyi, e], ha⟩
  · rw [List.getElem?_eq_none (by simp; omega)] at hi
    cases hi
def mE (M : List (List Int)) (i j : Nat) : Int := (M.getD i []).getD j 0
def SqM (M : List (List Int)) (s b : Nat) : Prop := M.length = s ∧ ∀ r ∈ M, r.length = s ∧ ∀ c ∈ r, c.natAbs < 2 ^ b
theorem SqM.row {M : List (List Int)} {s b i : Nat} (h : SqM M s b) (hi : i < s) : ∃ r, M[i]? = some r ∧ r.length = s ∧ (∀ c ∈ r, c.natAbs < 2 ^ b) ∧ ∀ j < s, r[j]? = some (mE M i j) ∧ (mE M i j).natAbs < 2 ^ b := by
  have hl : i < M.length := by rw [h.1]; exact hi
  have hr := h.2 _ (List.getElem_mem hl)
  refine ⟨M[i], List.getElem?_eq_getElem hl, hr.1, hr.2, fun j hj => ?_⟩
  have hj' : j < (M[i]).length := by rw [hr.1]; exact hj
  have e : mE M i j = (M[i])[j] := by
    have e0 : M.getD i [] = M[i] := by
      rw [List.getD_eq_getElem?_getD, List.getElem?_eq_getElem hl]
      rfl
    unfold mE
    rw [e0, List.getD_eq_getElem?_getD, List.getElem?_eq_getElem hj']
    rfl
  rw [e]
  exact ⟨List.getElem?_eq_getElem hj', hr.2 _ (List.getElem_mem hj')⟩
/-- table[i][j] -/
theorem q_ixTab {H : Hp} {p : Addr} {M : List (List Int)} {s b i : Nat} {Q : VK} (h : IsTab H p M) (hM : SqM M s b) (hi : i < s) (q : ∀ a, (∀ j < s, ∀ (G : Hp) (Q' : VK), Ex H G → Q' (.int (mE M i j)) G → rIxL K (.ref a) (.int (j : Int)) G Q') → Q (.ref a) H) : rIxL K (.ref p) (.int (i : Int)) H Q := by
  obtain ⟨xs, h1, h2, h3⟩ := h
  obtain ⟨r, hr, _, _, rj⟩ := hM.row hi
  obtain ⟨a, ha, hL⟩ := h3 i r hr
  refine q_ixL (.of h1) (at_of (j := i) (by simp [ixN]) ha) ?_
  refine q a fun j hj G Q' e z => ?_
  exact q_ixL (.of (e _ _ hL)) (at_num (rj j hj).1) z
def subM (M : List (List Int)) (ls : List Nat) : List (List Int) := ls.map fun i => ls.map fun j => mE M i j
theorem sub_sq {M : List (List Int)} {s b : Nat} {ls : List Nat} (h : SqM M s b) (hl : ∀ i ∈ ls, i < s) : SqM (subM M ls) ls.length b := by
  refine ⟨by simp [subM], fun r hr => ?_⟩
  obtain ⟨i, hi, rfl⟩ := List.mem_map.mp hr
  refine ⟨by simp, fun c hc => ?_⟩
  obtain ⟨j, hj, rfl⟩ := List.mem_map.mp hc
  obtain ⟨r, _, _, _, rj⟩ := h.row (hl i hi)
  exact (rj j (hl j hj)).2
def quads : List (List Int) := [[0, 1, 2, 1], [1, 2, 0, 1], [2, 0, 1, 1], [0, 2, 1, -1], [1, 0, 2, -1], [2, 1, 0, -1]]
def quadV (t : List (List Int)) (q : List Int) : Int := q.getD 3 0 * mE t 0 (q.getD 0 0).toNat * mE t 1 (q.getD 1 0).toNat * mE t 2 (q.getD 2 0).toNat
def detM (t : List (List Int)) : Int :=
  if t.length = 1 then mE t 0 0 else if t.length = 2 then mE t 0 0 * mE t 1 1 - mE t 0 1 * mE t 1 0 else (quads.map (quadV t)).sum
theorem quads_ok : ∀ q ∈ quads, ∃ (a b c : Nat) (z : Int), q = [(a : Int), (b : Int), (c : Int), z] ∧ a < 3 ∧ b < 3 ∧ c < 3 ∧ z.natAbs < 2 := by
  intro q hq
  simp only [quads, List.mem_cons, List.not_mem_nil, or_false] at hq
  rcases hq with rfl | rfl | rfl | rfl | rfl | rfl
  · exact ⟨0, 1, 2, 1, rfl, by decide, by decide, by decide, by decide⟩
  · exact ⟨1, 2, 0, 1, rfl, by decide, by decide, by decide, by decide⟩
  · exact ⟨2, 0, 1, 1, rfl, by decide, by decide, by decide, by decide⟩
  · exact ⟨0, 2, 1, -1, rfl, by decide, by decide, by decide, by decide⟩
  · exact ⟨1, 0, 2, -1, rfl, by decide, by decide, by decide, by decide⟩
  · exact ⟨2, 1, 0, -1, rfl, by decide, by decide, by decide, by decide⟩
def spMinorL : Sp := fun vs H Q _ => ∃ (p l : Addr) (M : List (List Int)) (s : Nat) (ls : List Nat), vs = [.ref p, .ref l] ∧ IsTab H p M ∧ SqM M s 200 ∧ H l = some (.lst ((ls.map fun i : Nat => (i : Int)).map V.int)) ∧ (∀ i ∈ ls, i < s) ∧ 1 ≤ ls.length ∧ ls.length ≤ 3 ∧ ∀ H', Ex H H' → Q (.int (detM (subM M ls))) H'
def Rows0 (H : Hp) (acc : List V) (M : List (List Int)) : Prop := acc.length = M.length ∧ ∀ (i : Nat) (cs : List Int), M[i]? = some cs → ∃ a, acc[i]? = some (.ref a) ∧ H a = some (.lst (cs.map V.int))
theorem Rows0.snoc {H : Hp} {acc : List V} {M : List (List Int)} {a : Addr} {cs : List Int} (h : Rows0 H acc M) (ha : H a = some (.lst (cs.map V.int))) : Rows0 H (acc ++ [.ref a]) (M ++ [cs]) := by
  refine ⟨by simp [h.1], fun i ds hi => ?_⟩
  by_cases hl : i < M.length
  · rw [List.getElem?_append_left hl] at hi
    obtain ⟨b, h1, h2⟩ := h.2 i ds hi
    exact ⟨b, by rw [List.getElem?_append_left (by rw [h.1]; exact hl)]; exact h1, h2⟩
  · rw [List.getElem?_append_right (by omega)] at hi
    have e : i - M.length = 0 := by
      have := (List.getElem?_eq_some_iff.mp hi).1
      simp at this
      omega
    rw [e] at hi
    cases hi
    exact ⟨a, by rw [List.getElem?_append_right (by rw [h.1]; omega), h.1, e]; rfl, ha⟩
theorem lcTabF {tt : TT} {te : TE} {vs : List Nat} {σ : L2.St} {H1 : Hp} {Dd p : Addr} {Q : VK} {j : Nat} (T : List Int → Bool) {M : List (List Int)} (hD : H1 Dd = none) (hT : IsTab H1 p M) (hz : M.length ≤ 1000)
    (hw : ∀ x, wipe ((wipe σ vs).set j (some x)) vs = wipe σ vs)
    (hs : ∀ (i : Nat) (cs : List Int) (a : Addr) (H : Hp) (S : Bool → Hp → Prop), M[i]? = some cs → H1 a = some (.lst (cs.map V.int)) → Ex H1 H → (∀ H3, Ex H H3 → S (T cs) H3) → tt ((wipe σ vs).set j (some (.ref a))) H S)
    (hv : ∀ (x : V) (H : Hp) (S : VK), S x H → te ((wipe σ vs).set j (some x)) H S)
    (hd : ∀ H acc, Ex H1 H → H Dd = some (.lst acc) → Rows0 H1 acc (M.filter T) → Q (.ref Dd) H) : LcW (Itl K p) (gName j) tt (tmE te) vs σ H1 Dd Q := by
  obtain ⟨xs, hp, hl, hx⟩ := hT
  refine lc_list (xs := xs) (fun i H => Ex H1 H ∧ ∃ acc, H Dd = some (.lst acc) ∧ Rows0 H1 acc ((M.take i).filter T)) ⟨Ex.new hD, [], upd_same, rfl, fun i cs h => by simp at h⟩ (fun i H _ h => .of (h.1 _ _ hp)) (fun i x H hi h => ?_) (fun H h => ?_)
  · obtain ⟨e, acc, hA, hR⟩ := h
    have hi2 := (List.getElem?_eq_some_iff.mp hi).1
    obtain ⟨cs, hcs⟩ : ∃ cs, M[i]? = some cs := ⟨_, List.getElem?_eq_getElem (by omega)⟩
    obtain ⟨a, ha, haL⟩ := hx i cs hcs
    rw [ha] at hi
    cases hi
    have etk : M.take (i + 1) = M.take i ++ [cs] := by rw [List.take_add_one, hcs]; rfl
    have aD : a ≠ Dd := fun z => by rw [z, hD] at haL; cases haL
    have lacc : acc.length ≤ 1000 := by
      rw [hR.1]
      refine Nat.le_trans (List.length_filter_le _ _) ?_
      rw [List.length_take]
      omega
    refine ⟨hw _, hs i cs a H _ hcs haL e fun H3 e3 => ?_⟩
    have e13 := e.trans e3
    rw [etk, List.filter_append]
    cases hT2 : T cs with
    | true =>
      rw [if_pos rfl]
      refine ⟨fun y H' => y = .ref a ∧ H' = H3, hv _ _ _ ⟨rfl, rfl⟩, ?_⟩
      rintro y H' ⟨rfl, rfl⟩
      refine ⟨acc, e3 _ _ hA, Nat.lt_of_lt_of_le (show acc.length < 1000000 by omega) (by decide), fun b o hb => ?_, _, upd_same, ?_⟩
      · rw [upd_ne (ne_of_none hb hD)]
        exact e13 _ _ hb
      · have f1 : [cs].filter T = [cs] := by simp [hT2]
        rw [f1]
        exact hR.snoc haL
    | false =>
      rw [if_neg (by decide)]
      have f1 : [cs].filter T = [] := by simp [hT2]
      rw [f1, List.append_nil]
      exact ⟨e13, acc, e3 _ _ hA, hR⟩
  · obtain ⟨e, acc, hA, hR⟩ := h
    rw [hl, List.take_length] at hR
    exact hd H acc e hA hR
def tabD (M : List (List Int)) : List PyData := M.map fun cs => .list (cs.map PyData.int)
theorem rows0_dp {H : Hp} : ∀ {acc : List V} {M : List (List Int)}, Rows0 H acc M → DpAll K H acc (tabD M)
  | [], [], _ => .nil
  | [], _ :: _, h => by cases h.1
  | _ :: _, [], h => by cases h.1
  | x :: acc, cs :: M, h => by
    obtain ⟨a, e, ha⟩ := h.2 0 cs rfl
    cases e
    refine .cons (.lst (.of ha) (dp_ints cs)) (rows0_dp ⟨by simpa using h.1, fun i ds hi => by simpa using h.2 (i + 1) ds (by simpa using hi)⟩)
theorem shaped_tab (M : List (List Int)) : SeqAt.shaped (.list (tabD M)) = true := by
  have h : ∀ cs : List Int, PyData.canLayAll0 (cs.map PyData.int) = true ∧ PyData.depthAll (cs.map PyData.int) = 0 := by
    intro cs
    induction cs with
    | nil => exact ⟨by simp [PyData.canLayAll0], by simp [PyData.depthAll]⟩
    | cons c cs ih => exact ⟨by simp [PyData.canLayAll0, PyData.canLay0, ih.1], by simp [PyData.depthAll, PyData.depth, ih.2]⟩
  have h2 : ∀ M : List (List Int), PyData.canLayAll0 (tabD M) = true ∧ PyData.depthAll (tabD M) ≤ 1 := by
    intro M
    induction M with
    | nil => exact ⟨by simp [tabD, PyData.canLayAll0], by simp [tabD, PyData.depthAll]⟩
    | cons cs M ih =>
      have e : tabD (cs :: M) = .list (cs.map PyData.int) :: tabD M := rfl
      rw [e]
      refine ⟨by simp [PyData.canLayAll0, PyData.canLay0, ih.1, (h cs).1], ?_⟩
      have := ih.2
      simp [PyData.depthAll, PyData.depth, (h cs).2]
      omega
  unfold SeqAt.shaped
  have := (h2 M).2
  simp [PyData.canLay0, PyData.depth, (h2 M).1]
  omega
def lots7 : List (List Int) := [[0], [1], [2], [0, 1], [0, 2], [1, 2], [0, 1, 2]]
def lotsF (s : Nat) : List (List Int) := lots7.filter fun l => decide (l.getLastD 0 < (s : Int))
def natsL (l : List Int) : List Nat := l.map Int.toNat
def aboveB (M : List (List Int)) (s : Nat) : Bool := (lotsF s).all fun l => decide (0 ≤ detM (subM M (natsL l)))
theorem lots_ok : ∀ l ∈ lots7, 1 ≤ l.length ∧ l.length ≤ 3 ∧ (natsL l).map (fun i : Nat => (i : Int)) = l ∧ ∀ s : Nat, l.getLastD 0 < (s : Int) → ∀ i ∈ natsL l, i < s := by
  intro l hl
  simp only [lots7, List.mem_cons, List.not_mem_nil, or_false] at hl
  rcases hl with rfl | rfl | rfl | rfl | rfl | rfl | rfl
  all_goals
    refine ⟨by decide, by decide, by decide, fun s hs i hi => ?_⟩
    simp [natsL] at hi hs
    omega
def spAbove : Sp := fun vs H Q _ => ∃ (p : Addr) (M : List (List Int)) (s : Nat), vs = [.ref p] ∧ IsTab H p M ∧ SqM M s 200 ∧ s ≤ 3 ∧ ∀ H', Ex H H' → Q (.bl (aboveB M s)) H'
theorem natV_get {n i : Nat} (hi : i < n) : ((natV n).map V.int)[i]? = some (.int (i : Int)) := by
  unfold natV
  rw [List.getElem?_map, List.getElem?_map, List.getElem?_range hi]
  rfl
theorem natV_len (n : Nat) : ((natV n).map V.int).length = n := by simp [natV]
def genT (s : Nat) (f : Nat → Nat → Int) : List (List Int) := (List.range s).map fun i => (List.range s).map (f i)
theorem lcRow {te : TE} {σ : L2.St} {H1 : Hp} {D2 a : Addr} {Q : VK} {j s : Nat} (g : Nat → Int) (hD : H1 D2 = none) (hx : SqL K H1 a ((natV s).map V.int)) (s3 : s ≤ 1000)
    (hw : ∀ x, wipe ((wipe σ [j]).set j (some x)) [j] = wipe σ [j])
    (hs : ∀ i < s, ∀ (G : Hp) (S : VK), Ex H1 G → S (.int (g i)) G → te ((wipe σ [j]).set j (some (.int (i : Int)))) G S)
    (hd : ∀ G, Ex H1 G → G D2 = some (.lst (((List.range s).map g).map V.int)) → Q (.ref D2) G) : LcW (Itl K a) (gName j) tYes (tmE te) [j] σ H1 D2 Q := by
  refine lcLn (fun i y _ => y = .int (g i)) (fun _ _ _ _ _ h => h) hD hx (by rw [natV_len]; omega) hw (fun i x G hi e => ?_) (fun G ys e hy hl hr => ?_)
  · have hi2 : i < s := by have := (List.getElem?_eq_some_iff.mp hi).1; rw [natV_len] at this; exact this
    rw [natV_get hi2] at hi
    cases hi
    exact ⟨fun y G' => y = .int (g i) ∧ G' = G, hs i hi2 G _ e ⟨rfl, rfl⟩, fun y G' ⟨h1, h2⟩ => by rw [h2]; exact ⟨Ex.refl _, h1⟩⟩
  · rw [natV_len] at hl
    rw [ints_of hl hr] at hy
    exact hd G e hy
theorem lcOut {te : TE} {σ : L2.St} {H1 : Hp} {Dd a : Addr} {Q : VK} {j s : Nat} (f : Nat → Nat → Int) (hD : H1 Dd = none) (hx : SqL K H1 a ((natV s).map V.int)) (s3 : s ≤ 1000)
    (hw : ∀ x, wipe ((wipe σ [j]).set j (some x)) [j] = wipe σ [j])
    (hs : ∀ i < s, ∀ (G : Hp) (S : VK), Ex H1 G → (∀ (D2 : Addr) (G2 : Hp), G D2 = none → Ex G G2 → G2 D2 = some (.lst (((List.range s).map (f i)).map V.int)) → S (.ref D2) G2) → te ((wipe σ [j]).set j (some (.int (i : Int)))) G S)
    (hd : ∀ G, Ex H1 G → IsTab G Dd (genT s f) → Q (.ref Dd) G) : LcW (Itl K a) (gName j) tYes (tmE te) [j] σ H1 Dd Q := by
  refine lcLb (rowF Dd fun i => (List.range s).map (f i)) rowF_but hD hx (by rw [natV_len]; omega) hw (fun i x G hi e ⟨acc, hacc⟩ => ?_) (fun G ys e hy hl hr => ?_)
  · have hi2 : i < s := by have := (List.getElem?_eq_some_iff.mp hi).1; rw [natV_len] at this; exact this
    rw [natV_get hi2] at hi
    cases hi
    refine ⟨fun y G' => Ex G G' ∧ rowF Dd (fun i => (List.range s).map (f i)) i y G', hs i hi2 G _ e fun D2 G2 n2 e2 h2 => ⟨e2, D2, rfl, fun z => ?_, h2⟩, fun y G' h => h⟩
    rw [z, hacc] at n2
    cases n2
  · rw [natV_len] at hl
    exact hd G e (tab_of hy hl hr)
theorem genT_sq {s b : Nat} {f : Nat → Nat → Int} (h : ∀ i < s, ∀ j < s, (f i j).natAbs < 2 ^ b) : SqM (genT s f) s b := by
  refine ⟨by simp [genT], fun r hr => ?_⟩
  obtain ⟨i, hi, rfl⟩ := List.mem_map.mp hr
  refine ⟨by simp, fun c hc => ?_⟩
  obtain ⟨j, hj, rfl⟩ := List.mem_map.mp hc
  exact h i (List.mem_range.mp hi) j (List.mem_range.mp hj)
def wayS (cs : List Int) (j : Nat) : Int := ((List.range cs.length).map fun k => cs.getD k 0 * ((chs k j : Nat) : Int)).sum
def momL (cs : List Int) (j : Nat) : Int := wayS cs j * 60 / ((chs (cs.length - 1) j : Nat) : Int)
def nearF (m : Nat → Int) (n : Nat) (i j : Nat) : Int := if n % 2 = 0 then m (i + j) else m (i + j + 1)
def farF (m : Nat → Int) (n : Nat) (i j : Nat) : Int := if n % 2 = 0 then m (i + j + 1) - m (i + j + 2) else m (i + j) - m (i + j + 1)
def farS (n : Nat) : Nat := if n % 2 = 0 then n / 2 else n / 2 + 1
def dueB (m : Nat → Int) (n : Nat) : Bool := aboveB (genT (n / 2 + 1) (nearF m n)) (n / 2 + 1) && aboveB (genT (farS n) (farF m n)) (farS n)
theorem way_le {cs : List Int} {n j : Nat} (h : NumL cs (n + 1) (2 ^ 110)) (hn : n < 6) (hj : j ≤ n) : 0 ≤ wayS cs j ∧ wayS cs j ≤ 60 * 2 ^ 110 := by
  have each : ∀ x ∈ (List.range cs.length).map (fun k => cs.getD k 0 * ((chs k j : Nat) : Int)), 0 ≤ x ∧ x ≤ 2 ^ 110 * 10 := by
    intro x hx
    obtain ⟨k, hk, rfl⟩ := List.mem_map.mp hx
    have hk := List.mem_range.mp hk
    obtain ⟨c, hc, c0, c1⟩ := h.get (k := k) (by rw [← h.1]; exact hk)
    have e : cs.getD k 0 = c := by rw [List.getD_eq_getElem?_getD, hc]; rfl
    have c2 := chs_le (a := k) (b := j) (by have := h.1; omega) (by omega)
    rw [e]
    exact ⟨Int.mul_nonneg c0 (by omega), Int.mul_le_mul c1 (by omega) (by omega) (by decide)⟩
  have nn := sum_nonneg fun x hx => (each x hx).1
  have sl := sum_le (b := 2 ^ 110 * 10) fun x hx => (each x hx).2
  have hl := h.1
  rw [List.length_map, List.length_range] at sl
  have : (cs.length : Int) * (2 ^ 110 * 10) ≤ 6 * (2 ^ 110 * 10) := Int.mul_le_mul_of_nonneg_right (by omega) (by decide)
  exact ⟨nn, by unfold wayS; omega⟩
theorem mom_le {cs : List Int} {n j : Nat} (h : NumL cs (n + 1) (2 ^ 110)) (hn : n < 6) (hj : j ≤ n) : 0 ≤ momL cs j ∧ momL cs j < 2 ^ 130 := by
  obtain ⟨w0, w1⟩ := way_le h hn hj
  have hl := h.1
  have cp := chs_pos (a := cs.length - 1) (b := j) (by omega) (by omega)
  unfold momL
  refine ⟨Int.ediv_nonneg (by omega) (by omega), ?_⟩
  have := Int.ediv_le_self ((chs (cs.length - 1) j : Nat) : Int) (show 0 ≤ wayS cs j * 60 by omega)
  have : (2 : Int) ^ 130 = 2 ^ 110 * 2 ^ 20 := by decide
  omega
theorem cutN {s : Nat} (h : s < 3) : cutV ((natV (s + 1)).map V.int) none (some (-1)) = (natV s).map V.int := by
  have : s = 0 ∨ s = 1 ∨ s = 2 := by omega
  rcases this with rfl | rfl | rfl <;> rfl
theorem near_sz {cs : List Int} {n : Nat} (h : NumL cs (n + 1) (2 ^ 110)) (hn : n < 6) (n1 : 1 ≤ n) : ∀ i < n / 2 + 1, ∀ j < n / 2 + 1, (nearF (momL cs) n i j).natAbs < 2 ^ 200 := by
  intro i hi j hj
  have b : (2 : Nat) ^ 130 ≤ 2 ^ 200 := Nat.pow_le_pow_right (by decide) (by decide)
  unfold nearF
  split
  · have := mom_le (j := i + j) h hn (by omega)
    omega
  · have := mom_le (j := i + j + 1) h hn (by omega)
    omega
theorem far_sz {cs : List Int} {n : Nat} (h : NumL cs (n + 1) (2 ^ 110)) (hn : n < 6) (n1 : 1 ≤ n) : ∀ i < farS n, ∀ j < farS n, (farF (momL cs) n i j).natAbs < 2 ^ 200 := by
  intro i hi j hj
  have b : (2 : Nat) ^ 130 ≤ 2 ^ 200 := Nat.pow_le_pow_right (by decide) (by decide)
  unfold farS at hi hj
  unfold farF
  split
  · rename_i hp
    rw [if_pos hp] at hi hj
    have := mom_le (j := i + j + 1) h hn (by omega)
    have := mom_le (j := i + j + 2) h hn (by omega)
    omega
  · rename_i hp
    rw [if_neg hp] at hi hj
    have := mom_le (j := i + j) h hn (by omega)
    have := mom_le (j := i + j + 1) h hn (by omega)
    omega
def spDueL (K : PySem.W.Frag) : Sp := fun vs H Q _ => ∃ (l : Addr) (cs : List Int) (n : Nat), vs = [.ref l] ∧ H l = some (.lst (cs.map V.int)) ∧ NumL cs (n + 1) (2 ^ 110) ∧ 1 ≤ n ∧ n < 6 ∧ ∀ H', Ex H H' → Q (.bl (dueB (momL cs) n)) H'
def yesF (cs : List Int) (j : Nat) : Int := wayS cs j * ((Builtin.Math.factorialNat j : Nat) : Int) * ((Builtin.Math.factorialNat (cs.length - 1 - j) : Nat) : Int)
theorem fac_le : ∀ n < 6, 1 ≤ Builtin.Math.factorialNat n ∧ Builtin.Math.factorialNat n ≤ 120 := by decide +kernel
def spYes (K : PySem.W.Frag) : Sp := fun vs H Q _ => ∃ (p : Addr) (cs : List Int) (n : Nat), vs = [.ref p] ∧ SqT K H p (cs.map V.int) ∧ NumL cs (n + 1) (2 ^ 110) ∧ 1 ≤ n ∧ n < 6 ∧ ∀ l H', Ex H H' → H' l = some (.lst (((List.range (n + 1)).map (yesF cs)).map V.int)) → Q (.ref l) H'
theorem scYes : FnScope ["counts", "draws", "k", "count", "j"] ["counts"] (defScope (top 29)) := ⟨rfl, rfl, rfl, by decide +kernel, rfl, by decide +kernel, by decide +kernel⟩
theorem has_yes (B : Bi mg) (c_comb : mg "comb" = some (.builtin "math.comb")) (c_factorial : mg "factorial" = some (.builtin "math.factorial")) (D : Df K mg "yes_sums" (top 29) ["counts"]) : Has P w K mg base "yes_sums" 1 ["counts"] (spYes K) := by
  have sc := scYes
  refine .of D fun f fd F => F.ok sc (fun vs H Q E h => ?_) (fun cdv A outer s H vs Q E hr h => ?_)
  · obtain ⟨l, cs, n, rfl, _⟩ := h
    rfl
  · obtain ⟨p, cs, n, rfl, hp, hN, n1, hn, k⟩ := h
    refine ⟨_, (pss_cons (ps_set (i := 1) sc.nd rfl (by first | exact Or.inl rfl | exact Or.inr rfl) (pe_op op_sub (pe_callB (kLen (K := K)) (by rfl) B.len (by decide +kernel) (pa_cons (pv 0) pa_nil)) pe_int))
      (pss_one (ps_ret (pe_lc (own := [("j", 4)]) (g := gName 4) (tt := tYes) rfl sc.nd (pi_range1 (by rfl) B.range (pa_cons (pe_op op_add (pv 1) pe_int) pa_nil)) (blkOk_by (N := (["counts", "draws", "k", "count", "j"] : List Str)) (sc := defScope (top 29)) (by decide +kernel)) (fun _ _ _ _ _ => (pg_name (i := 4) sc.nd rfl (by first | exact Or.inl rfl | exact Or.inr rfl))) (fun _ _ _ _ _ => pts_nil) (fun _ _ _ _ _ => (PE.mon (pe_op op_mulS (pe_op op_mulS (pe_callB (kSum (K := K) rfl) (by rfl) B.sum (by decide +kernel) (pa_cons (pe_lc (own := [("k", 2), ("count", 3)]) (g := gTup K 2 (gCons (gName 2) (gCons (gName 3) gNil))) (tt := tYes) rfl sc.nd (kEnumT (K := K) (by rfl) B.enumerate (pa_cons (pv 0) pa_nil)) (blkOk_by (by kernel_rfl)) (fun _ _ _ _ _ => (pg_tup rfl (pgs_cons (pg_name (i := 2) sc.nd rfl (by first | exact Or.inl rfl | exact Or.inr rfl)) (pgs_cons (pg_name (i := 3) sc.nd rfl (by first | exact Or.inl rfl | exact Or.inr rfl)) pgs_nil)))) (fun _ _ _ _ _ => pts_nil) (fun _ _ _ _ _ => (PE.mon (pe_op op_mulS (pv 3) (pe_callBfun cr_comb (by rfl) c_comb (pa_cons (pv 2) (pa_cons (pv 4) pa_nil))))))) pa_nil)) (pe_callBfun cr_fact (by rfl) c_factorial (pa_cons (pv 4) pa_nil))) (pe_callBfun cr_fact (by rfl) c_factorial (pa_cons (pe_op op_sub (pv 1) (pv 4)) pa_nil))))))))), ?_⟩
    walk_at "rd"
    have ncs : cs.length = n + 1 := hN.1
    refine ⟨_, .inr hp, ?_⟩
    rw [List.length_map, ncs]
    have en : (((n + 1 : Nat) : Int)) - 1 = (n : Int) := by omega
    rw [en]
    refine ⟨by omega, by omega, fun Dd hD => lcR (fun j y _ => y = .int (yesF cs j)) (fun _ _ _ _ _ h => h) hD (by omega) (fun _ => rfl) ?_ ?_⟩
    · intro j G hj e
      have hj : j ≤ n := by omega
      obtain ⟨R0, hR⟩ : ∃ R : VK, R = fun y G' => Ex G G' ∧ y = .int (yesF cs j) := ⟨_, rfl⟩
      refine ⟨R0, ?_, fun y G' h => by rw [hR] at h; exact h⟩
      walk_at "rd"
      refine ⟨⟨_, sqT_kp hp e.kp⟩, fun D2 hD2 => lcE (fun i y _ => y = .int (cs.getD i 0 * ((chs i j : Nat) : Int))) (fun _ _ _ _ _ h => h) hD2 (sqT_kp hp e.kp) (by rw [List.length_map]; omega) (gm_tup (gm_cons gm_name (gm_cons gm_name gm_nil))) ?_ ?_⟩
      · intro i v T H2 hv e2 hT
        obtain ⟨c, hc, rfl⟩ := map_int_get hv
        have hi := (List.getElem?_eq_some_iff.mp hc).1
        obtain ⟨c', hc', c0, c1⟩ := hN.get (k := i) (by omega)
        rw [hc] at hc'
        cases hc'
        have ec : cs.getD i 0 = c := by rw [List.getD_eq_getElem?_getD, hc]; rfl
        rw [ec]
        walk_at "rd"
        refine ⟨_, .of hT, rfl, ?_⟩
        walk_at "rd"
        obtain ⟨R1, hR1⟩ : ∃ R : VK, R = fun v H' => v = .int (c * ((chs i j : Nat) : Int)) ∧ H' = H2 := ⟨_, rfl⟩
        refine ⟨R1, ?_, fun v H' h => by rw [hR1] at h; obtain ⟨rfl, rfl⟩ := h; exact ⟨Ex.refl _, rfl⟩⟩
        walk_at "rd"
        refine ⟨_, _, rfl, comb_ok (by omega) (by omega), ?_⟩
        rw [comb_chs (by omega) (by omega)]
        have hb := chs_le (a := i) (b := j) (by omega) (by omega)
        walk_at "rd"
        refine ⟨cmulR, ?_⟩
        rw [hR1]
        exact ⟨rfl, rfl⟩
      · intro H2 ys e2 hy hl hr2
        rw [List.length_map] at hl
        have ey : ys = ((List.range cs.length).map fun k => cs.getD k 0 * ((chs k j : Nat) : Int)).map V.int := ints_of hl hr2
        rw [ey] at hy
        refine ⟨D2, _, rfl, .inl (.of hy), ?_⟩
        have wl := way_le hN hn hj
        have f1 := fac_le j (by omega)
        have f2 := fac_le (n - j) (by omega)
        refine ⟨j, rfl, by omega, ?_⟩
        walk_at "rd"
        have b1 : (wayS cs j).natAbs < 2 ^ 130 := by omega
        refine ⟨cmul 130 7 b1 (by omega), ?_⟩
        refine ⟨n - j, by first | omega | (congr 2; omega), by omega, ?_⟩
        walk_at "rd"
        refine ⟨cmul 137 7 (wide_lt (a := 130) (b := 7) b1 (by omega)) (by omega), ?_⟩
        rw [hR]
        refine ⟨e2, ?_⟩
        unfold yesF wayS
        rw [ncs]
        rfl
    · intro G ys e hy hl hr2
      rw [ints_of hl hr2] at hy
      rw [show ((n : Int) + 1).toNat = n + 1 by omega] at hy
      exact k Dd G e hy
theorem cut_mid (xs : List V) (i s : Nat) (h : i + s ≤ xs.length) : cutV xs (some (i : Int)) (some ((i + s : Nat) : Int)) = (xs.drop i).take s := by
  unfold cutV
  rw [HT.sIx_nat, HT.sIx_nat, Nat.min_eq_left (by omega), Nat.min_eq_left (by omega), show i + s - i = s by omega]
theorem mid_eq (cs : List Int) (i s : Nat) (h : i + s ≤ cs.length) : ((cs.map V.int).drop i).take s = ((List.range s).map fun j => cs.getD (i + j) 0).map V.int := by
  apply List.ext_getElem?
  intro q
  by_cases hq : q < s
  · rw [List.getElem?_take_of_lt hq, List.getElem?_drop, List.getElem?_map, List.getElem?_map, List.getElem?_map, List.getElem?_range hq]
    rw [List.getElem?_eq_getElem (show i + q < cs.length by omega)]
    simp only [Option.map_some]
    rw [List.getD_eq_getElem?_getD, List.getElem?_eq_getElem (show i + q < cs.length by omega)]
    rfl
  · rw [List.getElem?_eq_none (by rw [List.length_take]; omega), List.getElem?_eq_none (by simp; omega)]
def spTable : Sp := fun vs H Q _ => ∃ (p : Addr) (cs : List Int) (n : Nat), vs = [.ref p, .int (n : Int)] ∧ H p = some (.lst (cs.map V.int)) ∧ n ≤ 100 ∧ (∀ i < n, i + n ≤ cs.length) ∧ ∀ l H', Ex H H' → IsTab H' l (genT n fun i j => cs.getD (i + j) 0) → Q (.ref l) H'
theorem scTable : FnScope ["chances", "size", "i"] ["chances", "size"] (defScope (top 37)) := ⟨rfl, rfl, rfl, by decide +kernel, rfl, by decide +kernel, by decide +kernel⟩
theorem has_table (B : Bi mg) (D : Df K mg "_table" (top 37) ["chances", "size"]) : Has P w K mg base "_table" 1 ["chances", "size"] spTable := by
  have sc := scTable
  refine .of D fun f fd F => F.ok sc (fun vs H Q E h => ?_) (fun cdv A outer s H vs Q E hr h => ?_)
  · obtain ⟨l, cs, n, rfl, _⟩ := h
    rfl
  · obtain ⟨p, cs, n, rfl, hp, hn, hi, k⟩ := h
    refine ⟨_, (pss_one (ps_ret (pe_lc (own := [("i", 2)]) (g := gName 2) (tt := tYes) rfl sc.nd (pi_range1 (by rfl) B.range (pa_cons (pv 1) pa_nil)) (blkOk_by (N := (["chances", "size", "i"] : List Str)) (sc := defScope (top 37)) (by decide +kernel)) (fun _ _ _ _ _ => (pg_name (i := 2) sc.nd rfl (by first | exact Or.inl rfl | exact Or.inr rfl))) (fun _ _ _ _ _ => pts_nil) (fun _ _ _ _ _ => (PE.mon (pe_slice (slL (K := K)) (pv 0) (po_some (pv 2)) (po_some (pe_op op_add (pv 2) (pv 1))))))))), ?_⟩
    walk_at "rd"
    refine ⟨by omega, by omega, fun Dd hD => lcRb (rowF Dd fun i => (List.range n).map fun j => cs.getD (i + j) 0) rowF_but hD (by omega) (fun _ => rfl) ?_ ?_⟩
    · intro i G hin e ⟨acc, hacc⟩
      have hin : i < n := by omega
      obtain ⟨R0, hR⟩ : ∃ R : VK, R = fun y G' => Ex G G' ∧ rowF Dd (fun i => (List.range n).map fun j => cs.getD (i + j) 0) i y G' := ⟨_, rfl⟩
      refine ⟨R0, ?_, fun y G' h => by rw [hR] at h; exact h⟩
      walk_at "rd"
      refine ⟨p, _, rfl, .of (e _ _ hp), fun q G2 n2 e2 t2 => ?_⟩
      rw [show (i : Int) + (n : Int) = ((i + n : Nat) : Int) by omega, cut_mid _ _ _ (by rw [List.length_map]; exact hi i hin), mid_eq _ _ _ (hi i hin)] at t2
      rw [hR]
      exact ⟨e2, q, rfl, (fun z => by rw [z, hacc] at n2; cases n2), t2⟩
    · intro G ys e hy hl hr2
      exact k Dd G e (tab_of hy (by omega) hr2)
def sg (j : Nat) : Int := (-1) ^ j
def offM (M : List (List Int)) (j : Nat) : List (List Int) := (M.drop 1).map fun r => r.take j ++ r.drop (j + 1)
def lap : Nat → List (List Int) → Int
  | 0, _ => 1
  | s + 1, M => ((List.range (s + 1)).map fun j => sg j * mE M 0 j * lap s (offM M j)).sum
theorem off_sq {M : List (List Int)} {s b j : Nat} (h : SqM M (s + 1) b) (hj : j < s + 1) : SqM (offM M j) s b := by
  refine ⟨by simp [offM, h.1], fun r hr => ?_⟩
  obtain ⟨r0, h0, rfl⟩ := List.mem_map.mp hr
  have h1 := h.2 r0 (List.mem_of_mem_drop h0)
  refine ⟨by simp [h1.1]; omega, fun c hc => ?_⟩
  rcases List.mem_append.mp hc with hc | hc
  · exact h1.2 c (List.mem_of_mem_take hc)
  · exact h1.2 c (List.mem_of_mem_drop hc)
theorem sg_succ (j : Nat) : sg (j + 1) = -sg j := by unfold sg; rw [Int.pow_succ]; omega
theorem sg_abs (j : Nat) : (sg j).natAbs = 1 := by
  induction j with
  | zero => rfl
  | succ j ih => rw [sg_succ, Int.natAbs_neg, ih]
theorem isum_app (a b : List Int) : (a ++ b).sum = a.sum + b.sum := by
  induction a with
  | nil => simp
  | cons x a ih => rw [List.cons_append, List.sum_cons, List.sum_cons, ih]; omega
theorem abs_sum {l : List Int} {b : Nat} (h : ∀ x ∈ l, x.natAbs ≤ b) : l.sum.natAbs ≤ l.length * b := by
  induction l with
  | nil => simp
  | cons x l ih =>
    have h1 := h x List.mem_cons_self
    have h2 := ih fun y hy => h y (List.mem_cons_of_mem _ hy)
    rw [List.sum_cons, List.length_cons, Nat.succ_mul]
    have := Int.natAbs_add_le x l.sum
    omega
theorem lap_lt : ∀ {s : Nat} {M : List (List Int)}, SqM M s 200 → s ≤ 3 → (lap s M).natAbs ≤ 2 ^ (202 * s)
  | 0, M, _, _ => by simp [lap]
  | s + 1, M, h, h3 => by
    have each : ∀ x ∈ (List.range (s + 1)).map (fun j => sg j * mE M 0 j * lap s (offM M j)), x.natAbs ≤ 2 ^ (200 + 202 * s) := by
      intro x hx
      obtain ⟨j, hj, rfl⟩ := List.mem_map.mp hx
      have hj := List.mem_range.mp hj
      obtain ⟨_, _, _, _, r0⟩ := h.row (i := 0) (by omega)
      have h1 := (r0 j hj).2
      have h2 := lap_lt (off_sq h hj) (by omega)
      rw [Int.natAbs_mul, Int.natAbs_mul, sg_abs, Nat.one_mul, Nat.pow_add]
      exact Nat.mul_le_mul (Nat.le_of_lt h1) h2
    have := abs_sum each
    rw [List.length_map, List.length_range] at this
    refine Nat.le_trans this ?_
    have e : 2 ^ (202 * (s + 1)) = 4 * 2 ^ (200 + 202 * s) := by
      rw [show 202 * (s + 1) = 2 + (200 + 202 * s) by omega, Nat.pow_add]
    rw [e]
    exact Nat.mul_le_mul_right _ (by omega)
def spMin (m : Nat) : Sp := fun vs H Q _ => ∃ (p : Addr) (M : List (List Int)) (s : Nat), vs = [.ref p] ∧ IsTab H p M ∧ SqM M s 200 ∧ s < m ∧ s ≤ 3 ∧ ∀ H', Ex H H' → Q (.int (lap s M)) H'
theorem scMin : FnScope ["table", "total", "turn", "j", "corner", "line"] ["table"] (defScope (top 39)) := ⟨rfl, rfl, rfl, by decide +kernel, rfl, by decide +kernel, by decide +kernel⟩
theorem has_min0 (D : Df K mg "_minor" (top 39) ["table"]) : Has P w K mg base "_minor" 1 ["table"] (spMin 0) := by
  have sc := scMin
  refine .of D fun f fd F => F.ok sc (fun vs H Q E h => ?_) (fun cdv A outer s H vs Q E hr h => ?_)
  · obtain ⟨p, M, s, _, _, _, h, _⟩ := h
    omega
  · obtain ⟨p, M, s, _, _, _, h, _⟩ := h
    omega
theorem has_minS (B : Bi mg) {lv m : Nat} (h_minor : Has P w K mg base "_minor" lv ["table"] (spMin m)) (D : Df K mg "_minor" (top 39) ["table"]) : Has P w K mg base "_minor" (lv + 1) ["table"] (spMin (m + 1)) := by
  have sc := scMin
  refine .of D fun f fd F => F.ok sc (fun vs H Q E h => ?_) (fun cdv A outer s H vs Q E hr h => ?_)
  · obtain ⟨p, M, sz, rfl, _⟩ := h
    rfl
  · obtain ⟨p, M, sz, rfl, hT, hM, hm, h3, k⟩ := h
    refine ⟨_, (pss_cons (ps_if (pt_cmpR op_eq (pe_callB (kLen (K := K)) (by rfl) B.len (by decide +kernel) (pa_cons (pv 0) pa_nil)) pe_int (nomark _)) (pss_one (ps_ret pe_int)) pss_nil)
      (pss_cons (ps_set (i := 1) sc.nd rfl (by first | exact Or.inl rfl | exact Or.inr rfl) pe_int)
      (pss_cons (ps_set (i := 2) sc.nd rfl (by first | exact Or.inl rfl | exact Or.inr rfl) pe_int)
      (pss_cons (ps_for PassesOwn.never rfl (pi_enum (by rfl) B.enumerate (pa_cons (pe_ix (ixL (K := K)) (pv 0) pe_int (fun _ _ => rfl)) pa_nil)) (pg_tup rfl (pgs_cons (pg_name (i := 3) sc.nd rfl (by first | exact Or.inl rfl | exact Or.inr rfl)) (pgs_cons (pg_name (i := 4) sc.nd rfl (by first | exact Or.inl rfl | exact Or.inr rfl)) pgs_nil)))
      (pss_cons (ps_set (i := 1) sc.nd rfl (by first | exact Or.inl rfl | exact Or.inr rfl) (pe_op op_add (pv 1) (pe_op op_mulS (pe_op op_mulS (pv 2) (pv 4)) (pe_has h_minor (hr.mono (Nat.le_refl _)) (pa_cons (pe_lc (own := [("line", 5)]) (g := gName 5) (tt := tYes) rfl sc.nd (pi_list (pe_slice (slL (K := K)) (pv 0) (po_some pe_int) po_none)) (blkOk_by (N := (["table", "total", "turn", "j", "corner", "line"] : List Str)) (sc := defScope (top 39)) (by decide +kernel)) (fun _ _ _ _ _ => (pg_name (i := 5) sc.nd rfl (by first | exact Or.inl rfl | exact Or.inr rfl))) (fun _ _ _ _ _ => pts_nil) (fun _ _ _ _ _ => (PE.mon (pe_op op_catN (pe_slice (slL (K := K)) (pv 5) po_none (po_some (pv 3))) (pe_slice (slL (K := K)) (pv 5) (po_some (pe_op op_add (pv 3) pe_int)) po_none))))) pa_nil)))))
      (pss_one (ps_set (i := 2) sc.nd rfl (by first | exact Or.inl rfl | exact Or.inr rfl) (pe_un un_neg (pv 2))))))
      (pss_one (ps_ret (pv 1))))))), ?_⟩
    walk_at "rd"
    obtain ⟨xs, hp, hl, hx⟩ := id hT
    refine ⟨_, .inl (.of hp), ?_⟩
    rw [hl, hM.1]
    cases sz with
    | zero =>
      rw [if_pos (by omega)]
      exact k H (Ex.refl _)
    | succ s0 =>
      rw [if_neg (by omega)]
      obtain ⟨r0, hr0, rl0, _, rj0⟩ := hM.row (i := 0) (by omega)
      obtain ⟨a0, ha0, hL0⟩ := hx 0 r0 hr0
      rw [r_enumL]
      walk_at "rd"
      refine q_ixL (.of hp) (at_of (j := 0) (by simp [ixN]) ha0) ?_
      refine ⟨a0, rfl, ⟨_, .of hL0⟩, ?_⟩
      obtain ⟨Pv, hP⟩ : ∃ P : Nat → L2.St → Hp → Prop, P = fun (j : Nat) σ' G => Ex H G ∧ ∃ (z3 z4 z5 : Option V), σ' = [some (.ref p), some (.int ((List.range j).map fun j => sg j * mE M 0 j * lap s0 (offM M j)).sum), some (.int (sg j)), z3, z4, z5] := ⟨_, rfl⟩
      refine loopEl (xs := r0.map V.int) Pv (by rw [hP]; exact ⟨Ex.refl _, _, _, _, rfl⟩) (fun i σ' G _ h => by rw [hP] at h; exact .of (h.1 _ _ hL0)) ?_ ?_
      · intro j x σ' G T G' hx0 h eG hT'
        rw [hP] at h
        obtain ⟨e1, z3, z4, z5, rfl⟩ := h
        have hj : j < s0 + 1 := by
          have := (List.getElem?_eq_some_iff.mp hx0).1
          rw [List.length_map] at this
          omega
        rw [List.getElem?_map, (rj0 j hj).1] at hx0
        cases hx0
        walk_at "rd"
        refine ⟨_, .of hT', rfl, ?_⟩
        walk_at "rd"
        have b1 : (sg j).natAbs < 2 ^ 1 := by rw [sg_abs]; decide
        have b2 := (rj0 j hj).2
        refine ⟨cmul 1 200 b1 b2, ?_⟩
        have hpG := (e1.trans eG) _ _ hp
        refine ⟨p, _, rfl, .of hpG, fun q G2 n2 e2 t2 => ?_⟩
        rw [show (1 : Int) = ((1 : Nat) : Int) from rfl, cut_drop] at t2
        have e12 := (e1.trans eG).trans e2
        have xl : xs.length = s0 + 1 := by rw [hl, hM.1]
        refine ⟨q, rfl, ⟨_, .of t2⟩, fun Dd hD => lcLb (rowF Dd fun i => (M.getD (i + 1) []).take j ++ (M.getD (i + 1) []).drop (j + 1)) rowF_but hD (.of t2) (by rw [List.length_drop]; omega) (fun _ => rfl) ?_ ?_⟩
        · intro i y G3 hy e3 ⟨acc, hacc⟩
          rw [List.getElem?_drop] at hy
          have hi : 1 + i < s0 + 1 := by have := (List.getElem?_eq_some_iff.mp hy).1; omega
          obtain ⟨r, hr1, rl, _, _⟩ := hM.row (i := 1 + i) hi
          obtain ⟨a, ha, hL⟩ := hx _ r hr1
          rw [ha] at hy
          cases hy
          have eg : M.getD (i + 1) [] = r := by rw [List.getD_eq_getElem?_getD, show i + 1 = 1 + i by omega, hr1]; rfl
          obtain ⟨R0, hR⟩ : ∃ R : VK, R = fun y G' => Ex G3 G' ∧ rowF Dd (fun i => (M.getD (i + 1) []).take j ++ (M.getD (i + 1) []).drop (j + 1)) i y G' := ⟨_, rfl⟩
          refine ⟨R0, ?_, fun y G' h => by rw [hR] at h; exact h⟩
          walk_at "rd"
          have hL3 := e3 _ _ (e12 _ _ hL)
          refine ⟨a, _, rfl, .of hL3, fun q1 G4 n4 e4 t4 => ?_⟩
          refine ⟨a, _, rfl, .of (e4 _ _ hL3), fun q2 G5 n5 e5 t5 => ?_⟩
          rw [cut_take] at t4
          rw [show (j : Int) + 1 = ((j + 1 : Nat) : Int) by omega, cut_drop] at t5
          have lr1 : (r.map V.int).length = s0 + 1 := by rw [List.length_map, rl]
          refine ⟨q1, q2, _, _, rfl, rfl, e5 _ _ t4, t5, Nat.le_trans (show _ ≤ 1000000 by rw [List.length_take, List.length_drop]; omega) (by decide), fun q3 G6 n6 e6 t6 => ?_⟩
          rw [hR]
          refine ⟨(e4.trans e5).trans e6, q3, rfl, (fun z => by rw [z, ((e4.trans e5)) _ _ hacc] at n6; cases n6), ?_⟩
          rw [t6, ← List.map_take, ← List.map_drop, ← List.map_append]
          show _ = some (HO.lst (((M.getD (i + 1) []).take j ++ (M.getD (i + 1) []).drop (j + 1)).map V.int))
          rw [eg]
        · intro G3 ys e3 hy hly hr3
          have tt := tab_of hy hly hr3
          have eo : ((List.range (xs.drop 1).length).map fun i => (M.getD (i + 1) []).take j ++ (M.getD (i + 1) []).drop (j + 1)) = offM M j := by
            unfold offM
            apply List.ext_getElem?
            intro q
            by_cases hq : q + 1 < s0 + 1
            · obtain ⟨r, hr1, _⟩ := hM.row (i := 1 + q) (by omega)
              rw [List.getElem?_map, List.getElem?_map, List.getElem?_drop, List.getElem?_range (by rw [List.length_drop]; omega), hr1]
              simp only [Option.map_some]
              rw [List.getD_eq_getElem?_getD, show q + 1 = 1 + q by omega, hr1]
              rfl
            · rw [List.getElem?_eq_none (by simp; omega), List.getElem?_eq_none (by simp [hM.1]; omega)]
          rw [eo] at tt
          refine ⟨Dd, _, s0, rfl, tt, off_sq hM hj, by omega, by omega, fun G4 e4 => ?_⟩
          walk_at "rd"
          have b3 := lap_lt (off_sq hM hj) (by omega)
          refine ⟨cmul 201 607 (wide_lt (a := 1) (b := 200) b1 b2) (Nat.lt_of_le_of_lt b3 (Nat.pow_lt_pow_right (by decide) (by omega))), ?_⟩
          walk_at "rd"
          rw [hP]
          refine ⟨((e12.trans e3).trans e4), some (.int (j : Int)), some (.int (mE M 0 j)), z5, ?_⟩
          rw [List.range_succ, List.map_append, isum_app]
          simp only [List.map_cons, List.map_nil, List.sum_cons, List.sum_nil, Int.add_zero]
          rw [sg_succ]
      · intro σ' G h
        rw [hP] at h
        obtain ⟨e1, z3, z4, z5, rfl⟩ := h
        walk_at "rd"
        have := k G e1
        rw [List.length_map, rl0]
        unfold lap at this
        exact this
def natsV (l : List Nat) : List V := l.map fun i : Nat => V.int (i : Int)
def nxt (l : List Nat) : Nat := if l.isEmpty then 0 else l.getLastD 0 + 1
def ext (s : Nat) (l : List Nat) : List (List Nat) := (List.range (s - nxt l)).map fun j => l ++ [nxt l + j]
def chF (s : Nat) : Nat → List (List Nat)
  | 0 => [[]]
  | m + 1 => (chF s m).flatMap (ext s)
def AccT (H : Hp) (acc : List V) (L : List (List Nat)) : Prop := acc.length = L.length ∧ ∀ (i : Nat) l, L[i]? = some l → ∃ a, acc[i]? = some (.ref a) ∧ H a = some (.tup (natsV l))
theorem AccT.ex {H H' : Hp} {acc : List V} {L : List (List Nat)} (h : AccT H acc L) (e : ∀ a xs, H a = some (.tup xs) → H' a = some (.tup xs)) : AccT H' acc L :=
  ⟨h.1, fun i l hi => by
    obtain ⟨a, h1, h2⟩ := h.2 i l hi
    exact ⟨a, h1, e _ _ h2⟩⟩
theorem AccT.snoc {H : Hp} {acc : List V} {L : List (List Nat)} {l : List Nat} {a : Addr} (h : AccT H acc L) (ha : H a = some (.tup (natsV l))) : AccT H (acc ++ [.ref a]) (L ++ [l]) := by
  refine ⟨by simp [h.1], fun i l' hi => ?_⟩
  by_cases hlt : i < L.length
  · rw [List.getElem?_append_left hlt] at hi
    rw [List.getElem?_append_left (by rw [h.1]; exact hlt)]
    exact h.2 i l' hi
  · rw [List.getElem?_append_right (by omega)] at hi
    have : i - L.length = 0 := by
      have := (List.getElem?_eq_some_iff.mp hi).1
      simp at this
      omega
    rw [this] at hi
    cases hi
    refine ⟨a, ?_, ha⟩
    rw [List.getElem?_append_right (by rw [h.1]; omega), h.1, this]
    rfl
def IsLT (H : Hp) (p : Addr) (L : List (List Nat)) : Prop := ∃ acc, H p = some (.lst acc) ∧ AccT H acc L
theorem ch_small : ∀ s < 4, ∀ m < 4, (chF s m).length ≤ 3 ∧ ∀ l ∈ chF s m, l.length = m ∧ ∀ i ∈ l, i < s := by decide +kernel
theorem ch_small7 : ∀ s < 7, ∀ m < 7, (chF s m).length ≤ 20 ∧ ∀ l ∈ chF s m, l.length = m ∧ ∀ i ∈ l, i < s := by decide +kernel
theorem ext_len (s : Nat) : ∀ L : List (List Nat), (L.flatMap (ext s)).length ≤ L.length * s
  | [] => by simp
  | l :: L => by
    have := ext_len s L
    rw [List.flatMap_cons, List.length_append, List.length_cons, Nat.succ_mul]
    have : (ext s l).length ≤ s := by simp [ext]
    omega
def spChoices : Sp := fun vs H Q _ => ∃ (s m : Nat), vs = [.int (s : Int), .int (m : Int)] ∧ s < 7 ∧ m < 7 ∧ ∀ p H', Ex H H' → H p = none → IsLT H' p (chF s m) → Q (.ref p) H'
theorem ex_free {H H' : Hp} {a : Addr} (e : Ex H H') (n : H' a = none) : H a = none := by
  cases h : H a with
  | none => rfl
  | some o => rw [e _ _ h] at n; cases n
theorem scChoices : FnScope ["most", "many", "found", "_", "some", "at"] ["most", "many"] (defScope (top 36)) := ⟨rfl, rfl, rfl, by decide +kernel, rfl, by decide +kernel, by decide +kernel⟩
theorem has_choices (B : Bi mg) (D : Df K mg "choices" (top 36) ["most", "many"]) : Has P w K mg base "choices" 1 ["most", "many"] spChoices := by
  have sc := scChoices
  refine .of D fun f fd F => F.ok sc (fun vs H Q E h => ?_) (fun cdv A outer s H vs Q E hr h => ?_)
  · obtain ⟨s, m, rfl, _⟩ := h
    rfl
  · obtain ⟨sz, m, rfl, hs, hm, k⟩ := h
    refine ⟨_, (pss_cons (ps_set (i := 2) sc.nd rfl (by first | exact Or.inl rfl | exact Or.inr rfl) (pe_lstN (pa_cons (pe_tupN pa_nil) pa_nil)))
      (pss_cons (ps_for PassesOwn.never rfl (pi_range1 (by rfl) B.range (pa_cons (pv 1) pa_nil)) (pg_name (i := 3) sc.nd rfl (by first | exact Or.inl rfl | exact Or.inr rfl))
      (pss_one (ps_setLc2 (i := 2) (own := [("some", 4), ("at", 5)]) (vs1 := [5]) (g := gName 4) (g1 := gName 5) (tt := tYes) (tt1 := tYes) rfl sc.nd rfl rfl (sw_true rfl rfl rfl (by decide +kernel)) (pi_list (pv 2)) (blkOk_by (N := (["most", "many", "found", "_", "some", "at"] : List Str)) (sc := defScope (top 36)) (by decide +kernel)) (by decide) (fun _ _ _ _ _ => (pg_name (i := 4) sc.nd rfl (by first | exact Or.inl rfl | exact Or.inr rfl))) (fun _ _ _ _ _ => pts_nil) (fun _ _ _ _ _ => (pi_range2 (by rfl) B.range (pa_cons (PE.mon (pe_ifExp (pt_truT (K := K) (pv 4) (by intro _; rfl)) (pe_op op_add (pe_ix (ixT (K := K)) (pv 4) (pe_un un_neg pe_int) (fun _ _ => rfl)) pe_int) pe_int)) (pa_cons (pv 0) pa_nil)))) (fun _ _ _ _ _ => (pg_name (i := 5) sc.nd rfl (by first | exact Or.inl rfl | exact Or.inr rfl))) (fun _ _ _ _ _ => pts_nil) (fun _ _ _ _ _ => (pe_tupN (kStar (K := K) (pv 4) (pa_cons (pv 5) pa_nil)))))))
      (pss_one (ps_ret (pv 2))))), ?_⟩
    walk_at "rd"
    refine ⟨by decide, fun T0 G0 n0 e0 t0 => ⟨by decide, fun F0 G1 n1 e1 t1 => ⟨by omega, by omega, ?_⟩⟩⟩
    obtain ⟨Pv, hP⟩ : ∃ P : Nat → L2.St → Hp → Prop, P = fun (j : Nat) σ' G => Ex H G ∧ ∃ (fp : Addr) (z3 z4 z5 : Option V), σ' = [some (.int (sz : Int)), some (.int (m : Int)), some (.ref fp), z3, z4, z5] ∧ H fp = none ∧ IsLT G fp (chF sz j) := ⟨_, rfl⟩
    refine loopR Pv (by
      rw [hP]
      refine ⟨e0.trans e1, _, _, _, _, rfl, ex_free e0 n1, _, t1, rfl, fun i l hi => ?_⟩
      cases i with
      | zero => cases hi; exact ⟨T0, rfl, e1 _ _ t0⟩
      | succ i => simp [chF] at hi) ?_ ?_
    · intro j σ' G hj h
      rw [hP] at h
      obtain ⟨eG, fp, z3, z4, z5, rfl, _, xs, hfp, hA⟩ := h
      have hj : j < m := by omega
      obtain ⟨csz, cin⟩ := ch_small7 sz hs j (by omega)
      walk_at "rd"
      rw [r_lc2]
      walk_at "rd"
      refine ⟨⟨_, .of hfp⟩, fun Dd hD => ?_⟩
      obtain ⟨Wv, hW⟩ : ∃ W : Nat → Hp → Prop, W = fun (i : Nat) G' => Ex G G' ∧ ∃ acc, G' Dd = some (.lst acc) ∧ AccT G' acc (((chF sz j).take i).flatMap (ext sz)) := ⟨_, rfl⟩
      have eW : ∀ {G' : Hp} {ys : List V}, Ex G G' → Ex G (upd G' Dd (.lst ys)) := fun {G' ys} e x o hx => by
        rw [upd_ne (ne_of_none hx hD)]
        exact e _ _ hx
      refine lc2_it (walk_list (xs := xs)) Wv (by rw [hW]; exact ⟨eW (Ex.refl _), [], upd_same, rfl, fun i l hi => by simp at hi⟩) (fun i G' _ h => by rw [hW] at h; exact .of (h.1 _ _ hfp)) ?_ ?_
      · intro i x G' G'' hi h y
        rw [hW] at h
        obtain ⟨e1, acc, hacc, hT⟩ := h
        obtain ⟨rfl, hx⟩ := y
        have hi2 : i < (chF sz j).length := by rw [← hA.1]; exact hi
        obtain ⟨a, ha, hLa⟩ := hA.2 i _ (List.getElem?_eq_getElem hi2)
        obtain ⟨l, hl⟩ : ∃ l, l = (chF sz j)[i] := ⟨_, rfl⟩
        rw [← hl] at hLa
        obtain ⟨llen, lin⟩ := cin l (by rw [hl]; exact List.getElem_mem hi2)
        rw [ha] at hx
        cases hx
        have etk : (chF sz j).take (i + 1) = (chF sz j).take i ++ [l] := by rw [List.take_add_one, List.getElem?_eq_getElem hi2, hl]; rfl
        walk_at "rd"
        have hLa1 := e1 _ _ hLa
        obtain ⟨R0, hR⟩ : ∃ R : VK, R = fun y Gq => y = .int (nxt l : Int) ∧ Gq = G'' := ⟨_, rfl⟩
        refine ⟨R0, ⟨_, rfl, a, rfl, _, .of hLa1, ?_⟩, ?_⟩
        · cases hl0 : l with
          | nil =>
            rw [if_neg (by simp [natsV, hl0])]
            rw [hR]
            exact ⟨by rw [hl0]; rfl, rfl⟩
          | cons x0 l0 =>
            rw [if_pos (by simp [natsV, hl0])]
            walk_at "rd"
            have e9 : atI (natsV l) (-1) = some (.int ((l.getLastD 0 : Nat) : Int)) := by
              unfold atI natsV
              have : ixN (l.map fun i : Nat => V.int (i : Int)).length (-1) = some (l.length - 1) := by
                unfold ixN
                rw [if_neg (by decide), List.length_map, if_pos (by rw [hl0]; simp; omega)]
                congr 1
                rw [hl0]
                simp
                omega
              rw [this]
              show ((l.map fun i : Nat => V.int (i : Int))[l.length - 1]?) = _
              rw [List.getElem?_map, ← List.getLast?_eq_getElem?, hl0]
              simp [List.getLastD_eq_getLast?, List.getLast?_cons]
            refine q_ixT (.of hLa1) e9 ?_
            walk_at "rd"
            rw [hR]
            refine ⟨?_, rfl⟩
            unfold nxt
            rw [hl0]
            rfl
        · intro y Gq hy
          rw [hR] at hy
          obtain ⟨rfl, rfl⟩ := hy
          have nx1 : nxt l ≤ 7 := by
            unfold nxt
            split
            · omega
            · rename_i h0
              cases hl0 : l with
              | nil => rw [hl0] at h0; simp at h0
              | cons x0 l0 =>
                have : l.getLastD 0 ∈ l := by rw [hl0, List.getLastD_eq_getLast?, List.getLast?_eq_some_getLast (by simp)]; exact List.getLast_mem _
                have := lin _ this
                rw [← hl0]
                omega
          walk_at "rd"
          refine ⟨by omega, by omega, by omega, by omega, ?_⟩
          obtain ⟨Uv, hU⟩ : ∃ U : Nat → Hp → Prop, U = fun (q : Nat) G' => Ex G G' ∧ ∃ acc, G' Dd = some (.lst acc) ∧ AccT G' acc (((chF sz j).take i).flatMap (ext sz) ++ (ext sz l).take q) := ⟨_, rfl⟩
          refine lc2_in (walk_range) Uv (by rw [hU]; exact ⟨e1, acc, hacc, by rw [List.take_zero, List.append_nil]; exact hT⟩) (fun _ _ _ _ => trivial) ?_ ?_
          · intro q x G3 G4 hq h y
            rw [hU] at h
            obtain ⟨e3, acc3, hacc3, hT3⟩ := h
            obtain ⟨rfl, rfl⟩ := y
            have hq2 : q < sz - nxt l := by omega
            walk_at "rd"
            rw [r_star]
            walk_at "rd"
            have bl := ext_len sz ((chF sz j).take i)
            have bt : ((chF sz j).take i).length ≤ 20 := by rw [List.length_take]; omega
            have bm : ((chF sz j).take i).length * sz ≤ 20 * 6 := Nat.mul_le_mul bt (by omega)
            have ba : acc3.length ≤ 300 := by
              rw [hT3.1, List.length_append, List.length_take]
              omega
            refine ⟨natsV l, .inl (.of (e3 _ _ hLa)), Nat.le_trans (show _ ≤ 1000 by simp [natsV]; omega) (by decide), fun T G5 n5 e5 t5 => ⟨acc3, e5 _ _ hacc3, Nat.lt_of_lt_of_le (show _ < 1000 by omega) (by decide), ?_⟩⟩
            rw [hU]
            refine ⟨eW (e3.trans e5), _, upd_same, ?_⟩
            have TD : T ≠ Dd := fun z => by rw [z, hacc3] at n5; cases n5
            have ext1 : (ext sz l).take (q + 1) = (ext sz l).take q ++ [l ++ [nxt l + q]] := by
              rw [List.take_add_one]
              unfold ext
              rw [List.getElem?_map, List.getElem?_range hq2]
              rfl
            rw [ext1, ← List.append_assoc]
            refine AccT.snoc (hT3.ex fun b ys hb => ?_) ?_
            · have bD : b ≠ Dd := fun z => by rw [z, hacc3] at hb; cases hb
              rw [upd_ne bD]
              exact e5 _ _ hb
            · rw [upd_ne TD, t5]
              simp [natsV]
          · intro G3 h
            rw [hU] at h
            obtain ⟨e3, acc3, hacc3, hT3⟩ := h
            rw [hW]
            refine ⟨e3, acc3, hacc3, ?_⟩
            rw [etk, List.flatMap_append]
            have : (ext sz l).take ((sz : Int) - (nxt l : Int)).toNat = ext sz l := by
              apply List.take_of_length_le
              simp [ext]
            rw [this] at hT3
            simpa using hT3
      · intro G' h
        rw [hW] at h
        obtain ⟨e1, acc, hacc, hT⟩ := h
        walk_at "rd"
        rw [hP]
        refine ⟨eG.trans e1, Dd, _, _, _, rfl, ex_free eG hD, acc, hacc, ?_⟩
        rw [hA.1, List.take_length] at hT
        exact hT
    · intro σ' G h
      rw [hP] at h
      obtain ⟨eG, fp, z3, z4, z5, rfl, nfp, hL⟩ := h
      walk_at "rd"
      exact k fp G eG nfp (by simpa using hL)
def neverB (M : List (List Int)) (s : Nat) : Bool := (List.range s).all fun m => (chF s (m + 1)).all fun l => decide (0 ≤ lap (m + 1) (subM M l))
def tstB (M : List (List Int)) (m : Nat) (l : List Nat) : Bool := decide (0 ≤ lap m (subM M l))
def bsF (M : List (List Int)) (s i : Nat) : List Bool := (List.range i).flatMap fun m => (chF s (m + 1)).map (tstB M (m + 1))
theorem bs_all (M : List (List Int)) (s : Nat) : (bsF M s s).all id = neverB M s := by
  unfold bsF neverB
  rw [List.all_flatMap]
  congr 1
  funext m
  rw [List.all_map]
  rfl
theorem bs_len (M : List (List Int)) {s i : Nat} (hs : s < 4) (hi : i ≤ 3) : (bsF M s i).length ≤ 3 * i := by
  induction i with
  | zero => simp [bsF]
  | succ i ih =>
    have := ih (by omega)
    have e : bsF M s (i + 1) = bsF M s i ++ (chF s (i + 1)).map (tstB M (i + 1)) := by
      unfold bsF
      rw [List.range_succ, List.flatMap_append]
      simp
    have c := (ch_small s hs (i + 1) (by omega)).1
    rw [e, List.length_append, List.length_map]
    omega
def spNever : Sp := fun vs H Q _ => ∃ (p : Addr) (M : List (List Int)) (s : Nat), vs = [.ref p] ∧ IsTab H p M ∧ SqM M s 200 ∧ s ≤ 3 ∧ ∀ H', Ex H H' → Q (.bl (neverB M s)) H'
theorem scNever : FnScope ["table", "size", "j", "i", "many", "some"] ["table"] (defScope (top 38)) := ⟨rfl, rfl, rfl, by decide +kernel, rfl, by decide +kernel, by decide +kernel⟩
theorem has_never (B : Bi mg) (h_minor : Has P w K mg base "_minor" 5 ["table"] (spMin 4)) (hchoices : Has P w K mg base "choices" 1 ["most", "many"] spChoices) (D : Df K mg "_never_below" (top 38) ["table"]) : Has P w K mg base "_never_below" 6 ["table"] spNever := by
  have sc := scNever
  refine .of D fun f fd F => F.ok sc (fun vs H Q E h => ?_) (fun cdv A outer s H vs Q E hr h => ?_)
  · obtain ⟨p, M, s, rfl, _⟩ := h
    rfl
  · obtain ⟨p, M, sz, rfl, hT, hM, h3, k⟩ := h
    refine ⟨_, (pss_cons (ps_set (i := 1) sc.nd rfl (by first | exact Or.inl rfl | exact Or.inr rfl) (pe_callB (kLen (K := K)) (by rfl) B.len (by decide +kernel) (pa_cons (pv 0) pa_nil)))
      (pss_one (ps_ret (pe_callB (kAll (K := K) rfl) (by rfl) B.all (by decide +kernel) (pa_cons (pe_lc2 (own := [("many", 4), ("some", 5)]) (vs1 := [5]) (g := gName 4) (g1 := gName 5) (tt := tYes) (tt1 := tYes) rfl sc.nd (pi_range2 (by rfl) B.range (pa_cons pe_int (pa_cons (pe_op op_add (pv 1) pe_int) pa_nil))) (blkOk_by (N := (["table", "size", "j", "i", "many", "some"] : List Str)) (sc := defScope (top 38)) (by decide +kernel)) (by decide) (fun _ _ _ _ _ => (pg_name (i := 4) sc.nd rfl (by first | exact Or.inl rfl | exact Or.inr rfl))) (fun _ _ _ _ _ => pts_nil) (fun _ _ _ _ _ => (kPiL (K := K) (pe_has hchoices (hr.mono (by decide)) (pa_cons (pv 1) (pa_cons (pv 4) pa_nil))))) (fun _ _ _ _ _ => (pg_name (i := 5) sc.nd rfl (by first | exact Or.inl rfl | exact Or.inr rfl))) (fun _ _ _ _ _ => pts_nil) (fun _ _ _ _ _ => (pe_cmpR op_ge (pe_has h_minor (hr.mono (by decide)) (pa_cons (pe_lc (own := [("i", 3)]) (g := gName 3) (tt := tYes) rfl sc.nd (kPiT (K := K) (pv 5)) (blkOk_by (by kernel_rfl)) (fun _ _ _ _ _ => (pg_name (i := 3) sc.nd rfl (by first | exact Or.inl rfl | exact Or.inr rfl))) (fun _ _ _ _ _ => pts_nil) (fun _ _ _ _ _ => (PE.mon (pe_lc (own := [("j", 2)]) (g := gName 2) (tt := tYes) rfl sc.nd (kPiT (K := K) (pv 5)) (blkOk_by (by kernel_rfl)) (fun _ _ _ _ _ => (pg_name (i := 2) sc.nd rfl (by first | exact Or.inl rfl | exact Or.inr rfl))) (fun _ _ _ _ _ => pts_nil) (fun _ _ _ _ _ => (PE.mon (pe_ix (ixL (K := K)) (pe_ix (ixL (K := K)) (pv 0) (pv 3) (fun _ _ => rfl)) (pv 2) (fun _ _ => rfl)))))))) pa_nil)) pe_int (nomark _)))) pa_nil))))), ?_⟩
    walk_at "rd"
    obtain ⟨xs, hp, hl, hx⟩ := id hT
    refine ⟨xs, .inl (.of hp), ?_⟩
    rw [hl, hM.1, r_lc2]
    walk_at "rd"
    refine ⟨by decide, by decide, by omega, by omega, fun Dd hD => ?_⟩
    obtain ⟨Wv, hW⟩ : ∃ W : Nat → Hp → Prop, W = fun (i : Nat) G' => Ex H G' ∧ G' Dd = some (.lst ((bsF M sz i).map V.bl)) := ⟨_, rfl⟩
    have eW : ∀ {G' : Hp} {ys : List V}, Ex H G' → Ex H (upd G' Dd (.lst ys)) := fun {G' ys} e x o hx => by
      rw [upd_ne (ne_of_none hx hD)]
      exact e _ _ hx
    refine lc2_it walk_range Wv (by rw [hW]; exact ⟨eW (Ex.refl _), upd_same⟩) (fun _ _ _ _ => trivial) ?_ ?_
    · intro i x G' G'' hi h y
      rw [hW] at h
      obtain ⟨e1, hacc⟩ := h
      obtain ⟨rfl, rfl⟩ := y
      have hi : i < sz := by omega
      walk_at "rd"
      refine ⟨sz, i + 1, by congr 3; omega, by omega, by omega, fun cp G2 e2 ncp ⟨cl, hcp, hA⟩ => ⟨cp, rfl, ⟨_, .of hcp⟩, ?_⟩⟩
      obtain ⟨csz, cin⟩ := ch_small sz (by omega) (i + 1) (by omega)
      obtain ⟨Uv, hU⟩ : ∃ U : Nat → Hp → Prop, U = fun (q : Nat) G' => Ex H G' ∧ (∀ b o, b ≠ Dd → G2 b = some o → G' b = some o) ∧ G' Dd = some (.lst ((bsF M sz i ++ ((chF sz (i + 1)).take q).map (tstB M (i + 1))).map V.bl)) := ⟨_, rfl⟩
      have D2 := e2 _ _ hacc
      have cpD : cp ≠ Dd := fun z => by rw [z, hacc] at ncp; cases ncp
      refine lc2_in (walk_list (xs := cl)) Uv (by rw [hU]; exact ⟨e1.trans e2, fun _ _ _ h => h, by rw [D2]; simp⟩) (fun q G' _ h => by rw [hU] at h; exact .of (h.2.1 _ _ cpD hcp)) ?_ ?_
      · intro q x G3 G4 hq h y
        rw [hU] at h
        obtain ⟨e3, e23, hacc3⟩ := h
        obtain ⟨rfl, hx0⟩ := y
        have hq2 : q < (chF sz (i + 1)).length := by rw [← hA.1]; exact hq
        obtain ⟨a, ha, hLa⟩ := hA.2 q _ (List.getElem?_eq_getElem hq2)
        obtain ⟨l, hl0⟩ : ∃ l, l = (chF sz (i + 1))[q] := ⟨_, rfl⟩
        rw [← hl0] at hLa
        obtain ⟨llen, lin⟩ := cin l (by rw [hl0]; exact List.getElem_mem hq2)
        rw [ha] at hx0
        cases hx0
        have etk : (chF sz (i + 1)).take (q + 1) = (chF sz (i + 1)).take q ++ [l] := by rw [List.take_add_one, List.getElem?_eq_getElem hq2, hl0]; rfl
        have hLa4 := e23 _ _ (fun z => by rw [z, D2] at hLa; cases hLa) hLa
        walk_at "rd"
        have getl : ∀ {i : Nat} {x : V}, (natsV l)[i]? = some x → ∃ j, l[i]? = some j ∧ x = .int (j : Int) ∧ j < sz := by
          intro i x hx
          unfold natsV at hx
          rw [List.getElem?_map] at hx
          cases hq : l[i]? with
          | none => rw [hq] at hx; cases hx
          | some j =>
            rw [hq] at hx
            cases hx
            exact ⟨j, rfl, rfl, lin j (List.mem_of_getElem? hq)⟩
        have nl : (natsV l).length = l.length := by simp [natsV]
        have hT4 := hT.ex e3
        refine ⟨⟨_, .of hLa4⟩, fun Dq hDq => lcTb (rowF Dq fun i => l.map fun j => mE M (l.getD i 0) j) rowF_but hDq (.of hLa4) (by omega) (fun _ => rfl) ?_ ?_⟩
        · intro i1 x G5 hx1 e5 ⟨acc, hacc5⟩
          obtain ⟨li, hli, rfl, lis⟩ := getl hx1
          obtain ⟨R0, hR⟩ : ∃ R : VK, R = fun y G' => Ex G5 G' ∧ rowF Dq (fun i => l.map fun j => mE M (l.getD i 0) j) i1 y G' := ⟨_, rfl⟩
          refine ⟨R0, ?_, fun y G' h => by rw [hR] at h; exact h⟩
          walk_at "rd"
          refine ⟨⟨_, .of (e5 _ _ hLa4)⟩, fun D6 hD6 => lcTn (fun i y _ => ∃ lj, l[i]? = some lj ∧ y = .int (mE M li lj)) (fun _ _ _ _ _ h => h) hD6 (.of (e5 _ _ hLa4)) (by omega) (fun _ => rfl) ?_ ?_⟩
          · intro j x2 G6 hx2 e6
            obtain ⟨lj, hlj, rfl, ljs⟩ := getl hx2
            obtain ⟨R1, hR1⟩ : ∃ R : VK, R = fun y G' => G' = G6 ∧ y = .int (mE M li lj) := ⟨_, rfl⟩
            refine ⟨R1, ?_, fun y G' h => by rw [hR1] at h; obtain ⟨rfl, h⟩ := h; exact ⟨Ex.refl _, lj, hlj, h⟩⟩
            walk_at "rd"
            refine q_ixTab (hT4.ex (e5.trans e6)) hM lis fun a ha => ?_
            refine ha lj ljs _ _ (Ex.refl _) ?_
            rw [hR1]
            exact ⟨rfl, rfl⟩
          · intro G6 ys e6 hy hl2 hr2
            rw [hR]
            refine ⟨e6, D6, rfl, fun z => ?_, ?_⟩
            · rw [z, hacc5] at hD6
              cases hD6
            · have ey : ys = (l.map fun j => mE M li j).map V.int := by
                apply List.ext_getElem?
                intro q
                by_cases hq : q < ys.length
                · obtain ⟨lj, h1, h2⟩ := hr2 q _ (List.getElem?_eq_getElem hq)
                  rw [List.getElem?_eq_getElem hq, h2, List.getElem?_map, List.getElem?_map, h1]
                  rfl
                · rw [List.getElem?_eq_none (by omega), List.getElem?_eq_none (by simp; omega)]
              rw [hy, ey]
              have : l.getD i1 0 = li := by rw [List.getD_eq_getElem?_getD, hli]; rfl
              show _ = some (HO.lst (((l.map fun j => mE M (l.getD i1 0) j)).map V.int))
              rw [this]
        · intro G5 ys e5 hy hly hr5
          have tt := tab_of hy hly hr5
          have es : ((List.range (natsV l).length).map fun i => l.map fun j => mE M (l.getD i 0) j) = subM M l := by
            unfold subM
            apply List.ext_getElem?
            intro q
            by_cases hq : q < l.length
            · rw [List.getElem?_map, List.getElem?_map, List.getElem?_range (by omega), List.getElem?_eq_getElem hq]
              simp only [Option.map_some]
              rw [List.getD_eq_getElem?_getD, List.getElem?_eq_getElem hq]
              rfl
            · rw [List.getElem?_eq_none (by simp; omega), List.getElem?_eq_none (by simp; omega)]
          rw [es] at tt
          have sq := sub_sq hM lin
          rw [llen] at sq
          refine ⟨Dq, _, i + 1, rfl, tt, sq, by omega, by omega, fun G6 e6 => ?_⟩
          walk_at "rd"
          have bl := bs_len M (s := sz) (i := i) (by omega) (by omega)
          refine ⟨_, e6 _ _ (e5 _ _ hacc3), Nat.lt_of_lt_of_le (show _ < 1000 by simp; omega) (by decide), ?_⟩
          rw [hU]
          have e56 := e5.trans e6
          refine ⟨eW (e3.trans e56), fun b o hbD hb => ?_, ?_⟩
          · rw [upd_ne hbD]
            exact e56 _ _ (e23 _ _ hbD hb)
          · rw [upd_same, etk]
            simp [tstB]
      · intro G3 h
        rw [hU] at h
        obtain ⟨e3, e23, hacc3⟩ := h
        rw [hW]
        refine ⟨e3, ?_⟩
        rw [hacc3, hA.1, List.take_length]
        have : bsF M sz (i + 1) = bsF M sz i ++ (chF sz (i + 1)).map (tstB M (i + 1)) := by
          unfold bsF
          rw [List.range_succ, List.flatMap_append]
          simp
        rw [this]
    · intro G' h
      rw [hW] at h
      obtain ⟨e1, hacc⟩ := h
      refine ⟨Dd, bsF M sz sz, rfl, .of ?_, ?_⟩
      · rw [show ((sz : Int) + 1 - 1).toNat = sz by omega] at hacc
        exact hacc
      · rw [bs_all]
        exact k _ e1
def alwB (cs : List Int) (n : Nat) : Bool := neverB (genT (n / 2 + 1) (nearF (yesF cs) n)) (n / 2 + 1) && neverB (genT (farS n) (farF (yesF cs) n)) (farS n)
theorem genT_congr {s : Nat} {f g : Nat → Nat → Int} (h : ∀ i < s, ∀ j < s, f i j = g i j) : genT s f = genT s g := by
  unfold genT
  apply List.map_congr_left
  intro i hi
  apply List.map_congr_left
  intro j hj
  exact h i (List.mem_range.mp hi) j (List.mem_range.mp hj)
theorem yes_le {cs : List Int} {n j : Nat} (h : NumL cs (n + 1) (2 ^ 110)) (hn : n < 6) (hj : j ≤ n) : 0 ≤ yesF cs j ∧ yesF cs j ≤ 2 ^ 130 := by
  obtain ⟨w0, w1⟩ := way_le h hn hj
  have f1 := fac_le j (by omega)
  have f2 := fac_le (cs.length - 1 - j) (by have := h.1; omega)
  unfold yesF
  have h1 : wayS cs j * ((Builtin.Math.factorialNat j : Nat) : Int) ≤ (60 * 2 ^ 110) * 120 := Int.mul_le_mul w1 (by omega) (by omega) (by decide)
  have h0 : 0 ≤ wayS cs j * ((Builtin.Math.factorialNat j : Nat) : Int) := Int.mul_nonneg w0 (by omega)
  have h2 : wayS cs j * ((Builtin.Math.factorialNat j : Nat) : Int) * ((Builtin.Math.factorialNat (cs.length - 1 - j) : Nat) : Int) ≤ ((60 * 2 ^ 110) * 120) * 120 := Int.mul_le_mul h1 (by omega) (by omega) (by decide)
  exact ⟨Int.mul_nonneg h0 (by omega), by omega⟩
theorem near_sy {cs : List Int} {n : Nat} (h : NumL cs (n + 1) (2 ^ 110)) (hn : n < 6) (n1 : 1 ≤ n) : ∀ i < n / 2 + 1, ∀ j < n / 2 + 1, (nearF (yesF cs) n i j).natAbs < 2 ^ 200 := by
  intro i hi j hj
  have b : (2 : Nat) ^ 131 ≤ 2 ^ 200 := Nat.pow_le_pow_right (by decide) (by decide)
  unfold nearF
  split
  · have := yes_le (j := i + j) h hn (by omega)
    omega
  · have := yes_le (j := i + j + 1) h hn (by omega)
    omega
theorem far_sy {cs : List Int} {n : Nat} (h : NumL cs (n + 1) (2 ^ 110)) (hn : n < 6) (n1 : 1 ≤ n) : ∀ i < farS n, ∀ j < farS n, (farF (yesF cs) n i j).natAbs < 2 ^ 200 := by
  intro i hi j hj
  have b : (2 : Nat) ^ 131 ≤ 2 ^ 200 := Nat.pow_le_pow_right (by decide) (by decide)
  unfold farS at hi hj
  unfold farF
  split
  · rename_i hp
    rw [if_pos hp] at hi hj
    have := yes_le (j := i + j + 1) h hn (by omega)
    have := yes_le (j := i + j + 2) h hn (by omega)
    omega
  · rename_i hp
    rw [if_neg hp] at hi hj
    have := yes_le (j := i + j) h hn (by omega)
    have := yes_le (j := i + j + 1) h hn (by omega)
    omega
def spAlways (K : PySem.W.Frag) (C : Addr) : Sp := fun vs H Q _ => ∃ (x : V) (ps : List Int) (n : Nat), vs = [x] ∧ IsRow K C H x ps ∧ NumL ps (n + 1) (2 ^ 110) ∧ 1 ≤ n ∧ n < 6 ∧ ∀ H', Ex H H' → Q (.bl (alwB ps n)) H'
theorem scAlways : FnScope ["row", "chances", "size", "less", "one", "two"] ["row"] (defScope (top 27)) := ⟨rfl, rfl, rfl, by decide +kernel, rfl, by decide +kernel, by decide +kernel⟩
theorem ok_always {C : Addr} (B : Bi mg) (RT : RowT P w K mg base C) (hcheck_row : Has P w K mg base "check_row" 1 ["row"] (spCheckRow K C)) (hyes_sums : Has P w K mg base "yes_sums" 1 ["counts"] (spYes K))
    (h_table : Has P w K mg base "_table" 1 ["chances", "size"] spTable) (h_never_below : Has P w K mg base "_never_below" 6 ["table"] spNever)
    {f : Addr} {fd : FuncData} (F : Fun K "always" "always" (top 27) f fd) : FnOk P w K mg base CX0 7 f fd ["row"] (spAlways K C) := by
  have sc := scAlways
  refine F.ok sc (fun vs H Q E h => ?_) (fun cdv A outer s H vs Q E hr h => ?_)
  · obtain ⟨x, ps, j, rfl, _⟩ := h
    rfl
  · obtain ⟨x, ps, n, rfl, hrow, hN, n1, hn, k⟩ := h
    refine ⟨_, (pss_cons (ps_expr (pe_has hcheck_row (hr.mono (by decide)) (pa_cons (pv 0) pa_nil)))
      (pss_cons (ps_set (i := 1) sc.nd rfl (by first | exact Or.inl rfl | exact Or.inr rfl) (pe_has hyes_sums (hr.mono (by decide)) (pa_cons (kCounts RT (hr.mono (by decide)) (pv 0)) pa_nil)))
      (pss_cons (ps_set (i := 2) sc.nd rfl (by first | exact Or.inl rfl | exact Or.inr rfl) (pe_op op_fdivW (kDraws RT (hr.mono (by decide)) (pv 0)) pe_int))
      (pss_cons (ps_setLc (i := 3) (own := [("one", 4), ("two", 5)]) (g := gTup K 2 (gCons (gName 4) (gCons (gName 5) gNil))) (tt := tYes) rfl sc.nd rfl rfl (sw_true rfl rfl rfl (by decide +kernel)) (kZip (K := K) (by rfl) B.zip (pa_cons (pv 1) (pa_cons (pe_slice (slL (K := K)) (pv 1) (po_some pe_int) po_none) pa_nil))) (blkOk_by (N := (["row", "chances", "size", "less", "one", "two"] : List Str)) (sc := defScope (top 27)) (by decide +kernel)) (fun _ _ _ _ _ => (pg_tup rfl (pgs_cons (pg_name (i := 4) sc.nd rfl (by first | exact Or.inl rfl | exact Or.inr rfl)) (pgs_cons (pg_name (i := 5) sc.nd rfl (by first | exact Or.inl rfl | exact Or.inr rfl)) pgs_nil)))) (fun _ _ _ _ _ => pts_nil) (fun _ _ _ _ _ => (PE.mon (pe_op op_sub (pv 4) (pv 5)))))
      (pss_cons (ps_if (pt_cmpR op_eq (pe_op op_mod (kDraws RT (hr.mono (by decide)) (pv 0)) pe_int) pe_int (nomark _)) (pss_one (ps_ret (pe_and (pe_has h_never_below (hr.mono (by decide)) (pa_cons (pe_has h_table (hr.mono (by decide)) (pa_cons (pv 1) (pa_cons (pe_op op_add (pv 2) pe_int) pa_nil))) pa_nil)) (pe_one (pe_has h_never_below (hr.mono (by decide)) (pa_cons (pe_has h_table (hr.mono (by decide)) (pa_cons (pe_slice (slL (K := K)) (pv 3) (po_some pe_int) po_none) (pa_cons (pv 2) pa_nil))) pa_nil)))))) pss_nil)
      (pss_one (ps_ret (pe_and (pe_has h_never_below (hr.mono (by decide)) (pa_cons (pe_has h_table (hr.mono (by decide)) (pa_cons (pe_slice (slL (K := K)) (pv 1) (po_some pe_int) po_none) (pa_cons (pe_op op_add (pv 2) pe_int) pa_nil))) pa_nil)) (pe_one (pe_has h_never_below (hr.mono (by decide)) (pa_cons (pe_has h_table (hr.mono (by decide)) (pa_cons (pv 3) (pa_cons (pe_op op_add (pv 2) pe_int) pa_nil))) pa_nil))))))))))), ?_⟩
    walk_at "rd"
    refine ⟨x, ps, rfl, hrow, ?_⟩
    walk_at "rd"
    refine ⟨_, hrow, fun y ⟨p, ey, hS⟩ => ?_⟩
    subst ey
    have lps : ps.length = n + 1 := hN.1
    have ed : ((ps.length : Nat) : Int) - 1 = (n : Int) := by omega
    refine ⟨p, ps, n, rfl, hS, hN, n1, hn, fun l G1 e1 hl => ?_⟩
    refine ⟨_, hrow.kp e1.kp, ?_⟩
    rw [ed]
    refine ⟨⟨by omega, log_sm (by omega) (by omega)⟩, l, _, rfl, .of hl, fun l2 G2 n2 e2 hl2 => ?_⟩
    rw [show (1 : Int) = ((1 : Nat) : Int) from rfl, cut_drop] at hl2
    have hl' := e2 _ _ hl
    refine ⟨true, true, l, rfl, l2, rfl, ⟨_, .of hl'⟩, ⟨_, .of hl2⟩, fun Dd hD => ?_⟩
    have lY : (((List.range (n + 1)).map (yesF ps)).map V.int).length = n + 1 := by simp
    have getY : ∀ i < n + 1, (((List.range (n + 1)).map (yesF ps)).map V.int)[i]? = some (.int (yesF ps i)) := fun i hi => by
      rw [List.getElem?_map, List.getElem?_map, List.getElem?_range hi]
      rfl
    refine lcZ (xs := ((List.range (n + 1)).map (yesF ps)).map V.int) (ys := (((List.range (n + 1)).map (yesF ps)).map V.int).drop 1) (n := n) (by rw [List.length_drop, lY]; omega) (fun i y _ => y = .int (yesF ps i - yesF ps (i + 1))) (fun _ _ _ _ _ h => h) hD (k1 := true) (k2 := true) (.of hl') (.of hl2) (by omega) (gm_tup (gm_cons gm_name (gm_cons gm_name gm_nil))) ?_ ?_
    · intro i x1 y1 T G3 hx1 hy1 e3 hT
      have hi : i < n := by
        have := (List.getElem?_eq_some_iff.mp hy1).1
        rw [List.length_drop, lY] at this
        omega
      rw [getY i (by omega)] at hx1
      cases hx1
      rw [List.getElem?_drop, show 1 + i = i + 1 by omega, getY (i + 1) (by omega)] at hy1
      cases hy1
      walk_at "rd"
      refine ⟨_, .of hT, rfl, ?_⟩
      walk_at "rd"
      obtain ⟨R1, hR1⟩ : ∃ R : VK, R = fun v H' => v = .int (yesF ps i - yesF ps (i + 1)) ∧ H' = G3 := ⟨_, rfl⟩
      refine ⟨R1, ?_, fun v H' h => by rw [hR1] at h; obtain ⟨rfl, rfl⟩ := h; exact ⟨Ex.refl _, rfl⟩⟩
      walk_at "rd"
      rw [hR1]
      exact ⟨rfl, rfl⟩
    · intro G3 ys e3 hy hly hr3
      rw [ints_of hly hr3] at hy
      have e123 := (e1.trans e2).trans e3
      refine ⟨_, hrow.kp e123.kp, by decide, ?_⟩
      rw [ed]
      have hl3 := e3 _ _ hl'
      have half : ((n : Int)) / 2 + 1 = ((n / 2 + 1 : Nat) : Int) := by omega
      have yD : ∀ q, q ≤ n → ((List.range (n + 1)).map (yesF ps)).getD q 0 = yesF ps q := fun q hq => by
        rw [List.getD_eq_getElem?_getD, List.getElem?_map, List.getElem?_range (by omega)]
        rfl
      have zD : ∀ q, q < n → ((List.range n).map fun i => yesF ps i - yesF ps (i + 1)).getD q 0 = yesF ps q - yesF ps (q + 1) := fun q hq => by
        rw [List.getD_eq_getElem?_getD, List.getElem?_map, List.getElem?_range (by omega)]
        rfl
      have nearB := near_sy hN hn n1
      have farB := far_sy hN hn n1
      by_cases hpar : (n : Int) % 2 = 0
      · rw [if_pos hpar]
        have np2 : n % 2 = 0 := by omega
        have es : farS n = n / 2 := by unfold farS; rw [if_pos np2]
        refine ⟨l, _, n / 2 + 1, by congr 3, hl3, by omega, fun i hi => by simp; omega, fun t4 G4 e4 tt => ?_⟩
        have q1 : genT (n / 2 + 1) (fun i j => ((List.range (n + 1)).map (yesF ps)).getD (i + j) 0) = genT (n / 2 + 1) (nearF (yesF ps) n) := genT_congr fun i hi j hj => by
          rw [yD _ (by omega)]
          unfold nearF
          rw [if_pos np2]
        rw [q1] at tt
        refine ⟨t4, _, n / 2 + 1, rfl, tt, genT_sq nearB, by omega, fun G5 e5 => ⟨_, rfl, ?_⟩⟩
        have kk := fun H' e => k H' e
        unfold alwB at kk
        cases hb : neverB (genT (n / 2 + 1) (nearF (yesF ps) n)) (n / 2 + 1) with
        | false =>
          rw [if_neg (by decide)]
          have := kk G5 ((e123.trans e4).trans e5)
          rw [hb, Bool.false_and] at this
          exact this
        | true =>
          rw [if_pos rfl]
          have hy5 := e5 _ _ (e4 _ _ hy)
          refine ⟨Dd, _, rfl, .of hy5, fun l6 G6 n6 e6 hl6 => ?_⟩
          rw [show (1 : Int) = ((1 : Nat) : Int) from rfl, cut_drop, ← List.map_drop] at hl6
          refine ⟨l6, _, n / 2, by congr 3, hl6, by omega, fun i hi => by simp; omega, fun t7 G7 e7 t77 => ?_⟩
          have q2 : genT (n / 2) (fun i j => (((List.range n).map fun i => yesF ps i - yesF ps (i + 1)).drop 1).getD (i + j) 0) = genT (farS n) (farF (yesF ps) n) := by
            rw [es]
            refine genT_congr fun i hi j hj => ?_
            rw [List.getD_eq_getElem?_getD, List.getElem?_drop, ← List.getD_eq_getElem?_getD, show 1 + (i + j) = i + j + 1 by omega, zD _ (by omega)]
            unfold farF
            rw [if_pos np2]
          rw [q2] at t77
          refine ⟨t7, _, farS n, rfl, t77, genT_sq farB, by omega, fun G8 e8 => ?_⟩
          have := kk G8 (((((e123.trans e4).trans e5).trans e6).trans e7).trans e8)
          rw [hb, Bool.true_and] at this
          exact this
      · rw [if_neg hpar]
        have np2 : ¬ n % 2 = 0 := by omega
        have es : farS n = n / 2 + 1 := by unfold farS; rw [if_neg np2]
        refine ⟨l, _, rfl, .of hl3, fun l3 G3' n3 e3' hl3' => ?_⟩
        rw [show (1 : Int) = ((1 : Nat) : Int) from rfl, cut_drop, ← List.map_drop] at hl3'
        refine ⟨l3, _, n / 2 + 1, by congr 3, hl3', by omega, fun i hi => by simp; omega, fun t4 G4 e4 tt => ?_⟩
        have q1 : genT (n / 2 + 1) (fun i j => (((List.range (n + 1)).map (yesF ps)).drop 1).getD (i + j) 0) = genT (n / 2 + 1) (nearF (yesF ps) n) := genT_congr fun i hi j hj => by
          rw [List.getD_eq_getElem?_getD, List.getElem?_drop, ← List.getD_eq_getElem?_getD, show 1 + (i + j) = i + j + 1 by omega, yD _ (by omega)]
          unfold nearF
          rw [if_neg np2]
        rw [q1] at tt
        refine ⟨t4, _, n / 2 + 1, rfl, tt, genT_sq nearB, by omega, fun G5 e5 => ⟨_, rfl, ?_⟩⟩
        have kk := fun H' e => k H' e
        unfold alwB at kk
        cases hb : neverB (genT (n / 2 + 1) (nearF (yesF ps) n)) (n / 2 + 1) with
        | false =>
          rw [if_neg (by decide)]
          have := kk G5 (((e123.trans e3').trans e4).trans e5)
          rw [hb, Bool.false_and] at this
          exact this
        | true =>
          rw [if_pos rfl]
          have hy5 := e5 _ _ (e4 _ _ (e3' _ _ hy))
          refine ⟨Dd, _, n / 2 + 1, by congr 3, hy5, by omega, fun i hi => by simp; omega, fun t7 G7 e7 t77 => ?_⟩
          have q2 : genT (n / 2 + 1) (fun i j => ((List.range n).map fun i => yesF ps i - yesF ps (i + 1)).getD (i + j) 0) = genT (farS n) (farF (yesF ps) n) := by
            rw [es]
            refine genT_congr fun i hi j hj => ?_
            rw [zD _ (by omega)]
            unfold farF
            rw [if_neg np2]
          rw [q2] at t77
          refine ⟨t7, _, farS n, rfl, t77, genT_sq farB, by omega, fun G8 e8 => ?_⟩
          have := kk G8 (((((e123.trans e3').trans e4).trans e5).trans e7).trans e8)
          rw [hb, Bool.true_and] at this
          exact this
theorem mE_off {M : List (List Int)} {s b i k j : Nat} (h : SqM M (s + 1) b) (hi : i < s) (hk : k < s) (hj : j < s + 1) : mE (offM M j) i k = mE M (i + 1) (if k < j then k else k + 1) := by
  obtain ⟨r, hr, rl, _, rj⟩ := h.row (i := i + 1) (by omega)
  have e1 : (offM M j).getD i [] = r.take j ++ r.drop (j + 1) := by
    unfold offM
    rw [List.getD_eq_getElem?_getD, List.getElem?_map, List.getElem?_drop, show 1 + i = i + 1 by omega, hr]
    rfl
  have e2 : M.getD (i + 1) [] = r := by rw [List.getD_eq_getElem?_getD, hr]; rfl
  unfold mE
  rw [e1, e2, List.getD_eq_getElem?_getD, List.getD_eq_getElem?_getD]
  congr 1
  by_cases hkj : k < j
  · rw [if_pos hkj, List.getElem?_append_left (by rw [List.length_take]; omega), List.getElem?_take_of_lt hkj]
  · rw [if_neg hkj, List.getElem?_append_right (by rw [List.length_take]; omega), List.length_take, List.getElem?_drop]
    congr 1
    omega
theorem lap_one {M : List (List Int)} {b : Nat} (h : SqM M 1 b) : lap 1 M = mE M 0 0 := by
  simp [lap, sg]
theorem lap_two {M : List (List Int)} {b : Nat} (h : SqM M 2 b) : lap 2 M = mE M 0 0 * mE M 1 1 - mE M 0 1 * mE M 1 0 := by
  have e : lap 2 M = sg 0 * mE M 0 0 * lap 1 (offM M 0) + (sg 1 * mE M 0 1 * lap 1 (offM M 1) + 0) := rfl
  rw [e, lap_one (off_sq h (by omega)), lap_one (off_sq h (by omega)), mE_off h (by omega) (by omega) (by omega), mE_off h (by omega) (by omega) (by omega)]
  simp [sg]
  grind
theorem lap_three {M : List (List Int)} {b : Nat} (h : SqM M 3 b) : lap 3 M = mE M 0 0 * (mE M 1 1 * mE M 2 2 - mE M 1 2 * mE M 2 1) - mE M 0 1 * (mE M 1 0 * mE M 2 2 - mE M 1 2 * mE M 2 0) + mE M 0 2 * (mE M 1 0 * mE M 2 1 - mE M 1 1 * mE M 2 0) := by
  have e : lap 3 M = sg 0 * mE M 0 0 * lap 2 (offM M 0) + (sg 1 * mE M 0 1 * lap 2 (offM M 1) + (sg 2 * mE M 0 2 * lap 2 (offM M 2) + 0)) := rfl
  have o0 := off_sq (j := 0) h (by omega)
  have o1 := off_sq (j := 1) h (by omega)
  have o2 := off_sq (j := 2) h (by omega)
  rw [e, lap_two o0, lap_two o1, lap_two o2]
  simp only [mE_off h (show 0 < 2 by omega) (show 0 < 2 by omega) (show 0 < 3 by omega), mE_off h (show 0 < 2 by omega) (show 1 < 2 by omega) (show 0 < 3 by omega), mE_off h (show 1 < 2 by omega) (show 0 < 2 by omega) (show 0 < 3 by omega), mE_off h (show 1 < 2 by omega) (show 1 < 2 by omega) (show 0 < 3 by omega),
    mE_off h (show 0 < 2 by omega) (show 0 < 2 by omega) (show 1 < 3 by omega), mE_off h (show 0 < 2 by omega) (show 1 < 2 by omega) (show 1 < 3 by omega), mE_off h (show 1 < 2 by omega) (show 0 < 2 by omega) (show 1 < 3 by omega), mE_off h (show 1 < 2 by omega) (show 1 < 2 by omega) (show 1 < 3 by omega),
    mE_off h (show 0 < 2 by omega) (show 0 < 2 by omega) (show 2 < 3 by omega), mE_off h (show 0 < 2 by omega) (show 1 < 2 by omega) (show 2 < 3 by omega), mE_off h (show 1 < 2 by omega) (show 0 < 2 by omega) (show 2 < 3 by omega), mE_off h (show 1 < 2 by omega) (show 1 < 2 by omega) (show 2 < 3 by omega)]
  have s0 : sg 0 = 1 := rfl
  have s1 : sg 1 = -1 := rfl
  have s2 : sg 2 = 1 := rfl
  rw [s0, s1, s2]
  simp
  grind
theorem det_three {M : List (List Int)} (h : M.length = 3) : detM M = mE M 0 0 * (mE M 1 1 * mE M 2 2 - mE M 1 2 * mE M 2 1) - mE M 0 1 * (mE M 1 0 * mE M 2 2 - mE M 1 2 * mE M 2 0) + mE M 0 2 * (mE M 1 0 * mE M 2 1 - mE M 1 1 * mE M 2 0) := by
  unfold detM
  rw [if_neg (by omega), if_neg (by omega)]
  simp [quads, quadV]
  grind
theorem lap_det {M : List (List Int)} {s b : Nat} (h : SqM M s b) (h1 : 1 ≤ s) (h3 : s ≤ 3) : lap s M = detM M := by
  have hl := h.1
  have : s = 1 ∨ s = 2 ∨ s = 3 := by omega
  rcases this with rfl | rfl | rfl
  · rw [lap_one h]
    unfold detM
    rw [if_pos hl]
  · rw [lap_two h]
    unfold detM
    rw [if_neg (by omega), if_pos hl]
  · rw [lap_three h, det_three hl]
theorem lots_eq : ∀ s < 4, (lotsF s).map natsL = (List.range s).flatMap fun m => chF s (m + 1) := by decide +kernel
theorem never_above {M : List (List Int)} {s b : Nat} (h : SqM M s b) (h3 : s ≤ 3) : neverB M s = aboveB M s := by
  unfold neverB aboveB
  have e : ((lotsF s).all fun l => decide (0 ≤ detM (subM M (natsL l)))) = ((lotsF s).map natsL).all fun l => decide (0 ≤ detM (subM M l)) := by
    rw [List.all_map]
    rfl
  rw [e, lots_eq s (by omega), List.all_flatMap]
  rw [Bool.eq_iff_iff, List.all_eq_true, List.all_eq_true]
  have each : ∀ m ∈ List.range s, ((chF s (m + 1)).all fun l => decide (0 ≤ lap (m + 1) (subM M l))) = ((chF s (m + 1)).all fun l => decide (0 ≤ detM (subM M l))) := by
    intro m hm
    have hm := List.mem_range.mp hm
    have c := (ch_small s (by omega) (m + 1) (by omega)).2
    rw [Bool.eq_iff_iff, List.all_eq_true, List.all_eq_true]
    have one : ∀ l ∈ chF s (m + 1), lap (m + 1) (subM M l) = detM (subM M l) := fun l hl => by
      have sq := sub_sq h (c l hl).2
      rw [(c l hl).1] at sq
      exact lap_det sq (by omega) (by omega)
    exact ⟨fun q l hl => by rw [← one l hl]; exact q l hl, fun q l hl => by rw [one l hl]; exact q l hl⟩
  exact ⟨fun q m hm => by rw [← each m hm]; exact q m hm, fun q m hm => by rw [each m hm]; exact q m hm⟩
theorem mE_sub {M : List (List Int)} {l : List Nat} {i j a b : Nat} (hi : l[i]? = some a) (hj : l[j]? = some b) : mE (subM M l) i j = mE M a b := by
  have e1 : (subM M l).getD i [] = l.map fun j => mE M a j := by
    unfold subM
    rw [List.getD_eq_getElem?_getD, List.getElem?_map, hi]
    rfl
  show ((subM M l).getD i []).getD j 0 = _
  rw [e1, List.getD_eq_getElem?_getD, List.getElem?_map, hj]
  rfl
theorem det_of1 {M : List (List Int)} {a : Nat} : detM (subM M [a]) = mE M a a := by
  unfold detM
  rw [if_pos (by simp [subM]), mE_sub (i := 0) (j := 0) rfl rfl]
theorem det_of2 {M : List (List Int)} {a b : Nat} : detM (subM M [a, b]) = mE M a a * mE M b b - mE M a b * mE M b a := by
  unfold detM
  rw [if_neg (by simp [subM]), if_pos (by simp [subM]), mE_sub (i := 0) (j := 0) rfl rfl, mE_sub (i := 1) (j := 1) rfl rfl, mE_sub (i := 0) (j := 1) rfl rfl, mE_sub (i := 1) (j := 0) rfl rfl]
theorem det_of3 {M : List (List Int)} {a b c : Nat} : detM (subM M [a, b, c]) = mE M a a * (mE M b b * mE M c c - mE M b c * mE M c b) - mE M a b * (mE M b a * mE M c c - mE M b c * mE M c a) + mE M a c * (mE M b a * mE M c b - mE M b b * mE M c a) := by
  rw [det_three rfl, mE_sub (i := 0) (j := 0) rfl rfl, mE_sub (i := 1) (j := 1) rfl rfl, mE_sub (i := 0) (j := 1) rfl rfl, mE_sub (i := 1) (j := 0) rfl rfl, mE_sub (i := 0) (j := 2) rfl rfl, mE_sub (i := 2) (j := 0) rfl rfl, mE_sub (i := 1) (j := 2) rfl rfl, mE_sub (i := 2) (j := 1) rfl rfl, mE_sub (i := 2) (j := 2) rfl rfl]
theorem lots_cases {s : Nat} {l : List Int} (h : l ∈ lotsF s) : (∃ a, natsL l = [a] ∧ a < s) ∨ (∃ a b, natsL l = [a, b] ∧ a < s ∧ b < s) ∨ ∃ a b c, natsL l = [a, b, c] ∧ a < s ∧ b < s ∧ c < s := by
  have h := List.mem_filter.mp h
  have h1 := h.1
  have h2 := of_decide_eq_true h.2
  simp only [lots7, List.mem_cons, List.not_mem_nil, or_false] at h1
  rcases h1 with rfl | rfl | rfl | rfl | rfl | rfl | rfl
  · exact .inl ⟨0, rfl, by simp at h2; omega⟩
  · exact .inl ⟨1, rfl, by simp at h2; omega⟩
  · exact .inl ⟨2, rfl, by simp at h2; omega⟩
  · exact .inr (.inl ⟨0, 1, rfl, by simp at h2; omega, by simp at h2; omega⟩)
  · exact .inr (.inl ⟨0, 2, rfl, by simp at h2; omega, by simp at h2; omega⟩)
  · exact .inr (.inl ⟨1, 2, rfl, by simp at h2; omega, by simp at h2; omega⟩)
  · exact .inr (.inr ⟨0, 1, 2, rfl, by simp at h2; omega, by simp at h2; omega, by simp at h2; omega⟩)
theorem sign_eq {c d x y : Int} (hc : 0 < c) (hd : 0 < d) (h : c * x = d * y) : (0 ≤ x ↔ 0 ≤ y) := by
  constructor
  · intro hx
    have : 0 ≤ d * y := by rw [← h]; exact Int.mul_nonneg (by omega) hx
    exact Int.nonneg_of_mul_nonneg_right this hd
  · intro hy
    have : 0 ≤ c * x := by rw [h]; exact Int.mul_nonneg (by omega) hy
    exact Int.nonneg_of_mul_nonneg_right this hc
theorem above_prop {M N : List (List Int)} {s : Nat} {c d : Int} (hc : 0 < c) (hd : 0 < d) (h : ∀ i < s, ∀ j < s, c * mE M i j = d * mE N i j) : aboveB M s = aboveB N s := by
  unfold aboveB
  have each : ∀ l ∈ lotsF s, (0 ≤ detM (subM M (natsL l)) ↔ 0 ≤ detM (subM N (natsL l))) := by
    intro l hl
    have c2 : 0 < c * c := Int.mul_pos hc hc
    have d2 : 0 < d * d := Int.mul_pos hd hd
    have c3 : 0 < c * c * c := Int.mul_pos c2 hc
    have d3 : 0 < d * d * d := Int.mul_pos d2 hd
    rcases lots_cases hl with ⟨a, e, ha⟩ | ⟨a, b, e, ha, hb⟩ | ⟨a, b, z, e, ha, hb, hz⟩
    · rw [e, det_of1, det_of1]
      exact sign_eq hc hd (h a ha a ha)
    · rw [e, det_of2, det_of2]
      refine sign_eq c2 d2 ?_
      have h1 := h a ha a ha
      have h2 := h b hb b hb
      have h3 := h a ha b hb
      have h4 := h b hb a ha
      grind
    · rw [e, det_of3, det_of3]
      refine sign_eq c3 d3 ?_
      have h1 := h a ha a ha
      have h2 := h b hb b hb
      have h3 := h a ha b hb
      have h4 := h b hb a ha
      have h5 := h a ha z hz
      have h6 := h b hb z hz
      have h7 := h z hz a ha
      have h8 := h z hz b hb
      have h9 := h z hz z hz
      have three : ∀ x1 y1 x2 y2 x3 y3 : Int, c * x1 = d * y1 → c * x2 = d * y2 → c * x3 = d * y3 → c * c * c * (x1 * (x2 * x3)) = d * d * d * (y1 * (y2 * y3)) := by
        intro x1 y1 x2 y2 x3 y3 e1 e2 e3
        have : c * c * c * (x1 * (x2 * x3)) = (c * x1) * ((c * x2) * (c * x3)) := by grind
        rw [this, e1, e2, e3]
        grind
      have t1 := three _ _ _ _ _ _ h1 h2 h9
      have t2 := three _ _ _ _ _ _ h1 h6 h8
      have t3 := three _ _ _ _ _ _ h3 h4 h9
      have t4 := three _ _ _ _ _ _ h3 h6 h7
      have t5 := three _ _ _ _ _ _ h5 h4 h8
      have t6 := three _ _ _ _ _ _ h5 h2 h7
      simp only [Int.mul_sub, Int.mul_add]
      omega
  rw [Bool.eq_iff_iff, List.all_eq_true, List.all_eq_true]
  exact ⟨fun q l hl => decide_eq_true ((each l hl).mp (of_decide_eq_true (q l hl))), fun q l hl => decide_eq_true ((each l hl).mpr (of_decide_eq_true (q l hl)))⟩
theorem above_two {M : List (List Int)} {s : Nat} {α β : Int} {X Y : Nat → Int} (ha : 0 ≤ α) (hb : 0 ≤ β) (h : ∀ i < s, ∀ j < s, mE M i j = α * (X i * X j) + β * (Y i * Y j)) : aboveB M s = true := by
  unfold aboveB
  rw [List.all_eq_true]
  intro l hl
  refine decide_eq_true ?_
  have sqn : ∀ z : Int, 0 ≤ z * z := fun z => by
    rcases Int.le_total 0 z with hz | hz
    · exact Int.mul_nonneg hz hz
    · exact Int.mul_nonneg_of_nonpos_of_nonpos hz hz
  rcases lots_cases hl with ⟨a, e, la⟩ | ⟨a, b, e, la, lb⟩ | ⟨a, b, z, e, la, lb, lz⟩
  · rw [e, det_of1, h a la a la]
    exact Int.add_nonneg (Int.mul_nonneg ha (sqn _)) (Int.mul_nonneg hb (sqn _))
  · rw [e, det_of2, h a la a la, h a la b lb, h b lb a la, h b lb b lb]
    have : (α * (X a * X a) + β * (Y a * Y a)) * (α * (X b * X b) + β * (Y b * Y b)) - (α * (X a * X b) + β * (Y a * Y b)) * (α * (X b * X a) + β * (Y b * Y a)) = (α * β) * ((X a * Y b - X b * Y a) * (X a * Y b - X b * Y a)) := by grind
    rw [this]
    exact Int.mul_nonneg (Int.mul_nonneg ha hb) (sqn _)
  · rw [e, det_of3, h a la a la, h a la b lb, h a la z lz, h b lb a la, h b lb b lb, h b lb z lz, h z lz a la, h z lz b lb, h z lz z lz]
    refine Int.le_of_eq ?_
    grind
theorem wayS_scale (k : Int) (cs : List Int) (j : Nat) : wayS (cs.map (k * ·)) j = k * wayS cs j := by
  unfold wayS
  rw [List.length_map, ← sum_scale, List.map_map]
  congr 1
  apply List.map_congr_left
  intro i _
  have : (cs.map (k * ·)).getD i 0 = k * cs.getD i 0 := by
    rw [List.getD_eq_getElem?_getD, List.getD_eq_getElem?_getD, List.getElem?_map]
    cases cs[i]? <;> simp
  show (cs.map (k * ·)).getD i 0 * _ = k * (cs.getD i 0 * _)
  rw [this, Int.mul_assoc]
theorem fac_chs : ∀ n < 6, ∀ j < n + 1, 0 < chs n j ∧ chs n j * (60 / chs n j) = 60 ∧ Builtin.Math.factorialNat n * (60 / chs n j) = 60 * (Builtin.Math.factorialNat j * Builtin.Math.factorialNat (n - j)) := by decide +kernel
theorem yes_mom {cs : List Int} {n j : Nat} (hl : cs.length = n + 1) (hn : n < 6) (hj : j ≤ n) : ((Builtin.Math.factorialNat n : Nat) : Int) * momL cs j = 60 * ((gcdL cs : Nat) : Int) * yesF (plainL cs) j := by
  obtain ⟨c0, c1, c2⟩ := fac_chs n hn j (by omega)
  obtain ⟨C, hC⟩ : ∃ C, C = chs n j := ⟨_, rfl⟩
  obtain ⟨d, hd⟩ : ∃ d, d = 60 / chs n j := ⟨_, rfl⟩
  rw [← hd] at c1 c2
  rw [← hC] at c0 c1
  obtain ⟨W, hW⟩ : ∃ W, W = wayS (plainL cs) j := ⟨_, rfl⟩
  obtain ⟨g, hg⟩ : ∃ g : Int, g = ((gcdL cs : Nat) : Int) := ⟨_, rfl⟩
  have e1 : wayS cs j = g * W := by
    rw [hW, hg, ← wayS_scale, plainL_mul]
  have e2 : momL cs j = g * W * (d : Int) := by
    unfold momL
    rw [hl, show n + 1 - 1 = n by omega, ← hC, e1, show (60 : Int) = (C : Int) * (d : Int) by rw [← Int.natCast_mul, c1]; rfl]
    rw [show g * W * ((C : Int) * (d : Int)) = (C : Int) * (g * W * (d : Int)) by grind]
    exact Int.mul_ediv_cancel_left _ (by omega)
  rw [e2]
  unfold yesF
  rw [plainL_len, hl, show n + 1 - 1 = n by omega, ← hW, ← hg]
  have c3 : ((Builtin.Math.factorialNat n : Nat) : Int) * (d : Int) = 60 * (((Builtin.Math.factorialNat j : Nat) : Int) * ((Builtin.Math.factorialNat (n - j) : Nat) : Int)) := by
    rw [← Int.natCast_mul, ← Int.natCast_mul, c2]
    simp
  grind
theorem mE_genT {s i j : Nat} {f : Nat → Nat → Int} (hi : i < s) (hj : j < s) : mE (genT s f) i j = f i j := by
  have e1 : (genT s f).getD i [] = (List.range s).map (f i) := by
    unfold genT
    rw [List.getD_eq_getElem?_getD, List.getElem?_map, List.getElem?_range hi]
    rfl
  unfold mE
  rw [e1, List.getD_eq_getElem?_getD, List.getElem?_map, List.getElem?_range hj]
  rfl
theorem num_plain {cs : List Int} {m : Nat} {b : Int} (h : NumL cs m b) (g : 0 < gcdL cs) : NumL (plainL cs) m b := by
  refine ⟨by rw [plainL_len]; exact h.1, fun c hc => ?_⟩
  obtain ⟨c0, h0, rfl⟩ := List.mem_map.mp hc
  obtain ⟨p0, p1⟩ := h.2 c0 h0
  refine ⟨Int.ediv_nonneg p0 (by omega), ?_⟩
  have := Int.ediv_le_self ((gcdL cs : Nat) : Int) p0
  omega
theorem alw_due {cs : List Int} {n : Nat} (h : NumL cs (n + 1) (2 ^ 110)) (hn : n < 6) (n1 : 1 ≤ n) (g : 0 < gcdL cs) : alwB (plainL cs) n = dueB (momL cs) n := by
  have hp := num_plain h g
  have s1 : n / 2 + 1 ≤ 3 := by omega
  have s2 : farS n ≤ 3 := by unfold farS; split <;> omega
  have ym := fun (j : Nat) (hj : j ≤ n) => yes_mom (j := j) h.1 hn hj
  have fp := (fac_le n hn).1
  have gp : 0 < 60 * ((gcdL cs : Nat) : Int) := by omega
  unfold alwB dueB
  rw [never_above (genT_sq (near_sy hp hn n1)) s1, never_above (genT_sq (far_sy hp hn n1)) s2]
  congr 1
  · refine above_prop gp (show 0 < ((Builtin.Math.factorialNat n : Nat) : Int) by omega) fun i hi j hj => ?_
    rw [mE_genT hi hj, mE_genT hi hj]
    unfold nearF
    split
    · rw [ym _ (by omega)]
    · rw [ym _ (by omega)]
  · refine above_prop gp (show 0 < ((Builtin.Math.factorialNat n : Nat) : Int) by omega) fun i hi j hj => ?_
    rw [mE_genT hi hj, mE_genT hi hj]
    unfold farS at hi hj
    unfold farF
    split
    · rename_i hpp
      rw [if_pos hpp] at hi hj
      rw [Int.mul_sub, Int.mul_sub, ym _ (by omega), ym _ (by omega)]
    · rename_i hpp
      rw [if_neg hpp] at hi hj
      rw [Int.mul_sub, Int.mul_sub, ym _ (by omega), ym _ (by omega)]
theorem way_coin : ∀ t < 5, ∀ r < 5, ∀ n < 6, ∀ j < n + 1, wayS (coinCs t r n) j = ((chs n j * (t ^ j * (t + r) ^ (n - j)) : Nat) : Int) := by decide +kernel
theorem sum_lin (A B : Int) (f g : Nat → Int) : ∀ l : List Nat, (l.map fun k => A * f k + B * g k).sum = A * (l.map f).sum + B * (l.map g).sum
  | [] => by simp
  | x :: l => by
    have := sum_lin A B f g l
    simp only [List.map_cons, List.sum_cons]
    rw [this]
    grind
def pw (t v n j : Nat) : Int := (t : Int) ^ j * (v : Int) ^ (n - j)
theorem mom_two {A B : Int} {t r t' r' n j : Nat} (ht : t < 5) (hr : r < 5) (ht' : t' < 5) (hr' : r' < 5) (hn : n < 6) (hj : j ≤ n) : momL (twoC A B t r t' r' n) j = 60 * A * pw t (t + r) n j + 60 * B * pw t' (t' + r') n j := by
  have hl : (twoC A B t r t' r' n).length = n + 1 := by simp [twoC]
  have g1 : ∀ (t r k : Nat), k < n + 1 → (coinCs t r n).getD k 0 = coinC t r n k := fun t r k hk => by
    unfold coinCs
    rw [List.getD_eq_getElem?_getD, List.getElem?_map, List.getElem?_range hk]
    rfl
  have e1 : wayS (twoC A B t r t' r' n) j = A * wayS (coinCs t r n) j + B * wayS (coinCs t' r' n) j := by
    unfold wayS
    rw [hl, show (coinCs t r n).length = n + 1 by simp [coinCs], show (coinCs t' r' n).length = n + 1 by simp [coinCs], ← sum_lin]
    congr 1
    apply List.map_congr_left
    intro k hk
    have hk := List.mem_range.mp hk
    rw [g1 t r k hk, g1 t' r' k hk]
    have : (twoC A B t r t' r' n).getD k 0 = A * coinC t r n k + B * coinC t' r' n k := by
      unfold twoC
      rw [List.getD_eq_getElem?_getD, List.getElem?_map, List.getElem?_range hk]
      rfl
    rw [this]
    grind
  have c0 := (fac_chs n hn j (by omega)).1
  unfold momL
  rw [hl, show n + 1 - 1 = n by omega, e1, way_coin t ht r hr n hn j (by omega), way_coin t' ht' r' hr' n hn j (by omega)]
  have p1 : ((chs n j * (t ^ j * (t + r) ^ (n - j)) : Nat) : Int) = (chs n j : Int) * pw t (t + r) n j := by
    unfold pw
    simp
  have p2 : ((chs n j * (t' ^ j * (t' + r') ^ (n - j)) : Nat) : Int) = (chs n j : Int) * pw t' (t' + r') n j := by
    unfold pw
    simp
  rw [p1, p2, show (A * ((chs n j : Int) * pw t (t + r) n j) + B * ((chs n j : Int) * pw t' (t' + r') n j)) * 60 = (chs n j : Int) * (60 * A * pw t (t + r) n j + 60 * B * pw t' (t' + r') n j) by grind]
  exact Int.mul_ediv_cancel_left _ (by omega)
def xF (t v h i : Nat) : Int := (t : Int) ^ i * (v : Int) ^ (h - i)
theorem pw_near0 {t v n h i j : Nat} (e : n = 2 * h) (hi : i ≤ h) (hj : j ≤ h) : pw t v n (i + j) = xF t v h i * xF t v h j := by
  unfold pw xF
  rw [show n - (i + j) = (h - i) + (h - j) by omega, Int.pow_add, Int.pow_add]
  grind
theorem pw_near1 {t v n h i j : Nat} (e : n = 2 * h + 1) (hi : i ≤ h) (hj : j ≤ h) : pw t v n (i + j + 1) = t * (xF t v h i * xF t v h j) := by
  unfold pw xF
  rw [show n - (i + j + 1) = (h - i) + (h - j) by omega, Int.pow_add, Int.pow_add, Int.pow_add]
  grind
theorem pw_far0 {t r n h i j : Nat} (e : n = 2 * h) (hi : i < h) (hj : j < h) : pw t (t + r) n (i + j + 1) - pw t (t + r) n (i + j + 2) = t * r * (xF t (t + r) (h - 1) i * xF t (t + r) (h - 1) j) := by
  unfold pw xF
  rw [show n - (i + j + 1) = (h - 1 - i) + (h - 1 - j) + 1 by omega, show n - (i + j + 2) = (h - 1 - i) + (h - 1 - j) by omega]
  simp only [Int.pow_add, Int.natCast_add]
  grind
theorem pw_far1 {t r n h i j : Nat} (e : n = 2 * h + 1) (hi : i ≤ h) (hj : j ≤ h) : pw t (t + r) n (i + j) - pw t (t + r) n (i + j + 1) = r * (xF t (t + r) h i * xF t (t + r) h j) := by
  unfold pw xF
  rw [show n - (i + j) = (h - i) + (h - j) + 1 by omega, show n - (i + j + 1) = (h - i) + (h - j) by omega]
  simp only [Int.pow_add, Int.natCast_add]
  grind
theorem due_two {A B : Int} {t r t' r' n : Nat} (hA : 1 ≤ A) (hB : 1 ≤ B) (ht : t < 5) (hr : r < 5) (ht' : t' < 5) (hr' : r' < 5) (hn : n < 6) (n1 : 1 ≤ n) : dueB (momL (twoC A B t r t' r' n)) n = true := by
  have mt := fun (j : Nat) (hj : j ≤ n) => mom_two (A := A) (B := B) (j := j) ht hr ht' hr' hn hj
  have a0 : ∀ z : Nat, 0 ≤ 60 * A * (z : Int) := fun z => Int.mul_nonneg (by omega) (by omega)
  have b0 : ∀ z : Nat, 0 ≤ 60 * B * (z : Int) := fun z => Int.mul_nonneg (by omega) (by omega)
  unfold dueB
  rw [Bool.and_eq_true]
  by_cases hp : n % 2 = 0
  · have e : n = 2 * (n / 2) := by omega
    constructor
    · refine above_two (α := 60 * A * ((1 : Nat) : Int)) (β := 60 * B * ((1 : Nat) : Int)) (X := xF t (t + r) (n / 2)) (Y := xF t' (t' + r') (n / 2)) (a0 _) (b0 _) fun i hi j hj => ?_
      rw [mE_genT hi hj]
      unfold nearF
      rw [if_pos hp, mt _ (by omega), pw_near0 e (by omega) (by omega), pw_near0 e (by omega) (by omega)]
      simp
    · have es : farS n = n / 2 := by unfold farS; rw [if_pos hp]
      rw [es]
      refine above_two (α := 60 * A * ((t * r : Nat) : Int)) (β := 60 * B * ((t' * r' : Nat) : Int)) (X := xF t (t + r) (n / 2 - 1)) (Y := xF t' (t' + r') (n / 2 - 1)) (a0 _) (b0 _) fun i hi j hj => ?_
      rw [mE_genT hi hj]
      unfold farF
      rw [if_pos hp, mt _ (by omega), mt _ (by omega)]
      have q1 := pw_far0 (t := t) (r := r) e hi hj
      have q2 := pw_far0 (t := t') (r := r') e hi hj
      rw [Int.natCast_mul, Int.natCast_mul]
      grind
  · have e : n = 2 * (n / 2) + 1 := by omega
    constructor
    · refine above_two (α := 60 * A * (t : Int)) (β := 60 * B * (t' : Int)) (X := xF t (t + r) (n / 2)) (Y := xF t' (t' + r') (n / 2)) (a0 _) (b0 _) fun i hi j hj => ?_
      rw [mE_genT hi hj]
      unfold nearF
      rw [if_neg hp, mt _ (by omega), pw_near1 e (by omega) (by omega), pw_near1 e (by omega) (by omega)]
      grind
    · have es : farS n = n / 2 + 1 := by unfold farS; rw [if_neg hp]
      rw [es]
      refine above_two (α := 60 * A * (r : Int)) (β := 60 * B * (r' : Int)) (X := xF t (t + r) (n / 2)) (Y := xF t' (t' + r') (n / 2)) (a0 _) (b0 _) fun i hi j hj => ?_
      rw [mE_genT hi hj]
      unfold farF
      rw [if_neg hp, mt _ (by omega), mt _ (by omega)]
      have q1 := pw_far1 (t := t) (r := r) e (show i ≤ n / 2 by omega) (show j ≤ n / 2 by omega)
      have q2 := pw_far1 (t := t') (r := r') e (show i ≤ n / 2 by omega) (show j ≤ n / 2 by omega)
      grind
def SzL (ss : List Int) (b : Nat) : Prop := ∀ x ∈ ss, x.natAbs < 2 ^ b
def stepL (ss : List Int) (a : Int) : List Int := (List.range (ss.length - 1)).map fun j => ss.getD (j + 1) 0 + ((j : Int) - a) * ss.getD j 0
def timesL (ss ps : List Int) : List Int := ps.foldl stepL ss
theorem SzL.get {ss : List Int} {b j : Nat} (h : SzL ss b) (hj : j < ss.length) : ss[j]? = some (ss.getD j 0) ∧ (ss.getD j 0).natAbs < 2 ^ b := by
  rw [List.getD_eq_getElem?_getD, List.getElem?_eq_getElem hj]
  exact ⟨rfl, h _ (List.getElem_mem hj)⟩
theorem SzL.step {ss : List Int} {a : Int} {b c : Nat} (h : SzL ss b) (ha : a.natAbs < 2 ^ c) (hl : ss.length ≤ 6) : SzL (stepL ss a) (b + c + 4) := by
  intro x hx
  obtain ⟨j, hj, rfl⟩ := List.mem_map.mp hx
  have hj := List.mem_range.mp hj
  have h1 := (h.get (j := j) (by omega)).2
  have h2 := (h.get (j := j + 1) (by omega)).2
  have h3 : ((j : Int) - a).natAbs ≤ 6 * 2 ^ c := by
    have : 1 ≤ 2 ^ c := Nat.one_le_two_pow
    omega
  have h4 : (((j : Int) - a) * ss.getD j 0).natAbs ≤ 6 * 2 ^ c * 2 ^ b := by
    rw [Int.natAbs_mul]
    exact Nat.mul_le_mul h3 (Nat.le_of_lt h1)
  have e : 2 ^ (b + c + 4) = 16 * (2 ^ c * 2 ^ b) := by
    rw [Nat.pow_add, Nat.pow_add]
    have : 2 ^ b * 2 ^ c = 2 ^ c * 2 ^ b := Nat.mul_comm _ _
    omega
  have h5 : 2 ^ b ≤ 2 ^ c * 2 ^ b := Nat.le_mul_of_pos_left _ (Nat.two_pow_pos c)
  have h6 := Int.natAbs_add_le (ss.getD (j + 1) 0) (((j : Int) - a) * ss.getD j 0)
  rw [Nat.mul_assoc] at h4
  omega
def spTimes (K : PySem.W.Frag) : Sp := fun vs H Q _ => ∃ (s p : Addr) (ss ps : List Int) (b c : Nat), vs = [.ref s, .ref p] ∧ H s = some (.lst (ss.map V.int)) ∧ H p = some (.lst (ps.map V.int)) ∧ SzL ss b ∧ SzL ps c ∧ ss.length ≤ 6 ∧ ps.length ≤ 6 ∧ b ≤ 10000 ∧ c ≤ 2000 ∧ ∀ q H', Ex H H' → H' q = some (.lst ((timesL ss ps).map V.int)) → Q (.ref q) H'
theorem scTimes : FnScope ["sums", "points", "at", "j"] ["sums", "points"] (defScope (top 31)) := ⟨rfl, rfl, rfl, by decide +kernel, rfl, by decide +kernel, by decide +kernel⟩
theorem has_times (B : Bi mg) (D : Df K mg "times" (top 31) ["sums", "points"]) : Has P w K mg base "times" 1 ["sums", "points"] (spTimes K) := by
  have sc := scTimes
  refine .of D fun f fd F => F.ok sc (fun vs H Q E h => ?_) (fun cdv A outer s H vs Q E hr h => ?_)
  · obtain ⟨s, p, ss, ps, b, c, rfl, _⟩ := h
    rfl
  · obtain ⟨s0, p, ss, ps, b, c, rfl, hs, hp, bs, bp, ls, lp, b1, c1, k⟩ := h
    refine ⟨_, (pss_cons (ps_for PassesOwn.never rfl (pi_list (pv 1)) (pg_name (i := 2) sc.nd rfl (by first | exact Or.inl rfl | exact Or.inr rfl))
      (pss_one (ps_set (i := 0) sc.nd rfl (by first | exact Or.inl rfl | exact Or.inr rfl) (pe_lc (own := [("j", 3)]) (g := gName 3) (tt := tYes) rfl sc.nd (pi_range1 (by rfl) B.range (pa_cons (pe_op op_sub (pe_callB (kLen (K := K)) (by rfl) B.len (by decide +kernel) (pa_cons (pv 0) pa_nil)) pe_int) pa_nil)) (blkOk_by (N := (["sums", "points", "at", "j"] : List Str)) (sc := defScope (top 31)) (by decide +kernel)) (fun _ _ _ _ _ => (pg_name (i := 3) sc.nd rfl (by first | exact Or.inl rfl | exact Or.inr rfl))) (fun _ _ _ _ _ => pts_nil) (fun _ _ _ _ _ => (PE.mon (pe_op op_add (pe_ix (ixL (K := K)) (pv 0) (pe_op op_add (pv 3) pe_int) (fun _ _ => rfl)) (pe_op op_mulS (pe_op op_sub (pv 3) (pv 2)) (pe_ix (ixL (K := K)) (pv 0) (pv 3) (fun _ _ => rfl))))))))))
      (pss_one (ps_ret (pv 0)))), ?_⟩
    walk_at "rd"
    refine ⟨⟨_, .of hp⟩, ?_⟩
    obtain ⟨Pv, hP⟩ : ∃ P : Nat → L2.St → Hp → Prop, P = fun (i : Nat) σ' G => Ex H G ∧ ∃ (q : Addr) (z2 z3 : Option V), σ' = [some (.ref q), some (.ref p), z2, z3] ∧ G q = some (.lst ((timesL ss (ps.take i)).map V.int)) ∧ SzL (timesL ss (ps.take i)) (b + i * (c + 4)) ∧ (timesL ss (ps.take i)).length ≤ 6 := ⟨_, rfl⟩
    refine loopL (xs := ps.map V.int) Pv (by rw [hP]; exact ⟨Ex.refl _, s0, _, _, rfl, hs, by simpa [timesL] using bs, by simpa [timesL] using ls⟩) (fun i σ' G _ h => by rw [hP] at h; exact .of (h.1 _ _ hp)) ?_ ?_
    · intro i x σ' G hx h
      rw [hP] at h
      obtain ⟨e, q, z2, z3, rfl, hq, bq, lq⟩ := h
      rw [List.getElem?_map] at hx
      cases ha : ps[i]? with
      | none => rw [ha] at hx; cases hx
      | some a =>
        rw [ha] at hx
        cases hx
        have hi : i < ps.length := (List.getElem?_eq_some_iff.mp ha).1
        have ba := bp a (List.mem_of_getElem? ha)
        have etk : timesL ss (ps.take (i + 1)) = stepL (timesL ss (ps.take i)) a := by
          unfold timesL
          rw [List.take_add_one, ha, List.foldl_append]
          rfl
        obtain ⟨cur, hcur⟩ : ∃ cur, cur = timesL ss (ps.take i) := ⟨_, rfl⟩
        rw [← hcur] at hq bq lq etk
        walk_at "rd"
        refine ⟨_, .inl (.of hq), ?_⟩
        rw [List.length_map]
        refine ⟨by omega, by omega, fun Dd hD => lcR (fun j y _ => y = .int (cur.getD (j + 1) 0 + ((j : Int) - a) * cur.getD j 0)) (fun _ _ _ _ _ h => h) hD (by omega) (fun _ => rfl) ?_ ?_⟩
        · intro j G2 hj e2
          obtain ⟨g1, g2⟩ := bq.get (j := j) (by omega)
          obtain ⟨g3, g4⟩ := bq.get (j := j + 1) (by omega)
          obtain ⟨R0, hR⟩ : ∃ R : VK, R = fun y G' => G' = G2 ∧ y = .int (cur.getD (j + 1) 0 + ((j : Int) - a) * cur.getD j 0) := ⟨_, rfl⟩
          refine ⟨R0, ?_, fun y G' h => by rw [hR] at h; obtain ⟨rfl, h⟩ := h; exact ⟨Ex.refl _, h⟩⟩
          walk_at "rd"
          rw [show (j : Int) + 1 = ((j + 1 : Nat) : Int) by omega]
          refine q_ixL (.of (e2 _ _ hq)) (at_num g3) ?_
          walk_at "rd"
          refine q_ixL (.of (e2 _ _ hq)) (at_num g1) ?_
          walk_at "rd"
          have i5 : i * (c + 4) ≤ 5 * 2004 := Nat.mul_le_mul (by omega) (by omega)
          refine ⟨cmul (c + 3) (b + i * (c + 4)) (by
            have : 1 ≤ 2 ^ c := Nat.one_le_two_pow
            rw [Nat.pow_add]
            omega) g2 (by omega), ?_⟩
          rw [hR]
          exact ⟨rfl, rfl⟩
        · intro G2 ys e2 hy hl2 hr2
          rw [ints_of hl2 hr2] at hy
          rw [hP]
          have hst := bq.step ba lq
          refine ⟨e.trans e2, Dd, _, _, rfl, ?_, ?_, ?_⟩
          · rw [hy, etk]
            unfold stepL
            rw [show ((cur.length : Int) - 1).toNat = cur.length - 1 by omega]
          · rw [etk]
            intro x hx
            refine Nat.lt_of_lt_of_le (hst x hx) (Nat.pow_le_pow_right (by decide) ?_)
            rw [Nat.succ_mul]
            omega
          · rw [etk]
            simp [stepL]
            omega
    · intro σ' G h
      rw [hP] at h
      obtain ⟨e, q, z2, z3, rfl, hq, _⟩ := h
      rw [List.length_map, List.take_length] at hq
      walk_at "rd"
      exact k q G e hq
def spPlace : Sp := fun vs H Q _ => ∃ (p : Addr) (a : Int), vs = [.int a, .ref p] ∧ H p = some (.lst []) ∧ Q (.int a) H
theorem scPlace : FnScope ["at", "taken", "one"] ["at", "taken"] (defScope (top 41)) := ⟨rfl, rfl, rfl, by decide +kernel, rfl, by decide +kernel, by decide +kernel⟩
theorem has_place (B : Bi mg) (D : Df K mg "_place" (top 41) ["at", "taken"]) : Has P w K mg base "_place" 1 ["at", "taken"] spPlace := by
  have sc := scPlace
  refine .of D fun f fd F => F.ok sc (fun vs H Q E h => ?_) (fun cdv A outer s H vs Q E hr h => ?_)
  · obtain ⟨p, a, rfl, _⟩ := h
    rfl
  · obtain ⟨p, a, rfl, hp, k⟩ := h
    refine ⟨_, (pss_cons (ps_for PassesOwn.never rfl (pi_list (pv 1)) (pg_name (i := 2) sc.nd rfl (by first | exact Or.inl rfl | exact Or.inr rfl))
      (pss_one (ps_if (pt_cmpR op_ge (pv 0) (pv 2) (nomark _)) (pss_one (ps_aug (i := 0) sc.nd rfl (by first | exact Or.inl rfl | exact Or.inr rfl) pe_int ip_add)) pss_nil)))
      (pss_one (ps_ret (pv 0)))), ?_⟩
    walk_at "rd"
    refine ⟨⟨_, .of hp⟩, ?_⟩
    obtain ⟨Pv, hP⟩ : ∃ P : Nat → L2.St → Hp → Prop, P = fun (i : Nat) σ' G => G = H ∧ σ' = [some (.int a), some (.ref p), none] := ⟨_, rfl⟩
    refine loopL (xs := []) Pv (by rw [hP]; exact ⟨rfl, rfl⟩) (fun i σ' G _ h => by rw [hP] at h; rw [h.1]; exact .of hp) (fun i x σ' G hx => by simp at hx) ?_
    intro σ' G h
    rw [hP] at h
    obtain ⟨rfl, rfl⟩ := h
    walk_at "rd"
    exact k
theorem lcEmpty {J : Addr} {g : TG} {tt : TT} {te : TE} {vs : List Nat} {σ : L2.St} {H1 : Hp} {Dd : Addr} {Q : VK} (hx : H1 J = some (.lst [])) (hD : H1 Dd = none) (q : ∀ G, Ex H1 G → G Dd = some (.lst []) → Q (.ref Dd) G) : LcW (Itl K J) g tt te vs σ H1 Dd Q :=
  lc_it (Qd := fun H => Q (.ref Dd) H) (walk_list (K := K) (a := J) (xs := [])) (fun _ G => G = upd H1 Dd (.lst [])) rfl (fun i G _ e => by
    subst e
    refine .of ?_
    rw [upd_ne (ne_of_none hx hD)]
    exact hx) (fun i x H H' hi => by simp at hi) (fun G e => by
    subst e
    exact q _ (Ex.new hD) upd_same)
def spSide : Sp := fun vs H Q _ => ∃ (r p o : Addr) (s0 s1 a b : Int), vs = [.ref r, .ref p, .ref o] ∧ H r = some (.lst [.int s0, .int s1]) ∧ H p = some (.lst [.int a, .int b]) ∧ H o = some (.lst []) ∧ s0.natAbs < 2 ^ 5000 ∧ a.natAbs < 2 ^ 5000 ∧ b.natAbs < 2 ^ 5000 ∧ 0 ≤ b * s0 - s1 ∧ 0 ≤ s1 - a * s0 ∧ ∀ H', Ex H H' → Q (.int 0) H'
theorem scSide : FnScope ["rest", "pair", "others", "at", "lower", "upper"] ["rest", "pair", "others"] (defScope (top 42)) := ⟨rfl, rfl, rfl, by decide +kernel, rfl, by decide +kernel, by decide +kernel⟩
theorem has_side (B : Bi mg) (D : Df K mg "_side" (top 42) ["rest", "pair", "others"]) : Has P w K mg base "_side" 1 ["rest", "pair", "others"] spSide := by
  have sc := scSide
  refine .of D fun f fd F => F.ok sc (fun vs H Q E h => ?_) (fun cdv A outer s H vs Q E hr h => ?_)
  · obtain ⟨r, p, o, s0, s1, a, b, rfl, _⟩ := h
    rfl
  · obtain ⟨r, p, o, s0, s1, a, b, rfl, hrr, hp, ho, z0, za, zb, hlo, hup, k⟩ := h
    refine ⟨_, (pss_cons (ps_if (pt_cmpR op_eq (pe_op op_mod (pe_callB (kLen (K := K)) (by rfl) B.len (by decide +kernel) (pa_cons (pe_lc (own := [("at", 3)]) (g := gName 3)  rfl sc.nd (pi_list (pv 2)) (blkOk_by (N := (["rest", "pair", "others", "at", "lower", "upper"] : List Str)) (sc := defScope (top 42)) (by decide +kernel)) (fun _ _ _ _ _ => (pg_name (i := 3) sc.nd rfl (by first | exact Or.inl rfl | exact Or.inr rfl))) (fun _ _ _ _ _ => pts_one (pt_cmpR op_lt (pv 3) (pe_ix (ixL (K := K)) (pv 1) pe_int (fun _ _ => rfl)) (nomark _))) (fun _ _ _ _ _ => (PE.mon (pv 3)))) pa_nil)) pe_int) pe_int (nomark _)) (pss_one (ps_ret (pe_un un_neg pe_int))) pss_nil)
      (pss_cons (ps_set (i := 4) sc.nd rfl (by first | exact Or.inl rfl | exact Or.inr rfl) (pe_op op_sub (pe_op op_mulS (pe_ix (ixL (K := K)) (pv 1) pe_int (fun _ _ => rfl)) (pe_ix (ixL (K := K)) (pv 0) pe_int (fun _ _ => rfl))) (pe_ix (ixL (K := K)) (pv 0) pe_int (fun _ _ => rfl))))
      (pss_cons (ps_set (i := 5) sc.nd rfl (by first | exact Or.inl rfl | exact Or.inr rfl) (pe_op op_sub (pe_ix (ixL (K := K)) (pv 0) pe_int (fun _ _ => rfl)) (pe_op op_mulS (pe_ix (ixL (K := K)) (pv 1) pe_int (fun _ _ => rfl)) (pe_ix (ixL (K := K)) (pv 0) pe_int (fun _ _ => rfl)))))
      (pss_cons (ps_if (PW.pt (pw_and (pt_cmpR op_ge (pv 4) pe_int (nomark _)) (pw_and1 (pt_cmpR op_ge (pv 5) pe_int (nomark _))))) (pss_one (ps_ret pe_int)) pss_nil)
      (pss_cons (ps_if (PW.pt (pw_and (pt_cmpR op_lt (pv 4) pe_int (nomark _)) (pw_and1 (pt_val (pe_callB (kAll (K := K) rfl) (by rfl) B.all (by decide +kernel) (pa_cons (pe_lc (own := [("at", 3)]) (g := gName 3) (tt := tYes) rfl sc.nd (pi_list (pv 2)) (blkOk_by (N := (["rest", "pair", "others", "at", "lower", "upper"] : List Str)) (sc := defScope (top 42)) (by decide +kernel)) (fun _ _ _ _ _ => (pg_name (i := 3) sc.nd rfl (by first | exact Or.inl rfl | exact Or.inr rfl))) (fun _ _ _ _ _ => pts_nil) (fun _ _ _ _ _ => (PE.mon (pe_cmpR op_gt (pv 3) (pe_ix (ixL (K := K)) (pv 1) pe_int (fun _ _ => rfl)) (nomark _))))) pa_nil)))))) (pss_one (ps_ret pe_int)) pss_nil)
      (pss_one (ps_ret (pe_un un_neg pe_int)))))))), ?_⟩
    walk_at "rd"
    refine ⟨⟨_, .of ho⟩, fun Dd hD => lcEmpty ho hD fun G e t => ?_⟩
    refine ⟨Dd, rfl, [], .inl (.of t), by decide, ?_⟩
    rw [if_neg (by decide)]
    refine q_ixL (.of (e _ _ hp)) rfl ?_
    refine q_ixL (.of (e _ _ hrr)) rfl ?_
    walk_at "rd"
    refine ⟨cmul 5000 5000 zb z0, ?_⟩
    refine q_ixL (.of (e _ _ hrr)) rfl ?_
    walk_at "rd"
    refine q_ixL (.of (e _ _ hrr)) rfl ?_
    refine q_ixL (.of (e _ _ hp)) rfl ?_
    refine q_ixL (.of (e _ _ hrr)) rfl ?_
    walk_at "rd"
    refine ⟨cmul 5000 5000 za z0, ?_⟩
    walk_at "rd"
    rw [if_pos hlo, if_pos hup]
    exact k G e
def spAbout : Sp := fun vs H Q _ => ∃ (l t : Addr) (s0 s1 : Int), vs = [.ref l, .int 1, .ref t] ∧ H l = some (.lst [.int s0, .int s1]) ∧ H t = some (.lst []) ∧ 0 < s0 ∧ s0.natAbs < 2 ^ 5000 ∧ ∀ H', Ex H H' → Q (.int (s1 / s0)) H'
theorem scAbout : FnScope ["sums", "many", "taken", "near", "one"] ["sums", "many", "taken"] (defScope (top 43)) := ⟨rfl, rfl, rfl, by decide +kernel, rfl, by decide +kernel, by decide +kernel⟩
theorem scLower : FnScope ["sums", "more", "double", "middle", "last"] ["sums"] (defScope (top 44)) := ⟨rfl, rfl, rfl, by decide +kernel, rfl, by decide +kernel, by decide +kernel⟩
def spNo : Sp := fun _ _ _ _ => False
theorem has_lower (D : Df K mg "_lower_root" (top 44) ["sums"]) : Has P w K mg base "_lower_root" 1 ["sums"] spNo := by
  have sc := scLower
  exact .of D fun f fd F => F.ok sc (fun vs H Q E h => h.elim) (fun cdv A outer s H vs Q E hr h => h.elim)
theorem has_about (B : Bi mg) (h_lower_root : Has P w K mg base "_lower_root" 1 ["sums"] spNo) (D : Df K mg "_about" (top 43) ["sums", "many", "taken"]) : Has P w K mg base "_about" 2 ["sums", "many", "taken"] spAbout := by
  have sc := scAbout
  refine .of D fun f fd F => F.ok sc (fun vs H Q E h => ?_) (fun cdv A outer s H vs Q E hr h => ?_)
  · obtain ⟨l, t, s0, s1, rfl, _⟩ := h
    rfl
  · obtain ⟨l, t, s0, s1, rfl, hl, ht, s0p, z1, k⟩ := h
    refine ⟨_, (pss_cons (ps_set (i := 3) sc.nd rfl (by first | exact Or.inl rfl | exact Or.inr rfl) pe_int)
      (pss_cons (ps_if (pt_cmpR op_gt (pe_ix (ixL (K := K)) (pv 0) pe_int (fun _ _ => rfl)) pe_int (nomark _)) (pss_one (ps_set (i := 3) sc.nd rfl (by first | exact Or.inl rfl | exact Or.inr rfl) (PE.mon (pe_ifExp (pt_cmpR op_eq (pv 1) pe_int (nomark _)) (pe_op op_fdivW (pe_ix (ixL (K := K)) (pv 0) pe_int (fun _ _ => rfl)) (pe_ix (ixL (K := K)) (pv 0) pe_int (fun _ _ => rfl))) (pe_has h_lower_root (hr.mono (by decide)) (pa_cons (pv 0) pa_nil)))))) pss_nil)
      (pss_one (ps_ret (pe_op op_sub (pv 3) (pe_callB (kLen (K := K)) (by rfl) B.len (by decide +kernel) (pa_cons (pe_lc (own := [("one", 4)]) (g := gName 4)  rfl sc.nd (pi_list (pv 2)) (blkOk_by (N := (["sums", "many", "taken", "near", "one"] : List Str)) (sc := defScope (top 43)) (by decide +kernel)) (fun _ _ _ _ _ => (pg_name (i := 4) sc.nd rfl (by first | exact Or.inl rfl | exact Or.inr rfl))) (fun _ _ _ _ _ => pts_one (pt_cmpR op_le (pv 4) (pv 3) (nomark _))) (fun _ _ _ _ _ => (PE.mon (pv 4)))) pa_nil))))))), ?_⟩
    walk_at "rd"
    refine q_ixL (.of hl) rfl ?_
    walk_at "rd"
    rw [if_pos s0p]
    obtain ⟨R0, hR⟩ : ∃ R : VK, R = fun y G' => G' = H ∧ y = .int (s1 / s0) := ⟨_, rfl⟩
    refine ⟨R0, ?_, fun y G' h => ?_⟩
    · walk_at "rd"
      refine q_ixL (.of hl) rfl ?_
      refine q_ixL (.of hl) rfl ?_
      walk_at "rd"
      refine ⟨⟨s0p, log_lt (Nat.lt_of_lt_of_le z1 (Nat.pow_le_pow_right (by decide) (by decide)))⟩, ?_⟩
      rw [hR]
      exact ⟨rfl, rfl⟩
    · rw [hR] at h
      obtain ⟨rfl, rfl⟩ := h
      refine ⟨⟨_, .of ht⟩, fun Dd hD => lcEmpty ht hD fun G e t2 => ?_⟩
      refine ⟨Dd, rfl, [], .inl (.of t2), ?_⟩
      walk_at "rd"
      simpa using k G e
def spPairs0 : Sp := fun vs H Q _ => ∃ (s t : Addr) (l m : Int), vs = [.ref s, .int 0, .int l, .int m, .ref t] ∧ ∀ q H', Ex H H' → H q = none → H' q = some (.lst []) → Q (.ref q) H'
theorem scPairs : FnScope ["sums", "many", "least", "most", "taken", "low", "high", "at", "step", "pair", "others", "side"] ["sums", "many", "least", "most", "taken"] (defScope (top 40)) := ⟨rfl, rfl, rfl, by decide +kernel, rfl, by decide +kernel, by decide +kernel⟩
theorem has_pairsN (D : Df K mg "_pairs" (top 40) ["sums", "many", "least", "most", "taken"]) : Has P w K mg base "_pairs" 2 ["sums", "many", "least", "most", "taken"] spNo := by
  have sc := scPairs
  exact .of D fun f fd F => F.ok sc (fun vs H Q E h => h.elim) (fun cdv A outer s H vs Q E hr h => h.elim)
theorem ok_pairs0 (B : Bi mg) (z_sorted : mg "sorted" = none) (h_about : Has P w K mg base "_about" 2 ["sums", "many", "taken"] spAbout) (h_place : Has P w K mg base "_place" 1 ["at", "taken"] spPlace) (htimes : Has P w K mg base "times" 1 ["sums", "points"] (spTimes K)) (h_side : Has P w K mg base "_side" 1 ["rest", "pair", "others"] spSide)
    (h_pairs : Has P w K mg base "_pairs" 2 ["sums", "many", "least", "most", "taken"] spNo) {f : Addr} {fd : FuncData} (F : Fun K "_pairs" "_pairs" (top 40) f fd) : FnOk P w K mg base CX0 3 f fd ["sums", "many", "least", "most", "taken"] spPairs0 := by
  have sc := scPairs
  refine F.ok sc (fun vs H Q E h => ?_) (fun cdv A outer s H vs Q E hr h => ?_)
  · obtain ⟨s, t, l, m, rfl, _⟩ := h
    rfl
  · obtain ⟨s0, t, l, m, rfl, k⟩ := h
    refine ⟨_, (pss_cons (ps_if (pt_cmpR op_eq (pv 1) pe_int (nomark _)) (pss_one (ps_ret (pe_lstN pa_nil))) pss_nil)
      (pss_cons (ps_set (i := 5) sc.nd rfl (by first | exact Or.inl rfl | exact Or.inr rfl) (pv 2))
      (pss_cons (ps_set (i := 6) sc.nd rfl (by first | exact Or.inl rfl | exact Or.inr rfl) (pe_op op_add (pe_op op_sub (pe_op op_sub (pv 3) (pe_callB (kLen (K := K)) (by rfl) B.len (by decide +kernel) (pa_cons (pv 4) pa_nil))) (pe_op op_mulS pe_int (pv 1))) pe_int))
      (pss_cons (ps_set (i := 7) sc.nd rfl (by first | exact Or.inl rfl | exact Or.inr rfl) (pe_op op_fdivW (pe_op op_add (pv 5) (pv 6)) pe_int))
      (pss_cons (ps_set (i := 8) sc.nd rfl (by first | exact Or.inl rfl | exact Or.inr rfl) (pe_op op_add (pe_op op_sub (pv 6) (pv 5)) pe_int))
      (pss_cons (ps_if (pt_cmpR op_lt (pv 1) pe_int (nomark _)) (pss_cons (ps_set (i := 7) sc.nd rfl (by first | exact Or.inl rfl | exact Or.inr rfl) (pe_callB (call_max2 rfl) (by rfl) B.max (by decide +kernel) (pa_cons (pv 5) (pa_cons (pe_callB (call_min2 rfl) (by rfl) B.min (by decide +kernel) (pa_cons (pv 6) (pa_cons (pe_has h_about (hr.mono (by decide)) (pa_cons (pv 0) (pa_cons (pv 1) (pa_cons (pv 4) pa_nil)))) pa_nil))) pa_nil))))
      (pss_one (ps_set (i := 8) sc.nd rfl (by first | exact Or.inl rfl | exact Or.inr rfl) pe_int))) pss_nil)
      (pss_one (ps_while PassesOwn.never (PT.mon (pt_val pe_bl)) (pss_cons (ps_set (i := 9) sc.nd rfl (by first | exact Or.inl rfl | exact Or.inr rfl) (pe_lstN (pa_cons (pe_has h_place (hr.mono (by decide)) (pa_cons (pv 7) (pa_cons (pv 4) pa_nil))) (pa_cons (pe_has h_place (hr.mono (by decide)) (pa_cons (pe_op op_add (pv 7) pe_int) (pa_cons (pv 4) pa_nil))) pa_nil))))
      (pss_cons (ps_set (i := 10) sc.nd rfl (by first | exact Or.inl rfl | exact Or.inr rfl) (pe_has h_pairs (hr.mono (by decide)) (pa_cons (pe_has htimes (hr.mono (by decide)) (pa_cons (pv 0) (pa_cons (pv 9) pa_nil))) (pa_cons (pe_op op_sub (pv 1) pe_int) (pa_cons (pv 2) (pa_cons (pv 3) (pa_cons (pe_callB (kSrt (K := K)) (by rfl) z_sorted (by decide +kernel) (pa_cons (pe_lstN (kStar (K := K) (pv 4) (kStar (K := K) (pv 9) pa_nil))) pa_nil)) pa_nil)))))))
      (pss_cons (ps_set (i := 11) sc.nd rfl (by first | exact Or.inl rfl | exact Or.inr rfl) (pe_has h_side (hr.mono (by decide)) (pa_cons (pe_has htimes (hr.mono (by decide)) (pa_cons (pv 0) (pa_cons (pv 10) pa_nil))) (pa_cons (pv 9) (pa_cons (pv 10) pa_nil)))))
      (pss_cons (ps_if (PW.pt (pw_or (pt_cmpR op_eq (pv 11) pe_int (nomark _)) (pw_or1 (pt_cmpR op_ge (pv 5) (pv 6) (nomark _))))) (pss_one (ps_ret (pe_callB (kSrt (K := K)) (by rfl) z_sorted (by decide +kernel) (pa_cons (pe_lstN (kStar (K := K) (pv 9) (kStar (K := K) (pv 10) pa_nil))) pa_nil)))) pss_nil)
      (pss_cons (ps_if (pt_cmpR op_gt (pv 11) pe_int (nomark _)) (pss_one (ps_set (i := 5) sc.nd rfl (by first | exact Or.inl rfl | exact Or.inr rfl) (pe_op op_add (pv 7) pe_int))) (pss_one (ps_set (i := 6) sc.nd rfl (by first | exact Or.inl rfl | exact Or.inr rfl) (pe_op op_sub (pv 7) pe_int))))
      (pss_cons (ps_set (i := 7) sc.nd rfl (by first | exact Or.inl rfl | exact Or.inr rfl) (pe_callB (call_max2 rfl) (by rfl) B.max (by decide +kernel) (pa_cons (pe_op op_sub (pv 7) (pv 8)) (pa_cons (pe_callB (call_min2 rfl) (by rfl) B.min (by decide +kernel) (pa_cons (pe_op op_add (pv 7) (pv 8)) (pa_cons (pe_op op_fdivW (pe_op op_add (pv 5) (pv 6)) pe_int) pa_nil))) pa_nil))))
      (pss_one (ps_set (i := 8) sc.nd rfl (by first | exact Or.inl rfl | exact Or.inr rfl) (pe_op op_mulS pe_int (pv 8)))))))))))))))))), ?_⟩
    walk_at "rd"
    refine ⟨by decide, fun q G nq e tq => ?_⟩
    exact k q G e nq tq
def atF (s0 s1 : Int) (N : Nat) : Int := if s1 / s0 ≤ (N : Int) - 1 then s1 / s0 else (N : Int) - 1
def spPairs1 : Sp := fun vs H Q _ => ∃ (s t : Addr) (s0 s1 : Int) (N : Nat), vs = [.ref s, .int 1, .int 0, .int (N : Int), .ref t] ∧ H s = some (.lst [.int s0, .int s1]) ∧ H t = some (.lst []) ∧ 0 < s0 ∧ 0 ≤ s1 ∧ s1 ≤ N * s0 ∧ 1 ≤ N ∧ s0.natAbs < 2 ^ 1000 ∧ s1.natAbs < 2 ^ 2000 ∧ N < 2 ^ 1000 ∧ ∀ q H', Ex H H' → H q = none → H' q = some (.lst [.int (atF s0 s1 N), .int (atF s0 s1 N + 1)]) → Q (.ref q) H'
theorem at_ok {s0 s1 : Int} {N : Nat} (h0 : 0 < s0) (h1 : 0 ≤ s1) (h2 : s1 ≤ N * s0) (hN : 1 ≤ N) : 0 ≤ atF s0 s1 N ∧ atF s0 s1 N ≤ (N : Int) - 1 ∧ 0 ≤ (atF s0 s1 N + 1) * s0 - s1 ∧ 0 ≤ s1 - atF s0 s1 N * s0 := by
  have q0 : 0 ≤ s1 / s0 := Int.ediv_nonneg h1 (by omega)
  have q1 := Int.ediv_mul_le s1 (Int.ne_of_gt h0)
  have q2 := Int.lt_ediv_add_one_mul_self s1 h0
  unfold atF
  split
  · rename_i h
    exact ⟨q0, h, by omega, by omega⟩
  · rename_i h
    have : ((N : Int) - 1) * s0 ≤ s1 / s0 * s0 := Int.mul_le_mul_of_nonneg_right (by omega) (by omega)
    exact ⟨by omega, Int.le_refl _, by rw [show (N : Int) - 1 + 1 = N by omega]; omega, by omega⟩
theorem srt2 {ns : List Int} {a : Int} (h : ns.Perm [a, a + 1]) (hp : ns.Pairwise (· ≤ ·)) : ns = [a, a + 1] := by
  have hl := h.length_eq
  match ns, hl with
  | [x, y], _ =>
    have h1 : a ∈ [x, y] := h.mem_iff.mpr (by simp)
    have h2 : a + 1 ∈ [x, y] := h.mem_iff.mpr (by simp)
    have h3 : x ≤ y := by
      cases hp with
      | cons q _ => exact q y (by simp)
    simp only [List.mem_cons, List.not_mem_nil, or_false] at h1 h2
    have : x = a ∧ y = a + 1 := by omega
    rw [this.1, this.2]
theorem ok_pairs1 (B : Bi mg) (z_sorted : mg "sorted" = none) (h_about : Has P w K mg base "_about" 2 ["sums", "many", "taken"] spAbout) (h_place : Has P w K mg base "_place" 1 ["at", "taken"] spPlace) (htimes : Has P w K mg base "times" 1 ["sums", "points"] (spTimes K)) (h_side : Has P w K mg base "_side" 1 ["rest", "pair", "others"] spSide)
    (h_pairs : Has P w K mg base "_pairs" 3 ["sums", "many", "least", "most", "taken"] spPairs0) {f : Addr} {fd : FuncData} (F : Fun K "_pairs" "_pairs" (top 40) f fd) : FnOk P w K mg base CX0 4 f fd ["sums", "many", "least", "most", "taken"] spPairs1 := by
  have sc := scPairs
  refine F.ok sc (fun vs H Q E h => ?_) (fun cdv A outer s H vs Q E hr h => ?_)
  · obtain ⟨s, t, s0, s1, N, rfl, _⟩ := h
    rfl
  · obtain ⟨s, t, s0, s1, N, rfl, hs, ht, z0, z1, z2, hN, b0, b1, bN, k⟩ := h
    refine ⟨_, (pss_cons (ps_if (pt_cmpR op_eq (pv 1) pe_int (nomark _)) (pss_one (ps_ret (pe_lstN pa_nil))) pss_nil)
      (pss_cons (ps_set (i := 5) sc.nd rfl (by first | exact Or.inl rfl | exact Or.inr rfl) (pv 2))
      (pss_cons (ps_set (i := 6) sc.nd rfl (by first | exact Or.inl rfl | exact Or.inr rfl) (pe_op op_add (pe_op op_sub (pe_op op_sub (pv 3) (pe_callB (kLen (K := K)) (by rfl) B.len (by decide +kernel) (pa_cons (pv 4) pa_nil))) (pe_op op_mulS pe_int (pv 1))) pe_int))
      (pss_cons (ps_set (i := 7) sc.nd rfl (by first | exact Or.inl rfl | exact Or.inr rfl) (pe_op op_fdivW (pe_op op_add (pv 5) (pv 6)) pe_int))
      (pss_cons (ps_set (i := 8) sc.nd rfl (by first | exact Or.inl rfl | exact Or.inr rfl) (pe_op op_add (pe_op op_sub (pv 6) (pv 5)) pe_int))
      (pss_cons (ps_if (pt_cmpR op_lt (pv 1) pe_int (nomark _)) (pss_cons (ps_set (i := 7) sc.nd rfl (by first | exact Or.inl rfl | exact Or.inr rfl) (pe_callB (call_max2 rfl) (by rfl) B.max (by decide +kernel) (pa_cons (pv 5) (pa_cons (pe_callB (call_min2 rfl) (by rfl) B.min (by decide +kernel) (pa_cons (pv 6) (pa_cons (pe_has h_about (hr.mono (by decide)) (pa_cons (pv 0) (pa_cons (pv 1) (pa_cons (pv 4) pa_nil)))) pa_nil))) pa_nil))))
      (pss_one (ps_set (i := 8) sc.nd rfl (by first | exact Or.inl rfl | exact Or.inr rfl) pe_int))) pss_nil)
      (pss_one (ps_while PassesOwn.never (PT.mon (pt_val pe_bl)) (pss_cons (ps_set (i := 9) sc.nd rfl (by first | exact Or.inl rfl | exact Or.inr rfl) (pe_lstN (pa_cons (pe_has h_place (hr.mono (by decide)) (pa_cons (pv 7) (pa_cons (pv 4) pa_nil))) (pa_cons (pe_has h_place (hr.mono (by decide)) (pa_cons (pe_op op_add (pv 7) pe_int) (pa_cons (pv 4) pa_nil))) pa_nil))))
      (pss_cons (ps_set (i := 10) sc.nd rfl (by first | exact Or.inl rfl | exact Or.inr rfl) (pe_has h_pairs (hr.mono (by decide)) (pa_cons (pe_has htimes (hr.mono (by decide)) (pa_cons (pv 0) (pa_cons (pv 9) pa_nil))) (pa_cons (pe_op op_sub (pv 1) pe_int) (pa_cons (pv 2) (pa_cons (pv 3) (pa_cons (pe_callB (kSrt (K := K)) (by rfl) z_sorted (by decide +kernel) (pa_cons (pe_lstN (kStar (K := K) (pv 4) (kStar (K := K) (pv 9) pa_nil))) pa_nil)) pa_nil)))))))
      (pss_cons (ps_set (i := 11) sc.nd rfl (by first | exact Or.inl rfl | exact Or.inr rfl) (pe_has h_side (hr.mono (by decide)) (pa_cons (pe_has htimes (hr.mono (by decide)) (pa_cons (pv 0) (pa_cons (pv 10) pa_nil))) (pa_cons (pv 9) (pa_cons (pv 10) pa_nil)))))
      (pss_cons (ps_if (PW.pt (pw_or (pt_cmpR op_eq (pv 11) pe_int (nomark _)) (pw_or1 (pt_cmpR op_ge (pv 5) (pv 6) (nomark _))))) (pss_one (ps_ret (pe_callB (kSrt (K := K)) (by rfl) z_sorted (by decide +kernel) (pa_cons (pe_lstN (kStar (K := K) (pv 9) (kStar (K := K) (pv 10) pa_nil))) pa_nil)))) pss_nil)
      (pss_cons (ps_if (pt_cmpR op_gt (pv 11) pe_int (nomark _)) (pss_one (ps_set (i := 5) sc.nd rfl (by first | exact Or.inl rfl | exact Or.inr rfl) (pe_op op_add (pv 7) pe_int))) (pss_one (ps_set (i := 6) sc.nd rfl (by first | exact Or.inl rfl | exact Or.inr rfl) (pe_op op_sub (pv 7) pe_int))))
      (pss_cons (ps_set (i := 7) sc.nd rfl (by first | exact Or.inl rfl | exact Or.inr rfl) (pe_callB (call_max2 rfl) (by rfl) B.max (by decide +kernel) (pa_cons (pe_op op_sub (pv 7) (pv 8)) (pa_cons (pe_callB (call_min2 rfl) (by rfl) B.min (by decide +kernel) (pa_cons (pe_op op_add (pv 7) (pv 8)) (pa_cons (pe_op op_fdivW (pe_op op_add (pv 5) (pv 6)) pe_int) pa_nil))) pa_nil))))
      (pss_one (ps_set (i := 8) sc.nd rfl (by first | exact Or.inl rfl | exact Or.inr rfl) (pe_op op_mulS pe_int (pv 8)))))))))))))))))), ?_⟩
    walk_at "rd"
    rw [if_neg (by decide)]
    refine ⟨[], .inl (.of ht), cmulL, ?_⟩
    rw [show ((N : Int) - (([] : List V).length : Int) - 2 * 1 + 1) = (N : Int) - 1 by simp; omega]
    refine ⟨⟨by omega, log_sm (by omega) (by omega)⟩, ?_⟩
    rw [if_pos (by decide)]
    have bs0 : s0.natAbs < 2 ^ 5000 := Nat.lt_of_lt_of_le b0 (Nat.pow_le_pow_right (by decide) (by decide))
    refine ⟨s, t, s0, s1, rfl, hs, ht, z0, bs0, fun G e => ⟨_, rfl, ?_⟩⟩
    obtain ⟨a0, a1, a2, a3⟩ := at_ok z0 z1 z2 hN
    have eat : (if (if s1 / s0 < (N : Int) - 1 then s1 / s0 else (N : Int) - 1) > 0 then (if s1 / s0 < (N : Int) - 1 then s1 / s0 else (N : Int) - 1) else 0) = atF s0 s1 N := by
      have q0 : 0 ≤ s1 / s0 := Int.ediv_nonneg z1 (by omega)
      unfold atF
      split <;> split <;> (try split) <;> omega
    rw [eat]
    obtain ⟨A0, hA0⟩ : ∃ A0, A0 = atF s0 s1 N := ⟨_, rfl⟩
    rw [← hA0] at a0 a1 a2 a3 k ⊢
    refine ⟨fun _ σ' G' => σ' = _ ∧ G' = G, ⟨0, rfl, rfl⟩, ?_⟩
    rintro m σ' G' ⟨rfl, rfl⟩
    refine ⟨fun b G2 => b = true ∧ G2 = G', ⟨_, rfl, rfl, rfl⟩, fun b G2 hb => ?_⟩
    rw [hb.1, hb.2]
    show if true = true then _ else _
    rw [if_pos rfl]
    refine ⟨fun _ _ => False, fun _ _ h => h.elim, ?_⟩
    walk_at "rd"
    have ht1 := e _ _ ht
    have hs1 := e _ _ hs
    refine ⟨t, A0, rfl, ht1, ?_⟩
    walk_at "rd"
    refine ⟨t, A0 + 1, rfl, ht1, ?_⟩
    refine ⟨by decide, fun pr G2 n2 e2 t2 => ?_⟩
    walk_at "rd"
    have bA : A0.natAbs < 2 ^ 1000 := by omega
    have bA1 : (A0 + 1).natAbs < 2 ^ 1001 := by
      have : (2 : Nat) ^ 1001 = 2 * 2 ^ 1000 := by rw [Nat.pow_succ]; omega
      omega
    have szS : SzL [s0, s1] 2000 := fun x hx => by
      simp only [List.mem_cons, List.not_mem_nil, or_false] at hx
      rcases hx with rfl | rfl
      · exact Nat.lt_of_lt_of_le b0 (Nat.pow_le_pow_right (by decide) (by decide))
      · exact b1
    have szP : SzL [A0, A0 + 1] 1001 := fun x hx => by
      simp only [List.mem_cons, List.not_mem_nil, or_false] at hx
      rcases hx with rfl | rfl
      · exact Nat.lt_of_lt_of_le bA (Nat.pow_le_pow_right (by decide) (by decide))
      · exact bA1
    refine ⟨s, pr, [s0, s1], [A0, A0 + 1], 2000, 1001, rfl, e2 _ _ hs1, t2, szS, szP, by simp, by simp, by decide, by decide, fun q3 G3 e3 t3 => ?_⟩
    try dsimp only
    rw [r_star]
    walk_at "rd"
    refine ⟨[], .inr (.of (e3 _ _ (e2 _ _ ht1))), ?_⟩
    try dsimp only
    rw [r_star]
    walk_at "rd"
    refine ⟨[.int A0, .int (A0 + 1)], .inr (.of (e3 _ _ t2)), ?_⟩
    refine ⟨by simp; decide, fun l4 G4 n4 e4 t4 => ?_⟩
    refine ⟨l4, [A0, A0 + 1], rfl, .of t4, fun ns' _ _ l5 G5 n5 e5 t5 => ?_⟩
    refine ⟨q3, l5, _, _, rfl, fun q6 G6 e6 n6 t6 => ?_⟩
    walk_at "rd"
    have e26 := ((e3.trans e4).trans e5).trans e6
    refine ⟨s, q6, [s0, s1], [], 2000, 0, rfl, (e2.trans e26) _ _ hs1, t6, szS, fun x hx => by simp at hx, by simp, by simp, by decide, by decide, fun q7 G7 e7 t7 => ?_⟩
    walk_at "rd"
    have t2' := (e26.trans e7) _ _ t2
    refine ⟨q7, pr, q6, s0, s1, A0, A0 + 1, rfl, t7, t2', e7 _ _ t6, bs0, Nat.lt_of_lt_of_le bA (Nat.pow_le_pow_right (by decide) (by decide)), Nat.lt_of_lt_of_le bA1 (Nat.pow_le_pow_right (by decide) (by decide)), a2, a3, fun G8 e8 => ?_⟩
    walk_at "rd"
    try dsimp only
    rw [r_star]
    walk_at "rd"
    refine ⟨[.int A0, .int (A0 + 1)], .inr (.of (e8 _ _ t2')), ?_⟩
    try dsimp only
    rw [r_star]
    walk_at "rd"
    refine ⟨[], .inr (.of (e8 _ _ (e7 _ _ t6))), ?_⟩
    refine ⟨by simp; decide, fun l9 G9 n9 e9 t9 => ?_⟩
    refine ⟨l9, [A0, A0 + 1], rfl, .of t9, fun ns' hp1 hp2 l10 G10 n10 e10 t10 => ?_⟩
    rw [srt2 hp1 hp2] at t10
    have eall := (((e.trans e2).trans e26).trans e7).trans (e8.trans e9)
    exact k l10 G10 (eall.trans e10) (ex_free eall n10) t10
def orS (a b : Sp) : Sp := fun vs H Q E => a vs H Q E ∨ b vs H Q E
theorem FnOk_or {k : Nat} {f : Addr} {fd : FuncData} {ps : List Str} {a b : Sp} (x : FnOk P w K mg base CX0 k f fd ps a) (y : FnOk P w K mg base CX0 k f fd ps b) : FnOk P w K mg base CX0 k f fd ps (orS a b) :=
  ⟨fun vs H Q E h => h.elim (x.len vs H Q E) (y.len vs H Q E), fun A o s H args us vs Q E hr he hb hv h => h.elim (x.run A o s H args us vs Q E hr he hb hv) (y.run A o s H args us vs Q E hr he hb hv)⟩
theorem has_pairs (B : Bi mg) (z_sorted : mg "sorted" = none) (h_about : Has P w K mg base "_about" 2 ["sums", "many", "taken"] spAbout) (h_place : Has P w K mg base "_place" 1 ["at", "taken"] spPlace) (htimes : Has P w K mg base "times" 1 ["sums", "points"] (spTimes K)) (h_side : Has P w K mg base "_side" 1 ["rest", "pair", "others"] spSide)
    (D : Df K mg "_pairs" (top 40) ["sums", "many", "least", "most", "taken"]) : Has P w K mg base "_pairs" 4 ["sums", "many", "least", "most", "taken"] (orS spPairs0 spPairs1) := by
  have hN := has_pairsN (P := P) (w := w) (base := base) D
  have h0 : Has P w K mg base "_pairs" 3 ["sums", "many", "least", "most", "taken"] spPairs0 := Has.of D fun f fd F => ok_pairs0 B z_sorted h_about h_place htimes h_side hN F
  exact Has.of D fun f fd F => FnOk_or ((ok_pairs0 B z_sorted h_about h_place htimes h_side hN F).mono (by decide)) (ok_pairs1 B z_sorted h_about h_place htimes h_side h0 F)
def lowF (s0 s1 : Int) (N m : Nat) : List Int := if m = 1 then [0] else [atF s0 s1 N, atF s0 s1 N + 1]
def higF (N m : Nat) : List Int := if m = 1 then [(N : Int)] else [0, (N : Int)]
structure Sums2 (s0 s1 s2 : Int) (N : Nat) : Prop where
  p0 : 0 < s0
  p1 : 0 ≤ s1
  q1 : s1 ≤ N * s0
  n2 : 2 ≤ N
  b0 : s0.natAbs < 2 ^ 1000
  b1 : s1.natAbs < 2 ^ 2000
  b2 : s2.natAbs < 2 ^ 4000
  bN : N < 2 ^ 1000
def spLow (K : PySem.W.Frag) : Sp := fun vs H Q _ => ∃ (s : Addr) (s0 s1 s2 : Int) (N m : Nat), vs = [.ref s, .int (m : Int), .int (N : Int)] ∧ H s = some (.lst ([s0, s1, s2].map V.int)) ∧ Sums2 s0 s1 s2 N ∧ (m = 1 ∨ m = 2) ∧ ∀ q H', Ex H H' → H' q = some (.lst ((lowF s0 s1 N m).map V.int)) → Q (.ref q) H'
theorem scLow : FnScope ["sums", "many", "slips", "told"] ["sums", "many", "slips"] (defScope (top 33)) := ⟨rfl, rfl, rfl, by decide +kernel, rfl, by decide +kernel, by decide +kernel⟩
theorem Sums2.sz {s0 s1 s2 : Int} {N : Nat} (h : Sums2 s0 s1 s2 N) : SzL [s0, s1, s2] 4000 := fun x hx => by
  simp only [List.mem_cons, List.not_mem_nil, or_false] at hx
  rcases hx with rfl | rfl | rfl
  · exact Nat.lt_of_lt_of_le h.b0 (Nat.pow_le_pow_right (by decide) (by decide))
  · exact Nat.lt_of_lt_of_le h.b1 (Nat.pow_le_pow_right (by decide) (by decide))
  · exact h.b2
theorem SzL.take {l : List Int} {b : Nat} (h : SzL l b) (k : Nat) : SzL (l.take k) b := fun x hx => h x (List.mem_of_mem_take hx)
theorem has_low (B : Bi mg) (htimes : Has P w K mg base "times" 1 ["sums", "points"] (spTimes K)) (h_pairs : Has P w K mg base "_pairs" 4 ["sums", "many", "least", "most", "taken"] (orS spPairs0 spPairs1)) (D : Df K mg "lowest_points" (top 33) ["sums", "many", "slips"]) : Has P w K mg base "lowest_points" 5 ["sums", "many", "slips"] (spLow K) := by
  have sc := scLow
  refine .of D fun f fd F => F.ok sc (fun vs H Q E h => ?_) (fun cdv A outer s H vs Q E hr h => ?_)
  · obtain ⟨s, s0, s1, s2, N, m, rfl, _⟩ := h
    rfl
  · obtain ⟨s, s0, s1, s2, N, m, rfl, hs, S, hm, k⟩ := h
    refine ⟨_, (pss_cons (ps_set (i := 3) sc.nd rfl (by first | exact Or.inl rfl | exact Or.inr rfl) (pe_slice (slL (K := K)) (pv 0) po_none (po_some (pv 1))))
      (pss_cons (ps_if (pt_cmpR op_eq (pe_op op_mod (pv 1) pe_int) pe_int (nomark _)) (pss_one (ps_ret (pe_has h_pairs (hr.mono (by decide)) (pa_cons (pv 3) (pa_cons (pe_op op_fdivW (pv 1) pe_int) (pa_cons pe_int (pa_cons (pv 2) (pa_cons (pe_lstN pa_nil) pa_nil)))))))) pss_nil)
      (pss_one (ps_ret (pe_lstN (pa_cons pe_int (kStar (K := K) (pe_has h_pairs (hr.mono (by decide)) (pa_cons (pe_has htimes (hr.mono (by decide)) (pa_cons (pv 3) (pa_cons (pe_lstN (pa_cons pe_int pa_nil)) pa_nil))) (pa_cons (pe_op op_fdivW (pv 1) pe_int) (pa_cons pe_int (pa_cons (pv 2) (pa_cons (pe_lstN pa_nil) pa_nil)))))) pa_nil))))))), ?_⟩
    walk_at "rd"
    refine ⟨s, _, rfl, .of hs, fun tl G n1 e1 t1 => ?_⟩
    rw [cut_take, ← List.map_take] at t1
    rcases hm with rfl | rfl
    · refine ⟨by decide, ?_⟩
      rw [if_neg (by decide)]
      rw [r_star]
      walk_at "rd"
      refine ⟨by decide, fun z G2 n2 e2 t2 => ?_⟩
      refine ⟨tl, z, _, [0], 4000, 1, rfl, e2 _ _ t1, t2, S.sz.take 1, fun x hx => by simp at hx; subst hx; decide, by simp, by simp, by decide, by decide, fun q3 G3 e3 t3 => ?_⟩
      refine ⟨⟨by decide, by decide⟩, ?_⟩
      refine ⟨by decide, fun z4 G4 n4 e4 t4 => ?_⟩
      refine .inl ⟨q3, z4, 1, N, rfl, fun q5 G5 e5 n5 t5 => ?_⟩
      refine ⟨q5, rfl, [], .inr (.of t5), by decide, fun q6 G6 n6 e6 t6 => ?_⟩
      exact k q6 G6 (((((e1.trans e2).trans e3).trans e4).trans e5).trans e6) t6
    · refine ⟨by decide, ?_⟩
      rw [if_pos (by decide)]
      refine ⟨⟨by decide, by decide⟩, ?_⟩
      refine ⟨by decide, fun z4 G4 n4 e4 t4 => ?_⟩
      refine .inr ⟨tl, z4, s0, s1, N, rfl, e4 _ _ t1, t4, S.p0, S.p1, S.q1, by have := S.n2; omega, S.b0, S.b1, S.bN, fun q5 G5 e5 n5 t5 => ?_⟩
      refine k q5 G5 ((e1.trans e4).trans e5) ?_
      rw [t5]
      unfold lowF
      rw [if_neg (by decide)]
      rfl
def spHig (K : PySem.W.Frag) : Sp := fun vs H Q _ => ∃ (s : Addr) (s0 s1 s2 : Int) (N m : Nat), vs = [.ref s, .int (m : Int), .int (N : Int)] ∧ H s = some (.lst ([s0, s1, s2].map V.int)) ∧ Sums2 s0 s1 s2 N ∧ (m = 1 ∨ m = 2) ∧ ∀ q H', Ex H H' → H' q = some (.lst ((higF N m).map V.int)) → Q (.ref q) H'
theorem scHig : FnScope ["sums", "many", "slips", "told", "one"] ["sums", "many", "slips"] (defScope (top 34)) := ⟨rfl, rfl, rfl, by decide +kernel, rfl, by decide +kernel, by decide +kernel⟩
theorem neg_ints {ys : List V} {cur : List Int} (hl : ys.length = cur.length) (h : ∀ (i : Nat) y, ys[i]? = some y → ∃ c, cur[i]? = some c ∧ y = .int (-c)) : ys = (cur.map fun c => -c).map V.int := by
  apply List.ext_getElem?
  intro i
  by_cases hi : i < ys.length
  · obtain ⟨c, h1, h2⟩ := h i _ (List.getElem?_eq_getElem hi)
    rw [List.getElem?_eq_getElem hi, h2, List.getElem?_map, List.getElem?_map, h1]
    rfl
  · rw [List.getElem?_eq_none (by omega), List.getElem?_eq_none (by simp; omega)]
theorem has_hig (B : Bi mg) (htimes : Has P w K mg base "times" 1 ["sums", "points"] (spTimes K)) (h_pairs : Has P w K mg base "_pairs" 4 ["sums", "many", "least", "most", "taken"] (orS spPairs0 spPairs1)) (D : Df K mg "highest_points" (top 34) ["sums", "many", "slips"]) : Has P w K mg base "highest_points" 5 ["sums", "many", "slips"] (spHig K) := by
  have sc := scHig
  refine .of D fun f fd F => F.ok sc (fun vs H Q E h => ?_) (fun cdv A outer s H vs Q E hr h => ?_)
  · obtain ⟨s, s0, s1, s2, N, m, rfl, _⟩ := h
    rfl
  · obtain ⟨s, s0, s1, s2, N, m, rfl, hs, S, hm, k⟩ := h
    refine ⟨_, (pss_cons (ps_setLc (i := 3) (own := [("one", 4)]) (g := gName 4) (tt := tYes) rfl sc.nd rfl rfl (sw_true rfl rfl rfl (by decide +kernel)) (pi_list (pe_has htimes (hr.mono (by decide)) (pa_cons (pe_slice (slL (K := K)) (pv 0) po_none (po_some (pv 1))) (pa_cons (pe_lstN (pa_cons (pv 2) pa_nil)) pa_nil)))) (blkOk_by (N := (["sums", "many", "slips", "told", "one"] : List Str)) (sc := defScope (top 34)) (by decide +kernel)) (fun _ _ _ _ _ => (pg_name (i := 4) sc.nd rfl (by first | exact Or.inl rfl | exact Or.inr rfl))) (fun _ _ _ _ _ => pts_nil) (fun _ _ _ _ _ => (PE.mon (pe_un un_neg (pv 4)))))
      (pss_cons (ps_if (pt_cmpR op_eq (pe_op op_mod (pv 1) pe_int) pe_int (nomark _)) (pss_one (ps_ret (pe_lstN (kStar (K := K) (pe_has h_pairs (hr.mono (by decide)) (pa_cons (pv 3) (pa_cons (pe_op op_fdivW (pv 1) pe_int) (pa_cons pe_int (pa_cons (pe_op op_sub (pv 2) pe_int) (pa_cons (pe_lstN pa_nil) pa_nil)))))) (pa_cons (pv 2) pa_nil))))) pss_nil)
      (pss_one (ps_ret (pe_lstN (pa_cons pe_int (kStar (K := K) (pe_has h_pairs (hr.mono (by decide)) (pa_cons (pe_has htimes (hr.mono (by decide)) (pa_cons (pv 3) (pa_cons (pe_lstN (pa_cons pe_int pa_nil)) pa_nil))) (pa_cons (pe_op op_sub (pe_op op_fdivW (pv 1) pe_int) pe_int) (pa_cons pe_int (pa_cons (pe_op op_sub (pv 2) pe_int) (pa_cons (pe_lstN pa_nil) pa_nil)))))) (pa_cons (pv 2) pa_nil)))))))), ?_⟩
    walk_at "rd"
    refine ⟨s, _, rfl, .of hs, fun tl G n1 e1 t1 => ?_⟩
    rw [cut_take, ← List.map_take] at t1
    refine ⟨by decide, fun z G2 n2 e2 t2 => ?_⟩
    have szN : SzL [(N : Int)] 1001 := fun x hx => by
      simp only [List.mem_cons, List.not_mem_nil, or_false] at hx
      subst hx
      exact Nat.lt_of_lt_of_le (show ((N : Int)).natAbs < 2 ^ 1000 by rw [Int.natAbs_natCast]; exact S.bN) (Nat.pow_le_pow_right (by decide) (by decide))
    have lt3 : (([s0, s1, s2] : List Int).take m).length ≤ 6 := by rw [List.length_take]; simp; omega
    refine ⟨tl, z, _, [(N : Int)], 4000, 1001, rfl, e2 _ _ t1, t2, S.sz.take m, szN, lt3, by simp, by decide, by decide, fun q3 G3 e3 t3 => ?_⟩
    obtain ⟨cur, hcur⟩ : ∃ cur, cur = timesL (([s0, s1, s2] : List Int).take m) [(N : Int)] := ⟨_, rfl⟩
    rw [← hcur] at t3
    have lcur : cur.length ≤ 6 := by rw [hcur]; simp [timesL, stepL]; omega
    have bcur : SzL cur 5005 := by
      rw [hcur]
      exact (S.sz.take m).step (szN _ (by simp)) lt3
    refine ⟨q3, rfl, ⟨_, .of t3⟩, fun Dd hD => lcLn (fun i y _ => ∃ c, cur[i]? = some c ∧ y = .int (-c)) (fun _ _ _ _ _ h => h) hD (.of t3) (by rw [List.length_map]; omega) (fun _ => rfl) ?_ ?_⟩
    · intro i x G4 hx e4
      rw [List.getElem?_map] at hx
      cases hc : cur[i]? with
      | none => rw [hc] at hx; cases hx
      | some c =>
        rw [hc] at hx
        cases hx
        obtain ⟨R0, hR⟩ : ∃ R : VK, R = fun y G' => G' = G4 ∧ y = .int (-c) := ⟨_, rfl⟩
        refine ⟨R0, ?_, fun y G' h => by rw [hR] at h; obtain ⟨rfl, h⟩ := h; exact ⟨Ex.refl _, c, rfl, h⟩⟩
        walk_at "rd"
        rw [hR]
        exact ⟨rfl, rfl⟩
    · intro G4 ys e4 hy hl hr4
      rw [List.length_map] at hl
      rw [neg_ints hl hr4] at hy
      have e04 := ((e1.trans e2).trans e3).trans e4
      rcases hm with rfl | rfl
      · refine ⟨by decide, ?_⟩
        rw [if_pos (by decide)]
        rw [r_star]
        walk_at "rd"
        refine ⟨⟨by decide, by decide⟩, ?_⟩
        refine ⟨by decide, fun z5 G5 n5 e5 t5 => ?_⟩
        refine .inl ⟨Dd, z5, 0, (N : Int) - 1, rfl, fun q6 G6 e6 n6 t6 => ?_⟩
        refine ⟨q6, rfl, [], .inr (.of t6), Nat.le_trans (show _ ≤ 5 by simp) (by decide), fun q7 G7 n7 e7 t7 => ?_⟩
        exact k q7 G7 (((e04.trans e5).trans e6).trans e7) t7
      · refine ⟨by decide, ?_⟩
        rw [if_neg (by decide)]
        rw [r_star]
        walk_at "rd"
        refine ⟨by decide, fun z5 G5 n5 e5 t5 => ?_⟩
        refine ⟨Dd, z5, _, [0], 5005, 1, rfl, e5 _ _ hy, t5, fun x hx => by obtain ⟨c, hc, rfl⟩ := List.mem_map.mp hx; rw [Int.natAbs_neg]; exact bcur c hc, fun x hx => by simp at hx; subst hx; decide, by rw [List.length_map]; exact lcur, by simp, by decide, by decide, fun q6 G6 e6 t6 => ?_⟩
        refine ⟨⟨by decide, by decide⟩, ?_⟩
        refine ⟨by decide, fun z7 G7 n7 e7 t7 => ?_⟩
        refine .inl ⟨q6, z7, 1, (N : Int) - 1, rfl, fun q8 G8 e8 n8 t8 => ?_⟩
        refine ⟨q8, rfl, [], .inr (.of t8), Nat.le_trans (show _ ≤ 5 by simp) (by decide), fun q9 G9 n9 e9 t9 => ?_⟩
        exact k q9 G9 (((((e04.trans e5).trans e6).trans e7).trans e8).trans e9) t9
def spMean (K : PySem.W.Frag) : Sp := fun vs H Q _ => ∃ (s p : Addr) (ss ps : List Int) (N t : Nat), vs = [.ref s, .ref p, .int (N : Int)] ∧ H s = some (.lst (ss.map V.int)) ∧ H p = some (.lst (ps.map V.int)) ∧ SzL ss 4000 ∧ SzL ps 1001 ∧ ps.length < ss.length ∧ ss.length ≤ 6 ∧ (∀ i < t, (N : Int) - (i : Int) ∈ ps) ∧ (N : Int) - (t : Int) ∉ ps ∧ ∀ H', Ex H H' → Q (.int (sg t * (timesL (ss.take (ps.length + 1)) ps).getD 0 0)) H'
theorem scMean : FnScope ["sums", "points", "slips", "turn", "free"] ["sums", "points", "slips"] (defScope (top 32)) := ⟨rfl, rfl, rfl, by decide +kernel, rfl, by decide +kernel, by decide +kernel⟩
theorem times_len : ∀ (ps ss : List Int), (timesL ss ps).length = ss.length - ps.length
  | [], ss => by simp [timesL]
  | a :: ps, ss => by
    have e : timesL ss (a :: ps) = timesL (stepL ss a) ps := rfl
    rw [e, times_len ps]
    simp [stepL]
    omega
theorem has_mean (B : Bi mg) (htimes : Has P w K mg base "times" 1 ["sums", "points"] (spTimes K)) (D : Df K mg "mean_on" (top 32) ["sums", "points", "slips"]) : Has P w K mg base "mean_on" 2 ["sums", "points", "slips"] (spMean K) := by
  have sc := scMean
  refine .of D fun f fd F => F.ok sc (fun vs H Q E h => ?_) (fun cdv A outer s H vs Q E hr h => ?_)
  · obtain ⟨s, p, ss, ps, N, t, rfl, _⟩ := h
    rfl
  · obtain ⟨s, p, ss, ps, N, t, rfl, hs, hp, bs, bp, lp, ls, hin, hout, k⟩ := h
    refine ⟨_, (pss_cons (ps_set (i := 3) sc.nd rfl (by first | exact Or.inl rfl | exact Or.inr rfl) pe_int)
      (pss_cons (ps_set (i := 4) sc.nd rfl (by first | exact Or.inl rfl | exact Or.inr rfl) (pv 2))
      (pss_cons (ps_while PassesOwn.never (PT.mon (pt_cmpR (kIn (K := K)) (pv 4) (pv 1) (by rfl))) (pss_cons (ps_set (i := 3) sc.nd rfl (by first | exact Or.inl rfl | exact Or.inr rfl) (pe_un un_neg (pv 3)))
      (pss_one (ps_aug (i := 4) sc.nd rfl (by first | exact Or.inl rfl | exact Or.inr rfl) pe_int ip_sub))))
      (pss_one (ps_ret (pe_op op_mulS (pv 3) (pe_ix (ixL (K := K)) (pe_has htimes (hr.mono (by decide)) (pa_cons (pe_slice (slL (K := K)) (pv 0) po_none (po_some (pe_op op_add (pe_callB (kLen (K := K)) (by rfl) B.len (by decide +kernel) (pa_cons (pv 1) pa_nil)) pe_int))) (pa_cons (pv 1) pa_nil))) pe_int (fun _ _ => rfl)))))))), ?_⟩
    walk_at "rd"
    refine ⟨fun m σ' G => ∃ j, j ≤ t ∧ m = t - j ∧ σ' = [some (.ref s), some (.ref p), some (.int (N : Int)), some (.int (sg j)), some (.int ((N : Int) - (j : Int)))] ∧ G = H, ⟨t, 0, by omega, by omega, by simp [sg], rfl⟩, ?_⟩
    rintro m σ' G ⟨j, hj, rfl, rfl, rfl⟩
    refine ⟨fun b G' => b = (ps.any fun n => n == (N : Int) - (j : Int)) ∧ G' = G, ?_, ?_⟩
    · walk_at "rd"
      exact ⟨p, _, ps, rfl, rfl, .of hp, _, rfl, rfl, rfl⟩
    · intro b G' hb
      rw [hb.1, hb.2]
      cases ha : (ps.any fun n => n == (N : Int) - (j : Int)) with
      | true =>
        show if true = true then _ else _
        rw [if_pos rfl]
        have jt : j < t := by
          rcases Nat.lt_or_ge j t with h | h
          · exact h
          · have : j = t := by omega
            subst this
            obtain ⟨n, hn, e⟩ := List.any_eq_true.mp ha
            have : n = (N : Int) - (j : Int) := by simpa using e
            rw [this] at hn
            exact (hout hn).elim
        refine ⟨fun σ' G' => σ' = [some (.ref s), some (.ref p), some (.int (N : Int)), some (.int (sg (j + 1))), some (.int ((N : Int) - ((j + 1 : Nat) : Int)))] ∧ G' = G, fun σ2 H2 ⟨h1, h2⟩ => ⟨t - (j + 1), by omega, j + 1, by omega, rfl, h1, h2⟩, ?_⟩
        walk_at "rd"
        rw [r_aug]
        walk_at "rd"
        refine ⟨_, _, rfl, rfl, ?_⟩
        refine ⟨(sg_succ j).symm, ?_, rfl⟩
        congr 1
        show (N : Int) - (j : Int) - 1 = _
        omega
      | false =>
        show if false = true then _ else _
        rw [if_neg (by decide)]
        have jt : j = t := by
          rcases Nat.lt_or_ge j t with h | h
          · have := List.any_eq_false.mp ha _ (hin j h)
            simp at this
          · omega
        subst jt
        walk_at "rd"
        refine ⟨_, .inl (.of hp), ?_⟩
        refine ⟨s, _, rfl, .of hs, fun l G2 n2 e2 t2 => ?_⟩
        rw [List.length_map, show ((ps.length : Nat) : Int) + 1 = ((ps.length + 1 : Nat) : Int) by omega, cut_take, ← List.map_take] at t2
        refine ⟨l, p, _, ps, 4000, 1001, rfl, t2, e2 _ _ hp, bs.take _, bp, by rw [List.length_take]; omega, by omega, by decide, by decide, fun q G3 e3 t3 => ?_⟩
        have l1 : (timesL (ss.take (ps.length + 1)) ps).length = 1 := by
          rw [times_len, List.length_take]
          omega
        have g0 : (timesL (ss.take (ps.length + 1)) ps)[0]? = some ((timesL (ss.take (ps.length + 1)) ps).getD 0 0) := by
          rw [List.getD_eq_getElem?_getD, List.getElem?_eq_getElem (by omega)]
          rfl
        refine q_ixL (.of t3) (at_num g0) ?_
        have sa := sg_abs j
        walk_at "rd"
        refine ⟨cmulL (by omega) (by omega), ?_⟩
        exact k G3 (e2.trans e3)
def fF (s0 s1 s2 a : Int) : Int := (s2 + (1 - a) * s1) + (0 - (a + 1)) * (s1 + (0 - a) * s0)
theorem t10 {s0 s1 s2 : Int} : (timesL (([s0, s1, s2] : List Int).take 2) [0]).getD 0 0 = s1 := by
  simp [timesL, stepL]
theorem t1N {s0 s1 s2 N : Int} : (timesL (([s0, s1, s2] : List Int).take 2) [N]).getD 0 0 = s1 + (0 - N) * s0 := by
  simp [timesL, stepL]
theorem t2a {s0 s1 s2 a : Int} : (timesL (([s0, s1, s2] : List Int).take 3) [a, a + 1]).getD 0 0 = fF s0 s1 s2 a := by
  simp [timesL, stepL, fF, List.range_succ]
theorem t2N {s0 s1 s2 N : Int} : (timesL (([s0, s1, s2] : List Int).take 3) [0, N]).getD 0 0 = (s2 + (1 - 0) * s1) + (0 - N) * (s1 + (0 - 0) * s0) := by
  simp [timesL, stepL, List.range_succ]
def spBroken (K : PySem.W.Frag) : Sp := fun vs H Q _ => ∃ (s : Addr) (s0 s1 s2 : Int) (N : Nat), vs = [.ref s, .int (N : Int)] ∧ H s = some (.lst ([s0, s1, s2].map V.int)) ∧ Sums2 s0 s1 s2 N ∧ 0 ≤ ((N : Int) - 1) * s1 - s2 ∧ ∀ H', Ex H H' → (0 ≤ fF s0 s1 s2 (atF s0 s1 N) → Q .non H') ∧ (fF s0 s1 s2 (atF s0 s1 N) < 0 → ∀ q, Q (.ref q) H')
theorem scBroken : FnScope ["sums", "slips", "many", "points"] ["sums", "slips"] (defScope (top 35)) := ⟨rfl, rfl, rfl, by decide +kernel, rfl, by decide +kernel, by decide +kernel⟩
theorem has_broken (B : Bi mg) (hlowest_points : Has P w K mg base "lowest_points" 5 ["sums", "many", "slips"] (spLow K)) (hhighest_points : Has P w K mg base "highest_points" 5 ["sums", "many", "slips"] (spHig K)) (hmean_on : Has P w K mg base "mean_on" 2 ["sums", "points", "slips"] (spMean K)) (D : Df K mg "broken_points" (top 35) ["sums", "slips"]) : Has P w K mg base "broken_points" 6 ["sums", "slips"] (spBroken K) := by
  have sc := scBroken
  refine .of D fun f fd F => F.ok sc (fun vs H Q E h => ?_) (fun cdv A outer s H vs Q E hr h => ?_)
  · obtain ⟨s, s0, s1, s2, N, rfl, _⟩ := h
    rfl
  · obtain ⟨s, s0, s1, s2, N, rfl, hs, S, hc, k⟩ := h
    refine ⟨_, (pss_cons (ps_for PassesOwn.never rfl (pi_range2 (by rfl) B.range (pa_cons pe_int (pa_cons (pe_callB (kLen (K := K)) (by rfl) B.len (by decide +kernel) (pa_cons (pv 0) pa_nil)) pa_nil))) (pg_name (i := 2) sc.nd rfl (by first | exact Or.inl rfl | exact Or.inr rfl))
      (pss_one (ps_for PassesOwn.never rfl (pi_tup (pe_tupN (pa_cons (pe_has hlowest_points (hr.mono (by decide)) (pa_cons (pv 0) (pa_cons (pv 2) (pa_cons (pv 1) pa_nil)))) (pa_cons (pe_has hhighest_points (hr.mono (by decide)) (pa_cons (pv 0) (pa_cons (pv 2) (pa_cons (pv 1) pa_nil)))) pa_nil)))) (pg_name (i := 3) sc.nd rfl (by first | exact Or.inl rfl | exact Or.inr rfl))
      (pss_one (ps_if (pt_cmpR op_lt (pe_has hmean_on (hr.mono (by decide)) (pa_cons (pv 0) (pa_cons (pv 3) (pa_cons (pv 1) pa_nil)))) pe_int (nomark _)) (pss_one (ps_ret (pv 3))) pss_nil)))))
      (pss_one (ps_ret pe_non))), ?_⟩
    walk_at "rd"
    refine ⟨_, .inl (.of hs), by decide, by decide, by simp, by simp, ?_⟩
    obtain ⟨a0, a1, a2, a3⟩ := at_ok S.p0 S.p1 S.q1 (by have := S.n2; omega)
    obtain ⟨A0, hA0⟩ : ∃ A0, A0 = atF s0 s1 N := ⟨_, rfl⟩
    rw [← hA0] at a0 a1 a2 a3 k
    obtain ⟨Fv, hFv⟩ : ∃ Fv, Fv = fF s0 s1 s2 A0 := ⟨_, rfl⟩
    rw [← hFv] at k
    have n2 := S.n2
    obtain ⟨Pv, hP⟩ : ∃ P : Nat → L2.St → Hp → Prop, P = fun (i : Nat) σ' G => Ex H G ∧ ∃ (z2 z3 : Option V), σ' = [some (.ref s), some (.int (N : Int)), z2, z3] ∧ (i = 2 → 0 ≤ Fv) := ⟨_, rfl⟩
    refine loopR Pv (by rw [hP]; exact ⟨Ex.refl _, _, _, rfl, fun z => by omega⟩) ?_ ?_
    · intro i σ' G hi h
      rw [hP] at h
      obtain ⟨e, z2, z3, rfl, _⟩ := h
      have hi : i < 2 := hi
      walk_at "rd"
      have hm : (i + 1 = 1 ∨ i + 1 = 2) := by omega
      rw [show (1 : Int) + (i : Int) = ((i + 1 : Nat) : Int) by omega]
      refine ⟨s, s0, s1, s2, N, i + 1, rfl, e _ _ hs, S, hm, fun lo G2 e2 t2 => ?_⟩
      refine ⟨s, s0, s1, s2, N, i + 1, rfl, e2 _ _ (e _ _ hs), S, hm, fun hg G3 e3 t3 => ?_⟩
      refine ⟨by decide, fun T G4 n4 e4 t4 => ?_⟩
      refine ⟨T, rfl, ⟨_, .of t4⟩, ?_⟩
      have e24 := (e2.trans e3).trans e4
      have hs4 := e24 _ _ (e _ _ hs)
      have lo4 := e4 _ _ (e3 _ _ t2)
      have hg4 := e4 _ _ t3
      obtain ⟨Uv, hU⟩ : ∃ U : Nat → L2.St → Hp → Prop, U = fun (j : Nat) σ' G' => Ex G4 G' ∧ ∃ (z : Option V), σ' = [some (.ref s), some (.int (N : Int)), some (.int ((i + 1 : Nat) : Int)), z] ∧ (1 ≤ j → i = 1 → 0 ≤ Fv) := ⟨_, rfl⟩
      have nb : ((N : Int)).natAbs < 2 ^ 1000 := by rw [Int.natAbs_natCast]; exact S.bN
      have p01 : (2 : Nat) ^ 1001 = 2 * 2 ^ 1000 := by rw [Nat.pow_succ]; omega
      refine loopT (xs := [V.ref lo, V.ref hg]) Uv (by rw [hU]; exact ⟨Ex.refl _, _, rfl, fun z => by omega⟩) (fun j σ' G' _ h => by rw [hU] at h; exact .of (h.1 _ _ t4)) ?_ ?_
      · intro j x σ' G5 hx h
        rw [hU] at h
        obtain ⟨e5, z, rfl, hF⟩ := h
        match j, hx with
        | 0, hx =>
          cases hx
          walk_at "rd"
          by_cases h1 : i = 0
          · subst h1
            refine ⟨s, lo, _, [0], N, 0, rfl, e5 _ _ hs4, e5 _ _ lo4, S.sz, fun x hx => by simp at hx; subst hx; decide, by simp, by simp, fun q hq => by omega, by simp; omega, fun G6 e6 => ?_⟩
            walk_at "rd"
            rw [t10]
            rw [if_neg (by have := S.p1; simp [sg]; omega)]
            rw [hU]
            exact ⟨e5.trans e6, _, rfl, fun _ z => by omega⟩
          · have h1 : i = 1 := by omega
            subst h1
            have lo5 : G5 lo = some (.lst ([A0, A0 + 1].map V.int)) := by
              rw [e5 _ _ lo4]
              unfold lowF
              rw [if_neg (by decide), ← hA0]
            have szP : SzL [A0, A0 + 1] 1001 := fun x hx => by
              simp only [List.mem_cons, List.not_mem_nil, or_false] at hx
              rcases hx with rfl | rfl <;> omega
            have fin : ∀ t : Nat, sg t = 1 → ∀ G6, Ex G5 G6 → (if sg t * (timesL (([s0, s1, s2] : List Int).take 3) [A0, A0 + 1]).getD 0 0 < 0 then Q (.ref lo) G6 else Uv 1 [some (.ref s), some (.int (N : Int)), some (.int ((1 + 1 : Nat) : Int)), some (.ref lo)] G6) := by
              intro t ht G6 e6
              rw [ht, t2a, ← hFv, Int.one_mul]
              by_cases neg : Fv < 0
              · rw [if_pos neg]
                exact (k G6 ((((e.trans e24).trans e5).trans e6))).2 neg lo
              · rw [if_neg neg, hU]
                exact ⟨e5.trans e6, _, rfl, fun _ _ => by omega⟩
            by_cases hN : A0 + 1 = (N : Int)
            · refine ⟨s, lo, _, [A0, A0 + 1], N, 2, rfl, e5 _ _ hs4, lo5, S.sz, szP, by simp, by simp, fun q hq => ?_, ?_, fun G6 e6 => ?_⟩
              · have : q = 0 ∨ q = 1 := by omega
                rcases this with rfl | rfl
                · simp; omega
                · simp; omega
              · simp; omega
              · walk_at "rd"
                exact fin 2 rfl G6 e6
            · refine ⟨s, lo, _, [A0, A0 + 1], N, 0, rfl, e5 _ _ hs4, lo5, S.sz, szP, by simp, by simp, fun q hq => by omega, ?_, fun G6 e6 => ?_⟩
              · simp; omega
              · walk_at "rd"
                exact fin 0 rfl G6 e6
        | 1, hx =>
          cases hx
          walk_at "rd"
          by_cases h1 : i = 0
          · subst h1
            refine ⟨s, hg, _, [(N : Int)], N, 1, rfl, e5 _ _ hs4, e5 _ _ hg4, S.sz, fun x hx => by simp at hx; subst hx; omega, by simp, by simp, fun q hq => (by rw [show q = 0 by omega]; simp), by simp; omega, fun G6 e6 => ?_⟩
            walk_at "rd"
            rw [t1N]
            rw [if_neg (by
              have := S.q1
              have e1 : sg 1 * (s1 + (0 - (N : Int)) * s0) = (N : Int) * s0 - s1 := by
                have : sg 1 = -1 := rfl
                rw [this]
                grind
              rw [e1]
              omega)]
            rw [hU]
            exact ⟨e5.trans e6, _, rfl, fun _ z => by omega⟩
          · have h1 : i = 1 := by omega
            subst h1
            refine ⟨s, hg, _, [0, (N : Int)], N, 1, rfl, e5 _ _ hs4, e5 _ _ hg4, S.sz, fun x hx => ?_, by simp, by simp, fun q hq => ?_, by simp; omega, fun G6 e6 => ?_⟩
            · simp only [List.mem_cons, List.not_mem_nil, or_false] at hx
              rcases hx with rfl | rfl
              · decide
              · omega
            · have : q = 0 := by omega
              subst this
              simp
            walk_at "rd"
            rw [t2N]
            rw [if_neg (by
              have e1 : sg 1 * ((s2 + (1 - 0) * s1) + (0 - (N : Int)) * (s1 + (0 - 0) * s0)) = ((N : Int) - 1) * s1 - s2 := by
                have : sg 1 = -1 := rfl
                rw [this]
                grind
              rw [e1]
              omega)]
            rw [hU]
            exact ⟨e5.trans e6, _, rfl, fun _ z => hF (by omega) z⟩
        | _ + 2, hx => simp at hx
      · intro σ' G5 h
        rw [hU] at h
        obtain ⟨e5, z, rfl, hF⟩ := h
        walk_at "rd"
        rw [hP]
        exact ⟨(e.trans e24).trans e5, _, _, rfl, fun z => hF (by simp) (by omega)⟩
    · intro σ' G h
      rw [hP] at h
      obtain ⟨e, z2, z3, rfl, h2⟩ := h
      walk_at "rd"
      exact (k G e).1 (h2 rfl)
theorem lcElP {g : TG} {te : TE} {vs : List Nat} {σ : L2.St} {H1 : Hp} {Dd : Addr} {Q : VK} {a : Addr} {xs : List V} (R : Nat → V → Hp → Prop) (hR : ∀ i y H H', Kp H H' → R i y H → R i y H') (hD : H1 Dd = none) (hx : SqL K H1 a xs) (hz : xs.length ≤ 100000) (hm : GMono g)
    (hs : ∀ (i : Nat) y T H, xs[i]? = some y → Ex H1 H → H T = some (.tup [.int (i : Nat), y]) → g (.ref T) (wipe σ vs) H fun σ2 H2 => wipe σ2 vs = wipe σ vs ∧ tmE te σ2 H2 fun y H4 => Ex H H4 ∧ R i y H4)
    (hd : LcEnd H1 Dd xs.length R Q) : LcW (Ite K a) g tYes (tmE te) vs σ H1 Dd Q :=
  lcP (walk_enum (K := K) (a := a) (xs := xs)) R hR hD (fun H e => sqL_ex hx e) hz hm (fun i x y T H _ h1 h2 e t => by
    cases h1
    exact hs i y T H h2 e t) hd
theorem prm0 (N : Nat) : prm N 0 = 1 := rfl
theorem prm1 (N : Nat) : prm N 1 = (N : Int) := by
  show 1 * ((N : Int) - ((0 : Nat) : Int)) = N
  simp
theorem prm2 (N : Nat) : prm N 2 = (N : Int) * ((N : Int) - 1) := by
  show 1 * ((N : Int) - ((0 : Nat) : Int)) * ((N : Int) - ((1 : Nat) : Int)) = _
  simp
def sumsL (cs : List Int) (N : Nat) : List Int := (List.range cs.length).map fun j => yesF cs j * prm N j
def spSums (K : PySem.W.Frag) : Sp := fun vs H Q _ => ∃ (p : Addr) (cs : List Int) (N : Nat), vs = [.ref p, .int (N : Int)] ∧ SqT K H p (cs.map V.int) ∧ NumL cs 3 (2 ^ 110) ∧ 2 ≤ N ∧ N < 2 ^ 1000 ∧ ∀ l H', Ex H H' → H' l = some (.lst ((sumsL cs N).map V.int)) → Q (.ref l) H'
theorem scSums : FnScope ["counts", "slips", "j", "chance"] ["counts", "slips"] (defScope (top 30)) := ⟨rfl, rfl, rfl, by decide +kernel, rfl, by decide +kernel, by decide +kernel⟩
theorem has_sums (B : Bi mg) (c_perm : mg "perm" = some (.builtin "math.perm")) (hyes_sums : Has P w K mg base "yes_sums" 1 ["counts"] (spYes K)) (D : Df K mg "row_sums" (top 30) ["counts", "slips"]) : Has P w K mg base "row_sums" 2 ["counts", "slips"] (spSums K) := by
  have sc := scSums
  refine .of D fun f fd F => F.ok sc (fun vs H Q E h => ?_) (fun cdv A outer s H vs Q E hr h => ?_)
  · obtain ⟨p, cs, N, rfl, _⟩ := h
    rfl
  · obtain ⟨p, cs, N, rfl, hp, hN, n2, bN, k⟩ := h
    refine ⟨_, (pss_one (ps_ret (pe_lc (own := [("j", 2), ("chance", 3)]) (g := gTup K 2 (gCons (gName 2) (gCons (gName 3) gNil))) (tt := tYes) rfl sc.nd (pi_enum (by rfl) B.enumerate (pa_cons (pe_has hyes_sums (hr.mono (by decide)) (pa_cons (pv 0) pa_nil)) pa_nil)) (blkOk_by (N := (["counts", "slips", "j", "chance"] : List Str)) (sc := defScope (top 30)) (by decide +kernel)) (fun _ _ _ _ _ => (pg_tup rfl (pgs_cons (pg_name (i := 2) sc.nd rfl (by first | exact Or.inl rfl | exact Or.inr rfl)) (pgs_cons (pg_name (i := 3) sc.nd rfl (by first | exact Or.inl rfl | exact Or.inr rfl)) pgs_nil)))) (fun _ _ _ _ _ => pts_nil) (fun _ _ _ _ _ => (PE.mon (pe_op op_mulS (pv 3) (pe_callBfun cr_perm (by rfl) c_perm (pa_cons (pv 1) (pa_cons (pv 2) pa_nil))))))))), ?_⟩
    walk_at "rd"
    rw [r_enumL]
    walk_at "rd"
    refine ⟨p, cs, 2, rfl, hp, hN, by decide, by decide, fun l G e hl => ⟨l, rfl, ⟨_, .of hl⟩, fun Dd hD => ?_⟩⟩
    have lY : (((List.range (2 + 1)).map (yesF cs)).map V.int).length = 3 := by simp
    have getY : ∀ i < 3, (((List.range (2 + 1)).map (yesF cs)).map V.int)[i]? = some (.int (yesF cs i)) := fun i hi => by
      rw [List.getElem?_map, List.getElem?_map, List.getElem?_range (by omega)]
      rfl
    refine lcElP (fun i y _ => y = .int (yesF cs i * prm N i)) (fun _ _ _ _ _ h => h) hD (.of hl) (by rw [lY]; omega) (gm_tup (gm_cons gm_name (gm_cons gm_name gm_nil))) ?_ ?_
    · intro i y T G3 hy e3 hT
      have hi : i < 3 := by rw [← lY]; exact (List.getElem?_eq_some_iff.mp hy).1
      rw [getY i hi] at hy
      cases hy
      walk_at "rd"
      refine ⟨_, .of hT, rfl, ?_⟩
      walk_at "rd"
      obtain ⟨R1, hR1⟩ : ∃ R : VK, R = fun v H' => v = .int (yesF cs i * prm N i) ∧ H' = G3 := ⟨_, rfl⟩
      refine ⟨R1, ?_, fun v H' h => by rw [hR1] at h; obtain ⟨rfl, rfl⟩ := h; exact ⟨Ex.refl _, rfl⟩⟩
      walk_at "rd"
      refine ⟨N, i, rfl, by omega, by omega, Nat.lt_of_lt_of_le bN (Nat.pow_le_pow_right (by decide) (by decide)), ?_⟩
      walk_at "rd"
      have yl := yes_le (j := i) (n := 2) hN (by decide) (by omega)
      have nb : ((N : Int)).natAbs < 2 ^ 1000 := by rw [Int.natAbs_natCast]; exact bN
      have pb : (prm N i).natAbs < 2 ^ 2001 := by
        have : i = 0 ∨ i = 1 ∨ i = 2 := by omega
        rcases this with rfl | rfl | rfl
        · rw [prm0]
          exact Nat.lt_of_lt_of_le (show ((1 : Int)).natAbs < 2 ^ 1 by decide) (Nat.pow_le_pow_right (by decide) (by decide))
        · rw [prm1]
          exact Nat.lt_of_lt_of_le nb (Nat.pow_le_pow_right (by decide) (by decide))
        · rw [prm2]
          exact lt2_mono (wide_lt (a := 1000) (b := 1000) nb (by omega)) (by decide)
      refine ⟨cmul 131 2001 (by omega) pb, ?_⟩
      rw [hR1]
      exact ⟨rfl, rfl⟩
    · intro G3 ys e3 hy hly hr3
      rw [lY] at hly
      rw [ints_of hly hr3] at hy
      refine k Dd G3 (e.trans e3) ?_
      rw [hy]
      unfold sumsL
      rw [hN.1]
def S0 (cs : List Int) : Int := 2 * (cs.getD 0 0 + cs.getD 1 0 + cs.getD 2 0)
def S1 (cs : List Int) (N : Nat) : Int := (cs.getD 1 0 + 2 * cs.getD 2 0) * N
def S2 (cs : List Int) (N : Nat) : Int := 2 * cs.getD 2 0 * ((N : Int) * ((N : Int) - 1))
def comeB (cs : List Int) (N : Nat) : Bool := decide (2 ≤ N) && decide (0 ≤ fF (S0 cs) (S1 cs N) (S2 cs N) (atF (S0 cs) (S1 cs N) N))
theorem three_of {cs : List Int} {b : Int} (h : NumL cs 3 b) : ∃ c0 c1 c2, cs = [c0, c1, c2] ∧ (0 ≤ c0 ∧ c0 ≤ b) ∧ (0 ≤ c1 ∧ c1 ≤ b) ∧ (0 ≤ c2 ∧ c2 ≤ b) := by
  match cs, h with
  | [a, b', c], h => exact ⟨a, b', c, rfl, h.2 a (by simp), h.2 b' (by simp), h.2 c (by simp)⟩
  | [], h => exact absurd h.1 (by simp)
  | [_], h => exact absurd h.1 (by simp)
  | [_, _], h => exact absurd h.1 (by simp)
  | _ :: _ :: _ :: _ :: _, h => exact absurd h.1 (by simp)
theorem sums_eq {cs : List Int} {N : Nat} (h : NumL cs 3 (2 ^ 110)) : sumsL cs N = [S0 cs, S1 cs N, S2 cs N] := by
  obtain ⟨c0, c1, c2, rfl, _⟩ := three_of h
  have f0 : Builtin.Math.factorialNat 0 = 1 := by decide +kernel
  have f1 : Builtin.Math.factorialNat 1 = 1 := by decide +kernel
  have f2 : Builtin.Math.factorialNat 2 = 2 := by decide +kernel
  have r3 : List.range 3 = [0, 1, 2] := rfl
  simp only [sumsL, S0, S1, S2, List.length_cons, List.length_nil, r3, List.map_cons, List.map_nil, yesF, wayS, prm0, prm1, prm2, f0, f1, f2]
  simp [chs, r3, f0, f1, f2]
  grind
theorem sums_ok {cs : List Int} {N : Nat} (h : NumL cs 3 (2 ^ 110)) (s0 : 0 < cs.sum) (n2 : 2 ≤ N) (bN : N < 2 ^ 1000) : Sums2 (S0 cs) (S1 cs N) (S2 cs N) N ∧ 0 ≤ ((N : Int) - 1) * S1 cs N - S2 cs N := by
  obtain ⟨c0, c1, c2, rfl, h0, h1, h2⟩ := three_of h
  have es : ([c0, c1, c2] : List Int).sum = c0 + c1 + c2 := by simp; omega
  rw [es] at s0
  have nb : ((N : Int)).natAbs < 2 ^ 1000 := by rw [Int.natAbs_natCast]; exact bN
  simp only [S0, S1, S2, List.getD_cons_zero, List.getD_cons_succ]
  refine ⟨⟨by omega, Int.mul_nonneg (by omega) (by omega), ?_, n2, ?_, ?_, ?_, bN⟩, ?_⟩
  · rw [Int.mul_comm]
    exact Int.mul_le_mul_of_nonneg_left (by omega) (by omega)
  · exact Nat.lt_of_lt_of_le (show _ < 2 ^ 120 by omega) (Nat.pow_le_pow_right (by decide) (by decide))
  · exact lt2_mono (wide_lt (a := 120) (b := 1000) (by omega) nb) (by decide)
  · have q1 : ((N : Int) - 1).natAbs < 2 ^ 1000 := by omega
    exact lt2_mono (wide_lt (a := 120) (b := 2000) (by omega) (wide_lt nb q1)) (by decide)
  · have : ((N : Int) - 1) * ((c1 + 2 * c2) * N) - 2 * c2 * ((N : Int) * ((N : Int) - 1)) = ((N : Int) - 1) * (N * c1) := by grind
    rw [this]
    exact Int.mul_nonneg (by omega) (Int.mul_nonneg (by omega) (by omega))
def spDoes (K : PySem.W.Frag) (C : Addr) : Sp := fun vs H Q _ => ∃ (x : V) (ps : List Int) (N : Nat), vs = [x, .int (N : Int)] ∧ IsRow K C H x ps ∧ NumL ps 3 (2 ^ 110) ∧ 0 < ps.sum ∧ N < 2 ^ 1000 ∧ ∀ H', Ex H H' → Q (.bl (comeB ps N)) H'
theorem scDoes : FnScope ["row", "slips"] ["row", "slips"] (defScope (top 28)) := ⟨rfl, rfl, rfl, by decide +kernel, rfl, by decide +kernel, by decide +kernel⟩
theorem has_does {C : Addr} (B : Bi mg) (RT : RowT P w K mg base C) (hrow_sums : Has P w K mg base "row_sums" 2 ["counts", "slips"] (spSums K)) (hbroken_points : Has P w K mg base "broken_points" 6 ["sums", "slips"] (spBroken K)) (D : Df K mg "does_come" (top 28) ["row", "slips"]) : Has P w K mg base "does_come" 7 ["row", "slips"] (spDoes K C) := by
  have sc := scDoes
  refine .of D fun f fd F => F.ok sc (fun vs H Q E h => ?_) (fun cdv A outer s H vs Q E hr h => ?_)
  · obtain ⟨x, ps, N, rfl, _⟩ := h
    rfl
  · obtain ⟨x, ps, N, rfl, hrow, hN, sp, bN, k⟩ := h
    refine ⟨_, (pss_one (ps_ret (pe_and (pe_cmpR op_ge (pv 1) (kDraws RT (hr.mono (by decide)) (pv 0)) (nomark _)) (pe_one (pe_cmpR op_isN (pe_has hbroken_points (hr.mono (by decide)) (pa_cons (pe_has hrow_sums (hr.mono (by decide)) (pa_cons (kCounts RT (hr.mono (by decide)) (pv 0)) (pa_cons (pv 1) pa_nil))) (pa_cons (pv 1) pa_nil))) pe_non (nomark _)))))), ?_⟩
    walk_at "rd"
    have l3 := hN.1
    refine ⟨ps, hrow, ?_⟩
    unfold comeB at k
    by_cases h2 : 2 ≤ N
    · rw [if_pos (by omega)]
      refine ⟨ps, hrow, fun y ⟨p, ey, hS⟩ => ?_⟩
      subst ey
      refine ⟨p, ps, N, rfl, hS, hN, h2, bN, fun l G e hl => ?_⟩
      rw [sums_eq hN] at hl
      obtain ⟨so, sx⟩ := sums_ok hN sp h2 bN
      refine ⟨l, _, _, _, N, rfl, hl, so, sx, fun G2 e2 => ⟨fun hF => ?_, fun hF q => ?_⟩⟩
      · have := k G2 (e.trans e2)
        rw [decide_eq_true h2, decide_eq_true hF] at this
        exact this
      · have := k G2 (e.trans e2)
        rw [decide_eq_true h2, decide_eq_false (by omega)] at this
        exact this
    · rw [if_neg (by omega)]
      have := k H (Ex.refl _)
      rw [decide_eq_false h2, Bool.false_and] at this
      exact this
def spChk (K : PySem.W.Frag) (C : Addr) : Sp := fun vs H Q _ => ∃ (x : V) (ps : List Int) (N : Nat), vs = [x, .int (N : Int)] ∧ IsRow K C H x ps ∧ 1 ≤ N ∧ N ≤ 10 ^ 30 ∧ Q .non H
def spComes (K : PySem.W.Frag) (C : Addr) : Sp := fun vs H Q _ => ∃ (x : V) (ps : List Int) (N : Nat), vs = [x, .int (N : Int)] ∧ IsRow K C H x ps ∧ NumL ps 3 (2 ^ 110) ∧ 0 < ps.sum ∧ 1 ≤ N ∧ N ≤ 10 ^ 30 ∧ ∀ H', Ex H H' → Q (.bl (comeB ps N)) H'
end

local macro_rules | `(tactic| walk_at "rd") => `(tactic| try simp only [r_seq, r_asg, r_name, r_ifS, r_next, r_ret, r_retN, r_drop, r_test, r_B, r_if, r_cons, r_nil, r_cb, r_tF, r_part, r_nopart, r_sl, r_par, r_chain, r_or, r_and, r_not, r_orV, r_andV, r_notV, r_op, r_un, r_var, r_c, r_yes, r_I0, r_I, r_U, r_eqI, r_neI, r_eqS, r_neS, r_lst, r_tup, r_for, r_lc, r_list, r_tupI, r_rng1, r_rng2, r_enumT, r_bm, r_fld, r_subT, r_gtup, r_gcons, r_gnil, r_K0, r_K, r_Kb, r_Kbb, wipe, r_never, not_true_eq_false, not_false_eq_true, Int.zero_add, r_counts, r_draws, r_rates, r_row, r_len, r_sfld, r_zipB, r_revT, r_tW, r_seqI, r_m0, r_m1, r_js0, r_js, r_fmt, r_revN, r_rng3, r_enumL, r_text, r_rowV, r_dict, r_din, r_dput, r_readX, r_FX9, r_dget2,
  L2.start, List.map_cons, List.map_nil, List.length_cons, List.length_nil, Nat.reduceAdd, Nat.reduceSub, List.reduceReplicate, List.cons_append, List.nil_append, List.set_cons_zero, List.set_cons_succ, List.getElem?_cons_zero, List.getElem?_cons_succ, Option.some.injEq, exists_eq_left', exists_eq_left, exists_eq_right, exists_eq_right', V.int.injEq, V.ref.injEq, V.bl.injEq, V.str.injEq, List.cons.injEq, and_true, true_and, and_false, false_and, or_false, false_or, exists_false, exists_const, and_assoc, reduceCtorEq, if_true, if_false, Bool.false_eq_true, Bool.not_true, Bool.not_false, Bool.not_eq_true', decide_eq_true_eq, decide_eq_false_iff_not, exists_and_left, exists_and_right, exists_eq_or_imp])
section
variable {P : Program} {w : World} {K : PySem.W.Frag} {mg : Str → Option Value} {base : Heap}
open SX
/-! ### wishes -/
theorem r_any0 {xs : List V} {H : Hp} {Q : VK} : rAny K xs H Q = ∃ (a : Addr) (bs : List Bool), xs = [V.ref a] ∧ SqL K H a (bs.map V.bl) ∧ Q (.bl (bs.any id)) H := rfl
theorem r_all0 {xs : List V} {H : Hp} {Q : VK} : rAll K xs H Q = ∃ (a : Addr) (bs : List Bool), xs = [V.ref a] ∧ SqL K H a (bs.map V.bl) ∧ Q (.bl (bs.all id)) H := rfl
theorem r_inIT {x y : V} {H : Hp} {Q : VK} : rInIT K x y H Q = ∃ (p : Addr) (i : Int) (ns : List Int), x = .int i ∧ y = .ref p ∧ SqT K H p (ns.map V.int) ∧ Q (.bl (ns.any fun n => n == i)) H := rfl
theorem r_inST {x y : V} {H : Hp} {Q : VK} : rInST K x y H Q = ∃ (p : Addr) (z : Str) (ns : List Str), x = .str z ∧ y = .ref p ∧ SqT K H p (ns.map V.str) ∧ Q (.bl (ns.any fun n => n == z)) H := rfl
theorem r_star1 {t : TGs} {v : V} {σ : L2.St} {H : Hp} {Q : L2.St → Hp → Prop} : gStar1 K t v σ H Q = ∃ a x r, v = .ref a ∧ SqT K H a (x :: r) ∧ ∀ p, H p = none → t [x, .ref p] σ (upd H p (.lst r)) Q := rfl
theorem r_unl {n : Nat} {t : TGs} {v : V} {σ : L2.St} {H : Hp} {Q : L2.St → Hp → Prop} : gUnl K n t v σ H Q = ∃ a xs, v = .ref a ∧ SqL K H a xs ∧ xs.length = n ∧ t xs σ H Q := rfl
end

local macro_rules | `(tactic| walk_at "rd") => `(tactic| try simp only [r_seq, r_asg, r_name, r_ifS, r_next, r_ret, r_retN, r_drop, r_test, r_B, r_if, r_cons, r_nil, r_cb, r_tF, r_part, r_nopart, r_sl, r_par, r_chain, r_or, r_and, r_not, r_orV, r_andV, r_notV, r_op, r_un, r_var, r_c, r_yes, r_I0, r_I, r_U, r_eqI, r_neI, r_eqS, r_neS, r_lst, r_tup, r_for, r_lc, r_list, r_tupI, r_rng1, r_rng2, r_enumT, r_bm, r_fld, r_subT, r_gtup, r_gcons, r_gnil, r_K0, r_K, r_Kb, r_Kbb, wipe, r_never, not_true_eq_false, not_false_eq_true, Int.zero_add, r_counts, r_draws, r_rates, r_row, r_len, r_sfld, r_zipB, r_revT, r_tW, r_seqI, r_m0, r_m1, r_js0, r_js, r_fmt, r_revN, r_rng3, r_enumL, r_text, r_rowV, r_dict, r_din, r_dput, r_readX, r_FX9, r_dget2, r_any0, r_all0, r_inIT, r_inST, r_star1, r_unl,
  L2.start, List.map_cons, List.map_nil, List.length_cons, List.length_nil, Nat.reduceAdd, Nat.reduceSub, List.reduceReplicate, List.cons_append, List.nil_append, List.set_cons_zero, List.set_cons_succ, List.getElem?_cons_zero, List.getElem?_cons_succ, Option.some.injEq, exists_eq_left', exists_eq_left, exists_eq_right, exists_eq_right', V.int.injEq, V.ref.injEq, V.bl.injEq, V.str.injEq, List.cons.injEq, and_true, true_and, and_false, false_and, or_false, false_or, exists_false, exists_const, and_assoc, reduceCtorEq, if_true, if_false, Bool.false_eq_true, Bool.not_true, Bool.not_false, Bool.not_eq_true', decide_eq_true_eq, decide_eq_false_iff_not, exists_and_left, exists_and_right, exists_eq_or_imp])
section
variable {P : Program} {w : World} {K : PySem.W.Frag} {mg : Str → Option Value} {base : Heap}
open SX
inductive Wish
  | alw
  | com (k : Nat)
  | mis (k : Nat)
  | lik (y t b : Nat)
def WishAt (K : PySem.W.Frag) (H : Hp) (x : V) : Wish → Prop
  | .alw => ∃ p, x = .ref p ∧ SqT K H p [.str "always"]
  | .com k => ∃ p, x = .ref p ∧ SqT K H p [.str "comes", .int (k : Int)]
  | .mis k => ∃ p, x = .ref p ∧ SqT K H p [.str "misses", .int (k : Int)]
  | .lik y t b => ∃ p q, x = .ref p ∧ SqT K H p [.str "likely", .int (y : Int), .ref q] ∧ SqT K H q [.int (t : Int), .int (b : Int)]
theorem WishAt.kp {H H' : Hp} {x : V} {i : Wish} (h : WishAt K H x i) (e : Ex H H') : WishAt K H' x i := by
  cases i with
  | alw =>
    obtain ⟨p, rfl, h⟩ := h
    exact ⟨p, rfl, sqT_kp h e.kp⟩
  | com k =>
    obtain ⟨p, rfl, h⟩ := h
    exact ⟨p, rfl, sqT_kp h e.kp⟩
  | mis k =>
    obtain ⟨p, rfl, h⟩ := h
    exact ⟨p, rfl, sqT_kp h e.kp⟩
  | lik y t b =>
    obtain ⟨p, q, rfl, h, h2⟩ := h
    exact ⟨p, q, rfl, sqT_kp h e.kp, sqT_kp h2 e.kp⟩
def WOk : Wish → Prop
  | .alw => True
  | .com k => 0 < k ∧ k < 1000
  | .mis k => 0 < k ∧ k < 1000
  | .lik y t b => y < 1000 ∧ 0 < b ∧ Nat.gcd t b = 1 ∧ t < 1000 ∧ b < 1000
/-! ### is_fraction of a pair that is one -/
def spFrN (K : PySem.W.Frag) : Sp := fun vs H Q _ => ∃ (q : Addr) (t b : Nat), vs = [.ref q] ∧ SqT K H q [.int (t : Int), .int (b : Int)] ∧ 0 < b ∧ Nat.gcd t b = 1 ∧ Q (.bl true) H
theorem has_frN (B : Bi mg) (c_gcd : mg "gcd" = some (.builtin "math.gcd")) (his_whole : Has P w K mg base "is_whole" 1 ["value"] spWhole) (D : Df K mg "is_fraction" (top 13) ["value"]) : Has P w K mg base "is_fraction" 2 ["value"] (spFrN K) := by
  have sc : FnScope ["value", "top", "bottom"] ["value"] (defScope (top 13)) := ⟨rfl, rfl, rfl, by decide +kernel, rfl, by decide +kernel, by decide +kernel⟩
  refine .of D fun f fd F => F.ok sc (fun vs H Q E h => ?_) (fun cdv A outer s H vs Q E hr h => ?_)
  · obtain ⟨q, t, b, rfl, _⟩ := h
    rfl
  · obtain ⟨q, t, b, rfl, ha, b0, hg, k⟩ := h
    refine ⟨_, (pss_cons (ps_if (PW.pt (pw_or (pt_not (pt_val (pe_callB (kIsi (K := K)) (by rfl) B.isinstance (by decide +kernel) (pa_cons (pv 0) (pa_cons (pe_bltn (v := .ty "tuple") (by rfl) B.tuple (by decide +kernel) rfl) pa_nil))))) (pw_or1 (pt_cmpR op_ne (pe_callB (kLen (K := K)) (by rfl) B.len (by decide +kernel) (pa_cons (pv 0) pa_nil)) pe_int (nomark _))))) (pss_one (ps_ret pe_bl)) pss_nil)
      (pss_cons (ps_asg (pv 0) (pg_tup rfl (pgs_cons (pg_name (i := 1) sc.nd rfl (by first | exact Or.inl rfl | exact Or.inr rfl)) (pgs_cons (pg_name (i := 2) sc.nd rfl (by first | exact Or.inl rfl | exact Or.inr rfl)) pgs_nil))))
      (pss_one (ps_ret (pe_and (pe_has his_whole (hr.mono (by decide)) (pa_cons (pv 1) pa_nil)) (pe_and (pe_has his_whole (hr.mono (by decide)) (pa_cons (pv 2) pa_nil)) (pe_and (pe_cmpR op_gt (pv 2) pe_int (nomark _)) (pe_one (pe_cmpR op_eq (pe_callBfun cr_gcd (by rfl) c_gcd (pa_cons (pv 1) (pa_cons (pv 2) pa_nil))) pe_int (nomark _)))))))))), ?_⟩
    walk_at "rd"
    refine ⟨_, _, _, _, true, rfl, .ty "tuple", ty_tup ha, kit_ty (by decide +kernel), true, rfl, ?_⟩
    rw [if_neg (by decide)]
    refine ⟨_, .inr ha, ?_⟩
    rw [if_neg (by simp)]
    refine ⟨_, ha, rfl, ?_⟩
    walk_at "rd"
    refine ⟨_, rfl, ?_⟩
    walk_at "rd"
    refine ⟨_, rfl, ?_⟩
    walk_at "rd"
    rw [if_pos (by omega)]
    refine ⟨_, _, rfl, ?_⟩
    walk_at "rd"
    rw [Int.natAbs_natCast, Int.natAbs_natCast, hg]
    exact k
/-! ### is_wish of a wish -/
def spIsWish (K : PySem.W.Frag) : Sp := fun vs H Q _ => ∃ (x : V) (i : Wish), vs = [x] ∧ WishAt K H x i ∧ WOk i ∧ ∀ H', Ex H H' → Q (.bl true) H'
theorem has_wish (B : Bi mg) (his_whole : Has P w K mg base "is_whole" 1 ["value"] spWhole) (his_fraction : Has P w K mg base "is_fraction" 2 ["value"] (spFrN K)) (D : Df K mg "is_wish" (top 47) ["value"]) : Has P w K mg base "is_wish" 3 ["value"] (spIsWish K) := by
  have sc : FnScope ["value", "kind", "more"] ["value"] (defScope (top 47)) := ⟨rfl, rfl, rfl, by decide +kernel, rfl, by decide +kernel, by decide +kernel⟩
  refine .of D fun f fd F => F.ok sc (fun vs H Q E h => ?_) (fun cdv A outer s H vs Q E hr h => ?_)
  · obtain ⟨x, i, rfl, _⟩ := h
    rfl
  · obtain ⟨x, i, rfl, hx, ok, k⟩ := h
    refine ⟨_, (pss_cons (ps_if (PW.pt (pw_or (pt_not (pt_val (pe_callB (kIsi (K := K)) (by rfl) B.isinstance (by decide +kernel) (pa_cons (pv 0) (pa_cons (pe_bltn (v := .ty "tuple") (by rfl) B.tuple (by decide +kernel) rfl) pa_nil))))) (pw_or (pt_cmpR op_eq (pe_callB (kLen (K := K)) (by rfl) B.len (by decide +kernel) (pa_cons (pv 0) pa_nil)) pe_int (nomark _)) (pw_or1 (pt_not (pt_val (pe_callB (kIsi (K := K)) (by rfl) B.isinstance (by decide +kernel) (pa_cons (pe_ix (ixT (K := K)) (pv 0) pe_int (fun _ _ => rfl)) (pa_cons (pe_bltn (v := .ty "str") (by rfl) B.str (by decide +kernel) rfl) pa_nil))))))))) (pss_one (ps_ret pe_bl)) pss_nil)
      (pss_cons (ps_asg (pv 0) (pg_star1 rfl (pgs_cons (pg_name (i := 1) sc.nd rfl (by first | exact Or.inl rfl | exact Or.inr rfl)) (pgs_cons (pg_name (i := 2) sc.nd rfl (by first | exact Or.inl rfl | exact Or.inr rfl)) pgs_nil))))
      (pss_cons (ps_if (pt_cmpR op_eq (pv 1) pe_str (nomark _)) (pss_one (ps_ret (pe_cmpR op_eq (pe_callB (kLen (K := K)) (by rfl) B.len (by decide +kernel) (pa_cons (pv 2) pa_nil)) pe_int (nomark _)))) pss_nil)
      (pss_cons (ps_if (pt_cmpR (kInST (K := K)) (pv 1) (pe_tupN (pa_cons pe_str (pa_cons pe_str pa_nil))) (by rfl)) (pss_one (ps_ret (pe_and (pe_cmpR op_eq (pe_callB (kLen (K := K)) (by rfl) B.len (by decide +kernel) (pa_cons (pv 2) pa_nil)) pe_int (nomark _)) (pe_and (pe_has his_whole (hr.mono (by decide)) (pa_cons (pe_ix (ixL (K := K)) (pv 2) pe_int (fun _ _ => rfl)) pa_nil)) (pe_one (pe_cmpR op_gt (pe_ix (ixL (K := K)) (pv 2) pe_int (fun _ _ => rfl)) pe_int (nomark _))))))) pss_nil)
      (pss_cons (ps_if (pt_cmpR op_eq (pv 1) pe_str (nomark _)) (pss_one (ps_ret (pe_and (pe_cmpR op_eq (pe_callB (kLen (K := K)) (by rfl) B.len (by decide +kernel) (pa_cons (pv 2) pa_nil)) pe_int (nomark _)) (pe_and (pe_has his_whole (hr.mono (by decide)) (pa_cons (pe_ix (ixL (K := K)) (pv 2) pe_int (fun _ _ => rfl)) pa_nil)) (pe_and (pe_cmpR op_ge (pe_ix (ixL (K := K)) (pv 2) pe_int (fun _ _ => rfl)) pe_int (nomark _)) (pe_one (pe_has his_fraction (hr.mono (by decide)) (pa_cons (pe_ix (ixL (K := K)) (pv 2) pe_int (fun _ _ => rfl)) pa_nil)))))))) pss_nil)
      (pss_one (ps_ret pe_bl))))))), ?_⟩
    cases i with
    | alw =>
      obtain ⟨p, rfl, hS⟩ := hx
      walk_at "rd"
      refine ⟨_, _, _, _, true, rfl, .ty "tuple", ty_tup hS, kit_ty (by decide +kernel), true, rfl, ?_⟩
      rw [if_neg (by decide)]
      refine ⟨_, .inr hS, ?_⟩
      rw [if_neg (by simp)]
      refine q_ixT hS (v := .str "always") rfl ?_
      walk_at "rd"
      refine ⟨_, _, _, _, true, rfl, .ty "str", .base (.str _), kit_ty (by decide +kernel), true, rfl, ?_⟩
      rw [if_neg (by decide)]
      refine ⟨_, _, hS, fun L hL => ?_⟩
      walk_at "rd"
      refine ⟨[], .inl (.of upd_same), ?_⟩
      exact k _ (Ex.new hL)
    | com n =>
      obtain ⟨p, rfl, hS⟩ := hx
      walk_at "rd"
      refine ⟨_, _, _, _, true, rfl, .ty "tuple", ty_tup hS, kit_ty (by decide +kernel), true, rfl, ?_⟩
      rw [if_neg (by decide)]
      refine ⟨_, .inr hS, ?_⟩
      rw [if_neg (by simp)]
      refine q_ixT hS (v := .str "comes") rfl ?_
      walk_at "rd"
      refine ⟨_, _, _, _, true, rfl, .ty "str", .base (.str _), kit_ty (by decide +kernel), true, rfl, ?_⟩
      rw [if_neg (by decide)]
      refine ⟨_, _, hS, fun L hL => ?_⟩
      walk_at "rd"
      refine ⟨by decide, fun T G nT eT hT => ?_⟩
      walk_at "rd"
      refine ⟨["comes", "misses"], .of hT, ?_⟩
      have hL2 := eT _ _ (upd_same (H := H) (a := L))
      have e2 := (Ex.new hL).trans eT
      rw [if_pos (by decide)]
      refine ⟨[V.int (n : Int)], .inl (.of hL2), ?_⟩
      rw [if_pos (by simp)]
      refine q_ixL (.of hL2) (v := .int (n : Int)) rfl ⟨_, rfl, ?_⟩
      walk_at "rd"
      refine q_ixL (.of hL2) (v := .int (n : Int)) rfl ?_
      walk_at "rd"
      rw [show decide ((0 : Int) < (n : Int)) = true from decide_eq_true (by have := ok.1; omega)]
      exact k _ e2
    | mis n =>
      obtain ⟨p, rfl, hS⟩ := hx
      walk_at "rd"
      refine ⟨_, _, _, _, true, rfl, .ty "tuple", ty_tup hS, kit_ty (by decide +kernel), true, rfl, ?_⟩
      rw [if_neg (by decide)]
      refine ⟨_, .inr hS, ?_⟩
      rw [if_neg (by simp)]
      refine q_ixT hS (v := .str "misses") rfl ?_
      walk_at "rd"
      refine ⟨_, _, _, _, true, rfl, .ty "str", .base (.str _), kit_ty (by decide +kernel), true, rfl, ?_⟩
      rw [if_neg (by decide)]
      refine ⟨_, _, hS, fun L hL => ?_⟩
      walk_at "rd"
      refine ⟨by decide, fun T G nT eT hT => ?_⟩
      walk_at "rd"
      refine ⟨["comes", "misses"], .of hT, ?_⟩
      have hL2 := eT _ _ (upd_same (H := H) (a := L))
      have e2 := (Ex.new hL).trans eT
      rw [if_pos (by decide)]
      refine ⟨[V.int (n : Int)], .inl (.of hL2), ?_⟩
      rw [if_pos (by simp)]
      refine q_ixL (.of hL2) (v := .int (n : Int)) rfl ⟨_, rfl, ?_⟩
      walk_at "rd"
      refine q_ixL (.of hL2) (v := .int (n : Int)) rfl ?_
      walk_at "rd"
      rw [show decide ((0 : Int) < (n : Int)) = true from decide_eq_true (by have := ok.1; omega)]
      exact k _ e2
    | lik y t b =>
      obtain ⟨p, q, rfl, hS, hS2⟩ := hx
      obtain ⟨_, b0, hg, _⟩ := ok
      walk_at "rd"
      refine ⟨_, _, _, _, true, rfl, .ty "tuple", ty_tup hS, kit_ty (by decide +kernel), true, rfl, ?_⟩
      rw [if_neg (by decide)]
      refine ⟨_, .inr hS, ?_⟩
      rw [if_neg (by simp)]
      refine q_ixT hS (v := .str "likely") rfl ?_
      walk_at "rd"
      refine ⟨_, _, _, _, true, rfl, .ty "str", .base (.str _), kit_ty (by decide +kernel), true, rfl, ?_⟩
      rw [if_neg (by decide)]
      refine ⟨_, _, hS, fun L hL => ?_⟩
      walk_at "rd"
      refine ⟨by decide, fun T G nT eT hT => ?_⟩
      walk_at "rd"
      refine ⟨["comes", "misses"], .of hT, ?_⟩
      have hL2 := eT _ _ (upd_same (H := H) (a := L))
      have e2 := (Ex.new hL).trans eT
      rw [if_neg (by decide)]
      have hL3 : SqL K G L [V.int (y : Int), V.ref q] := .of hL2
      refine ⟨_, .inl hL3, ?_⟩
      rw [if_pos (by simp)]
      refine q_ixL hL3 (v := .int (y : Int)) rfl ⟨_, rfl, ?_⟩
      walk_at "rd"
      refine q_ixL hL3 (v := .int (y : Int)) rfl ?_
      walk_at "rd"
      rw [if_pos (by omega)]
      refine q_ixL hL3 (v := .ref q) rfl ?_
      exact ⟨q, t, b, rfl, sqT_kp hS2 e2.kp, b0, hg, k _ e2⟩
end

section
variable {P : Program} {w : World} {K : PySem.W.Frag} {mg : Str → Option Value} {base : Heap}
open SX
/-! ### does_hold -/
def holdB (ps : List Int) : Wish → Bool
  | .alw => alwB ps 2
  | .com k => comeB ps k
  | .mis k => !comeB ps k
  | .lik y t b => decide ((t : Int) * ps.sum ≤ ps.getD y 0 * (b : Int))
def RowTwo (ps : List Int) : Prop := NumL ps 3 1000 ∧ 0 < ps.sum
def spHold (K : PySem.W.Frag) (C : Addr) : Sp := fun vs H Q _ => ∃ (x v : V) (ps : List Int) (i : Wish), vs = [x, v] ∧ IsRow K C H x ps ∧ RowTwo ps ∧ WishAt K H v i ∧ WOk i ∧ ∀ H', Ex H H' → Q (.bl (holdB ps i)) H'
theorem has_hold {C : Addr} (B : Bi mg) (RT : RowT P w K mg base C) (halways : Has P w K mg base "always" 7 ["row"] (spAlways K C)) (hdoes_come : Has P w K mg base "does_come" 7 ["row", "slips"] (spDoes K C)) (D : Df K mg "does_hold" (top 48) ["row", "wish"]) : Has P w K mg base "does_hold" 8 ["row", "wish"] (spHold K C) := by
  have sc : FnScope ["row", "wish", "kind", "more", "yes", "top", "bottom", "count"] ["row", "wish"] (defScope (top 48)) := ⟨rfl, rfl, rfl, by decide +kernel, rfl, by decide +kernel, by decide +kernel⟩
  refine .of D fun f fd F => F.ok sc (fun vs H Q E h => ?_) (fun cdv A outer s H vs Q E hr h => ?_)
  · obtain ⟨x, v, ps, i, rfl, _⟩ := h
    rfl
  · obtain ⟨x, v, ps, i, rfl, hrow, ⟨hn, h0⟩, hx, ok, k⟩ := h
    have hn110 : NumL ps 3 (2 ^ 110) := hn.mono (by decide)
    have p1000 : ∀ n : Nat, n < 1000 → n < 2 ^ 1000 := fun n h => Nat.lt_of_lt_of_le h (Nat.le_trans (show 1000 ≤ 2 ^ 10 by decide) (Nat.pow_le_pow_right (by decide) (by decide)))
    refine ⟨_, (pss_cons (ps_asg (pv 1) (pg_star1 rfl (pgs_cons (pg_name (i := 2) sc.nd rfl (by first | exact Or.inl rfl | exact Or.inr rfl)) (pgs_cons (pg_name (i := 3) sc.nd rfl (by first | exact Or.inl rfl | exact Or.inr rfl)) pgs_nil))))
      (pss_cons (ps_if (pt_cmpR op_eq (pv 2) pe_str (nomark _)) (pss_one (ps_ret (pe_has halways (hr.mono (by decide)) (pa_cons (pv 0) pa_nil)))) pss_nil)
      (pss_cons (ps_if (pt_cmpR op_eq (pv 2) pe_str (nomark _)) (pss_one (ps_ret (pe_has hdoes_come (hr.mono (by decide)) (pa_cons (pv 0) (pa_cons (pe_ix (ixL (K := K)) (pv 3) pe_int (fun _ _ => rfl)) pa_nil))))) pss_nil)
      (pss_cons (ps_if (pt_cmpR op_eq (pv 2) pe_str (nomark _)) (pss_one (ps_ret (pe_not (pe_has hdoes_come (hr.mono (by decide)) (pa_cons (pv 0) (pa_cons (pe_ix (ixL (K := K)) (pv 3) pe_int (fun _ _ => rfl)) pa_nil)))))) pss_nil)
      (pss_cons (ps_asg (pv 3) (pg_unl rfl (pgs_cons (pg_name (i := 4) sc.nd rfl (by first | exact Or.inl rfl | exact Or.inr rfl)) (pgs_cons (pg_tup rfl (pgs_cons (pg_name (i := 5) sc.nd rfl (by first | exact Or.inl rfl | exact Or.inr rfl)) (pgs_cons (pg_name (i := 6) sc.nd rfl (by first | exact Or.inl rfl | exact Or.inr rfl)) pgs_nil))) pgs_nil))))
      (pss_cons (ps_set (i := 7) sc.nd rfl (by first | exact Or.inl rfl | exact Or.inr rfl) (PE.mon (pe_ifExp (pt_cmpR op_le (pv 4) (kDraws RT (hr.mono (by decide)) (pv 0)) (nomark _)) (pe_ix (ixT (K := K)) (kCounts RT (hr.mono (by decide)) (pv 0)) (pv 4) (fun _ _ => rfl)) pe_int)))
      (pss_one (ps_ret (pe_cmpR op_ge (pe_op op_mulS (pv 7) (pv 6)) (pe_op op_mulS (pv 5) (pe_callB (kSum (K := K) rfl) (by rfl) B.sum (by decide +kernel) (pa_cons (kCounts RT (hr.mono (by decide)) (pv 0)) pa_nil))) (nomark _)))))))))), ?_⟩
    cases i with
    | alw =>
      obtain ⟨p, rfl, hS⟩ := hx
      walk_at "rd"
      refine ⟨_, _, hS, fun L hL => ?_⟩
      walk_at "rd"
      exact ⟨x, ps, 2, rfl, hrow.kp (Ex.new hL).kp, hn110, by decide, by decide, fun H' e => k _ ((Ex.new hL).trans e)⟩
    | com n =>
      obtain ⟨p, rfl, hS⟩ := hx
      walk_at "rd"
      refine ⟨_, _, hS, fun L hL => ?_⟩
      have hL2 : SqL K (upd H L (HO.lst [V.int (n : Int)])) L [V.int (n : Int)] := .of upd_same
      have eL : Ex H (upd H L (HO.lst [V.int (n : Int)])) := Ex.new hL
      generalize upd H L (HO.lst [V.int (n : Int)]) = G at *
      walk_at "rd"
      rw [if_neg (by decide)]
      try rw [if_pos (by decide)]
      refine q_ixL hL2 (v := .int (n : Int)) rfl ?_
      exact ⟨x, ps, n, rfl, hrow.kp eL.kp, hn110, h0, p1000 n ok.2, fun H' e => k _ (eL.trans e)⟩
    | mis n =>
      obtain ⟨p, rfl, hS⟩ := hx
      walk_at "rd"
      refine ⟨_, _, hS, fun L hL => ?_⟩
      have hL2 : SqL K (upd H L (HO.lst [V.int (n : Int)])) L [V.int (n : Int)] := .of upd_same
      have eL : Ex H (upd H L (HO.lst [V.int (n : Int)])) := Ex.new hL
      generalize upd H L (HO.lst [V.int (n : Int)]) = G at *
      walk_at "rd"
      rw [if_neg (by decide), if_neg (by decide)]
      refine q_ixL hL2 (v := .int (n : Int)) rfl ?_
      refine ⟨x, ps, n, rfl, hrow.kp eL.kp, hn110, h0, p1000 n ok.2, fun H' e => ?_⟩
      walk_at "rd"
      exact k _ (eL.trans e)
    | lik y t b => 
      obtain ⟨p, q, rfl, hS, hS2⟩ := hx
      obtain ⟨y1, b0, hg, t1, b1⟩ := ok
      walk_at "rd"
      refine ⟨_, _, hS, fun L hL => ?_⟩
      have hL2 : SqL K (upd H L (HO.lst [V.int (y : Int), V.ref q])) L [V.int (y : Int), V.ref q] := .of upd_same
      have eL : Ex H (upd H L (HO.lst [V.int (y : Int), V.ref q])) := Ex.new hL
      generalize upd H L (HO.lst [V.int (y : Int), V.ref q]) = G at *
      walk_at "rd"
      rw [if_neg (by decide), if_neg (by decide), if_neg (by decide)]
      refine ⟨_, hL2, rfl, ?_⟩
      walk_at "rd"
      refine ⟨_, sqT_kp hS2 eL.kp, rfl, ?_⟩
      walk_at "rd"
      obtain ⟨R0, hR⟩ : ∃ R : VK, R = fun v G' => Ex G G' ∧ v = .int (ps.getD y 0) := ⟨_, rfl⟩
      refine ⟨R0, ?_, fun v G' h => ?_⟩
      · walk_at "rd"
        refine ⟨ps, hrow.kp eL.kp, ?_⟩
        have lps := hn.1
        by_cases hy : y < 3
        · rw [if_pos (by omega)]
          refine ⟨ps, hrow.kp eL.kp, fun z ⟨a, ez, hz⟩ => ?_⟩
          subst ez
          obtain ⟨c, hc, _⟩ := hn.get hy
          refine q_ixT hz (at_num hc) ?_
          rw [hR]
          exact ⟨Ex.refl _, by rw [getD_get hc]⟩
        · rw [if_neg (by omega), hR]
          exact ⟨Ex.refl _, by rw [List.getD_eq_getElem?_getD, List.getElem?_eq_none (by omega)]; rfl⟩
      · rw [hR] at h
        obtain ⟨eG, rfl⟩ := h
        walk_at "rd"
        have dy : 0 ≤ ps.getD y 0 ∧ ps.getD y 0 ≤ 1000 := by
          by_cases hy : y < 3
          · obtain ⟨c, hc, c0, c1⟩ := hn.get hy
            rw [getD_get hc]
            exact ⟨c0, c1⟩
          · rw [List.getD_eq_getElem?_getD, List.getElem?_eq_none (by have := hn.1; omega)]
            exact ⟨by decide, by decide⟩
        refine ⟨cmulR, ps, hrow.kp (eL.trans eG).kp, fun z ⟨a, ez, hz⟩ => ?_⟩
        subst ez
        refine ⟨_, _, rfl, .inr hz, ?_⟩
        walk_at "rd"
        refine ⟨cmulL, ?_⟩
        walk_at "rd"
        exact k _ (eL.trans eG)
end

section
variable {P : Program} {w : World} {K : PySem.W.Frag} {mg : Str → Option Value} {base : Heap}
open SX
/-! ### _check_wishes, _check_changes, _has_part -/
def WishesAt (K : PySem.W.Frag) (H : Hp) (xs : List V) (ws : List Wish) : Prop := xs.length = ws.length ∧ ∀ (i : Nat) x, xs[i]? = some x → ∃ c, ws[i]? = some c ∧ WishAt K H x c
theorem WishesAt.kp {H H' : Hp} {xs : List V} {ws : List Wish} (h : WishesAt K H xs ws) (e : Ex H H') : WishesAt K H' xs ws := ⟨h.1, fun i x hx => let ⟨c, h1, h2⟩ := h.2 i x hx; ⟨c, h1, h2.kp e⟩⟩
def spCkW (K : PySem.W.Frag) : Sp := fun vs H Q _ => ∃ (p : Addr) (xs : List V) (ws : List Wish), vs = [.ref p] ∧ SqT K H p xs ∧ WishesAt K H xs ws ∧ (∀ c ∈ ws, WOk c) ∧ ∀ H', Ex H H' → Q .non H'
theorem has_ckW (B : Bi mg) (his_wish : Has P w K mg base "is_wish" 3 ["value"] (spIsWish K)) (D : Df K mg "_check_wishes" (top 49) ["wishes"]) : Has P w K mg base "_check_wishes" 4 ["wishes"] (spCkW K) := by
  have sc : FnScope ["wishes", "index", "wish"] ["wishes"] (defScope (top 49)) := ⟨rfl, rfl, rfl, by decide +kernel, rfl, by decide +kernel, by decide +kernel⟩
  refine .of D fun f fd F => F.ok sc (fun vs H Q E h => ?_) (fun cdv A outer s H vs Q E hr h => ?_)
  · obtain ⟨p, xs, ws, rfl, _⟩ := h
    rfl
  · obtain ⟨p, xs, ws, rfl, hS, hxs, ok, k⟩ := h
    refine ⟨_, (pss_cons (ps_if (pt_not (pt_val (pe_callB (kIsi (K := K)) (by rfl) B.isinstance (by decide +kernel) (pa_cons (pv 0) (pa_cons (pe_bltn (v := .ty "tuple") (by rfl) B.tuple (by decide +kernel) rfl) pa_nil))))) (pss_one ps_never) pss_nil)
      (pss_one (ps_for PassesOwn.never rfl (pi_enumT (by rfl) B.enumerate (pa_cons (pv 0) pa_nil)) (pg_tup rfl (pgs_cons (pg_name (i := 1) sc.nd rfl (by first | exact Or.inl rfl | exact Or.inr rfl)) (pgs_cons (pg_name (i := 2) sc.nd rfl (by first | exact Or.inl rfl | exact Or.inr rfl)) pgs_nil)))
      (pss_one (ps_if (pt_not (pt_val (pe_has his_wish (hr.mono (by decide)) (pa_cons (pv 2) pa_nil)))) (pss_one ps_never) pss_nil))))), ?_⟩
    walk_at "rd"
    refine ⟨_, _, _, _, true, rfl, .ty "tuple", ty_tup hS, kit_ty (by decide +kernel), true, rfl, ?_⟩
    rw [if_neg (by decide)]
    obtain ⟨Pv, hP⟩ : ∃ Pv : Nat → L2.St → Hp → Prop, Pv = fun i σ' G => Ex H G ∧ ∃ z3 z4 : Option V, σ' = [some (.ref p), z3, z4] := ⟨_, rfl⟩
    refine ⟨⟨_, hS⟩, loopE (xs := xs) Pv (by rw [hP]; exact ⟨Ex.refl _, _, _, rfl⟩) (fun i σ' G _ h => by rw [hP] at h; exact sqT_kp hS h.1.kp) ?_ ?_⟩
    · intro i x σ' G T G2 hx h e2 hT
      rw [hP] at h
      obtain ⟨eG, z3, z4, rfl⟩ := h
      obtain ⟨c, hc, hch⟩ := hxs.2 i x hx
      walk_at "rd"
      refine ⟨_, .of hT, rfl, ?_⟩
      walk_at "rd"
      refine ⟨x, c, rfl, hch.kp (eG.trans e2), ok c (List.mem_of_getElem? hc), fun H3 e3 => ⟨true, rfl, ?_⟩⟩
      rw [if_neg (by decide), hP]
      exact ⟨(eG.trans e2).trans e3, _, _, rfl⟩
    · intro σ' G h
      rw [hP] at h
      obtain ⟨eG, z3, z4, rfl⟩ := h
      exact k _ eG
def ChgsAt (K : PySem.W.Frag) (H : Hp) (xs : List V) (cs : List (Nat × List Nat)) : Prop := xs.length = cs.length ∧ ∀ (i : Nat) x, xs[i]? = some x → ∃ c, cs[i]? = some c ∧ ChgAt K H x c
theorem ChgsAt.kp {H H' : Hp} {xs : List V} {ws : List (Nat × List Nat)} (h : ChgsAt K H xs ws) (e : Ex H H') : ChgsAt K H' xs ws := ⟨h.1, fun i x hx => let ⟨c, h1, h2⟩ := h.2 i x hx; ⟨c, h1, h2.kp e⟩⟩
def ChgOk (n : Nat) (cs : List (Nat × List Nat)) : Prop := ∀ c ∈ cs, c.1 < n ∧ 10 ∉ c.2 ∧ c.2.length ≤ 1000
def spCkC (K : PySem.W.Frag) (C : Addr) : Sp := fun vs H Q _ => ∃ (x : V) (ps : List Int) (p : Addr) (xs : List V) (cs : List (Nat × List Nat)), vs = [x, .ref p] ∧ IsRow K C H x ps ∧ 1 ≤ ps.length ∧ SqT K H p xs ∧ ChgsAt K H xs cs ∧ cs.length ≤ 6 ∧ ChgOk (ps.length + 1) cs ∧ ∀ H', Ex H H' → Q .non H'
theorem has_ckC {C : Addr} (B : Bi mg) (RT : RowT P w K mg base C) {t6 : PySem.Tok} (c_MOST_CHANGES : mg "MOST_CHANGES" = some (.int 6 t6)) (his_change : Has P w K mg base "is_change" 2 ["value", "lines"] (spIsChange K)) (D : Df K mg "_check_changes" (top 50) ["row", "changes"]) : Has P w K mg base "_check_changes" 4 ["row", "changes"] (spCkC K C) := by
  have sc : FnScope ["row", "changes", "index", "change"] ["row", "changes"] (defScope (top 50)) := ⟨rfl, rfl, rfl, by decide +kernel, rfl, by decide +kernel, by decide +kernel⟩
  refine .of D fun f fd F => F.ok sc (fun vs H Q E h => ?_) (fun cdv A outer s H vs Q E hr h => ?_)
  · obtain ⟨x, ps, p, xs, cs, rfl, _⟩ := h
    rfl
  · obtain ⟨x, ps, p, xs, cs, rfl, hrow, l1, hS, hxs, l6, ok, k⟩ := h
    refine ⟨_, (pss_cons (ps_if (pt_not (pt_val (pe_callB (kIsi (K := K)) (by rfl) B.isinstance (by decide +kernel) (pa_cons (pv 1) (pa_cons (pe_bltn (v := .ty "tuple") (by rfl) B.tuple (by decide +kernel) rfl) pa_nil))))) (pss_one ps_never) pss_nil)
      (pss_one (ps_for PassesOwn.never rfl (pi_enumT (by rfl) B.enumerate (pa_cons (pv 1) pa_nil)) (pg_tup rfl (pgs_cons (pg_name (i := 2) sc.nd rfl (by first | exact Or.inl rfl | exact Or.inr rfl)) (pgs_cons (pg_name (i := 3) sc.nd rfl (by first | exact Or.inl rfl | exact Or.inr rfl)) pgs_nil)))
      (pss_one (ps_if (PW.pt (pw_or (pt_cmpR op_ge (pv 2) (pe_glob (v := .int 6) rfl c_MOST_CHANGES ⟨_, rfl⟩) (nomark _)) (pw_or1 (pt_not (pt_val (pe_has his_change (hr.mono (by decide)) (pa_cons (pv 3) (pa_cons (pe_op op_add (kDraws RT (hr.mono (by decide)) (pv 0)) pe_int) pa_nil)))))))) (pss_one ps_never) pss_nil))))), ?_⟩
    walk_at "rd"
    refine ⟨_, _, _, _, true, rfl, .ty "tuple", ty_tup hS, kit_ty (by decide +kernel), true, rfl, ?_⟩
    rw [if_neg (by decide)]
    obtain ⟨Pv, hP⟩ : ∃ Pv : Nat → L2.St → Hp → Prop, Pv = fun i σ' G => Ex H G ∧ ∃ z3 z4 : Option V, σ' = [some x, some (.ref p), z3, z4] := ⟨_, rfl⟩
    refine ⟨⟨_, hS⟩, loopE (xs := xs) Pv (by rw [hP]; exact ⟨Ex.refl _, _, _, rfl⟩) (fun i σ' G _ h => by rw [hP] at h; exact sqT_kp hS h.1.kp) ?_ ?_⟩
    · intro i y σ' G T G2 hx h e2 hT
      rw [hP] at h
      obtain ⟨eG, z3, z4, rfl⟩ := h
      obtain ⟨c, hc, hch⟩ := hxs.2 i y hx
      obtain ⟨q, rfl, hq⟩ := hch.kp (eG.trans e2)
      have hi := (List.getElem?_eq_some_iff.mp hc).1
      obtain ⟨cn, c10, cl⟩ := ok c (List.mem_of_getElem? hc)
      walk_at "rd"
      refine ⟨_, .of hT, rfl, ?_⟩
      walk_at "rd"
      rw [if_neg (by omega)]
      refine ⟨ps, hrow.kp (eG.trans e2).kp, q, _, _, c.2, rfl, hq, by omega, by omega, c10, cl, true, rfl, ?_⟩
      rw [if_neg (by decide), hP]
      exact ⟨eG.trans e2, _, _, rfl⟩
    · intro σ' G h
      rw [hP] at h
      obtain ⟨eG, z3, z4, rfl⟩ := h
      exact k _ eG
theorem bls_of {α : Type} {L : List α} {f : α → Bool} {ys : List V} (hl : ys.length = L.length) (h : ∀ (i : Nat) y, ys[i]? = some y → ∃ r, L[i]? = some r ∧ y = .bl (f r)) : ys = (L.map f).map V.bl := by
  apply List.ext_getElem?
  intro i
  rw [List.getElem?_map, List.getElem?_map]
  by_cases hi : i < ys.length
  · obtain ⟨r, hr, e⟩ := h i _ (List.getElem?_eq_getElem hi)
    rw [List.getElem?_eq_getElem hi, hr, e]
    rfl
  · rw [List.getElem?_eq_none (by omega), List.getElem?_eq_none (by omega)]
    rfl
theorem any_idm {α : Type} {L : List α} {f : α → Bool} : (L.map f).any id = L.any f := by simp [List.any_map, Function.comp_def]
theorem all_idm {α : Type} {L : List α} {f : α → Bool} : (L.map f).all id = L.all f := by simp [List.all_map, Function.comp_def]
def partB (l r : List Nat) : Bool := r.all fun i => decide (i ∈ l)
def spHasPart (K : PySem.W.Frag) : Sp := fun vs H Q _ => ∃ (q p : Addr) (l : List Nat) (L : List (List Nat)), vs = [.ref q, .ref p] ∧ SqT K H q (natsV l) ∧ IsLT H p L ∧ L.length ≤ 1000 ∧ (∀ r ∈ L, r.length ≤ 1000) ∧ l.length ≤ 1000 ∧ ∀ H', Ex H H' → Q (.bl (L.any (partB l))) H'
theorem has_hasPart (B : Bi mg) (z_any : mg "any" = none) (D : Df K mg "_has_part" (top 51) ["some", "found"]) : Has P w K mg base "_has_part" 1 ["some", "found"] (spHasPart K) := by
  have sc : FnScope ["some", "found", "index", "part"] ["some", "found"] (defScope (top 51)) := ⟨rfl, rfl, rfl, by decide +kernel, rfl, by decide +kernel, by decide +kernel⟩
  refine .of D fun f fd F => F.ok sc (fun vs H Q E h => ?_) (fun cdv A outer s H vs Q E hr h => ?_)
  · obtain ⟨q, p, l, L, rfl, _⟩ := h
    rfl
  · obtain ⟨q, p, l, L, rfl, hq, hp, l1, l2, l3, k⟩ := h
    obtain ⟨acc, hacc, alen, hat⟩ := hp
    refine ⟨_, (pss_one (ps_ret (pe_callB (kAny (K := K) rfl) (by rfl) z_any (by decide +kernel) (pa_cons (pe_lc (own := [("part", 3)]) (g := gName 3) (tt := tYes) rfl sc.nd (pi_list (pv 1)) (blkOk_by (N := (["some", "found", "index", "part"] : List Str)) (sc := defScope (top 51)) (by decide +kernel)) (fun _ _ _ _ _ => (pg_name (i := 3) sc.nd rfl (by first | exact Or.inl rfl | exact Or.inr rfl))) (fun _ _ _ _ _ => pts_nil) (fun _ _ _ _ _ => (PE.mon (pe_callB (kAll (K := K) rfl) (by rfl) B.all (by decide +kernel) (pa_cons (pe_lc (own := [("index", 2)]) (g := gName 2) (tt := tYes) rfl sc.nd (kPiT (K := K) (pv 3)) (blkOk_by (by kernel_rfl)) (fun _ _ _ _ _ => (pg_name (i := 2) sc.nd rfl (by first | exact Or.inl rfl | exact Or.inr rfl))) (fun _ _ _ _ _ => pts_nil) (fun _ _ _ _ _ => (PE.mon (pe_cmpR (kInT (K := K)) (pv 2) (pv 0) (by rfl))))) pa_nil))))) pa_nil)))), ?_⟩
    walk_at "rd"
    refine ⟨⟨_, .of hacc⟩, fun Dd hD => lcLn (fun i y _ => ∃ r, L[i]? = some r ∧ y = .bl (partB l r)) (fun _ _ _ _ _ h => h) hD (.of hacc) (by omega) (fun _ => rfl) ?_ ?_⟩
    · intro i x H2 hx e
      have hi : i < L.length := by
        have := (List.getElem?_eq_some_iff.mp hx).1
        omega
      obtain ⟨a, ha, hr2⟩ := hat i L[i] (List.getElem?_eq_getElem hi)
      rw [ha] at hx
      cases hx
      obtain ⟨R0, hR⟩ : ∃ R : VK, R = fun v H' => Ex H2 H' ∧ v = .bl (partB l L[i]) := ⟨_, rfl⟩
      refine ⟨R0, ?_, fun v H' h => by rw [hR] at h; exact ⟨h.1, _, List.getElem?_eq_getElem hi, h.2⟩⟩
      walk_at "rd"
      have haH := e _ _ hr2
      refine ⟨⟨_, .of haH⟩, fun D2 hD2 => lcTn (fun j y _ => ∃ z, (L[i])[j]? = some z ∧ y = .bl (decide (z ∈ l))) (fun _ _ _ _ _ h => h) hD2 (.of haH) (by have := l2 _ (List.getElem_mem hi); rw [natsV, List.length_map]; omega) (fun _ => rfl) ?_ ?_⟩
      · intro j y H3 hy e3
        unfold natsV at hy
        rw [List.getElem?_map] at hy
        cases hz : (L[i])[j]? with
        | none =>
          rw [hz] at hy
          cases hy
        | some z =>
          rw [hz] at hy
          cases hy
          obtain ⟨R1, hR1⟩ : ∃ R : VK, R = fun v H' => Ex H3 H' ∧ v = .bl (decide (z ∈ l)) := ⟨_, rfl⟩
          refine ⟨R1, ?_, fun v H' h => by rw [hR1] at h; exact ⟨h.1, _, rfl, h.2⟩⟩
          walk_at "rd"
          refine ⟨l.map fun i : Nat => (i : Int), ?_, ?_⟩
          · have := sqT_kp hq (e.trans e3).kp
            unfold natsV at this
            rw [List.map_map]
            exact this
          · rw [hR1]
            refine ⟨Ex.refl _, ?_⟩
            rw [List.any_map]
            congr 1
            apply Bool.eq_iff_iff.mpr
            simp
            exact ⟨fun ⟨u, hu, eu⟩ => (show u = z by omega) ▸ hu, fun h => ⟨z, h, rfl⟩⟩
      · intro H3 ys e3 hys lys hr3
        refine ⟨D2, rfl, (L[i]).map fun z => decide (z ∈ l), ?_, ?_⟩
        · rw [← bls_of (f := fun z => decide (z ∈ l)) (by rw [lys, natsV, List.length_map]) hr3]
          exact .of hys
        · rw [hR, all_idm]
          exact ⟨e3, rfl⟩
    · intro H2 ys e hys lys hr2
      refine ⟨Dd, rfl, L.map (partB l), ?_, ?_⟩
      · rw [← bls_of (f := partB l) (by rw [lys, alen]) hr2]
        exact .of hys
      · rw [any_idm]
        exact k _ e
end

section
variable {P : Program} {w : World} {K : PySem.W.Frag} {mg : Str → Option Value} {base : Heap}
open SX
/-! ### _mend -/
def toldI (ks : List Nat) : List Int := ks.map fun c : Nat => (c : Int)
def mendB (ps : List Int) (cs : List (Nat × List Nat)) (ws : List Wish) : Bool :=
  if (againM 0 [] cs).isSome then false else
    match toldM (linesOf (newM cs ps)) with
    | none => false
    | some ks => ws.all (holdB (plainL (toldI ks)))
def MendOk (ps : List Int) (cs : List (Nat × List Nat)) : Prop := WordsOk (linesOf (newM cs ps)) ∧ (againM 0 [] cs = none → ∀ ks, toldM (linesOf (newM cs ps)) = some ks → RowOk (toldI ks) ∧ RowTwo (plainL (toldI ks)))
def spMendS (K : PySem.W.Frag) (C : Addr) : Sp := fun vs H Q _ => ∃ (x : V) (ps : List Int) (pw p : Addr) (ys xs : List V) (ws : List Wish) (cs : List (Nat × List Nat)), vs = [x, .ref pw, .ref p] ∧ IsRow K C H x ps ∧ RowSm ps ∧ SqT K H pw ys ∧ WishesAt K H ys ws ∧ (∀ c ∈ ws, WOk c) ∧ ws.length ≤ 1000 ∧
  SqL K H p xs ∧ ChgsAt K H xs cs ∧ ChgOk (ps.length + 1) cs ∧ cs.length ≤ 1000 ∧ MendOk ps cs ∧ ∀ H', Ex H H' → Q (.bl (mendB ps cs ws)) H'
theorem has_mend {C CI CT : Addr} (B : Bi mg) (RG : RowG P w K mg base C CI CT) (c_InvalidChanges : mg "InvalidChanges" = some (.ref CI)) (c_InvalidText : mg "InvalidText" = some (.ref CT))
    (ex1 : PySem.W.exmAny K (.ref CI) [.ref CI, .ref CT] = some true) (ex2 : PySem.W.exmAny K (.ref CT) [.ref CI, .ref CT] = some true)
    (hdoes_hold : Has P w K mg base "does_hold" 8 ["row", "wish"] (spHold K C)) (D : Df K mg "_mend" (top 52) ["row", "wishes", "changes"]) : Has P w K mg base "_mend" 10 ["row", "wishes", "changes"] (spMendS K C) := by
  have sc : FnScope ["row", "wishes", "changes", "changed", "wish"] ["row", "wishes", "changes"] (defScope (top 52)) := ⟨rfl, rfl, rfl, by decide +kernel, rfl, by decide +kernel, by decide +kernel⟩
  refine .of D fun f fd F => F.ok sc (fun vs H Q E h => ?_) (fun cdv A outer s H vs Q E hr h => ?_)
  · obtain ⟨x, ps, pw, p, ys, xs, ws, cs, rfl, _⟩ := h
    rfl
  · obtain ⟨x, ps, pw, p, ys, xs, ws, cs, rfl, hrow, hsm, hW, hws, wok, wl, hS, hcs, cok, cl, mok, k⟩ := h
    refine ⟨_, (pss_cons (ps_try_onlyL rfl rfl ⟨rfl, by decide, .inl c_InvalidChanges⟩ ⟨rfl, by decide, .inl c_InvalidText⟩ LamX.takes0 (fun W pn xe tkW _ => pss_one (ps_set (i := 3) sc.nd rfl (by first | exact Or.inl rfl | exact Or.inr rfl) (kChangedW RG tkW (hr.mono (by decide)) (pv 0) (pa_cons (pe_callTy (kTuple (K := K)) (by rfl) B.tuple (by decide +kernel) (pa_cons (pv 2) pa_nil)) pa_nil)))) (fun a oe cls d pn _ _ => pss_one (ps_ret pe_bl)))
      (pss_one (ps_ret (pe_callB (kAll (K := K) rfl) (by rfl) B.all (by decide +kernel) (pa_cons (pe_lc (own := [("wish", 4)]) (g := gName 4) (tt := tYes) rfl sc.nd (pi_tup (pv 1)) (blkOk_by (N := (["row", "wishes", "changes", "changed", "wish"] : List Str)) (sc := defScope (top 52)) (by decide +kernel)) (fun _ _ _ _ _ => (pg_name (i := 4) sc.nd rfl (by first | exact Or.inl rfl | exact Or.inr rfl))) (fun _ _ _ _ _ => pts_nil) (fun _ _ _ _ _ => (PE.mon (pe_has hdoes_hold (hr.mono (by decide)) (pa_cons (pv 3) (pa_cons (pv 4) pa_nil)))))) pa_nil))))), ?_⟩
    walk_at "rd"
    refine ⟨fun cls d H' => (cls = .ref CI ∨ cls = .ref CT) ∧ Ex H H' ∧ mendB ps cs ws = false, ?_, ?_⟩
    · intro cls d σ' H' ⟨hc, e, hm⟩
      have ex : PySem.W.exmAny K cls [.ref CI, .ref CT] = some true := by
        rcases hc with rfl | rfl
        · exact ex1
        · exact ex2
      exact ⟨true, ex, (fun z => nomatch z), fun _ a na => hm ▸ k _ e⟩
    rw [r_changed]
    walk_at "rd"
    have hrow0 := hrow
    obtain ⟨a, dx, q, rfl, hA, hqS⟩ := hrow0
    have hne : (("changed" : Str) == ("_counts" : Str)) = false := by decide
    refine ⟨a, rfl, dx, _, hA, by simp only [List.lookup, hne], ?_⟩
    refine ⟨p, xs, rfl, hS, fun T G n1 e1 t1 => ?_⟩
    refine ⟨_, ps, T, xs, cs, rfl, hrow.kp e1.kp, hsm, .of t1, hcs.1, cl, (hcs.kp e1).2, cok, mok.1, fun ha => ⟨fun ks hk => ?_, fun hn d G' e2 _ => ⟨.inr rfl, e1.trans e2, ?_⟩⟩, fun i ha d G' e2 _ => ⟨.inl rfl, e1.trans e2, ?_⟩⟩
    · obtain ⟨rok, two⟩ := mok.2 ha ks hk
      refine ⟨rok, fun y G2 e2 hy => ?_⟩
      have hm : mendB ps cs ws = ws.all (holdB (plainL (toldI ks))) := by
        unfold mendB
        rw [ha, hk]
        rfl
      walk_at "rd"
      have e12 := e1.trans e2
      have hW2 := sqT_kp hW e12.kp
      refine ⟨⟨_, hW2⟩, fun Dd hD => lcTn (fun i v _ => ∃ c, ws[i]? = some c ∧ v = .bl (holdB (plainL (toldI ks)) c)) (fun _ _ _ _ _ h => h) hD hW2 (by have := hws.1; omega) (fun _ => rfl) ?_ ?_⟩
      · intro i v H3 hv e3
        obtain ⟨c, hc, hch⟩ := hws.2 i v hv
        obtain ⟨R1, hR1⟩ : ∃ R : VK, R = fun v H' => Ex H3 H' ∧ v = .bl (holdB (plainL (toldI ks)) c) := ⟨_, rfl⟩
        refine ⟨R1, ?_, fun v H' h => by rw [hR1] at h; exact ⟨h.1, _, hc, h.2⟩⟩
        walk_at "rd"
        refine ⟨y, v, plainL (toldI ks), c, rfl, hy.kp e3.kp, two, hch.kp (e12.trans e3), wok c (List.mem_of_getElem? hc), fun H' e' => ?_⟩
        rw [hR1]
        exact ⟨e', rfl⟩
      · intro H3 zs e3 hzs lzs hr3
        refine ⟨Dd, rfl, ws.map (holdB (plainL (toldI ks))), ?_, ?_⟩
        · rw [← bls_of (f := holdB (plainL (toldI ks))) (by rw [lzs, hws.1]) hr3]
          exact .of hzs
        · rw [all_idm, ← hm]
          exact k _ (e12.trans e3)
    · unfold mendB
      rw [ha, hn]
      rfl
    · unfold mendB
      rw [ha]
      rfl
end

section
variable {P : Program} {w : World} {K : PySem.W.Frag} {mg : Str → Option Value} {base : Heap}
open SX
/-! ### mends -/
def pickC (cs : List (Nat × List Nat)) (l : List Nat) : List (Nat × List Nat) := l.map fun i => cs.getD i (0, [])
def stepF (F : List Nat → Bool) (L : List (List Nat)) (l : List Nat) : List (List Nat) := if !(L.any (partB l)) && F l then L ++ [l] else L
def mendsF (n : Nat) (F : List Nat → Bool) : List (List Nat) := ((List.range (n + 1)).map (chF n)).foldl (fun L M => M.foldl (stepF F) L) []
/-- a tuple of tuples of small numbers -/
def IsTT (H : Hp) (p : Addr) (L : List (List Nat)) : Prop := ∃ acc, H p = some (.tup acc) ∧ AccT H acc L
def spMends (K : PySem.W.Frag) (C : Addr) : Sp := fun vs H Q _ => ∃ (x : V) (ps : List Int) (pw p : Addr) (ys xs : List V) (ws : List Wish) (cs : List (Nat × List Nat)), vs = [x, .ref pw, .ref p] ∧ IsRow K C H x ps ∧ 1 ≤ ps.length ∧ RowSm ps ∧ SqT K H pw ys ∧ WishesAt K H ys ws ∧ (∀ c ∈ ws, WOk c) ∧ ws.length ≤ 1000 ∧
  SqT K H p xs ∧ ChgsAt K H xs cs ∧ ChgOk (ps.length + 1) cs ∧ cs.length ≤ 6 ∧ (∀ m ≤ cs.length, ∀ l ∈ chF cs.length m, MendOk ps (pickC cs l)) ∧ ∀ q H', Ex H H' → IsTT H' q (mendsF cs.length fun l => mendB ps (pickC cs l) ws) → Q (.ref q) H'
def foldM (n : Nat) (F : List Nat → Bool) (m : Nat) : List (List Nat) := ((List.range m).map (chF n)).foldl (fun L M => M.foldl (stepF F) L) []
theorem foldM_succ (n : Nat) (F : List Nat → Bool) (m : Nat) : foldM n F (m + 1) = (chF n m).foldl (stepF F) (foldM n F m) := by
  unfold foldM
  rw [List.range_succ, List.map_append, List.foldl_append]
  rfl
theorem fold_take (F : List Nat → Bool) (M L0 : List (List Nat)) {i : Nat} {l : List Nat} (h : M[i]? = some l) : (M.take (i + 1)).foldl (stepF F) L0 = stepF F ((M.take i).foldl (stepF F) L0) l := by
  rw [List.take_add_one, h, List.foldl_append]
  rfl
theorem step_sz {F : List Nat → Bool} {L : List (List Nat)} {l : List Nat} {n : Nat} (h : L.length ≤ n ∧ ∀ r ∈ L, r.length ≤ 6) (hl : l.length ≤ 6) : (stepF F L l).length ≤ n + 1 ∧ ∀ r ∈ stepF F L l, r.length ≤ 6 := by
  unfold stepF
  split
  · refine ⟨by rw [List.length_append, List.length_singleton]; omega, fun r hr => ?_⟩
    rcases List.mem_append.mp hr with hr | hr
    · exact h.2 r hr
    · rw [List.mem_singleton.mp hr]
      exact hl
  · exact ⟨by omega, h.2⟩
theorem has_mends {C : Addr} (B : Bi mg) (hcheck_row : Has P w K mg base "check_row" 1 ["row"] (spCheckRow K C)) (h_check_wishes : Has P w K mg base "_check_wishes" 4 ["wishes"] (spCkW K)) (h_check_changes : Has P w K mg base "_check_changes" 4 ["row", "changes"] (spCkC K C))
    (hchoices : Has P w K mg base "choices" 1 ["most", "many"] spChoices) (h_has_part : Has P w K mg base "_has_part" 1 ["some", "found"] (spHasPart K)) (h_mend : Has P w K mg base "_mend" 10 ["row", "wishes", "changes"] (spMendS K C))
    (D : Df K mg "mends" (top 46) ["row", "wishes", "changes"]) : Has P w K mg base "mends" 11 ["row", "wishes", "changes"] (spMends K C) := by
  have sc : FnScope ["row", "wishes", "changes", "found", "many", "some", "index"] ["row", "wishes", "changes"] (defScope (top 46)) := ⟨rfl, rfl, rfl, by decide +kernel, rfl, by decide +kernel, by decide +kernel⟩
  refine .of D fun f fd F => F.ok sc (fun vs H Q E h => ?_) (fun cdv A outer s H vs Q E hr h => ?_)
  · obtain ⟨x, ps, pw, p, ys, xs, ws, cs, rfl, _⟩ := h
    rfl
  · obtain ⟨x, ps, pw, p, ys, xs, ws, cs, rfl, hrow, l1, hsm, hW, hws, wok, wl, hS, hcs, cok, cl, mok, k⟩ := h
    refine ⟨_, (pss_cons (ps_expr (pe_has hcheck_row (hr.mono (by decide)) (pa_cons (pv 0) pa_nil)))
      (pss_cons (ps_expr (pe_has h_check_wishes (hr.mono (by decide)) (pa_cons (pv 1) pa_nil)))
      (pss_cons (ps_expr (pe_has h_check_changes (hr.mono (by decide)) (pa_cons (pv 0) (pa_cons (pv 2) pa_nil))))
      (pss_cons (ps_set (i := 3) sc.nd rfl (by first | exact Or.inl rfl | exact Or.inr rfl) (pe_lstN pa_nil))
      (pss_cons (ps_for PassesOwn.never rfl (pi_range1 (by rfl) B.range (pa_cons (pe_op op_add (pe_callB (kLen (K := K)) (by rfl) B.len (by decide +kernel) (pa_cons (pv 2) pa_nil)) pe_int) pa_nil)) (pg_name (i := 4) sc.nd rfl (by first | exact Or.inl rfl | exact Or.inr rfl))
      (pss_one (ps_for PassesOwn.never rfl (pi_list (pe_has hchoices (hr.mono (by decide)) (pa_cons (pe_callB (kLen (K := K)) (by rfl) B.len (by decide +kernel) (pa_cons (pv 2) pa_nil)) (pa_cons (pv 4) pa_nil)))) (pg_name (i := 5) sc.nd rfl (by first | exact Or.inl rfl | exact Or.inr rfl))
      (pss_one (ps_if (PW.pt (pw_and (pt_not (pt_val (pe_has h_has_part (hr.mono (by decide)) (pa_cons (pv 5) (pa_cons (pv 3) pa_nil))))) (pw_and1 (pt_val (pe_has h_mend (hr.mono (by decide)) (pa_cons (pv 0) (pa_cons (pv 1) (pa_cons (pe_lc (own := [("index", 6)]) (g := gName 6) (tt := tYes) rfl sc.nd (pi_tup (pv 5)) (blkOk_by (N := (["row", "wishes", "changes", "found", "many", "some", "index"] : List Str)) (sc := defScope (top 46)) (by decide +kernel)) (fun _ _ _ _ _ => (pg_name (i := 6) sc.nd rfl (by first | exact Or.inl rfl | exact Or.inr rfl))) (fun _ _ _ _ _ => pts_nil) (fun _ _ _ _ _ => (PE.mon (pe_ix (ixT (K := K)) (pv 2) (pv 6) (fun _ _ => rfl))))) pa_nil)))))))) (pss_one (ps_expr (pe_bm PySem.F.plainAttrs_list PySem.F.slot_list_append PySem.F.type_list_append mt_append (pv 3) (pa_cons (pv 5) pa_nil)))) pss_nil)))))
      (pss_one (ps_ret (pe_callTy (kTuple (K := K)) (by rfl) B.tuple (by decide +kernel) (pa_cons (pv 3) pa_nil))))))))), ?_⟩
    walk_at "rd"
    refine ⟨x, ps, rfl, hrow, ?_⟩
    walk_at "rd"
    refine ⟨pw, ys, ws, rfl, hW, hws, wok, fun H1 e1 => ?_⟩
    walk_at "rd"
    refine ⟨x, ps, p, xs, cs, rfl, hrow.kp e1.kp, l1, sqT_kp hS e1.kp, hcs.kp e1, cl, cok, fun H2 e2 => ?_⟩
    walk_at "rd"
    obtain ⟨Ff, hF⟩ : ∃ Ff : List Nat → Bool, Ff = fun l => mendB ps (pickC cs l) ws := ⟨_, rfl⟩
    have hxl := hcs.1
    have e12 := e1.trans e2
    refine ⟨by decide, fun fl G0 nf e0 hf => ?_⟩
    obtain ⟨Pv, hP⟩ : ∃ Pv : Nat → L2.St → Hp → Prop, Pv = fun m σ' G => Ex H2 G ∧ ∃ (acc : List V) (z4 z5 z6 : Option V), σ' = [some x, some (.ref pw), some (.ref p), some (.ref fl), z4, z5, z6] ∧ G fl = some (.lst acc) ∧ AccT G acc (foldM cs.length Ff m) ∧ (foldM cs.length Ff m).length ≤ 20 * m ∧ ∀ r ∈ foldM cs.length Ff m, r.length ≤ 6 := ⟨_, rfl⟩
    refine ⟨xs, .inr (sqT_kp hS (e12.trans e0).kp), by omega, by omega, loopR Pv (by rw [hP]; exact ⟨e0, [], _, _, _, rfl, hf, ⟨rfl, fun i l h => by cases h⟩, Nat.le_refl _, fun r h => by cases h⟩) ?_ ?_⟩
    · intro m σ' G hm h
      rw [hP] at h
      obtain ⟨eG, acc0, z4, z5, z6, rfl, hfl, hacc0, n0, s0⟩ := h
      have hm6 : m ≤ cs.length := by omega
      have chs := ch_small7 cs.length (by omega) m (by omega)
      walk_at "rd"
      refine ⟨xs, .inr (sqT_kp hS (e12.trans eG).kp), cs.length, m, by rw [hxl], by omega, by omega, fun c G1 eC nC ⟨accM, hc, hM⟩ => ?_⟩
      have cfl : c ≠ fl := fun z => by
        rw [z, hfl] at nC
        cases nC
      obtain ⟨P2, hP2⟩ : ∃ Pv : Nat → L2.St → Hp → Prop, Pv = fun i σ' G => Ex H2 G ∧ G c = some (.lst accM) ∧ AccT G accM (chF cs.length m) ∧ ∃ (acc : List V) (z5 z6 : Option V), σ' = [some x, some (.ref pw), some (.ref p), some (.ref fl), some (.int (m : Int)), z5, z6] ∧ G fl = some (.lst acc) ∧
        AccT G acc (((chF cs.length m).take i).foldl (stepF Ff) (foldM cs.length Ff m)) ∧ (((chF cs.length m).take i).foldl (stepF Ff) (foldM cs.length Ff m)).length ≤ 20 * m + i ∧ ∀ r ∈ ((chF cs.length m).take i).foldl (stepF Ff) (foldM cs.length Ff m), r.length ≤ 6 := ⟨_, rfl⟩
      walk_at "rd"
      refine ⟨⟨_, .of hc⟩, loopL (xs := accM) P2 (by rw [hP2]; exact ⟨eG.trans eC, hc, hM, acc0, _, _, rfl, eC _ _ hfl, hacc0.ex (fun _ _ z => eC _ _ z), by simpa using n0, by simpa using s0⟩) (fun i σ G _ h => by rw [hP2] at h; exact .of h.2.1) ?_ ?_⟩
      · intro i v σ2 G2 hv h
        rw [hP2] at h
        obtain ⟨eG2, hc2, hM2, acc, z5, z6, rfl, hfl2, hacc, n2, s2⟩ := h
        have hi : i < (chF cs.length m).length := by
          have := (List.getElem?_eq_some_iff.mp hv).1
          have := hM2.1
          omega
        have hl := List.getElem?_eq_getElem hi
        generalize (chF cs.length m)[i] = l at hl
        obtain ⟨a, ha, hla⟩ := hM2.2 i l hl
        rw [ha] at hv
        cases hv
        have hlm := List.mem_of_getElem? hl
        obtain ⟨ll, lb⟩ := chs.2 l hlm
        have hi20 : i < 20 := by omega
        walk_at "rd"
        generalize hL : ((chF cs.length m).take i).foldl (stepF Ff) (foldM cs.length Ff m) = L at *
        have stp : ((chF cs.length m).take (i + 1)).foldl (stepF Ff) (foldM cs.length Ff m) = stepF Ff L l := by rw [fold_take Ff _ _ hl, hL]
        have ssz := step_sz (F := Ff) (l := l) ⟨n2, s2⟩ (by omega)
        refine ⟨a, fl, l, L, rfl, .of hla, ⟨acc, hfl2, hacc⟩, by omega, fun r hr => by have := s2 r hr; omega, by omega, fun G3 e3 => ?_⟩
        walk_at "rd"
        have hla3 := e3 _ _ hla
        by_cases hp : L.any (partB l) = true
        · rw [if_neg (by rw [hp]; decide), hP2]
          have es : stepF Ff L l = L := by unfold stepF; rw [hp]; rfl
          rw [es] at stp ssz
          try dsimp only
          rw [stp]
          exact ⟨eG2.trans e3, e3 _ _ hc2, hM2.ex (fun _ _ z => e3 _ _ z), acc, _, _, rfl, e3 _ _ hfl2, hacc.ex (fun _ _ z => e3 _ _ z), by omega, s2⟩
        have hp : L.any (partB l) = false := by simpa using hp
        rw [if_pos hp]
        refine ⟨⟨_, .of hla3⟩, fun D2 hD2 => lcTn (fun j y _ => ∃ z, l[j]? = some z ∧ xs[z]? = some y) (fun _ _ _ _ _ h => h) hD2 (.of hla3) (by rw [natsV, List.length_map]; omega) (fun _ => rfl) ?_ ?_⟩
        · intro j y H3 hy e4
          unfold natsV at hy
          rw [List.getElem?_map] at hy
          cases hz : l[j]? with
          | none =>
            rw [hz] at hy
            cases hy
          | some z =>
            rw [hz] at hy
            cases hy
            have zb : z < xs.length := by
              rw [hxl]
              exact lb z (List.mem_of_getElem? hz)
            obtain ⟨R1, hR1⟩ : ∃ R : VK, R = fun v H' => Ex H3 H' ∧ v = xs[z] := ⟨_, rfl⟩
            refine ⟨R1, ?_, fun v H' h => by rw [hR1] at h; exact ⟨h.1, z, rfl, by rw [h.2]; exact List.getElem?_eq_getElem zb⟩⟩
            walk_at "rd"
            refine q_ixT (sqT_kp hS (((e12.trans eG2).trans e3).trans e4).kp) (at_of (j := z) (by simp [ixN]) (List.getElem?_eq_getElem zb)) ?_
            rw [hR1]
            exact ⟨Ex.refl _, rfl⟩
        intro H4 zs e4 hzs lzs hr4
        rw [natsV, List.length_map] at lzs
        have eH4 := ((e12.trans eG2).trans e3).trans e4
        have pat : ∀ (j z : Nat), l[j]? = some z → (pickC cs l)[j]? = some (cs.getD z (0, [])) := fun j z hz => by
          unfold pickC
          rw [List.getElem?_map, hz]
          rfl
        have cat : ∀ z, z ∈ l → cs[z]? = some (cs.getD z (0, [])) := fun z hz => by
          rw [List.getD_eq_getElem?_getD, List.getElem?_eq_getElem (lb z hz)]
          rfl
        have pk : ChgsAt K H4 zs (pickC cs l) := by
          refine ⟨by unfold pickC; rw [List.length_map]; exact lzs, fun j y hy => ?_⟩
          obtain ⟨z, hz, hzx⟩ := hr4 j y hy
          obtain ⟨d, hd, hch⟩ := hcs.2 z y hzx
          rw [cat z (List.mem_of_getElem? hz)] at hd
          exact ⟨_, pat j z hz, by cases hd; exact hch.kp eH4⟩
        have pok : ChgOk (ps.length + 1) (pickC cs l) := by
          intro d hd
          unfold pickC at hd
          obtain ⟨z, hz, rfl⟩ := List.mem_map.mp hd
          exact cok _ (List.mem_of_getElem? (cat z hz))
        refine ⟨x, ps, pw, D2, ys, zs, ws, pickC cs l, rfl, hrow.kp eH4.kp, hsm, sqT_kp hW eH4.kp, hws.kp eH4, wok, wl, .of hzs, pk, pok, by unfold pickC; rw [List.length_map]; omega, mok m hm6 l hlm, fun H5 e5 => ?_⟩
        have e35 := (e3.trans e4).trans e5
        have hfl5 := e35 _ _ hfl2
        have mF : mendB ps (pickC cs l) ws = Ff l := by rw [hF]
        rw [mF]
        refine ⟨_, rfl, ?_⟩
        cases hb : Ff l with
        | false =>
          rw [if_neg (by decide), hP2]
          have es : stepF Ff L l = L := by unfold stepF; rw [hp, hb]; rfl
          rw [es] at stp ssz
          try dsimp only
          rw [stp]
          exact ⟨eG2.trans e35, e35 _ _ hc2, hM2.ex (fun _ _ z => e35 _ _ z), acc, _, _, rfl, hfl5, hacc.ex (fun _ _ z => e35 _ _ z), by omega, s2⟩
        | true =>
          have es : stepF Ff L l = L ++ [l] := by unfold stepF; rw [hp, hb]; rfl
          have aln : acc.length = L.length := hacc.1
          rw [if_pos rfl]
          refine ⟨.inl ⟨rfl, _, .of hfl5⟩, fl, acc, .ref a, rfl, rfl, hfl5, Nat.lt_of_le_of_lt (show _ ≤ 1000 by omega) (by decide), ?_⟩
          rw [hP2]
          rw [es] at stp ssz
          try dsimp only
          rw [stp]
          have up : ∀ (b : Addr) (us : List V), H5 b = some (.tup us) → (upd H5 fl (.lst (acc ++ [.ref a]))) b = some (.tup us) := fun b us hb => by
            have : b ≠ fl := fun z => by
              rw [z, hfl5] at hb
              cases hb
            rw [upd_ne this]
            exact hb
          refine ⟨fun b o hb => ?_, ?_, hM2.ex (fun _ _ z => up _ _ (e35 _ _ z)), acc ++ [.ref a], _, _, rfl, upd_same, ?_, by omega, ssz.2⟩
          · rw [upd_ne (ne_of_none hb nf)]
            exact (eG2.trans e35) _ _ hb
          · rw [upd_ne cfl]
            exact e35 _ _ hc2
          · exact (hacc.ex (fun _ _ z => up _ _ (e35 _ _ z))).snoc (up _ _ (e35 _ _ hla))
      · intro σ2 G2 h
        rw [hP2] at h
        obtain ⟨eG2, hc2, hM2, acc, z5, z6, rfl, hfl2, hacc, n2, s2⟩ := h
        have el : accM.length = (chF cs.length m).length := hM2.1
        rw [el, List.take_of_length_le (Nat.le_refl _), ← foldM_succ] at hacc n2 s2
        rw [hP]
        exact ⟨eG2, acc, _, _, _, rfl, hfl2, hacc, by omega, s2⟩
    · intro σ' G h
      rw [hP] at h
      obtain ⟨eG, acc0, z4, z5, z6, rfl, hfl, hacc0, n0, s0⟩ := h
      walk_at "rd"
      refine ⟨fl, acc0, rfl, .of hfl, fun T G3 n3 e3 t3 => ?_⟩
      refine k T G3 (((e1.trans e2).trans eG).trans e3) ⟨acc0, t3, ?_⟩
      have : mendsF cs.length (fun l => mendB ps (pickC cs l) ws) = foldM cs.length Ff ((xs.length : Int) + 1).toNat := by
        rw [hF, show ((xs.length : Int) + 1).toNat = cs.length + 1 by omega]
        rfl
      rw [this]
      exact hacc0.ex (fun _ _ z => e3 _ _ z)
end

section
variable {P : Program} {w : World} {K : PySem.W.Frag} {mg : Str → Option Value} {base : Heap}
/-! ### _law_well, _law_draw -/
def spWell (K : PySem.W.Frag) : Sp := fun vs H Q _ => ∃ (a : Addr) (ns : List Int) (i : Int), vs = [.ref a, .int i] ∧ SqL K H a (ns.map V.int) ∧ ns.length ≤ 63 ∧ 0 ≤ i ∧ i < 100 ∧
  ∀ v H', H v = none → Ex H H' → VatAt H' v → Q (.ref v) H'
theorem scWell : FnScope ["script", "spot", "state", "cell", "own"] ["script", "spot"] (defScope (top 54)) := ⟨rfl, rfl, rfl, by decide +kernel, rfl, by decide +kernel, by decide +kernel⟩
theorem has_well (B : Bi mg) (D : Df K mg "_law_well" (top 54) ["script", "spot"]) : Has P w K mg base "_law_well" 1 ["script", "spot"] (spWell K) := by
  have sc := scWell
  refine .of D fun f fd F => F.ok sc (fun vs H Q E h => ?_) (fun cdv A outer s H vs Q E hr h => ?_)
  · obtain ⟨a, ns, i, rfl, _⟩ := h
    rfl
  · obtain ⟨a, ns, i, rfl, hS, hl, h0, h1, k⟩ := h
    refine ⟨_, (pss_cons (ps_set (i := 2) sc.nd rfl (by first | exact Or.inl rfl | exact Or.inr rfl) (pe_op op_add pe_int (pe_op op_mulS pe_int (pv 1))))
      (pss_cons (ps_for PassesOwn.never rfl (pi_list (pe_op op_catN (pe_slice (slL (K := K)) (pv 0) po_none (po_some pe_int)) (pe_slice (slL (K := K)) (pv 0) (po_some (pv 1)) (po_some (pe_op op_add (pv 1) pe_int))))) (pg_name (i := 3) sc.nd rfl (by first | exact Or.inl rfl | exact Or.inr rfl))
      (pss_one (ps_set (i := 2) sc.nd rfl (by first | exact Or.inl rfl | exact Or.inr rfl) (pe_op op_mod (pe_callTy call_intN (by rfl) B.int (by decide +kernel) (pa_cons (pe_op op_add (pe_op op_add (pe_op op_mulS (pv 2) pe_int) (pv 3)) pe_int) pa_nil)) pe_int))))
      (pss_cons (ps_set (i := 4) sc.nd rfl (by first | exact Or.inl rfl | exact Or.inr rfl) (PE.mon (pe_ifExp (pt_cmpR op_lt (pv 1) (pe_callB (kLen (K := K)) (by rfl) B.len (by decide +kernel) (pa_cons (pv 0) pa_nil)) (nomark _)) (pe_ix (ixL (K := K)) (pv 0) (pv 1) (fun _ _ => rfl)) pe_int)))
      (pss_one (ps_ret (pe_lstN (pa_cons (pv 2) (pa_cons pe_int (pa_cons (PE.mon (pe_ifExp (pt_cmpR op_ge (pe_callB call_abs (by rfl) B.abs (by decide +kernel) (pa_cons (pv 4) pa_nil)) (pe_op op_pow pe_int pe_int) (nomark _)) (pe_callB call_abs (by rfl) B.abs (by decide +kernel) (pa_cons (pv 4) pa_nil)) pe_int)) pa_nil))))))))), ?_⟩
    walk_at "rd"
    refine ⟨cmulR, ?_⟩
    refine ⟨a, _, rfl, hS, fun p H1 n1 e1 t1 => ?_⟩
    refine ⟨a, _, rfl, sqL_ex hS e1, fun p2 H2 n2 e2 t2 => ?_⟩
    have lc := cutV_length (ns.map V.int) none (some 4)
    have lc2 := cutV_length (ns.map V.int) (some i) (some (i + 1))
    rw [List.length_map] at lc lc2
    refine ⟨p, p2, _, _, rfl, rfl, e2 _ _ t1, t2, sizeLine_le (by omega), fun p3 H3 n3 e3 t3 => ⟨p3, rfl, ⟨_, .of t3⟩, ?_⟩⟩
    have e13 := (e1.trans e2).trans e3
    obtain ⟨Pv, hP⟩ : ∃ P : Nat → L2.St → Hp → Prop, P = fun j σ' G => G = H3 ∧ ∃ (s : Int) (t u : Option V), σ' = [some (.ref a), some (.int i), some (.int s), t, u] ∧ 0 ≤ s := ⟨_, rfl⟩
    refine loopL (xs := _) Pv (by rw [hP]; exact ⟨rfl, _, _, _, rfl, by omega⟩) (fun j σ' G _ h => by rw [hP] at h; rw [h.1]; exact .of t3) ?_ ?_
    · intro j x σ' G hx h
      rw [hP] at h
      obtain ⟨rfl, s, t, u, rfl, s0⟩ := h
      have hm := List.mem_of_getElem? hx
      have hx2 : ∃ y, x = .int y := by
        rcases List.mem_append.mp hm with q | q
        · exact ints_cut q
        · exact ints_cut q
      obtain ⟨y, rfl⟩ := hx2
      walk_at "rd"
      refine ⟨cmulR, by decide, ?_⟩
      rw [hP]
      exact ⟨rfl, _, _, _, rfl, Int.emod_nonneg _ (by decide)⟩
    · intro σ' G h
      rw [hP] at h
      obtain ⟨rfl, s, t, u, rfl, s0⟩ := h
      walk_at "rd"
      obtain ⟨R0, hR⟩ : ∃ R : VK, R = fun v H' => (∃ z : Int, v = .int z) ∧ H' = G := ⟨_, rfl⟩
      refine ⟨R0, ?_, ?_⟩
      · walk_at "rd"
        refine ⟨_, .inl (sqL_ex hS e13), ?_⟩
        rw [List.length_map]
        split
        · rename_i hi
          obtain ⟨z, _, e⟩ := at_int h0 hi
          refine q_ixL (sqL_ex hS e13) e ?_
          rw [hR]
          exact ⟨⟨z, rfl⟩, rfl⟩
        · rw [hR]
          exact ⟨⟨_, rfl⟩, rfl⟩
      intro x H' hx
      rw [hR] at hx
      obtain ⟨⟨z, rfl⟩, rfl⟩ := hx
      walk_at "rd"
      obtain ⟨R1, hR1⟩ : ∃ R : VK, R = fun v H2' => (∃ q : Int, v = .int q ∧ 0 ≤ q) ∧ H2' = H' := ⟨_, rfl⟩
      refine ⟨R1, ?_, ?_⟩
      · walk_at "rd"
        refine ⟨⟨by decide, by decide, by decide⟩, ?_⟩
        generalize hq : (if z < 0 then -z else z) = q
        have q0 : 0 ≤ q := by
          rw [← hq]
          split <;> omega
        rw [hR1]
        split
        · exact ⟨⟨_, rfl, q0⟩, rfl⟩
        · exact ⟨⟨_, rfl, by decide⟩, rfl⟩
      · intro v H' h
        rw [hR1] at h
        obtain ⟨⟨q, rfl, q0⟩, rfl⟩ := h
        walk_at "rd"
        exact ⟨by decide, fun v H4 n4 e4 t4 => k v H4 (e13.free n4) (e13.trans e4) ⟨s, 0, q, t4, s0, by decide, q0⟩⟩
def spDraw : Sp := fun vs H Q _ => ∃ (v : Addr) (m : Int), vs = [.ref v, .int m] ∧ VatAt H v ∧ 0 < m ∧ m.natAbs.log2 < 9000 ∧
  ∀ r H', Gv v H H' → 0 ≤ r → r < m → Q (.int r) H'
theorem scDraw : FnScope ["well", "many", "digit", "seed"] ["well", "many"] (defScope (top 55)) := ⟨rfl, rfl, rfl, by decide +kernel, rfl, by decide +kernel, by decide +kernel⟩
theorem has_draw (B : Bi mg) (D : Df K mg "_law_draw" (top 55) ["well", "many"]) : Has P w K mg base "_law_draw" 1 ["well", "many"] spDraw := by
  have sc := scDraw
  refine .of D fun f fd F => F.ok sc (fun vs H Q E h => ?_) (fun cdv A outer s H vs Q E hr h => ?_)
  · obtain ⟨v, m, rfl, _⟩ := h
    rfl
  · obtain ⟨v, m, rfl, hv, m0, m1, k⟩ := h
    obtain ⟨a, b, c, hl, a0, b0, c0⟩ := id hv
    refine ⟨_, (pss_cons (ps_if (pt_cmpR op_gt (pe_ix (ixL (K := K)) (pv 0) pe_int (fun _ _ => rfl)) pe_int (nomark _)) (pss_cons (ps_asg (pe_callB call_divmodN (by rfl) B.divmod (by decide +kernel) (pa_cons (pe_ix (ixL (K := K)) (pv 0) pe_int (fun _ _ => rfl)) (pa_cons (pv 1) pa_nil))) (pg_tup rfl (pgs_cons (pg_sub (pv 0) pe_int set_list) (pgs_cons (pg_name (i := 2) sc.nd rfl (by first | exact Or.inl rfl | exact Or.inr rfl)) pgs_nil))))
      (pss_one (ps_ret (pv 2)))) pss_nil)
      (pss_cons (ps_asg (pe_op op_add (pe_ix (ixL (K := K)) (pv 0) pe_int (fun _ _ => rfl)) pe_int) (pg_sub (pv 0) pe_int set_list))
      (pss_cons (ps_set (i := 3) sc.nd rfl (by first | exact Or.inl rfl | exact Or.inr rfl) (pe_callTy call_intN (by rfl) B.int (by decide +kernel) (pa_cons (pe_ix (ixL (K := K)) (pv 0) pe_int (fun _ _ => rfl)) pa_nil)))
      (pss_cons (ps_asg (pe_op op_mod (pe_callTy call_intN (by rfl) B.int (by decide +kernel) (pa_cons (pe_op op_add (pe_op op_add (pe_op op_mulS (pv 3) pe_int) (pe_op op_mulS (pe_ix (ixL (K := K)) (pv 0) pe_int (fun _ _ => rfl)) pe_int)) pe_int) pa_nil)) pe_int) (pg_sub (pv 0) pe_int set_list))
      (pss_one (ps_ret (pe_op op_mod (pe_callTy call_intN (by rfl) B.int (by decide +kernel) (pa_cons (pe_op op_fdivW (pe_ix (ixL (K := K)) (pv 0) pe_int (fun _ _ => rfl)) pe_int) pa_nil)) (pv 1)))))))), ?_⟩
    walk_at "rd"
    refine q_ixL (.of hl) rfl ?_
    walk_at "rd"
    split
    · refine q_ixL (.of hl) rfl ?_
      refine ⟨_, _, rfl, m0, m1, fun p H1 n1 e1 t1 => ⟨p, rfl, _, .of t1, rfl, ?_⟩⟩
      have hv1 := e1 _ _ hl
      walk_at "rd"
      refine ⟨v, _, 2, 2, rfl, rfl, hv1, rfl, ?_⟩
      walk_at "rd"
      refine k _ _ ⟨hv, fun x o n ho => ?_, ⟨_, _, _, upd_same, a0, b0, Int.ediv_nonneg c0 (by omega)⟩⟩ (Int.emod_nonneg _ (by omega)) (Int.emod_lt_of_pos _ m0)
      rw [upd_ne n]
      exact e1 _ _ ho
    · refine q_ixL (.of hl) rfl ?_
      walk_at "rd"
      refine ⟨v, _, 1, 1, rfl, rfl, hl, rfl, ?_⟩
      walk_at "rd"
      have t1 : (upd H v (.lst [.int a, .int (b + 1), .int c])) v = some (.lst [.int a, .int (b + 1), .int c]) := upd_same
      refine q_ixL (.of t1) rfl ?_
      walk_at "rd"
      refine ⟨cmulR, ?_⟩
      refine q_ixL (.of t1) rfl ?_
      walk_at "rd"
      refine ⟨cmulR, by decide, v, _, 0, 0, rfl, rfl, t1, rfl, ?_⟩
      have g0 := Int.emod_nonneg (a * 42013 + (b + 1) * 47017 + 79) (show (2147483629 : Int) ≠ 0 by decide)
      rw [upd_upd]
      refine q_ixL (.of upd_same) rfl ?_
      walk_at "rd"
      refine ⟨⟨by decide, by decide⟩, m0, k _ _ ⟨hv, fun x o n ho => by rw [upd_ne n]; exact ho, ⟨_, _, _, upd_same, g0, by omega, c0⟩⟩ (Int.emod_nonneg _ (by omega)) (Int.emod_lt_of_pos _ m0)⟩
end

section
variable {P : Program} {w : World} {K : PySem.W.Frag} {mg : Str → Option Value} {base : Heap}
open SX
/-! ### the changes and the rows of the law -/
def someC : List (Nat × List Nat) := [(2, [121, 101, 115, 32, 49, 32, 50]), (1, [121, 101, 115, 32, 48, 32, 50]), (3, [121, 101, 115, 32, 50, 32, 50]), (2, [121, 101, 115, 32, 49, 32, 53]), (2, []), (0, [100, 114, 97, 119, 115, 32, 49])]
theorem m_non : (mendsF 6 fun l => mendB [1, 4, 1] (pickC someC l) []) = [[]] := by decide +kernel
theorem m_c4 : (mendsF 6 fun l => mendB [1, 4, 1] (pickC someC l) [.com 4, .mis 5]) = [[]] := by decide +kernel
theorem m_alw : (mendsF 6 fun l => mendB [1, 4, 1] (pickC someC l) [.alw]) = [[0], [1, 2]] := by decide +kernel
theorem m_c8 : (mendsF 6 fun l => mendB [1, 4, 1] (pickC someC l) [.com 8]) = [[0], [1, 2]] := by decide +kernel
theorem m_c5 : (mendsF 6 fun l => mendB [1, 4, 1] (pickC someC l) [.com 5]) = [[0], [1], [2]] := by decide +kernel
theorem m_m3 : (mendsF 6 fun l => mendB [1, 4, 1] (pickC someC l) [.mis 3]) = [[3]] := by decide +kernel
theorem m_m4 : (mendsF 6 fun l => mendB [1, 4, 1] (pickC someC l) [.mis 4]) = [[3]] := by decide +kernel
theorem m_l1 : (mendsF 6 fun l => mendB [1, 4, 1] (pickC someC l) [.lik 1 5 7]) = [[3]] := by decide +kernel
theorem m_l2 : (mendsF 6 fun l => mendB [1, 4, 1] (pickC someC l) [.lik 2 2 7]) = [[2]] := by decide +kernel
theorem m_l4 : (mendsF 6 fun l => mendB [1, 4, 1] (pickC someC l) [.lik 4 1 9]) = [] := by decide +kernel
theorem m_c1 : (mendsF 6 fun l => mendB [1, 4, 1] (pickC someC l) [.com 1, .com 2]) = [] := by decide +kernel
instance (L : List (List Nat)) : Decidable (WordsOk L) := by
  unfold WordsOk
  infer_instance
instance (cs : List Int) : Decidable (RowOk cs) := by
  unfold RowOk
  infer_instance
instance (cs : List Int) : Decidable (RowTwo cs) := by
  unfold RowTwo NumL
  infer_instance
def mendOkB (ps : List Int) (cs : List (Nat × List Nat)) : Bool := decide (WordsOk (linesOf (newM cs ps))) && match toldM (linesOf (newM cs ps)) with
  | none => true
  | some ks => decide (RowOk (toldI ks)) && decide (RowTwo (plainL (toldI ks)))
theorem mendOk_of {ps : List Int} {cs : List (Nat × List Nat)} (h : mendOkB ps cs = true) : MendOk ps cs := by
  unfold mendOkB at h
  rw [Bool.and_eq_true, decide_eq_true_eq] at h
  refine ⟨h.1, fun _ ks hk => ?_⟩
  have h2 := h.2
  rw [hk] at h2
  simpa using h2
theorem some_ok : ∀ m < 7, ∀ l ∈ chF 6 m, mendOkB [1, 4, 1] (pickC someC l) = true := by decide +kernel
theorem by_ok : ∀ b : Nat, b < 100 → 0 < b → RowOk [(b : Int), 4 * b, b] ∧ plainL [(b : Int), 4 * b, b] = [1, 4, 1] := by decide +kernel
/-! ### tuples of tuples of small numbers -/
theorem accT_nil {H : Hp} : AccT H [] [] := ⟨rfl, fun i l h => by cases h⟩
theorem accT_cons {H : Hp} {a : Addr} {l : List Nat} {acc : List V} {L : List (List Nat)} (ha : H a = some (.tup (natsV l))) (h : AccT H acc L) : AccT H (.ref a :: acc) (l :: L) := by
  refine ⟨by simp [h.1], fun i r hr => ?_⟩
  cases i with
  | zero =>
    cases hr
    exact ⟨a, rfl, ha⟩
  | succ i => exact h.2 i r hr
def ttD (L : List (List Nat)) : PyData := .tuple (L.map fun l => .tuple (l.map fun i : Nat => .int (i : Int)))
theorem nats_dp {H : Hp} : ∀ l : List Nat, DpAll K H (natsV l) (l.map fun i : Nat => .int (i : Int))
  | [] => .nil
  | i :: l => .cons (.int _) (nats_dp l)
theorem accT_dp {H : Hp} : ∀ {acc : List V} {L : List (List Nat)}, AccT H acc L → DpAll K H acc (L.map fun l => .tuple (l.map fun i : Nat => .int (i : Int)))
  | [], [], _ => .nil
  | [], _ :: _, h => by
    have := h.1
    simp at this
  | _ :: _, [], h => by
    have := h.1
    simp at this
  | v :: acc, l :: L, h => by
    obtain ⟨a, ha, hl⟩ := h.2 0 l rfl
    cases ha
    exact .cons (.tup (.of hl) (nats_dp l)) (accT_dp ⟨by have := h.1; simpa using this, fun i r hr => h.2 (i + 1) r hr⟩)
theorem IsTT.dp {H : Hp} {q : Addr} {L : List (List Nat)} (h : IsTT H q L) : Dp K H (.ref q) (ttD L) := by
  obtain ⟨acc, h1, h2⟩ := h
  exact .tup (.of h1) (accT_dp h2)
theorem IsTT.kp {H H' : Hp} {q : Addr} {L : List (List Nat)} (h : IsTT H q L) (e : Kp H H') : IsTT H' q L := by
  obtain ⟨acc, h1, h2⟩ := h
  exact ⟨acc, e _ _ h1 (fun _ z => nomatch z), h2.ex fun a xs z => e _ _ z (fun _ y => nomatch y)⟩
/-- mends(mine, wishes, some), asked of a known answer -/
theorem q_mends {C : Addr} {H : Hp} {Q : VK} {E : XK} {x : V} {pw pc : Addr} {ys xs : List V} {ws : List Wish} {L : List (List Nat)} (res : (mendsF 6 fun l => mendB [1, 4, 1] (pickC someC l) ws) = L) (hrow : IsRow K C H x [1, 4, 1]) (hw : SqT K H pw ys) (hws : WishesAt K H ys ws) (wok : ∀ c ∈ ws, WOk c) (wl : ws.length ≤ 1000)
    (hc : SqT K H pc xs) (hca : ChgsAt K H xs someC) (q : ∀ t H', Ex H H' → IsTT H' t L → Q (.ref t) H') : spMends K C [x, .ref pw, .ref pc] H Q E :=
  ⟨x, [1, 4, 1], pw, pc, ys, xs, ws, someC, rfl, hrow, by decide, by refine ⟨by decide, by decide, ?_⟩; decide, hw, hws, wok, wl, hc, hca, by unfold ChgOk; decide, by decide, fun m hm l hl => mendOk_of (some_ok m (by have : someC.length = 6 := rfl; omega) l hl), fun t H' e ht => q t H' e (by rw [← res]; exact ht)⟩
end

section
variable {P : Program} {w : World} {K : PySem.W.Frag} {mg : Str → Option Value} {base : Heap}
open SX
/-! ### _law_right -/
def spRight : Sp := fun vs H Q _ => ∃ v, vs = [.ref v] ∧ VatAt H v ∧ ∀ H', Gv v H H' → Q (.bl true) H'
theorem chg_lit {H : Hp} {p : Addr} {z : Int} {s : Str} {n : Nat} {l : List Nat} (h : H p = some (.tup [.int z, .str s])) (e1 : z = (n : Int)) (e2 : s = S l) : ChgAt K H (.ref p) (n, l) := by
  subst e1 e2
  exact ⟨p, rfl, .of h⟩
structure Amb (K : PySem.W.Frag) (C : Addr) (v : Addr) (H0 : Hp) (mine : V) (sp : Addr) (xs : List V) (H : Hp) : Prop where
  gv : Gv v H0 H
  row : IsRow K C H mine [1, 4, 1]
  sq : SqT K H sp xs
  ch : ChgsAt K H xs someC
theorem Amb.ex {C v : Addr} {H0 H H' : Hp} {mine : V} {sp : Addr} {xs : List V} (A : Amb K C v H0 mine sp xs H) (e : Ex H H') : Amb K C v H0 mine sp xs H' := ⟨A.gv.ex e, A.row.kp e.kp, sqT_kp A.sq e.kp, A.ch.kp e⟩
theorem has_right {C : Addr} (B : Bi mg) (RT : RowT P w K mg base C) (h_law_draw : Has P w K mg base "_law_draw" 1 ["well", "many"] spDraw) (hmends : Has P w K mg base "mends" 11 ["row", "wishes", "changes"] (spMends K C))
    (D : Df K mg "_law_right" (top 56) ["well"]) : HasG P w K mg base "_law_right" 12 ["well"] spRight := by
  have sc : FnScope ["well", "by", "mine", "some", "k"] ["well"] (defScope (top 56)) := ⟨rfl, rfl, rfl, by decide +kernel, rfl, by decide +kernel, by decide +kernel⟩
  refine .of D fun f fd F => okG F sc (fun vs H Q E h => ?_) (fun cdv A outer s H vs Q E hgd hr h => ?_)
  · obtain ⟨v, rfl, _⟩ := h
    rfl
  · obtain ⟨v, rfl, hv, k⟩ := h
    refine ⟨_, (pss_cons (ps_set (i := 1) sc.nd rfl (by first | exact Or.inl rfl | exact Or.inr rfl) (pe_op op_add pe_int (pe_has h_law_draw (hr.mono (by decide)) (pa_cons (pv 0) (pa_cons pe_int pa_nil)))))
      (pss_cons (ps_set (i := 2) sc.nd rfl (by first | exact Or.inl rfl | exact Or.inr rfl) (kRow RT (hr.mono (by decide)) (pa_cons (pe_tupN (pa_cons (pv 1) (pa_cons (pe_op op_mulS pe_int (pv 1)) (pa_cons (pv 1) pa_nil)))) pa_nil)))
      (pss_cons (ps_set (i := 3) sc.nd rfl (by first | exact Or.inl rfl | exact Or.inr rfl) (pe_tupN (pa_cons (pe_tupN (pa_cons pe_int (pa_cons pe_str pa_nil))) (pa_cons (pe_tupN (pa_cons pe_int (pa_cons pe_str pa_nil))) (pa_cons (pe_tupN (pa_cons pe_int (pa_cons pe_str pa_nil))) (pa_cons (pe_tupN (pa_cons pe_int (pa_cons pe_str pa_nil))) (pa_cons (pe_tupN (pa_cons pe_int (pa_cons pe_str pa_nil))) (pa_cons (pe_tupN (pa_cons pe_int (pa_cons pe_str pa_nil))) pa_nil))))))))
      (pss_cons (ps_if (PW.pt (pw_or (pt_cmpR (kNe (K := K) hr.units) (pe_has hmends (hr.mono (by decide)) (pa_cons (pv 2) (pa_cons (pe_tupN pa_nil) (pa_cons (pv 3) pa_nil)))) (pe_tupN (pa_cons (pe_tupN pa_nil) pa_nil)) (nomark _)) (pw_or1 (pt_cmpR (kNe (K := K) hr.units) (pe_has hmends (hr.mono (by decide)) (pa_cons (pv 2) (pa_cons (pe_tupN (pa_cons (pe_tupN (pa_cons pe_str (pa_cons pe_int pa_nil))) (pa_cons (pe_tupN (pa_cons pe_str (pa_cons pe_int pa_nil))) pa_nil))) (pa_cons (pv 3) pa_nil)))) (pe_tupN (pa_cons (pe_tupN pa_nil) pa_nil)) (nomark _))))) (pss_one (ps_ret pe_bl)) pss_nil)
      (pss_cons (ps_if (pt_cmpR (kNe (K := K) hr.units) (pe_has hmends (hr.mono (by decide)) (pa_cons (pv 2) (pa_cons (pe_tupN (pa_cons (pe_tupN (pa_cons pe_str pa_nil)) pa_nil)) (pa_cons (pv 3) pa_nil)))) (pe_tupN (pa_cons (pe_tupN (pa_cons pe_int pa_nil)) (pa_cons (pe_tupN (pa_cons pe_int (pa_cons pe_int pa_nil))) pa_nil))) (nomark _)) (pss_one (ps_ret pe_bl)) pss_nil)
      (pss_cons (ps_if (PW.pt (pw_or (pt_cmpR (kNe (K := K) hr.units) (pe_has hmends (hr.mono (by decide)) (pa_cons (pv 2) (pa_cons (pe_tupN (pa_cons (pe_tupN (pa_cons pe_str (pa_cons pe_int pa_nil))) pa_nil)) (pa_cons (pv 3) pa_nil)))) (pe_tupN (pa_cons (pe_tupN (pa_cons pe_int pa_nil)) (pa_cons (pe_tupN (pa_cons pe_int (pa_cons pe_int pa_nil))) pa_nil))) (nomark _)) (pw_or1 (pt_cmpR (kNe (K := K) hr.units) (pe_has hmends (hr.mono (by decide)) (pa_cons (pv 2) (pa_cons (pe_tupN (pa_cons (pe_tupN (pa_cons pe_str (pa_cons pe_int pa_nil))) pa_nil)) (pa_cons (pv 3) pa_nil)))) (pe_tupN (pa_cons (pe_tupN (pa_cons pe_int pa_nil)) (pa_cons (pe_tupN (pa_cons pe_int pa_nil)) (pa_cons (pe_tupN (pa_cons pe_int pa_nil)) pa_nil)))) (nomark _))))) (pss_one (ps_ret pe_bl)) pss_nil)
      (pss_cons (ps_if (pt_cmpR (kNe (K := K) hr.units) (pe_lc (own := [("k", 4)]) (g := gName 4) (tt := tYes) rfl sc.nd (pi_list (pe_lstN (pa_cons pe_int (pa_cons pe_int pa_nil)))) (blkOk_by (N := (["well", "by", "mine", "some", "k"] : List Str)) (sc := defScope (top 56)) (by decide +kernel)) (fun _ _ _ _ _ => (pg_name (i := 4) sc.nd rfl (by first | exact Or.inl rfl | exact Or.inr rfl))) (fun _ _ _ _ _ => pts_nil) (fun _ _ _ _ _ => (PE.mon (pe_has hmends (hr.mono (by decide)) (pa_cons (pv 2) (pa_cons (pe_tupN (pa_cons (pe_tupN (pa_cons pe_str (pa_cons (pv 4) pa_nil))) pa_nil)) (pa_cons (pv 3) pa_nil))))))) (pe_lstN (pa_cons (pe_tupN (pa_cons (pe_tupN (pa_cons pe_int pa_nil)) pa_nil)) (pa_cons (pe_tupN (pa_cons (pe_tupN (pa_cons pe_int pa_nil)) pa_nil)) pa_nil))) (nomark _)) (pss_one (ps_ret pe_bl)) pss_nil)
      (pss_cons (ps_if (PW.pt (pw_or (pt_cmpR (kNe (K := K) hr.units) (pe_has hmends (hr.mono (by decide)) (pa_cons (pv 2) (pa_cons (pe_tupN (pa_cons (pe_tupN (pa_cons pe_str (pa_cons pe_int (pa_cons (pe_tupN (pa_cons pe_int (pa_cons pe_int pa_nil))) pa_nil)))) pa_nil)) (pa_cons (pv 3) pa_nil)))) (pe_tupN (pa_cons (pe_tupN (pa_cons pe_int pa_nil)) pa_nil)) (nomark _)) (pw_or1 (pt_cmpR (kNe (K := K) hr.units) (pe_has hmends (hr.mono (by decide)) (pa_cons (pv 2) (pa_cons (pe_tupN (pa_cons (pe_tupN (pa_cons pe_str (pa_cons pe_int (pa_cons (pe_tupN (pa_cons pe_int (pa_cons pe_int pa_nil))) pa_nil)))) pa_nil)) (pa_cons (pv 3) pa_nil)))) (pe_tupN (pa_cons (pe_tupN (pa_cons pe_int pa_nil)) pa_nil)) (nomark _))))) (pss_one (ps_ret pe_bl)) pss_nil)
      (pss_one (ps_ret (pe_and (pe_cmpR (kEq (K := K) hr.units) (pe_has hmends (hr.mono (by decide)) (pa_cons (pv 2) (pa_cons (pe_tupN (pa_cons (pe_tupN (pa_cons pe_str (pa_cons pe_int (pa_cons (pe_tupN (pa_cons pe_int (pa_cons pe_int pa_nil))) pa_nil)))) pa_nil)) (pa_cons (pv 3) pa_nil)))) (pe_tupN pa_nil) (nomark _)) (pe_one (pe_cmpR (kEq (K := K) hr.units) (pe_has hmends (hr.mono (by decide)) (pa_cons (pv 2) (pa_cons (pe_tupN (pa_cons (pe_tupN (pa_cons pe_str (pa_cons pe_int pa_nil))) (pa_cons (pe_tupN (pa_cons pe_str (pa_cons pe_int pa_nil))) pa_nil))) (pa_cons (pv 3) pa_nil)))) (pe_tupN pa_nil) (nomark _)))))))))))))), ?_⟩
    walk_at "rd"
    refine ⟨v, 99, rfl, hv, by decide, by decide, fun r G0 g0 r0 r99 => ?_⟩
    obtain ⟨b, hb⟩ : ∃ b : Nat, ((b : Nat) : Int) = 1 + r := ⟨(1 + r).toNat, by omega⟩
    walk_at "rd"
    rw [← hb]
    obtain ⟨rok, rpl⟩ := by_ok b (by omega) (by omega)
    refine ⟨cmulL, by decide, fun T G1 n1 e1 t1 => ?_⟩
    walk_at "rd"
    refine ⟨[(b : Int), 4 * b, b], ⟨T, rfl, .of t1⟩, rok, fun mine G2 e2 hm => ?_⟩
    rw [rpl] at hm
    walk_at "rd"
    have gG := (g0.ex e1).ex e2
    refine ⟨by decide, fun c1 I1 o1 d1 u1 => ?_⟩
    refine ⟨by decide, fun c2 I2 o2 d2 u2 => ?_⟩
    refine ⟨by decide, fun c3 I3 o3 d3 u3 => ?_⟩
    refine ⟨by decide, fun c4 I4 o4 d4 u4 => ?_⟩
    refine ⟨by decide, fun c5 I5 o5 d5 u5 => ?_⟩
    refine ⟨by decide, fun c6 I6 o6 d6 u6 => ?_⟩
    refine ⟨by decide, fun sp I7 o7 d7 u7 => ?_⟩
    have hca : ChgsAt K I7 [.ref c1, .ref c2, .ref c3, .ref c4, .ref c5, .ref c6] someC := ⟨rfl, fun i y hy => match i, hy with | 0, hy => ⟨_, rfl, by cases hy; exact chg_lit (d7 _ _ (d6 _ _ (d5 _ _ (d4 _ _ (d3 _ _ (d2 _ _ u1)))))) (by decide) (by decide +kernel)⟩ | 1, hy => ⟨_, rfl, by cases hy; exact chg_lit (d7 _ _ (d6 _ _ (d5 _ _ (d4 _ _ (d3 _ _ u2))))) (by decide) (by decide +kernel)⟩ | 2, hy => ⟨_, rfl, by cases hy; exact chg_lit (d7 _ _ (d6 _ _ (d5 _ _ (d4 _ _ u3)))) (by decide) (by decide +kernel)⟩ | 3, hy => ⟨_, rfl, by cases hy; exact chg_lit (d7 _ _ (d6 _ _ (d5 _ _ u4))) (by decide) (by decide +kernel)⟩ | 4, hy => ⟨_, rfl, by cases hy; exact chg_lit (d7 _ _ (d6 _ _ u5)) (by decide) (by decide +kernel)⟩ | 5, hy => ⟨_, rfl, by cases hy; exact chg_lit (d7 _ _ u6) (by decide) (by decide +kernel)⟩ | _ + 6, hy => by simp at hy⟩
    have d17 := (((((d1.trans d2).trans d3).trans d4).trans d5).trans d6).trans d7
    have AA : Amb K C v H mine sp _ I7 := ⟨gG.ex d17, hm.kp d17.kp, .of u7, hca⟩
    refine ⟨by decide, fun a1 J1 m1 f1 t1 => ?_⟩
    replace AA := AA.ex f1
    have W2 : WishesAt K J1 [] [] := ⟨rfl, fun i y hy => match i, hy with | _ + 0, hy => by simp at hy⟩
    refine q_mends m_non AA.row (.of t1) W2 (by simp [WOk]) (by decide) AA.sq AA.ch fun a2 J2 f2 t2 => ?_
    replace AA := AA.ex f2
    refine ⟨by decide, fun a3 J3 m3 f3 t3 => ?_⟩
    replace AA := AA.ex f3
    refine ⟨by decide, fun a4 J4 m4 f4 t4 => ?_⟩
    replace AA := AA.ex f4
    refine ⟨_, (((t2).kp f3.kp).kp f4.kp).dp, IsTT.dp (L := [[]]) ⟨_, t4, (accT_cons (f4 _ _ t3) accT_nil)⟩, rfl, ?_⟩
    walk_at "rd"
    refine ⟨by decide, fun a5 J5 m5 f5 t5 => ?_⟩
    replace AA := AA.ex f5
    refine ⟨by decide, fun a6 J6 m6 f6 t6 => ?_⟩
    replace AA := AA.ex f6
    refine ⟨by decide, fun a7 J7 m7 f7 t7 => ?_⟩
    replace AA := AA.ex f7
    have W8 : WishesAt K J7 [.ref a5, .ref a6] [.com 4, .mis 5] := ⟨rfl, fun i y hy => match i, hy with | 0, hy => ⟨_, rfl, by cases hy; exact ⟨a5, rfl, .of (f7 _ _ (f6 _ _ t5))⟩⟩ | 1, hy => ⟨_, rfl, by cases hy; exact ⟨a6, rfl, .of (f7 _ _ t6)⟩⟩ | _ + 2, hy => by simp at hy⟩
    refine q_mends m_c4 AA.row (.of t7) W8 (by simp [WOk]) (by decide) AA.sq AA.ch fun a8 J8 f8 t8 => ?_
    replace AA := AA.ex f8
    refine ⟨by decide, fun a9 J9 m9 f9 t9 => ?_⟩
    replace AA := AA.ex f9
    refine ⟨by decide, fun a10 J10 m10 f10 t10 => ?_⟩
    replace AA := AA.ex f10
    refine ⟨_, (((t8).kp f9.kp).kp f10.kp).dp, IsTT.dp (L := [[]]) ⟨_, t10, (accT_cons (f10 _ _ t9) accT_nil)⟩, rfl, ?_⟩
    walk_at "rd"
    refine ⟨by decide, fun a11 J11 m11 f11 t11 => ?_⟩
    replace AA := AA.ex f11
    refine ⟨by decide, fun a12 J12 m12 f12 t12 => ?_⟩
    replace AA := AA.ex f12
    have W13 : WishesAt K J12 [.ref a11] [.alw] := ⟨rfl, fun i y hy => match i, hy with | 0, hy => ⟨_, rfl, by cases hy; exact ⟨a11, rfl, .of (f12 _ _ t11)⟩⟩ | _ + 1, hy => by simp at hy⟩
    refine q_mends m_alw AA.row (.of t12) W13 (by simp [WOk]) (by decide) AA.sq AA.ch fun a13 J13 f13 t13 => ?_
    replace AA := AA.ex f13
    refine ⟨by decide, fun a14 J14 m14 f14 t14 => ?_⟩
    replace AA := AA.ex f14
    refine ⟨by decide, fun a15 J15 m15 f15 t15 => ?_⟩
    replace AA := AA.ex f15
    refine ⟨by decide, fun a16 J16 m16 f16 t16 => ?_⟩
    replace AA := AA.ex f16
    refine ⟨_, ((((t13).kp f14.kp).kp f15.kp).kp f16.kp).dp, IsTT.dp (L := [[0], [1, 2]]) ⟨_, t16, (accT_cons (f16 _ _ (f15 _ _ t14)) (accT_cons (f16 _ _ t15) accT_nil))⟩, rfl, ?_⟩
    walk_at "rd"
    refine ⟨by decide, fun a17 J17 m17 f17 t17 => ?_⟩
    replace AA := AA.ex f17
    refine ⟨by decide, fun a18 J18 m18 f18 t18 => ?_⟩
    replace AA := AA.ex f18
    have W19 : WishesAt K J18 [.ref a17] [.com 8] := ⟨rfl, fun i y hy => match i, hy with | 0, hy => ⟨_, rfl, by cases hy; exact ⟨a17, rfl, .of (f18 _ _ t17)⟩⟩ | _ + 1, hy => by simp at hy⟩
    refine q_mends m_c8 AA.row (.of t18) W19 (by simp [WOk]) (by decide) AA.sq AA.ch fun a19 J19 f19 t19 => ?_
    replace AA := AA.ex f19
    refine ⟨by decide, fun a20 J20 m20 f20 t20 => ?_⟩
    replace AA := AA.ex f20
    refine ⟨by decide, fun a21 J21 m21 f21 t21 => ?_⟩
    replace AA := AA.ex f21
    refine ⟨by decide, fun a22 J22 m22 f22 t22 => ?_⟩
    replace AA := AA.ex f22
    refine ⟨_, ((((t19).kp f20.kp).kp f21.kp).kp f22.kp).dp, IsTT.dp (L := [[0], [1, 2]]) ⟨_, t22, (accT_cons (f22 _ _ (f21 _ _ t20)) (accT_cons (f22 _ _ t21) accT_nil))⟩, rfl, ?_⟩
    walk_at "rd"
    refine ⟨by decide, fun a23 J23 m23 f23 t23 => ?_⟩
    replace AA := AA.ex f23
    refine ⟨by decide, fun a24 J24 m24 f24 t24 => ?_⟩
    replace AA := AA.ex f24
    have W25 : WishesAt K J24 [.ref a23] [.com 5] := ⟨rfl, fun i y hy => match i, hy with | 0, hy => ⟨_, rfl, by cases hy; exact ⟨a23, rfl, .of (f24 _ _ t23)⟩⟩ | _ + 1, hy => by simp at hy⟩
    refine q_mends m_c5 AA.row (.of t24) W25 (by simp [WOk]) (by decide) AA.sq AA.ch fun a25 J25 f25 t25 => ?_
    replace AA := AA.ex f25
    refine ⟨by decide, fun a26 J26 m26 f26 t26 => ?_⟩
    replace AA := AA.ex f26
    refine ⟨by decide, fun a27 J27 m27 f27 t27 => ?_⟩
    replace AA := AA.ex f27
    refine ⟨by decide, fun a28 J28 m28 f28 t28 => ?_⟩
    replace AA := AA.ex f28
    refine ⟨by decide, fun a29 J29 m29 f29 t29 => ?_⟩
    replace AA := AA.ex f29
    refine ⟨_, (((((t25).kp f26.kp).kp f27.kp).kp f28.kp).kp f29.kp).dp, IsTT.dp (L := [[0], [1], [2]]) ⟨_, t29, (accT_cons (f29 _ _ (f28 _ _ (f27 _ _ t26))) (accT_cons (f29 _ _ (f28 _ _ t27)) (accT_cons (f29 _ _ t28) accT_nil)))⟩, rfl, ?_⟩
    walk_at "rd"
    refine ⟨by decide, fun ll L1 ml fl tl => ⟨ll, rfl, ⟨_, .of tl⟩, fun Dd hD => lcLn (fun i y G => ∃ q, y = .ref q ∧ IsTT G q [[3]]) (fun _ _ _ _ e ⟨q, h1, h2⟩ => ⟨q, h1, h2.kp e⟩) hD (.of tl) (by decide) (fun _ => rfl) ?_ ?_⟩⟩
    · intro i y L2 hy eL
      have AB := (AA.ex fl).ex eL
      have hk : y = .int 3 ∨ y = .int 4 := match i, hy with
        | 0, hy => .inl (by cases hy; rfl)
        | 1, hy => .inr (by cases hy; rfl)
        | _ + 2, hy => by simp at hy
      obtain ⟨R0, hR⟩ : ∃ R : VK, R = fun v' H' => Ex L2 H' ∧ ∃ q, v' = .ref q ∧ IsTT H' q [[3]] := ⟨_, rfl⟩
      refine ⟨R0, ?_, fun v' H' h => by rw [hR] at h; exact h⟩
      rcases hk with rfl | rfl
      · walk_at "rd"
        refine ⟨by decide, fun x1 M1 q1 z1 w1 => ⟨by decide, fun x2 M2 q2 z2 w2 => ?_⟩⟩
        have AC := AB.ex (z1.trans z2)
        refine q_mends (ws := [.mis 3]) m_m3 AC.row (.of w2) ⟨rfl, fun i y hy => match i, hy with | 0, hy => ⟨_, rfl, by cases hy; exact ⟨x1, rfl, .of (z2 _ _ w1)⟩⟩ | _ + 1, hy => by simp at hy⟩ (by simp [WOk]) (by decide) AC.sq AC.ch fun q H' e h => ?_
        rw [hR]
        exact ⟨(z1.trans z2).trans e, q, rfl, h⟩
      · walk_at "rd"
        refine ⟨by decide, fun x1 M1 q1 z1 w1 => ⟨by decide, fun x2 M2 q2 z2 w2 => ?_⟩⟩
        have AC := AB.ex (z1.trans z2)
        refine q_mends (ws := [.mis 4]) m_m4 AC.row (.of w2) ⟨rfl, fun i y hy => match i, hy with | 0, hy => ⟨_, rfl, by cases hy; exact ⟨x1, rfl, .of (z2 _ _ w1)⟩⟩ | _ + 1, hy => by simp at hy⟩ (by simp [WOk]) (by decide) AC.sq AC.ch fun q H' e h => ?_
        rw [hR]
        exact ⟨(z1.trans z2).trans e, q, rfl, h⟩
    intro Lz ys eL hys lys hr2
    obtain ⟨q1, q2, rfl, hq1, hq2⟩ : ∃ q1 q2, ys = [.ref q1, .ref q2] ∧ IsTT Lz q1 [[3]] ∧ IsTT Lz q2 [[3]] := by
      match ys, lys, hr2 with
      | [y1, y2], _, hr2 =>
        obtain ⟨q1, h1, h2⟩ := hr2 0 y1 rfl
        obtain ⟨q2, h3, h4⟩ := hr2 1 y2 rfl
        exact ⟨q1, q2, by rw [h1, h3], h2, h4⟩
    replace AA := (AA.ex fl).ex eL
    refine ⟨by decide, fun a30 J30 m30 f30 t30 => ?_⟩
    replace AA := AA.ex f30
    refine ⟨by decide, fun a31 J31 m31 f31 t31 => ?_⟩
    replace AA := AA.ex f31
    refine ⟨by decide, fun a32 J32 m32 f32 t32 => ?_⟩
    replace AA := AA.ex f32
    refine ⟨by decide, fun a33 J33 m33 f33 t33 => ?_⟩
    replace AA := AA.ex f33
    refine ⟨by decide, fun a34 J34 m34 f34 t34 => ?_⟩
    replace AA := AA.ex f34
    refine ⟨.list [ttD [[3]], ttD [[3]]], .lst (.of (f34 _ _ (f33 _ _ (f32 _ _ (f31 _ _ (f30 _ _ hys)))))) (.cons ((((((hq1).kp f30.kp).kp f31.kp).kp f32.kp).kp f33.kp).kp f34.kp).dp (.cons ((((((hq2).kp f30.kp).kp f31.kp).kp f32.kp).kp f33.kp).kp f34.kp).dp .nil)), .lst (.of t34) (.cons (IsTT.dp (L := [[3]]) ⟨_, (f34 _ _ (f33 _ _ (f32 _ _ t31))), accT_cons (f34 _ _ (f33 _ _ (f32 _ _ (f31 _ _ t30)))) accT_nil⟩) (.cons (IsTT.dp (L := [[3]]) ⟨_, (f34 _ _ t33), accT_cons (f34 _ _ (f33 _ _ t32)) accT_nil⟩) .nil)), rfl, ?_⟩
    walk_at "rd"
    refine ⟨by decide, fun a35 J35 m35 f35 t35 => ?_⟩
    replace AA := AA.ex f35
    refine ⟨by decide, fun a36 J36 m36 f36 t36 => ?_⟩
    replace AA := AA.ex f36
    refine ⟨by decide, fun a37 J37 m37 f37 t37 => ?_⟩
    replace AA := AA.ex f37
    have W38 : WishesAt K J37 [.ref a36] [.lik 1 5 7] := ⟨rfl, fun i y hy => match i, hy with | 0, hy => ⟨_, rfl, by cases hy; exact ⟨a36, a35, rfl, .of (f37 _ _ t36), .of (f37 _ _ (f36 _ _ t35))⟩⟩ | _ + 1, hy => by simp at hy⟩
    refine q_mends m_l1 AA.row (.of t37) W38 (by simp [WOk]) (by decide) AA.sq AA.ch fun a38 J38 f38 t38 => ?_
    replace AA := AA.ex f38
    refine ⟨by decide, fun a39 J39 m39 f39 t39 => ?_⟩
    replace AA := AA.ex f39
    refine ⟨by decide, fun a40 J40 m40 f40 t40 => ?_⟩
    replace AA := AA.ex f40
    refine ⟨_, (((t38).kp f39.kp).kp f40.kp).dp, IsTT.dp (L := [[3]]) ⟨_, t40, (accT_cons (f40 _ _ t39) accT_nil)⟩, rfl, ?_⟩
    walk_at "rd"
    refine ⟨by decide, fun a41 J41 m41 f41 t41 => ?_⟩
    replace AA := AA.ex f41
    refine ⟨by decide, fun a42 J42 m42 f42 t42 => ?_⟩
    replace AA := AA.ex f42
    refine ⟨by decide, fun a43 J43 m43 f43 t43 => ?_⟩
    replace AA := AA.ex f43
    have W44 : WishesAt K J43 [.ref a42] [.lik 2 2 7] := ⟨rfl, fun i y hy => match i, hy with | 0, hy => ⟨_, rfl, by cases hy; exact ⟨a42, a41, rfl, .of (f43 _ _ t42), .of (f43 _ _ (f42 _ _ t41))⟩⟩ | _ + 1, hy => by simp at hy⟩
    refine q_mends m_l2 AA.row (.of t43) W44 (by simp [WOk]) (by decide) AA.sq AA.ch fun a44 J44 f44 t44 => ?_
    replace AA := AA.ex f44
    refine ⟨by decide, fun a45 J45 m45 f45 t45 => ?_⟩
    replace AA := AA.ex f45
    refine ⟨by decide, fun a46 J46 m46 f46 t46 => ?_⟩
    replace AA := AA.ex f46
    refine ⟨_, (((t44).kp f45.kp).kp f46.kp).dp, IsTT.dp (L := [[2]]) ⟨_, t46, (accT_cons (f46 _ _ t45) accT_nil)⟩, rfl, ?_⟩
    walk_at "rd"
    refine ⟨by decide, fun a47 J47 m47 f47 t47 => ?_⟩
    replace AA := AA.ex f47
    refine ⟨by decide, fun a48 J48 m48 f48 t48 => ?_⟩
    replace AA := AA.ex f48
    refine ⟨by decide, fun a49 J49 m49 f49 t49 => ?_⟩
    replace AA := AA.ex f49
    have W50 : WishesAt K J49 [.ref a48] [.lik 4 1 9] := ⟨rfl, fun i y hy => match i, hy with | 0, hy => ⟨_, rfl, by cases hy; exact ⟨a48, a47, rfl, .of (f49 _ _ t48), .of (f49 _ _ (f48 _ _ t47))⟩⟩ | _ + 1, hy => by simp at hy⟩
    refine q_mends m_l4 AA.row (.of t49) W50 (by simp [WOk]) (by decide) AA.sq AA.ch fun a50 J50 f50 t50 => ?_
    replace AA := AA.ex f50
    refine ⟨by decide, fun a51 J51 m51 f51 t51 => ?_⟩
    replace AA := AA.ex f51
    refine ⟨_, ((t50).kp f51.kp).dp, IsTT.dp (L := []) ⟨_, t51, accT_nil⟩, rfl, ?_⟩
    walk_at "rd"
    refine ⟨by decide, fun a52 J52 m52 f52 t52 => ?_⟩
    replace AA := AA.ex f52
    refine ⟨by decide, fun a53 J53 m53 f53 t53 => ?_⟩
    replace AA := AA.ex f53
    refine ⟨by decide, fun a54 J54 m54 f54 t54 => ?_⟩
    replace AA := AA.ex f54
    have W55 : WishesAt K J54 [.ref a52, .ref a53] [.com 1, .com 2] := ⟨rfl, fun i y hy => match i, hy with | 0, hy => ⟨_, rfl, by cases hy; exact ⟨a52, rfl, .of (f54 _ _ (f53 _ _ t52))⟩⟩ | 1, hy => ⟨_, rfl, by cases hy; exact ⟨a53, rfl, .of (f54 _ _ t53)⟩⟩ | _ + 2, hy => by simp at hy⟩
    refine q_mends m_c1 AA.row (.of t54) W55 (by simp [WOk]) (by decide) AA.sq AA.ch fun a55 J55 f55 t55 => ?_
    replace AA := AA.ex f55
    refine ⟨by decide, fun a56 J56 m56 f56 t56 => ?_⟩
    replace AA := AA.ex f56
    refine ⟨_, ((t55).kp f56.kp).dp, IsTT.dp (L := []) ⟨_, t56, accT_nil⟩, rfl, ?_⟩
    exact k _ AA.gv
end

local macro_rules | `(tactic| walk_at "rd") => `(tactic| try simp only [r_seq, r_asg, r_name, r_ifS, r_next, r_ret, r_retN, r_drop, r_test, r_B, r_if, r_cons, r_nil, r_cb, r_tF, r_part, r_nopart, r_sl, r_par, r_chain, r_or, r_and, r_not, r_orV, r_andV, r_notV, r_op, r_un, r_var, r_c, r_yes, r_I0, r_I, r_U, r_eqI, r_neI, r_eqS, r_neS, r_lst, r_tup, r_for, r_lc, r_list, r_tupI, r_rng1, r_rng2, r_enumT, r_bm, r_fld, r_subT, r_gtup, r_gcons, r_gnil, r_K0, r_K, r_Kb, r_Kbb, wipe, r_never, not_true_eq_false, not_false_eq_true, Int.zero_add, r_counts, r_draws, r_rates, r_row, r_len, r_sfld, r_zipB, r_revT, r_tW, r_seqI, r_m0, r_m1, r_js0, r_js, r_fmt, r_revN, r_rng3, r_enumL, r_text, r_rowV, r_dict, r_din, r_dput, r_readX, r_FX9, r_dget2,
  L2.start, List.map_cons, List.map_nil, List.length_cons, List.length_nil, Nat.reduceAdd, Nat.reduceSub, List.reduceReplicate, List.cons_append, List.nil_append, List.set_cons_zero, List.set_cons_succ, List.getElem?_cons_zero, List.getElem?_cons_succ, Option.some.injEq, exists_eq_left', exists_eq_left, exists_eq_right, exists_eq_right', V.int.injEq, V.ref.injEq, V.bl.injEq, V.str.injEq, List.cons.injEq, and_true, true_and, and_false, false_and, or_false, false_or, exists_false, exists_const, and_assoc, reduceCtorEq, if_true, if_false, Bool.false_eq_true, Bool.not_true, Bool.not_false, Bool.not_eq_true', decide_eq_true_eq, decide_eq_false_iff_not, exists_and_left, exists_and_right, exists_eq_or_imp])
section
variable {P : Program} {w : World} {K : PySem.W.Frag} {mg : Str → Option Value} {base : Heap}
/-! ### _law_quiet, law -/
def spLaw (K : PySem.W.Frag) : Sp := fun vs H Q _ => ∃ (a : Addr) (ns : List Int), vs = [.ref a] ∧ SqL K H a (ns.map V.int) ∧ ns.length ≤ 63 ∧ ∀ H', Q (.bl true) H'
theorem scLaw : FnScope ["script", "spot"] ["script"] (defScope (top 57)) := ⟨rfl, rfl, rfl, by decide +kernel, rfl, by decide +kernel, by decide +kernel⟩
theorem ok_law (B : Bi mg) (h_law_well : Has P w K mg base "_law_well" 1 ["script", "spot"] (spWell K)) (h_law_right : HasG P w K mg base "_law_right" 12 ["well"] spRight) {f : Addr} {fd : FuncData} (F : Fun K "law" "law" (top 57) f fd) : FnG P w K mg base 13 f fd ["script"] (spLaw K) := by
  have sc := scLaw
  refine okG F sc (fun vs H Q E h => ?_) (fun cdv A outer s H vs Q E hgd hr h => ?_)
  · obtain ⟨a, ns, rfl, _⟩ := h
    rfl
  · obtain ⟨a, ns, rfl, hS, hlen, k⟩ := h
    refine ⟨_, (pss_one (ps_ret (pe_callB (kAll (K := K) rfl) (by rfl) B.all (by decide +kernel) (pa_cons (pe_lc (own := [("spot", 1)]) (g := gName 1) (tt := tYes) rfl sc.nd (pi_range1 (by rfl) B.range (pa_cons (pe_callB (call_max2 rfl) (by rfl) B.max (by decide +kernel) (pa_cons pe_int (pa_cons (pe_callB (call_min2 rfl) (by rfl) B.min (by decide +kernel) (pa_cons (pe_callB (kLen (K := K)) (by rfl) B.len (by decide +kernel) (pa_cons (pv 0) pa_nil)) (pa_cons pe_int pa_nil))) pa_nil))) pa_nil)) (blkOk_by (N := (["script", "spot"] : List Str)) (sc := defScope (top 57)) (by decide +kernel)) (fun _ _ _ _ _ => (pg_name (i := 1) sc.nd rfl (by first | exact Or.inl rfl | exact Or.inr rfl))) (fun _ _ _ _ _ => pts_nil) (fun _ _ _ _ _ => (PE.mon (pe_hasG h_law_right hgd (hr.mono (by decide)) (pa_cons (pe_has h_law_well (hr.mono (by decide)) (pa_cons (pv 0) (pa_cons (pv 1) pa_nil))) pa_nil))))) pa_nil)))), ?_⟩
    walk_at "rd"
    refine ⟨_, .inl hS, ?_⟩
    rw [List.length_map]
    generalize hm : (if (if _ < ((ns.length : Nat) : Int) then _ else ((ns.length : Nat) : Int)) > 2 then (if _ < ((ns.length : Nat) : Int) then _ else ((ns.length : Nat) : Int)) else (2 : Int)) = m
    have m5 : 0 ≤ m ∧ m ≤ 5 := by
      rw [← hm]
      repeat' split
      all_goals omega
    refine ⟨by omega, by omega, fun Dd hD => lcR (fun _ y _ => y = .bl true) (fun _ _ _ _ _ h => h) hD (by omega) (fun _ => rfl) ?_ ?_⟩
    · intro i G hi e
      obtain ⟨R0, hR⟩ : ∃ R : VK, R = fun y G' => Ex G G' ∧ y = .bl true := ⟨_, rfl⟩
      refine ⟨R0, ?_, fun y G' h => by rw [hR] at h; exact h⟩
      walk_at "rd"
      refine ⟨a, ns, _, rfl, sqL_ex hS e, hlen, by omega, by omega, fun v G2 n2 e2 hv => ⟨v, rfl, hv, fun G3 g => ?_⟩⟩
      rw [hR]
      exact ⟨Gv.out n2 e2 g, rfl⟩
    · intro G ys e hy hl hr2
      have ey : ys = (List.replicate m.toNat true).map V.bl := by
        apply List.ext_getElem?
        intro i
        by_cases hi : i < ys.length
        · rw [List.getElem?_eq_getElem hi, hr2 i _ (List.getElem?_eq_getElem hi)]
          simp [List.getElem?_replicate, show i < m.toNat by omega]
        · rw [List.getElem?_eq_none (by omega), List.getElem?_eq_none (by simp; omega)]
      rw [ey] at hy
      refine ⟨Dd, _, rfl, .of hy, ?_⟩
      have : (List.replicate m.toNat true).all id = true := by simp
      rw [this]
      exact k _
end

/-! ### the end -/
theorem all_mk {l : PySem.W.OpenLaw} {w : World} {K : PySem.W.Frag} {h : Heap} {mg : Str → Option Value} {fa : Addr} (X : K.In h) (G : h.Ns mainGlobals mg) (hfa : mg "law" = some (.ref fa))
    {f1 : Addr} {od1 an1 : Option Addr} {sl1 : Array (Option Value)} {oc1 kV1 dc1 pm1 cd1 ct1 : Value}
    {f2 : Addr} {od2 an2 : Option Addr} {sl2 : Array (Option Value)} {oc2 kV2 dc2 pm2 cd2 ct2 : Value}
    {f3 : Addr} {od3 an3 : Option Addr} {sl3 : Array (Option Value)} {oc3 kV3 dc3 pm3 cd3 ct3 : Value}
    {f4 : Addr} {od4 an4 : Option Addr} {sl4 : Array (Option Value)} {oc4 kV4 dc4 pm4 cd4 ct4 : Value}
    {f5 : Addr} {od5 an5 : Option Addr} {sl5 : Array (Option Value)} {oc5 kV5 dc5 pm5 cd5 ct5 : Value}
    {f6 : Addr} {od6 an6 : Option Addr} {sl6 : Array (Option Value)} {oc6 kV6 dc6 pm6 cd6 ct6 : Value}
    {f7 : Addr} {od7 an7 : Option Addr} {sl7 : Array (Option Value)} {oc7 kV7 dc7 pm7 cd7 ct7 : Value}
    {f8 : Addr} {od8 an8 : Option Addr} {sl8 : Array (Option Value)} {oc8 kV8 dc8 pm8 cd8 ct8 : Value}
    {f9 : Addr} {od9 an9 : Option Addr} {sl9 : Array (Option Value)} {oc9 kV9 dc9 pm9 cd9 ct9 : Value}
    {f10 : Addr} {od10 an10 : Option Addr} {sl10 : Array (Option Value)} {oc10 kV10 dc10 pm10 cd10 ct10 : Value}
    {f11 : Addr} {od11 an11 : Option Addr} {sl11 : Array (Option Value)} {oc11 kV11 dc11 pm11 cd11 ct11 : Value}
    {f12 : Addr} {od12 an12 : Option Addr} {sl12 : Array (Option Value)} {oc12 kV12 dc12 pm12 cd12 ct12 : Value}
    {f13 : Addr} {od13 an13 : Option Addr} {sl13 : Array (Option Value)} {oc13 kV13 dc13 pm13 cd13 ct13 : Value}
    {f14 : Addr} {od14 an14 : Option Addr} {sl14 : Array (Option Value)} {oc14 kV14 dc14 pm14 cd14 ct14 : Value}
    {f15 : Addr} {od15 an15 : Option Addr} {sl15 : Array (Option Value)} {oc15 kV15 dc15 pm15 cd15 ct15 : Value}
    {f16 : Addr} {od16 an16 : Option Addr} {sl16 : Array (Option Value)} {oc16 kV16 dc16 pm16 cd16 ct16 : Value}
    {f17 : Addr} {od17 an17 : Option Addr} {sl17 : Array (Option Value)} {oc17 kV17 dc17 pm17 cd17 ct17 : Value}
    {f18 : Addr} {od18 an18 : Option Addr} {sl18 : Array (Option Value)} {oc18 kV18 dc18 pm18 cd18 ct18 : Value}
    {f19 : Addr} {od19 an19 : Option Addr} {sl19 : Array (Option Value)} {oc19 kV19 dc19 pm19 cd19 ct19 : Value}
    {f20 : Addr} {od20 an20 : Option Addr} {sl20 : Array (Option Value)} {oc20 kV20 dc20 pm20 cd20 ct20 : Value}
    {f21 : Addr} {od21 an21 : Option Addr} {sl21 : Array (Option Value)} {oc21 kV21 dc21 pm21 cd21 ct21 : Value}
    {f22 : Addr} {od22 an22 : Option Addr} {sl22 : Array (Option Value)} {oc22 kV22 dc22 pm22 cd22 ct22 : Value}
    {f23 : Addr} {od23 an23 : Option Addr} {sl23 : Array (Option Value)} {oc23 kV23 dc23 pm23 cd23 ct23 : Value}
    {f24 : Addr} {od24 an24 : Option Addr} {sl24 : Array (Option Value)} {oc24 kV24 dc24 pm24 cd24 ct24 : Value}
    {f25 : Addr} {od25 an25 : Option Addr} {sl25 : Array (Option Value)} {oc25 kV25 dc25 pm25 cd25 ct25 : Value}
    {f26 : Addr} {od26 an26 : Option Addr} {sl26 : Array (Option Value)} {oc26 kV26 dc26 pm26 cd26 ct26 : Value}
    {f27 : Addr} {od27 an27 : Option Addr} {sl27 : Array (Option Value)} {oc27 kV27 dc27 pm27 cd27 ct27 : Value}
    {f28 : Addr} {od28 an28 : Option Addr} {sl28 : Array (Option Value)} {oc28 kV28 dc28 pm28 cd28 ct28 : Value}
    {f29 : Addr} {od29 an29 : Option Addr} {sl29 : Array (Option Value)} {oc29 kV29 dc29 pm29 cd29 ct29 : Value}
    {f30 : Addr} {od30 an30 : Option Addr} {sl30 : Array (Option Value)} {oc30 kV30 dc30 pm30 cd30 ct30 : Value}
    {f31 : Addr} {od31 an31 : Option Addr} {sl31 : Array (Option Value)} {oc31 kV31 dc31 pm31 cd31 ct31 : Value}
    {f32 : Addr} {od32 an32 : Option Addr} {sl32 : Array (Option Value)} {oc32 kV32 dc32 pm32 cd32 ct32 : Value}
    {f33 : Addr} {od33 an33 : Option Addr} {sl33 : Array (Option Value)} {oc33 kV33 dc33 pm33 cd33 ct33 : Value}
    {f34 : Addr} {od34 an34 : Option Addr} {sl34 : Array (Option Value)} {oc34 kV34 dc34 pm34 cd34 ct34 : Value}
    {f35 : Addr} {od35 an35 : Option Addr} {sl35 : Array (Option Value)} {oc35 kV35 dc35 pm35 cd35 ct35 : Value}
    {f36 : Addr} {od36 an36 : Option Addr} {sl36 : Array (Option Value)} {oc36 kV36 dc36 pm36 cd36 ct36 : Value}
    {f37 : Addr} {od37 an37 : Option Addr} {sl37 : Array (Option Value)} {oc37 kV37 dc37 pm37 cd37 ct37 : Value}
    {f38 : Addr} {od38 an38 : Option Addr} {sl38 : Array (Option Value)} {oc38 kV38 dc38 pm38 cd38 ct38 : Value}
    {f39 : Addr} {od39 an39 : Option Addr} {sl39 : Array (Option Value)} {oc39 kV39 dc39 pm39 cd39 ct39 : Value}
    {C : Addr}
    {f40 : Addr} {od40 an40 : Option Addr} {sl40 : Array (Option Value)} {oc40 kV40 dc40 pm40 cd40 ct40 : Value}
    {f41 : Addr} {od41 an41 : Option Addr} {sl41 : Array (Option Value)} {oc41 kV41 dc41 pm41 cd41 ct41 : Value}
    {f42 p42 : Addr} {r42 : List Value} {od42 an42 : Option Addr} {sl42 : Array (Option Value)} {oc42 kV42 dc42 pm42 cd42 ct42 : Value}
    {f43 p43 : Addr} {r43 : List Value} {od43 an43 : Option Addr} {sl43 : Array (Option Value)} {oc43 kV43 dc43 pm43 cd43 ct43 : Value}
    {f44 p44 : Addr} {r44 : List Value} {od44 an44 : Option Addr} {sl44 : Array (Option Value)} {oc44 kV44 dc44 pm44 cd44 ct44 : Value}
    {N : Addr} {nm qn : Str} {bs : List Value} {hdct : Bool} {sn : List Str} {sub : List Value} {ab : Bool} {col : Option Bool} {dd : Option Addr} {q0 q1 q2 q3 q5 : Option Value} {newId : String}
    {f45 : Addr} {od45 an45 : Option Addr} {sl45 : Array (Option Value)} {oc45 kV45 dc45 pm45 cd45 ct45 : Value}
    {f46 : Addr} {od46 an46 : Option Addr} {sl46 : Array (Option Value)} {oc46 kV46 dc46 pm46 cd46 ct46 : Value}
    {f47 : Addr} {od47 an47 : Option Addr} {sl47 : Array (Option Value)} {oc47 kV47 dc47 pm47 cd47 ct47 : Value}
    {f48 p48 : Addr} {r48 : List Value} {od48 an48 : Option Addr} {sl48 : Array (Option Value)} {oc48 kV48 dc48 pm48 cd48 ct48 : Value}
    {eC0 : Addr}
    {fIx0 ccIx0 cdIx0 NIx0 : Addr} {nmIx0 qnIx0 fileIx0 : Str} {bsIx0 bmIx0 subIx0 : List Value} {snIx0 : List Str} {abIx0 : Bool} {colIx0 : Option Bool} {ddIx0 odx0 anx0 cddx0 cldx0 : Option Addr} {q0x0 q1x0 q2x0 q3x0 q5x0 : Option Value} {ocx0 kVx0 dcx0 pmx0 ctx0 cclx0 clx0 : Value} {slx0 ccsx0 cslx0 : Array (Option Value)} {vsx0 : Array Value} {tfx0 : Tok}
    {eC1 : Addr}
    {fIx1 ccIx1 cdIx1 NIx1 : Addr} {nmIx1 qnIx1 fileIx1 : Str} {bsIx1 bmIx1 subIx1 : List Value} {snIx1 : List Str} {abIx1 : Bool} {colIx1 : Option Bool} {ddIx1 odx1 anx1 cddx1 cldx1 : Option Addr} {q0x1 q1x1 q2x1 q3x1 q5x1 : Option Value} {ocx1 kVx1 dcx1 pmx1 ctx1 cclx1 clx1 : Value} {slx1 ccsx1 cslx1 : Array (Option Value)} {vsx1 : Array Value} {tfx1 : Tok}
    {tk tk2 tk3 tk4 : Tok}
    (a1 : PySem.W.nsIn K mainGlobals "is_whole" = some (some (.ref f1)))
    (l1 : K.lookup f1 = some ⟨oc1, od1, .func (PySem.W.fnOf "is_whole" "is_whole" (defArgs (top 12)) (defBody (top 12)) (defScope (top 12)) .none kV1 dc1 pm1 an1 cd1 ct1), sl1⟩)
    (c1 : PySem.W.codeIn K cd1 "is_whole" = true)
    (k1 : PySem.W.keepIn K (.ref f1) = true)
    (a2 : PySem.W.nsIn K mainGlobals "is_fraction" = some (some (.ref f2)))
    (l2 : K.lookup f2 = some ⟨oc2, od2, .func (PySem.W.fnOf "is_fraction" "is_fraction" (defArgs (top 13)) (defBody (top 13)) (defScope (top 13)) .none kV2 dc2 pm2 an2 cd2 ct2), sl2⟩)
    (c2 : PySem.W.codeIn K cd2 "is_fraction" = true)
    (k2 : PySem.W.keepIn K (.ref f2) = true)
    (a3 : PySem.W.nsIn K mainGlobals "is_decimal" = some (some (.ref f3)))
    (l3 : K.lookup f3 = some ⟨oc3, od3, .func (PySem.W.fnOf "is_decimal" "is_decimal" (defArgs (top 14)) (defBody (top 14)) (defScope (top 14)) .none kV3 dc3 pm3 an3 cd3 ct3), sl3⟩)
    (c3 : PySem.W.codeIn K cd3 "is_decimal" = true)
    (k3 : PySem.W.keepIn K (.ref f3) = true)
    (a4 : PySem.W.nsIn K mainGlobals "read_decimal" = some (some (.ref f4)))
    (l4 : K.lookup f4 = some ⟨oc4, od4, .func (PySem.W.fnOf "read_decimal" "read_decimal" (defArgs (top 15)) (defBody (top 15)) (defScope (top 15)) .none kV4 dc4 pm4 an4 cd4 ct4), sl4⟩)
    (c4 : PySem.W.codeIn K cd4 "read_decimal" = true)
    (k4 : PySem.W.keepIn K (.ref f4) = true)
    (a5 : PySem.W.nsIn K mainGlobals "write_decimal" = some (some (.ref f5)))
    (l5 : K.lookup f5 = some ⟨oc5, od5, .func (PySem.W.fnOf "write_decimal" "write_decimal" (defArgs (top 16)) (defBody (top 16)) (defScope (top 16)) .none kV5 dc5 pm5 an5 cd5 ct5), sl5⟩)
    (c5 : PySem.W.codeIn K cd5 "write_decimal" = true)
    (k5 : PySem.W.keepIn K (.ref f5) = true)
    (a6 : PySem.W.nsIn K mainGlobals "check_row" = some (some (.ref f6)))
    (l6 : K.lookup f6 = some ⟨oc6, od6, .func (PySem.W.fnOf "check_row" "check_row" (defArgs (top 21)) (defBody (top 21)) (defScope (top 21)) .none kV6 dc6 pm6 an6 cd6 ct6), sl6⟩)
    (c6 : PySem.W.codeIn K cd6 "check_row" = true)
    (k6 : PySem.W.keepIn K (.ref f6) = true)
    (a7 : PySem.W.nsIn K mainGlobals "is_change" = some (some (.ref f7)))
    (l7 : K.lookup f7 = some ⟨oc7, od7, .func (PySem.W.fnOf "is_change" "is_change" (defArgs (top 22)) (defBody (top 22)) (defScope (top 22)) .none kV7 dc7 pm7 an7 cd7 ct7), sl7⟩)
    (c7 : PySem.W.codeIn K cd7 "is_change" = true)
    (k7 : PySem.W.keepIn K (.ref f7) = true)
    (a8 : PySem.W.nsIn K mainGlobals "_check_counts" = some (some (.ref f8)))
    (l8 : K.lookup f8 = some ⟨oc8, od8, .func (PySem.W.fnOf "_check_counts" "_check_counts" (defArgs (top 23)) (defBody (top 23)) (defScope (top 23)) .none kV8 dc8 pm8 an8 cd8 ct8), sl8⟩)
    (c8 : PySem.W.codeIn K cd8 "_check_counts" = true)
    (k8 : PySem.W.keepIn K (.ref f8) = true)
    (a9 : PySem.W.nsIn K mainGlobals "_told_counts" = some (some (.ref f9)))
    (l9 : K.lookup f9 = some ⟨oc9, od9, .func (PySem.W.fnOf "_told_counts" "_told_counts" (defArgs (top 24)) (defBody (top 24)) (defScope (top 24)) .none kV9 dc9 pm9 an9 cd9 ct9), sl9⟩)
    (c9 : PySem.W.codeIn K cd9 "_told_counts" = true)
    (k9 : PySem.W.keepIn K (.ref f9) = true)
    (a10 : PySem.W.nsIn K mainGlobals "_placed" = some (some (.ref f10)))
    (l10 : K.lookup f10 = some ⟨oc10, od10, .func (PySem.W.fnOf "_placed" "_placed" (defArgs (top 25)) (defBody (top 25)) (defScope (top 25)) .none kV10 dc10 pm10 an10 cd10 ct10), sl10⟩)
    (c10 : PySem.W.codeIn K cd10 "_placed" = true)
    (k10 : PySem.W.keepIn K (.ref f10) = true)
    (a11 : PySem.W.nsIn K mainGlobals "always" = some (some (.ref f11)))
    (l11 : K.lookup f11 = some ⟨oc11, od11, .func (PySem.W.fnOf "always" "always" (defArgs (top 27)) (defBody (top 27)) (defScope (top 27)) .none kV11 dc11 pm11 an11 cd11 ct11), sl11⟩)
    (c11 : PySem.W.codeIn K cd11 "always" = true)
    (k11 : PySem.W.keepIn K (.ref f11) = true)
    (a12 : PySem.W.nsIn K mainGlobals "does_come" = some (some (.ref f12)))
    (l12 : K.lookup f12 = some ⟨oc12, od12, .func (PySem.W.fnOf "does_come" "does_come" (defArgs (top 28)) (defBody (top 28)) (defScope (top 28)) .none kV12 dc12 pm12 an12 cd12 ct12), sl12⟩)
    (c12 : PySem.W.codeIn K cd12 "does_come" = true)
    (k12 : PySem.W.keepIn K (.ref f12) = true)
    (a13 : PySem.W.nsIn K mainGlobals "yes_sums" = some (some (.ref f13)))
    (l13 : K.lookup f13 = some ⟨oc13, od13, .func (PySem.W.fnOf "yes_sums" "yes_sums" (defArgs (top 29)) (defBody (top 29)) (defScope (top 29)) .none kV13 dc13 pm13 an13 cd13 ct13), sl13⟩)
    (c13 : PySem.W.codeIn K cd13 "yes_sums" = true)
    (k13 : PySem.W.keepIn K (.ref f13) = true)
    (a14 : PySem.W.nsIn K mainGlobals "row_sums" = some (some (.ref f14)))
    (l14 : K.lookup f14 = some ⟨oc14, od14, .func (PySem.W.fnOf "row_sums" "row_sums" (defArgs (top 30)) (defBody (top 30)) (defScope (top 30)) .none kV14 dc14 pm14 an14 cd14 ct14), sl14⟩)
    (c14 : PySem.W.codeIn K cd14 "row_sums" = true)
    (k14 : PySem.W.keepIn K (.ref f14) = true)
    (a15 : PySem.W.nsIn K mainGlobals "times" = some (some (.ref f15)))
    (l15 : K.lookup f15 = some ⟨oc15, od15, .func (PySem.W.fnOf "times" "times" (defArgs (top 31)) (defBody (top 31)) (defScope (top 31)) .none kV15 dc15 pm15 an15 cd15 ct15), sl15⟩)
    (c15 : PySem.W.codeIn K cd15 "times" = true)
    (k15 : PySem.W.keepIn K (.ref f15) = true)
    (a16 : PySem.W.nsIn K mainGlobals "mean_on" = some (some (.ref f16)))
    (l16 : K.lookup f16 = some ⟨oc16, od16, .func (PySem.W.fnOf "mean_on" "mean_on" (defArgs (top 32)) (defBody (top 32)) (defScope (top 32)) .none kV16 dc16 pm16 an16 cd16 ct16), sl16⟩)
    (c16 : PySem.W.codeIn K cd16 "mean_on" = true)
    (k16 : PySem.W.keepIn K (.ref f16) = true)
    (a17 : PySem.W.nsIn K mainGlobals "lowest_points" = some (some (.ref f17)))
    (l17 : K.lookup f17 = some ⟨oc17, od17, .func (PySem.W.fnOf "lowest_points" "lowest_points" (defArgs (top 33)) (defBody (top 33)) (defScope (top 33)) .none kV17 dc17 pm17 an17 cd17 ct17), sl17⟩)
    (c17 : PySem.W.codeIn K cd17 "lowest_points" = true)
    (k17 : PySem.W.keepIn K (.ref f17) = true)
    (a18 : PySem.W.nsIn K mainGlobals "highest_points" = some (some (.ref f18)))
    (l18 : K.lookup f18 = some ⟨oc18, od18, .func (PySem.W.fnOf "highest_points" "highest_points" (defArgs (top 34)) (defBody (top 34)) (defScope (top 34)) .none kV18 dc18 pm18 an18 cd18 ct18), sl18⟩)
    (c18 : PySem.W.codeIn K cd18 "highest_points" = true)
    (k18 : PySem.W.keepIn K (.ref f18) = true)
    (a19 : PySem.W.nsIn K mainGlobals "broken_points" = some (some (.ref f19)))
    (l19 : K.lookup f19 = some ⟨oc19, od19, .func (PySem.W.fnOf "broken_points" "broken_points" (defArgs (top 35)) (defBody (top 35)) (defScope (top 35)) .none kV19 dc19 pm19 an19 cd19 ct19), sl19⟩)
    (c19 : PySem.W.codeIn K cd19 "broken_points" = true)
    (k19 : PySem.W.keepIn K (.ref f19) = true)
    (a20 : PySem.W.nsIn K mainGlobals "choices" = some (some (.ref f20)))
    (l20 : K.lookup f20 = some ⟨oc20, od20, .func (PySem.W.fnOf "choices" "choices" (defArgs (top 36)) (defBody (top 36)) (defScope (top 36)) .none kV20 dc20 pm20 an20 cd20 ct20), sl20⟩)
    (c20 : PySem.W.codeIn K cd20 "choices" = true)
    (k20 : PySem.W.keepIn K (.ref f20) = true)
    (a21 : PySem.W.nsIn K mainGlobals "_table" = some (some (.ref f21)))
    (l21 : K.lookup f21 = some ⟨oc21, od21, .func (PySem.W.fnOf "_table" "_table" (defArgs (top 37)) (defBody (top 37)) (defScope (top 37)) .none kV21 dc21 pm21 an21 cd21 ct21), sl21⟩)
    (c21 : PySem.W.codeIn K cd21 "_table" = true)
    (k21 : PySem.W.keepIn K (.ref f21) = true)
    (a22 : PySem.W.nsIn K mainGlobals "_never_below" = some (some (.ref f22)))
    (l22 : K.lookup f22 = some ⟨oc22, od22, .func (PySem.W.fnOf "_never_below" "_never_below" (defArgs (top 38)) (defBody (top 38)) (defScope (top 38)) .none kV22 dc22 pm22 an22 cd22 ct22), sl22⟩)
    (c22 : PySem.W.codeIn K cd22 "_never_below" = true)
    (k22 : PySem.W.keepIn K (.ref f22) = true)
    (a23 : PySem.W.nsIn K mainGlobals "_minor" = some (some (.ref f23)))
    (l23 : K.lookup f23 = some ⟨oc23, od23, .func (PySem.W.fnOf "_minor" "_minor" (defArgs (top 39)) (defBody (top 39)) (defScope (top 39)) .none kV23 dc23 pm23 an23 cd23 ct23), sl23⟩)
    (c23 : PySem.W.codeIn K cd23 "_minor" = true)
    (k23 : PySem.W.keepIn K (.ref f23) = true)
    (a24 : PySem.W.nsIn K mainGlobals "_pairs" = some (some (.ref f24)))
    (l24 : K.lookup f24 = some ⟨oc24, od24, .func (PySem.W.fnOf "_pairs" "_pairs" (defArgs (top 40)) (defBody (top 40)) (defScope (top 40)) .none kV24 dc24 pm24 an24 cd24 ct24), sl24⟩)
    (c24 : PySem.W.codeIn K cd24 "_pairs" = true)
    (k24 : PySem.W.keepIn K (.ref f24) = true)
    (a25 : PySem.W.nsIn K mainGlobals "_place" = some (some (.ref f25)))
    (l25 : K.lookup f25 = some ⟨oc25, od25, .func (PySem.W.fnOf "_place" "_place" (defArgs (top 41)) (defBody (top 41)) (defScope (top 41)) .none kV25 dc25 pm25 an25 cd25 ct25), sl25⟩)
    (c25 : PySem.W.codeIn K cd25 "_place" = true)
    (k25 : PySem.W.keepIn K (.ref f25) = true)
    (a26 : PySem.W.nsIn K mainGlobals "_side" = some (some (.ref f26)))
    (l26 : K.lookup f26 = some ⟨oc26, od26, .func (PySem.W.fnOf "_side" "_side" (defArgs (top 42)) (defBody (top 42)) (defScope (top 42)) .none kV26 dc26 pm26 an26 cd26 ct26), sl26⟩)
    (c26 : PySem.W.codeIn K cd26 "_side" = true)
    (k26 : PySem.W.keepIn K (.ref f26) = true)
    (a27 : PySem.W.nsIn K mainGlobals "_about" = some (some (.ref f27)))
    (l27 : K.lookup f27 = some ⟨oc27, od27, .func (PySem.W.fnOf "_about" "_about" (defArgs (top 43)) (defBody (top 43)) (defScope (top 43)) .none kV27 dc27 pm27 an27 cd27 ct27), sl27⟩)
    (c27 : PySem.W.codeIn K cd27 "_about" = true)
    (k27 : PySem.W.keepIn K (.ref f27) = true)
    (a28 : PySem.W.nsIn K mainGlobals "_lower_root" = some (some (.ref f28)))
    (l28 : K.lookup f28 = some ⟨oc28, od28, .func (PySem.W.fnOf "_lower_root" "_lower_root" (defArgs (top 44)) (defBody (top 44)) (defScope (top 44)) .none kV28 dc28 pm28 an28 cd28 ct28), sl28⟩)
    (c28 : PySem.W.codeIn K cd28 "_lower_root" = true)
    (k28 : PySem.W.keepIn K (.ref f28) = true)
    (a29 : PySem.W.nsIn K mainGlobals "mends" = some (some (.ref f29)))
    (l29 : K.lookup f29 = some ⟨oc29, od29, .func (PySem.W.fnOf "mends" "mends" (defArgs (top 46)) (defBody (top 46)) (defScope (top 46)) .none kV29 dc29 pm29 an29 cd29 ct29), sl29⟩)
    (c29 : PySem.W.codeIn K cd29 "mends" = true)
    (k29 : PySem.W.keepIn K (.ref f29) = true)
    (a30 : PySem.W.nsIn K mainGlobals "is_wish" = some (some (.ref f30)))
    (l30 : K.lookup f30 = some ⟨oc30, od30, .func (PySem.W.fnOf "is_wish" "is_wish" (defArgs (top 47)) (defBody (top 47)) (defScope (top 47)) .none kV30 dc30 pm30 an30 cd30 ct30), sl30⟩)
    (c30 : PySem.W.codeIn K cd30 "is_wish" = true)
    (k30 : PySem.W.keepIn K (.ref f30) = true)
    (a31 : PySem.W.nsIn K mainGlobals "does_hold" = some (some (.ref f31)))
    (l31 : K.lookup f31 = some ⟨oc31, od31, .func (PySem.W.fnOf "does_hold" "does_hold" (defArgs (top 48)) (defBody (top 48)) (defScope (top 48)) .none kV31 dc31 pm31 an31 cd31 ct31), sl31⟩)
    (c31 : PySem.W.codeIn K cd31 "does_hold" = true)
    (k31 : PySem.W.keepIn K (.ref f31) = true)
    (a32 : PySem.W.nsIn K mainGlobals "_check_wishes" = some (some (.ref f32)))
    (l32 : K.lookup f32 = some ⟨oc32, od32, .func (PySem.W.fnOf "_check_wishes" "_check_wishes" (defArgs (top 49)) (defBody (top 49)) (defScope (top 49)) .none kV32 dc32 pm32 an32 cd32 ct32), sl32⟩)
    (c32 : PySem.W.codeIn K cd32 "_check_wishes" = true)
    (k32 : PySem.W.keepIn K (.ref f32) = true)
    (a33 : PySem.W.nsIn K mainGlobals "_check_changes" = some (some (.ref f33)))
    (l33 : K.lookup f33 = some ⟨oc33, od33, .func (PySem.W.fnOf "_check_changes" "_check_changes" (defArgs (top 50)) (defBody (top 50)) (defScope (top 50)) .none kV33 dc33 pm33 an33 cd33 ct33), sl33⟩)
    (c33 : PySem.W.codeIn K cd33 "_check_changes" = true)
    (k33 : PySem.W.keepIn K (.ref f33) = true)
    (a34 : PySem.W.nsIn K mainGlobals "_has_part" = some (some (.ref f34)))
    (l34 : K.lookup f34 = some ⟨oc34, od34, .func (PySem.W.fnOf "_has_part" "_has_part" (defArgs (top 51)) (defBody (top 51)) (defScope (top 51)) .none kV34 dc34 pm34 an34 cd34 ct34), sl34⟩)
    (c34 : PySem.W.codeIn K cd34 "_has_part" = true)
    (k34 : PySem.W.keepIn K (.ref f34) = true)
    (a35 : PySem.W.nsIn K mainGlobals "_mend" = some (some (.ref f35)))
    (l35 : K.lookup f35 = some ⟨oc35, od35, .func (PySem.W.fnOf "_mend" "_mend" (defArgs (top 52)) (defBody (top 52)) (defScope (top 52)) .none kV35 dc35 pm35 an35 cd35 ct35), sl35⟩)
    (c35 : PySem.W.codeIn K cd35 "_mend" = true)
    (k35 : PySem.W.keepIn K (.ref f35) = true)
    (a36 : PySem.W.nsIn K mainGlobals "_law_well" = some (some (.ref f36)))
    (l36 : K.lookup f36 = some ⟨oc36, od36, .func (PySem.W.fnOf "_law_well" "_law_well" (defArgs (top 54)) (defBody (top 54)) (defScope (top 54)) .none kV36 dc36 pm36 an36 cd36 ct36), sl36⟩)
    (c36 : PySem.W.codeIn K cd36 "_law_well" = true)
    (k36 : PySem.W.keepIn K (.ref f36) = true)
    (a37 : PySem.W.nsIn K mainGlobals "_law_draw" = some (some (.ref f37)))
    (l37 : K.lookup f37 = some ⟨oc37, od37, .func (PySem.W.fnOf "_law_draw" "_law_draw" (defArgs (top 55)) (defBody (top 55)) (defScope (top 55)) .none kV37 dc37 pm37 an37 cd37 ct37), sl37⟩)
    (c37 : PySem.W.codeIn K cd37 "_law_draw" = true)
    (k37 : PySem.W.keepIn K (.ref f37) = true)
    (a38 : PySem.W.nsIn K mainGlobals "_law_right" = some (some (.ref f38)))
    (l38 : K.lookup f38 = some ⟨oc38, od38, .func (PySem.W.fnOf "_law_right" "_law_right" (defArgs (top 56)) (defBody (top 56)) (defScope (top 56)) .none kV38 dc38 pm38 an38 cd38 ct38), sl38⟩)
    (c38 : PySem.W.codeIn K cd38 "_law_right" = true)
    (k38 : PySem.W.keepIn K (.ref f38) = true)
    (a39 : PySem.W.nsIn K mainGlobals "law" = some (some (.ref f39)))
    (l39 : K.lookup f39 = some ⟨oc39, od39, .func (PySem.W.fnOf "law" "law" (defArgs (top 57)) (defBody (top 57)) (defScope (top 57)) .none kV39 dc39 pm39 an39 cd39 ct39), sl39⟩)
    (c39 : PySem.W.codeIn K cd39 "law" = true)
    (k39 : PySem.W.keepIn K (.ref f39) = true)
    (aC : PySem.W.nsIn K mainGlobals "Row" = some (some (.ref C)))
    (pg : PySem.W.plainGet K C Str.empty = true)
    (hd : PySem.W.hasDictIn K C = true)
    (po : PySem.W.plainOver K C = true)
    (sa : PySem.W.findIn K (.ref C) "__setattr__" = some (some (.builtin "object.__setattr__")))
    (mk : PySem.W.makesIn K C = true)
    (kc : PySem.W.keepIn K (.ref C) = true)
    (nC : PySem.W.findIn K (.ref C) "_counts" = some none)
    (xa : PySem.W.findIn K (.ref C) "__class__" = some (some (.builtin "object.__class__")))
    (xn : PySem.W.specialIn K (.builtin "object.__class__") "__get__" = some (some (.builtin "getset_descriptor.__get__")))
    (xt : PySem.W.takesIn K (.builtin "object.__class__") = some true)
    (xm : PySem.W.mroIn K C (.type "object") = some true)
    (a40 : PySem.W.findIn K (.ref C) "__init__" = some (some (.ref f40)))
    (i40 : PySem.W.isFn K (.ref f40) = true)
    (l40 : K.lookup f40 = some ⟨oc40, od40, .func (PySem.W.fnOf "__init__" "Row.__init__" (defArgs (inClass (top 20) 0)) (defBody (inClass (top 20) 0)) (defScope (inClass (top 20) 0)) .none kV40 dc40 pm40 an40 cd40 ct40), sl40⟩)
    (c40 : PySem.W.codeIn K cd40 "Row.__init__" = true)
    (k40 : PySem.W.keepIn K (.ref f40) = true)
    (a41 : PySem.W.findIn K (.ref C) "__eq__" = some (some (.ref f41)))
    (i41 : PySem.W.isFn K (.ref f41) = true)
    (l41 : K.lookup f41 = some ⟨oc41, od41, .func (PySem.W.fnOf "__eq__" "Row.__eq__" (defArgs (inClass (top 20) 7)) (defBody (inClass (top 20) 7)) (defScope (inClass (top 20) 7)) .none kV41 dc41 pm41 an41 cd41 ct41), sl41⟩)
    (c41 : PySem.W.codeIn K cd41 "Row.__eq__" = true)
    (k41 : PySem.W.keepIn K (.ref f41) = true)
    (a42 : PySem.W.findIn K (.ref C) "counts" = some (some (.ref p42)))
    (g42 : PySem.W.specialIn K (.ref p42) "__get__" = some (some (.builtin "property.__get__")))
    (t42 : PySem.W.takesIn K (.ref p42) = some true)
    (r42r : PySem.W.recIn K p42 "property" = some (.ref f42 :: r42))
    (l42 : K.lookup f42 = some ⟨oc42, od42, .func (PySem.W.fnOf "counts" "Row.counts" (defArgs (inClass (top 20) 2)) (defBody (inClass (top 20) 2)) (defScope (inClass (top 20) 2)) .none kV42 dc42 pm42 an42 cd42 ct42), sl42⟩)
    (c42 : PySem.W.codeIn K cd42 "Row.counts" = true)
    (k42 : PySem.W.keepIn K (.ref f42) = true)
    (a43 : PySem.W.findIn K (.ref C) "draws" = some (some (.ref p43)))
    (g43 : PySem.W.specialIn K (.ref p43) "__get__" = some (some (.builtin "property.__get__")))
    (t43 : PySem.W.takesIn K (.ref p43) = some true)
    (r43r : PySem.W.recIn K p43 "property" = some (.ref f43 :: r43))
    (l43 : K.lookup f43 = some ⟨oc43, od43, .func (PySem.W.fnOf "draws" "Row.draws" (defArgs (inClass (top 20) 4)) (defBody (inClass (top 20) 4)) (defScope (inClass (top 20) 4)) .none kV43 dc43 pm43 an43 cd43 ct43), sl43⟩)
    (c43 : PySem.W.codeIn K cd43 "Row.draws" = true)
    (k43 : PySem.W.keepIn K (.ref f43) = true)
    (a44 : PySem.W.findIn K (.ref C) "text" = some (some (.ref p44)))
    (g44 : PySem.W.specialIn K (.ref p44) "__get__" = some (some (.builtin "property.__get__")))
    (t44 : PySem.W.takesIn K (.ref p44) = some true)
    (r44r : PySem.W.recIn K p44 "property" = some (.ref f44 :: r44))
    (l44 : K.lookup f44 = some ⟨oc44, od44, .func (PySem.W.fnOf "text" "Row.text" (defArgs (inClass (top 20) 5)) (defBody (inClass (top 20) 5)) (defScope (inClass (top 20) 5)) .none kV44 dc44 pm44 an44 cd44 ct44), sl44⟩)
    (c44 : PySem.W.codeIn K cd44 "Row.text" = true)
    (k44 : PySem.W.keepIn K (.ref f44) = true)
    (lC : K.lookup C = some (excClassObj nm qn C N bs [.type "object"] hdct sn sub ab col dd q0 q1 q2 q3 q5 newId))
    (okN : PySem.W.nsOkIn K N = true)
    (n1 : PySem.W.nsIn K N "__eq__" = some (some (.ref f41)))
    (n2 : PySem.W.nsIn K N "__ne__" = some none)
    (ocf : oc41 = .type "function")
    (a45 : PySem.W.findIn K (.ref C) "changed" = some (some (.ref f45)))
    (i45 : PySem.W.isFn K (.ref f45) = true)
    (l45 : K.lookup f45 = some ⟨oc45, od45, .func (PySem.W.fnOf "changed" "Row.changed" (defArgs (inClass (top 20) 6)) (defBody (inClass (top 20) 6)) (defScope (inClass (top 20) 6)) .none kV45 dc45 pm45 an45 cd45 ct45), sl45⟩)
    (c45 : PySem.W.codeIn K cd45 "Row.changed" = true)
    (k45 : PySem.W.keepIn K (.ref f45) = true)
    (n46w : PySem.W.nsIn K N "__len__" = some (some (.ref f46)))
    (l46 : K.lookup f46 = some ⟨oc46, od46, .func (PySem.W.fnOf "__len__" "Row.__len__" (defArgs (inClass (top 20) 8)) (defBody (inClass (top 20) 8)) (defScope (inClass (top 20) 8)) .none kV46 dc46 pm46 an46 cd46 ct46), sl46⟩)
    (c46 : PySem.W.codeIn K cd46 "Row.__len__" = true)
    (k46 : PySem.W.keepIn K (.ref f46) = true)
    (oc46w : oc46 = .type "function")
    (n47w : PySem.W.nsIn K N "__repr__" = some (some (.ref f47)))
    (l47 : K.lookup f47 = some ⟨oc47, od47, .func (PySem.W.fnOf "__repr__" "Row.__repr__" (defArgs (inClass (top 20) 10)) (defBody (inClass (top 20) 10)) (defScope (inClass (top 20) 10)) .none kV47 dc47 pm47 an47 cd47 ct47), sl47⟩)
    (c47 : PySem.W.codeIn K cd47 "Row.__repr__" = true)
    (k47 : PySem.W.keepIn K (.ref f47) = true)
    (oc47w : oc47 = .type "function")
    (no__bool__ : PySem.W.nsIn K N "__bool__" = some none)
    (rdC : PySem.W.readsIn K C (.type "type") = true)
    (gaC : PySem.W.specialIn K (.ref C) "__getattribute__" = some (some (.builtin "type.__getattribute__")))
    (a48w : PySem.W.findIn K (.ref C) "read" = some (some (.ref p48)))
    (r48r : PySem.W.recIn K p48 "classmethod" = some (.ref f48 :: r48))
    (a48 : PySem.W.findCls K (.ref C) (.type "type") "read" = some (.get (.builtin "classmethod.__get__") (.ref p48) .none (.ref C)))
    (fi48 : PySem.W.fnIn K f48 = true)
    (l48 : K.lookup f48 = some ⟨oc48, od48, .func (PySem.W.fnOf "read" "Row.read" (defArgs (inClass (top 20) 1)) (defBody (inClass (top 20) 1)) (defScope (inClass (top 20) 1)) .none kV48 dc48 pm48 an48 cd48 ct48), sl48⟩)
    (c48 : PySem.W.codeIn K cd48 "Row.read" = true)
    (k48 : PySem.W.keepIn K (.ref f48) = true)
    (opq : PySem.W.nsIn K cStatics "thirdparty.any" = some none)
    (tops : (l.prog.main.scope.names.lookup ("super" : Str)).isSome = false)
    (z_super : PySem.W.nsIn K mainGlobals "super" = some none)
    (ge_eC0 : PySem.W.nsIn K mainGlobals "InvalidText" = some (some (.ref eC0)))
    (lCx0 : K.lookup eC0 = some (excClassObj nmIx0 qnIx0 eC0 NIx0 bsIx0 bmIx0 true snIx0 subIx0 abIx0 colIx0 ddIx0 q0x0 q1x0 q2x0 q3x0 q5x0 "ValueError.__new__"))
    (rfx0 : PySem.HandSPX.refsVE bmIx0 = true)
    (sax0 : PySem.W.findIn K (.ref eC0) "__setattr__" = some (some (.builtin "object.__setattr__")))
    (sbx0 : PySem.W.subIn K (.ref eC0) (.type "BaseException") = some true)
    (tyx0 : PySem.W.typeIn K (.ref eC0) = some (.type "type"))
    (kCx0 : PySem.W.keepIn K (.ref eC0) = true)
    (nfx0 : PySem.W.findIn K (.ref eC0) "given" = some none)
    (ax0 : PySem.W.findIn K (.ref eC0) "__init__" = some (some (.ref fIx0)))
    (lx0 : K.lookup fIx0 = some ⟨ocx0, odx0, .func (PySem.W.fnX "__init__" "InvalidText.__init__" (defArgs (inClass (top 4) 0)) (defBody (inClass (top 4) 0)) (defScope (inClass (top 4) 0)) [("__class__", ccIx0)] .none kVx0 dcx0 pmx0 anx0 (.ref cdIx0) ctx0), slx0⟩)
    (cx0 : PySem.W.codeIn K (.ref cdIx0) "InvalidText.__init__" = true)
    (lcdx0 : K.lookup cdIx0 = some ⟨cclx0, cddx0, .fields vsx0, ccsx0⟩)
    (rowx0 : vsx0[2]? = some (.str fileIx0 tfx0))
    (filx0 : ((l.prog.main.file : Str) == fileIx0) = true)
    (lccx0 : K.lookup ccIx0 = some ⟨clx0, cldx0, .cell (some (.ref eC0)), cslx0⟩)
    (supx0 : PySem.W.ks_superIn K eC0 eC0 "__init__" = some (some (.builtin "ValueError.__init__")))
    (sbvx0 : PySem.W.subIn K (.ref eC0) (.type "ValueError") = some true)
    (mrx0 : PySem.W.mroIn K eC0 (.ref eC0) = some true)
    (tyfx0 : PySem.W.typeIn K (.ref fIx0) = some (.type "function"))
    (ge_eC1 : PySem.W.nsIn K mainGlobals "InvalidChanges" = some (some (.ref eC1)))
    (lCx1 : K.lookup eC1 = some (excClassObj nmIx1 qnIx1 eC1 NIx1 bsIx1 bmIx1 true snIx1 subIx1 abIx1 colIx1 ddIx1 q0x1 q1x1 q2x1 q3x1 q5x1 "ValueError.__new__"))
    (rfx1 : PySem.HandSPX.refsVE bmIx1 = true)
    (sax1 : PySem.W.findIn K (.ref eC1) "__setattr__" = some (some (.builtin "object.__setattr__")))
    (sbx1 : PySem.W.subIn K (.ref eC1) (.type "BaseException") = some true)
    (tyx1 : PySem.W.typeIn K (.ref eC1) = some (.type "type"))
    (kCx1 : PySem.W.keepIn K (.ref eC1) = true)
    (nfx1 : PySem.W.findIn K (.ref eC1) "index" = some none)
    (ax1 : PySem.W.findIn K (.ref eC1) "__init__" = some (some (.ref fIx1)))
    (lx1 : K.lookup fIx1 = some ⟨ocx1, odx1, .func (PySem.W.fnX "__init__" "InvalidChanges.__init__" (defArgs (inClass (top 7) 0)) (defBody (inClass (top 7) 0)) (defScope (inClass (top 7) 0)) [("__class__", ccIx1)] .none kVx1 dcx1 pmx1 anx1 (.ref cdIx1) ctx1), slx1⟩)
    (cx1 : PySem.W.codeIn K (.ref cdIx1) "InvalidChanges.__init__" = true)
    (lcdx1 : K.lookup cdIx1 = some ⟨cclx1, cddx1, .fields vsx1, ccsx1⟩)
    (rowx1 : vsx1[2]? = some (.str fileIx1 tfx1))
    (filx1 : ((l.prog.main.file : Str) == fileIx1) = true)
    (lccx1 : K.lookup ccIx1 = some ⟨clx1, cldx1, .cell (some (.ref eC1)), cslx1⟩)
    (supx1 : PySem.W.ks_superIn K eC1 eC1 "__init__" = some (some (.builtin "ValueError.__init__")))
    (sbvx1 : PySem.W.subIn K (.ref eC1) (.type "ValueError") = some true)
    (mrx1 : PySem.W.mroIn K eC1 (.ref eC1) = some true)
    (tyfx1 : PySem.W.typeIn K (.ref fIx1) = some (.type "function"))
    (ex1 : PySem.W.exmAny K (.ref eC1) [.ref eC1, .ref eC0] = some true)
    (ex2 : PySem.W.exmAny K (.ref eC0) [.ref eC1, .ref eC0] = some true)
    (c_gcd : PySem.W.nsIn K mainGlobals "gcd" = some (some (.builtin "math.gcd")))
    (c_comb : PySem.W.nsIn K mainGlobals "comb" = some (some (.builtin "math.comb")))
    (c_factorial : PySem.W.nsIn K mainGlobals "factorial" = some (some (.builtin "math.factorial")))
    (c_perm : PySem.W.nsIn K mainGlobals "perm" = some (some (.builtin "math.perm")))
    (c_isqrt : PySem.W.nsIn K mainGlobals "isqrt" = some (some (.builtin "math.isqrt")))
    (c_MOST_DRAWS : PySem.W.nsIn K mainGlobals "MOST_DRAWS" = some (some (.int 5 tk)))
    (c__WIDTH : PySem.W.nsIn K mainGlobals "_WIDTH" = some (some (.int 60 tk2)))
    (c__STEP : PySem.W.nsIn K mainGlobals "_STEP" = some (some (.int (10 ^ 60) tk3)))
    (c_MOST_CHANGES : PySem.W.nsIn K mainGlobals "MOST_CHANGES" = some (some (.int 6 tk4)))
    (z_len : PySem.W.nsIn K mainGlobals "len" = some none)
    (z_abs : PySem.W.nsIn K mainGlobals "abs" = some none)
    (z_max : PySem.W.nsIn K mainGlobals "max" = some none)
    (z_min : PySem.W.nsIn K mainGlobals "min" = some none)
    (z_sum : PySem.W.nsIn K mainGlobals "sum" = some none)
    (z_range : PySem.W.nsIn K mainGlobals "range" = some none)
    (z_tuple : PySem.W.nsIn K mainGlobals "tuple" = some none)
    (z_int : PySem.W.nsIn K mainGlobals "int" = some none)
    (z_divmod : PySem.W.nsIn K mainGlobals "divmod" = some none)
    (z_all : PySem.W.nsIn K mainGlobals "all" = some none)
    (z_repr : PySem.W.nsIn K mainGlobals "repr" = some none)
    (z_isinstance : PySem.W.nsIn K mainGlobals "isinstance" = some none)
    (z_enumerate : PySem.W.nsIn K mainGlobals "enumerate" = some none)
    (z_bool : PySem.W.nsIn K mainGlobals "bool" = some none)
    (z_zip : PySem.W.nsIn K mainGlobals "zip" = some none)
    (z_str : PySem.W.nsIn K mainGlobals "str" = some none)
    (z_list : PySem.W.nsIn K mainGlobals "list" = some none)
    (z_sorted : PySem.W.nsIn K mainGlobals "sorted" = some none)
    (z_any : PySem.W.nsIn K mainGlobals "any" = some none)
    : ∃ fd : FuncData, (∀ (s : Shared) (u : Value), BindsTo s fd ⟨[u], []⟩ [("script", u)]) ∧ ∀ base : Heap, K.In base → base.Ns mainGlobals mg → FnG l.prog w K mg base 13 fa fd ["script"] (spLaw K) := by
  have e := hfa.symm.trans (PySem.W.mg_of X G a39)
  cases e
  have Dis_whole : Df K mg "is_whole" (top 12) ["value"] := ⟨f1, _, fun_mk (st := (top 12)) l1 c1 k1, PySem.W.mg_of X G a1, (fun_mk (st := (top 12)) l1 c1 k1).binds (ps := ["value"]) fun _ _ _ _ _ _ us hl => match us, hl with | [_], _ => rfl⟩
  have Dis_fraction : Df K mg "is_fraction" (top 13) ["value"] := ⟨f2, _, fun_mk (st := (top 13)) l2 c2 k2, PySem.W.mg_of X G a2, (fun_mk (st := (top 13)) l2 c2 k2).binds (ps := ["value"]) fun _ _ _ _ _ _ us hl => match us, hl with | [_], _ => rfl⟩
  have Dis_decimal : Df K mg "is_decimal" (top 14) ["word"] := ⟨f3, _, fun_mk (st := (top 14)) l3 c3 k3, PySem.W.mg_of X G a3, (fun_mk (st := (top 14)) l3 c3 k3).binds (ps := ["word"]) fun _ _ _ _ _ _ us hl => match us, hl with | [_], _ => rfl⟩
  have Dread_decimal : Df K mg "read_decimal" (top 15) ["word"] := ⟨f4, _, fun_mk (st := (top 15)) l4 c4 k4, PySem.W.mg_of X G a4, (fun_mk (st := (top 15)) l4 c4 k4).binds (ps := ["word"]) fun _ _ _ _ _ _ us hl => match us, hl with | [_], _ => rfl⟩
  have Dwrite_decimal : Df K mg "write_decimal" (top 16) ["number"] := ⟨f5, _, fun_mk (st := (top 16)) l5 c5 k5, PySem.W.mg_of X G a5, (fun_mk (st := (top 16)) l5 c5 k5).binds (ps := ["number"]) fun _ _ _ _ _ _ us hl => match us, hl with | [_], _ => rfl⟩
  have Dcheck_row : Df K mg "check_row" (top 21) ["row"] := ⟨f6, _, fun_mk (st := (top 21)) l6 c6 k6, PySem.W.mg_of X G a6, (fun_mk (st := (top 21)) l6 c6 k6).binds (ps := ["row"]) fun _ _ _ _ _ _ us hl => match us, hl with | [_], _ => rfl⟩
  have Dis_change : Df K mg "is_change" (top 22) ["value", "lines"] := ⟨f7, _, fun_mk (st := (top 22)) l7 c7 k7, PySem.W.mg_of X G a7, (fun_mk (st := (top 22)) l7 c7 k7).binds (ps := ["value", "lines"]) fun _ _ _ _ _ _ us hl => match us, hl with | [_, _], _ => rfl⟩
  have D_check_counts : Df K mg "_check_counts" (top 23) ["counts"] := ⟨f8, _, fun_mk (st := (top 23)) l8 c8 k8, PySem.W.mg_of X G a8, (fun_mk (st := (top 23)) l8 c8 k8).binds (ps := ["counts"]) fun _ _ _ _ _ _ us hl => match us, hl with | [_], _ => rfl⟩
  have D_told_counts : Df K mg "_told_counts" (top 24) ["text"] := ⟨f9, _, fun_mk (st := (top 24)) l9 c9 k9, PySem.W.mg_of X G a9, (fun_mk (st := (top 24)) l9 c9 k9).binds (ps := ["text"]) fun _ _ _ _ _ _ us hl => match us, hl with | [_], _ => rfl⟩
  have D_placed : Df K mg "_placed" (top 25) ["changes", "lines"] := ⟨f10, _, fun_mk (st := (top 25)) l10 c10 k10, PySem.W.mg_of X G a10, (fun_mk (st := (top 25)) l10 c10 k10).binds (ps := ["changes", "lines"]) fun _ _ _ _ _ _ us hl => match us, hl with | [_, _], _ => rfl⟩
  have Dalways : Df K mg "always" (top 27) ["row"] := ⟨f11, _, fun_mk (st := (top 27)) l11 c11 k11, PySem.W.mg_of X G a11, (fun_mk (st := (top 27)) l11 c11 k11).binds (ps := ["row"]) fun _ _ _ _ _ _ us hl => match us, hl with | [_], _ => rfl⟩
  have Ddoes_come : Df K mg "does_come" (top 28) ["row", "slips"] := ⟨f12, _, fun_mk (st := (top 28)) l12 c12 k12, PySem.W.mg_of X G a12, (fun_mk (st := (top 28)) l12 c12 k12).binds (ps := ["row", "slips"]) fun _ _ _ _ _ _ us hl => match us, hl with | [_, _], _ => rfl⟩
  have Dyes_sums : Df K mg "yes_sums" (top 29) ["counts"] := ⟨f13, _, fun_mk (st := (top 29)) l13 c13 k13, PySem.W.mg_of X G a13, (fun_mk (st := (top 29)) l13 c13 k13).binds (ps := ["counts"]) fun _ _ _ _ _ _ us hl => match us, hl with | [_], _ => rfl⟩
  have Drow_sums : Df K mg "row_sums" (top 30) ["counts", "slips"] := ⟨f14, _, fun_mk (st := (top 30)) l14 c14 k14, PySem.W.mg_of X G a14, (fun_mk (st := (top 30)) l14 c14 k14).binds (ps := ["counts", "slips"]) fun _ _ _ _ _ _ us hl => match us, hl with | [_, _], _ => rfl⟩
  have Dtimes : Df K mg "times" (top 31) ["sums", "points"] := ⟨f15, _, fun_mk (st := (top 31)) l15 c15 k15, PySem.W.mg_of X G a15, (fun_mk (st := (top 31)) l15 c15 k15).binds (ps := ["sums", "points"]) fun _ _ _ _ _ _ us hl => match us, hl with | [_, _], _ => rfl⟩
  have Dmean_on : Df K mg "mean_on" (top 32) ["sums", "points", "slips"] := ⟨f16, _, fun_mk (st := (top 32)) l16 c16 k16, PySem.W.mg_of X G a16, (fun_mk (st := (top 32)) l16 c16 k16).binds (ps := ["sums", "points", "slips"]) fun _ _ _ _ _ _ us hl => match us, hl with | [_, _, _], _ => rfl⟩
  have Dlowest_points : Df K mg "lowest_points" (top 33) ["sums", "many", "slips"] := ⟨f17, _, fun_mk (st := (top 33)) l17 c17 k17, PySem.W.mg_of X G a17, (fun_mk (st := (top 33)) l17 c17 k17).binds (ps := ["sums", "many", "slips"]) fun _ _ _ _ _ _ us hl => match us, hl with | [_, _, _], _ => rfl⟩
  have Dhighest_points : Df K mg "highest_points" (top 34) ["sums", "many", "slips"] := ⟨f18, _, fun_mk (st := (top 34)) l18 c18 k18, PySem.W.mg_of X G a18, (fun_mk (st := (top 34)) l18 c18 k18).binds (ps := ["sums", "many", "slips"]) fun _ _ _ _ _ _ us hl => match us, hl with | [_, _, _], _ => rfl⟩
  have Dbroken_points : Df K mg "broken_points" (top 35) ["sums", "slips"] := ⟨f19, _, fun_mk (st := (top 35)) l19 c19 k19, PySem.W.mg_of X G a19, (fun_mk (st := (top 35)) l19 c19 k19).binds (ps := ["sums", "slips"]) fun _ _ _ _ _ _ us hl => match us, hl with | [_, _], _ => rfl⟩
  have Dchoices : Df K mg "choices" (top 36) ["most", "many"] := ⟨f20, _, fun_mk (st := (top 36)) l20 c20 k20, PySem.W.mg_of X G a20, (fun_mk (st := (top 36)) l20 c20 k20).binds (ps := ["most", "many"]) fun _ _ _ _ _ _ us hl => match us, hl with | [_, _], _ => rfl⟩
  have D_table : Df K mg "_table" (top 37) ["chances", "size"] := ⟨f21, _, fun_mk (st := (top 37)) l21 c21 k21, PySem.W.mg_of X G a21, (fun_mk (st := (top 37)) l21 c21 k21).binds (ps := ["chances", "size"]) fun _ _ _ _ _ _ us hl => match us, hl with | [_, _], _ => rfl⟩
  have D_never_below : Df K mg "_never_below" (top 38) ["table"] := ⟨f22, _, fun_mk (st := (top 38)) l22 c22 k22, PySem.W.mg_of X G a22, (fun_mk (st := (top 38)) l22 c22 k22).binds (ps := ["table"]) fun _ _ _ _ _ _ us hl => match us, hl with | [_], _ => rfl⟩
  have D_minor : Df K mg "_minor" (top 39) ["table"] := ⟨f23, _, fun_mk (st := (top 39)) l23 c23 k23, PySem.W.mg_of X G a23, (fun_mk (st := (top 39)) l23 c23 k23).binds (ps := ["table"]) fun _ _ _ _ _ _ us hl => match us, hl with | [_], _ => rfl⟩
  have D_pairs : Df K mg "_pairs" (top 40) ["sums", "many", "least", "most", "taken"] := ⟨f24, _, fun_mk (st := (top 40)) l24 c24 k24, PySem.W.mg_of X G a24, (fun_mk (st := (top 40)) l24 c24 k24).binds (ps := ["sums", "many", "least", "most", "taken"]) fun _ _ _ _ _ _ us hl => match us, hl with | [_, _, _, _, _], _ => rfl⟩
  have D_place : Df K mg "_place" (top 41) ["at", "taken"] := ⟨f25, _, fun_mk (st := (top 41)) l25 c25 k25, PySem.W.mg_of X G a25, (fun_mk (st := (top 41)) l25 c25 k25).binds (ps := ["at", "taken"]) fun _ _ _ _ _ _ us hl => match us, hl with | [_, _], _ => rfl⟩
  have D_side : Df K mg "_side" (top 42) ["rest", "pair", "others"] := ⟨f26, _, fun_mk (st := (top 42)) l26 c26 k26, PySem.W.mg_of X G a26, (fun_mk (st := (top 42)) l26 c26 k26).binds (ps := ["rest", "pair", "others"]) fun _ _ _ _ _ _ us hl => match us, hl with | [_, _, _], _ => rfl⟩
  have D_about : Df K mg "_about" (top 43) ["sums", "many", "taken"] := ⟨f27, _, fun_mk (st := (top 43)) l27 c27 k27, PySem.W.mg_of X G a27, (fun_mk (st := (top 43)) l27 c27 k27).binds (ps := ["sums", "many", "taken"]) fun _ _ _ _ _ _ us hl => match us, hl with | [_, _, _], _ => rfl⟩
  have D_lower_root : Df K mg "_lower_root" (top 44) ["sums"] := ⟨f28, _, fun_mk (st := (top 44)) l28 c28 k28, PySem.W.mg_of X G a28, (fun_mk (st := (top 44)) l28 c28 k28).binds (ps := ["sums"]) fun _ _ _ _ _ _ us hl => match us, hl with | [_], _ => rfl⟩
  have Dmends : Df K mg "mends" (top 46) ["row", "wishes", "changes"] := ⟨f29, _, fun_mk (st := (top 46)) l29 c29 k29, PySem.W.mg_of X G a29, (fun_mk (st := (top 46)) l29 c29 k29).binds (ps := ["row", "wishes", "changes"]) fun _ _ _ _ _ _ us hl => match us, hl with | [_, _, _], _ => rfl⟩
  have Dis_wish : Df K mg "is_wish" (top 47) ["value"] := ⟨f30, _, fun_mk (st := (top 47)) l30 c30 k30, PySem.W.mg_of X G a30, (fun_mk (st := (top 47)) l30 c30 k30).binds (ps := ["value"]) fun _ _ _ _ _ _ us hl => match us, hl with | [_], _ => rfl⟩
  have Ddoes_hold : Df K mg "does_hold" (top 48) ["row", "wish"] := ⟨f31, _, fun_mk (st := (top 48)) l31 c31 k31, PySem.W.mg_of X G a31, (fun_mk (st := (top 48)) l31 c31 k31).binds (ps := ["row", "wish"]) fun _ _ _ _ _ _ us hl => match us, hl with | [_, _], _ => rfl⟩
  have D_check_wishes : Df K mg "_check_wishes" (top 49) ["wishes"] := ⟨f32, _, fun_mk (st := (top 49)) l32 c32 k32, PySem.W.mg_of X G a32, (fun_mk (st := (top 49)) l32 c32 k32).binds (ps := ["wishes"]) fun _ _ _ _ _ _ us hl => match us, hl with | [_], _ => rfl⟩
  have D_check_changes : Df K mg "_check_changes" (top 50) ["row", "changes"] := ⟨f33, _, fun_mk (st := (top 50)) l33 c33 k33, PySem.W.mg_of X G a33, (fun_mk (st := (top 50)) l33 c33 k33).binds (ps := ["row", "changes"]) fun _ _ _ _ _ _ us hl => match us, hl with | [_, _], _ => rfl⟩
  have D_has_part : Df K mg "_has_part" (top 51) ["some", "found"] := ⟨f34, _, fun_mk (st := (top 51)) l34 c34 k34, PySem.W.mg_of X G a34, (fun_mk (st := (top 51)) l34 c34 k34).binds (ps := ["some", "found"]) fun _ _ _ _ _ _ us hl => match us, hl with | [_, _], _ => rfl⟩
  have D_mend : Df K mg "_mend" (top 52) ["row", "wishes", "changes"] := ⟨f35, _, fun_mk (st := (top 52)) l35 c35 k35, PySem.W.mg_of X G a35, (fun_mk (st := (top 52)) l35 c35 k35).binds (ps := ["row", "wishes", "changes"]) fun _ _ _ _ _ _ us hl => match us, hl with | [_, _, _], _ => rfl⟩
  have D_law_well : Df K mg "_law_well" (top 54) ["script", "spot"] := ⟨f36, _, fun_mk (st := (top 54)) l36 c36 k36, PySem.W.mg_of X G a36, (fun_mk (st := (top 54)) l36 c36 k36).binds (ps := ["script", "spot"]) fun _ _ _ _ _ _ us hl => match us, hl with | [_, _], _ => rfl⟩
  have D_law_draw : Df K mg "_law_draw" (top 55) ["well", "many"] := ⟨f37, _, fun_mk (st := (top 55)) l37 c37 k37, PySem.W.mg_of X G a37, (fun_mk (st := (top 55)) l37 c37 k37).binds (ps := ["well", "many"]) fun _ _ _ _ _ _ us hl => match us, hl with | [_, _], _ => rfl⟩
  have D_law_right : Df K mg "_law_right" (top 56) ["well"] := ⟨f38, _, fun_mk (st := (top 56)) l38 c38 k38, PySem.W.mg_of X G a38, (fun_mk (st := (top 56)) l38 c38 k38).binds (ps := ["well"]) fun _ _ _ _ _ _ us hl => match us, hl with | [_], _ => rfl⟩
  have F__init__ := fun_mk (st := (inClass (top 20) 0)) l40 c40 k40
  have b__init__ := F__init__.binds (ps := ["self", "counts"]) fun _ _ _ _ _ _ us hl => match us, hl with | [_, _], _ => rfl
  have F__eq__ := fun_mk (st := (inClass (top 20) 7)) l41 c41 k41
  have b__eq__ := F__eq__.binds (ps := ["self", "other"]) fun _ _ _ _ _ _ us hl => match us, hl with | [_, _], _ => rfl
  have Fcounts := fun_mk (st := (inClass (top 20) 2)) l42 c42 k42
  have bcounts := Fcounts.binds (ps := ["self"]) fun _ _ _ _ _ _ us hl => match us, hl with | [_], _ => rfl
  have Pcounts : PropOf K C "counts" p42 f42 := ⟨a42, g42, t42, _, r42r⟩
  have Fdraws := fun_mk (st := (inClass (top 20) 4)) l43 c43 k43
  have bdraws := Fdraws.binds (ps := ["self"]) fun _ _ _ _ _ _ us hl => match us, hl with | [_], _ => rfl
  have Pdraws : PropOf K C "draws" p43 f43 := ⟨a43, g43, t43, _, r43r⟩
  have Ftext := fun_mk (st := (inClass (top 20) 5)) l44 c44 k44
  have btext := Ftext.binds (ps := ["self"]) fun _ _ _ _ _ _ us hl => match us, hl with | [_], _ => rfl
  have Ptext : PropOf K C "text" p44 f44 := ⟨a44, g44, t44, _, r44r⟩
  have Fchanged := fun_mk (st := (inClass (top 20) 6)) l45 c45 k45
  have bchanged := Fchanged.binds (ps := ["self", "changes"]) fun _ _ _ _ _ _ us hl => match us, hl with | [_, _], _ => rfl
  have Mchanged : Meth K C "changed" f45 := ⟨a45, i45, k45⟩
  have F__len__ := fun_mk (st := (inClass (top 20) 8)) l46 c46 k46
  have b__len__ := F__len__.binds (ps := ["self"]) fun _ _ _ _ _ _ us hl => match us, hl with | [_], _ => rfl
  have O__len__ : OwnSp K C "__len__" f46 := ⟨N, _, nm, qn, bs, hdct, sn, sub, ab, col, dd, q0, q1, q2, q3, q5, newId, lC, okN, n46w, l46, oc46w⟩
  have F__repr__ := fun_mk (st := (inClass (top 20) 10)) l47 c47 k47
  have b__repr__ := F__repr__.binds (ps := ["self"]) fun _ _ _ _ _ _ us hl => match us, hl with | [_], _ => rfl
  have O__repr__ : OwnSp K C "__repr__" f47 := ⟨N, _, nm, qn, bs, hdct, sn, sub, ab, col, dd, q0, q1, q2, q3, q5, newId, lC, okN, n47w, l47, oc47w⟩
  have NO__bool__ : NoSp K C "__bool__" := ⟨N, nm, qn, bs, hdct, sn, sub, ab, col, dd, q0, q1, q2, q3, q5, newId, lC, okN, no__bool__⟩
  have CR : ClX.CRead K C (.type "type") := ⟨rdC, gaC⟩
  have Fread := fun_mk (st := (inClass (top 20) 1)) l48 c48 k48
  have bread := Fread.binds (ps := ["cls", "text"]) fun _ _ _ _ _ _ us hl => match us, hl with | [_, _], _ => rfl
  have Mread : ClX.CMet K C (.type "type") "read" p48 f48 := ⟨a48, ⟨_, r48r⟩, fi48⟩
  have nos := PySem.W.mg_none_of X G z_super
  have c_InvalidText := PySem.W.mg_of X G ge_eC0
  have OXx0 : OexC K eC0 := ⟨⟨nmIx0, qnIx0, NIx0, bsIx0, bmIx0, snIx0, subIx0, abIx0, colIx0, ddIx0, q0x0, q1x0, q2x0, q3x0, q5x0, lCx0, rfx0⟩, sax0, sbx0, tyx0, kCx0⟩
  have XIx0 : XInit K l.prog eC0 fIx0 ccIx0 cdIx0 "InvalidText.__init__" "given" "given" (inClass (top 4) 0) (PySem.W.fnX "__init__" "InvalidText.__init__" (defArgs (inClass (top 4) 0)) (defBody (inClass (top 4) 0)) (defScope (inClass (top 4) 0)) [("__class__", ccIx0)] .none kVx0 dcx0 pmx0 anx0 (.ref cdIx0) ctx0) := ⟨⟨ocx0, odx0, .none, kVx0, dcx0, pmx0, anx0, ctx0, slx0, rfl, lx0, cx0⟩, ⟨cclx0, cddx0, vsx0, ccsx0, fileIx0, tfx0, lcdx0, rowx0, filx0⟩, ⟨clx0, cldx0, cslx0, lccx0⟩, supx0, sbvx0, mrx0, opq, tops, ⟨_, _, _, _, _, _, _, _, _, _, _, _, _, by decide +kernel, fun _ => rfl, rfl⟩, ⟨_, rfl, rfl⟩, ⟨rfl, rfl, rfl, rfl, rfl, by decide +kernel, by decide +kernel, by decide +kernel, by decide +kernel, by decide +kernel⟩, rfl, rfl⟩
  have XC_InvalidText : XCls K l.prog eC0 "given" "given" := ⟨OXx0, ⟨_, _, _, _, _, _, XIx0, ax0, tyfx0, Binds.all fun us hl => match us, hl with | [_, _], _ => rfl⟩, nfx0⟩
  have c_InvalidChanges := PySem.W.mg_of X G ge_eC1
  have OXx1 : OexC K eC1 := ⟨⟨nmIx1, qnIx1, NIx1, bsIx1, bmIx1, snIx1, subIx1, abIx1, colIx1, ddIx1, q0x1, q1x1, q2x1, q3x1, q5x1, lCx1, rfx1⟩, sax1, sbx1, tyx1, kCx1⟩
  have XIx1 : XInit K l.prog eC1 fIx1 ccIx1 cdIx1 "InvalidChanges.__init__" "index" "index" (inClass (top 7) 0) (PySem.W.fnX "__init__" "InvalidChanges.__init__" (defArgs (inClass (top 7) 0)) (defBody (inClass (top 7) 0)) (defScope (inClass (top 7) 0)) [("__class__", ccIx1)] .none kVx1 dcx1 pmx1 anx1 (.ref cdIx1) ctx1) := ⟨⟨ocx1, odx1, .none, kVx1, dcx1, pmx1, anx1, ctx1, slx1, rfl, lx1, cx1⟩, ⟨cclx1, cddx1, vsx1, ccsx1, fileIx1, tfx1, lcdx1, rowx1, filx1⟩, ⟨clx1, cldx1, cslx1, lccx1⟩, supx1, sbvx1, mrx1, opq, tops, ⟨_, _, _, _, _, _, _, _, _, _, _, _, _, by decide +kernel, fun _ => rfl, rfl⟩, ⟨_, rfl, rfl⟩, ⟨rfl, rfl, rfl, rfl, rfl, by decide +kernel, by decide +kernel, by decide +kernel, by decide +kernel, by decide +kernel⟩, rfl, rfl⟩
  have XC_InvalidChanges : XCls K l.prog eC1 "index" "index" := ⟨OXx1, ⟨_, _, _, _, _, _, XIx1, ax1, tyfx1, Binds.all fun us hl => match us, hl with | [_, _], _ => rfl⟩, nfx1⟩
  have c_gcd := PySem.W.mg_of X G c_gcd
  have c_comb := PySem.W.mg_of X G c_comb
  have c_factorial := PySem.W.mg_of X G c_factorial
  have c_perm := PySem.W.mg_of X G c_perm
  have c_isqrt := PySem.W.mg_of X G c_isqrt
  have c_MOST_DRAWS := PySem.W.mg_of X G c_MOST_DRAWS
  have c__WIDTH := PySem.W.mg_of X G c__WIDTH
  have c__STEP := PySem.W.mg_of X G c__STEP
  have c_MOST_CHANGES := PySem.W.mg_of X G c_MOST_CHANGES
  have z_sorted := PySem.W.mg_none_of X G z_sorted
  have z_any := PySem.W.mg_none_of X G z_any
  have B : Bi mg := ⟨PySem.W.mg_none_of X G z_len, PySem.W.mg_none_of X G z_abs, PySem.W.mg_none_of X G z_max, PySem.W.mg_none_of X G z_min, PySem.W.mg_none_of X G z_sum, PySem.W.mg_none_of X G z_range, PySem.W.mg_none_of X G z_tuple, PySem.W.mg_none_of X G z_int, PySem.W.mg_none_of X G z_divmod, PySem.W.mg_none_of X G z_all, PySem.W.mg_none_of X G z_repr, PySem.W.mg_none_of X G z_isinstance, PySem.W.mg_none_of X G z_enumerate, PySem.W.mg_none_of X G z_bool, PySem.W.mg_none_of X G z_zip, PySem.W.mg_none_of X G z_str, PySem.W.mg_none_of X G z_list⟩
  have RC : RowC K mg C := ⟨⟨pg, hd, po, sa⟩, nC, PySem.W.mg_of X G aC, xa, xn, xt, xm⟩
  have NE := (⟨f41, N, _, nm, qn, bs, hdct, sn, sub, ab, col, dd, q0, q1, q2, q3, q5, newId, a41, lC, okN, n1, n2, l41, ocf⟩ : ∃ (f N : Addr) (of : Obj) (nm q : Str) (bs : List Value) (hdct : Bool) (sn : List Str) (sub : List Value) (ab : Bool) (col : Option Bool) (dd : Option Addr) (k0 k1 k2 k3 k5 : Option Value) (newId : String), PySem.W.findIn K (.ref C) "__eq__" = some (some (.ref f)) ∧ K.lookup C = some (excClassObj nm q C N bs [.type "object"] hdct sn sub ab col dd k0 k1 k2 k3 k5 newId) ∧ PySem.W.nsOkIn K N = true ∧ PySem.W.nsIn K N "__eq__" = some (some (.ref f)) ∧ PySem.W.nsIn K N "__ne__" = some none ∧ K.lookup f = some of ∧ of.cls = .type "function")
  have MK : Mk K C f40 := ⟨mk, a40, i40, kc⟩
  have EQ1 := a41
  have EQ2 := i41
  refine ⟨PySem.W.fnOf "law" "law" (defArgs (top 57)) (defBody (top 57)) (defScope (top 57)) .none kV39 dc39 pm39 an39 cd39 ct39, fun s u => BindsTo.of_eq (by first | rfl | with_unfolding_all rfl), fun base _ _ => ?_⟩
  have h_law_well := has_well (P := l.prog) (w := w) (base := base) B D_law_well
  have h_law_draw := has_draw (P := l.prog) (w := w) (base := base) B D_law_draw
  have his_whole := has_whole (P := l.prog) (w := w) (base := base) B Dis_whole
  have h_check_counts := has_check B c_MOST_DRAWS his_whole D_check_counts
  have RT : RowT l.prog w K mg base C := ⟨RC, ⟨_, _, MK, ok_init F__init__ B RC c_gcd h_check_counts, b__init__⟩, ⟨_, _, _, Pcounts, ok_get Fcounts RC, bcounts⟩, ⟨_, _, _, Pdraws, ok_draws Fdraws B RC, bdraws⟩, ⟨_, _, EQ1, EQ2, ok_eq F__eq__ B RC, b__eq__⟩, NE⟩
  have his_decimal := has_dec2 (P := l.prog) (w := w) (base := base) Dis_decimal
  have hread_decimal := has_read (P := l.prog) (w := w) (base := base) B c__WIDTH c__STEP Dread_decimal
  have hwrite_decimal := has_write (P := l.prog) (w := w) (base := base) B c__WIDTH c__STEP Dwrite_decimal
  have RS : RowS l.prog w K mg base C := ⟨RC, ⟨_, _, _, Ptext, ok_text Ftext B RC RT hwrite_decimal, btext⟩, ⟨_, _, O__len__, ok_lenR F__len__ B RC, b__len__⟩, ⟨_, _, O__repr__, ok_reprR F__repr__ RT, b__repr__⟩, NO__bool__⟩
  have h_told_counts := has_told2 B c_MOST_DRAWS his_decimal hread_decimal D_told_counts
  have okR := ok_readX Fread B RT XC_InvalidText nos c_InvalidText h_told_counts
  have RX : RowX l.prog w K mg base C eC0 := ⟨RC, ⟨_, _, _, _, CR, Mread, okR, bread⟩⟩
  have his_change := has_change B his_whole Dis_change
  have h_placed := ok_placed B XC_InvalidChanges nos c_InvalidChanges his_change D_placed
  have RG : RowG l.prog w K mg base C eC1 eC0 := ⟨RC, ⟨_, _, Mchanged, ok_changed Fchanged B RS RX h_placed, bchanged⟩⟩
  have hcheck_row := has_check_row (P := l.prog) (w := w) (base := base) B RC Dcheck_row
  have hyes_sums := has_yes (P := l.prog) (w := w) (base := base) B c_comb c_factorial Dyes_sums
  have h_table := has_table (P := l.prog) (w := w) (base := base) B D_table
  have m0 := has_min0 (P := l.prog) (w := w) (base := base) D_minor
  have m1 := has_minS B m0 D_minor
  have m2 := has_minS B m1 D_minor
  have m3 := has_minS B m2 D_minor
  have m4 := has_minS B m3 D_minor
  have hchoices := has_choices (P := l.prog) (w := w) (base := base) B Dchoices
  have h_never_below := has_never B m4 hchoices D_never_below
  have halways := Has.of Dalways fun f fd F => ok_always B RT hcheck_row hyes_sums h_table h_never_below F
  have htimes := has_times (P := l.prog) (w := w) (base := base) B Dtimes
  have h_place := has_place (P := l.prog) (w := w) (base := base) B D_place
  have h_side := has_side (P := l.prog) (w := w) (base := base) B D_side
  have h_lower_root := has_lower (P := l.prog) (w := w) (base := base) D_lower_root
  have h_about := has_about B h_lower_root D_about
  have h_pairs := has_pairs B z_sorted h_about h_place htimes h_side D_pairs
  have hlowest_points := has_low B htimes h_pairs Dlowest_points
  have hhighest_points := has_hig B htimes h_pairs Dhighest_points
  have hmean_on := has_mean B htimes Dmean_on
  have hbroken_points := has_broken B hlowest_points hhighest_points hmean_on Dbroken_points
  have hrow_sums := has_sums B c_perm hyes_sums Drow_sums
  have hdoes_come := has_does B RT hrow_sums hbroken_points Ddoes_come
  have his_fraction := has_frN B c_gcd his_whole Dis_fraction
  have his_wish := has_wish B his_whole his_fraction Dis_wish
  have hdoes_hold := has_hold B RT halways hdoes_come Ddoes_hold
  have h_check_wishes := has_ckW B his_wish D_check_wishes
  have h_check_changes := has_ckC B RT c_MOST_CHANGES his_change D_check_changes
  have h_has_part := has_hasPart (P := l.prog) (w := w) (base := base) B z_any D_has_part
  have h_mend := has_mend B RG c_InvalidChanges c_InvalidText ex1 ex2 hdoes_hold D_mend
  have hmends := has_mends B hcheck_row h_check_wishes h_check_changes hchoices h_has_part h_mend Dmends
  have h_law_right := has_right B RT h_law_draw hmends D_law_right
  exact ok_law B h_law_well h_law_right (fun_mk l39 c39 k39)
end Dm
open PySem PySem.W PyProof.Rows in
set_option maxRecDepth 100000 in
set_option maxHeartbeats 0 in
theorem PySem.Challenge.cw_drawnmore_k41_mends_by_hand_holds : PySem.Challenge.rw_drawnmore_k41_mends_by_hand.Holds := by
  w_on; o_law; k_head; (case hw => w_witness2)
  k_fill
  refine Dm.walkG (l := PySem.Challenge.rw_drawnmore_k41_mends_by_hand) (n := 63) (k := 13) (x := "script") (sp := Dm.spLaw) rfl (by decide) rfl ⟨rfl, by decide, by decide⟩ (fun w h Y => PySem.W.kIn_of Y) ?F (fun K H a ns hl hS => ⟨a, ns, rfl, hS, hl, fun _ => rfl⟩)
  case F =>
    intro w mg fa h KX G hmg
    refine' Dm.all_mk KX G hmg ?a1 ?l1 ?c1 ?k1 ?a2 ?l2 ?c2 ?k2 ?a3 ?l3 ?c3 ?k3 ?a4 ?l4 ?c4 ?k4 ?a5 ?l5 ?c5 ?k5 ?a6 ?l6 ?c6 ?k6 ?a7 ?l7 ?c7 ?k7 ?a8 ?l8 ?c8 ?k8 ?a9 ?l9 ?c9 ?k9 ?a10 ?l10 ?c10 ?k10 ?a11 ?l11 ?c11 ?k11 ?a12 ?l12 ?c12 ?k12 ?a13 ?l13 ?c13 ?k13 ?a14 ?l14 ?c14 ?k14 ?a15 ?l15 ?c15 ?k15 ?a16 ?l16 ?c16 ?k16 ?a17 ?l17 ?c17 ?k17 ?a18 ?l18 ?c18 ?k18 ?a19 ?l19 ?c19 ?k19 ?a20 ?l20 ?c20 ?k20 ?a21 ?l21 ?c21 ?k21 ?a22 ?l22 ?c22 ?k22 ?a23 ?l23 ?c23 ?k23 ?a24 ?l24 ?c24 ?k24 ?a25 ?l25 ?c25 ?k25 ?a26 ?l26 ?c26 ?k26 ?a27 ?l27 ?c27 ?k27 ?a28 ?l28 ?c28 ?k28 ?a29 ?l29 ?c29 ?k29 ?a30 ?l30 ?c30 ?k30 ?a31 ?l31 ?c31 ?k31 ?a32 ?l32 ?c32 ?k32 ?a33 ?l33 ?c33 ?k33 ?a34 ?l34 ?c34 ?k34 ?a35 ?l35 ?c35 ?k35 ?a36 ?l36 ?c36 ?k36 ?a37 ?l37 ?c37 ?k37 ?a38 ?l38 ?c38 ?k38 ?a39 ?l39 ?c39 ?k39 ?aC ?pg ?hd ?po ?sa ?mk ?kc ?nC ?xa ?xn ?xt ?xm ?a40 ?i40 ?l40 ?c40 ?k40 ?a41 ?i41 ?l41 ?c41 ?k41 ?a42 ?g42 ?t42 ?r42r ?l42 ?c42 ?k42 ?a43 ?g43 ?t43 ?r43r ?l43 ?c43 ?k43 ?a44 ?g44 ?t44 ?r44r ?l44 ?c44 ?k44 ?lC ?okN ?n1 ?n2 ?ocf ?a45 ?i45 ?l45 ?c45 ?k45 ?n46w ?l46 ?c46 ?k46 ?oc46w ?n47w ?l47 ?c47 ?k47 ?oc47w ?no__bool__ ?rdC ?gaC ?a48w ?r48r ?a48 ?fi48 ?l48 ?c48 ?k48 ?opq ?tops ?z_super ?ge_eC0 ?lCx0 ?rfx0 ?sax0 ?sbx0 ?tyx0 ?kCx0 ?nfx0 ?ax0 ?lx0 ?cx0 ?lcdx0 ?rowx0 ?filx0 ?lccx0 ?supx0 ?sbvx0 ?mrx0 ?tyfx0 ?ge_eC1 ?lCx1 ?rfx1 ?sax1 ?sbx1 ?tyx1 ?kCx1 ?nfx1 ?ax1 ?lx1 ?cx1 ?lcdx1 ?rowx1 ?filx1 ?lccx1 ?supx1 ?sbvx1 ?mrx1 ?tyfx1 ?ex1 ?ex2 ?c_gcd ?c_comb ?c_factorial ?c_perm ?c_isqrt ?c_MOST_DRAWS ?c__WIDTH ?c__STEP ?c_MOST_CHANGES ?z_len ?z_abs ?z_max ?z_min ?z_sum ?z_range ?z_tuple ?z_int ?z_divmod ?z_all ?z_repr ?z_isinstance ?z_enumerate ?z_bool ?z_zip ?z_str ?z_list ?z_sorted ?z_any
    (case a1 => k_is)
    (case l1 => k_is)
    (case c1 => k_is)
    (case k1 => k_is)
    (case a2 => k_is)
    (case l2 => k_is)
    (case c2 => k_is)
    (case k2 => k_is)
    (case a3 => k_is)
    (case l3 => k_is)
    (case c3 => k_is)
    (case k3 => k_is)
    (case a4 => k_is)
    (case l4 => k_is)
    (case c4 => k_is)
    (case k4 => k_is)
    (case a5 => k_is)
    (case l5 => k_is)
    (case c5 => k_is)
    (case k5 => k_is)
    (case a6 => k_is)
    (case l6 => k_is)
    (case c6 => k_is)
    (case k6 => k_is)
    (case a7 => k_is)
    (case l7 => k_is)
    (case c7 => k_is)
    (case k7 => k_is)
    (case a8 => k_is)
    (case l8 => k_is)
    (case c8 => k_is)
    (case k8 => k_is)
    (case a9 => k_is)
    (case l9 => k_is)
    (case c9 => k_is)
    (case k9 => k_is)
    (case a10 => k_is)
    (case l10 => k_is)
    (case c10 => k_is)
    (case k10 => k_is)
    (case a11 => k_is)
    (case l11 => k_is)
    (case c11 => k_is)
    (case k11 => k_is)
    (case a12 => k_is)
    (case l12 => k_is)
    (case c12 => k_is)
    (case k12 => k_is)
    (case a13 => k_is)
    (case l13 => k_is)
    (case c13 => k_is)
    (case k13 => k_is)
    (case a14 => k_is)
    (case l14 => k_is)
    (case c14 => k_is)
    (case k14 => k_is)
    (case a15 => k_is)
    (case l15 => k_is)
    (case c15 => k_is)
    (case k15 => k_is)
    (case a16 => k_is)
    (case l16 => k_is)
    (case c16 => k_is)
    (case k16 => k_is)
    (case a17 => k_is)
    (case l17 => k_is)
    (case c17 => k_is)
    (case k17 => k_is)
    (case a18 => k_is)
    (case l18 => k_is)
    (case c18 => k_is)
    (case k18 => k_is)
    (case a19 => k_is)
    (case l19 => k_is)
    (case c19 => k_is)
    (case k19 => k_is)
    (case a20 => k_is)
    (case l20 => k_is)
    (case c20 => k_is)
    (case k20 => k_is)
    (case a21 => k_is)
    (case l21 => k_is)
    (case c21 => k_is)
    (case k21 => k_is)
    (case a22 => k_is)
    (case l22 => k_is)
    (case c22 => k_is)
    (case k22 => k_is)
    (case a23 => k_is)
    (case l23 => k_is)
    (case c23 => k_is)
    (case k23 => k_is)
    (case a24 => k_is)
    (case l24 => k_is)
    (case c24 => k_is)
    (case k24 => k_is)
    (case a25 => k_is)
    (case l25 => k_is)
    (case c25 => k_is)
    (case k25 => k_is)
    (case a26 => k_is)
    (case l26 => k_is)
    (case c26 => k_is)
    (case k26 => k_is)
    (case a27 => k_is)
    (case l27 => k_is)
    (case c27 => k_is)
    (case k27 => k_is)
    (case a28 => k_is)
    (case l28 => k_is)
    (case c28 => k_is)
    (case k28 => k_is)
    (case a29 => k_is)
    (case l29 => k_is)
    (case c29 => k_is)
    (case k29 => k_is)
    (case a30 => k_is)
    (case l30 => k_is)
    (case c30 => k_is)
    (case k30 => k_is)
    (case a31 => k_is)
    (case l31 => k_is)
    (case c31 => k_is)
    (case k31 => k_is)
    (case a32 => k_is)
    (case l32 => k_is)
    (case c32 => k_is)
    (case k32 => k_is)
    (case a33 => k_is)
    (case l33 => k_is)
    (case c33 => k_is)
    (case k33 => k_is)
    (case a34 => k_is)
    (case l34 => k_is)
    (case c34 => k_is)
    (case k34 => k_is)
    (case a35 => k_is)
    (case l35 => k_is)
    (case c35 => k_is)
    (case k35 => k_is)
    (case a36 => k_is)
    (case l36 => k_is)
    (case c36 => k_is)
    (case k36 => k_is)
    (case a37 => k_is)
    (case l37 => k_is)
    (case c37 => k_is)
    (case k37 => k_is)
    (case a38 => k_is)
    (case l38 => k_is)
    (case c38 => k_is)
    (case k38 => k_is)
    (case a39 => k_is)
    (case l39 => k_is)
    (case c39 => k_is)
    (case k39 => k_is)
    (case aC => k_is)
    (case pg => k_is)
    (case hd => k_is)
    (case po => k_is)
    (case sa => k_is)
    (case mk => k_is)
    (case kc => k_is)
    (case nC => k_is)
    (case xa => k_is)
    (case xn => k_is)
    (case xt => k_is)
    (case xm => k_is)
    (case a40 => k_is)
    (case i40 => k_is)
    (case l40 => k_is)
    (case c40 => k_is)
    (case k40 => k_is)
    (case a41 => k_is)
    (case i41 => k_is)
    (case l41 => k_is)
    (case c41 => k_is)
    (case k41 => k_is)
    (case a42 => k_is)
    (case g42 => k_is)
    (case t42 => k_is)
    (case r42r => k_is)
    (case l42 => k_is)
    (case c42 => k_is)
    (case k42 => k_is)
    (case a43 => k_is)
    (case g43 => k_is)
    (case t43 => k_is)
    (case r43r => k_is)
    (case l43 => k_is)
    (case c43 => k_is)
    (case k43 => k_is)
    (case a44 => k_is)
    (case g44 => k_is)
    (case t44 => k_is)
    (case r44r => k_is)
    (case l44 => k_is)
    (case c44 => k_is)
    (case k44 => k_is)
    (case lC => k_is)
    (case okN => kernel_rfl)
    (case n1 => k_is)
    (case n2 => k_is)
    (case ocf => rfl)
    (case a45 => k_is)
    (case i45 => k_is)
    (case l45 => k_is)
    (case c45 => k_is)
    (case k45 => k_is)
    (case n46w => k_is)
    (case l46 => k_is)
    (case c46 => k_is)
    (case k46 => k_is)
    (case oc46w => rfl)
    (case n47w => k_is)
    (case l47 => k_is)
    (case c47 => k_is)
    (case k47 => k_is)
    (case oc47w => rfl)
    (case no__bool__ => k_is)
    (case rdC => kernel_rfl)
    (case gaC => k_is)
    (case a48w => k_is)
    (case r48r => k_is)
    (case a48 => with_unfolding_all kernel_rfl)
    (case fi48 => kernel_rfl)
    (case l48 => k_is)
    (case c48 => k_is)
    (case k48 => k_is)
    (case opq => kernel_rfl)
    (case tops => kernel_rfl)
    (case z_super => k_is)
    (case ge_eC0 => k_is)
    (case lCx0 => k_is)
    (case rfx0 => kernel_rfl)
    (case sax0 => k_is)
    (case sbx0 => k_is)
    (case tyx0 => k_is)
    (case kCx0 => k_is)
    (case nfx0 => k_is)
    (case ax0 => k_is)
    (case lx0 => k_is)
    (case cx0 => k_is)
    (case lcdx0 => k_is)
    (case rowx0 => with_unfolding_all rfl)
    (case filx0 => kernel_rfl)
    (case lccx0 => k_is)
    (case supx0 => kernel_rfl)
    (case sbvx0 => k_is)
    (case mrx0 => k_is)
    (case tyfx0 => k_is)
    (case ge_eC1 => k_is)
    (case lCx1 => k_is)
    (case rfx1 => kernel_rfl)
    (case sax1 => k_is)
    (case sbx1 => k_is)
    (case tyx1 => k_is)
    (case kCx1 => k_is)
    (case nfx1 => k_is)
    (case ax1 => k_is)
    (case lx1 => k_is)
    (case cx1 => k_is)
    (case lcdx1 => k_is)
    (case rowx1 => with_unfolding_all rfl)
    (case filx1 => kernel_rfl)
    (case lccx1 => k_is)
    (case supx1 => kernel_rfl)
    (case sbvx1 => k_is)
    (case mrx1 => k_is)
    (case tyfx1 => k_is)
    (case ex1 => kernel_rfl)
    (case ex2 => kernel_rfl)
    (case c_gcd => k_is)
    (case c_comb => k_is)
    (case c_factorial => k_is)
    (case c_perm => k_is)
    (case c_isqrt => k_is)
    (case c_MOST_DRAWS => k_is)
    (case c__WIDTH => k_is)
    (case c__STEP => k_is)
    (case c_MOST_CHANGES => k_is)
    (case z_len => k_is)
    (case z_abs => k_is)
    (case z_max => k_is)
    (case z_min => k_is)
    (case z_sum => k_is)
    (case z_range => k_is)
    (case z_tuple => k_is)
    (case z_int => k_is)
    (case z_divmod => k_is)
    (case z_all => k_is)
    (case z_repr => k_is)
    (case z_isinstance => k_is)
    (case z_enumerate => k_is)
    (case z_bool => k_is)
    (case z_zip => k_is)
    (case z_str => k_is)
    (case z_list => k_is)
    (case z_sorted => k_is)
    (case z_any => k_is)
