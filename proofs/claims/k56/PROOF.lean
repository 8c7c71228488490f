import PyProof.Rows.All
import Wide.All
import OpenK.AllK
import Wide.FinOn
import PySem.Challenge.RW_drawnmore_k56_whole_watches_led
import HandS.ForMost
import HandS.ForExc
import HandS.Property
import HandS.IsInst
import HandS.Gcd
import HandS.Wide
import HandS.WideBits
import PyProof.ReprRoads
import PyProof.InstNe
import KE.GoesEnum
import KE.KTupSum
import HandS.Walk
import KE.GoesMore
import KE.GoesZip
import KE.KMathGC
import HandS.Zip
import HandS.Style
import HandS.TupAny
import HandS.Conv
import HandS.Star
import HandS.TupLe
import Flt.RightSqrt
import HandS.SortInts
import PyProof.CallFns
import HandS.Codes
import HandS.StrMore
import HandS.FStr
import HandS.ClsMeth
import HandS.Iter
import PyProof.InstSpecial
import KE.KIntText
import KE.IntTextLaws
import PyProof.Rows.StrAscii
import PyProof.Rows.Range3
import PyProof.Conv_bool
import PyProof.CallStr
import PyProof.Truth
import PyProof.EqKinds
import PyProof.NeKinds
import HandS.ExcInit
import KE.KExcSuper
import KE.KTryMore
import KE.KExcIs
import HandS.ExcIs
import HandS.Lambda
import HandS.EndTab
import HandS.WordsExc
import HandS.ExcOwn
import HandS.More
import KE.KNestM
import PyProof.ExcBaseAll.ArithmeticError
import HandS.ExcCtx
import HandS.HotCalls
import HandS.ExcInitHot
import HandS.Comp
import HandS.ExcField
import HandS.RaiseMore
import HandS.TupMul
import HandS.SetFor
import PyProof.Rows.CountFlat
import HandS.TryMany
set_option Elab.async false
set_option linter.all false
set_option maxRecDepth 100000
set_option maxHeartbeats 8000000
namespace Dm
open PySem PySem.Spec PyProof.Rows L2

/-! ## promises that hold where no guard is under way -/
structure FnG (P : Program) (w : World) (K : PySem.W.Frag) (mg : Str → Option Value) (base : Heap) (k : Nat)
    (f : Addr) (fd : FuncData) (ps : List Str) (sp : Sp) : Prop where
  len : ∀ vs H Q E, sp vs H Q E → vs.length = ps.length
  run : ∀ (A : Around) (outer : List Env) (s : Shared) (H : Hp) (args : Args) (us : List Value) (vs : List V) (Q : VK) (E : XK),
    A.guards = some [] → Room k A → Env0 P w K mg base A outer s H → BindsTo s fd args (ps.zip us) → Vals vs us → sp vs H Q E →
    codeAny (model P w) A (.call (.ref f) args) (CR CX0 outer P w H s Q E) s

section
variable {P : Program} {w : World} {K : PySem.W.Frag} {mg : Str → Option Value} {base : Heap}

/-- a def by its body, its caller's stack free of guards -/
theorem okG {x qual : Str} {st : Stmt} {f : Addr} {fd : FuncData} {N ps : List Str} {k : Nat} {sp : Sp}
    (F : Fun K x qual st f fd) (S : FnScope N ps (defScope st))
    (hlen : ∀ vs H Q E, sp vs H Q E → vs.length = ps.length)
    (hb : ∀ (cdv : Value) (A : Around) (outer : List Env) (s : Shared) (H : Hp) (vs : List V) (Q : VK) (E : XK),
      A.guards = some [] → Room k (A.deeper (envOfC qual (defScope st) s.heap.objs.size f cdv)) → sp vs H Q E →
      ∃ t, PSs (cxOf CX0 P w K mg base N qual (defScope st) f cdv A outer s H E).nox (defBody st) t ∧
        t { nx := fun _ H' => Q .non H', rt := Q } (start N vs) H) :
    FnG P w K mg base (k + 1) f fd ps sp := by
  obtain ⟨oc, od, kV, doc, pm, an, cdv, ct, osl, rfl, look, hcode⟩ := F.ex
  constructor
  · exact hlen
  intro A outer s H args us vs Q E hgd hrm env0 hbinds rel hsp
  have hl := hlen _ _ _ _ hsp
  have inK : K.In s.heap := env0.mod.kin.keeps fun a o h => (env0.bs a o h).1
  have nolim : s.heap.NoLimit := env0.mod.nolimit.keeps fun a o h => (env0.bs a o h).1
  have kinds : ∀ y ∈ ps.zip us, (defScope st).names.lookup y.1 = some .local ∨
      ((defScope st).names.lookup y.1 = some .cell ∧ ((cellsFrom (s.heap.objs.size + 1) (defScope st).names []).lookup y.1).isSome = true) := by
    intro ⟨n, v⟩ hy
    cases S.par n (List.of_mem_zip hy).1 with
    | inl q => exact .inl q
    | inr q => exact .inr ⟨q, PySem.W.cellsFrom_some _ _ _ (.inl q)⟩
  apply codeAny_call_function hrm.depth (inK _ _ look) rfl S.co S.gen rfl
    (PySem.W.codeRec_of inK hcode) (hbinds _ _ _ _ ?_)
  refine wpAny_newFunctionEnv_cells S.kind kinds fun env henv s1 ic => ?_
  subst henv
  refine ⟨nolim.keeps ic.toInCall.keep, codeAny_func ?_⟩
  obtain ⟨t, ht, hq⟩ := hb cdv A outer s H vs Q E hgd (hrm.deeper _) hsp
  have I := inv_start (CX := CX0) (E := E) S hrm.hd env0 hl rel ic
  refine wpAny_mono (ht.nox.run [] s1 (start N vs) H _ I hq) (fun fl s' hs => ?_) fun _ _ hs => hs
  have done : ∀ {σ' : L2.St} {H' : Hp} {v : V} {u : Value},
      Inv (cxOf CX0 P w K mg base N qual (defScope st) f cdv A outer s H E) [] σ' H' s' → RelV v u → Q v H' →
      CE outer P w H s Q u s' := fun J rv q => ⟨_, _, J.os, J.bare, J.base, J.hok, rv, q⟩
  cases fl with
  | ret u =>
    obtain ⟨v, σ', H', J, rv, q⟩ := hs
    exact done J rv q
  | next =>
    obtain ⟨σ', H', J, q⟩ := hs
    exact done (v := V.non) (u := Value.none) J rfl q
  | brk =>
    obtain ⟨_, _, _, q⟩ := hs
    exact q.elim
  | cont =>
    obtain ⟨_, _, _, q⟩ := hs
    exact q.elim

theorem FnG.of {k : Nat} {f : Addr} {fd : FuncData} {ps : List Str} {sp : Sp} (F : FnOk P w K mg base CX0 k f fd ps sp) :
    FnG P w K mg base k f fd ps sp := ⟨F.len, fun A o s H a us vs Q E _ => F.run A o s H a us vs Q E⟩

/-- the global x is a def that keeps sp -/
def Has (P : Program) (w : World) (K : PySem.W.Frag) (mg : Str → Option Value) (base : Heap) (x : Str) (k : Nat) (ps : List Str) (sp : Sp) : Prop :=
  ∃ f fd, FnOk P w K mg base CX0 k f fd ps sp ∧ mg x = some (.ref f) ∧ PySem.W.keepIn K (.ref f) = true ∧ Binds K fd ps []
def HasG (P : Program) (w : World) (K : PySem.W.Frag) (mg : Str → Option Value) (base : Heap) (x : Str) (k : Nat) (ps : List Str) (sp : Sp) : Prop :=
  ∃ f fd, FnG P w K mg base k f fd ps sp ∧ mg x = some (.ref f) ∧ PySem.W.keepIn K (.ref f) = true ∧ Binds K fd ps []
/-- the def st of the text stands under its name -/
def Df (K : PySem.W.Frag) (mg : Str → Option Value) (x : Str) (st : Stmt) (ps : List Str) : Prop :=
  ∃ f fd, Fun K x x st f fd ∧ mg x = some (.ref f) ∧ Binds K fd ps []
end

section
variable {X : Cx}
def tF (sp : Sp) (t : TA) : TE := fun σ H Q => t σ H fun vs H1 => sp vs H1 Q E0
theorem pe_has {x : Str} {k : Nat} {ps : List Str} {sp : Sp} {p pos : Pos} {e : Expr} {es : List Expr} {t : TA}
    (h : Has X.prog X.w X.K X.mg X.base x k ps sp) (hr : Room k X.A) (ha : PA X (e :: es) t) (hg : Gl X x := by rfl)
    (hdb : (x == ("__debug__" : Str)) = false := by decide)
    (he : starEach (e :: es) X.env = (false, eval e X.env) :: starEach es X.env := by rfl)
    (hpl : (backTo pos (starEach es X.env)).any (·.1) = false := by rfl) :
    PE X (.Call (.Name x p) (e :: es) [] pos) (tF sp t) := by
  obtain ⟨f, fd, F, hm, hk, hb⟩ := h
  have q := pe_call (X := X) (p := p) (pos := pos) F hr hg hm hk hb .nil (pass0 (X := X)) ha hdb he hpl
  refine ⟨fun pins s σ H Q I hq => q.run pins s σ H Q I ?_⟩
  show t σ H fun vs H1 => sp (vs ++ []) H1 Q E0
  simp only [List.append_nil]
  exact hq
theorem pe_hasG {x : Str} {k : Nat} {ps : List Str} {sp : Sp} {p pos : Pos} {e : Expr} {es : List Expr} {t : TA}
    (h : HasG X.prog X.w X.K X.mg X.base x k ps sp) (hgd : X.A.guards = some []) (hr : Room k X.A) (ha : PA X (e :: es) t) (hg : Gl X x := by rfl)
    (hdb : (x == ("__debug__" : Str)) = false := by decide)
    (he : starEach (e :: es) X.env = (false, eval e X.env) :: starEach es X.env := by rfl)
    (hpl : (backTo pos (starEach es X.env)).any (·.1) = false := by rfl) :
    PE X (.Call (.Name x p) (e :: es) [] pos) (tF sp t) := by
  obtain ⟨f, fd, F, hm, hk, hb⟩ := h
  refine ⟨fun pins s σ H Q I hq => ?_⟩
  apply wpAny_Call_Name_kw (ld_glob I hg hm ?_ hdb)
  apply PySem.W.callWith_K (h₀ := X.base) I.ok.mod.kin hk ?_ he hpl
  refine thn (ha.run pos pins s σ H _ I hq) fun us s1 ⟨vs, H1, I1, rel, hsp⟩ => ⟨I1.kIn, ?_⟩
  have hl : us.length = ps.length := by rw [← rel.length]; exact F.len _ _ _ _ hsp
  have bnd := hb s1 us I1.kIn (by rw [List.append_nil]; exact hl)
  rw [List.append_nil] at bnd
  refine wpAny_call (codeAny_mono (F.run X.A X.stack s1 H1 ⟨us, []⟩ us vs Q E0 hgd hr I1.env0 bnd rel hsp) fun r s' hc => ?_)
  cases r with
  | error er => exact ((pass0 (X := X)) pins σ H1 s1 er s' I1 hc)
  | ok fl =>
    cases fl with
    | ret u => exact I1.after hc
    | next => exact hc.elim
    | brk => exact hc.elim
    | cont => exact hc.elim

theorem PE.imp {e : Expr} {t t' : TE} (h : PE X e t) (hi : ∀ σ H Q, t' σ H Q → t σ H Q) : PE X e t' :=
  ⟨fun pins s σ H Q I hq => h.run pins s σ H Q I (hi σ H Q hq)⟩
theorem PT.imp {e : Expr} {t t' : TT} (h : PT X e t) (hi : ∀ σ H Q, t' σ H Q → t σ H Q) : PT X e t' :=
  ⟨fun pins s σ H Q I hq => h.run pins s σ H Q I (hi σ H Q hq)⟩
end


/-- the law's call, its def kept where no guard is under way -/
theorem law_callG {P : Program} {w : World} {K : PySem.W.Frag} {mg mb : Str → Option Value} {k : Nat} {fa a : Addr} {fd : FuncData} {x : Str} {sp : Sp} {s : Shared} {vs : List Value} {ns : List Int}
    (inK : K.In s.heap) (gl : s.heap.Ns mainGlobals mg) (bl : s.heap.Ns builtinsNs mb)
    (bb : ∀ y : Str, y ≠ "__name__" → mb y = bootBuiltins y) (nolim : s.heap.NoLimit) (gens : s.gens = #[])
    (obj : s.heap.get? a = some { cls := .type "list", data := .seq vs.toArray }) (ia : IntsAre vs ns) (short : ns.length ≤ sizeLine) (hrm : Room k callerA)
    (F : ∀ base : Heap, K.In base → base.Ns mainGlobals mg → FnG P w K mg base k fa fd [x] sp)
    (bind : ∀ (s : Shared) (u : Value), BindsTo s fd ⟨[u], []⟩ [(x, u)])
    (hsp : ∀ H : Hp, SqL K H a (ns.map V.int) → sp [.ref a] H (fun v _ => v = .bl true) fun _ _ _ => False) :
    codeAny (model P w) callerA (.call (.ref fa) ⟨[.ref a], []⟩)
      (fun r s' => r = .ok (.ret (.bool true)) ∧ OldK s.heap s'.heap ∧ s'.os = s.os ∧ AllBare s'.gens) s := by
  have vals := vals_ints ia
  have many := ia.length
  have main : ∀ H : Hp, Only H → SqL K H a (ns.map V.int) → HOk P w H s.heap → (∀ b, H b ≠ none → b = a) → (H a ≠ none → K.lookup a = none) →
      codeAny (model P w) callerA (.call (.ref fa) ⟨[.ref a], []⟩)
        (fun r s' => r = .ok (.ret (.bool true)) ∧ OldK s.heap s'.heap ∧ s'.os = s.os ∧ AllBare s'.gens) s := by
    intro H only script hok alone notK
    have dictFree : ∀ {b : Addr} {o : Obj} {es : Array DictEntry} {ep : Nat},
        s.heap.get? b = some o → o.data = .dict es ep → H b = none := by
      intro b o es ep e d
      cases q : H b with
      | none => rfl
      | some u =>
        have eb := alone b (by rw [q]; simp)
        subst eb
        rw [obj] at e
        cases e
        have d2 : Data.seq vs.toArray _ = Data.dict es ep := d
        cases d2
    have nsOf : ∀ {b : Addr} {m : Str → Option Value}, s.heap.Ns b m → (hidT s.heap H).Ns b m := by
      intro b m ⟨o, es, ep, e, d, r⟩
      exact ⟨o, es, ep, hidT_get e (dictFree e d), d, r⟩
    have inB : K.In (hidT s.heap H) := by
      intro b o e
      refine hidT_get (inK b o e) ?_
      cases q : H b with
      | none => rfl
      | some u =>
        have eb := alone b (by rw [q]; simp)
        subst eb
        have z := notK (by rw [q]; simp)
        rw [z] at e
        cases e
    have md : Mod K mg (hidT s.heap H) := by
      obtain ⟨mc, h1, h2⟩ := nolim
      exact ⟨inB, nsOf gl, ⟨mb, nsOf bl, bb⟩, ⟨mc, nsOf h1, h2⟩⟩
    have env0 : Env0 P w K mg (hidT s.heap H) callerA [] s H :=
      ⟨rfl, md, fun b o e => of_hidT e, Nat.le_of_eq (hidT_size _ _), trivial, fun b z => absurd (show b ∈ ([] : List Addr) from z) (by simp), hok, .of_eq gens⟩
    have run := (F _ inB (nsOf gl)).run callerA [] s H ⟨[.ref a], []⟩ [.ref a] [.ref a] _ _ rfl hrm env0 (bind s (.ref a)) (.cons rfl .nil) (hsp H script)
    refine codeAny_mono run fun r s' h => ?_
    cases r with
    | error e => exact h.elim
    | ok fl =>
      cases fl with
      | next => exact h.elim
      | brk => exact h.elim
      | cont => exact h.elim
      | ret u =>
        obtain ⟨v, H', os, bare, un, hok2, rel, q⟩ := h
        have q2 : v = .bl true := q
        subst q2
        obtain rfl : u = Value.bool true := rel
        refine ⟨rfl, OldK.of_keep fun b o e => ?_, os, bare⟩
        cases q : H b with
        | none =>
          have nn : b ∉ frs ([] : List Env) := fun z => absurd (show b ∈ ([] : List Addr) from z) (by simp)
          exact un.keep b o e q nn (by simp)
        | some u =>
          rcases only b with z | ⟨ob, xs, z⟩
          · rw [q] at z
            cases z
          · obtain ⟨e1, _⟩ := hok b _ z
            obtain ⟨e2, _⟩ := hok2 b _ (un.frzs b ob _ z)
            rw [e] at e1
            cases e1
            exact e2
  cases hk : K.lookup a with
  | some o =>
    have e := inK a o hk
    rw [obj] at e
    cases e
    refine main (fun _ => none) (fun _ => .inl rfl) (.inr ⟨_, vs.toArray, _, hk, rfl, rfl, rfl, ?_, ?_⟩) (fun b u z => ?_) (fun b z => absurd rfl z) fun z => absurd rfl z
    · rw [List.size_toArray, many]
      exact short
    · simpa using vals
    · have z2 : (none : Option HO) = some u := z
      cases z2
  | none =>
    refine main (fun b => if b = a then some (.frz { cls := .type "list", data := .seq vs.toArray } (.lst (ns.map V.int))) else none)
      (fun b => ?_) (.inl (.inr ⟨{ cls := .type "list", data := .seq vs.toArray }, if_pos rfl⟩)) (fun b u z => ?_) (fun b z => ?_) fun _ => hk
    · by_cases eb : b = a
      · exact .inr ⟨_, _, if_pos eb⟩
      · exact .inl (if_neg eb)
    · by_cases eb : b = a
      · have z2 := (if_pos eb).symm.trans z
        cases z2
        subst eb
        exact ⟨obj, by rw [List.length_map]; exact short, vs, _, vals, obj⟩
      · have z2 := (if_neg eb).symm.trans z
        cases z2
    · by_cases eb : b = a
      · exact eb
      · exact absurd (if_neg eb) z

/-- the goal behind the head -/
theorem walkG {l : PySem.W.OpenLaw} {n k : Nat} {q : Program} {loose : List Str} {XP : (Str → Option Value) → Heap → Prop} {YP : World → Heap → Prop} {d : DefRec} {K : Params → PySem.W.Frag} {sp : PySem.W.Frag → Sp} {x : Str}
    (hn : l.most = some n) (hn2 : n ≤ sizeLine) (hdf : d.params.defaults = []) (hrm : Room k callerA)
    (hY : ∀ (w : World) (h : Heap), YP w h → (K w.params).In h)
    (F : ∀ (w : World) (mg : Str → Option Value) (fa : Addr) (h : Heap), (K w.params).In h → h.Ns mainGlobals mg → mg d.name = some (.ref fa) →
      ∃ fd : FuncData, (∀ (s : Shared) (u : Value), BindsTo s fd ⟨[u], []⟩ [(x, u)]) ∧
        ∀ base : Heap, (K w.params).In base → base.Ns mainGlobals mg → FnG l.prog w (K w.params) mg base k fa fd [x] (sp (K w.params)))
    (hsp : ∀ (K : PySem.W.Frag) (H : Hp) (a : Addr) (ns : List Int), ns.length ≤ n → SqL K H a (ns.map V.int) → sp K [.ref a] H (fun v _ => v = .bl true) fun _ _ _ => False) :
    PySem.W.WalkO q loose XP YP l.row.toRowW d [] (fun f vs => PySem.call f vs) := by
  refine Att.attach_call hn hdf fun w s₀ s₁ mg mb fa o pm cd doc a vs ns G Y ho hd hcd hmg hobj hints hlen hg => ?_
  obtain ⟨fd, hb, hF⟩ := F w mg fa _ (hY w _ Y) G.T.g hmg
  exact law_callG (hY w _ Y) G.T.g G.T.b G.T.builtins G.T.nolimit hg hobj hints (Nat.le_trans hlen hn2) hrm hF hb fun H hS => hsp _ H a ns hlen hS

/-! enumerate of a tuple, sum of a tuple -/

/-- behind enumerate(t): the tuple's iterator, the enumerate object -/
def enumSt (s : Shared) (t : Addr) : Shared :=
  { s with heap := Heap.push (s.heap.push { cls := .type "tuple_iterator", data := .fields #[.ref t, .int 0 0] }) { cls := .type "enumerate", data := .fields #[.none, .bool false, .ref s.heap.objs.size, rawInt 0, .none, .none] } }
theorem meets_enumT (t : Addr) (items : Array Value) :
    Meets (Builtin.«enumerate.__new__» ⟨[.type "enumerate", .ref t], []⟩) (fun _ R s => s.heap.IsTuple t items ∧
      R (.ok (.ret (.ref (s.heap.push { cls := .type "tuple_iterator", data := .fields #[.ref t, .int 0 0] }).objs.size)))
        (enumSt s t)) :=
  .of_wp fun prog w A R s h => by
    obtain ⟨hp, g, d, tk, os⟩ := s
    obtain ⟨ht, h⟩ := h
    have sub := sub_enumerate
    have q1 : ∀ {A' : Around} {E : Value → Shared → Prop} {Q : Value → Shared → Prop},
        Q (.ref hp.objs.size) ⟨hp.push { cls := .type "tuple_iterator", data := .fields #[.ref t, .int 0 0] }, g, d, tk, os⟩ →
        wpAny (model prog w) A' (pyIter (.ref t)) Q E ⟨hp, g, d, tk, os⟩ :=
      fun q => wpAny_pyIter_tuple (s := ⟨hp, g, d, tk, os⟩) ht q
    wp_walk using q1
    refine wpAny_stack_any fun st => wpAny_pure ?_
    split
    · rename_i c _ _ _ _ _
      cases (c == Value.type "enumerate") <;> (wp_walk using q1; exact ⟨_, rfl, h⟩)
    · wp_walk using q1
      exact ⟨_, rfl, h⟩

section
variable {prog : Program} {w : World} {A : Around} {E : Value → Shared → Prop} {s : Shared}
theorem call_enumT {l : Addr} {items : Array Value} {Q : Value → Shared → Prop} (hL : s.heap.IsTuple l items)
    (h : ∀ h', IsEnum h' (s.heap.objs.size + 1) s.heap.objs.size 0 .none → h'.IsTupleIter s.heap.objs.size l 0 →
      (∀ b o, s.heap.get? b = some o → h'.get? b = some o) → Q (.ref (s.heap.objs.size + 1)) { s with heap := h' }) :
    wpAny (model prog w) A (call (.type "enumerate") [.ref l]) Q E s := by
  refine callType_new F.called_enumerate (by decide) (F.typeCall_enumerate_1 _) (F.newCall_enumerate_1 _)
    (fun obj => F.args_object_init_2 obj _) F.entry_enumerate_new (meets_enumT l items) ⟨hL, ?_⟩
  have sz : (s.heap.push { cls := .type "tuple_iterator", data := .fields #[.ref l, .int 0 0] }).objs.size = s.heap.objs.size + 1 := Heap.size_push ..
  show _ ∧ _
  rw [sz]
  have got := Heap.get?_push_size (s.heap.push { cls := .type "tuple_iterator", data := .fields #[.ref l, .int 0 0] })
    (o := { cls := .type "enumerate", data := .fields #[.none, .bool false, .ref s.heap.objs.size, rawInt 0, .none, .none] }) rfl
  rw [sz] at got
  have en : IsEnum ((s.heap.push { cls := .type "tuple_iterator", data := .fields #[.ref l, .int 0 0] }).push
      { cls := .type "enumerate", data := .fields #[.none, .bool false, .ref s.heap.objs.size, rawInt 0, .none, .none] })
      (s.heap.objs.size + 1) s.heap.objs.size 0 .none := got
  have itr : Heap.IsTupleIter ((s.heap.push { cls := .type "tuple_iterator", data := .fields #[.ref l, .int 0 0] }).push
      { cls := .type "enumerate", data := .fields #[.none, .bool false, .ref s.heap.objs.size, rawInt 0, .none, .none] }) s.heap.objs.size l 0 :=
    ⟨_, Heap.get?_push_of_some _ (Heap.get?_push_size _ rfl), rfl, rfl⟩
  exact ⟨⟨_, got, rfl⟩, h _ en itr fun b o x => Heap.get?_push_of_some _ (Heap.get?_push_of_some _ x)⟩
end

/-- the tuple at a, each item in a new pair with its place -/
def Iet (K : PySem.W.Frag) (a : Addr) : It :=
  ⟨fun i H => ∃ (xs : List V) (x : V), SqT K H a xs ∧ xs[i]? = some x,
   fun i H v H' => ∃ T x, v = .ref T ∧ H T = none ∧ H' = upd H T (.tup [.int (i : Nat), x]) ∧ ∀ xs, SqT K H a xs → xs[i]? = some x,
   fun i H => ∃ xs : List V, SqT K H a xs ∧ xs.length ≤ i⟩

theorem turn_enumT {P : Program} {w : World} {K : PySem.W.Frag} {elts : List Expr} {kk : Nat} {tpos : Pos} (a e it : Addr) :
    Turn P w K (.Tuple elts kk tpos) (Iet K a) [e, it] e (fun i h => (∃ old, IsEnum h e it ((i : Nat) : Int) old) ∧ h.IsTupleIter it a i ∧ e ≠ it) where
  mem := by simp
  obj := by
    intro i h st b hb
    obtain ⟨⟨old, he⟩, ⟨o, ho, hc, hd⟩, _⟩ := st
    have eb : b = e ∨ b = it := by simpa using hb
    cases eb with
    | inl z =>
      rw [z]
      exact ⟨_, he, fun v q => nomatch q⟩
    | inr z =>
      rw [z]
      refine ⟨o, ho, fun v q => ?_⟩
      rw [hd] at q
      cases q
  keep := fun i h h' st k =>
    let ⟨⟨old, he⟩, hi, hne⟩ := st
    ⟨⟨old, k e (by simp) _ he⟩, hi.at fun o q => k it (by simp) o q, hne⟩
  item := by
    intro X hP hw hK hc i pins s σ H E I hf st hg
    subst hP hw hK
    obtain ⟨⟨old, he⟩, hit, hne⟩ := st
    obtain ⟨xs, x, hq, hx⟩ := hg
    obtain ⟨its, rv, p, hz⟩ := I.tuple hq
    obtain ⟨u, hu, ru⟩ := rv.get hx
    have hel : e < s.heap.objs.size := Heap.lt_size he
    have hil : it < s.heap.objs.size := by
      obtain ⟨_, q, _⟩ := hit
      exact Heap.lt_size q
    have isT : s.heap.IsTuple a its.toArray := p
    have ane : a ≠ it := by
      intro z
      obtain ⟨o1, h1, c1, _⟩ := isT
      obtain ⟨o2, h2, c2, _⟩ := hit
      rw [z, h2] at h1
      cases h1
      rw [c1] at c2
      exact absurd c2 (by decide)
    have aee : e ≠ a := by
      intro z
      obtain ⟨o1, h1, c1, _⟩ := isT
      have h2 : s.heap.get? e = _ := he
      rw [z, h1] at h2
      have c2 : Value.type "tuple" = Value.type "enumerate" := c1.symm.trans (congrArg Obj.cls (Option.some.inj h2))
      exact absurd c2 (by decide)
    have D := Draws.tuple (prog := X.prog) (w := X.w) (A := X.A.in1) (I.ok.hd hc) it a ane its.toArray
    have hlt : i < its.toArray.size := by
      have := (List.getElem?_eq_some_iff.mp hu).1
      simpa using this
    refine wpAny_pyNext_enum_itemD D he ⟨hit, isT⟩ hlt hne (by simp [hne, aee]) fun x' h' tk hP ho hst' hT hsz hk => ?_
    have ex : x' = u := by
      have z : its.toArray[i]? = some x' := hP
      rw [List.getElem?_toArray, hu] at z
      cases z
      rfl
    subst ex
    refine ⟨_, rfl, wpAny_letOwnedTupleGo_enum (s := { s with heap := h', toks := tk + 1 }) ho fun h'' he' sb => ?_⟩
    have hT2 : h''.get? s.heap.objs.size = some { cls := .type "tuple", data := .seq #[.int i tk, x'] } := (sb.2 _ (Nat.ne_of_gt hel)).trans hT
    have new : ObjOk X.prog X.w (upd H s.heap.objs.size (.tup [.int (i : Nat), x])) h'' s.heap.objs.size (.tup [.int (i : Nat), x]) := by
      refine ⟨by show 2 ≤ sizeLine; decide, [.int i tk, x'], ?_, ⟨_, hT2, rfl, _, rfl⟩⟩
      exact .cons ⟨_, rfl⟩ (.cons ru .nil)
    have I1 : Inv X pins σ (upd H s.heap.objs.size (.tup [.int (i : Nat), x])) { s with heap := h'', toks := tk + 1 } := by
      refine I.turnedNew (ch := [e, it]) (fun b ob hb q => ?_) hf (Nat.le_refl _) new
      have b1 : b ≠ e := fun z => hb (by simp [z])
      have b2 : b ≠ it := fun z => hb (by simp [z])
      exact (sb.2 b b1).trans (hk b ob b1 b2 q)
    refine ⟨.ref s.heap.objs.size, _, I1, rfl, ⟨_, x, rfl, I.hok.fresh (Nat.le_refl _), rfl, fun ys hy => ?_⟩, ⟨⟨x', ?_⟩, ?_, hne⟩, fun b hb => ?_⟩
    · rw [I.tuple_inj hy hq]
      exact hx
    · have e1 : ((i + 1 : Nat) : Int) = (i : Int) + 1 := by omega
      rw [e1]
      exact he'
    · exact hst'.1.at fun o q => (sb.2 it (Ne.symm hne)).trans q
    · have small : b < s.heap.objs.size := by
        have eb : b = e ∨ b = it := by simpa using hb
        cases eb with
        | inl z => rw [z]; exact hel
        | inr z => rw [z]; exact hil
      rw [upd_ne (Nat.ne_of_lt small)]
      exact (hf b hb).1
  done := by
    intro X hP hw hK hc i pins s σ H E I hf st hg
    subst hP hw hK
    obtain ⟨⟨old, he⟩, hit, hne⟩ := st
    obtain ⟨xs, hq, hx⟩ := hg
    obtain ⟨its, rv, p, hz⟩ := I.tuple hq
    obtain ⟨f0, f1, f2, f3, f4, f5⟩ := hf it (by simp)
    have isT : s.heap.IsTuple a its.toArray := p
    have hl := rv.length
    -- past the end the iterator's place does not matter: i is at least the length
    have hd : wpAny (model X.prog X.w) X.A (pyNext (.ref e)) (fun r s1 => r = none ∧ Inv X pins σ H s1) E s := by
      have hT : s.TypeIs (.ref e) "enumerate" := ⟨_, he, rfl⟩
      unfold pyNext
      refine wpAny_bind (wpAny_attempt (wpAny_callSpecial?_slot (name := Str.ofString "__next__") hT F.slot_enumerate_next
        (wpAny_call_entry F.slot_enumerate_next hT F.entry_enumerate_next ?_ (F.args_enumerate_next_1 _))))
      show wpAny _ _ (field (.ref e) 2 >>= _) _ _ _
      refine wpAny_bind (wpAny_field he rfl (x := .ref it) rfl ?_)
      refine wpAny_bind (wpAny_nextOf_tuple_end (I.ok.hd hc) hit isT (by simp; omega) fun h' x eb hx' => ?_)
      obtain ⟨o, ho, hcl⟩ := hx'
      refine wpAny_bind (wpAny_isInstance (T := "StopIteration") (b := true) ⟨o, ho, hcl⟩ isSubtype_stop ?_)
      exact wpAny_pure ⟨rfl, I.turned (t' := s.toks) (fun b o hb q => eb b o hb q) f0 f1 f3 f4 f5⟩
    exact hd
  self := fun A i s Q E st h => let ⟨⟨_, he⟩, _⟩ := st; wpAny_pyIter_enum he h

def iEnumT (K : PySem.W.Frag) (ta : TA) : TI := fun σ H R => ta σ H fun vs H1 => ∃ a xs, vs = [.ref a] ∧ SqT K H1 a xs ∧ R (Iet K a) H1
theorem pi_enumT {X : Cx} {e : Expr} {ta : TA} {p pos tpos : Pos} {elts : List Expr} {kk : Nat} (hg : Gl X "enumerate") (hm : X.mg "enumerate" = none) (ha : PA X [e] ta)
    (hs : starEach [e] X.env = [(false, eval e X.env)] := by rfl) :
    PI X (.Tuple elts kk tpos) (.Call (.Name "enumerate" p) [e] [] pos) (iEnumT X.K ta) := by
  refine ⟨fun pins s σ H R I h => ?_⟩
  refine Call_ (ld_blt I hg hm boot_enumerate ?_)
  refine PyProof.Rows.callWith_type1 (thn (ha.run pos pins s σ H _ I h) fun us s1 ⟨vs, H1, I1, r1, q1⟩ => ?_) hs rfl
  obtain ⟨a, xs, ex, hq, q⟩ := q1
  subst ex
  have eu := Vals.ref1 r1
  subst eu
  obtain ⟨its, rv, p', hz⟩ := I1.tuple hq
  refine call_enumT (show s1.heap.IsTuple a its.toArray from p') fun h' he hit hk => wpAny_pyIter_enum he ?_
  have I2 : Inv X pins σ H1 { s1 with heap := h' } := I1.kept (t' := s1.toks) hk
  refine ⟨s1.heap.objs.size + 1, [s1.heap.objs.size + 1, s1.heap.objs.size], _, _, H1, rfl, I2,
    turn_enumT a (s1.heap.objs.size + 1) s1.heap.objs.size, ⟨⟨.none, he⟩, hit, Nat.succ_ne_self _⟩, fun b hb => ?_, q⟩
  have eb : b = s1.heap.objs.size + 1 ∨ b = s1.heap.objs.size := by simpa using hb
  have hle : s1.heap.objs.size ≤ b := by
    cases eb with
    | inl z => rw [z]; exact Nat.le_add_right _ _
    | inr z => rw [z]; exact Nat.le_refl _
  exact I1.fpOk hle (I1.hok.fresh hle)
theorem walk_enumT {K : PySem.W.Frag} {a : Addr} {xs : List V} :
    Walk (Iet K a) xs.length (fun H => SqT K H a xs) (YPair (fun i => some (.int (i : Nat))) (fun i => xs[i]?)) := by
  refine ⟨fun i _ hi q => ⟨xs, xs[i], q, by simp [hi]⟩, fun _ q => ⟨xs, q, Nat.le_refl _⟩, fun i H v H' _ q y => ?_⟩
  obtain ⟨T, x, h1, h2, h3, h4⟩ := y
  exact ⟨T, .int (i : Nat), x, h1, h2, h3, rfl, h4 xs q⟩

section
variable {X : Cx}
def rSumN (K : PySem.W.Frag) : List V → Hp → VK → Prop := fun vs H Q => ∃ (a : Addr) (ns : List Int), vs = [V.ref a] ∧ (SqL K H a (ns.map V.int) ∨ SqT K H a (ns.map V.int)) ∧ Q (.int ns.sum) H
theorem cr_sumN (hc : X.calm = true) : CallR X (.builtin "sum") (rSumN X.K) := by
  intro pins s σ H vs us Q I r h
  obtain ⟨a, ns, rfl, hs, q⟩ := h
  cases hs with
  | inl hs => exact cr_sum hc pins s σ H _ us Q I r ⟨a, ns, rfl, hs, q⟩
  | inr hs =>
    obtain ⟨its, rv, hl, _⟩ := I.tuple hs
    have isT : s.heap.IsTuple a its.toArray := hl
    rw [Vals.ref1 r]
    have hi := rv.ints
    obtain ⟨xs, e⟩ := hi.allInts.items
    have hn : numsOf (intItems xs).toList = ns := by
      rw [← e]
      exact hi.numsOf
    rw [nums_intItems] at hn
    rw [e] at isT
    refine PySem.W.ktm_sumG (I.ok.hd hc) isT fun h' tk t' hk => ⟨.int ns.sum, H, I.kept hk, ?_, q⟩
    refine ⟨t', ?_⟩
    rw [preSum_eq, List.take_of_length_le (by simp), hn]
end

/-! heaps that grow; rules whose readings say it -/

/-! ### relations of heaps -/
def Ex (H H' : Hp) : Prop := ∀ a o, H a = some o → H' a = some o
/-- all but lists are kept -/
def Kp (H H' : Hp) : Prop := ∀ a o, H a = some o → (∀ xs, o ≠ .lst xs) → H' a = some o
theorem Ex.refl (H : Hp) : Ex H H := fun _ _ h => h
theorem Ex.trans {H H1 H2 : Hp} (a : Ex H H1) (b : Ex H1 H2) : Ex H H2 := fun x o h => b x o (a x o h)
theorem Ex.new {H : Hp} {p : Addr} {o : HO} (h : H p = none) : Ex H (upd H p o) := fun a u e => by
  rw [upd_ne (ne_of_none e h)]
  exact e
theorem Ex.kp {H H' : Hp} (e : Ex H H') : Kp H H' := fun a o h _ => e a o h
theorem Ex.free {H H' : Hp} (e : Ex H H') {l : Addr} (h : H' l = none) : H l = none := by
  cases q : H l with
  | none => rfl
  | some o =>
    rw [e l o q] at h
    cases h
theorem Kp.refl (H : Hp) : Kp H H := fun _ _ h _ => h
theorem Kp.trans {H H1 H2 : Hp} (a : Kp H H1) (b : Kp H1 H2) : Kp H H2 := fun x o h n => b x o (a x o h n) n

/-- the draws' list: a figure, a seed, a counter -/
def VatAt (H : Hp) (v : Addr) : Prop := ∃ a b c : Int, H v = some (.lst [.int a, .int b, .int c]) ∧ 0 ≤ a ∧ 0 ≤ b ∧ b < 2147483323 ∧ 0 ≤ c
/-- what calls that draw leave -/
structure Gv (v : Addr) (H H' : Hp) : Prop where
  old : VatAt H v
  keep : ∀ a o, a ≠ v → H a = some o → H' a = some o
  new : VatAt H' v
theorem VatAt.ex {H H' : Hp} {v : Addr} (h : VatAt H v) (e : Ex H H') : VatAt H' v := by
  obtain ⟨a, b, c, h1, h2⟩ := h
  exact ⟨a, b, c, e _ _ h1, h2⟩
theorem Gv.kp {v : Addr} {H H' : Hp} (g : Gv v H H') : Kp H H' := fun a o h n => by
  refine g.keep a o (fun z => ?_) h
  obtain ⟨x, y, w, h1, _⟩ := g.old
  rw [z, h1] at h
  exact n _ (Option.some.inj h).symm
theorem Gv.of {v : Addr} {H H' : Hp} (h : VatAt H v) (e : Ex H H') : Gv v H H' := ⟨h, fun a o _ q => e a o q, h.ex e⟩
theorem Gv.refl {v : Addr} {H : Hp} (h : VatAt H v) : Gv v H H := Gv.of h (Ex.refl H)
theorem Gv.trans {v : Addr} {H H1 H2 : Hp} (a : Gv v H H1) (b : Gv v H1 H2) : Gv v H H2 :=
  ⟨a.old, fun x o n h => b.keep x o n (a.keep x o n h), b.new⟩
theorem Gv.ex {v : Addr} {H H1 H2 : Hp} (a : Gv v H H1) (b : Ex H1 H2) : Gv v H H2 := a.trans (Gv.of a.new b)
/-- where the list is new nothing old is changed -/
theorem Gv.out {v : Addr} {H H1 H2 : Hp} (n : H v = none) (e : Ex H H1) (g : Gv v H1 H2) : Ex H H2 := fun a o h =>
  g.keep a o (fun z => by rw [z, n] at h; cases h) (e a o h)
theorem Gv.lst {v l : Addr} {H H' : Hp} {xs : List V} (g : Gv v H H') (n : l ≠ v) (h : H l = some (.lst xs)) : H' l = some (.lst xs) := g.keep l _ n h

theorem sqT_kp {K : PySem.W.Frag} {H H' : Hp} {a : Addr} {xs : List V} (h : SqT K H a xs) (e : Kp H H') : SqT K H' a xs := by
  rcases h with (h | ⟨o, h⟩) | h
  · exact .inl (.inl (e _ _ h (fun _ z => nomatch z)))
  · exact .inl (.inr ⟨o, e _ _ h (fun _ z => nomatch z)⟩)
  · exact .inr h
theorem sqL_ex {K : PySem.W.Frag} {H H' : Hp} {a : Addr} {xs : List V} (h : SqL K H a xs) (e : Ex H H') : SqL K H' a xs := by
  rcases h with (h | ⟨o, h⟩) | h
  · exact .inl (.inl (e _ _ h))
  · exact .inl (.inr ⟨o, e _ _ h⟩)
  · exact .inr h

/-! ### new objects, told by what they hold -/
section
variable {X : Cx} {f : Value} {g : Value → Value → Sem Value}
theorem CallR.imp {r r' : List V → Hp → VK → Prop} (h : CallR X f r) (hi : ∀ vs H Q, r' vs H Q → r vs H Q) : CallR X f r' :=
  fun pins s σ H xs us Q I rel q => h pins s σ H xs us Q I rel (hi _ _ _ q)
theorem OpR.imp {r r' : R2} (h : OpR X g r) (hi : ∀ x y H Q, r' x y H Q → r x y H Q) : OpR X g r' :=
  fun pins s σ H x y v u Q I rx ry q => h pins s σ H x y v u Q I rx ry (hi _ _ _ _ q)
theorem SlR.imp {r r' : V → Option Int → Option Int → Hp → VK → Prop} (h : SlR X r) (hi : ∀ x lo hi H Q, r' x lo hi H Q → r x lo hi H Q) : SlR X r' :=
  fun pins s σ H x v vl vu lo hi' sl Q I rx hs pl pu q => h pins s σ H x v vl vu lo hi' sl Q I rx hs pl pu (hi _ _ _ _ _ q)

/-- a new object o, all else as it was -/
def New (H : Hp) (o : HO) (Q : VK) : Prop := ∀ p H', H p = none → Ex H H' → H' p = some o → Q (.ref p) H'
theorem New.at {H : Hp} {o : HO} {Q : VK} (h : New H o Q) : ∀ p, H p = none → Q (.ref p) (upd H p o) :=
  fun p n => h p _ n (Ex.new n) upd_same

def nLst (t : TA) : TE := fun σ H Q => t σ H fun xs H1 => xs.length ≤ sizeLine ∧ New H1 (.lst xs) Q
def nTup (t : TA) : TE := fun σ H Q => t σ H fun xs H1 => xs.length ≤ sizeLine ∧ New H1 (.tup xs) Q
end
section
variable {X : Cx} {es : List Expr} {t : TA} {pos : Pos}
/-- a reading closed under what follows from the wanted -/
def tm (t : TA) : TA := fun σ H R => ∃ R0 : List V → Hp → Prop, t σ H R0 ∧ ∀ vs H', R0 vs H' → R vs H'
theorem PA.mon (h : PA X es t) : PA X es (tm t) := by
  refine ⟨fun pos pins s σ H R I ⟨R0, h0, hi⟩ => thn (h.run pos pins s σ H R0 I h0) fun us s' q => ?_⟩
  obtain ⟨vs, H', I', rel, z⟩ := q
  exact ⟨vs, H', I', rel, hi vs H' z⟩
theorem pe_lstN (h : PA X es t) : PE X (.List es pos) (nLst t) :=
  ⟨fun pins s σ H Q I hq => (pe_lst (PA.mon h)).run pins s σ H Q I ⟨_, hq, fun vs H' ⟨z, n⟩ => ⟨z, n.at⟩⟩⟩
theorem pe_tupN {k : Nat} (h : PA X es t) : PE X (.Tuple es k pos) (nTup t) :=
  ⟨fun pins s σ H Q I hq => (pe_tup (PA.mon h)).run pins s σ H Q I ⟨_, hq, fun vs H' ⟨z, n⟩ => ⟨z, n.at⟩⟩⟩

/-- tuple(x) of a list, of a tuple -/
def rTupleN (K : PySem.W.Frag) : List V → Hp → VK → Prop := fun vs H Q => ∃ p ys, vs = [.ref p] ∧ SqL K H p ys ∧ New H (.tup ys) Q
theorem call_tupleN : CallR X (.type "tuple") (rTupleN X.K) :=
  CallR.imp call_tuple_of fun vs H Q ⟨p, ys, e, h, n⟩ => ⟨p, ys, e, .inl ⟨h, n.at⟩⟩
def rListN (K : PySem.W.Frag) : List V → Hp → VK → Prop := fun vs H Q => ∃ p ys, vs = [.ref p] ∧ (SqL K H p ys ∨ SqT K H p ys) ∧ New H (.lst ys) Q
theorem call_list_ofN : CallR X (.type "list") (rListN X.K) :=
  CallR.imp call_list_of fun vs H Q ⟨p, ys, e, h, n⟩ => ⟨p, ys, e, h, n.at⟩
/-- divmod by a positive number below 2 ^ 9000 -/
def rDivmodN : List V → Hp → VK → Prop := fun vs H Q => ∃ i j, vs = [.int i, .int j] ∧ 0 < j ∧ j.natAbs.log2 < 9000 ∧ New H (.tup [.int (i / j), .int (i % j)]) Q
theorem call_divmodN : CallR X (.builtin "divmod") rDivmodN :=
  CallR.imp call_divmodW fun vs H Q ⟨i, j, e, h0, h1, n⟩ => ⟨i, j, e, ⟨h0, PyProof.noPylong_of_log2 h1⟩, n.at⟩
/-- xs + ys, two lists that may be written -/
def rCatN : R2 := fun x y H Q => ∃ l b xs zs, x = .ref l ∧ y = .ref b ∧ H l = some (.lst xs) ∧ H b = some (.lst zs) ∧ xs.length + zs.length ≤ sizeLine ∧ New H (.lst (xs ++ zs)) Q
theorem op_catN : OpR X (binaryOp .Add) rCatN :=
  OpR.imp op_cat fun x y H Q ⟨l, b, xs, zs, e1, e2, h1, h2, z, n⟩ => ⟨l, b, xs, zs, e1, e2, h1, h2, z, n.at⟩
def rRepN : R2 := fun x y H Q => ∃ l k xs, x = .ref l ∧ y = .int k ∧ H l = some (.lst xs) ∧ 0 ≤ k ∧ k < 2 ^ 63 ∧ xs.length * k.toNat ≤ sizeLine ∧ New H (.lst (List.replicate k.toNat xs).flatten) Q
theorem op_repN : OpR X (binaryOp .Mult) rRepN :=
  OpR.imp op_rep fun x y H Q ⟨l, k, xs, e1, e2, h1, h2, h3, z, n⟩ => ⟨l, k, xs, e1, e2, h1, by omega, h3, z, n.at⟩
def rSlN (K : PySem.W.Frag) : V → Option Int → Option Int → Hp → VK → Prop := fun x lo hi H Q => ∃ a xs, x = .ref a ∧ SqL K H a xs ∧ New H (.lst (cutV xs lo hi)) Q
theorem sl_listN : SlR X (rSlN X.K) := SlR.imp sl_list fun x lo hi H Q ⟨a, xs, e, h, n⟩ => ⟨a, xs, e, h, n.at⟩
end

/-! ### data -/
/-- v tells d in H -/
abbrev Is (K : PySem.W.Frag) (H : Hp) (v : V) (d : PyData) : Prop := Dp K H v d
mutual
theorem dp_kp {K : PySem.W.Frag} {H H' : Hp} (e : Ex H H') : ∀ (d : PyData) (v : V), Dp K H v d → Dp K H' v d
  | .none, _, h => by cases h; exact .non
  | .bool _, _, h => by cases h; exact .bl _
  | .int _, _, h => by cases h; exact .int _
  | .str _, _, h => by cases h; exact .str _
  | .list ds, _, h => by
    cases h with
    | lst hs ha => exact .lst (sqL_ex hs e) (dpAll_kp e ds _ ha)
  | .tuple ds, _, h => by
    cases h with
    | tup hs ha => exact .tup (sqT_kp hs e.kp) (dpAll_kp e ds _ ha)
  | .dict _, _, h => by cases h
theorem dpAll_kp {K : PySem.W.Frag} {H H' : Hp} (e : Ex H H') : ∀ (ds : List PyData) (vs : List V), DpAll K H vs ds → DpAll K H' vs ds
  | [], _, h => by cases h; exact .nil
  | d :: ds, _, h => by
    cases h with
    | cons h1 h2 => exact .cons (dp_kp e d _ h1) (dpAll_kp e ds _ h2)
end
theorem dp_ints {K : PySem.W.Frag} {H : Hp} : ∀ ns : List Int, DpAll K H (ns.map V.int) (ns.map PyData.int)
  | [] => .nil
  | _ :: ns => .cons (.int _) (dp_ints ns)
/-- data without lists is kept by all that keeps tuples -/
def noList : PyData → Bool
  | .list _ => false
  | .tuple ds => noLists ds
  | _ => true
where noLists : List PyData → Bool
  | [] => true
  | d :: ds => noList d && noLists ds
mutual
theorem dp_keep {K : PySem.W.Frag} {H H' : Hp} (e : Kp H H') : ∀ (d : PyData) (v : V), noList d = true → Dp K H v d → Dp K H' v d
  | .none, _, _, h => by cases h; exact .non
  | .bool _, _, _, h => by cases h; exact .bl _
  | .int _, _, _, h => by cases h; exact .int _
  | .str _, _, _, h => by cases h; exact .str _
  | .list ds, _, n, _ => by simp [noList] at n
  | .tuple ds, _, n, h => by
    cases h with
    | tup hs ha => exact .tup (sqT_kp hs e) (dpAll_keep e ds _ (by simpa [noList] using n) ha)
  | .dict _, _, _, h => by cases h
theorem dpAll_keep {K : PySem.W.Frag} {H H' : Hp} (e : Kp H H') : ∀ (ds : List PyData) (vs : List V), noList.noLists ds = true → DpAll K H vs ds → DpAll K H' vs ds
  | [], _, _, h => by cases h; exact .nil
  | d :: ds, _, n, h => by
    cases h with
    | cons h1 h2 =>
      simp only [noList.noLists, Bool.and_eq_true] at n
      exact .cons (dp_keep e d _ n.1 h1) (dpAll_keep e ds _ n.2 h2)
end

section
variable {X : Cx}
/-- != of two that tell one and the same -/
def rNeN (K : PySem.W.Frag) : R2 := fun x y H Q => ∃ d, Dp K H x d ∧ Dp K H y d ∧ SeqAt.shaped d = true ∧ Q (.bl false) H
theorem op_neDN (hu : X.A.units + 64 < cLine) : OpR X (compareOp .NotEq) (rNeN X.K) :=
  OpR.imp (op_neD hu) fun x y H Q ⟨d, h1, h2, z, q⟩ => ⟨d, d, h1, h2, z, z, by rw [SeqAt.eqv_refl _ (SeqAt.canLay_of_shaped z)]; exact q⟩
def rEqN (K : PySem.W.Frag) : R2 := fun x y H Q => ∃ d, Dp K H x d ∧ Dp K H y d ∧ SeqAt.shaped d = true ∧ Q (.bl true) H
theorem op_eqDN (hu : X.A.units + 64 < cLine) : OpR X (compareOp .Eq) (rEqN X.K) :=
  OpR.imp (op_eqD hu) fun x y H Q ⟨d, h1, h2, z, q⟩ => ⟨d, d, h1, h2, z, z, by rw [SeqAt.eqv_refl _ (SeqAt.canLay_of_shaped z)]; exact q⟩
end

/-! ### repr -/
mutual
def costD : PyData → Nat
  | .none => 4
  | .bool _ => 5
  | .int _ => 1930
  | .str x => (reprText x).length
  | .list ds => costs ds + 3
  | .tuple ds => costs ds + 3
  | .dict _ => 0
def costs : List PyData → Nat
  | [] => 0
  | d :: ds => costD d + 2 + costs ds
end
theorem listText_len : ∀ ts : List Str, (listText ts).length ≤ piled ts + 2
  | [] => by decide +kernel
  | t :: r => by
    have e1 : ("[" : Str).length = 1 := rfl
    have e2 : ("]" : Str).length = 1 := rfl
    have e3 : ("" : Str).length = 0 := rfl
    unfold listText
    rw [strLen_append]
    show (textFrom (0 + 1) (("[" : Str) ++ (if (0 : Nat) > 0 then ", " else "" : String) ++ t) r).length + _ ≤ _
    rw [textFrom_length_pos _ _ _ (Nat.succ_pos 0), if_neg (by decide), strLen_append, strLen_append, e1, e2, piled_cons]
    show 1 + ("" : Str).length + t.length + piled r + 1 ≤ _
    rw [e3]
    omega
theorem tupleText_len (ts : List Str) : (tupleText ts).length ≤ piled ts + 3 := by
  have e3 : (((if ts.length == 1 then ",)" else ")" : String) : Str)).length ≤ 2 := by split <;> decide +kernel
  have e1 : ("(" : Str).length = 1 := rfl
  unfold tupleText
  rw [strLen_append, strLen_append, e1]
  by_cases h : ts = []
  · subst h
    decide +kernel
  · have := join_length_add ts h
    omega
mutual
theorem shown_cost : ∀ d : PyData, d.showable = true → d.hasDict = false → d.shown.length ≤ costD d
  | .none, _, _ => by decide +kernel
  | .bool b, _, _ => by cases b <;> decide +kernel
  | .int i, h, _ => by
    have h1 : i.natAbs.log2 < 1920 := by simpa [PyData.showable] using h
    have h2 := int_text_length_le (k := 1920) (by decide) h1
    show (Str.ofString (toString i)).length ≤ 1930
    rw [PySem.ofString_length]
    omega
  | .str x, _, _ => Nat.le_refl _
  | .list ds, h, n => by
    have q := showns_cost ds (by simpa [PyData.showable] using h) (by simpa [PyData.hasDict] using n)
    have q2 := listText_len (PyData.shownAll ds)
    show (listText (PyData.shownAll ds)).length ≤ costs ds + 3
    omega
  | .tuple ds, h, n => by
    have q := showns_cost ds (by simpa [PyData.showable] using h) (by simpa [PyData.hasDict] using n)
    have q2 := tupleText_len (PyData.shownAll ds)
    show (tupleText (PyData.shownAll ds)).length ≤ costs ds + 3
    omega
  | .dict _, _, n => by simp [PyData.hasDict] at n
theorem showns_cost : ∀ ds : List PyData, PyData.showableAll ds = true → PyData.hasDictAll ds = false → piled (PyData.shownAll ds) ≤ costs ds
  | [], _, _ => Nat.le_refl _
  | d :: ds, h, n => by
    simp only [PyData.showableAll, Bool.and_eq_true] at h
    simp only [PyData.hasDictAll, Bool.or_eq_false_iff] at n
    have q1 := shown_cost d h.1 n.1
    have q2 := showns_cost ds h.2 n.2
    show piled (d.shown :: PyData.shownAll ds) ≤ costD d + 2 + costs ds
    rw [piled_cons]
    omega
end
section
variable {X : Cx}
/-- repr of data that is a list or a tuple -/
def rRepr (K : PySem.W.Frag) : List V → Hp → VK → Prop := fun vs H Q => ∃ a d, vs = [V.ref a] ∧ Dp K H (.ref a) d ∧ d.showable = true ∧ d.hasDict = false ∧ d.depth ≤ 20 ∧ costD d ≤ sizeLine ∧ Q (.str d.shown) H
theorem cr_repr (hg : X.A.guards = some []) (hu : X.A.units + 64 < cLine) : CallR X (.builtin "repr") (rRepr X.K) := by
  intro pins s σ H vs us Q I r h
  obtain ⟨a, d, rfl, hd, h1, h2, h3, h4, q⟩ := h
  obtain ⟨as, rd⟩ := Dp.reads I d (.ref a) (.ref a) hd rfl
  rw [Vals.ref1 r]
  have sz := shown_cost d h1 h2
  refine repr_of_reads' rd h1 (fun z => ?_) hg (by omega) (fun _ _ e => e) (fun h' u tk hk => ⟨.str d.shown, H, I.kept hk, ⟨u, rfl⟩, q⟩) (by omega)
  rw [h2] at z
  cases z
end

/-! readings run by rewriting -/

def LoopW (J : It) (g : TG) (tb : TS) (D : Ends) (σ : L2.St) (H1 : Hp) : Prop :=
  ∃ W : Nat → Nat → L2.St → Hp → Prop, (∃ m, W 0 m σ H1) ∧ ∀ (i m : Nat) (σ : L2.St) (H : Hp), W i m σ H →
    (J.stop i H ∧ D.nx σ H) ∨ (J.go i H ∧ ∃ N : L2.St → Hp → Prop, (∀ (σ' : L2.St) (H' : Hp), N σ' H' → ∃ m', m' < m ∧ W (i + 1) m' σ' H') ∧
      ∀ (x : V) (H' : Hp), J.yld i H x H' → g x σ H' fun σ2 H2 => tb { nx := N, rt := D.rt, bk := D.nx, ct := N } σ2 H2)
def LcW (J : It) (g : TG) (tt : TT) (te : TE) (vs : List Nat) (σ : L2.St) (H1 : Hp) (D : Addr) (Q : VK) : Prop :=
  ∃ W : Nat → Nat → Hp → Prop, (∃ m, W 0 m (upd H1 D (.lst []))) ∧ ∀ (i m : Nat) (H : Hp), W i m H →
    (J.stop i H ∧ Q (V.ref D) H) ∨ (J.go i H ∧ ∃ Nx : Hp → Prop, (∀ (H' : Hp), Nx H' → ∃ m', m' < m ∧ W (i + 1) m' H') ∧
      ∀ (x : V) (H' : Hp), J.yld i H x H' → g x (wipe σ vs) H' fun σ2 H2 => wipe σ2 vs = wipe σ vs ∧ tt σ2 H2 fun b H3 =>
        if b = true then te σ2 H3 fun y H4 => ∃ acc, H4 D = some (.lst acc) ∧ acc.length < sizeLine ∧ Nx (upd H4 D (.lst (acc ++ [y]))) else Nx H3)
section
variable {X : Cx}
def tmE (t : TE) : TE := fun σ H R => ∃ R0 : VK, t σ H R0 ∧ ∀ v H', R0 v H' → R v H'
theorem PE.mon {e : Expr} {t : TE} (h : PE X e t) : PE X e (tmE t) := by
  refine ⟨fun pins s σ H R I ⟨R0, h0, hi⟩ => thn (h.run pins s σ H R0 I h0) fun u s' q => ?_⟩
  obtain ⟨v, H', I', rel, z⟩ := q
  exact ⟨v, H', I', rel, hi v H' z⟩
def tmT (t : TT) : TT := fun σ H R => ∃ R0 : Bool → Hp → Prop, t σ H R0 ∧ ∀ v H', R0 v H' → R v H'
theorem PT.mon {e : Expr} {t : TT} (h : PT X e t) : PT X e (tmT t) := by
  refine ⟨fun pins s σ H R I ⟨R0, h0, hi⟩ => thn (h.run pins s σ H R0 I h0) fun u s' q => ?_⟩
  obtain ⟨H', I', z⟩ := q
  exact ⟨H', I', hi u H' z⟩
def tCut (t u : TS) : TS := fun D σ H => ∃ Mid : L2.St → Hp → Prop, t { nx := Mid, rt := D.rt, bk := D.bk, ct := D.ct } σ H ∧ ∀ σ' H', Mid σ' H' → u D σ' H'
theorem pss_cut {st : Stmt} {rest : List Stmt} {t u : TS} (h1 : PS X st t) (h2 : PSs X rest u) : PSs X (st :: rest) (tCut t u) := by
  refine ⟨fun pins s σ H D I ⟨Mid, hm, hu⟩ => ?_⟩
  refine wpAny_execs_cons (thn (h1.run pins s σ H { nx := Mid, rt := D.rt, bk := D.bk, ct := D.ct } I hm) fun fl s1 q => ?_)
  cases fl with
  | next =>
    obtain ⟨σ', H', I', z⟩ := q
    exact h2.run pins s1 σ' H' D I' (hu σ' H' z)
  | ret v => exact q
  | brk => exact q
  | cont => exact q
end
section
variable {t u : TS} {D : Ends} {σ : L2.St} {H : Hp} {te ta tb tc : TE} {g : TG} {Q : VK} {tt tu : TT} {K : PySem.W.Frag} {wi : TI} {tx tr : TA} {to th : TO} {R : Bool → Hp → Prop}
theorem r_seq : tSeq t u D σ H = t { nx := u D, rt := D.rt, bk := D.bk, ct := D.ct } σ H := rfl
theorem r_asg : tAsg te g D σ H = te σ H fun x H1 => g x σ H1 D.nx := rfl
theorem r_name {i : Nat} {v : V} {S : L2.St → Hp → Prop} : gName i v σ H S = S (σ.set i (some v)) H := rfl
theorem r_ifS : tIfS tt t u D σ H = tt σ H fun b H1 => if b = true then t D σ H1 else u D σ H1 := rfl
theorem r_next : tNext D σ H = D.nx σ H := rfl
theorem r_ret : tRet te D σ H = te σ H D.rt := rfl
theorem r_retN : tRetN D σ H = D.rt V.non H := rfl
theorem r_drop : tDrop te D σ H = te σ H fun _ H1 => D.nx σ H1 := rfl
theorem r_test : tTest te σ H R = te σ H fun x H1 => ∃ k, x = V.bl k ∧ R k H1 := rfl
theorem r_B : tB te σ H R = te σ H fun x H1 => ∃ k, x = V.bl k ∧ R k H1 := rfl
theorem r_if : tIf tt ta tb σ H Q = tt σ H fun c H1 => if c = true then ta σ H1 Q else tb σ H1 Q := rfl
theorem r_cons {S : List V → Hp → Prop} : tCons ta tx σ H S = ta σ H fun x H1 => tx σ H1 fun xs H2 => S (x :: xs) H2 := rfl
theorem r_nil {S : List V → Hp → Prop} : tNil σ H S = S [] H := rfl
theorem r_cb {r : List V → Hp → VK → Prop} : tCB r tx σ H Q = tx σ H fun vs H1 => r vs H1 Q := rfl
theorem r_tF {sp : Sp} : tF sp tx σ H Q = tx σ H fun vs H1 => sp vs H1 Q E0 := rfl
theorem r_part {S : Option Int → Hp → Prop} : tPart te σ H S = te σ H fun x H1 => ∃ i, x = V.int i ∧ S (some i) H1 := rfl
theorem r_nopart {S : Option Int → Hp → Prop} : tNoPart σ H S = S none H := rfl
theorem r_sl {r : V → Option Int → Option Int → Hp → VK → Prop} : L2.tSl r te to th σ H Q = te σ H fun x H1 => to σ H1 fun l H2 => th σ H2 fun u H3 => r x l u H3 Q := rfl
theorem r_par {i j : Nat} : tPar i j tx D σ H = tx σ H fun vs H1 => ∃ v w, vs = [v, w] ∧ D.nx ((σ.set i (some v)).set j (some w)) H1 := rfl
theorem r_chain {r r' : R2} : tChain r r' ta tb tc σ H Q = ta σ H fun x H1 => tb σ H1 fun y H2 => r x y H2 fun z H3 => ∃ k, z = V.bl k ∧ if k = true then tc σ H3 fun w' H4 => r' y w' H4 Q else Q (V.bl false) H3 := rfl
theorem r_or : tOr tt tu σ H R = tt σ H fun c H1 => if c = true then R true H1 else tu σ H1 R := rfl
theorem r_and : tAnd tt tu σ H R = tt σ H fun c H1 => if c = true then tu σ H1 R else R false H1 := rfl
theorem r_not : tNot tt σ H R = tt σ H fun c H1 => R (!c) H1 := rfl
theorem r_orV : tOrV ta tb σ H Q = ta σ H fun x H1 => ∃ c, x = V.bl c ∧ if c = true then Q (.bl true) H1 else tb σ H1 Q := rfl
theorem r_andV : tAndV ta tb σ H Q = ta σ H fun x H1 => ∃ c, x = V.bl c ∧ if c = true then tb σ H1 Q else Q (.bl false) H1 := rfl
theorem r_notV : tNotV ta σ H Q = ta σ H fun x H1 => ∃ c, x = V.bl c ∧ Q (.bl (!c)) H1 := rfl
theorem r_op {r : R2} : tOp r ta tb σ H Q = ta σ H fun x H1 => tb σ H1 fun y H2 => r x y H2 Q := rfl
theorem r_un {r : V → Hp → VK → Prop} : tUn r ta σ H Q = ta σ H fun x H1 => r x H1 Q := rfl
theorem r_var {i : Nat} : tVar i σ H Q = ∃ v, σ[i]? = some (some v) ∧ Q v H := rfl
theorem r_c {v : V} : tC v σ H Q = Q v H := rfl
theorem r_yes {R : Bool → Hp → Prop} : tYes σ H R = R true H := rfl
theorem r_sfld {tv : TE} {f : Str} : sFld K ta tv f D σ H = tv σ H fun y H1 => ta σ H1 fun x H2 => ∃ a C dx fs, x = V.ref a ∧ H2 a = some (HO.ins C dx fs) ∧ Cls K C ∧ NoAttr K C f ∧ fs.length < 1000 ∧ D.nx σ (upd H2 a (HO.ins C dx (putF f y fs))) := rfl
theorem r_never : tNever D σ H ↔ False := Iff.rfl
theorem r_I0 {f : Int → Int → V} {i j : Int} : rI0 f (.int i) (.int j) H Q ↔ Q (f i j) H := by simp [rI0]
theorem r_I {C : Int → Int → Prop} {f : Int → Int → V} {i j : Int} : rI C f (.int i) (.int j) H Q ↔ C i j ∧ Q (f i j) H := by simp [rI]
theorem r_U {f : Int → V} {i : Int} : rU f (.int i) H Q ↔ Q (f i) H := by simp [rU]
theorem r_eqI {i j : Int} : rEq (.int i) (.int j) H Q ↔ Q (.bl (decide (i = j))) H := by simp [rEq, scal]
theorem r_neI {i j : Int} : rNe (.int i) (.int j) H Q ↔ Q (.bl (!decide (i = j))) H := by simp [rNe, scal]
theorem r_eqS {x y : Str} : rEq (.str x) (.str y) H Q ↔ Q (.bl (decide (x = y))) H := by simp [rEq, scal]
theorem r_neS {x y : Str} : rNe (.str x) (.str y) H Q ↔ Q (.bl (!decide (x = y))) H := by simp [rNe, scal]
theorem r_lst {es : TA} : nLst es σ H Q = es σ H fun xs H1 => xs.length ≤ sizeLine ∧ New H1 (.lst xs) Q := rfl
theorem r_tup {es : TA} : nTup es σ H Q = es σ H fun xs H1 => xs.length ≤ sizeLine ∧ New H1 (.tup xs) Q := rfl
theorem r_for {D : Ends} : tFor wi g t D σ H = wi σ H fun J H1 => LoopW J g t D σ H1 := rfl
theorem r_lc {vs : List Nat} : tLc wi g tt te vs σ H Q = wi σ H fun J H1 => ∀ Dd, H1 Dd = none → LcW J g tt te vs σ H1 Dd Q := rfl
theorem r_list {S : It → Hp → Prop} : iList K te σ H S = te σ H fun x H1 => ∃ a, x = V.ref a ∧ (∃ xs, SqL K H1 a xs) ∧ S (Itl K a) H1 := rfl
theorem r_tupI {S : It → Hp → Prop} : iTup K te σ H S = te σ H fun x H1 => ∃ a, x = V.ref a ∧ (∃ xs, SqT K H1 a xs) ∧ S (Itt K a) H1 := rfl
theorem r_rng1 {S : It → Hp → Prop} : iRng1 tx σ H S = tx σ H fun vs H1 => ∃ j, vs = [V.int j] ∧ -2 ^ 62 ≤ j ∧ j < 2 ^ 62 ∧ S (Itr 0 j.toNat) H1 := rfl
theorem r_rng2 {S : It → Hp → Prop} : iRng2 tx σ H S = tx σ H fun vs H1 => ∃ i j : Int, vs = [.int i, .int j] ∧ (-(2 ^ 62) ≤ i ∧ i < 2 ^ 62 ∧ -(2 ^ 62) ≤ j ∧ j < 2 ^ 62) ∧ S (Itr i (j - i).toNat) H1 := rfl
theorem r_enumT {S : It → Hp → Prop} : iEnumT K tx σ H S = tx σ H fun vs H1 => ∃ a xs, vs = [.ref a] ∧ SqT K H1 a xs ∧ S (Iet K a) H1 := rfl
theorem r_bm {T : String} {r : V → List V → Hp → VK → Prop} : tBM K T r te tx σ H Q = te σ H fun x H1 => tyV K T x H1 ∧ tx σ H1 fun xs H2 => r x xs H2 Q := rfl
theorem r_fld {f : Str} : tFld K ta f σ H Q = ta σ H fun x H1 => ∃ a C dx fs v, x = V.ref a ∧ H1 a = some (HO.ins C dx fs) ∧ Cls K C ∧ NoAttr K C f ∧ List.lookup f fs = some v ∧ Q v H1 := rfl
theorem r_subT {o i : TE} {s : TSet} {v : V} {S : L2.St → Hp → Prop} : gSub o i s v σ H S = o σ H fun x H1 => i σ H1 fun y H2 => s x y v H2 fun H3 => S σ H3 := rfl
theorem r_gtup {n : Nat} {ts : TGs} {v : V} {S : L2.St → Hp → Prop} : gTup K n ts v σ H S = ∃ a xs, v = .ref a ∧ SqT K H a xs ∧ xs.length = n ∧ ts xs σ H S := rfl
theorem r_gcons {ts : TGs} {v : V} {xs : List V} {S : L2.St → Hp → Prop} : gCons g ts (v :: xs) σ H S ↔ g v σ H fun σ' H' => ts xs σ' H' S := by
  constructor
  · rintro ⟨w, r, e, h⟩
    cases e
    exact h
  · exact fun h => ⟨v, xs, rfl, h⟩
theorem r_gnil {S : L2.St → Hp → Prop} : gNil [] σ H S ↔ S σ H := by
  simp [gNil]
section
variable {P : Program} {w : World} {mg : Str → Option Value} {base : Heap} {N : List Str} {q : Str} {sc : Scope} {f : Addr} {cd : Value} {A : Around} {outer : List Env} {s : Shared} {E : XK}
theorem r_K0 : (cxOf CX0 P w K mg base N q sc f cd A outer s H E).K = K := rfl
theorem r_K : (cxOf CX0 P w K mg base N q sc f cd A outer s H E).nox.K = K := rfl
theorem r_Kb {s' : Shared} {H' : Hp} {sc' : Scope} {ce : Env} {fp : List Addr} : (((cxOf CX0 P w K mg base N q sc f cd A outer s H E).nox).blk s' H' sc' ce fp).K = K := rfl
end
/-- loops -/
theorem loopL {a : Addr} {xs : List V} {tb : TS} (Pv : Nat → L2.St → Hp → Prop) (h0 : Pv 0 σ H) (hl : ∀ i σ H, i ≤ xs.length → Pv i σ H → SqL K H a xs)
    (hs : ∀ i x σ H, xs[i]? = some x → Pv i σ H → g x σ H fun σ2 H2 => tb { nx := Pv (i + 1), rt := D.rt, bk := D.nx, ct := Pv (i + 1) } σ2 H2) (hd : ∀ σ H, Pv xs.length σ H → D.nx σ H) : LoopW (Itl K a) g tb D σ H := for_list Pv h0 hl hs hd
theorem loopT {a : Addr} {xs : List V} {tb : TS} (Pv : Nat → L2.St → Hp → Prop) (h0 : Pv 0 σ H) (hl : ∀ i σ H, i ≤ xs.length → Pv i σ H → SqT K H a xs)
    (hs : ∀ i x σ H, xs[i]? = some x → Pv i σ H → g x σ H fun σ2 H2 => tb { nx := Pv (i + 1), rt := D.rt, bk := D.nx, ct := Pv (i + 1) } σ2 H2) (hd : ∀ σ H, Pv xs.length σ H → D.nx σ H) : LoopW (Itt K a) g tb D σ H := for_tup Pv h0 hl hs hd
theorem loopR {lo : Int} {n : Nat} {tb : TS} (Pv : Nat → L2.St → Hp → Prop) (h0 : Pv 0 σ H)
    (hs : ∀ i σ H, i < n → Pv i σ H → g (.int (lo + i)) σ H fun σ2 H2 => tb { nx := Pv (i + 1), rt := D.rt, bk := D.nx, ct := Pv (i + 1) } σ2 H2) (hd : ∀ σ H, Pv n σ H → D.nx σ H) : LoopW (Itr lo n) g tb D σ H := for_range Pv h0 hs hd
theorem loopE {a : Addr} {xs : List V} {tb : TS} (Pv : Nat → L2.St → Hp → Prop) (h0 : Pv 0 σ H) (hl : ∀ i σ H, i ≤ xs.length → Pv i σ H → SqT K H a xs)
    (hs : ∀ i x σ H T H', xs[i]? = some x → Pv i σ H → Ex H H' → H' T = some (.tup [.int (i : Nat), x]) → g (.ref T) σ H' fun σ2 H2 => tb { nx := Pv (i + 1), rt := D.rt, bk := D.nx, ct := Pv (i + 1) } σ2 H2) (hd : ∀ σ H, Pv xs.length σ H → D.nx σ H) : LoopW (Iet K a) g tb D σ H :=
  for_it (walk_enumT (K := K) (a := a) (xs := xs)) Pv h0 hl (fun i v σ H H' hi hp y => by
    obtain ⟨T, x, z, rfl, hn, rfl, h1, h2⟩ := y
    cases h1
    exact hs i z σ H T _ h2 hp (Ex.new hn) upd_same) hd
end

/-! comprehensions; small rules of values -/
section
variable {g : TG} {te : TE} {vs : List Nat} {σ : L2.St} {H1 : Hp} {Dd : Addr} {Q : VK} {K : PySem.W.Frag} {a : Addr} {xs : List V}
/-- the state of a comprehension: what is made so far tells R -/
def LcJ (H1 : Hp) (Dd : Addr) (R : Nat → V → Hp → Prop) (i : Nat) (H : Hp) : Prop :=
  ∃ acc : List V, H Dd = some (.lst acc) ∧ acc.length = i ∧ Ex H1 H ∧ ∀ (j : Nat) y, acc[j]? = some y → R j y H
theorem lcJ_turn {R : Nat → V → Hp → Prop} (hR : ∀ i y H H', Kp H H' → R i y H → R i y H') (hD : H1 Dd = none) {i : Nat} {H H4 : Hp} {y : V}
    (p : LcJ H1 Dd R i H) (e : Ex H H4) (r : R i y H4) (hi : i < 1000000) :
    ∃ acc, H4 Dd = some (.lst acc) ∧ acc.length < sizeLine ∧ LcJ H1 Dd R (i + 1) (upd H4 Dd (.lst (acc ++ [y]))) := by
  obtain ⟨acc, h1, h2, h3, h4⟩ := p
  have k : Kp H4 (upd H4 Dd (.lst (acc ++ [y]))) := fun b o hb n => by
    rw [upd_ne]
    · exact hb
    · intro z
      rw [z, e _ _ h1] at hb
      exact n _ (Option.some.inj hb).symm
  refine ⟨acc, e _ _ h1, Nat.lt_of_lt_of_le (show acc.length < 1000000 by omega) (by decide), acc ++ [y], upd_same, by simp [h2], fun b o hb => ?_, fun j z hz => ?_⟩
  · rw [upd_ne (ne_of_none hb hD)]
    exact e _ _ (h3 _ _ hb)
  · by_cases hj : j < acc.length
    · rw [List.getElem?_append_left hj] at hz
      exact hR _ _ _ _ (e.kp.trans k) (h4 j z hz)
    · have hj2 : j = acc.length := by
        have := (List.getElem?_eq_some_iff.mp hz).1
        rw [List.length_append, List.length_singleton] at this
        omega
      subst hj2
      rw [List.getElem?_append_right (Nat.le_refl _), Nat.sub_self] at hz
      cases hz
      rw [h2]
      exact hR _ _ _ _ k r
theorem lcJ_start {R : Nat → V → Hp → Prop} (hD : H1 Dd = none) : LcJ H1 Dd R 0 (upd H1 Dd (.lst [])) :=
  ⟨[], upd_same, rfl, Ex.new hD, fun j y h => by simp at h⟩
/-- what is wanted behind a comprehension -/
def LcEnd (H1 : Hp) (Dd : Addr) (n : Nat) (R : Nat → V → Hp → Prop) (Q : VK) : Prop :=
  ∀ H ys, Ex H1 H → H Dd = some (.lst ys) → ys.length = n → (∀ (i : Nat) y, ys[i]? = some y → R i y H) → Q (.ref Dd) H
theorem lcL {J0 : Prop} (R : Nat → V → Hp → Prop) (hR : ∀ i y H H', Kp H H' → R i y H → R i y H') (hD : H1 Dd = none) (hx : SqL K H1 a xs) (hz : xs.length ≤ 100000)
    (hs : ∀ (i : Nat) x H, xs[i]? = some x → Ex H1 H → g x (wipe σ vs) H fun σ2 H2 => wipe σ2 vs = wipe σ vs ∧ tmE te σ2 H2 fun y H4 => Ex H H4 ∧ R i y H4)
    (hg : ∀ (i : Nat) x H S S', xs[i]? = some x → (∀ σ2 H2, S σ2 H2 → S' σ2 H2) → g x (wipe σ vs) H S → g x (wipe σ vs) H S')
    (hd : LcEnd H1 Dd xs.length R Q) : LcW (Itl K a) g tYes (tmE te) vs σ H1 Dd Q :=
  lc_list (xs := xs) (LcJ H1 Dd R) (lcJ_start hD) (fun i H _ ⟨_, _, _, e, _⟩ => sqL_ex hx e) (fun i x H hi p => by
    obtain ⟨acc, q1, q2, q3, q4⟩ := id p
    refine hg i x H _ _ hi (fun σ2 H2 ⟨w, z⟩ => ⟨w, ?_⟩) (hs i x H hi q3)
    show tmE te σ2 H2 _
    obtain ⟨R0, z1, z2⟩ := z
    exact ⟨R0, z1, fun y H4 r0 => lcJ_turn hR hD p (z2 y H4 r0).1 (z2 y H4 r0).2 (by have := (List.getElem?_eq_some_iff.mp hi).1; omega)⟩)
    fun H ⟨acc, q1, q2, q3, q4⟩ => hd H acc q3 q1 q2 q4
theorem lcT (R : Nat → V → Hp → Prop) (hR : ∀ i y H H', Kp H H' → R i y H → R i y H') (hD : H1 Dd = none) (hx : SqT K H1 a xs) (hz : xs.length ≤ 100000)
    (hs : ∀ (i : Nat) x H, xs[i]? = some x → Ex H1 H → g x (wipe σ vs) H fun σ2 H2 => wipe σ2 vs = wipe σ vs ∧ tmE te σ2 H2 fun y H4 => Ex H H4 ∧ R i y H4)
    (hg : ∀ (i : Nat) x H S S', xs[i]? = some x → (∀ σ2 H2, S σ2 H2 → S' σ2 H2) → g x (wipe σ vs) H S → g x (wipe σ vs) H S')
    (hd : LcEnd H1 Dd xs.length R Q) : LcW (Itt K a) g tYes (tmE te) vs σ H1 Dd Q :=
  lc_tup (xs := xs) (LcJ H1 Dd R) (lcJ_start hD) (fun i H _ ⟨_, _, _, e, _⟩ => sqT_kp hx e.kp) (fun i x H hi p => by
    obtain ⟨acc, q1, q2, q3, q4⟩ := id p
    refine hg i x H _ _ hi (fun σ2 H2 ⟨w, z⟩ => ⟨w, ?_⟩) (hs i x H hi q3)
    show tmE te σ2 H2 _
    obtain ⟨R0, z1, z2⟩ := z
    exact ⟨R0, z1, fun y H4 r0 => lcJ_turn hR hD p (z2 y H4 r0).1 (z2 y H4 r0).2 (by have := (List.getElem?_eq_some_iff.mp hi).1; omega)⟩)
    fun H ⟨acc, q1, q2, q3, q4⟩ => hd H acc q3 q1 q2 q4
theorem lcR {lo : Int} {n : Nat} {j : Nat} (R : Nat → V → Hp → Prop) (hR : ∀ i y H H', Kp H H' → R i y H → R i y H') (hD : H1 Dd = none) (hz : n ≤ 100000)
    (hw : ∀ x, wipe ((wipe σ vs).set j (some x)) vs = wipe σ vs)
    (hs : ∀ (i : Nat) H, i < n → Ex H1 H → tmE te ((wipe σ vs).set j (some (.int (lo + i)))) H fun y H4 => Ex H H4 ∧ R i y H4)
    (hd : LcEnd H1 Dd n R Q) : LcW (Itr lo n) (gName j) tYes (tmE te) vs σ H1 Dd Q :=
  lc_range (LcJ H1 Dd R) (lcJ_start hD) (fun i H hi p => by
    obtain ⟨acc, q1, q2, q3, q4⟩ := id p
    refine ⟨hw _, ?_⟩
    obtain ⟨R0, z1, z2⟩ := hs i H hi q3
    exact ⟨R0, z1, fun y H4 r0 => lcJ_turn hR hD p (z2 y H4 r0).1 (z2 y H4 r0).2 (by omega)⟩)
    fun H ⟨acc, q1, q2, q3, q4⟩ => hd H acc q3 q1 q2 q4
/-- a name as the target -/
theorem lcLn {j : Nat} (R : Nat → V → Hp → Prop) (hR : ∀ i y H H', Kp H H' → R i y H → R i y H') (hD : H1 Dd = none) (hx : SqL K H1 a xs) (hz : xs.length ≤ 100000)
    (hw : ∀ x, wipe ((wipe σ vs).set j (some x)) vs = wipe σ vs)
    (hs : ∀ (i : Nat) x H, xs[i]? = some x → Ex H1 H → tmE te ((wipe σ vs).set j (some x)) H fun y H4 => Ex H H4 ∧ R i y H4)
    (hd : LcEnd H1 Dd xs.length R Q) : LcW (Itl K a) (gName j) tYes (tmE te) vs σ H1 Dd Q :=
  lcL (J0 := True) R hR hD hx hz (fun i x H hi e => ⟨hw x, hs i x H hi e⟩) (fun _ _ _ _ _ _ h q => h _ _ q) hd
theorem lcTn {j : Nat} (R : Nat → V → Hp → Prop) (hR : ∀ i y H H', Kp H H' → R i y H → R i y H') (hD : H1 Dd = none) (hx : SqT K H1 a xs) (hz : xs.length ≤ 100000)
    (hw : ∀ x, wipe ((wipe σ vs).set j (some x)) vs = wipe σ vs)
    (hs : ∀ (i : Nat) x H, xs[i]? = some x → Ex H1 H → tmE te ((wipe σ vs).set j (some x)) H fun y H4 => Ex H H4 ∧ R i y H4)
    (hd : LcEnd H1 Dd xs.length R Q) : LcW (Itt K a) (gName j) tYes (tmE te) vs σ H1 Dd Q :=
  lcT R hR hD hx hz (fun i x H hi e => ⟨hw x, hs i x H hi e⟩) (fun _ _ _ _ _ _ h q => h _ _ q) hd
end
section
variable {K : PySem.W.Frag} {H : Hp} {Q : VK} {p : Addr} {xs : List V} {i : Int} {v : V}
theorem q_ixL (h : SqL K H p xs) (e : atI xs i = some v) (q : Q v H) : rIxL K (.ref p) (.int i) H Q := ⟨p, xs, i, v, rfl, rfl, h, e, q⟩
theorem q_ixT (h : SqT K H p xs) (e : atI xs i = some v) (q : Q v H) : rIxT K (.ref p) (.int i) H Q := ⟨p, xs, i, v, rfl, rfl, h, e, q⟩
theorem at_int {ns : List Int} {i : Int} (h0 : 0 ≤ i) (h : i < ns.length) : ∃ z, ns[i.toNat]? = some z ∧ atI (ns.map V.int) i = some (.int z) := by
  obtain ⟨n, rfl⟩ := Int.eq_ofNat_of_zero_le h0
  have hn : n < ns.length := by omega
  refine ⟨ns[n], by simp [hn], at_of (j := n) rfl ?_⟩
  simp [hn]
/-- products: both together short, or one of them small -/
def CMulS (i j : Int) : Prop := CMulX i j ∨ CMul i j
theorem op_mulS {X : Cx} : OpR X (binaryOp .Mult) (rI CMulS fun i j => .int (i * j)) := fun pins s σ H x y v u Q I rx ry ⟨i, j, e1, e2, c, q⟩ =>
  c.elim (fun c => op_mulX pins s σ H x y v u Q I rx ry ⟨i, j, e1, e2, c, q⟩) fun c => op_mul pins s σ H x y v u Q I rx ry ⟨i, j, e1, e2, c, q⟩
theorem cmul {i j : Int} (a b : Nat) (ha : i.natAbs < 2 ^ a) (hb : j.natAbs < 2 ^ b) (h : a + b ≤ 134217728 := by decide) : CMulS i j := .inl (mulx_ok ha hb h)
theorem cmulL {i j : Int} (h1 : -(2 ^ 64) < i := by first | decide | omega) (h2 : i < 2 ^ 64 := by first | decide | omega) : CMulS i j := .inr (.inl ⟨h1, h2⟩)
theorem cmulR {i j : Int} (h1 : -(2 ^ 64) < j := by first | decide | omega) (h2 : j < 2 ^ 64 := by first | decide | omega) : CMulS i j := .inr (.inr ⟨h1, h2⟩)
theorem ints_cut {ns : List Int} {lo hi : Option Int} {x : V} (h : x ∈ cutV (ns.map V.int) lo hi) : ∃ z, x = .int z := by
  unfold cutV at h
  have h2 := List.mem_of_mem_drop (List.mem_of_mem_take h)
  obtain ⟨z, _, e⟩ := List.mem_map.mp h2
  exact ⟨z, e.symm⟩
theorem call_intN {X : Cx} : CallR X (.type "int") (fun xs H Q => ∃ i, xs = [V.int i] ∧ Q (.int i) H) :=
  CallR.imp call_int1 fun _ _ _ h => .inl h
theorem r_set {o i v : V} {S : Hp → Prop} : rSetL o i v H S = ∃ p xs k j, o = .ref p ∧ i = .int k ∧ H p = some (.lst xs) ∧ ixN xs.length k = some j ∧ S (upd H p (.lst (xs.set j v))) := rfl
theorem sizeLine_le {n : Nat} (h : n ≤ 1000000) : n ≤ sizeLine := Nat.le_trans h (by decide)
end

/-! fractions in lowest terms are rational numbers; plain counts -/

/-- a fraction as a tuple's items -/
def fr (r : Rat) : List V := [.int r.num, .int ((r.den : Nat) : Int)]
def frD (r : Rat) : PyData := .tuple [.int r.num, .int ((r.den : Nat) : Int)]
/-- both parts below 2 ^ n -/
def sz (r : Rat) (n : Nat) : Prop := r.num.natAbs < 2 ^ n ∧ r.den < 2 ^ n

theorem nac {k : Int} (hk : 0 < k) : ((k.natAbs : Nat) : Int) = k := by omega
theorem div_num {t b : Int} (hb : 0 < b) : ((t : Rat) / (b : Rat)).num = t / ((Int.gcd b t : Nat) : Int) := by
  rw [← Rat.divInt_eq_div, Rat.num_divInt, Int.sign_eq_one_of_pos hb, Int.one_mul]
theorem div_den {t b : Int} (hb : 0 < b) : ((((t : Rat) / (b : Rat)).den : Nat) : Int) = b / ((Int.gcd b t : Nat) : Int) := by
  rw [← Rat.divInt_eq_div, Rat.den_divInt, if_neg (by omega), Int.natCast_ediv, nac hb]
theorem part_eq {t b : Int} (hb : 0 < b) : [V.int (t / ((Int.gcd b t : Nat) : Int)), V.int (b / ((Int.gcd b t : Nat) : Int))] = fr ((t : Rat) / (b : Rat)) := by
  unfold fr
  rw [div_num hb, div_den hb]
theorem natAbs_div_le (t : Int) (g : Nat) : (t / (g : Int)).natAbs ≤ t.natAbs ∨ g = 0 := by
  by_cases h : g = 0
  · exact .inr h
  · left
    have := Int.natAbs_ediv_le_natAbs t (g : Int)
    omega
theorem sz_div {t b : Int} {n : Nat} (hb : 0 < b) (h1 : t.natAbs < 2 ^ n) (h2 : b.natAbs < 2 ^ n) : sz ((t : Rat) / (b : Rat)) n := by
  have q1 := Int.natAbs_ediv_le_natAbs t ((Int.gcd b t : Nat) : Int)
  have q2 := Int.natAbs_ediv_le_natAbs b ((Int.gcd b t : Nat) : Int)
  have e1 := div_num (t := t) hb
  have e2 := div_den (t := t) hb
  constructor
  · rw [e1]
    omega
  · have : (((t : Rat) / (b : Rat)).den) = (b / ((Int.gcd b t : Nat) : Int)).natAbs := by
      rw [← e2]
      simp
    omega
theorem sz_mono {r : Rat} {n m : Nat} (h : sz r n) (e : n ≤ m) : sz r m :=
  ⟨Nat.lt_of_lt_of_le h.1 (Nat.pow_le_pow_right (by decide) e), Nat.lt_of_lt_of_le h.2 (Nat.pow_le_pow_right (by decide) e)⟩
theorem den_pos (r : Rat) : (0 : Int) < ((r.den : Nat) : Int) := by
  have := r.den_pos
  omega
theorem add_parts (s r : Rat) : (((s.num * ((r.den : Nat) : Int) + r.num * ((s.den : Nat) : Int) : Int) : Rat)) / (((((s.den : Nat) : Int) * ((r.den : Nat) : Int) : Int)) : Rat) = s + r := by
  rw [Rat.add_def', Rat.mkRat_eq_div]
  congr 1
theorem mul_parts (s r : Rat) : (((s.num * r.num : Int) : Rat)) / (((((s.den : Nat) : Int) * ((r.den : Nat) : Int) : Int)) : Rat) = s * r := by
  rw [Rat.mul_def', Rat.mkRat_eq_div]
  congr 1
theorem add_lt2 {a b : Int} {n : Nat} (h1 : a.natAbs < 2 ^ n) (h2 : b.natAbs < 2 ^ n) : (a + b).natAbs < 2 ^ (n + 1) := by
  have : (2 : Nat) ^ (n + 1) = 2 ^ n + 2 ^ n := by rw [Nat.pow_succ]; omega
  omega
theorem lt2_mono {a : Int} {n m : Nat} (h : a.natAbs < 2 ^ n) (e : n ≤ m) : a.natAbs < 2 ^ m := Nat.lt_of_lt_of_le h (Nat.pow_le_pow_right (by decide) e)
theorem den_lt {r : Rat} {n : Nat} (h : sz r n) : (((r.den : Nat) : Int)).natAbs < 2 ^ n := by
  have := h.2
  simpa using this
theorem sz_add {s r : Rat} {n m : Nat} (h1 : sz s n) (h2 : sz r m) : sz (s + r) (n + m + 1) := by
  rw [← add_parts]
  refine sz_div (Int.mul_pos (den_pos s) (den_pos r)) ?_ ?_
  · refine add_lt2 (wide_lt h1.1 (den_lt h2)) ?_
    rw [Nat.add_comm]
    exact wide_lt h2.1 (den_lt h1)
  · exact lt2_mono (wide_lt (den_lt h1) (den_lt h2)) (by omega)
theorem sz_mul {s r : Rat} {n m : Nat} (h1 : sz s n) (h2 : sz r m) : sz (s * r) (n + m) := by
  rw [← mul_parts]
  exact sz_div (Int.mul_pos (den_pos s) (den_pos r)) (wide_lt h1.1 h2.1) (wide_lt (den_lt h1) (den_lt h2))
/-- the sum, from the left -/
def sumR (rs : List Rat) : Rat := rs.foldl (· + ·) 0
theorem sumR_take {rs : List Rat} {i : Nat} {r : Rat} (h : rs[i]? = some r) : sumR (rs.take (i + 1)) = sumR (rs.take i) + r := by
  unfold sumR
  rw [List.take_add_one, h]
  simp
theorem sz_sum {n : Nat} : ∀ (rs : List Rat) (i : Nat), (∀ r ∈ rs, sz r n) → i ≤ rs.length → sz (sumR (rs.take i)) (i * (n + 1) + 1)
  | rs, 0, _, _ => by
    have e : 2 ^ (0 * (n + 1) + 1) = 2 := by rw [Nat.zero_mul]
    simp only [List.take_zero]
    unfold sz
    rw [e]
    constructor <;> decide
  | rs, i + 1, h, hi => by
    have hr : rs[i]? = some rs[i] := List.getElem?_eq_getElem (by omega)
    rw [sumR_take hr]
    refine sz_mono (sz_add (sz_sum rs i h (by omega)) (h _ (List.getElem_mem _))) ?_
    rw [Nat.add_mul]
    omega

/-! ### plain counts -/
def gcdL (cs : List Int) : Nat := cs.foldl (fun (g : Nat) c => Int.gcd (g : Int) c) 0
def plainL (cs : List Int) : List Int := cs.map fun c => c / ((gcdL cs : Nat) : Int)
theorem gcdL_take {cs : List Int} {i : Nat} {c : Int} (h : cs[i]? = some c) : gcdL (cs.take (i + 1)) = Int.gcd ((gcdL (cs.take i) : Nat) : Int) c := by
  unfold gcdL
  rw [List.take_add_one, h]
  simp
theorem gcdF_dvd : ∀ (cs : List Int) (g : Nat), cs.foldl (fun (g : Nat) c => Int.gcd (g : Int) c) g ∣ g ∧ ∀ c ∈ cs, ((cs.foldl (fun (g : Nat) c => Int.gcd (g : Int) c) g : Nat) : Int) ∣ c
  | [], g => ⟨Nat.dvd_refl _, fun _ h => by simp at h⟩
  | c :: cs, g => by
    obtain ⟨h1, h2⟩ := gcdF_dvd cs (Int.gcd (g : Int) c)
    have d1 : Int.gcd (g : Int) c ∣ g := by
      have := Int.gcd_dvd_left (a := (g : Int)) (b := c)
      exact Int.ofNat_dvd.mp this
    have d2 : ((Int.gcd (g : Int) c : Nat) : Int) ∣ c := Int.gcd_dvd_right ..
    refine ⟨Nat.dvd_trans h1 d1, fun x hx => ?_⟩
    rcases List.mem_cons.mp hx with rfl | hx
    · exact Int.dvd_trans (Int.ofNat_dvd.mpr h1) d2
    · exact h2 x hx
theorem gcdL_dvd {cs : List Int} {c : Int} (h : c ∈ cs) : ((gcdL cs : Nat) : Int) ∣ c := (gcdF_dvd cs 0).2 c h
theorem dvd_gcdF : ∀ (cs : List Int) (g d : Nat), d ∣ g → (∀ c ∈ cs, (d : Int) ∣ c) → d ∣ cs.foldl (fun (g : Nat) c => Int.gcd (g : Int) c) g
  | [], g, d, h, _ => h
  | c :: cs, g, d, h, hc => by
    refine dvd_gcdF cs _ d ?_ fun x hx => hc x (List.mem_cons_of_mem _ hx)
    exact Int.dvd_gcd (Int.ofNat_dvd.mpr h) (hc c List.mem_cons_self)
theorem dvd_gcdL {cs : List Int} {d : Nat} (h : ∀ c ∈ cs, (d : Int) ∣ c) : d ∣ gcdL cs := dvd_gcdF cs 0 d (Nat.dvd_zero d) h
/-- the common divisor is told by its divisors -/
theorem gcdL_eq {cs : List Int} {g : Nat} (h1 : ∀ c ∈ cs, (g : Int) ∣ c) (h2 : ∀ d : Nat, (∀ c ∈ cs, (d : Int) ∣ c) → d ∣ g) : gcdL cs = g :=
  Nat.dvd_antisymm (h2 _ fun _ hc => gcdL_dvd hc) (dvd_gcdL h1)
theorem gcdL_pos {cs : List Int} (h : ∃ c ∈ cs, c ≠ 0) : 0 < gcdL cs := by
  obtain ⟨c, hc, hn⟩ := h
  apply Nat.pos_of_ne_zero
  intro z
  have := gcdL_dvd hc
  rw [z] at this
  exact hn (Int.zero_dvd.mp this)
theorem gcdL_le {cs : List Int} {c : Int} (hc : c ∈ cs) (h : 0 < c) : ((gcdL cs : Nat) : Int) ≤ c := Int.le_of_dvd h (gcdL_dvd hc)
/-- so many times as great -/
theorem gcdL_scale (cs : List Int) {k : Int} (hk : 0 < k) : ((gcdL (cs.map (k * ·)) : Nat) : Int) = k * ((gcdL cs : Nat) : Int) := by
  have key : gcdL (cs.map (k * ·)) = k.natAbs * gcdL cs := by
    apply gcdL_eq
    · intro c hc
      obtain ⟨x, hx, rfl⟩ := List.mem_map.mp hc
      rw [Int.natCast_mul, nac hk]
      exact Int.mul_dvd_mul_left k (gcdL_dvd hx)
    · intro d hd
      have kd : k.natAbs ∣ gcdL (cs.map (k * ·)) := by
        apply dvd_gcdL
        intro c hc
        obtain ⟨x, hx, rfl⟩ := List.mem_map.mp hc
        rw [nac hk]
        exact Int.dvd_mul_right k x
      obtain ⟨m, hm⟩ := kd
      have hm2 : m ∣ gcdL cs := by
        apply dvd_gcdL
        intro c hc
        have h1 := gcdL_dvd (cs := cs.map (k * ·)) (c := k * c) (List.mem_map.mpr ⟨c, hc, rfl⟩)
        rw [hm, Int.natCast_mul, nac hk] at h1
        exact Int.dvd_of_mul_dvd_mul_left (by omega) h1
      have h3 : d ∣ gcdL (cs.map (k * ·)) := dvd_gcdL hd
      rw [hm] at h3
      exact Nat.dvd_trans h3 (Nat.mul_dvd_mul_left _ hm2)
  rw [key, Int.natCast_mul, nac hk]
theorem plainL_scale (cs : List Int) {k : Int} (hk : 0 < k) : plainL (cs.map (k * ·)) = plainL cs := by
  unfold plainL
  rw [List.map_map, gcdL_scale cs hk]
  apply List.map_congr_left
  intro c _
  exact Int.mul_ediv_mul_of_pos _ _ hk
theorem plainL_len (cs : List Int) : (plainL cs).length = cs.length := List.length_map _
/-- the counts are so many times the plain ones -/
theorem plainL_mul (cs : List Int) : (plainL cs).map (((gcdL cs : Nat) : Int) * ·) = cs := by
  unfold plainL
  rw [List.map_map]
  conv => rhs; rw [← List.map_id cs]
  apply List.map_congr_left
  intro c hc
  exact Int.mul_ediv_cancel' (gcdL_dvd hc)
theorem plainL_plain (cs : List Int) (h : 0 < gcdL cs) : gcdL (plainL cs) = 1 := by
  have e := gcdL_scale (plainL cs) (k := ((gcdL cs : Nat) : Int)) (by omega)
  rw [plainL_mul] at e
  have hp : (0 : Int) < ((gcdL cs : Nat) : Int) := by omega
  have : ((gcdL cs : Nat) : Int) * 1 = ((gcdL cs : Nat) : Int) * ((gcdL (plainL cs) : Nat) : Int) := by rw [Int.mul_one]; exact e
  have := Int.eq_of_mul_eq_mul_left (by omega) this
  omega
theorem plainL_twice (cs : List Int) (h : 0 < gcdL cs) : plainL (plainL cs) = plainL cs := by
  have e := plainL_plain cs h
  conv => lhs; unfold plainL
  rw [show gcdL (List.map (fun c => c / ((gcdL cs : Nat) : Int)) cs) = 1 from e]
  simp [plainL]
/-- counts in one proportion are alike -/
theorem plainL_prop {cs ds : List Int} {a b : Int} (ha : 0 < a) (hb : 0 < b) (h : cs.map (a * ·) = ds.map (b * ·)) : plainL cs = plainL ds := by
  rw [← plainL_scale cs ha, h, plainL_scale ds hb]

/-! data that can be shown and compared -/
/-- d can be laid, shown within c signs, compared; k deep -/
structure Gd (d : PyData) (k c : Nat) : Prop where
  lay : d.canLay0 = true
  sh : d.showable = true
  nd : d.hasDict = false
  dp : d.depth ≤ k
  co : costD d ≤ c
theorem Gd.int {i : Int} (h : i.natAbs.log2 < 1920) : Gd (.int i) 0 1930 :=
  ⟨by simp [PyData.canLay0], by simp [PyData.showable, h], by simp [PyData.hasDict], Nat.le_of_eq (by simp [PyData.depth]), Nat.le_of_eq (by simp [costD])⟩
theorem Gd.bool (b : Bool) : Gd (.bool b) 0 1930 :=
  ⟨by simp [PyData.canLay0], by simp [PyData.showable], by simp [PyData.hasDict], Nat.le_of_eq (by simp [PyData.depth]), by simp [costD]⟩
theorem gds {k c : Nat} : ∀ {ds : List PyData}, (∀ d ∈ ds, Gd d k c) → PyData.canLayAll0 ds = true ∧ PyData.showableAll ds = true ∧ PyData.hasDictAll ds = false ∧ PyData.depthAll ds ≤ k ∧ costs ds ≤ ds.length * (c + 2)
  | [], _ => ⟨by simp [PyData.canLayAll0], by simp [PyData.showableAll], by simp [PyData.hasDictAll], by simp [PyData.depthAll], by simp [costs]⟩
  | d :: ds, h => by
    obtain ⟨h1, h2, h3, h4, h5⟩ := gds fun x hx => h x (List.mem_cons_of_mem _ hx)
    obtain ⟨g1, g2, g3, g4, g5⟩ := h d List.mem_cons_self
    refine ⟨by simp [PyData.canLayAll0, g1, h1], by simp [PyData.showableAll, g2, h2], by simp [PyData.hasDictAll, g3, h3], ?_, ?_⟩
    · simp only [PyData.depthAll]
      omega
    · simp only [costs, List.length_cons]
      rw [Nat.add_mul]
      omega
theorem Gd.tuple {k c n : Nat} {ds : List PyData} (h : ∀ d ∈ ds, Gd d k c) (hn : ds.length ≤ n) : Gd (.tuple ds) (k + 1) (n * (c + 2) + 3) := by
  obtain ⟨h1, h2, h3, h4, h5⟩ := gds h
  refine ⟨by simpa [PyData.canLay0] using h1, by simpa [PyData.showable] using h2, by simpa [PyData.hasDict] using h3, ?_, ?_⟩
  · simp only [PyData.depth]
    omega
  · simp only [costD]
    have := Nat.mul_le_mul_right (c + 2) hn
    omega
theorem Gd.list {k c n : Nat} {ds : List PyData} (h : ∀ d ∈ ds, Gd d k c) (hn : ds.length ≤ n) : Gd (.list ds) (k + 1) (n * (c + 2) + 3) := by
  obtain ⟨h1, h2, h3, h4, h5⟩ := gds h
  refine ⟨by simpa [PyData.canLay0] using h1, by simpa [PyData.showable] using h2, by simpa [PyData.hasDict] using h3, ?_, ?_⟩
  · simp only [PyData.depth]
    omega
  · simp only [costD]
    have := Nat.mul_le_mul_right (c + 2) hn
    omega
theorem Gd.mono {d : PyData} {k c k' c' : Nat} (h : Gd d k c) (hk : k ≤ k') (hc : c ≤ c') : Gd d k' c' := ⟨h.lay, h.sh, h.nd, Nat.le_trans h.dp hk, Nat.le_trans h.co hc⟩
theorem Gd.shaped {d : PyData} {k c : Nat} (h : Gd d k c) (hk : k ≤ 64) : SeqAt.shaped d = true := by
  unfold SeqAt.shaped
  rw [h.lay]
  simp only [Bool.true_and, decide_eq_true_eq]
  exact Nat.le_trans h.dp hk
theorem log1920 {i : Int} (h : i.natAbs < 2 ^ 1900) : i.natAbs.log2 < 1920 := Nat.lt_of_lt_of_le (PySem.Flt.log2_lt_of (k := 1900) (by decide) h) (show 1900 ≤ 1920 by decide)
theorem gd_ints {cs : List Int} {n : Nat} (hn : cs.length ≤ n) (h : ∀ c ∈ cs, c.natAbs < 2 ^ 1900) : Gd (.tuple (cs.map PyData.int)) 1 (n * 1932 + 3) :=
  Gd.tuple (k := 0) (c := 1930) (fun d hd => by
    obtain ⟨c, hc, rfl⟩ := List.mem_map.mp hd
    exact .int (log1920 (h c hc))) (by rw [List.length_map]; exact hn)
theorem gd_fr {r : Rat} (h : sz r 1900) : Gd (frD r) 1 4000 := by
  have g : Gd (.tuple [.int r.num, .int ((r.den : Nat) : Int)]) 1 (2 * (1930 + 2) + 3) :=
    Gd.tuple (k := 0) (c := 1930) (n := 2) (fun d hd => by
      simp only [List.mem_cons, List.not_mem_nil, or_false] at hd
      rcases hd with rfl | rfl
      · exact .int (log1920 h.1)
      · exact .int (log1920 (den_lt h))) (Nat.le_refl 2)
  exact g.mono (Nat.le_refl 1) (by decide)
section
variable {X : Cx}
def rReprG (K : PySem.W.Frag) : List V → Hp → VK → Prop := fun vs H Q => ∃ v d k c, vs = [v] ∧ Dp K H v d ∧ (∃ a, v = V.ref a) ∧ Gd d k c ∧ k ≤ 20 ∧ c ≤ 10000000 ∧ Q (.str d.shown) H
theorem cr_reprG (hg : X.A.guards = some []) (hu : X.A.units + 64 < cLine) : CallR X (.builtin "repr") (rReprG X.K) :=
  CallR.imp (cr_repr hg hu) fun vs H Q ⟨v, d, k, c, e, h, ⟨a, ea⟩, g, hk, hc, q⟩ =>
    ⟨a, d, by rw [e, ea], by rw [← ea]; exact h, g.sh, g.nd, Nat.le_trans g.dp hk, Nat.le_trans g.co (Nat.le_trans hc (by decide)), q⟩
end

/-! ### the rules with the written part named: their readings do not hang on a block -/
section
variable {X : Cx} {K : PySem.W.Frag}
theorem ixL (h : X.K = K := by rfl) : IxR X (rIxL K) := by
  subst h
  exact ix_list
theorem ixT (h : X.K = K := by rfl) : IxR X (rIxT K) := by
  subst h
  exact ix_tup
def rLen (K : PySem.W.Frag) : List V → Hp → VK → Prop := fun xs H Q => ∃ p ys, xs = [.ref p] ∧ (SqL K H p ys ∨ SqT K H p ys) ∧ Q (.int ys.length) H
theorem kLen (h : X.K = K := by rfl) : CallR X (.builtin "len") (rLen K) := by
  subst h
  exact call_len_seq
theorem kSum (hc : X.calm = true) (h : X.K = K := by rfl) : CallR X (.builtin "sum") (rSumN K) := by
  subst h
  exact cr_sumN hc
theorem kAll (hc : X.calm = true) (h : X.K = K := by rfl) : CallR X (.builtin "all") (rAll K) := by
  subst h
  exact cr_all hc
theorem kTuple (h : X.K = K := by rfl) : CallR X (.type "tuple") (rTupleN K) := by
  subst h
  exact call_tupleN
theorem kList (h : X.K = K := by rfl) : CallR X (.type "list") (rListN K) := by
  subst h
  exact call_list_ofN
theorem kRepr (hg : X.A.guards = some []) (hu : X.A.units + 64 < cLine) (h : X.K = K := by rfl) : CallR X (.builtin "repr") (rReprG K) := by
  subst h
  exact cr_reprG hg hu
theorem kIsi (h : X.K = K := by rfl) : CallR X (.builtin "isinstance") (rIsi K) := by
  subst h
  exact call_isi
theorem kNe (hu : X.A.units + 64 < cLine) (h : X.K = K := by rfl) : OpR X (compareOp .NotEq) (rNeN K) := by
  subst h
  exact op_neDN hu
theorem kEq (hu : X.A.units + 64 < cLine) (h : X.K = K := by rfl) : OpR X (compareOp .Eq) (rEqN K) := by
  subst h
  exact op_eqDN hu
theorem slL (h : X.K = K := by rfl) : L2.SlR X (rSlN K) := by
  subst h
  exact sl_listN
theorem kFld {e : Expr} {f : Str} {pos : Pos} {ta : TE} (he : PE X e ta) (hb : attributeBase e f X.env (eval e X.env) = eval e X.env) (h : X.K = K := by rfl) : PE X (.Attribute e f pos) (tFld K ta f) := by
  subst h
  exact pe_fld he hb
theorem r_len {xs : List V} {H : Hp} {Q : VK} : rLen K xs H Q = ∃ p ys, xs = [.ref p] ∧ (SqL K H p ys ∨ SqT K H p ys) ∧ Q (.int ys.length) H := rfl
end

/-! zip of lists and tuples in any order; comb, lcm; words alone; a tuple turned about -/

/-- a list (true) or a tuple -/
def SqB (K : PySem.W.Frag) : Bool → Hp → Addr → List V → Prop
  | true => SqL K
  | false => SqT K
def IsB : Bool → Heap → Addr → Array Value → Prop
  | true => Heap.IsList
  | false => Heap.IsTuple
def ItB : Bool → Heap → Addr → Addr → Nat → Prop
  | true => Heap.IsListIter
  | false => Heap.IsTupleIter
def oB : Bool → Addr → Obj
  | true, l => { cls := .type "list_iterator", data := .fields #[.ref l, .int 0 0] }
  | false, l => { cls := .type "tuple_iterator", data := .fields #[.ref l, .int 0 0] }
theorem sqB_kp {K : PySem.W.Frag} {k : Bool} {H H' : Hp} {a : Addr} {xs : List V} (h : SqB K k H a xs) (e : Ex H H') : SqB K k H' a xs := by
  cases k
  · exact sqT_kp h e.kp
  · exact sqL_ex h e
theorem side {X : Cx} {pins : List (Addr × Obj)} {σ : L2.St} {H : Hp} {s : Shared} {k : Bool} {a : Addr} {xs : List V} (I : Inv X pins σ H s) (h : SqB X.K k H a xs) :
    ∃ its : List Value, Vals xs its ∧ IsB k s.heap a its.toArray ∧ a < s.heap.objs.size := by
  cases k
  · obtain ⟨its, rv, p, _⟩ := I.tuple h
    have p' : s.heap.IsTuple a its.toArray := p
    obtain ⟨_, e, _⟩ := id p'
    exact ⟨its, rv, p', Heap.lt_size e⟩
  · obtain ⟨its, rv, p, _⟩ := I.list h
    exact ⟨its, rv, p.isList, p.lt⟩
theorem sqB_inj {X : Cx} {pins : List (Addr × Obj)} {σ : L2.St} {H : Hp} {s : Shared} {k : Bool} {a : Addr} {xs ys : List V} (I : Inv X pins σ H s) (h : SqB X.K k H a xs) (h2 : SqB X.K k H a ys) : xs = ys := by
  cases k
  · exact I.tuple_inj h h2
  · exact I.list_inj h h2
theorem drawsB {prog : Program} {w : World} {A : Around} (k : Bool) (hh : A.handled = none) (it l : Addr) (hne : l ≠ it) (items : Array Value) :
    Draws prog w A it [it, l] items.size (fun i v => items[i]? = some v) (fun i h => ItB k h it l i ∧ IsB k h l items) := by
  cases k
  · exact Draws.tuple hh it l hne items
  · exact Draws.list hh it l hne items
theorem beginsB (k : Bool) (l : Addr) (items : Array Value) : Begins (.ref l) (oB k l) (fun h => IsB k h l items) := by
  cases k
  · exact begins_tuple l items
  · exact begins_list l items
theorem itB_new {k : Bool} {h : Heap} {it l : Addr} (e : h.get? it = some (oB k l)) : ItB k h it l 0 := by
  cases k
  · exact ⟨_, e, rfl, rfl⟩
  · exact ⟨_, e, rfl, rfl⟩
theorem itB_at {k : Bool} {h h' : Heap} {it l : Addr} {i : Nat} (x : ItB k h it l i) (e : ∀ o, h.get? it = some o → h'.get? it = some o) : ItB k h' it l i := by
  cases k
  · exact Heap.IsTupleIter.at x e
  · exact Heap.IsListIter.at x e
theorem itB_obj {k : Bool} {h : Heap} {it l : Addr} {i : Nat} (x : ItB k h it l i) : ∃ o, h.get? it = some o ∧ ∃ fs, o.data = .fields fs := by
  cases k
  · obtain ⟨o, e, _, d⟩ := x
    exact ⟨o, e, _, d⟩
  · obtain ⟨o, e, _, d⟩ := x
    exact ⟨o, e, _, d⟩
theorem isB_ne {k k2 : Bool} {h : Heap} {a it l : Addr} {i : Nat} {xs : Array Value} (x : IsB k h a xs) (y : ItB k2 h it l i) : a ≠ it := by
  intro z
  subst z
  obtain ⟨o, e, fs, d⟩ := itB_obj y
  cases k
  · obtain ⟨o2, e2, _, _, d2⟩ := x
    rw [e2] at e
    cases e
    rw [d2] at d
    cases d
  · obtain ⟨o2, e2, _, _, d2⟩ := x
    rw [e2] at e
    cases e
    rw [d2] at d
    cases d

/-- both as they stand at each turn, the items in new pairs -/
def ItzB (K : PySem.W.Frag) (k1 k2 : Bool) (a b : Addr) : It :=
  ⟨fun i H => ∃ (xs ys : List V) (x y : V), (SqB K k1 H a xs ∧ SqB K k2 H b ys) ∧ xs[i]? = some x ∧ ys[i]? = some y,
    fun i H v H' => ∃ T x y, v = .ref T ∧ H T = none ∧ H' = upd H T (.tup [x, y]) ∧ (∀ xs, SqB K k1 H a xs → xs[i]? = some x) ∧ ∀ ys, SqB K k2 H b ys → ys[i]? = some y,
    fun i H => ∃ xs ys : List V, (SqB K k1 H a xs ∧ SqB K k2 H b ys) ∧ i = min xs.length ys.length⟩
def zSt (k1 k2 : Bool) (a b z TI TO i1 i2 : Addr) (i : Nat) (h : Heap) : Prop :=
  (IsZip h z TI TO .none ∧ IsTupOf2 h TI (.ref i1) (.ref i2)) ∧ (∃ x y, IsTupOf2 h TO x y) ∧ ItB k1 h i1 a i ∧ ItB k2 h i2 b i
theorem five {c z TI TO i1 i2 : Addr} (h : c ∈ [z, TI, TO, i1, i2]) : c = z ∨ c = TI ∨ c = TO ∨ c = i1 ∨ c = i2 := by
  simpa using h
theorem turn_zipB {P : Program} {w : World} {K : PySem.W.Frag} {elts : List Expr} {kk : Nat} {tpos : Pos} {k1 k2 : Bool} {a b z TI TO i1 i2 : Addr} (S : ZipSep2 z TI TO i1 i2 [i1, a] [i2, b]) :
    Turn P w K (.Tuple elts kk tpos) (ItzB K k1 k2 a b) [z, TI, TO, i1, i2] z (zSt k1 k2 a b z TI TO i1 i2) where
  mem := List.mem_cons_self ..
  obj := by
    intro i h st c hc
    obtain ⟨⟨hz, hTI⟩, ⟨x, y, hTO⟩, h1, h2⟩ := st
    obtain ⟨o1, e1, f1, d1⟩ := itB_obj h1
    obtain ⟨o2, e2, f2, d2⟩ := itB_obj h2
    rcases five hc with q | q | q | q | q <;> subst q
    · exact ⟨_, hz, fun v q => nomatch q⟩
    · exact ⟨_, hTI, fun v q => nomatch q⟩
    · exact ⟨_, hTO, fun v q => nomatch q⟩
    · refine ⟨o1, e1, fun v q => ?_⟩
      rw [d1] at q
      cases q
    · refine ⟨o2, e2, fun v q => ?_⟩
      rw [d2] at q
      cases q
  keep := by
    intro i h h' st k
    obtain ⟨⟨hz, hTI⟩, ⟨x, y, hTO⟩, h1, h2⟩ := st
    exact ⟨⟨k _ (by simp) _ hz, k _ (by simp) _ hTI⟩, ⟨x, y, k _ (by simp) _ hTO⟩, itB_at h1 fun o q => k _ (by simp) o q, itB_at h2 fun o q => k _ (by simp) o q⟩
  item := by
    intro X hP hw hK hc i pins s σ H E I hf st hg
    subst hP hw hK
    obtain ⟨⟨hz, hTI⟩, ⟨x0, y0, hTO⟩, h1, h2⟩ := st
    obtain ⟨xs, ys, x, y, ⟨qx, qy⟩, hx, hy⟩ := hg
    obtain ⟨us, rx, px, _⟩ := side I qx
    obtain ⟨vs, ry, py, _⟩ := side I qy
    have hzl : z < s.heap.objs.size := Heap.lt_size hz
    have lx : i < us.toArray.size := by
      have := (List.getElem?_eq_some_iff.mp hx).1
      have := rx.length
      simp
      omega
    have ly : i < vs.toArray.size := by
      have := (List.getElem?_eq_some_iff.mp hy).1
      have := ry.length
      simp
      omega
    have hh : X.A.in1.handled = none := I.ok.hd hc
    have D1 := drawsB (prog := X.prog) (w := X.w) k1 hh i1 a (isB_ne px h1) us.toArray
    have D2 := drawsB (prog := X.prog) (w := X.w) k2 hh i2 b (isB_ne py h2) vs.toArray
    refine wpAny_pyNext_zipD2_item S D1 D2 hz hTI hTO (show _ ∧ _ from ⟨h1, px⟩) (show _ ∧ _ from ⟨h2, py⟩) lx ly
      fun u v h' tk pu pv z' TO' s1' s2' hT hsz hk => ?_
    obtain ⟨u', eu, ru⟩ := rx.get hx
    obtain ⟨v', ev, rv⟩ := ry.get hy
    have eu2 : us.toArray[i]? = some u := pu
    have ev2 : vs.toArray[i]? = some v := pv
    rw [List.getElem?_toArray, eu] at eu2
    rw [List.getElem?_toArray, ev] at ev2
    cases eu2
    cases ev2
    refine ⟨_, rfl, wpAny_letOwnedTupleGo_zip (s := { s with heap := h', toks := tk }) z' fun h'' z'' sb => ?_⟩
    have away : ∀ c, c ≠ z → ∀ o, h'.get? c = some o → h''.get? c = some o := fun c n o q => (sb.2 c n).trans q
    have nT : s.heap.objs.size ≠ z := Nat.ne_of_gt hzl
    have new : ObjOk X.prog X.w (upd H s.heap.objs.size (.tup [x, y])) h'' s.heap.objs.size (.tup [x, y]) := by
      refine ⟨show 2 ≤ sizeLine by decide, [u, v], ?_, ⟨_, away _ nT _ hT, rfl, _, rfl⟩⟩
      exact .cons ru (.cons rv .nil)
    have I1 : Inv X pins σ (upd H s.heap.objs.size (.tup [x, y])) { s with heap := h'', toks := tk } := by
      refine I.turnedNew (t' := tk) (ch := [z, TI, TO, i1, i2]) (fun c o hb q => ?_) hf (Nat.le_refl _) new
      have nz : c ≠ z := fun e => hb (by simp [e])
      refine away c nz o (hk c o nz ?_ ?_ ?_ q)
      · exact fun e => hb (by simp [e])
      · exact fun e => hb (by simp [e])
      · exact fun e => hb (by simp [e])
    refine ⟨.ref s.heap.objs.size, _, I1, rfl, ⟨_, x, y, rfl, I.hok.fresh (Nat.le_refl _), rfl, fun l hl => ?_, fun l hl => ?_⟩, ⟨⟨z'', ?_⟩, ⟨u, v, away _ S.TOz _ TO'⟩, ?_, ?_⟩, fun c hcm => ?_⟩
    · rw [sqB_inj I hl qx]
      exact hx
    · rw [sqB_inj I hl qy]
      exact hy
    · exact away _ S.TIz _ (hk _ _ S.TIz S.TITO S.TIi1 S.TIi2 hTI)
    · exact itB_at s1'.1 fun o q => away _ (Ne.symm S.zi1) o q
    · exact itB_at s2'.1 fun o q => away _ (Ne.symm S.zi2) o q
    · have hlt : c < s.heap.objs.size := by
        obtain ⟨o1, e1, _⟩ := itB_obj h1
        obtain ⟨o2, e2, _⟩ := itB_obj h2
        rcases five hcm with q | q | q | q | q <;> subst q
        · exact hzl
        · exact Heap.lt_size hTI
        · exact Heap.lt_size hTO
        · exact Heap.lt_size e1
        · exact Heap.lt_size e2
      rw [upd_ne (Nat.ne_of_lt hlt)]
      exact (hf c hcm).1
  done := by
    intro X hP hw hK hc i pins s σ H E I hf st hg
    subst hP hw hK
    obtain ⟨⟨hz, hTI⟩, ⟨x0, y0, hTO⟩, h1, h2⟩ := st
    obtain ⟨xs, ys, ⟨qx, qy⟩, hi⟩ := hg
    obtain ⟨us, rx, px, _⟩ := side I qx
    obtain ⟨vs, ry, py, _⟩ := side I qy
    have lx : xs.length = us.toArray.size := by rw [List.size_toArray]; exact rx.length
    have ly : ys.length = vs.toArray.size := by rw [List.size_toArray]; exact ry.length
    have hh : X.A.in1.handled = none := I.ok.hd hc
    have D1 := drawsB (prog := X.prog) (w := X.w) k1 hh i1 a (isB_ne px h1) us.toArray
    have D2 := drawsB (prog := X.prog) (w := X.w) k2 hh i2 b (isB_ne py h2) vs.toArray
    refine wpAny_pyNext_zipD2_end (i := i) S D1 D2 hz hTI hTO (show _ ∧ _ from ⟨h1, px⟩) (show _ ∧ _ from ⟨h2, py⟩) (by omega) (by omega) (by omega)
      fun h' tk hk => ⟨rfl, ?_⟩
    refine I.turnedL (t' := tk) (ch := [z, TI, TO, i1, i2]) (fun c o hb q => hk c o ?_ ?_ ?_ ?_ q) hf
    · exact fun e => hb (by simp [e])
    · exact fun e => hb (by simp [e])
    · exact fun e => hb (by simp [e])
    · exact fun e => hb (by simp [e])
  self := fun A i s Q E st h => wpAny_pyIter_zip st.1.1 h

def iZipB (K : PySem.W.Frag) (ta : TA) : TI := fun σ H R => ta σ H fun vs H1 => ∃ k1 k2 a b xs ys, vs = [.ref a, .ref b] ∧ SqB K k1 H1 a xs ∧ SqB K k2 H1 b ys ∧ R (ItzB K k1 k2 a b) H1
theorem pi_zipB {X : Cx} {e e2 : Expr} {ta : TA} {p pos tpos : Pos} {elts : List Expr} {kk : Nat} (hg : Gl X "zip") (hm : X.mg "zip" = none) (ha : PA X [e, e2] ta)
    (hs : starEach [e, e2] X.env = (false, eval e X.env) :: starEach [e2] X.env := by rfl) (hpl : (backTo pos (starEach [e2] X.env)).any (·.1) = false := by rfl) :
    PI X (.Tuple elts kk tpos) (.Call (.Name "zip" p) [e, e2] [] pos) (iZipB X.K ta) := by
  refine ⟨fun pins s σ H R I h => ?_⟩
  refine Call_ (ld_blt I hg hm PyProof.Rows.boot_zip ?_)
  refine PyProof.Rows.callWith_type1 (thn (ha.run pos pins s σ H _ I h) fun us s1 ⟨vs, H1, I1, r1, q1⟩ => ?_) hs hpl
  obtain ⟨k1, k2, a, b, xs, ys, ex, qx, qy, q⟩ := q1
  subst ex
  cases r1 with
  | cons r rr =>
    cases rr with
    | cons r' rr =>
      cases rr
      cases r
      cases r'
      obtain ⟨ws, rx, px, la⟩ := side I1 qx
      obtain ⟨zs, ry, py, lb⟩ := side I1 qy
      refine zip_begins2 (beginsB k1 a ws.toArray) (beginsB k2 b zs.toArray) px py fun h' hz hTI hTO o1 o2 hsz hk => wpAny_pyIter_zip hz ?_
      have I2 : Inv X pins σ H1 { s1 with heap := h' } := I1.kept (t' := s1.toks) hk
      have S := zip_sep2 (N := s1.heap.objs.size) (fp1 := [a]) (fp2 := [b]) (by simpa using la) (by simpa using lb)
      refine ⟨_, _, _, _, H1, rfl, I2, turn_zipB (k1 := k1) (k2 := k2) S, ⟨⟨hz, hTI⟩, ⟨_, _, hTO⟩, itB_new o1, itB_new o2⟩, fun c hcm => ?_, q⟩
      have hle : s1.heap.objs.size ≤ c := by
        rcases five hcm with e | e | e | e | e <;> subst e
        · exact Nat.le_add_right _ _
        · exact Nat.le_add_right _ _
        · exact Nat.le_add_right _ _
        · exact Nat.le_refl _
        · exact Nat.le_add_right _ _
      exact I1.fpOk hle (I1.hok.fresh hle)
theorem walk_zipB {K : PySem.W.Frag} {k1 k2 : Bool} {a b : Addr} {xs ys : List V} {n : Nat} (hn : n = min xs.length ys.length) :
    Walk (ItzB K k1 k2 a b) n (fun H => SqB K k1 H a xs ∧ SqB K k2 H b ys) (YPair (fun i => xs[i]?) (fun i => ys[i]?)) := by
  subst hn
  refine ⟨fun i _ hi q => ?_, fun _ q => ⟨xs, ys, q, rfl⟩, fun i H v H' _ q y => ?_⟩
  · have h1 : i < xs.length := by omega
    have h2 : i < ys.length := by omega
    exact ⟨xs, ys, xs[i], ys[i], q, by simp [h1], by simp [h2]⟩
  · obtain ⟨T, x, z, h1, h2, h3, h4, h5⟩ := y
    exact ⟨T, x, z, h1, h2, h3, h4 xs q.1, h5 ys q.2⟩
theorem kZip {X : Cx} {K : PySem.W.Frag} {e e2 : Expr} {ta : TA} {p pos tpos : Pos} {elts : List Expr} {kk : Nat} (hg : Gl X "zip") (hm : X.mg "zip" = none) (ha : PA X [e, e2] ta) (h : X.K = K := by rfl)
    (hs : starEach [e, e2] X.env = (false, eval e X.env) :: starEach [e2] X.env := by rfl) (hpl : (backTo pos (starEach [e2] X.env)).any (·.1) = false := by rfl) :
    PI X (.Tuple elts kk tpos) (.Call (.Name "zip" p) [e, e2] [] pos) (iZipB K ta) := by
  subst h
  exact pi_zipB hg hm ha hs hpl
theorem kEnumT {X : Cx} {K : PySem.W.Frag} {e : Expr} {ta : TA} {p pos tpos : Pos} {elts : List Expr} {kk : Nat} (hg : Gl X "enumerate") (hm : X.mg "enumerate" = none) (ha : PA X [e] ta) (h : X.K = K := by rfl)
    (hs : starEach [e] X.env = [(false, eval e X.env)] := by rfl) :
    PI X (.Tuple elts kk tpos) (.Call (.Name "enumerate" p) [e] [] pos) (iEnumT K ta) := by
  subst h
  exact pi_enumT hg hm ha hs

section
variable {g : TG} {te : TE} {vs : List Nat} {σ : L2.St} {H H1 : Hp} {Dd : Addr} {Q : VK} {K : PySem.W.Frag} {D : Ends}
/-! ### targets pass what is wanted on -/
def GMono (g : TG) : Prop := ∀ v σ H S S', (∀ σ2 H2, S σ2 H2 → S' σ2 H2) → g v σ H S → g v σ H S'
def GsMono (g : TGs) : Prop := ∀ v σ H S S', (∀ σ2 H2, S σ2 H2 → S' σ2 H2) → g v σ H S → g v σ H S'
theorem gm_name {i : Nat} : GMono (gName i) := fun _ _ _ _ _ h q => h _ _ q
theorem gm_nil : GsMono gNil := fun _ _ _ _ _ h q => ⟨q.1, h _ _ q.2⟩
theorem gm_cons {t : TG} {u : TGs} (a : GMono t) (b : GsMono u) : GsMono (gCons t u) := fun _ σ H S S' h ⟨v, r, e, q⟩ =>
  ⟨v, r, e, a _ _ _ _ _ (fun σ2 H2 z => b _ _ _ _ _ h z) q⟩
theorem gm_tup {n : Nat} {t : TGs} (a : GsMono t) : GMono (gTup K n t) := fun _ σ H S S' h ⟨p, xs, e, q, l, z⟩ => ⟨p, xs, e, q, l, a _ _ _ _ _ h z⟩
/-! ### loops and comprehensions over pairs -/
theorem loopZ {k1 k2 : Bool} {a b : Addr} {xs ys : List V} {n : Nat} {tb : TS} (hn : n = min xs.length ys.length) (Pv : Nat → L2.St → Hp → Prop) (h0 : Pv 0 σ H) (hl : ∀ i σ H, i ≤ n → Pv i σ H → SqB K k1 H a xs ∧ SqB K k2 H b ys)
    (hs : ∀ i x y σ H T H', xs[i]? = some x → ys[i]? = some y → Pv i σ H → Ex H H' → H' T = some (.tup [x, y]) → g (.ref T) σ H' fun σ2 H2 => tb { nx := Pv (i + 1), rt := D.rt, bk := D.nx, ct := Pv (i + 1) } σ2 H2)
    (hd : ∀ σ H, Pv n σ H → D.nx σ H) : LoopW (ItzB K k1 k2 a b) g tb D σ H :=
  for_it (walk_zipB hn) Pv h0 hl (fun i v σ H H' hi hp y => by
    obtain ⟨T, x, z, rfl, hn, rfl, h1, h2⟩ := y
    exact hs i x z σ H T _ h1 h2 hp (Ex.new hn) upd_same) hd
theorem lcP {J : It} {n : Nat} {G : Hp → Prop} {fx fy : Nat → Option V} (w : Walk J n G (YPair fx fy)) (R : Nat → V → Hp → Prop) (hR : ∀ i y H H', Kp H H' → R i y H → R i y H') (hD : H1 Dd = none) (hG : ∀ H, Ex H1 H → G H) (hz : n ≤ 100000)
    (hm : GMono g)
    (hs : ∀ (i : Nat) x y T H, i < n → fx i = some x → fy i = some y → Ex H1 H → H T = some (.tup [x, y]) → g (.ref T) (wipe σ vs) H fun σ2 H2 => wipe σ2 vs = wipe σ vs ∧ tmE te σ2 H2 fun y H4 => Ex H H4 ∧ R i y H4)
    (hd : LcEnd H1 Dd n R Q) : LcW J g tYes (tmE te) vs σ H1 Dd Q :=
  lc_it (Qd := fun H => Q (.ref Dd) H) w (LcJ H1 Dd R) (lcJ_start hD) (fun i H _ ⟨_, _, _, e, _⟩ => hG H e) (fun i v H H' hi p y => by
    obtain ⟨T, x, z, rfl, hn, rfl, h1, h2⟩ := y
    obtain ⟨acc, q1, q2, q3, q4⟩ := id p
    have e : Ex H (upd H T (.tup [x, z])) := Ex.new hn
    refine hm _ _ _ _ _ (fun σ2 H2 ⟨w, u⟩ => ⟨w, ?_⟩) (hs i x z T _ hi h1 h2 (q3.trans e) upd_same)
    show tmE te σ2 H2 _
    obtain ⟨R0, z1, z2⟩ := u
    exact ⟨R0, z1, fun y H4 r0 => lcJ_turn hR hD p (e.trans (z2 y H4 r0).1) (z2 y H4 r0).2 (by omega)⟩)
    fun H ⟨acc, q1, q2, q3, q4⟩ => hd H acc q3 q1 q2 q4
/-- over enumerate of a tuple -/
theorem lcE {a : Addr} {xs : List V} (R : Nat → V → Hp → Prop) (hR : ∀ i y H H', Kp H H' → R i y H → R i y H') (hD : H1 Dd = none) (hx : SqT K H1 a xs) (hz : xs.length ≤ 100000) (hm : GMono g)
    (hs : ∀ (i : Nat) y T H, xs[i]? = some y → Ex H1 H → H T = some (.tup [.int (i : Nat), y]) → g (.ref T) (wipe σ vs) H fun σ2 H2 => wipe σ2 vs = wipe σ vs ∧ tmE te σ2 H2 fun y H4 => Ex H H4 ∧ R i y H4)
    (hd : LcEnd H1 Dd xs.length R Q) : LcW (Iet K a) g tYes (tmE te) vs σ H1 Dd Q :=
  lcP (walk_enumT (K := K) (a := a) (xs := xs)) R hR hD (fun H e => sqT_kp hx e.kp) hz hm (fun i x y T H _ h1 h2 e t => by
    cases h1
    exact hs i y T H h2 e t) hd
theorem lcZ {k1 k2 : Bool} {a b : Addr} {xs ys : List V} {n : Nat} (hn : n = min xs.length ys.length) (R : Nat → V → Hp → Prop) (hR : ∀ i y H H', Kp H H' → R i y H → R i y H') (hD : H1 Dd = none)
    (hx : SqB K k1 H1 a xs) (hy : SqB K k2 H1 b ys) (hz : n ≤ 100000) (hm : GMono g)
    (hs : ∀ (i : Nat) x y T H, xs[i]? = some x → ys[i]? = some y → Ex H1 H → H T = some (.tup [x, y]) → g (.ref T) (wipe σ vs) H fun σ2 H2 => wipe σ2 vs = wipe σ vs ∧ tmE te σ2 H2 fun y H4 => Ex H H4 ∧ R i y H4)
    (hd : LcEnd H1 Dd n R Q) : LcW (ItzB K k1 k2 a b) g tYes (tmE te) vs σ H1 Dd Q :=
  lcP (walk_zipB hn) R hR hD (fun H e => ⟨sqB_kp hx e, sqB_kp hy e⟩) hz hm (fun i x y T H _ h1 h2 e t => hs i x y T H h1 h2 e t) hd
theorem r_zipB {tx : TA} {S : It → Hp → Prop} : iZipB K tx σ H S = tx σ H fun vs H1 => ∃ k1 k2 a b xs ys, vs = [.ref a, .ref b] ∧ SqB K k1 H1 a xs ∧ SqB K k2 H1 b ys ∧ S (ItzB K k1 k2 a b) H1 := rfl
end

/-! ### comb, lcm -/
theorem fp_abs {n : Int} {c : Nat} (h0 : 0 ≤ n) (hn : n.natAbs ≤ 2 ^ c) (k : Nat) : (k : Int) ≤ n → (Builtin.Math.fallingProduct n k).natAbs ≤ 2 ^ (c * k) := by
  induction k with
  | zero =>
    intro _
    rw [PySem.W.mc_fp_zero]
    simp
  | succ k ih =>
    intro h
    rw [PySem.W.mc_fp_succ, Int.natAbs_mul, Nat.mul_succ, Nat.pow_add]
    have h1 := ih (by omega)
    have h2 : (n - (k : Int)).natAbs ≤ 2 ^ c := by omega
    exact Nat.mul_le_mul h1 h2
theorem lg {m c : Nat} (h : m ≤ 2 ^ c) (hc : c < 100000000) : m.log2 < bitsLine := by
  have p : 0 < 2 ^ c := Nat.two_pow_pos c
  have h2 : m < 2 ^ (c + 1) := by
    rw [Nat.pow_succ]
    omega
  by_cases h0 : m = 0
  · subst h0
    show (0 : Nat).log2 < 2 ^ 27
    decide +kernel
  have := (Nat.log2_lt h0).mpr h2
  show m.log2 < 2 ^ 27
  omega
/-- the numbers that comb is asked for -/
def CombOk (a b : Int) : Prop := 0 ≤ a ∧ 0 ≤ b ∧ b ≤ 8 ∧ a < 2 ^ 300
theorem gives_comb {a b : Int} (t u : Tok) (h : CombOk a b) : Gives (Builtin.«math.comb» ⟨[.int a t, .int b u], []⟩) (.int (PySem.W.mcComb a b)) := by
  obtain ⟨ha, hb, hs, hl⟩ := h
  by_cases h : b > a
  · rw [PySem.W.mcComb_above h]
    exact PySem.W.mc_run_comb0 a t b u (by omega) (by omega) h
  · have hm : min b (a - b) ≤ 8 := by omega
    have hm0 : 0 ≤ min b (a - b) := by omega
    have hq : PySem.W.mcComb a b = Builtin.Math.fallingProduct a (min b (a - b)).toNat / Builtin.Math.fallingProduct (min b (a - b)) (min b (a - b)).toNat := PySem.W.mcComb_at hb (by omega) rfl
    have h1 : (Builtin.Math.fallingProduct a (min b (a - b)).toNat).natAbs ≤ 2 ^ (300 * (min b (a - b)).toNat) := fp_abs ha (by omega) _ (by omega)
    have h2 : (PySem.W.mcComb a b).natAbs ≤ (Builtin.Math.fallingProduct a (min b (a - b)).toNat).natAbs := by
      rw [hq]
      exact Int.natAbs_ediv_le_natAbs _ _
    have hs : (PySem.W.mcComb a b).natAbs.log2 < bitsLine := lg (Nat.le_trans h2 h1) (by omega)
    have h3 : ¬min b (a - b) > Builtin.Math.maxSsize := by show ¬min b (a - b) > 2 ^ 63 - 1; omega
    have h4 : ¬min b (a - b) > Builtin.Math.manyFactors := by show ¬min b (a - b) > 20000; omega
    rw [hq] at hs ⊢
    exact PySem.W.mc_run_comb a t b u (by omega) (by omega) h h3 h4 (by omega) hs
section
variable {X : Cx}
def rComb : List V → Hp → VK → Prop := fun vs H Q => ∃ a b : Int, vs = [.int a, .int b] ∧ CombOk a b ∧ Q (.int (PySem.W.mcComb a b)) H
theorem cr_comb : CallR X (.builtin "math.comb") rComb := by
  intro pins s σ H vs us Q I r h
  obtain ⟨a, b, rfl, ok, q⟩ := h
  obtain ⟨t, u, rfl⟩ := Vals.int2 r
  exact call_function_meets PySem.W.MGF.kind_comb PySem.W.MGF.plain_comb PySem.W.MGF.entry_comb (PySem.W.MGF.args_comb _ _) (gives_comb t u ok).meets ⟨.int _, H, I.tok _, ⟨_, rfl⟩, q⟩
def rLcm : List V → Hp → VK → Prop := fun vs H Q => ∃ a b : Int, vs = [.int a, .int b] ∧ a.natAbs < 2 ^ 13000 ∧ b.natAbs < 2 ^ 13000 ∧ Q (.int ((Nat.lcm a.natAbs b.natAbs : Nat) : Int)) H
theorem log_le {m c : Nat} (h : m < 2 ^ c) : m.log2 ≤ c := by
  by_cases h0 : m = 0
  · subst h0
    exact Nat.zero_le _
  exact Nat.le_of_lt ((Nat.log2_lt h0).mpr h)
theorem lcm_le (m n : Nat) : m.lcm n ≤ m * n := Nat.div_le_self _ _
theorem cr_lcm : CallR X (.builtin "math.lcm") rLcm := by
  intro pins s σ H vs us Q I r h
  obtain ⟨a, b, rfl, la, lb, q⟩ := h
  obtain ⟨t, u, rfl⟩ := Vals.int2 r
  have hl : (Nat.lcm a.natAbs b.natAbs) ≤ 2 ^ 26000 := by
    have h1 := lcm_le a.natAbs b.natAbs
    have h2 := Nat.mul_le_mul (Nat.le_of_lt la) (Nat.le_of_lt lb)
    rw [← Nat.pow_add] at h2
    exact Nat.le_trans h1 h2
  have h1 : (max 1 a.natAbs).log2 ≤ 13000 := log_le (by
    have : 1 < 2 ^ 13000 := Nat.one_lt_two_pow (by decide)
    omega)
  have h2 : (max a.natAbs b.natAbs).log2 ≤ 13000 := log_le (by omega)
  have e : Nat.lcm 1 a.natAbs = a.natAbs := PySem.W.mc_lcm_one _
  have g := PySem.W.mg_run_lcm a t b u (by omega) (by omega) (by rw [e]; exact lg hl (by decide))
  rw [e] at g
  exact call_function_meets PySem.W.MGF.kind_lcm PySem.W.MGF.plain_lcm PySem.W.MGF.entry_lcm (PySem.W.MGF.args_lcm _ _) g.meets ⟨.int _, H, I.tok _, ⟨_, rfl⟩, q⟩

/-! ### words alone -/
/-- the written values put in the parameters' order: ix tells for each parameter which of them -/
def arr {α : Type} (ix : List Nat) (ws : List α) : List α := ix.filterMap (ws[·]?)
theorem arr_vals {zs : List V} {ws : List Value} (r : Vals zs ws) : ∀ ix : List Nat, Vals (arr ix zs) (arr ix ws)
  | [] => .nil
  | i :: ix => by
    have ih := arr_vals r ix
    unfold arr at ih ⊢
    have hl := r.length
    cases h : zs[i]? with
    | none =>
      have h2 : ws[i]? = none := by
        rw [List.getElem?_eq_none_iff] at h ⊢
        omega
      rw [List.filterMap_cons, List.filterMap_cons, h, h2]
      exact ih
    | some z =>
      obtain ⟨u, hu, ru⟩ := r.get h
      rw [List.filterMap_cons, List.filterMap_cons, h, hu]
      exact .cons ru ih
def KwOk (fd : FuncData) (ps ks : List Str) (ix : List Nat) : Prop := ∀ (s : Shared) (ws : List Value), ws.length = ks.length → BindsTo s fd ⟨[], ks.zip ws⟩ (ps.zip (arr ix ws))
def HasW (P : Program) (w : World) (K : PySem.W.Frag) (mg : Str → Option Value) (base : Heap) (x : Str) (k : Nat) (ps : List Str) (sp : Sp) (ks : List Str) (ix : List Nat) : Prop :=
  ∃ f fd, FnOk P w K mg base CX0 k f fd ps sp ∧ mg x = some (.ref f) ∧ PySem.W.keepIn K (.ref f) = true ∧ KwOk fd ps ks ix
/-- the def st of the text, called by words -/
def DfW (K : PySem.W.Frag) (mg : Str → Option Value) (x : Str) (st : Stmt) (ps ks : List Str) (ix : List Nat) : Prop :=
  ∃ f fd, Fun K x x st f fd ∧ mg x = some (.ref f) ∧ KwOk fd ps ks ix
theorem HasW.of {P : Program} {w : World} {K : PySem.W.Frag} {mg : Str → Option Value} {base : Heap} {x : Str} {st : Stmt} {ps ks : List Str} {ix : List Nat} {k : Nat} {sp : Sp} (D : DfW K mg x st ps ks ix)
    (h : ∀ f fd, Fun K x x st f fd → FnOk P w K mg base CX0 k f fd ps sp) : HasW P w K mg base x k ps sp ks ix := by
  obtain ⟨f, fd, F, hm, hb⟩ := D
  exact ⟨f, fd, h f fd F, hm, F.kp, hb⟩
def tW (sp : Sp) (m : Nat) (ix : List Nat) (tk : TA) : TE := fun σ H Q => tk σ H fun zs H1 => zs.length = m ∧ sp (arr ix zs) H1 Q E0
theorem pe_hasW {x : Str} {k : Nat} {ps ks : List Str} {ix : List Nat} {sp : Sp} {p pos : Pos} {kws : List Keyword} {tk : TA}
    (h : HasW X.prog X.w X.K X.mg X.base x k ps sp ks ix) (hr : Room k X.A) (hkw : PK X kws tk) (hg : Gl X x := by rfl)
    (hdb : (x == ("__debug__" : Str)) = false := by decide)
    (hall : (backToKw pos (keywordEach kws X.env)).all (·.1.isSome) = true := by rfl) (hks : (backToKw pos (keywordEach kws X.env)).filterMap (·.1) = ks := by rfl)
    (hpl : ((backTo pos (starEach [] X.env)).any (·.1) || (backToKw pos (keywordEach kws X.env)).any (·.1.isNone)) = false := by rfl) :
    PE X (.Call (.Name x p) [] kws pos) (tW sp ks.length ix tk) := by
  obtain ⟨f, fd, F, hm, hk, hb⟩ := h
  refine ⟨fun pins s σ H Q I h => ?_⟩
  apply wpAny_Call_Name_kw (ld_glob I hg hm ?_ hdb)
  apply PySem.W.callWith_KW0 (h₀ := X.base) I.ok.mod.kin hk hall ?_ hpl
  refine thn (hkw.run pos pins s σ H _ I h) fun ws s2 ⟨zs, H2, I2, rz, l, hsp⟩ => ⟨I2.kIn, ?_⟩
  rw [hks]
  have r2 := arr_vals rz ix
  have bnd := hb s2 ws (by rw [← rz.length]; exact l)
  refine wpAny_call (codeAny_mono (F.run X.A X.stack s2 H2 ⟨[], ks.zip ws⟩ (arr ix ws) (arr ix zs) Q E0 hr I2.env0 bnd r2 hsp) fun r s' hc => ?_)
  cases r with
  | error er => exact ((pass0 (X := X)) pins σ H2 s2 er s' I2 hc)
  | ok fl =>
    cases fl with
    | ret u => exact I2.after hc
    | next => exact hc.elim
    | brk => exact hc.elim
    | cont => exact hc.elim
theorem r_tW {sp : Sp} {m : Nat} {ix : List Nat} {tk : TA} {σ : L2.St} {H : Hp} {Q : VK} : tW sp m ix tk σ H Q = tk σ H fun zs H1 => zs.length = m ∧ sp (arr ix zs) H1 Q E0 := rfl
end

/-! ### a tuple turned about -/
theorem fm_congr {α β : Type} {f g : α → Option β} : ∀ {l : List α}, (∀ x ∈ l, f x = g x) → l.filterMap f = l.filterMap g
  | [], _ => rfl
  | a :: l, h => by
    rw [List.filterMap_cons, List.filterMap_cons, h a (List.mem_cons_self ..), fm_congr fun x hx => h x (List.mem_cons_of_mem _ hx)]
theorem rev_pick (xs : Array Value) : ((List.range xs.size).filterMap fun (m : Nat) => xs[(((xs.size : Int) - 1) + (m : Int) * (-1)).toNat]?).toArray = xs.toList.reverse.toArray := by
  congr 1
  apply List.ext_getElem?
  intro i
  have e : (List.range xs.size).filterMap (fun (m : Nat) => xs[(((xs.size : Int) - 1) + (m : Int) * (-1)).toNat]?) = (List.range xs.size).filterMap (fun m => xs.toList.reverse[m]?) := by
    apply fm_congr
    intro m hm
    replace hm := List.mem_range.mp hm
    have z : (((xs.size : Int) - 1) + (m : Int) * (-1)).toNat = xs.size - 1 - m := by omega
    rw [z, List.getElem?_reverse (by simpa using hm)]
    simp
  rw [e]
  have : (List.range xs.size).filterMap (fun m => xs.toList.reverse[m]?) = xs.toList.reverse := by
    have h : ∀ (l : List Value), (List.range l.length).filterMap (fun m => l[m]?) = l := by
      intro l
      induction l with
      | nil => rfl
      | cons a l ih =>
        rw [List.length_cons, List.range_succ_eq_map, List.filterMap_cons]
        simp only [List.getElem?_cons_zero, List.filterMap_map]
        congr 1
    have h2 := h xs.toList.reverse
    rw [List.length_reverse, Array.length_toList] at h2
    exact h2
  rw [this]
section
variable {prog : Program} {w : World} {A : Around} {E : Value → Shared → Prop} {s : Shared}
theorem adjust_rev (n : Nat) : Builtin.Slice.sliceAdjust none none (-1) (n : Int) = ((n : Int) - 1, -1) := by
  unfold Builtin.Slice.sliceAdjust
  simp
theorem places_rev (n : Nat) : Builtin.Slice.slicePlaces ((n : Int) - 1) (-1) (-1) = n := by
  unfold Builtin.Slice.slicePlaces
  have h1 : ¬ ((-1 : Int) > 0) := by omega
  rw [if_neg h1]
  split
  · have : ((n : Int) - 1 - -1 - 1) / (- -1) = (n : Int) - 1 := by
      rw [show (- -1 : Int) = 1 by decide, Int.ediv_one]
      omega
    rw [this]
    omega
  · omega
theorem item_rev {t sl : Addr} {items : Array Value} {vl vu vs : Value} {Q : Value → Shared → Prop} (ht : IsTup s.heap t items) (hs : s.heap.IsSliceOf sl vl vu vs) (pl : IsPart vl none) (pu : IsPart vu none) (ps : IsPart vs (some (-1)))
    (h : Q (.ref s.heap.objs.size) { s with heap := s.heap.push { cls := .type "tuple", data := .seq items.toList.reverse.toArray } })
    (hsz : items.size ≤ sizeLine) : wpAny (model prog w) A (getItem (.ref t) (.ref sl)) Q E s := by
  have hok : sizeOk (.seq items.toList.reverse.toArray) := by
    show items.toList.reverse.toArray.size ≤ sizeLine
    simpa using hsz
  obtain ⟨os, hos, hcs, hds⟩ := id hs
  have hTs : s.TypeIs (.ref sl) "slice" := ⟨os, hos, hcs⟩
  have hTt : s.TypeIs (.ref t) "tuple" := let ⟨o, ho, hc, _⟩ := ht; ⟨o, ho, hc⟩
  unfold getItem
  try with_reducible refine wpAny_holding ?_
  first | refine wpAny_bind (wpAny_pure ?_) | skip
  refine wpAny_bind (wpAny_sequenceKey hTt (by decide) ?_)
  apply wpAny_bind
  apply wpAny_callSpecial?_slot (name := Str.ofString "__getitem__") hTt PyProof.Rows.slot_tuple_getitem
  apply wpAny_call_entry PyProof.Rows.slot_tuple_getitem hTt PyProof.Rows.entry_tuple_getitem ?_ (PyProof.Rows.args_tuple_getitem _ _)
  show wpAny _ _ (Builtin.Tuple.tupleItemsOf (.ref t) >>= _) _ _ s
  refine wpAny_bind (tupleItemsOf_ ht ?_)
  refine wpAny_bind (wpAny_typeOf hTs ?_)
  rw [if_pos (by decide)]
  apply wpAny_bind
  unfold Builtin.Slice.sliceApplied Builtin.Slice.sliceFields
  apply wpAny_bind
  refine wpAny_bind (wpAny_field hos hds (x := vl) rfl ?_)
  refine wpAny_bind (wpAny_field hos hds (x := vu) rfl ?_)
  refine wpAny_bind (wpAny_field hos hds (x := vs) rfl (wpAny_pure ?_))
  refine wpAny_bind (HT.slicePart_ ps ?_)
  show wpAny _ _ (if ((-1 : Int) == 0) = true then _ else _) _ _ s
  rw [if_neg (by decide)]
  refine wpAny_bind (HT.slicePart_ pl ?_)
  refine wpAny_bind (HT.slicePart_ pu ?_)
  refine wpAny_bind (wpAny_pure ?_)
  show wpAny _ _ (match Builtin.Slice.sliceAdjust none none (-1) (items.size : Int) with | (lo, hi) => pure (lo, (-1 : Int), Builtin.Slice.slicePlaces lo hi (-1))) _ _ s
  rw [adjust_rev]
  show wpAny _ _ (pure ((items.size : Int) - 1, (-1 : Int), Builtin.Slice.slicePlaces ((items.size : Int) - 1) (-1) (-1))) _ _ s
  rw [places_rev]
  refine wpAny_pure ?_
  have no : ¬ ((((items.size : Int) - 1 == 0) && ((-1 : Int) == 1) && (items.size == items.size)) = true) := by
    intro q
    rw [Bool.and_eq_true, Bool.and_eq_true] at q
    exact absurd q.1.2 (by decide)
  show wpAny _ _ (if (((items.size : Int) - 1 == 0) && ((-1 : Int) == 1) && (items.size == items.size)) = true then _ else _) _ _ s
  rw [if_neg no, rev_pick]
  first
    | exact wpAny_bind (m := Builtin.Tuple.tupleExact _) (wpAny_newObj_type (wpAny_pure ⟨_, rfl, wpAny_pure h⟩) hok)
    | exact wpAny_bind (m := Builtin.Tuple.tupleExact _) (wpAny_newObj_type (wpAny_bind (wpAny_pure (wpAny_pure ⟨_, rfl, wpAny_pure h⟩))) hok)
    | exact wpAny_bind (wpAny_bind (m := Builtin.Tuple.tupleExact _) (wpAny_newObj_type (wpAny_pure (wpAny_pure ⟨_, rfl, wpAny_pure h⟩)) hok))
    | exact wpAny_bind (wpAny_bind (m := Builtin.Tuple.tupleExact _) (wpAny_newObj_type (wpAny_pure ⟨_, rfl, wpAny_pure h⟩) hok))
end
section
variable {X : Cx}
def tRevT (K : PySem.W.Frag) (te : TE) : TE := fun σ H Q => te σ H fun x H1 => ∃ a xs, x = .ref a ∧ SqT K H1 a xs ∧ New H1 (.tup xs.reverse) Q
theorem pe_revT {e : Expr} {te : TE} {k : Nat} {p1 p2 p3 pos : Pos} (he : PE X e te) : PE X (.Subscript e (.Slice none none (some (.UnaryOp .USub (.Constant (.int 1) k p1) p2)) p3) pos) (tRevT X.K te) := by
  refine ⟨fun pins s σ H Q I h => ?_⟩
  refine Subscript_ (thn (he.run pins s σ H _ I h) fun v s1 ⟨x, H1, I1, r1, q1⟩ => ?_)
  obtain ⟨a, xs, ex, hx, q⟩ := q1
  subst ex
  cases r1
  have hst : PO X (some (.UnaryOp .USub (.Constant (.int 1) k p1) p2)) (tPart (tUn (rU fun i => .int (-i)) (tC (.int 1)))) := po_some (pe_un un_neg pe_int)
  apply wpAny_Slice
  refine thn (po_none.run pins s1 σ H1 (fun o H2 => o = none ∧ H2 = H1) I1 ⟨rfl, rfl⟩) fun vl s2 ⟨l, H2, I2, pl, el, e2⟩ => ?_
  cases el
  cases e2
  refine thn (po_none.run pins s2 σ H1 (fun o H2 => o = none ∧ H2 = H1) I2 ⟨rfl, rfl⟩) fun vu s3 ⟨u, H3, I3, pu, eu, e3⟩ => ?_
  cases eu
  cases e3
  refine thn (hst.run pins s3 σ H1 (fun o H2 => o = some (-1) ∧ H2 = H1) I3 ⟨1, rfl, -1, rfl, rfl, rfl⟩) fun vs s4 ⟨o, H4, I4, ps, eo, e4⟩ => ?_
  cases eo
  cases e4
  let so : Obj := { cls := .type "slice", data := .fields #[vl, vu, vs] }
  have I5 : Inv X pins σ H1 { s4 with heap := s4.heap.push so } := I4.kept (t' := s4.toks) fun b ob q => Heap.get?_push_of_some _ q
  obtain ⟨its, r, ht, hz⟩ := I5.tuple hx
  have hlen := r.length
  have hT : ({ s4 with heap := s4.heap.push so } : Shared).TypeIs (.ref a) "tuple" := let ⟨o, ho, hc, _⟩ := ht; ⟨o, ho, hc⟩
  show wpAny (model X.prog X.w) X.A (subscriptTail e (.Slice none none (some (.UnaryOp .USub (.Constant (.int 1) k p1) p2)) p3) (.ref a) (.ref s4.heap.objs.size)) (EP X pins σ Q) X.xe { s4 with heap := s4.heap.push so }
  refine tail_any (ops := [.ref a, .ref s4.heap.objs.size]) hT PyProof.Rows.slot_tuple_getitem.lookup ?_ (by with_unfolding_all rfl)
  refine item_rev ht (Heap.IsSliceOf.new _ vl vu vs) pl pu ps ?_ (by rw [List.size_toArray]; omega)
  refine ⟨.ref _, _, I5.laid (t' := s4.toks) (o := .tup xs.reverse) (fun b ob q => Heap.get?_push_of_some _ q) (Nat.le_refl _) ?_, rfl, ?_⟩
  · exact ⟨by rw [List.length_reverse]; omega, _, by simpa using r.reverse, IsTup.new _ _⟩
  · exact q.at _ (I5.hok.fresh (Nat.le_refl _))
theorem kRevT {K : PySem.W.Frag} {e : Expr} {te : TE} {k : Nat} {p1 p2 p3 pos : Pos} (he : PE X e te) (h : X.K = K := by rfl) : PE X (.Subscript e (.Slice none none (some (.UnaryOp .USub (.Constant (.int 1) k p1) p2)) p3) pos) (tRevT K te) := by
  subst h
  exact pe_revT he
theorem r_revT {K : PySem.W.Frag} {te : TE} {σ : L2.St} {H : Hp} {Q : VK} : tRevT K te σ H Q = te σ H fun x H1 => ∃ a xs, x = .ref a ∧ SqT K H1 a xs ∧ New H1 (.tup xs.reverse) Q := rfl
end
section
variable {P : Program} {w : World} {K : PySem.W.Frag} {mg : Str → Option Value} {base : Heap} {N : List Str} {q : Str} {sc : Scope} {f : Addr} {cd : Value} {A : Around} {outer : List Env} {s : Shared} {H : Hp} {E : XK}
theorem r_Kbb {s' s2 : Shared} {H' H2 : Hp} {sc' sc2 : Scope} {ce ce2 : Env} {fp fp2 : List Addr} : ((((cxOf CX0 P w K mg base N q sc f cd A outer s H E).nox).blk s' H' sc' ce fp).blk s2 H2 sc2 ce2 fp2).K = K := rfl
end

/-! ### ways to choose, small -/
def chs : Nat → Nat → Nat
  | _, 0 => 1
  | 0, _ + 1 => 0
  | n + 1, k + 1 => chs n k + chs n (k + 1)
theorem comb_chs {a b : Nat} (ha : a < 6) (hb : b < 6) : PySem.W.mcComb (a : Int) (b : Int) = ((chs a b : Nat) : Int) := by
  have h : ∀ a < 6, ∀ b < 6, PySem.W.mcComb ((a : Nat) : Int) ((b : Nat) : Int) = ((chs a b : Nat) : Int) := by decide +kernel
  exact h a ha b hb
theorem chs_le {a b : Nat} (ha : a < 6) (hb : b < 6) : chs a b ≤ 10 := by
  have h : ∀ a < 6, ∀ b < 6, chs a b ≤ 10 := by decide +kernel
  exact h a ha b hb
theorem chs_pos {a b : Nat} (ha : a < 6) (hb : b ≤ a) : 0 < chs a b := by
  have h : ∀ a < 6, ∀ b < a + 1, 0 < chs a b := by decide +kernel
  exact h a ha b (by omega)
theorem comb_ok {a b : Nat} (ha : a < 6) (hb : b < 6) : CombOk (a : Int) (b : Int) := ⟨by omega, by omega, by omega, by omega⟩
/-! ### all-yes chances -/
def hitsL (ps : List Int) (j : Nat) : List Int := ps.mapIdx fun k c => c * ((chs k j : Nat) : Int)
def ay (ps : List Int) (j : Nat) : Rat := (((hitsL ps j).sum : Int) : Rat) / ((ps.sum * ((chs (ps.length - 1) j : Nat) : Int) : Int) : Rat)
/-! ### blending -/
abbrev Zs := List (List Int × Rat)
def denW (z : List Int × Rat) : Int := z.1.sum * ((z.2.den : Nat) : Int)
def botF (zs : Zs) : Nat := zs.foldl (fun B z => Nat.lcm B (denW z).natAbs) 1
def wgt (B : Nat) (z : List Int × Rat) : Int := z.2.num * ((B : Int) / denW z)
def colW (B : Nat) (k : Nat) (zs : Zs) : List Int := zs.map fun z => wgt B z * z.1.getD k 0
def blendL (m : Nat) (zs : Zs) : List Int := (List.range m).map fun k => (colW (botF zs) k zs).sum
theorem botF_take {zs : Zs} {i : Nat} {z : List Int × Rat} (h : zs[i]? = some z) : botF (zs.take (i + 1)) = Nat.lcm (botF (zs.take i)) (denW z).natAbs := by
  unfold botF
  rw [List.take_add_one, h]
  simp
theorem lcm0 {a b : Nat} (ha : 0 < a) (hb : 0 < b) : 0 < Nat.lcm a b := Nat.lcm_pos ha hb
theorem botG (zs : Zs) : ∀ (B : Nat), 0 < B → (∀ z ∈ zs, 0 < denW z) → 0 < zs.foldl (fun B z => Nat.lcm B (denW z).natAbs) B ∧ B ∣ zs.foldl (fun B z => Nat.lcm B (denW z).natAbs) B ∧ ∀ z ∈ zs, (denW z).natAbs ∣ zs.foldl (fun B z => Nat.lcm B (denW z).natAbs) B := by
  induction zs with
  | nil => exact fun B h _ => ⟨h, Nat.dvd_refl _, fun r h => by simp at h⟩
  | cons z zs ih =>
    intro B hB hz
    have hd := hz z (List.mem_cons_self ..)
    obtain ⟨h1, h2, h3⟩ := ih (Nat.lcm B (denW z).natAbs) (lcm0 hB (by omega)) fun x hx => hz x (List.mem_cons_of_mem _ hx)
    refine ⟨h1, Nat.dvd_trans (Nat.dvd_lcm_left _ _) h2, fun x hx => ?_⟩
    rcases List.mem_cons.mp hx with rfl | hx
    · exact Nat.dvd_trans (Nat.dvd_lcm_right _ _) h2
    · exact h3 x hx
structure BlendOk (zs : Zs) (N m : Nat) (cs : List Int) (S : Int) : Prop where
  n0 : 0 < zs.length
  n1 : zs.length ≤ 8
  nN : N ≤ 800
  m0 : 2 ≤ m
  m1 : m ≤ 6
  len : ∀ z ∈ zs, z.1.length = m
  tp : ∀ z ∈ zs, 0 < z.1.sum
  ds : ∀ z ∈ zs, (denW z).natAbs < 2 ^ N
  tn : ∀ z ∈ zs, ∀ t ∈ z.1, 0 ≤ t ∧ t.natAbs < 2 ^ N
  rn : ∀ z ∈ zs, 0 ≤ z.2.num ∧ z.2.num.natAbs < 2 ^ N
  cl : cs.length = m
  S0 : 0 < S
  pr : ∀ k < m, (zs.map fun z => z.2 * ((z.1.getD k 0 : Int) : Rat) / ((z.1.sum : Int) : Rat)).sum = ((cs.getD k 0 : Int) : Rat) / (S : Rat)
  cp : ∃ c ∈ cs, c ≠ 0
theorem denW_pos {z : List Int × Rat} (h : 0 < z.1.sum) : 0 < denW z := Int.mul_pos h (den_pos _)
theorem botF_lt {N : Nat} : ∀ (zs : Zs) (i : Nat), (∀ z ∈ zs, (denW z).natAbs < 2 ^ N) → i ≤ zs.length → botF (zs.take i) < 2 ^ (i * N + 1)
  | zs, 0, _, _ => by
    rw [Nat.zero_mul, List.take_zero]
    show 1 < 2 ^ (0 + 1)
    decide
  | zs, i + 1, h, hi => by
    have hr : zs[i]? = some zs[i] := List.getElem?_eq_getElem (by omega)
    rw [botF_take hr]
    have h1 := botF_lt zs i h (by omega)
    have h2 := h _ (List.getElem_mem (h := show i < zs.length by omega))
    have e : (i + 1) * N + 1 = (i * N + 1) + N := by rw [Nat.add_mul]; omega
    rw [e, Nat.pow_add]
    exact Nat.lt_of_le_of_lt (lcm_le _ _) (Nat.mul_lt_mul'' h1 h2)
theorem botF_pos {zs : Zs} (h : ∀ z ∈ zs, 0 < z.1.sum) : 0 < botF zs := (botG zs 1 Nat.one_pos fun z hz => denW_pos (h z hz)).1
theorem botF_dvd {zs : Zs} (h : ∀ z ∈ zs, 0 < z.1.sum) {z : List Int × Rat} (hz : z ∈ zs) : denW z ∣ ((botF zs : Nat) : Int) :=
  Int.natAbs_dvd.mp (Int.ofNat_dvd.mpr ((botG zs 1 Nat.one_pos fun z hz => denW_pos (h z hz)).2.2 z hz))
theorem wgt_rat {B : Nat} {z : List Int × Rat} (h : 0 < z.1.sum) (hd : denW z ∣ (B : Int)) (t : Int) :
    ((wgt B z * t : Int) : Rat) = ((B : Int) : Rat) * (z.2 * (t : Rat) / ((z.1.sum : Int) : Rat)) := by
  obtain ⟨q, hq⟩ := hd
  have d0 := denW_pos h
  have e : (B : Int) / denW z = q := by rw [hq]; exact Int.mul_ediv_cancel_left _ (by omega)
  unfold wgt
  rw [e]
  have eB : ((B : Int) : Rat) = ((z.1.sum : Int) : Rat) * (((z.2.den : Nat) : Int) : Rat) * (q : Rat) := by
    rw [hq]
    unfold denW
    rw [Rat.intCast_mul, Rat.intCast_mul]
  rw [eB, Rat.intCast_mul, Rat.intCast_mul]
  have en : ((z.2.num : Int) : Rat) = z.2 * (((z.2.den : Nat) : Int) : Rat) := by
    have := Rat.num_divInt_den z.2
    rw [Rat.divInt_eq_div] at this
    have hn : (((z.2.den : Nat) : Int) : Rat) ≠ 0 := fun x => by
      have := congrArg Rat.num x
      have := den_pos z.2
      simp at *
      omega
    have h2 : ((z.2.num : Int) : Rat) / (((z.2.den : Nat) : Int) : Rat) = z.2 := this
    grind
  have hs : ((z.1.sum : Int) : Rat) ≠ 0 := fun x => by
    have := congrArg Rat.num x
    simp at this
    omega
  rw [en]
  grind
theorem col_rat {B : Nat} (k : Nat) : ∀ (zs : Zs), (∀ z ∈ zs, 0 < z.1.sum ∧ denW z ∣ (B : Int)) →
    (((colW B k zs).sum : Int) : Rat) = ((B : Int) : Rat) * (zs.map fun z => z.2 * ((z.1.getD k 0 : Int) : Rat) / ((z.1.sum : Int) : Rat)).sum
  | [], _ => by
    simp [colW]
  | z :: zs, h => by
    have ih := col_rat (B := B) k zs fun x hx => h x (List.mem_cons_of_mem _ hx)
    obtain ⟨h1, h2⟩ := h z (List.mem_cons_self ..)
    have e : colW B k (z :: zs) = wgt B z * z.1.getD k 0 :: colW B k zs := rfl
    rw [e, List.sum_cons, Rat.intCast_add, ih, wgt_rat h1 h2, List.map_cons, List.sum_cons]
    grind
theorem blend_col {zs : Zs} {N m : Nat} {cs : List Int} {S : Int} (h : BlendOk zs N m cs S) {k : Nat} (hk : k < m) : S * (colW (botF zs) k zs).sum = ((botF zs : Nat) : Int) * cs.getD k 0 := by
  have e := col_rat (B := botF zs) k zs fun z hz => ⟨h.tp z hz, botF_dvd h.tp hz⟩
  rw [h.pr k hk] at e
  have hS : ((S : Int) : Rat) ≠ 0 := fun x => by
    have := congrArg Rat.num x
    have := h.S0
    simp at *
    omega
  have e2 : ((S * (colW (botF zs) k zs).sum : Int) : Rat) = ((((botF zs : Nat) : Int) * cs.getD k 0 : Int) : Rat) := by
    rw [Rat.intCast_mul, Rat.intCast_mul, e]
    grind
  exact Rat.intCast_inj.mp e2
theorem blend_plain {zs : Zs} {N m : Nat} {cs : List Int} {S : Int} (h : BlendOk zs N m cs S) : (blendL m zs).map (S * ·) = cs.map (((botF zs : Nat) : Int) * ·) := by
  apply List.ext_getElem?
  intro k
  by_cases hk : k < m
  · have hc : cs[k]? = some (cs.getD k 0) := by
      have hl : k < cs.length := by rw [h.cl]; exact hk
      rw [List.getD_eq_getElem?_getD, List.getElem?_eq_getElem hl]
      rfl
    have e := blend_col h hk
    rw [List.getElem?_map, List.getElem?_map, hc]
    simp only [blendL, List.getElem?_map, List.getElem?_range hk, Option.map_some]
    rw [e]
  · rw [List.getElem?_eq_none (by simp [blendL]; omega), List.getElem?_eq_none (by simp [h.cl]; omega)]
theorem sum_abs_lt {n : Nat} : ∀ (xs : List Int) (a : Nat), (∀ x ∈ xs, x.natAbs < 2 ^ n) → xs.length ≤ a → xs.sum.natAbs ≤ a * 2 ^ n
  | [], a, _, _ => by simp
  | x :: xs, 0, _, h => by simp at h
  | x :: xs, a + 1, h, hl => by
    have ih := sum_abs_lt xs a (fun y hy => h y (List.mem_cons_of_mem _ hy)) (by simpa using hl)
    have h1 := h x (List.mem_cons_self ..)
    rw [List.sum_cons, Nat.add_mul]
    omega
theorem mc_abs {a b : Int} {c : Nat} (h0 : 0 ≤ a) (ha : a.natAbs ≤ 2 ^ c) (hb : 0 ≤ b) (hb8 : b ≤ 8) : (PySem.W.mcComb a b).natAbs < 2 ^ (c * 8 + 1) := by
  by_cases h : b > a
  · rw [PySem.W.mcComb_above h]
    exact Nat.two_pow_pos _
  · have hm : min b (a - b) ≤ 8 := by omega
    have hq : PySem.W.mcComb a b = PySem.Builtin.Math.fallingProduct a (min b (a - b)).toNat / PySem.Builtin.Math.fallingProduct (min b (a - b)) (min b (a - b)).toNat := PySem.W.mcComb_at hb (by omega) rfl
    have h1 : (PySem.Builtin.Math.fallingProduct a (min b (a - b)).toNat).natAbs ≤ 2 ^ (c * (min b (a - b)).toNat) := fp_abs h0 ha _ (by omega)
    have h2 : (PySem.W.mcComb a b).natAbs ≤ (PySem.Builtin.Math.fallingProduct a (min b (a - b)).toNat).natAbs := by
      rw [hq]
      exact Int.natAbs_ediv_le_natAbs _ _
    have h3 : c * (min b (a - b)).toNat ≤ c * 8 := Nat.mul_le_mul_left _ (by omega)
    have h4 := Nat.pow_le_pow_right (show 0 < 2 by decide) h3
    have h5 : 2 ^ (c * 8 + 1) = 2 ^ (c * 8) + 2 ^ (c * 8) := by rw [Nat.pow_succ]; omega
    have := Nat.two_pow_pos (c * 8)
    omega
theorem BlendOk.sl {zs : Zs} {N m : Nat} {cs : List Int} {S : Int} (h : BlendOk zs N m cs S) {z : List Int × Rat} (hz : z ∈ zs) : z.1.sum.natAbs < 2 ^ N := by
  have h1 := h.ds z hz
  unfold denW at h1
  rw [Int.natAbs_mul] at h1
  have h2 : 1 ≤ (((z.2.den : Nat) : Int)).natAbs := by have := den_pos z.2; omega
  have h3 := Nat.mul_le_mul_left z.1.sum.natAbs h2
  omega
theorem BlendOk.dl {zs : Zs} {N m : Nat} {cs : List Int} {S : Int} (h : BlendOk zs N m cs S) {z : List Int × Rat} (hz : z ∈ zs) : (((z.2.den : Nat) : Int)).natAbs < 2 ^ N := by
  have h1 := h.ds z hz
  unfold denW at h1
  rw [Int.natAbs_mul] at h1
  have h2 : 1 ≤ z.1.sum.natAbs := by have := h.tp z hz; omega
  have h3 := Nat.mul_le_mul_right (((z.2.den : Nat) : Int)).natAbs h2
  omega

theorem kMax {X : Cx} {K : PySem.W.Frag} (hc : X.calm = true) (h : X.K = K := by rfl) : CallR X (.builtin "max") (rMax K) := by
  subst h
  exact cr_max hc
/-- a power that is written out, as one value -/
theorem pe_pow {X : Cx} {a b : Expr} {i j c : Int} {pos : Pos} (ha : PE X a (tC (.int i))) (hb : PE X b (tC (.int j))) (h : CPow i j) (e : i ^ j.toNat = c) : PE X (.BinOp a .Pow b pos) (tC (.int c)) :=
  PE.imp (pe_op op_pow ha hb) fun σ H Q q => ⟨i, j, rfl, rfl, h, by
    have q2 : Q (.int c) H := q
    rw [← e] at q2
    exact q2⟩
theorem pe_less {X : Cx} {a b : Expr} {i j c : Int} {pos : Pos} (ha : PE X a (tC (.int i))) (hb : PE X b (tC (.int j))) (e : i - j = c) : PE X (.BinOp a .Sub b pos) (tC (.int c)) :=
  PE.imp (pe_op op_sub ha hb) fun σ H Q q => ⟨i, j, rfl, rfl, by
    have q2 : Q (.int c) H := q
    rw [← e] at q2
    exact q2⟩

/-! comprehensions that draw; a list or a tuple walked, indexed -/
section
variable {g : TG} {te : TE} {vs : List Nat} {σ : L2.St} {H1 : Hp} {Dd v : Addr} {Q : VK} {K : PySem.W.Frag} {a : Addr} {xs : List V} {D : Ends} {H : Hp}
def LcV (v : Addr) (H1 : Hp) (Dd : Addr) (R : Nat → V → Hp → Prop) (i : Nat) (H : Hp) : Prop :=
  ∃ acc : List V, H Dd = some (.lst acc) ∧ acc.length = i ∧ Gv v H1 H ∧ ∀ (j : Nat) y, acc[j]? = some y → R j y H
theorem vat_ne (hD : H1 Dd = none) (hv : VatAt H1 v) : Dd ≠ v := fun z => by
  obtain ⟨x, y, w, h1, _⟩ := hv
  rw [← z, hD] at h1
  cases h1
theorem lcV_turn {R : Nat → V → Hp → Prop} (hR : ∀ i y H H', Kp H H' → R i y H → R i y H') (hD : H1 Dd = none) (hv : VatAt H1 v) {i : Nat} {H H4 : Hp} {y : V}
    (p : LcV v H1 Dd R i H) (e : Gv v H H4) (r : R i y H4) (hi : i < 1000000) :
    ∃ acc, H4 Dd = some (.lst acc) ∧ acc.length < sizeLine ∧ LcV v H1 Dd R (i + 1) (upd H4 Dd (.lst (acc ++ [y]))) := by
  obtain ⟨acc, h1, h2, h3, h4⟩ := p
  have dv := vat_ne hD hv
  have h5 := e.lst dv h1
  have k : Kp H4 (upd H4 Dd (.lst (acc ++ [y]))) := fun b o hb n => by
    rw [upd_ne]
    · exact hb
    · intro z
      rw [z, h5] at hb
      exact n _ (Option.some.inj hb).symm
  refine ⟨acc, h5, Nat.lt_of_lt_of_le (show acc.length < 1000000 by omega) (by decide), acc ++ [y], upd_same, by simp [h2], ⟨hv, fun b o n hb => ?_, ?_⟩, fun j z hz => ?_⟩
  · rw [upd_ne (ne_of_none hb hD)]
    exact (h3.trans e).keep _ _ n hb
  · obtain ⟨x, y, w, q1, q2⟩ := e.new
    exact ⟨x, y, w, by rw [upd_ne (Ne.symm dv)]; exact q1, q2⟩
  · by_cases hj : j < acc.length
    · rw [List.getElem?_append_left hj] at hz
      exact hR _ _ _ _ (e.kp.trans k) (h4 j z hz)
    · have hj2 : j = acc.length := by
        have := (List.getElem?_eq_some_iff.mp hz).1
        rw [List.length_append, List.length_singleton] at this
        omega
      subst hj2
      rw [List.getElem?_append_right (Nat.le_refl _), Nat.sub_self] at hz
      cases hz
      rw [h2]
      exact hR _ _ _ _ k r
theorem lcV_start {R : Nat → V → Hp → Prop} (hD : H1 Dd = none) (hv : VatAt H1 v) : LcV v H1 Dd R 0 (upd H1 Dd (.lst [])) :=
  ⟨[], upd_same, rfl, .of hv (Ex.new hD), fun j y h => by simp at h⟩
/-- what is wanted behind a comprehension that draws -/
def LcEndV (v : Addr) (H1 : Hp) (Dd : Addr) (n : Nat) (R : Nat → V → Hp → Prop) (Q : VK) : Prop :=
  ∀ H ys, Gv v H1 H → H Dd = some (.lst ys) → ys.length = n → (∀ (i : Nat) y, ys[i]? = some y → R i y H) → Q (.ref Dd) H
theorem lcRv {lo : Int} {n : Nat} {j : Nat} (R : Nat → V → Hp → Prop) (hR : ∀ i y H H', Kp H H' → R i y H → R i y H') (hD : H1 Dd = none) (hv : VatAt H1 v) (hz : n ≤ 100000)
    (hw : ∀ x, wipe ((wipe σ vs).set j (some x)) vs = wipe σ vs)
    (hs : ∀ (i : Nat) H, i < n → Gv v H1 H → tmE te ((wipe σ vs).set j (some (.int (lo + i)))) H fun y H4 => Gv v H H4 ∧ R i y H4)
    (hd : LcEndV v H1 Dd n R Q) : LcW (Itr lo n) (gName j) tYes (tmE te) vs σ H1 Dd Q :=
  lc_range (LcV v H1 Dd R) (lcV_start hD hv) (fun i H hi p => by
    obtain ⟨acc, q1, q2, q3, q4⟩ := id p
    refine ⟨hw _, ?_⟩
    obtain ⟨R0, z1, z2⟩ := hs i H hi q3
    exact ⟨R0, z1, fun y H4 r0 => lcV_turn hR hD hv p (z2 y H4 r0).1 (z2 y H4 r0).2 (by omega)⟩)
    fun H ⟨acc, q1, q2, q3, q4⟩ => hd H acc q3 q1 q2 q4
/-! ### a list or a tuple -/
def ItS (K : PySem.W.Frag) : Bool → Addr → It
  | true => Itl K
  | false => Itt K
def iSeq (K : PySem.W.Frag) (tl : TE) : TI := fun σ H R => tl σ H fun x H1 => ∃ a k, x = .ref a ∧ (∃ xs, SqB K k H1 a xs) ∧ R (ItS K k a) H1
theorem r_seqI {tl : TE} {S : It → Hp → Prop} : iSeq K tl σ H S = tl σ H fun x H1 => ∃ a k, x = .ref a ∧ (∃ xs, SqB K k H1 a xs) ∧ S (ItS K k a) H1 := rfl
theorem loopB {k : Bool} {a : Addr} {xs : List V} {tb : TS} (Pv : Nat → L2.St → Hp → Prop) (h0 : Pv 0 σ H) (hl : ∀ i σ H, i ≤ xs.length → Pv i σ H → SqB K k H a xs)
    (hs : ∀ i x σ H, xs[i]? = some x → Pv i σ H → g x σ H fun σ2 H2 => tb { nx := Pv (i + 1), rt := D.rt, bk := D.nx, ct := Pv (i + 1) } σ2 H2) (hd : ∀ σ H, Pv xs.length σ H → D.nx σ H) : LoopW (ItS K k a) g tb D σ H := by
  cases k
  · exact for_tup Pv h0 hl hs hd
  · exact for_list Pv h0 hl hs hd
theorem lcB {k : Bool} (R : Nat → V → Hp → Prop) (hR : ∀ i y H H', Kp H H' → R i y H → R i y H') (hD : H1 Dd = none) (hx : SqB K k H1 a xs) (hz : xs.length ≤ 100000)
    (hs : ∀ (i : Nat) x H, xs[i]? = some x → Ex H1 H → g x (wipe σ vs) H fun σ2 H2 => wipe σ2 vs = wipe σ vs ∧ tmE te σ2 H2 fun y H4 => Ex H H4 ∧ R i y H4)
    (hg : GMono g)
    (hd : LcEnd H1 Dd xs.length R Q) : LcW (ItS K k a) g tYes (tmE te) vs σ H1 Dd Q := by
  cases k
  · exact lcT R hR hD hx hz hs (fun i x H S S' _ h q => hg _ _ _ _ _ h q) hd
  · exact lcL (J0 := True) R hR hD hx hz hs (fun i x H S S' _ h q => hg _ _ _ _ _ h q) hd
theorem sqB_or {k : Bool} {a : Addr} {xs : List V} (h : SqB K k H a xs) : SqL K H a xs ∨ SqT K H a xs := by
  cases k
  · exact .inr h
  · exact .inl h
theorem q_ixB {k : Bool} {p : Addr} {xs : List V} {i : Int} {v : V} (h : SqB K k H p xs) (e : atI xs i = some v) (q : Q v H) : rIxL K (.ref p) (.int i) H Q ∨ rIxT K (.ref p) (.int i) H Q := by
  cases k
  · exact .inr (q_ixT h e q)
  · exact .inl (q_ixL h e q)
end
section
variable {X : Cx} {tg : Expr} {K : PySem.W.Frag}
theorem pi_seq {l : Expr} {tl : TE} (hl : PE X l tl) (h : X.K = K := by rfl) : PI X tg l (iSeq K tl) := by
  subst h
  refine ⟨fun pins s σ H R I h => ?_⟩
  refine thn (hl.run pins s σ H _ I h) fun v s1 ⟨x, H1, I1, r1, q1⟩ => ?_
  obtain ⟨a, k, e, ⟨xs, hq⟩, q⟩ := q1
  subst e
  cases r1
  cases k
  · obtain ⟨its, rv, p, hz⟩ := I1.tuple hq
    refine wpAny_pyIter_tuple (show s1.heap.IsTuple a its.toArray from p) ?_
    refine ⟨s1.heap.objs.size, [s1.heap.objs.size], _, _, H1, rfl, I1.kept (t' := s1.toks) fun b o e => Heap.get?_push_of_some _ e, turn_tuple a _, ⟨_, Heap.get?_push_size _ rfl, rfl, rfl⟩, fun b hb => ?_, q⟩
    have e : b = s1.heap.objs.size := by simpa using hb
    subst e
    exact I1.fpOk (Nat.le_refl _) (I1.hok.fresh (Nat.le_refl _))
  · obtain ⟨its, rv, p, hz⟩ := I1.list hq
    refine wpAny_pyIter_list p.isList ?_
    refine ⟨s1.heap.objs.size, [s1.heap.objs.size], _, _, H1, rfl, I1.kept (t' := s1.toks) fun b o e => Heap.get?_push_of_some _ e, turn_list a _, ⟨_, Heap.get?_push_size _ rfl, rfl, rfl⟩, fun b hb => ?_, q⟩
    have e : b = s1.heap.objs.size := by simpa using hb
    subst e
    exact I1.fpOk (Nat.le_refl _) (I1.hok.fresh (Nat.le_refl _))
def rIxB (K : PySem.W.Frag) : R2 := fun x y H Q => rIxL K x y H Q ∨ rIxT K x y H Q
theorem ixB (h : X.K = K := by rfl) : IxR X (rIxB K) := by
  subst h
  exact ix_list.or ix_tup
theorem call_intB : CallR X (.type "int") (fun xs H Q => (∃ i, xs = [.int i] ∧ Q (.int i) H) ∨ ∃ k, xs = [.bl k] ∧ Q (.int (if k then 1 else 0)) H) := call_int1
end

/-! comprehensions whose items may be lists -/
/-- all but the list d stays -/
def But (d : Addr) (H H' : Hp) : Prop := ∀ a o, (a ≠ d ∨ ∀ xs, o ≠ .lst xs) → H a = some o → H' a = some o
theorem Ex.but {d : Addr} {H H' : Hp} (e : Ex H H') : But d H H' := fun a o _ h => e a o h
theorem But.kp {d : Addr} {H H' : Hp} (b : But d H H') : Kp H H' := fun a o h n => b a o (.inr n) h
theorem But.trans {d : Addr} {H H1 H2 : Hp} (a : But d H H1) (b : But d H1 H2) : But d H H2 := fun x o n h => b x o n (a x o n h)
section
variable {g : TG} {te : TE} {vs : List Nat} {σ : L2.St} {H1 : Hp} {Dd v : Addr} {Q : VK} {K : PySem.W.Frag} {a : Addr} {xs : List V} {D : Ends} {H : Hp}
theorem lcB_turn {R : Nat → V → Hp → Prop} (hR : ∀ i y H H', But Dd H H' → R i y H → R i y H') (hD : H1 Dd = none) {i : Nat} {H H4 : Hp} {y : V}
    (p : LcJ H1 Dd R i H) (e : Ex H H4) (r : R i y H4) (hi : i < 1000000) :
    ∃ acc, H4 Dd = some (.lst acc) ∧ acc.length < sizeLine ∧ LcJ H1 Dd R (i + 1) (upd H4 Dd (.lst (acc ++ [y]))) := by
  obtain ⟨acc, h1, h2, h3, h4⟩ := p
  have k : But Dd H4 (upd H4 Dd (.lst (acc ++ [y]))) := fun b o n hb => by
    rw [upd_ne]
    · exact hb
    · intro z
      rw [z, e _ _ h1] at hb
      rcases n with n | n
      · exact n z
      · exact n _ (Option.some.inj hb).symm
  refine ⟨acc, e _ _ h1, Nat.lt_of_lt_of_le (show acc.length < 1000000 by omega) (by decide), acc ++ [y], upd_same, by simp [h2], fun b o hb => ?_, fun j z hz => ?_⟩
  · rw [upd_ne (ne_of_none hb hD)]
    exact e _ _ (h3 _ _ hb)
  · by_cases hj : j < acc.length
    · rw [List.getElem?_append_left hj] at hz
      exact hR _ _ _ _ (e.but.trans k) (h4 j z hz)
    · have hj2 : j = acc.length := by
        have := (List.getElem?_eq_some_iff.mp hz).1
        rw [List.length_append, List.length_singleton] at this
        omega
      subst hj2
      rw [List.getElem?_append_right (Nat.le_refl _), Nat.sub_self] at hz
      cases hz
      rw [h2]
      exact hR _ _ _ _ k r
/-- over a tuple, by a name -/
theorem lcTb {j : Nat} (R : Nat → V → Hp → Prop) (hR : ∀ i y H H', But Dd H H' → R i y H → R i y H') (hD : H1 Dd = none) (hx : SqT K H1 a xs) (hz : xs.length ≤ 100000)
    (hw : ∀ x, wipe ((wipe σ vs).set j (some x)) vs = wipe σ vs)
    (hs : ∀ (i : Nat) x H, xs[i]? = some x → Ex H1 H → (∃ acc, H Dd = some (.lst acc)) → tmE te ((wipe σ vs).set j (some x)) H fun y H4 => Ex H H4 ∧ R i y H4)
    (hd : LcEnd H1 Dd xs.length R Q) : LcW (Itt K a) (gName j) tYes (tmE te) vs σ H1 Dd Q :=
  lc_tup (xs := xs) (LcJ H1 Dd R) (lcJ_start hD) (fun i H _ ⟨_, _, _, e, _⟩ => sqT_kp hx e.kp) (fun i x H hi p => by
    obtain ⟨acc, q1, q2, q3, q4⟩ := id p
    refine ⟨hw _, ?_⟩
    obtain ⟨R0, z1, z2⟩ := hs i x H hi q3 ⟨_, q1⟩
    exact ⟨R0, z1, fun y H4 r0 => lcB_turn hR hD p (z2 y H4 r0).1 (z2 y H4 r0).2 (by have := (List.getElem?_eq_some_iff.mp hi).1; omega)⟩)
    fun H ⟨acc, q1, q2, q3, q4⟩ => hd H acc q3 q1 q2 q4
/-- over a list, by a name -/
theorem lcLb {j : Nat} (R : Nat → V → Hp → Prop) (hR : ∀ i y H H', But Dd H H' → R i y H → R i y H') (hD : H1 Dd = none) (hx : SqL K H1 a xs) (hz : xs.length ≤ 100000)
    (hw : ∀ x, wipe ((wipe σ vs).set j (some x)) vs = wipe σ vs)
    (hs : ∀ (i : Nat) x H, xs[i]? = some x → Ex H1 H → (∃ acc, H Dd = some (.lst acc)) → tmE te ((wipe σ vs).set j (some x)) H fun y H4 => Ex H H4 ∧ R i y H4)
    (hd : LcEnd H1 Dd xs.length R Q) : LcW (Itl K a) (gName j) tYes (tmE te) vs σ H1 Dd Q :=
  lc_list (xs := xs) (LcJ H1 Dd R) (lcJ_start hD) (fun i H _ ⟨_, _, _, e, _⟩ => sqL_ex hx e) (fun i x H hi p => by
    obtain ⟨acc, q1, q2, q3, q4⟩ := id p
    refine ⟨hw _, ?_⟩
    obtain ⟨R0, z1, z2⟩ := hs i x H hi q3 ⟨_, q1⟩
    exact ⟨R0, z1, fun y H4 r0 => lcB_turn hR hD p (z2 y H4 r0).1 (z2 y H4 r0).2 (by have := (List.getElem?_eq_some_iff.mp hi).1; omega)⟩)
    fun H ⟨acc, q1, q2, q3, q4⟩ => hd H acc q3 q1 q2 q4
/-- over a range -/
theorem lcRb {lo : Int} {n : Nat} {j : Nat} (R : Nat → V → Hp → Prop) (hR : ∀ i y H H', But Dd H H' → R i y H → R i y H') (hD : H1 Dd = none) (hz : n ≤ 100000)
    (hw : ∀ x, wipe ((wipe σ vs).set j (some x)) vs = wipe σ vs)
    (hs : ∀ (i : Nat) H, i < n → Ex H1 H → (∃ acc, H Dd = some (.lst acc)) → tmE te ((wipe σ vs).set j (some (.int (lo + i)))) H fun y H4 => Ex H H4 ∧ R i y H4)
    (hd : LcEnd H1 Dd n R Q) : LcW (Itr lo n) (gName j) tYes (tmE te) vs σ H1 Dd Q :=
  lc_range (LcJ H1 Dd R) (lcJ_start hD) (fun i H hi p => by
    obtain ⟨acc, q1, q2, q3, q4⟩ := id p
    refine ⟨hw _, ?_⟩
    obtain ⟨R0, z1, z2⟩ := hs i H hi q3 ⟨_, q1⟩
    exact ⟨R0, z1, fun y H4 r0 => lcB_turn hR hD p (z2 y H4 r0).1 (z2 y H4 r0).2 (by omega)⟩)
    fun H ⟨acc, q1, q2, q3, q4⟩ => hd H acc q3 q1 q2 q4
theorem sqL_but {d a : Addr} {H H' : Hp} {xs : List V} (h : SqL K H a xs) (n : a ≠ d) (e : But d H H') : SqL K H' a xs := by
  rcases h with (h | ⟨o, h⟩) | h
  · exact .inl (.inl (e _ _ (.inl n) h))
  · exact .inl (.inr ⟨o, e _ _ (.inl n) h⟩)
  · exact .inr h
end

/-! tuples added, data that differ, comprehensions with a test, ways to choose of great numbers -/
section
variable {X : Cx} {K : PySem.W.Frag}
/-- t + u, u not empty -/
def rCatAN (K : PySem.W.Frag) : R2 := fun x y H Q => ∃ a b xs ys, x = .ref a ∧ y = .ref b ∧ SqT K H a xs ∧ SqT K H b ys ∧ ys ≠ [] ∧ xs.length + ys.length ≤ sizeLine ∧
  ∀ p H', Ex H H' → SqT K H' p (xs ++ ys) → Q (.ref p) H'
theorem op_catAN (h : X.K = K := by rfl) : OpR X (binaryOp .Add) (rCatAN K) := by
  subst h
  exact OpR.imp op_catA fun x y H Q ⟨a, b, xs, ys, e1, e2, h1, h2, hy, z, n⟩ => ⟨a, b, xs, ys, e1, e2, h1, h2, z,
    fun q => n b H (Ex.refl H) (by rw [q]; exact h2), fun _ q => absurd q hy, fun _ _ p hp => n p _ (Ex.new hp) (.of upd_same)⟩
theorem op_neB (hu : X.A.units + 64 < cLine) (h : X.K = K := by rfl) : OpR X (compareOp .NotEq) (rNeD K) := by
  subst h
  exact op_neD hu
theorem op_eqB (hu : X.A.units + 64 < cLine) (h : X.K = K := by rfl) : OpR X (compareOp .Eq) (rEqD K) := by
  subst h
  exact op_eqD hu
end
section
variable {g : TG} {te : TE} {tt : TT} {vs : List Nat} {σ : L2.St} {H1 : Hp} {Dd : Addr} {Q : VK} {K : PySem.W.Frag} {a : Addr}
/-- the ints of a tuple for which a test holds -/
theorem lcTf {j : Nat} (p : Int → Bool) {ts : List Int} (hD : H1 Dd = none) (hx : SqT K H1 a (ts.map V.int)) (hz : ts.length ≤ 100000)
    (hw : ∀ x, wipe ((wipe σ vs).set j (some x)) vs = wipe σ vs)
    (hs : ∀ c H (S : Bool → Hp → Prop), S (p c) H → tt ((wipe σ vs).set j (some (.int c))) H S)
    (hv : ∀ c H (S : VK), S (.int c) H → te ((wipe σ vs).set j (some (.int c))) H S)
    (hd : ∀ H, Ex H1 H → H Dd = some (.lst ((ts.filter p).map V.int)) → Q (.ref Dd) H) : LcW (Itt K a) (gName j) tt (tmE te) vs σ H1 Dd Q :=
  lc_tup (xs := ts.map V.int) (fun i H => H Dd = some (.lst (((ts.take i).filter p).map V.int)) ∧ Ex H1 H) ⟨by simp [upd_same], Ex.new hD⟩ (fun i H _ h => sqT_kp hx h.2.kp) (fun i x H hi h => by
    obtain ⟨hl, he⟩ := h
    rw [List.getElem?_map] at hi
    cases hc : ts[i]? with
    | none => rw [hc] at hi; cases hi
    | some c =>
      rw [hc] at hi
      cases hi
      have et : ts.take (i + 1) = ts.take i ++ [c] := by
        rw [List.take_add_one, hc]
        rfl
      refine ⟨hw _, hs c H _ ?_⟩
      cases hp : p c with
      | false =>
        rw [if_neg (by decide)]
        refine ⟨?_, he⟩
        rw [et, List.filter_append, List.filter_cons, hp]
        simpa using hl
      | true =>
        rw [if_pos rfl]
        refine ⟨fun y H' => y = .int c ∧ H' = H, hv c H _ ⟨rfl, rfl⟩, ?_⟩
        rintro y H' ⟨rfl, rfl⟩
        refine ⟨_, hl, ?_, ?_, ?_⟩
        · have h1 := List.length_filter_le p (ts.take i)
          have h2 := List.length_take_le i ts
          rw [List.length_map]
          refine Nat.lt_of_lt_of_le (show _ < 1000000 from ?_) (by decide)
          have h3 : (ts.take i).length ≤ ts.length := by rw [List.length_take]; omega
          omega
        · rw [et, List.filter_append, List.filter_cons, hp]
          simp [upd_same]
        · exact fun b o hb => by
            rw [upd_ne (ne_of_none hb hD)]
            exact he _ _ hb)
    fun H h => by
      rw [List.length_map, List.take_length] at h
      exact hd H h.2 h.1
end
/-! ### ways to choose -/
theorem chs_zero (a : Nat) : chs a 0 = 1 := by cases a <;> rfl
theorem chs_big : ∀ (a k : Nat), a < k → chs a k = 0
  | _, 0, h => by omega
  | 0, k + 1, _ => rfl
  | a + 1, k + 1, h => by
    show chs a k + chs a (k + 1) = 0
    rw [chs_big a k (by omega), chs_big a (k + 1) (by omega)]
theorem chs_self : ∀ a : Nat, chs a a = 1
  | 0 => rfl
  | a + 1 => by
    show chs a a + chs a (a + 1) = 1
    rw [chs_self a, chs_big a (a + 1) (by omega)]
theorem chs_step : ∀ (a k : Nat), ((k : Int) + 1) * ((chs a (k + 1) : Nat) : Int) = ((a : Int) - (k : Int)) * ((chs a k : Nat) : Int)
  | 0, 0 => by decide
  | 0, k + 1 => by
    have h1 : chs 0 (k + 1) = 0 := rfl
    have h2 : chs 0 (k + 1 + 1) = 0 := rfl
    rw [h1, h2]
    simp
  | a + 1, 0 => by
    have ih := chs_step a 0
    have h1 : chs (a + 1) (0 + 1) = chs a 0 + chs a (0 + 1) := rfl
    rw [h1, chs_zero, chs_zero] at *
    push_cast at *
    omega
  | a + 1, k + 1 => by
    have ih := chs_step a (k + 1)
    have ih2 := chs_step a k
    have h1 : chs (a + 1) (k + 1 + 1) = chs a (k + 1) + chs a (k + 1 + 1) := rfl
    have h2 : chs (a + 1) (k + 1) = chs a k + chs a (k + 1) := rfl
    rw [h1, h2]
    generalize chs a (k + 1 + 1) = z at *
    generalize chs a (k + 1) = y at *
    generalize chs a k = x at *
    push_cast at *
    grind
def fct : Nat → Int
  | 0 => 1
  | k + 1 => fct k * ((k : Int) + 1)
theorem fct_pos : ∀ k : Nat, 0 < fct k
  | 0 => by decide
  | k + 1 => Int.mul_pos (fct_pos k) (by omega)
theorem fall_chs (a : Nat) : ∀ k : Nat, Builtin.Math.fallingProduct (a : Int) k = ((chs a k : Nat) : Int) * fct k
  | 0 => by
    rw [PySem.W.mc_fp_zero, chs_zero]
    rfl
  | k + 1 => by
    rw [PySem.W.mc_fp_succ, fall_chs a k]
    have := chs_step a k
    show _ = _ * (fct k * ((k : Int) + 1))
    grind
theorem comb_big {a k : Nat} (hk : k < 6) : PySem.W.mcComb (a : Int) (k : Int) = ((chs a k : Nat) : Int) := by
  by_cases h : k ≤ a
  · by_cases h2 : a < 12
    · have g : ∀ a < 12, ∀ k < 6, PySem.W.mcComb ((a : Nat) : Int) ((k : Nat) : Int) = ((chs a k : Nat) : Int) := by decide +kernel
      exact g a h2 k hk
    · have e := PySem.W.mcComb_at (a := (a : Int)) (b := (k : Int)) (by omega) (by omega) (m := (k : Int)) (by omega)
      rw [e]
      have t : ((k : Int)).toNat = k := by omega
      rw [t, fall_chs a k, fall_chs k k, chs_self]
      have := fct_pos k
      rw [show (((1 : Nat)) : Int) = 1 from rfl, Int.one_mul]
      exact Int.mul_ediv_cancel _ (by omega)
  · rw [PySem.W.mcComb_above (by omega), chs_big a k (by omega)]
    rfl
theorem chs_pow : ∀ (a k : Nat), chs a k ≤ a ^ k
  | a, 0 => by rw [chs_zero]; simp
  | a, k + 1 => by
    by_cases h : a < k
    · rw [chs_big a (k + 1) (by omega)]
      exact Nat.zero_le _
    have ih := chs_pow a k
    have e := chs_step a k
    have h1 : ((a : Int) - (k : Int)) = ((a - k : Nat) : Int) := by omega
    rw [h1] at e
    have e2 : (k + 1) * chs a (k + 1) = (a - k) * chs a k := by
      have : (((k + 1) * chs a (k + 1) : Nat) : Int) = (((a - k) * chs a k : Nat) : Int) := by
        push_cast
        push_cast at e
        exact e
      exact Int.ofNat_inj.mp this
    have h2 : (a - k) * chs a k ≤ a * a ^ k := Nat.mul_le_mul (by omega) ih
    have h3 : 1 * chs a (k + 1) ≤ (k + 1) * chs a (k + 1) := Nat.mul_le_mul_right _ (by omega)
    rw [Nat.pow_succ, Nat.mul_comm]
    omega
theorem chs_lt {a k n : Nat} (ha : a < 2 ^ n) (hk : k ≤ 5) : chs a k < 2 ^ (n * 5 + 1) := by
  have h1 := chs_pow a k
  have h2 : a ^ k ≤ (2 ^ n) ^ k := Nat.pow_le_pow_left (by omega) k
  rw [← Nat.pow_mul] at h2
  have h3 := Nat.pow_le_pow_right (show 0 < 2 by decide) (Nat.mul_le_mul_left n hk)
  have h4 : 2 ^ (n * 5 + 1) = 2 ^ (n * 5) + 2 ^ (n * 5) := by rw [Nat.pow_succ]; omega
  have := Nat.two_pow_pos (n * 5)
  omega
theorem chs_posG {a k : Nat} (h : k ≤ a) : 0 < chs a k := by
  have g : ∀ (a k : Nat), k ≤ a → 0 < chs a k := by
    intro a
    induction a with
    | zero =>
      intro k h
      have : k = 0 := by omega
      subst this
      decide
    | succ a ih =>
      intro k h
      cases k with
      | zero => rw [chs_zero]; decide
      | succ k =>
        have := ih k (by omega)
        show 0 < chs a k + chs a (k + 1)
        omega
  exact g a k h

/-! sums of products of ways to choose -/
/-- f 0 + .. + f (m - 1) -/
def Zs' (m : Nat) (f : Nat → Int) : Int := ((List.range m).map f).sum
theorem Zs_zero (f : Nat → Int) : Zs' 0 f = 0 := rfl
theorem Zs_succ (m : Nat) (f : Nat → Int) : Zs' (m + 1) f = Zs' m f + f m := by
  unfold Zs'
  rw [List.range_succ, List.map_append, List.sum_append]
  simp only [List.map_cons, List.map_nil, List.sum_cons, List.sum_nil]
  omega
theorem Zs_first : ∀ (m : Nat) (f : Nat → Int), Zs' (m + 1) f = f 0 + Zs' m fun k => f (k + 1)
  | 0, f => by rw [Zs_succ, Zs_zero, Zs_zero]; omega
  | m + 1, f => by rw [Zs_succ, Zs_first m f, Zs_succ m]; omega
theorem Zs_congr {m : Nat} {f g : Nat → Int} (h : ∀ k < m, f k = g k) : Zs' m f = Zs' m g := by
  induction m with
  | zero => rfl
  | succ m ih => rw [Zs_succ, Zs_succ, ih fun k hk => h k (by omega), h m (by omega)]
theorem Zs_add (f g : Nat → Int) : ∀ m : Nat, Zs' m (fun k => f k + g k) = Zs' m f + Zs' m g
  | 0 => rfl
  | m + 1 => by rw [Zs_succ, Zs_succ, Zs_succ, Zs_add f g m]; omega
theorem Zs_mul (c : Int) (f : Nat → Int) : ∀ m : Nat, Zs' m (fun k => c * f k) = c * Zs' m f
  | 0 => by rw [Zs_zero, Zs_zero, Int.mul_zero]
  | m + 1 => by rw [Zs_succ, Zs_succ, Zs_mul c f m, Int.mul_add]
/-- the ways to choose d of y and r things, by how many are of the y -/
def vd (y r d : Nat) : Int := Zs' (d + 1) fun k => ((chs y k : Nat) : Int) * ((chs r (d - k) : Nat) : Int)
theorem vd_zero (y r : Nat) : vd y r 0 = 1 := by
  unfold vd
  rw [Zs_succ, Zs_zero, chs_zero, chs_zero]
  rfl
theorem vd_none (r d : Nat) : vd 0 r d = ((chs r d : Nat) : Int) := by
  unfold vd
  rw [Zs_first]
  have e : Zs' d (fun k => ((chs 0 (k + 1) : Nat) : Int) * ((chs r (d - (k + 1)) : Nat) : Int)) = Zs' d (fun k => 0 * ((chs r (d - (k + 1)) : Nat) : Int)) := Zs_congr fun k _ => rfl
  rw [e, Zs_mul, chs_zero]
  simp
theorem vd_step (y r d : Nat) : vd (y + 1) r (d + 1) = vd y r (d + 1) + vd y r d := by
  unfold vd
  rw [Zs_first, Zs_first (d + 1) fun k => ((chs y k : Nat) : Int) * ((chs r (d + 1 - k) : Nat) : Int)]
  have e : Zs' (d + 1) (fun k => ((chs (y + 1) (k + 1) : Nat) : Int) * ((chs r (d + 1 - (k + 1)) : Nat) : Int)) =
      Zs' (d + 1) (fun k => ((chs y (k + 1) : Nat) : Int) * ((chs r (d + 1 - (k + 1)) : Nat) : Int) + ((chs y k : Nat) : Int) * ((chs r (d - k) : Nat) : Int)) := by
    apply Zs_congr
    intro k _
    have h1 : chs (y + 1) (k + 1) = chs y k + chs y (k + 1) := rfl
    have h2 : d + 1 - (k + 1) = d - k := by omega
    rw [h1, h2, Int.natCast_add, Int.add_mul]
    omega
  rw [e, Zs_add, chs_zero, chs_zero]
  omega
theorem vandermonde : ∀ (y r d : Nat), vd y r d = ((chs (y + r) d : Nat) : Int)
  | 0, r, d => by rw [vd_none, Nat.zero_add]
  | y + 1, r, 0 => by rw [vd_zero, chs_zero]; rfl
  | y + 1, r, d + 1 => by
    rw [vd_step, vandermonde y r (d + 1), vandermonde y r d]
    have e : y + 1 + r = y + r + 1 := by omega
    have h1 : chs (y + r + 1) (d + 1) = chs (y + r) d + chs (y + r) (d + 1) := rfl
    rw [e, h1, Int.natCast_add]
    omega
theorem fall_add (a : Int) (j : Nat) : ∀ i : Nat, Builtin.Math.fallingProduct a (j + i) = Builtin.Math.fallingProduct a j * Builtin.Math.fallingProduct (a - (j : Int)) i
  | 0 => by rw [PySem.W.mc_fp_zero, Nat.add_zero, Int.mul_one]
  | i + 1 => by
    rw [show j + (i + 1) = (j + i) + 1 from rfl, PySem.W.mc_fp_succ, PySem.W.mc_fp_succ, fall_add a j i, Int.mul_assoc]
    congr 2
    omega
/-- choosing k of a, then j of these: choosing j of a, then the others -/
theorem revise {a k j : Nat} (hj : j ≤ k) : ((chs a k : Nat) : Int) * ((chs k j : Nat) : Int) = ((chs a j : Nat) : Int) * ((chs (a - j) (k - j) : Nat) : Int) := by
  by_cases ha : j ≤ a
  · have e1 := fall_chs a k
    have e2 := fall_chs a j
    have e3 := fall_chs (a - j) (k - j)
    have e4 := fall_chs k j
    have e5 := fall_chs (k - j) (k - j)
    have e6 := fall_chs k k
    rw [chs_self] at e5 e6
    have s1 := fall_add (a : Int) j (k - j)
    have s2 := fall_add (k : Int) j (k - j)
    rw [show j + (k - j) = k by omega] at s1 s2
    have c1 : (a : Int) - (j : Int) = ((a - j : Nat) : Int) := by omega
    have c2 : (k : Int) - (j : Int) = ((k - j : Nat) : Int) := by omega
    rw [c1] at s1
    rw [c2] at s2
    rw [e1, e2, e3] at s1
    rw [e6, e4, e5] at s2
    have p1 := fct_pos j
    have p2 := fct_pos (k - j)
    have one : (((1 : Nat)) : Int) = 1 := rfl
    rw [one] at s2
    generalize ((chs a k : Nat) : Int) = x at *
    generalize ((chs k j : Nat) : Int) = y at *
    generalize ((chs a j : Nat) : Int) = z at *
    generalize ((chs (a - j) (k - j) : Nat) : Int) = u at *
    generalize fct k = f at *
    generalize fct j = g at *
    generalize fct (k - j) = h at *
    have key : x * y * (g * h) = z * u * (g * h) := by
      have a1 : x * y * (g * h) = x * (y * g * (1 * h)) := by grind
      rw [a1, ← s2]
      have a2 : x * (1 * f) = x * f := by rw [Int.one_mul]
      rw [a2, s1]
      grind
    exact Int.eq_of_mul_eq_mul_right (Int.ne_of_gt (Int.mul_pos p1 p2)) key
  · rw [chs_big a k (by omega), chs_big a j (by omega)]
    simp
/-- the mean of the ways to choose j of the yes among d draws -/
theorem moment {y r d j : Nat} (hj : j ≤ d) : (Zs' (d + 1) fun k => ((chs y k : Nat) : Int) * ((chs r (d - k) : Nat) : Int) * ((chs k j : Nat) : Int)) = ((chs y j : Nat) : Int) * (if j ≤ y then ((chs (y - j + r) (d - j) : Nat) : Int) else 0) := by
  obtain ⟨e, rfl⟩ : ∃ e, d = j + e := ⟨d - j, by omega⟩
  have split : ∀ (j : Nat) (f : Nat → Int), Zs' (j + e + 1) f = Zs' j f + Zs' (e + 1) fun k => f (j + k) := by
    intro j f
    clear hj
    induction e with
    | zero => rw [Zs_succ, Zs_succ, Zs_zero]; simp
    | succ e ih => rw [show j + (e + 1) + 1 = (j + e + 1) + 1 from rfl, Zs_succ, ih, Zs_succ (e + 1)]; simp only [Nat.add_assoc]; omega
  rw [split]
  have z : Zs' j (fun k => ((chs y k : Nat) : Int) * ((chs r (j + e - k) : Nat) : Int) * ((chs k j : Nat) : Int)) = Zs' j (fun k => 0 * ((chs y k : Nat) : Int)) := by
    apply Zs_congr
    intro k hk
    rw [chs_big k j hk]
    simp
  rw [z, Zs_mul, Int.zero_mul, Int.zero_add]
  have t : Zs' (e + 1) (fun k => ((chs y (j + k) : Nat) : Int) * ((chs r (j + e - (j + k)) : Nat) : Int) * ((chs (j + k) j : Nat) : Int)) =
      Zs' (e + 1) (fun k => ((chs y j : Nat) : Int) * (((chs (y - j) k : Nat) : Int) * ((chs r (e - k) : Nat) : Int))) := by
    apply Zs_congr
    intro k _
    have h := revise (a := y) (k := j + k) (j := j) (by omega)
    have e1 : j + k - j = k := by omega
    have e2 : j + e - (j + k) = e - k := by omega
    rw [e1] at h
    rw [e2]
    calc _ = ((chs y (j + k) : Nat) : Int) * ((chs (j + k) j : Nat) : Int) * ((chs r (e - k) : Nat) : Int) := by grind
      _ = _ := by rw [h]; grind
  rw [t, Zs_mul]
  have e3 : j + e - j = e := by omega
  rw [e3]
  by_cases hy : j ≤ y
  · rw [if_pos hy]
    have := vandermonde (y - j) r e
    unfold vd at this
    rw [this]
  · rw [if_neg hy, chs_big y j (by omega)]
    simp

/-! slices of tuples; lists told by an own notion under changes of one list -/
def rSlAN (K : PySem.W.Frag) : V → Option Int → Option Int → Hp → VK → Prop := fun x lo hi H Q => ∃ a xs, x = .ref a ∧ SqT K H a xs ∧ ∀ p H', Ex H H' → SqT K H' p (cutV xs lo hi) → Q (.ref p) H'
theorem sl_tupAN {X : Cx} {K : PySem.W.Frag} (h : X.K = K := by rfl) : L2.SlR X (rSlAN K) := by
  subst h
  refine SlR.imp sl_tupA fun x lo hi H Q ⟨a, xs, e, hS, n⟩ => ⟨a, xs, e, hS, fun w => ?_, fun _ p hp => n p _ (Ex.new hp) (.of upd_same)⟩
  refine n a H (Ex.refl H) ?_
  unfold cutV
  rw [w.1, w.2]
  simpa using hS
theorem cut_take (xs : List V) (n : Nat) : cutV xs none (some (n : Int)) = xs.take n := by
  unfold cutV
  rw [HT.sIx_none, HT.sIx_nat, List.drop_zero, Nat.sub_zero]
  by_cases h : n ≤ xs.length
  · rw [Nat.min_eq_left h]
  · rw [Nat.min_eq_right (by omega), List.take_length, List.take_of_length_le (by omega)]
theorem cut_drop (xs : List V) (n : Nat) : cutV xs (some (n : Int)) none = xs.drop n := by
  unfold cutV
  rw [HT.sIx_none, HT.sIx_nat]
  by_cases h : n ≤ xs.length
  · rw [Nat.min_eq_left h, List.take_of_length_le (by rw [List.length_drop]; omega)]
  · rw [Nat.min_eq_right (by omega), List.drop_eq_nil_of_le (Nat.le_refl _), List.drop_eq_nil_of_le (by omega)]
    simp

/-! walks within a comprehension, their K named -/
section
variable {X : Cx} {K : PySem.W.Frag} {tg e : Expr} {te : TE}
theorem kPiL (he : PE X e te) (h : X.K = K := by rfl) : PI X tg e (iList K te) := by
  subst h
  exact pi_list he
theorem kPiT (he : PE X e te) (h : X.K = K := by rfl) : PI X tg e (iTup K te) := by
  subst h
  exact pi_tup he
end

/-! list(range(n)) as a new list of numbers -/
section
variable {X : Cx} {a : Expr} {ta : TE}
def natV (n : Nat) : List Int := (List.range n).map fun i : Nat => (i : Int)
def tListR (ta : TE) : TE := fun σ H Q => ta σ H fun x H1 => ∃ n : Nat, x = .int (n : Int) ∧ n ≤ 1000 ∧ New H1 (.lst ((natV n).map V.int)) Q
theorem pe_listR {p p2 pos pos2 : Pos} (hc : X.calm = true) (gl : Gl X "list") (ml : X.mg "list" = none) (gr : Gl X "range") (mr : X.mg "range" = none) (ha : PE X a ta)
    (na : starEach [a] X.env = (false, eval a X.env) :: starEach [] X.env := by rfl) :
    PE X (.Call (.Name "list" p) [.Call (.Name "range" p2) [a] [] pos2] [] pos) (tListR ta) := by
  have q := pe_listRg (p := p) (pos := pos) hc gl ml (prg_1 (p := p2) (pos := pos2) gr mr (PE.mon ha) na)
  refine ⟨fun pins s σ H Q I h => q.run pins s σ H Q I ?_⟩
  refine ⟨_, h, ?_⟩
  rintro x H1 ⟨n, rfl, n1, hq⟩
  refine ⟨n, rfl, RgOk.of_le (by decide) (by omega) (by decide) (by omega), fun q nq => ?_⟩
  have e : rgV 0 (n : Int) = (natV n).map V.int := by
    unfold rgV natV
    rw [List.map_map, show ((n : Int) - 0).toNat = n by omega]
    apply List.map_congr_left
    intro i _
    simp
  rw [e]
  exact hq q _ nq (Ex.new nq) upd_same
end

/-! math.factorial; comprehensions of two clauses; a star in a tuple -/
open PySem PySem.Spec PyProof.Rows L2 StX
section
variable {X : Cx}
def rFact : List V → Hp → VK → Prop := fun vs H Q => ∃ n : Nat, vs = [.int (n : Int)] ∧ n ≤ 1000 ∧ Q (.int ((Builtin.Math.factorialNat n : Nat) : Int)) H
theorem cr_fact : CallR X (.builtin "math.factorial") rFact := by
  intro pins s σ H vs us Q I r h
  obtain ⟨n, rfl, hn, q⟩ := h
  cases r with
  | cons r1 r2 =>
    cases r2
    obtain ⟨t, rfl⟩ := r1
    refine PySem.W.mc_factorial (by omega) (by omega) fun _ => ⟨.int _, H, I.tok _, ⟨_, rfl⟩, ?_⟩
    exact q
/-- the inner walk of a comprehension of two clauses -/
def Lc2In (g1 : TG) (tt1 : TT) (te : TE) (vs1 : List Nat) (σ2 : L2.St) (D : Addr) (Nx : Hp → Prop) (J1 : It) (H4 : Hp) : Prop := ∃ W1 : Nat → Nat → Hp → Prop, (∃ m, W1 0 m H4) ∧ ∀ j k H, W1 j k H →
      (J1.stop j H ∧ Nx H) ∨ (J1.go j H ∧ ∃ Nx1 : Hp → Prop, (∀ H', Nx1 H' → ∃ k', k' < k ∧ W1 (j + 1) k' H') ∧ ∀ x H', J1.yld j H x H' → g1 x (wipe σ2 vs1) H' fun σ3 H5 => wipe σ3 vs1 = wipe σ2 vs1 ∧ tt1 σ3 H5 fun b H6 =>
        if b = true then te σ3 H6 fun y H7 => ∃ acc, H7 D = some (.lst acc) ∧ acc.length < sizeLine ∧ Nx1 (upd H7 D (.lst (acc ++ [y]))) else Nx1 H6)
def LcW2 (J : It) (g : TG) (tt : TT) (wi1 : TI) (g1 : TG) (tt1 : TT) (te : TE) (vs vs1 : List Nat) (σ : L2.St) (H1 : Hp) (D : Addr) (Q : VK) : Prop := ∃ W : Nat → Nat → Hp → Prop, (∃ m, W 0 m (upd H1 D (.lst []))) ∧ ∀ i m H, W i m H →
  (J.stop i H ∧ Q (.ref D) H) ∨ (J.go i H ∧ ∃ Nx : Hp → Prop, (∀ H', Nx H' → ∃ m', m' < m ∧ W (i + 1) m' H') ∧ ∀ x H', J.yld i H x H' → g x (wipe σ vs) H' fun σ2 H2 => wipe σ2 vs = wipe σ vs ∧ tt σ2 H2 fun b H3 =>
    if b = true then wi1 σ2 H3 fun J1 H4 => Lc2In g1 tt1 te vs1 σ2 D Nx J1 H4 else Nx H3)
theorem r_lc2 {wi : TI} {g : TG} {tt : TT} {wi1 : TI} {g1 : TG} {tt1 : TT} {te : TE} {vs vs1 : List Nat} {σ : L2.St} {H : Hp} {Q : VK} : tLc2 wi g tt wi1 g1 tt1 te vs vs1 σ H Q = wi σ H fun J H1 => ∀ D, H1 D = none → LcW2 J g tt wi1 g1 tt1 te vs vs1 σ H1 D Q := rfl
theorem r_star {K : PySem.W.Frag} {te : TE} {t : TA} {σ : L2.St} {H : Hp} {Q : List V → Hp → Prop} : tStar K te t σ H Q = te σ H fun x H1 => ∃ p xs, x = V.ref p ∧ (SqT K H1 p xs ∨ SqL K H1 p xs) ∧ t σ H1 fun ys H2 => Q (xs ++ ys) H2 := rfl
section
variable {J : It} {n : Nat} {G : Hp → Prop} {Y : Nat → Hp → V → Hp → Prop}
theorem lc2_it (w : Walk J n G Y) {g : TG} {tt : TT} {wi1 : TI} {g1 : TG} {tt1 : TT} {te : TE} {vs vs1 : List Nat} {σ : L2.St} {H1 : Hp} {D : Addr} {Q : VK} (Pv : Nat → Hp → Prop) (h0 : Pv 0 (upd H1 D (.lst []))) (hG : ∀ i H, i ≤ n → Pv i H → G H)
    (hs : ∀ i x H H', i < n → Pv i H → Y i H x H' → g x (wipe σ vs) H' fun σ2 H2 => wipe σ2 vs = wipe σ vs ∧ tt σ2 H2 fun b H3 => if b = true then wi1 σ2 H3 fun J1 H4 => Lc2In g1 tt1 te vs1 σ2 D (Pv (i + 1)) J1 H4 else Pv (i + 1) H3)
    (hd : ∀ H, Pv n H → Q (.ref D) H) : LcW2 J g tt wi1 g1 tt1 te vs vs1 σ H1 D Q := by
  refine ⟨fun i m H => m = n - i ∧ i ≤ n ∧ Pv i H, ⟨n, by simp, Nat.zero_le _, h0⟩, ?_⟩
  rintro i m H ⟨rfl, hi, p⟩
  have q := hG i H hi p
  by_cases hlt : i < n
  · exact .inr ⟨w.goes i H hlt q, Pv (i + 1), fun H' p' => ⟨n - (i + 1), by omega, rfl, hlt, p'⟩, fun x H' y => hs i x H H' hlt p (w.yields i H x H' hlt q y)⟩
  · have e : i = n := by omega
    subst e
    exact .inl ⟨w.stops H q, hd H p⟩
theorem lc2_in (w : Walk J n G Y) {g1 : TG} {tt1 : TT} {te : TE} {vs1 : List Nat} {σ2 : L2.St} {H4 : Hp} {D : Addr} {Nx : Hp → Prop} (Pv : Nat → Hp → Prop) (h0 : Pv 0 H4) (hG : ∀ i H, i ≤ n → Pv i H → G H)
    (hs : ∀ i x H H', i < n → Pv i H → Y i H x H' → g1 x (wipe σ2 vs1) H' fun σ3 H5 => wipe σ3 vs1 = wipe σ2 vs1 ∧ tt1 σ3 H5 fun b H6 => if b = true then te σ3 H6 fun y H7 => ∃ acc, H7 D = some (.lst acc) ∧ acc.length < sizeLine ∧ Pv (i + 1) (upd H7 D (.lst (acc ++ [y]))) else Pv (i + 1) H6)
    (hd : ∀ H, Pv n H → Nx H) : Lc2In g1 tt1 te vs1 σ2 D Nx J H4 := by
  refine ⟨fun i m H => m = n - i ∧ i ≤ n ∧ Pv i H, ⟨n, by simp, Nat.zero_le _, h0⟩, ?_⟩
  rintro i m H ⟨rfl, hi, p⟩
  have q := hG i H hi p
  by_cases hlt : i < n
  · exact .inr ⟨w.goes i H hlt q, Pv (i + 1), fun H' p' => ⟨n - (i + 1), by omega, rfl, hlt, p'⟩, fun x H' y => hs i x H H' hlt p (w.yields i H x H' hlt q y)⟩
  · have e : i = n := by omega
    subst e
    exact .inl ⟨w.stops H q, hd H p⟩
end
/-- the truth of a tuple -/
theorem pt_truT {K : PySem.W.Frag} {a : Expr} {ta : TE} (ha : PE X a ta) (he : ∀ whole, isTrue a X.env whole = (do let v ← whole; standAt a.pos; holding [v] (truthy v))) (h : X.K = K := by rfl) :
    PT X a (fun σ H Q => ta σ H fun x H' => ∃ p xs, x = .ref p ∧ SqT K H' p xs ∧ Q (!xs.isEmpty) H') := by
  subst h
  refine ⟨fun pins s σ H Q I q => ?_⟩
  refine isTrue_plain (thn ((PE.mon ha).run pins s σ H _ I ⟨_, q, fun y H' z => z⟩) fun v s1 ⟨x, H1, I1, r1, p, xs, e, hx, q1⟩ => ?_) (he _)
  refine tru_ok pins s1 σ H1 x v Q I1 r1 ⟨_, ?_, q1⟩
  subst e
  exact .inr (.inl ⟨xs, hx, rfl⟩)
theorem loopEl {K : PySem.W.Frag} {g : TG} {D : Ends} {σ : L2.St} {H : Hp} {a : Addr} {xs : List V} {tb : TS} (Pv : Nat → L2.St → Hp → Prop) (h0 : Pv 0 σ H) (hl : ∀ i σ H, i ≤ xs.length → Pv i σ H → SqL K H a xs)
    (hs : ∀ i x σ H T H', xs[i]? = some x → Pv i σ H → Ex H H' → H' T = some (.tup [.int (i : Nat), x]) → g (.ref T) σ H' fun σ2 H2 => tb { nx := Pv (i + 1), rt := D.rt, bk := D.nx, ct := Pv (i + 1) } σ2 H2) (hd : ∀ σ H, Pv xs.length σ H → D.nx σ H) : LoopW (Ite K a) g tb D σ H :=
  for_it (walk_enum (K := K) (a := a) (xs := xs)) Pv h0 hl (fun i v σ H H' hi hp y => by
    obtain ⟨T, x, z, rfl, hn, rfl, h1, h2⟩ := y
    cases h1
    exact hs i z σ H T _ h2 hp (Ex.new hn) upd_same) hd
theorem kStar {K : PySem.W.Frag} {e : Expr} {es : List Expr} {te : TE} {t : TA} {p : Pos} (he : PE X e te) (hr : PA X es t) (hs : starEach (.Starred e p :: es) X.env = (true, eval e X.env) :: starEach es X.env := by rfl) (h : X.K = K := by rfl) : PA X (.Starred e p :: es) (tStar K te t) := by
  subst h
  exact pa_star he hr hs
def rNotT : R2 := fun x y H Q => ∃ a b, x = .bl a ∧ y = .bl b ∧ Q (.bl (!decide (a = b))) H
theorem op_notT : OpR X (compareOp .IsNot) rNotT := op_isnot_bl
/-- a loop over enumerate of a list -/
theorem r_enumL {tx : TA} {K : PySem.W.Frag} {σ : L2.St} {H : Hp} {S : It → Hp → Prop} : iEnum K tx σ H S = tx σ H fun vs H1 => ∃ a xs, vs = [.ref a] ∧ SqL K H1 a xs ∧ S (Ite K a) H1 := rfl
end

/-! perm, isqrt, in, sorted, name op= e -/
section
variable {X : Cx}
def prm (a : Nat) (k : Nat) : Int := Builtin.Math.fallingProduct (a : Int) k
def rPerm : List V → Hp → VK → Prop := fun vs H Q => ∃ a k : Nat, vs = [.int (a : Int), .int (k : Int)] ∧ k ≤ a ∧ k ≤ 8 ∧ a < 2 ^ 2000 ∧ Q (.int (prm a k)) H
theorem cr_perm : CallR X (.builtin "math.perm") rPerm := by
  intro pins s σ H vs us Q I r h
  obtain ⟨a, k, rfl, hk, h8, ha, q⟩ := h
  obtain ⟨t, u, rfl⟩ := Vals.int2 r
  have hb : (Builtin.Math.fallingProduct (a : Int) k).natAbs ≤ 2 ^ (2000 * k) := fp_abs (by omega) (by rw [Int.natAbs_natCast]; exact Nat.le_of_lt ha) k (by omega)
  have hs : (Builtin.Math.fallingProduct (a : Int) ((k : Int)).toNat).natAbs.log2 < bitsLine := by
    rw [Int.toNat_natCast]
    exact lg (Nat.le_trans hb (Nat.pow_le_pow_right (by decide) (show 2000 * k ≤ 16000 by omega))) (by decide)
  have g := PySem.W.mc_run_perm (a : Int) t (k : Int) u (by omega) (by omega) (by omega) (by show ¬(k : Int) > 2 ^ 63 - 1; omega) (by show ¬(k : Int) > 20000; omega) hs
  rw [Int.toNat_natCast] at g
  exact call_function_meets PySem.W.MGF.kind_perm PySem.W.MGF.plain_perm PySem.W.MGF.entry_perm (PySem.W.MGF.args_perm _ _) g.meets ⟨.int _, H, I.tok _, ⟨_, rfl⟩, q⟩
def rIsqrt : List V → Hp → VK → Prop := fun vs H Q => ∃ a : Nat, vs = [.int (a : Int)] ∧ a < 2 ^ 2000 ∧ ∀ m : Nat, m * m ≤ a → a < (m + 1) * (m + 1) → Q (.int (m : Int)) H
theorem cr_isqrt : CallR X (.builtin "math.isqrt") rIsqrt := by
  intro pins s σ H vs us Q I r h
  obtain ⟨a, rfl, ha, q⟩ := h
  cases r with
  | cons r1 r2 =>
    cases r2
    obtain ⟨t, rfl⟩ := r1
    have hl : a.log2 ≤ 2000 := log_le ha
    have g := PySem.W.mg_run_isqrt (a : Int) t (by omega) (by rw [Int.toNat_natCast]; omega) (by rw [Int.toNat_natCast]; omega)
    rw [Int.toNat_natCast] at g
    obtain ⟨s1, s2⟩ := PySem.Float64.isqrt_spec a
    exact call_function_meets PySem.W.MGF.kind_isqrt PySem.W.MGF.plain_isqrt PySem.W.MGF.entry_isqrt (PySem.W.MGF.args_isqrt _) g.meets ⟨.int _, H, I.tok _, ⟨_, rfl⟩, q _ s1 s2⟩
/-- a number among a list's numbers -/
def rInI (K : PySem.W.Frag) : R2 := fun x y H Q => ∃ (p : Addr) (i : Int) (ns : List Int), x = .int i ∧ y = .ref p ∧ SqL K H p (ns.map V.int) ∧ Q (.bl (ns.any fun n => n == i)) H
theorem kIn {K : PySem.W.Frag} (h : X.K = K := by rfl) : OpR X (compareOp .In) (rInI K) := by
  subst h
  refine OpR.imp op_in_seq fun x y H Q ⟨p, i, ns, e1, e2, hs, q⟩ => ?_
  subst e1 e2
  refine ⟨p, ns.map V.int, rfl, .inl hs, rfl, by simp [List.all_map, flatV], ?_⟩
  have : inV (.int i) (ns.map V.int) = ns.any fun n => n == i := by
    unfold inV
    rw [List.any_map]
    congr 1
  rw [this]
  exact q
def rSrtN (K : PySem.W.Frag) : List V → Hp → VK → Prop := fun vs H Q => ∃ (a : Addr) (ns : List Int), vs = [V.ref a] ∧ SqL K H a (ns.map V.int) ∧ ∀ ns' : List Int, ns'.Perm ns → ns'.Pairwise (· ≤ ·) → New H (.lst (ns'.map V.int)) Q
theorem kSrt {K : PySem.W.Frag} (h : X.K = K := by rfl) : CallR X (.builtin "sorted") (rSrtN K) := by
  subst h
  exact CallR.imp cr_sortedI fun vs H Q ⟨a, ns, e, hs, q⟩ => ⟨a, ns, e, hs, fun ns' p h1 h2 np => (q ns' h1 h2).at p np⟩
def rReprB : List V → Hp → VK → Prop := fun vs H Q => ∃ b : Bool, vs = [.bl b] ∧ Q (.str (if b = true then "True" else "False")) H
theorem cr_reprB : CallR X (.builtin "repr") rReprB := by
  intro pins s σ H xs us Q I r h
  obtain ⟨b, rfl, q⟩ := h
  cases r with
  | cons r1 r2 =>
    cases r2
    cases r1
    exact PySem.P.repr_of_bool ⟨.str _, H, I.tok _, ⟨_, rfl⟩, q⟩
theorem r_aug {i : Nat} {te : TE} {ti : TIp} {D : Ends} {σ : L2.St} {H : Hp} : tAug i te ti D σ H = ∃ x, σ[i]? = some (some x) ∧ te σ H fun y H1 => ti x y H1 fun z H2 => D.nx (σ.set i (some z)) H2 := rfl
end

/-! perm beyond its number -/
section
variable {X : Cx}
def prmA (a k : Nat) : Int := if k ≤ a then prm a k else 0
def rPermA : List V → Hp → VK → Prop := fun vs H Q => ∃ a k : Nat, vs = [.int (a : Int), .int (k : Int)] ∧ k ≤ 8 ∧ a < 2 ^ 2000 ∧ Q (.int (prmA a k)) H
theorem cr_permA : CallR X (.builtin "math.perm") rPermA := by
  intro pins s σ H vs us Q I r h
  obtain ⟨a, k, rfl, h8, ha, q⟩ := h
  by_cases hk : k ≤ a
  · refine cr_perm pins s σ H _ us Q I r ⟨a, k, rfl, hk, h8, ha, ?_⟩
    unfold prmA at q
    rw [if_pos hk] at q
    exact q
  · obtain ⟨t, u, rfl⟩ := Vals.int2 r
    have g := PySem.W.mc_run_perm0 (a : Int) t (k : Int) u (by omega) (by omega) (by omega)
    unfold prmA at q
    rw [if_neg hk] at q
    exact call_function_meets PySem.W.MGF.kind_perm PySem.W.MGF.plain_perm PySem.W.MGF.entry_perm (PySem.W.MGF.args_perm _ _) g.meets ⟨.int _, H, I.tok _, ⟨_, rfl⟩, q⟩
end
/-! powers of great numbers -/
section
variable {X : Cx}
def CPowW (i j : Int) : Prop := 0 ≤ j ∧ j ≤ 1000 ∧ i.natAbs < 2 ^ 8000
theorem op_powW : OpR X (binaryOp .Pow) (rI CPowW fun i j => .int (i ^ j.toNat)) := opI fun i j _ _ _ _ _ hc q => pow_int hc.1 (by
  have hb : Builtin.Int.intBits i ≤ 8000 := intBits_le hc.2.2
  have h0 := hc.1
  have h1 := hc.2.1
  have h2 : (Builtin.Int.intBits i : Int) * j ≤ 8000 * j := Int.mul_le_mul_of_nonneg_right (by omega) h0
  omega) q
end
def b30 : Int := 1000000000000000000000000000000
theorem b30_eq : b30 = 1000000000000000000000000000000 := rfl
def b9 : Int := 1000000000
theorem b9_eq : b9 = 1000000000 := rfl

/-! texts -/
open PySem PySem.Spec PyProof.Rows L2 SX
open PySem.Builtin.Str (padded strSub subAt)
theorem zfill_S {a : List Nat} {n : Nat} (h0 : ∀ c, a.head? = some c → 48 ≤ c) (hn : a.length ≤ n) : Txt.zfill (S a) (n : Int) = S (List.replicate (n - a.length) 48 ++ a) := by
  unfold Txt.zfill
  rw [S_len]
  by_cases h : (n : Int) ≤ (a.length : Int)
  · rw [if_pos h, show n - a.length = 0 by omega]
    rfl
  · rw [if_neg h, Int.toNat_natCast]
    unfold zfilled
    have pe : padded (S a) (n - a.length) 0 48 = S (List.replicate (n - a.length) 48 ++ a) := by
      unfold padded
      refine TL.ext_tl ?_
      simp [TL.tl, S]
    have g : (S a).cps[0]? = a.head? := by
      cases a <;> simp [S]
    rw [g]
    split
    · rename_i e
      have := h0 _ e
      omega
    · rename_i e
      have := h0 _ e
      omega
    · exact pe
theorem drop_tw {p : Nat → Bool} : ∀ a : List Nat, a.drop (a.takeWhile p).length = a.dropWhile p
  | [] => rfl
  | c :: a => by
    by_cases h : p c = true
    · rw [List.takeWhile_cons_of_pos h, List.dropWhile_cons_of_pos h, List.length_cons, List.drop_succ_cons]
      exact drop_tw a
    · rw [List.takeWhile_cons_of_neg h, List.dropWhile_cons_of_neg h]
      rfl
theorem lstrip_S {a b : List Nat} : Txt.lstripChars (S a) (S b) = S (a.dropWhile b.contains) := by
  have hg : ((S b).cps.contains : Nat → Bool) = b.contains := by
    funext c
    simp [S]
  have lo : stripLo (S b).cps.contains true (S a) = (a.takeWhile b.contains).length := by
    unfold stripLo
    rw [if_pos rfl, hg]
  have hi : stripHi (S b).cps.contains false (S a) (stripLo (S b).cps.contains true (S a)) = a.length := by
    unfold stripHi
    rw [if_neg (by decide), S_len]
  unfold Txt.lstripChars Txt.stripBy stripSame stripped
  rw [hi, lo, S_len]
  by_cases h : (a.takeWhile b.contains).length = 0
  · rw [h]
    have := drop_tw (p := b.contains) a
    rw [h, List.drop_zero] at this
    rw [← this]
    simp
  · have hb : ((a.takeWhile b.contains).length == 0 && a.length == a.length) = false := by
      rw [beq_eq_false_iff_ne.mpr h]
      rfl
    rw [hb, if_neg (by decide)]
    refine TL.ext_tl ?_
    have := TL.tl_strSub (S a) (a.takeWhile b.contains).length a.length
    rw [this]
    show ((a.drop _).take _) = _
    have l1 := congrArg List.length (drop_tw (p := b.contains) a)
    rw [List.length_drop] at l1
    rw [drop_tw, List.take_of_length_le (by omega)]
theorem ascii_S {a : List Nat} (h : ∀ c ∈ a, c < 128) : Txt.isascii (S a) = true := by
  unfold Txt.isascii
  rw [← Array.all_toList]
  exact List.all_eq_true.mpr fun c hc => decide_eq_true (h c hc)
theorem isdig (c : Nat) (h : 48 ≤ c ∧ c ≤ 57) : Unicode.isDigit c = true := by
  have : ∀ c, c < 58 → 48 ≤ c → Unicode.isDigit c = true := by decide +kernel
  exact this c (by omega) h.1
theorem digit_S {a : List Nat} (h : ∀ c ∈ a, 48 ≤ c ∧ c ≤ 57) (hne : a ≠ []) : Txt.isdigit (S a) = true := by
  unfold Txt.isdigit
  rw [S_len, ← Array.all_toList, Bool.and_eq_true]
  refine ⟨decide_eq_true ?_, List.all_eq_true.mpr fun c hc => isdig c (h c hc)⟩
  exact List.length_pos_iff.mpr hne
theorem start_S {a b : List Nat} : Txt.startswith (S a) (S b) = (a.take b.length == b) := by
  unfold Txt.startswith subAt
  rw [S_len, S_len, Nat.zero_add]
  have e : ((S a).cps.extract 0 b.length == (S b).cps) = (a.take b.length == b) := by
    have : (S a).cps.extract 0 b.length = (a.take b.length).toArray := by simp [S]
    rw [this]
    have h2 : ((a.take b.length).toArray == b.toArray) = (a.take b.length == b) := by simp
    exact h2
  rw [e]
  by_cases h : b.length ≤ a.length
  · rw [decide_eq_true h, Bool.true_and]
  · rw [decide_eq_false h, Bool.false_and]
    symm
    refine beq_eq_false_iff_ne.mpr fun z => h ?_
    have := congrArg List.length z
    rw [List.length_take] at this
    omega
theorem num_head {n : Nat} (h : 0 < n) : ∃ c l, TL.numL n = c :: l ∧ c ≠ 48 := by
  induction n using Nat.strongRecOn with
  | ind n ih =>
    by_cases h10 : n < 10
    · exact ⟨48 + n, [], TL.numL_lt h10, by omega⟩
    · obtain ⟨c, l, e, hc⟩ := ih (n / 10) (by omega) (by omega)
      refine ⟨c, l ++ [48 + n % 10], ?_, hc⟩
      rw [TL.numL_step (by omega), e]
      rfl
theorem num_zero : TL.numL 0 = [48] := TL.numL_lt (by decide)
theorem drop_num (k n : Nat) : (List.replicate k 48 ++ TL.numL n).dropWhile ([48] : List Nat).contains = if n = 0 then [] else TL.numL n := by
  induction k with
  | zero =>
    rw [List.replicate_zero, List.nil_append]
    by_cases h : n = 0
    · subst h
      rw [if_pos rfl, num_zero]
      decide
    · rw [if_neg h]
      obtain ⟨c, l, e, hc⟩ := num_head (by omega : 0 < n)
      rw [e, List.dropWhile_cons_of_neg]
      simp
      omega
  | succ k ih =>
    rw [List.replicate_succ, List.cons_append, List.dropWhile_cons_of_pos (by decide)]
    exact ih
theorem val_zeros (k : Nat) (a : List Nat) : NumText.digitsVal (List.replicate k 48 ++ a) = NumText.digitsVal a := by
  unfold NumText.digitsVal
  rw [List.foldl_append]
  have : ∀ k : Nat, (List.replicate k 48).foldl (fun acc c => acc * 10 + (c - 48)) 0 = 0 := by
    intro k
    induction k with
    | zero => rfl
    | succ k ih =>
      rw [List.replicate_succ, List.foldl_cons]
      exact ih
  rw [this]
section
variable {X : Cx}
/-- int of a text of digits -/
def rIntT : List V → Hp → VK → Prop := fun vs H Q => ∃ a : List Nat, vs = [.str (S a)] ∧ NumText.AllDigits a ∧ a ≠ [] ∧ a.length ≤ 640 ∧ Q (.int ((NumText.digitsVal a : Nat) : Int)) H
theorem cr_intT : CallR X (.type "int") rIntT := by
  intro pins s σ H xs us Q I r h
  obtain ⟨a, rfl, hd, hn, hl, q⟩ := h
  obtain ⟨u, rfl, t, rfl⟩ := vals1 r
  have z := intText_digits (x := S a) hd hn (by rw [S_len]; omega)
  exact PySem.W.KIN.call_text z (by rw [S_len]; exact hl) ⟨.int _, H, I.tok _, ⟨_, rfl⟩, q⟩
end
section
variable {σ : L2.St} {H : Hp} {Q : VK} {to te : TE} {rr : V → List V → Hp → VK → Prop} {ts : List TE} {acc : Str} {Qs : Str → Hp → Prop} {t : TE}
theorem r_m0 : tM0 rr to σ H Q = to σ H fun x H1 => (∃ a, x = .str a) ∧ rr x [] H1 Q := rfl
theorem r_m1 : tM1 rr to te σ H Q = to σ H fun x H1 => (∃ a, x = .str a) ∧ te σ H1 fun y H2 => rr x [y] H2 Q := rfl
theorem r_js0 : tJs [] acc σ H Qs = Qs acc H := rfl
theorem r_js : tJs (t :: ts) acc σ H Qs = t σ H fun x H1 => ∃ y : Str, x = .str y ∧ (acc ++ y).length ≤ sizeLine ∧ tJs ts (acc ++ y) σ H1 Qs := rfl
theorem r_fmt : tFmt te σ H Q = te σ H fun x H1 => (∃ y : Str, x = .str y ∧ y.length ≤ sizeLine ∧ Q (.str y) H1) ∨ ∃ i : Int, x = .int i ∧ i.natAbs.log2 < 1920 ∧ Q (.str (toString i)) H1 := rfl
end
open PySem PySem.Spec PyProof.Rows L2 SX
theorem slice_zero (z : Str) (hi : Option Int) : Txt.slice z (some 0) hi = Txt.slice z none hi := by
  unfold Txt.slice
  have : Builtin.Str.strSliceIndices (some 0) hi 1 z.length = Builtin.Str.strSliceIndices none hi 1 z.length := by
    simp only [Builtin.Str.strSliceIndices]
    congr 1
  rw [this]
section
variable {X : Cx} {K : PySem.W.Frag}
def rJoin (K : PySem.W.Frag) : V → List V → Hp → VK → Prop := fun x xs H Q => ∃ a p, ∃ ys : List Str, x = .str a ∧ xs = [.ref p] ∧ (SqL K H p (ys.map V.str) ∨ SqT K H p (ys.map V.str)) ∧
    (ys.map (·.length)).sum + ys.length * a.length ≤ 16777216 ∧ Q (.str (Txt.join a ys)) H
theorem kJoin (h : X.K = K := by rfl) : MtR X "str.join" (rJoin K) := by
  subst h
  exact mt_join
end
open PySem PySem.Spec PyProof.Rows L2 SX
section
variable {X : Cx} {K : PySem.W.Frag}
def tRevN (K : PySem.W.Frag) (te : TE) : TE := fun σ H Q => te σ H fun x H1 => ∃ a xs, x = .ref a ∧ SqL K H1 a xs ∧ New H1 (.lst xs.reverse) Q
theorem kRevL {e : Expr} {te : TE} {k : Nat} {p1 p2 p3 pos : Pos} (he : PE X e te) (h : X.K = K := by rfl) : PE X (.Subscript e (.Slice none none (some (.UnaryOp .USub (.Constant (.int 1) k p1) p2)) p3) pos) (tRevN K te) := by
  subst h
  refine ⟨fun pins s σ H Q I q => (pe_revL (pos := pos) (p1 := p1) (p2 := p2) (p3 := p3) (k := k) (PE.mon he)).run pins s σ H Q I ?_⟩
  refine ⟨_, q, ?_⟩
  rintro x H1 ⟨a, xs, e1, h1, nw⟩
  exact ⟨a, xs, e1, h1, fun p hp => nw.at p hp⟩
theorem r_revN {te : TE} {σ : L2.St} {H : Hp} {Q : VK} : tRevN K te σ H Q = te σ H fun x H1 => ∃ a xs, x = .ref a ∧ SqL K H1 a xs ∧ New H1 (.lst xs.reverse) Q := rfl
theorem r_rng3 {ta : TA} {σ : L2.St} {H : Hp} {S : It → Hp → Prop} : iRng3 ta σ H S = ta σ H fun vs H1 => ∃ (i j c : Int) (n : Nat), vs = [.int i, .int j, .int c] ∧ RgC i j c n ∧ S (Itc i c n) H1 := rfl
end
section
variable {te : TE} {vs : List Nat} {σ : L2.St} {H1 : Hp} {Dd : Addr} {Q : VK} {j : Nat}
/-- a comprehension over a range with a step -/
theorem lcC {lo c : Int} {n : Nat} (R : Nat → V → Hp → Prop) (hR : ∀ i y H H', Kp H H' → R i y H → R i y H') (hD : H1 Dd = none) (hz : n ≤ 100000)
    (hw : ∀ x, wipe ((wipe σ vs).set j (some x)) vs = wipe σ vs)
    (hs : ∀ (i : Nat) H, i < n → Ex H1 H → tmE te ((wipe σ vs).set j (some (.int (lo + (i : Nat) * c)))) H fun y H4 => Ex H H4 ∧ R i y H4)
    (hd : LcEnd H1 Dd n R Q) : LcW (Itc lo c n) (gName j) tYes (tmE te) vs σ H1 Dd Q :=
  lc_it (Qd := fun H => Q (.ref Dd) H) walk_rangeC (LcJ H1 Dd R) (lcJ_start hD) (fun i H _ _ => trivial) (fun i v H H' hi p y => by
    obtain ⟨e1, e2⟩ := y
    subst e1 e2
    obtain ⟨acc, q1, q2, q3, q4⟩ := id p
    refine ⟨hw _, ?_⟩
    obtain ⟨R0, z1, z2⟩ := hs i _ hi q3
    exact ⟨R0, z1, fun y H4 r0 => lcJ_turn hR hD p (z2 y H4 r0).1 (z2 y H4 r0).2 (by omega)⟩)
    fun H ⟨acc, q1, q2, q3, q4⟩ => hd H acc q3 q1 q2 q4
end

/-! len, bool, str, repr by a class's own methods -/
open PySem.Builtin PySem.Builtin.Str
/-- C's own special method `name` is the def at f -/
def OwnSp (K : PySem.W.Frag) (C : Addr) (name : Str) (f : Addr) : Prop := ∃ (N : Addr) (of : Obj) (nm q : Str) (bs : List Value) (hdct : Bool) (sn : List Str) (sub : List Value) (ab : Bool) (col : Option Bool) (dd : Option Addr) (k0 k1 k2 k3 k5 : Option Value) (newId : String),
  K.lookup C = some (excClassObj nm q C N bs [.type "object"] hdct sn sub ab col dd k0 k1 k2 k3 k5 newId) ∧ PySem.W.nsOkIn K N = true ∧ PySem.W.nsIn K N name = some (some (.ref f)) ∧ K.lookup f = some of ∧ of.cls = .type "function"
/-- C has no special method `name` -/
def NoSp (K : PySem.W.Frag) (C : Addr) (name : Str) : Prop := ∃ (N : Addr) (nm q : Str) (bs : List Value) (hdct : Bool) (sn : List Str) (sub : List Value) (ab : Bool) (col : Option Bool) (dd : Option Addr) (k0 k1 k2 k3 k5 : Option Value) (newId : String),
  K.lookup C = some (excClassObj nm q C N bs [.type "object"] hdct sn sub ab col dd k0 k1 k2 k3 k5 newId) ∧ PySem.W.nsOkIn K N = true ∧ PySem.W.nsIn K N name = some none
theorem ns_some2 {K : PySem.W.Frag} {h : Heap} {N : Addr} {m : Str → Option Value} {n : Str} {v : Value} (X : K.In h) (G : h.Ns N m) (e : PySem.W.nsIn K N n = some (some v)) : m n = some v := by
  obtain ⟨o, es, ep, ho, hd, ok, hf⟩ := G
  unfold PySem.W.nsIn at e
  split at e
  · rename_i q
    have z := X _ _ q
    rw [ho] at z
    cases z
    cases hd
    split at e
    · rename_i en hen
      cases e
      rw [← hf]
      unfold nsFind findBy
      rw [← Array.find?_toList, hen]
      rfl
    · split at e <;> cases e
  · cases e
theorem OwnSp.at {K : PySem.W.Frag} {C f a : Addr} {name : Str} {hp : Heap} {o : Obj} {y : Option Value} (S : OwnSp K C name f) (KI : K.In hp) (ha : hp.get? a = some o) (hc : o.cls = .ref C) (hB : typeLookup (.type "object") name = pure y) : hp.OwnSpecial a C f "object" name := by
  obtain ⟨N, of, nm, q, bs, hdct, sn, sub, ab, col, dd, k0, k1, k2, k3, k5, newId, lC, okN, n1, lf, cf⟩ := S
  have hns : hp.Ns N (hp.nsMap N) := .of_isNs (PySem.W.isNs_of_in KI okN)
  exact ⟨o, of, nm, q, N, bs, _, hdct, sn, sub, ab, col, dd, k0, k1, k2, k3, k5, newId, _, y, ha, hc, KI _ _ lC, hns, ns_some2 KI hns n1, KI _ _ lf, cf, PySem.F.cmp_object.mro, hB⟩
theorem obj_len : typeLookup (.type "object") "__len__" = pure none := by rw [typeLookup_type, builtinLookup_eq_fast]; kernel_rfl
theorem obj_bool : typeLookup (.type "object") "__bool__" = pure none := by rw [typeLookup_type, builtinLookup_eq_fast]; kernel_rfl
theorem obj_str : typeLookup (.type "object") "__str__" = pure (some (.builtin "object.__str__")) := by rw [typeLookup_type, builtinLookup_eq_fast]; kernel_rfl
theorem obj_repr : typeLookup (.type "object") "__repr__" = pure (some (.builtin "object.__repr__")) := by rw [typeLookup_type, builtinLookup_eq_fast]; kernel_rfl
section
variable {prog : Program} {w : World} {A : Around} {E : Value → Shared → Prop} {h : Heap} {g : Array GenState} {d : Drawn} {t : Nat} {os : OsState} {C x f : Addr} {B : String}
theorem str_own {Q : Value → Shared → Prop} (X : h.OwnSpecial x C f B "__str__") (hu : A.in1.in1.units < cLine)
    (hcall : wpAny (model prog w) A.in1.in1 (call (.ref f) [.ref x]) (fun r s' => ∃ m tk, r = .str m tk ∧ Q (.str m tk) s') E ⟨h, g, d, t, os⟩) :
    wpAny (model prog w) A (call (.type "str") [.ref x]) Q E ⟨h, g, d, t, os⟩ := by
  refine callType_newIn (S := fun A' R s => wpAny (model prog w) A'.in1 (Builtin.Str.strOf (.ref x)) (fun r s' => R (.ok (.ret r)) s') (fun e s' => R (.error e) s') s) F.called_str (by decide) (F.typeCall_str_1 _) (F.newCall_str_1 _) (fun obj => F.args_object_init_2 obj _) F.entry_str_new ?_ ?_
  · intro A' R s hs
    rw [str_new_tree (.ref x)]
    refine wpAny_bind (wpAny_pure ?_)
    refine wpAny_bind (wpAny_of_eq isSubtype_str_str ?_)
    exact wpAny_bind (wpAny_mono hs (fun r s' h' => wpAny_pure h') fun _ _ e => e)
  · unfold Builtin.Str.strOf
    rw [if_neg (by simp [isExactStr])]
    refine wpAny_bind (wpAny_cRoomFor hu ?_)
    refine wpAny_bind (m := callSpecial? (.ref x) (Str.ofString "__str__")) (wpAny_callSpecial?_own X (wpAny_mono hcall (fun r s' hr => ?_) fun _ _ y => y))
    obtain ⟨m, tk, rfl, hq⟩ := hr
    refine wpAny_bind (wpAny_pure ?_)
    exact wpAny_pure ⟨typeIs_str _ _ _, hq⟩
theorem special_none {M : Model} {name : Str} {K : PySem.W.Frag} {o : Obj} {Q : Option Value → Shared → Prop} (S : NoSp K C name) (KI : K.In h) (ha : h.get? x = some o) (hc : o.cls = .ref C) (hB : typeLookup (.type "object") name = pure none) (hq : Q none ⟨h, g, d, t, os⟩) :
    wpAny M A (specialOf (.ref x) name) Q E ⟨h, g, d, t, os⟩ := by
  obtain ⟨N, nm, q, bs, hdct, sn, sub, ab, col, dd, k0, k1, k2, k3, k5, newId, lC, okN, n1⟩ := S
  have hns : h.Ns N (h.nsMap N) := .of_isNs (PySem.W.isNs_of_in KI okN)
  have hf := PySem.W.ns_none_of KI hns n1
  have hC := KI _ _ lC
  unfold specialOf
  repeat (first | (with_reducible refine wpAny_loadPart_at ha ?_; rw [hc]) | (with_reducible refine wpAny_typeLookup_exc hC hns PySem.F.cmp_object.mro hB ?_; rw [hf]) | wp_step)
  exact hq
theorem callSpecial_none {M : Model} {name : Str} {args : List Value} {K : PySem.W.Frag} {o : Obj} {Q : Option Value → Shared → Prop} (S : NoSp K C name) (KI : K.In h) (ha : h.get? x = some o) (hc : o.cls = .ref C) (hB : typeLookup (.type "object") name = pure none) (hq : Q none ⟨h, g, d, t, os⟩) :
    wpAny M A (callSpecial? (.ref x) name args) Q E ⟨h, g, d, t, os⟩ := by
  unfold callSpecial?
  refine wpAny_bind (special_none S KI ha hc hB ?_)
  exact wpAny_pure hq
theorem truthy_ownlen {K : PySem.W.Frag} {o : Obj} {Q : Bool → Shared → Prop} (S : NoSp K C "__bool__") (KI : K.In h) (ha : h.get? x = some o) (hc : o.cls = .ref C) (X : h.OwnSpecial x C f B "__len__")
    (hcall : wpAny (model prog w) A.in1 (call (.ref f) [.ref x]) (fun r s' => ∃ n u, r = .int n u ∧ 0 ≤ n ∧ n < 2 ^ 63 ∧ Q (n != 0) { s' with toks := s'.toks + 1 }) E ⟨h, g, d, t, os⟩) :
    wpAny (model prog w) A (truthy (.ref x)) Q E ⟨h, g, d, t, os⟩ := by
  have key : wpAny (model prog w) A (runValue (.builtin "len" ⟨[.ref x], []⟩)) (fun r s' => ∃ n u, r = .int n u ∧ Q (n != 0) s') E ⟨h, g, d, t, os⟩ := by
    refine wpAny_runValue (codeAny_builtin entry_len ?_)
    rw [Around.under_plainId plain_len _]
    unfold Builtin.«len»
    refine wpAny_bind (m := oneArg "len" _) (wpAny_pure ?_)
    refine wpAny_bind (m := callSpecial? (.ref x) (Str.ofString "__len__")) (wpAny_callSpecial?_own X (wpAny_mono hcall (fun r s' hr => ?_) fun _ _ y => y))
    obtain ⟨n, u, rfl, h0, h1, hq⟩ := hr
    refine wpAny_bind (wpAny_holding (wpAny_pure ?_))
    refine wpAny_bind (wpAny_letGo ?_)
    show wpAny _ _ (if n < 0 then _ else _) _ _ _
    rw [if_neg (by omega)]
    show wpAny _ _ (if n ≥ 2 ^ 63 then _ else _) _ _ _
    rw [if_neg (by omega)]
    exact wpAny_bind (wpAny_mkInt (wpAny_pure ⟨n, _, rfl, hq⟩))
  unfold truthy
  first
    | refine wpAny_bind (m := callSpecial? (.ref x) (Str.ofString "__bool__")) (callSpecial_none S KI ha hc obj_bool ?_)
    | (refine wpAny_bind (wpAny_pure ?_); refine wpAny_bind (m := callSpecial? (.ref x) (Str.ofString "__bool__")) (callSpecial_none S KI ha hc obj_bool ?_))
  first
    | refine wpAny_bind (wpAny_specialOf_own X ?_)
    | (refine wpAny_bind (wpAny_pure ?_); refine wpAny_bind (wpAny_specialOf_own X ?_))
  first
    | exact wpAny_bind (wpAny_mono key (fun r s' h' => by obtain ⟨n, u, rfl, hq⟩ := h'; exact wpAny_pure hq) fun _ _ e => e)
    | exact wpAny_bind (wpAny_pure (wpAny_bind (wpAny_mono key (fun r s' h' => by obtain ⟨n, u, rfl, hq⟩ := h'; exact wpAny_pure hq) fun _ _ e => e)))
theorem bool_own {Q : Value → Shared → Prop} (ht : wpAny (model prog w) A.in1.in1 (truthy (.ref x)) (fun b s' => Q (.bool b) s') E ⟨h, g, d, t, os⟩) :
    wpAny (model prog w) A (call (.type "bool") [.ref x]) Q E ⟨h, g, d, t, os⟩ := by
  refine callType_newIn (S := fun A' R s => wpAny (model prog w) A'.in1 (truthy (.ref x)) (fun b s' => R (.ok (.ret (.bool b))) s') (fun e s' => R (.error e) s') s) F.called_bool F.newNe_bool (F.typeCall_bool_1 _) (F.newCall_bool_1 _) (fun obj => F.args_object_init_2 obj _) F.entry_bool_new ?_ ?_
  · intro A' R s hs
    have f1 := F.conv_sub_bool
    unfold Builtin.«bool.__new__»
    refine wpAny_bind (wpAny_pure ?_)
    refine wpAny_bind (wpAny_of_eq f1 ?_)
    refine wpAny_bind (wpAny_pure ?_)
    exact wpAny_bind (wpAny_mono hs (fun b s' h' => wpAny_pure h') fun _ _ e => e)
  · exact wpAny_mono ht (fun b s' hq => ⟨PySem.typeIs_bool _ _, hq⟩) fun _ _ e => e
end

/-! == and != of an own instance and a value of another kind -/
open PySem.Builtin AutoSeq1 MeetsSeq
/-- x is an instance of the class whose object says: bases of its order bm -/
def InsAt (h : Heap) (x C : Addr) (bm : List Value) : Prop := ∃ (o : Obj) (nm q : Str) (N : Addr) (bs : List Value) (hdct : Bool) (sn : List Str) (sub : List Value) (ab : Bool) (col : Option Bool) (dd : Option Addr) (k0 k1 k2 k3 k5 : Option Value) (newId : String),
  h.get? x = some o ∧ o.cls = .ref C ∧ o.data = .plain ∧ h.get? C = some (excClassObj nm q C N bs bm hdct sn sub ab col dd k0 k1 k2 k3 k5 newId)
local macro_rules | `(tactic| walk_at "noins") => `(tactic| (
  intro prog w A R s h
  obtain ⟨hp, g, d, tk, os⟩ := s
  obtain ⟨⟨o, nm, q, N, bs, hdct, sn, sub, ab, col, dd, k0, k1, k2, k3, k5, newId, hx, hc, hd, hC⟩, h⟩ := h
  obtain ⟨oc, od, odt, osl⟩ := o
  cases hc
  cases hd
  wp_walk using wpAny_loadPart' hx, wpAny_load hx, wpAny_isSubtype_exc hC
  first | exact h | exact ⟨_, rfl, h⟩))
abbrev DeclI (B : Builtin) (v : Value) : Prop := ∀ (l C : Addr), Meets (B ⟨[v, .ref l], []⟩) (fun _ R s => InsAt s.heap l C [.type "object"] ∧ R (.ok (.ret .notImplemented)) s)
theorem str_eq_ins (x : Str) (t : Tok) : DeclI Builtin.«str.__eq__» (.str x t) := fun l C => by walk_at "noins"
theorem str_ne_ins (x : Str) (t : Tok) : DeclI Builtin.«str.__ne__» (.str x t) := fun l C => by walk_at "noins"
theorem int_eq_ins (i : Int) (t : Tok) : DeclI Builtin.«int.__eq__» (.int i t) := fun l C => by walk_at "noins"
theorem int_ne_ins (i : Int) (t : Tok) : DeclI Builtin.«int.__ne__» (.int i t) := fun l C => by walk_at "noins"
theorem bool_eq_ins (b : Bool) : DeclI Builtin.«int.__eq__» (.bool b) := fun l C => by walk_at "noins"
theorem bool_ne_ins (b : Bool) : DeclI Builtin.«int.__ne__» (.bool b) := fun l C => by walk_at "noins"
theorem none_eq_ins : DeclI Builtin.«NoneType.__eq__» .none := fun l C => by walk_at "noins"
theorem none_ne_ins : DeclI Builtin.«NoneType.__ne__» .none := fun l C => by walk_at "noins"
local macro_rules | `(tactic| walk_at "noins2") => `(tactic| (
  intro prog w A R s h
  obtain ⟨hp, g, d, tk, os⟩ := s
  obtain ⟨hl, ⟨o, nm, q, N, bs, hdct, sn, sub, ab, col, dd, k0, k1, k2, k3, k5, newId, hx, hc, hd, hC⟩, h⟩ := h
  obtain ⟨oc, od, odt, osl⟩ := o
  cases hc
  cases hd
  wp_walk using wpAny_loadPart' hl, wpAny_loadPart' hx, wpAny_load hx, wpAny_isSubtype_exc hC
  first | exact h | exact ⟨_, rfl, h⟩))
abbrev DeclS (B : Builtin) (T : String) : Prop := ∀ (a l C : Addr) (items : Array Value) (n : Nat) (dd : Option Addr) (sl : Array (Option Value)),
  Meets (B ⟨[.ref a, .ref l], []⟩) (fun _ R s => s.heap.get? a = some { cls := .type T, dict := dd, data := .seq items n, slots := sl } ∧ InsAt s.heap l C [.type "object"] ∧ R (.ok (.ret .notImplemented)) s)
theorem list_eq_ins : DeclS Builtin.«list.__eq__» "list" := fun a l C items n dd sl => by walk_at "noins2"
theorem list_ne_ins : DeclS Builtin.«list.__ne__» "list" := fun a l C items n dd sl => by walk_at "noins2"
theorem tuple_eq_ins : DeclS Builtin.«tuple.__eq__» "tuple" := fun a l C items n dd sl => by walk_at "noins2"
theorem tuple_ne_ins : DeclS Builtin.«tuple.__ne__» "tuple" := fun a l C items n dd sl => by walk_at "noins2"
abbrev DeclD (B : Builtin) : Prop := ∀ (a l C : Addr) (es : Array DictEntry) (n : Nat) (dd : Option Addr) (sl : Array (Option Value)),
  Meets (B ⟨[.ref a, .ref l], []⟩) (fun _ R s => s.heap.get? a = some { cls := .type "dict", dict := dd, data := .dict es n, slots := sl } ∧ InsAt s.heap l C [.type "object"] ∧ R (.ok (.ret .notImplemented)) s)
theorem dict_eq_ins : DeclD Builtin.«dict.__eq__» := fun a l C items n dd sl => by walk_at "noins2"
theorem dict_ne_ins : DeclD Builtin.«dict.__ne__» := fun a l C items n dd sl => by walk_at "noins2"

/-! == and != of an own instance and a value of another kind: the rule -/
open PySem.Builtin
/-- what a value of another kind gives when it is compared -/
structure OddC (s : Shared) (u : Value) (T : String) : Prop where
  ty : s.TypeIs u T
  sub : ∀ C : Addr, isSubtype (.type T) (.ref C) = pure false
  top : ([Value.type "object"] : List Value).contains (.type T) = false
  eq : ∀ (prog : Program) (w : World) (A : Around) (E : Value → Shared → Prop) (Q : Option Value → Shared → Prop) (x C : Addr), InsAt s.heap x C [.type "object"] → Q none s → wpAny (model prog w) A (tryCompare u "__eq__" (.ref x)) Q E s
  ne : ∀ (prog : Program) (w : World) (A : Around) (E : Value → Shared → Prop) (Q : Option Value → Shared → Prop) (x C : Addr), InsAt s.heap x C [.type "object"] → Q none s → wpAny (model prog w) A (tryCompare u "__ne__" (.ref x)) Q E s
theorem odd_str (s : Shared) (x : Str) (t : Tok) : OddC s (.str x t) "str" := ⟨typeIs_str s x t, fun C => by rw [isSubtype_type]; kernel_rfl, by decide +kernel,
  fun prog w A E Q l C h q => wpAny_tryCompare_declines (typeIs_str s x t) F.slot_str_eq (call_meets F.slot_str_eq (typeIs_str s x t) F.entry_str_eq (F.args_str_eq_2 _ _) (str_eq_ins x t l C) ⟨h, rfl, q⟩),
  fun prog w A E Q l C h q => wpAny_tryCompare_declines (typeIs_str s x t) F.slot_str_ne (call_meets F.slot_str_ne (typeIs_str s x t) F.entry_str_ne (F.args_str_ne_2 _ _) (str_ne_ins x t l C) ⟨h, rfl, q⟩)⟩
theorem odd_int (s : Shared) (x : Int) (t : Tok) : OddC s (.int x t) "int" := ⟨typeIs_int s x t, fun C => by rw [isSubtype_type]; kernel_rfl, by decide +kernel,
  fun prog w A E Q l C h q => wpAny_tryCompare_declines (typeIs_int s x t) F.slot_int_eq (call_meets F.slot_int_eq (typeIs_int s x t) F.entry_int_eq (F.args_int_eq_2 _ _) (int_eq_ins x t l C) ⟨h, rfl, q⟩),
  fun prog w A E Q l C h q => wpAny_tryCompare_declines (typeIs_int s x t) F.slot_int_ne (call_meets F.slot_int_ne (typeIs_int s x t) F.entry_int_ne (F.args_int_ne_2 _ _) (int_ne_ins x t l C) ⟨h, rfl, q⟩)⟩
theorem odd_bool (s : Shared) (b : Bool) : OddC s (.bool b) "bool" := ⟨rfl, fun C => by rw [isSubtype_type]; kernel_rfl, by decide +kernel,
  fun prog w A E Q l C h q => wpAny_tryCompare_declines rfl F.slot_bool_eq (call_meets F.slot_bool_eq rfl F.entry_int_eq (F.args_int_eq_2 _ _) (bool_eq_ins b l C) ⟨h, rfl, q⟩),
  fun prog w A E Q l C h q => wpAny_tryCompare_declines rfl F.slot_bool_ne (call_meets F.slot_bool_ne rfl F.entry_int_ne (F.args_int_ne_2 _ _) (bool_ne_ins b l C) ⟨h, rfl, q⟩)⟩
theorem odd_none (s : Shared) : OddC s .none "NoneType" := ⟨rfl, fun C => by rw [isSubtype_type]; kernel_rfl, by decide +kernel,
  fun prog w A E Q l C h q => wpAny_tryCompare_declines rfl F.slot_NoneType_eq (call_meets F.slot_NoneType_eq rfl F.entry_NoneType_eq (F.args_NoneType_eq_2 _ _) (none_eq_ins l C) ⟨h, rfl, q⟩),
  fun prog w A E Q l C h q => wpAny_tryCompare_declines rfl F.slot_NoneType_ne (call_meets F.slot_NoneType_ne rfl F.entry_NoneType_ne (F.args_NoneType_ne_2 _ _) (none_ne_ins l C) ⟨h, rfl, q⟩)⟩
theorem odd_list (s : Shared) (a : Addr) {dd : Option Addr} {its : Array Value} {n : Nat} {sl : Array (Option Value)} (ho : s.heap.get? a = some { cls := .type "list", dict := dd, data := .seq its n, slots := sl }) : OddC s (.ref a) "list" := by
  have ty : s.TypeIs (.ref a) "list" := ⟨_, ho, rfl⟩
  exact ⟨ty, fun C => by rw [isSubtype_type]; kernel_rfl, by decide +kernel,
    fun prog w A E Q l C h q => wpAny_tryCompare_declines ty F.slot_list_eq (call_meets F.slot_list_eq ty F.entry_list_eq (F.args_list_eq_2 _ _) (list_eq_ins a l C _ _ _ _) ⟨ho, h, rfl, q⟩),
    fun prog w A E Q l C h q => wpAny_tryCompare_declines ty F.slot_list_ne (call_meets F.slot_list_ne ty F.entry_list_ne (F.args_list_ne_2 _ _) (list_ne_ins a l C _ _ _ _) ⟨ho, h, rfl, q⟩)⟩
theorem odd_tuple (s : Shared) (a : Addr) {dd : Option Addr} {its : Array Value} {n : Nat} {sl : Array (Option Value)} (ho : s.heap.get? a = some { cls := .type "tuple", dict := dd, data := .seq its n, slots := sl }) : OddC s (.ref a) "tuple" := by
  have ty : s.TypeIs (.ref a) "tuple" := ⟨_, ho, rfl⟩
  exact ⟨ty, fun C => by rw [isSubtype_type]; kernel_rfl, by decide +kernel,
    fun prog w A E Q l C h q => wpAny_tryCompare_declines ty F.slot_tuple_eq (call_meets F.slot_tuple_eq ty F.entry_tuple_eq (F.args_tuple_eq_2 _ _) (tuple_eq_ins a l C _ _ _ _) ⟨ho, h, rfl, q⟩),
    fun prog w A E Q l C h q => wpAny_tryCompare_declines ty F.slot_tuple_ne (call_meets F.slot_tuple_ne ty F.entry_tuple_ne (F.args_tuple_ne_2 _ _) (tuple_ne_ins a l C _ _ _ _) ⟨ho, h, rfl, q⟩)⟩
theorem odd_dict (s : Shared) (a : Addr) {dd : Option Addr} {es : Array DictEntry} {n : Nat} {sl : Array (Option Value)} (ho : s.heap.get? a = some { cls := .type "dict", dict := dd, data := .dict es n, slots := sl }) : OddC s (.ref a) "dict" := by
  have ty : s.TypeIs (.ref a) "dict" := ⟨_, ho, rfl⟩
  exact ⟨ty, fun C => by rw [isSubtype_type]; kernel_rfl, by decide +kernel,
    fun prog w A E Q l C h q => wpAny_tryCompare_declines ty F.slot_dict_eq (call_meets F.slot_dict_eq ty F.entry_dict_eq (F.args_dict_eq_2 _ _) (dict_eq_ins a l C _ _ _ _) ⟨ho, h, rfl, q⟩),
    fun prog w A E Q l C h q => wpAny_tryCompare_declines ty F.slot_dict_ne (call_meets F.slot_dict_ne ty F.entry_dict_ne (F.args_dict_ne_2 _ _) (dict_ne_ins a l C _ _ _ _) ⟨ho, h, rfl, q⟩)⟩

/-! == and != of an own instance and a value of another kind, both ways round -/
open PySem.Builtin
section
variable {prog : Program} {w : World} {A : Around} {E : Value → Shared → Prop} {h : Heap} {g : Array GenState} {d : Drawn} {t : Nat} {os : OsState} {C x f : Addr} {v : Value} {T : String}
theorem try_eq_own {B : String} {Q : Option Value → Shared → Prop} (X : h.OwnSpecial x C f B "__eq__")
    (hc : wpAny (model prog w) A (call (.ref f) [.ref x, v]) (fun r s' => ∃ b, r = .bool b ∧ Q (some (.bool b)) s') E ⟨h, g, d, t, os⟩) : wpAny (model prog w) A (tryCompare (.ref x) "__eq__" v) Q E ⟨h, g, d, t, os⟩ := by
  unfold tryCompare
  refine wpAny_bind (wpAny_callSpecialIfBound?_own X (wpAny_mono hc (fun r s' hr => ?_) fun _ _ z => z))
  obtain ⟨b, rfl, q⟩ := hr
  exact wpAny_pure q
theorem obj_ne_own {B : String} {bm : List Value} (X : h.OwnEqNoNe x C f B bm) (hu : A.units < cLine) {Q : Fin → Shared → Prop}
    (hc : wpAny (model prog w) A (call (.ref f) [.ref x, v]) (fun u s' => ∃ b, u = .bool b ∧ Q (.done (.ret (.bool (!b)))) s') E ⟨h, g, d, t, os⟩) :
    wpAny (model prog w) A (Builtin.«object.__ne__» ⟨[.ref x, v], []⟩) Q E ⟨h, g, d, t, os⟩ := by
  unfold Builtin.«object.__ne__»
  repeat (first
    | with_reducible refine wpAny_cRoomFor hu ?_
    | (refine wpAny_bind (m := callSpecialIfBound? (.ref x) (Str.ofString "__eq__") [v]) (wpAny_callSpecialIfBound?_own X.ownEq (wpAny_mono hc (fun r s' hr => by
          obtain ⟨b, rfl, q⟩ := hr
          repeat (first | exact q | exact wpAny_pure q | exact wpAny_truthy_bool q | (refine wpAny_bind (m := truthy (.bool _)) (wpAny_truthy_bool ?_)) | wp_step)) fun _ _ z => z)))
    | wp_step)
theorem try_ne_own {B : String} {bm : List Value} (FB : CmpFacts B bm) (X : h.OwnEqNoNe x C f B bm) (hu : A.units + 1 < cLine) {Q : Option Value → Shared → Prop}
    (hc : wpAny (model prog w) A.in1 (call (.ref f) [.ref x, v]) (fun r s' => ∃ b, r = .bool b ∧ Q (some (.bool (!b))) s') E ⟨h, g, d, t, os⟩) : wpAny (model prog w) A (tryCompare (.ref x) "__ne__" v) Q E ⟨h, g, d, t, os⟩ := by
  obtain ⟨o, of, nm, q, N, bs, hdct, sn, sub, ab, col, dd, k0, k1, k2, k3, k5, newId, mN, yv, hx, ho, hC, hn, _, _, _, _, _, hne⟩ := id X
  unfold tryCompare
  have e0 : wpAny (model prog w) A.in1 (Builtin.«object.__ne__» ⟨[.ref x, v], []⟩) (fun fin s' => ∃ b, fin = .done (.ret (.bool b)) ∧ Q (some (.bool b)) s') E ⟨h, g, d, t, os⟩ :=
    obj_ne_own (A := A.in1) X hu (wpAny_mono hc (fun r s' hr => let ⟨b, e, q⟩ := hr; ⟨b, e, _, rfl, q⟩) fun _ _ z => z)
  refine wpAny_bind (wpAny_callSpecialIfBound?_inst hx ho hC hn hne FB.mro FB.ne ?_)
  refine wpAny_call (codeAny_call_builtin FB.ne.plain F.cmpEntry_ne ?_)
  refine wpAny_check_slot_inst F.cmpKind_ne F.cmpSplit_ne (F.cmpArgs_ne _ _) FB.hasObject hx ho hC ?_
  refine wpAny_mono e0 (fun fin s' hf => ?_) fun _ _ z => z
  obtain ⟨b, rfl, q⟩ := hf
  exact wpAny_pure q
theorem rich_row_odd {op : CmpOp} {sym : String} {n r : Str} {Q : Value → Shared → Prop} (hop : cmpInfo op = (sym, n, r)) (S : InsAt h x C [.type "object"]) (O : OddC ⟨h, g, d, t, os⟩ v T) (hu : A.units < cLine)
    (ht : wpAny (model prog w) A (tryCompare (.ref x) n v) (fun z s' => ∃ y, z = some y ∧ Q y s') E ⟨h, g, d, t, os⟩) : wpAny (model prog w) A (richCompare op (.ref x) v) Q E ⟨h, g, d, t, os⟩ := by
  obtain ⟨o, nm, q, N, bs, hdct, sn, sub, ab, col, dd, k0, k1, k2, k3, k5, newId, hx, hc, hd, hC⟩ := S
  unfold richCompare
  simp only [oneThing_ref]
  refine wpAny_holding (wpAny_bind (wpAny_cRoomFor hu ?_))
  rw [hop]
  dsimp only
  refine wpAny_bind (wpAny_typeOf_ref hx ?_)
  rw [hc]
  refine wpAny_bind (wpAny_typeOf O.ty ?_)
  rw [show (Value.ref C != Value.type T) = true by simp]
  simp only [if_true]
  refine wpAny_bind (wpAny_of_eq (O.sub C) ?_)
  simp only [Bool.false_eq_true, if_false]
  refine wpAny_bind (wpAny_mono ht (fun z s' hz => ?_) fun _ _ e => e)
  obtain ⟨y, rfl, q⟩ := hz
  exact wpAny_pure q
theorem rich_odd_row {op : CmpOp} {sym : String} {n r : Str} {Q : Value → Shared → Prop} (hop : cmpInfo op = (sym, n, r)) (S : InsAt h x C [.type "object"]) (O : OddC ⟨h, g, d, t, os⟩ v T) (hu : A.units < cLine)
    (hn : ∀ Q' : Option Value → Shared → Prop, Q' none ⟨h, g, d, t, os⟩ → wpAny (model prog w) A (tryCompare v n (.ref x)) Q' E ⟨h, g, d, t, os⟩)
    (ht : wpAny (model prog w) A (tryCompare (.ref x) r v) (fun z s' => ∃ y, z = some y ∧ Q y s') E ⟨h, g, d, t, os⟩) : wpAny (model prog w) A (richCompare op v (.ref x)) Q E ⟨h, g, d, t, os⟩ := by
  obtain ⟨o, nm, q, N, bs, hdct, sn, sub, ab, col, dd, k0, k1, k2, k3, k5, newId, hx, hc, hd, hC⟩ := S
  simp only [richCompare, hop, O.ty.oneThing_none]
  refine wpAny_holding (wpAny_bind (wpAny_cRoomFor hu ?_))
  refine wpAny_bind (wpAny_typeOf O.ty (wpAny_bind (wpAny_typeOf_ref hx ?_)))
  rw [hc, show (Value.type T != Value.ref C) = true by simp]
  simp only [if_true]
  refine wpAny_bind (wpAny_isSubtype_exc hC ?_)
  have e : ((Value.ref C :: [Value.type "object"]).contains (.type T)) = false := by
    rw [List.contains_cons, O.top, Bool.or_false]
    simp
  rw [e]
  simp only [Bool.false_eq_true, if_false, Bool.not_false, if_true]
  refine wpAny_bind (hn _ ?_)
  refine wpAny_bind (wpAny_mono ht (fun z s' hz => ?_) fun _ _ e => e)
  obtain ⟨y, rfl, q⟩ := hz
  exact wpAny_pure q
end
section
variable {X : Cx} {K : PySem.W.Frag}
/-- t + u of two tuples, an empty one among them too -/
def rCatTN (K : PySem.W.Frag) : R2 := fun x y H Q => ∃ a b xs ys, x = .ref a ∧ y = .ref b ∧ SqT K H a xs ∧ SqT K H b ys ∧ xs.length + ys.length ≤ sizeLine ∧
  ∀ p H', Ex H H' → SqT K H' p (xs ++ ys) → Q (.ref p) H'
theorem op_catTN (h : X.K = K := by rfl) : OpR X (binaryOp .Add) (rCatTN K) := by
  subst h
  exact OpR.imp op_catA fun x y H Q ⟨a, b, xs, ys, e1, e2, h1, h2, z, n⟩ => ⟨a, b, xs, ys, e1, e2, h1, h2, z,
    fun q => n b H (Ex.refl H) (by rw [q]; exact h2), fun _ q => n a H (Ex.refl H) (by rw [q, List.append_nil]; exact h1), fun _ _ p hp => n p _ (Ex.new hp) (.of upd_same)⟩
end

/-! an own exception's __init__: super().__init__(text), then self.field = argument -/
/-- where such a def runs -/
def cxI (P : Program) (w : World) (K : PySem.W.Frag) (mg : Str → Option Value) (base : Heap) (qual : Str) (scope : Scope) (f : Addr) (cd : Value) (cc : Addr) (pn : Str) (A : Around) (outer : List Env) (s : Shared) (H : Hp) (E : XK) : Cx :=
  { cxOf CX0 P w K mg base ["self", pn] qual scope f cd A outer s H E with
    env := PySem.W.envX qual scope s.heap.objs.size f cd [("__class__", cc)]
    A := A.deeper (PySem.W.envX qual scope s.heap.objs.size f cd [("__class__", cc)])
    stack := PySem.W.envX qual scope s.heap.objs.size f cd [("__class__", cc)] :: outer
    fn := fun _ => false
    xe := fun e s' => wpAny (model P w) (A.deeper (PySem.W.envX qual scope s.heap.objs.size f cd [("__class__", cc)])) (leaving (PySem.W.envX qual scope s.heap.objs.size f cd [("__class__", cc)]) e) (fun _ s'' => CX0 outer H s E e s'') (fun e' s'' => CX0 outer H s E e' s'') s' }
/-- the names of such a def -/
structure IScope (pn : Str) (scope : Scope) : Prop where
  kind : scope.kind = .function
  self : scope.names.lookup ("self" : Str) = some .local
  arg : scope.names.lookup pn = some .local
  sup : scope.names.lookup ("super" : Str) = some .globalImplicit
  cls : scope.names.lookup ("__class__" : Str) = some .free
  nocell : ∀ x ∈ scope.names, x.2 ≠ .cell
  free : ∀ x ∈ scope.names, x.2 = .free → x.1 = "__class__"
  ne : (pn == ("self" : Str)) = false
  nd : (pn == ("__debug__" : Str)) = false
  ncd : (pn == ("__classdict__" : Str)) = false
theorem inv_startI {P : Program} {w : World} {K : PySem.W.Frag} {mg : Str → Option Value} {base : Heap} {qual pn : Str} {scope : Scope} {f cc D : Addr} {cd cl : Value} {cld : Option Addr} {csl : Array (Option Value)} {A : Around} {outer : List Env} {s : Shared} {H : Hp} {E : XK} {x y : V} {u v : Value} {h₁ : Heap} {tk : Nat}
    (S : IScope pn scope) (hd : A.handled = none) (e0 : Env0 P w K mg base A outer s H) (rx : RelV x u) (ry : RelV y v) (hcc : K.lookup cc = some ⟨cl, cld, .cell (some (.ref D)), csl⟩)
    (hns : h₁.Ns s.heap.objs.size fun z => ((["self", pn] : List Str).zip [u, v]).reverse.lookup z) (kp : ∀ b o, s.heap.get? b = some o → h₁.get? b = some o) :
    Inv (cxI P w K mg base qual scope f cd cc pn A outer s H E) [] [some x, some y] H { s with heap := h₁, toks := tk } := by
  have hb := e0.bs cc _ (e0.mod.kin _ _ hcc)
  have cells : ∀ {z c}, List.lookup z [(("__class__" : Str), cc)] = some c → z = "__class__" ∧ c = cc := fun {z c} h => by
    simp only [List.lookup] at h
    split at h
    · rename_i e
      exact ⟨by simpa using e, (Option.some.inj h).symm⟩
    · cases h
  have noA : ∀ b : Addr, b ∉ (cxI P w K mg base qual scope f cd cc pn A outer s H E).ex := fun b z => absurd (show b ∈ ([] : List Addr) from z) (by simp)
  refine ⟨⟨e0.mod, S.kind, rfl, rfl, Nat.le_refl _, fun y z c h1 h2 => ?_, fun y hy => ?_, fun y c z _ => ?_, fun _ => hd, Around.frames_deeper e0.frames, .inr ⟨rfl, rfl⟩, fun b z => absurd z (noA b), e0.bs, e0.bsz, fun b _ _ => noA b, fun b z => absurd z (noA b), e0.funs, e0.frf⟩,
    rfl, e0.bare, Un.kept kp, ⟨_, hns, fun i z v2 h1 h2 h3 => ?_⟩, fun z c h => ?_, e0.hok.fresh (Nat.le_refl _), fun z c h => ?_, fun p hp => absurd (show p ∈ ([] : List (Addr × Obj)) from hp) (by simp), e0.hok.kept kp, rfl⟩
  · rw [(cells h1).1, (cells h2).1]
  · have hy : scope.names.lookup y = some .cell ∨ scope.names.lookup y = some .free := hy
    rcases hy with hy | hy
    · exact absurd rfl (S.nocell _ (PySem.mem_of_lookup hy))
    · have := S.free _ (PySem.mem_of_lookup hy) rfl
      have : y = "__class__" := this
      subst this
      exact ⟨cc, by simp [cxI]⟩
  · cases (show false = true from z)
  · have hv : Vis scope z := h3
    have e2 : ((pn : Str) == ("self" : Str)) = false := S.ne
    match i, h1, h2 with
    | 0, h1, h2 =>
      cases h1
      cases h2
      refine ⟨u, rx, .inl ⟨S.self, ?_⟩⟩
      have e3 : (("self" : Str) == pn) = false := by
        rw [beq_eq_false_iff_ne] at e2 ⊢
        exact fun q => e2 q.symm
      show List.lookup _ [(pn, v), (("self" : Str), u)] = some u
      simp only [List.lookup, e3]
      simp
    | 1, h1, h2 =>
      cases h1
      cases h2
      refine ⟨v, ry, .inl ⟨S.arg, ?_⟩⟩
      show List.lookup _ [(pn, v), (("self" : Str), u)] = some v
      simp [List.lookup]
    | i + 2, h1, _ => cases h1
  · obtain ⟨rfl, rfl⟩ := cells h
    exact ⟨_, _, kp _ _ hb.1, rfl⟩
  · obtain ⟨rfl, rfl⟩ := cells h
    exact hb.2

/-- the def of an own exception's __init__ that says super().__init__(text); self.fld = pn -/
structure XInit (K : PySem.W.Frag) (P : Program) (C f cc cda : Addr) (qual pn fld : Str) (st : Stmt) (fd : FuncData) : Prop where
  fd_eq : ∃ (oc : Value) (od : Option Addr) (dV kV doc pm : Value) (an : Option Addr) (ct : Value) (osl : Array (Option Value)),
    fd = PySem.W.fnX "__init__" qual (defArgs st) (defBody st) (defScope st) [("__class__", cc)] dV kV doc pm an (.ref cda) ct ∧ K.lookup f = some ⟨oc, od, .func fd, osl⟩ ∧ PySem.W.codeIn K (.ref cda) qual = true
  code : ∃ (ccl : Value) (cdd : Option Addr) (vs : Array Value) (ccs : Array (Option Value)) (file : Str) (tf : Tok), K.lookup cda = some ⟨ccl, cdd, .fields vs, ccs⟩ ∧ vs[2]? = some (.str file tf) ∧ ((P.main.file : Str) == file) = true
  cell : ∃ (cl : Value) (cld : Option Addr) (csl : Array (Option Value)), K.lookup cc = some ⟨cl, cld, .cell (some (.ref C)), csl⟩
  sup : PySem.W.ks_superIn K C C "__init__" = some (some (.builtin "ValueError.__init__"))
  sub : PySem.W.subIn K (.ref C) (.type "ValueError") = some true
  self : PySem.W.mroIn K C (.ref C) = some true
  opq : PySem.W.nsIn K cStatics "thirdparty.any" = some none
  top : (P.main.scope.names.lookup ("super" : Str)).isSome = false
  body : ∃ (m : Str) (j : Nat) (p0 p1 p2 p3 p4 p5 q0 q1 q2 q3 : Pos) (pl : Env → Sem Bool), m.length ≤ 1000 ∧ (∀ env : Env, eval (.Call (.Attribute (.Call (.Name "super" p0) [] [] p1) "__init__" p2) [.Constant (.str m) j p3] [] p4) env = (do
      let ov ← attributeBase (.Call (.Name "super" p0) [] [] p1) "__init__" env (eval (.Call (.Name "super" p0) [] [] p1) env)
      standAt p2.atName
      let (f, first) ← holding [ov] (getMethod ov "__init__" (pl env))
      callWith p4 f first (backTo p4 (starEach [.Constant (.str m) j p3] env)) [])) ∧ defBody st = [.Expr (.Call (.Attribute (.Call (.Name "super" p0) [] [] p1) "__init__" p2) [.Constant (.str m) j p3] [] p4) p5, .Assign [.Attribute (.Name "self" q0) fld q1] (.Name pn q2) q3]
  arg0 : ∃ ar : Arg, ((defArgs st).posonlyargs ++ (defArgs st).args).head? = some ar ∧ ar.arg = "self"
  scope : IScope pn (defScope st)
  noco : (defScope st).isCoroutine = false
  nogen : (defScope st).isGenerator = false
/-- super().__init__(text), in the def of the class -/
theorem super_step {X : Cx} {pins : List (Addr × Obj)} {σ : L2.St} {H : Hp} {s : Shared} {C f cc cda a : Addr} {qual pn fld m : Str} {st : Stmt} {fd : FuncData} {body : List Stmt} {j : Nat} {p0 p1 p2 p3 p4 p5 : Pos} {pl : Env → Sem Bool} (I : Inv X pins σ H s) (F : XInit X.K X.prog C f cc cda qual pn fld st fd) (T : OexC X.K C) (nos : X.mg "super" = none)
    (hi : interactive X.env = false) (hks : X.env.kindOf "super" = some .globalImplicit) (hkc : X.env.kindOf "__class__" = some .free) (hka : X.env.kindOf "self" = some .local) (hfu : X.env.func = some f) (hco : X.env.code = .ref cda) (hcl : X.env.cells.lookup ("__class__" : Str) = some cc)
    (he : eval (.Call (.Attribute (.Call (.Name "super" p0) [] [] p1) "__init__" p2) [.Constant (.str m) j p3] [] p4) X.env = (do
      let ov ← attributeBase (.Call (.Name "super" p0) [] [] p1) "__init__" X.env (eval (.Call (.Name "super" p0) [] [] p1) X.env)
      standAt p2.atName
      let (f, first) ← holding [ov] (getMethod ov "__init__" (pl X.env))
      callWith p4 f first (backTo p4 (starEach [.Constant (.str m) j p3] X.env)) []))
    (hN : X.N[0]? = some ("self" : Str)) (hσ : σ[0]? = some (some (.ref a))) (ea : H a = some (exo a C none)) :
    PySem.wpAt (model X.prog X.w) X.A (.func body X.env) (exec (.Expr (.Call (.Attribute (.Call (.Name "super" p0) [] [] p1) "__init__" p2) [.Constant (.str m) j p3] [] p4) p5) X.env) (fun fl s' => fl = .next ∧ Inv X pins σ H s') X.xe s := by
  obtain ⟨oc, od, dV, kV, doc, pm, an, ct, osl, rfl, look, hcode⟩ := F.fd_eq
  obtain ⟨ccl, cdd, vs, ccs, file, tf, lkc, hvs, hfile⟩ := F.code
  obtain ⟨cl, cld, csl, hcc⟩ := F.cell
  obtain ⟨ar, har, harg⟩ := F.arg0
  obtain ⟨nm, q, N, bs, bm, sn, sub, ab, col, dd, k0, k1, k2, k3, k5, hC, hbm⟩ := T.cls
  have hc : PySem.W.clsIn X.K C = some { name := nm, bases := bs, mro := .ref C :: bm, ns := N, qualname := q, hasDict := true, slotNames := sn, subclasses := sub, abstract := ab, collection := col, hasDel := false } := by unfold PySem.W.clsIn; rw [hC] <;> rfl
  obtain ⟨t1, ho⟩ := exo_at I.hok ea
  have KI := I.kIn
  have hk : X.env.scope.kind = .function := I.ok.kind
  refine PySem.ks_wpAt_Expr_any ?_ hi rfl
  refine PySem.ks_wpAt_MethodCall ?_ he
  refine PySem.ks_wpAt_super_base hks hkc (by decide) hfu (KI _ _ look) rfl har hco (KI _ _ lkc) rfl hvs hfile F.top ?_
  obtain ⟨mb, b1, b2⟩ := I.mod.blt
  refine PySem.W.ks_loadName_global hk hks (Calls.loadGlobal_builtin (by rw [I.ok.glob]; exact I.mod.glob.keeps I.bk) nos (by rw [I.ok.blt]; exact b1.keeps I.bk) ((b2 "super" (by decide)).trans PyProof.Rows.Boot.«super») ⟨rfl, ?_⟩)
  refine wpAny_loadName_free hk hkc hcl ⟨_, KI _ _ hcc, rfl⟩ ?_
  obtain ⟨mL, hn, hl⟩ := I.loc
  obtain ⟨u, r, l⟩ := hl 0 "self" (.ref a) hN hσ (.inl hka)
  obtain rfl : u = Value.ref a := r
  have hv : mL "self" = some (.ref a) := by
    rcases l with ⟨_, h⟩ | ⟨h | h, _⟩
    · exact h
    · rw [hka] at h; cases h
    · rw [hka] at h; cases h
  rw [harg]
  refine wpAny_loadName_local hk hka hn hv ?_
  obtain ⟨hp, g, d, t, os⟩ := s
  refine PySem.ks_wpAny_isType_cls (KI _ _ hC) rfl ⟨rfl, ?_⟩
  refine PySem.ks_wpAny_call_super (KI _ _ hC) rfl ho rfl (fun c z => by cases z) (PySem.W.looks_mroIn KI F.self) (fun h2 hso k2 => ?_)
  have I2 : Inv X pins σ H ⟨h2, g, d, t, os⟩ := I.un (t' := t) (Un.kept k2) (I.hok.kept k2)
  have KI2 := I2.kIn
  have ia : PySem.W.InstAt h2 a _ C none := ⟨k2 _ _ ho, rfl, rfl, trivial⟩
  have hI : PySem.W.Looks (model X.prog X.w) h2 (isInstance (.ref a) (.type "ValueError")) true := ia.type.andThen (PySem.W.looks_subIn KI2 F.sub)
  have hsup := F.sup
  unfold PySem.W.ks_superIn at hsup
  rw [hc] at hsup
  refine PySem.W.kxs_getMethod PySem.W.kxs_ValueError hso (PySem.W.looks_opaque KI2 F.opq) (l₀ := .ref C :: bm) (fun A Q E s k q => wpAny_bind ((PySem.W.looks_clsIn KI2 hc) A _ E s k (wpAny_pure q))) rfl KI2 hsup hI (PySem.W.ks_ne KI2 ia hc) (by decide) ?_
  have I3 : Inv X ((h2.objs.size, PySem.W.kxs_mw "ValueError.__init__" a) :: pins) σ H ⟨h2.push (PySem.W.kxs_mw "ValueError.__init__" a), g, d, t + 1, os⟩ :=
    ClX.pin_new (t' := t + 1) I2 (fun b o e => Heap.get?_push_of_some _ e) (Nat.le_refl _) (Heap.get?_push_at rfl rfl) (fun v z => by cases z)
  generalize h2.push (PySem.W.kxs_mw "ValueError.__init__" a) = h3 at I3
  generalize h2.objs.size = u3 at I3
  have hst : starEach [.Constant (.str m) j p3] X.env = (false, eval (.Constant (.str m) j p3) X.env) :: starEach [] X.env := rfl
  rw [hst]
  refine PySem.W.kxs_callWith (i := "ValueError.__init__") (u := u3) (x := a) (by rfl) (Calls.evalArgs_plain ?_)
  show wpAny _ _ (spliced (backTo p4 (starEach [.Constant (.str m) j p3] X.env))) _ _ _
  have pa : PA X [.Constant (.str m) j p3] (tCons (tC (.str m)) tNil) := pa_cons pe_str pa_nil
  refine thn (pa.run p4 ((u3, PySem.W.kxs_mw "ValueError.__init__" a) :: pins) _ σ H (fun vs H' => vs = [.str m] ∧ H' = H) I3 ⟨rfl, rfl⟩) fun us s4 hq => ?_
  obtain ⟨vs4, H4, I4, r4, ev4, eh4⟩ := hq
  subst ev4 eh4
  obtain ⟨u5, rfl, _⟩ := vals1 r4
  have hu4 := ClX.pin_at I4
  refine ⟨hu4, ?_⟩
  obtain ⟨t4, ho4⟩ := exo_at I4.hok ea
  have KI4 := I4.kIn
  obtain ⟨hh, g4, d4, tk4, os4⟩ := s4
  refine wpAny_call (codeAny_of_tree ?_)
  show wpAny _ X.A.in1 (callAny (.ref u3) ⟨[u5], []⟩) _ _ _
  simp only [callAny]
  refine wpAny_bind (wpAny_load hu4 ?_)
  have hm1 : (Value.type "method-wrapper" == Value.type "method" || Value.type "method-wrapper" == Value.type "builtin_function_or_method" || Value.type "method-wrapper" == Value.type "method-wrapper") = true := by decide
  have hm2 : (Value.type "method-wrapper" != Value.type "method") = true := by decide
  show wpAny _ _ (if (Value.type "method-wrapper" == Value.type "method" || Value.type "method-wrapper" == Value.type "builtin_function_or_method" || Value.type "method-wrapper" == Value.type "method-wrapper") = true then
    (if (Value.type "method-wrapper" != Value.type "method") = true then (checkBoundCall "ValueError.__init__" ⟨[.ref a, u5], []⟩ >>= fun _ => again (.builtin "ValueError.__init__" ⟨[.ref a, u5], []⟩)) else _) else _) _ _ _
  rw [if_pos hm1, if_pos hm2]
  have FB := PySem.F.excBase_ValueError
  refine wpAny_bind (PySem.W.check_bound_init FB.toExcCallFacts (KI4 _ _ hC) ho4 rfl ?_)
  refine wpAny_pure ⟨plainId_quiet FB.init.plain _, codeAny_builtin FB.initEntry ?_⟩
  refine PySem.W.exc_init_tree (cls := .ref C) (t0 := t4) (dv := none) (c2 := .none) (c3 := .none) (b4 := .bool false) ho4 (by rw [sizeLine_eq]; simp) fun h6 k6 e6 _ => ⟨True.intro, ?_⟩
  have J := (ClX.unpin I4).write (t' := tk4) (x := a) (e := a) (o := exo a C none) (by rw [ea]; exact True.intro) (.inl rfl) k6 ⟨_, e6⟩ (exo_ok e6)
  have eu : upd H4 a (exo a C none) = H4 := by
    funext b
    by_cases hb : b = a
    · rw [hb, upd_same, ea]
    · rw [upd_ne hb]
  rw [eu] at J
  exact J
def spXI (K : PySem.W.Frag) (C : Addr) (fld : Str) : Sp := fun vs H Q _ => ∃ (a : Addr) (y : V), vs = [.ref a, y] ∧ H a = some (exo a C none) ∧ ∀ dx H', H dx = none → dx ≠ a → H' = upd (upd H dx (exd dx [(fld, y)])) a (exo a C (some dx)) → Q .non H'
theorem okXI {P : Program} {w : World} {K : PySem.W.Frag} {mg : Str → Option Value} {base : Heap} {C f cc cda : Addr} {qual pn fld : Str} {st : Stmt} {fd : FuncData} (F : XInit K P C f cc cda qual pn fld st fd) (T : OexC K C) (nof : PySem.W.findIn K (.ref C) fld = some none) (nos : mg "super" = none) :
    FnOk P w K mg base CX0 4 f fd ["self", pn] (spXI K C fld) := by
  obtain ⟨oc, od, dV, kV, doc, pm, an, ct, osl, rfl, look, hcode⟩ := F.fd_eq
  obtain ⟨ccl, cdd, vs, ccs, file, tf, lkc, hvs, hfile⟩ := F.code
  obtain ⟨cl, cld, csl, hcc⟩ := F.cell
  obtain ⟨m, j, p0, p1, p2, p3, p4, p5, q0, q1, q2, q3, pl, hml, he, hbody⟩ := F.body
  obtain ⟨ar, har, harg⟩ := F.arg0
  have S := F.scope
  constructor
  · intro vs H Q E h
    obtain ⟨a, y, rfl, _⟩ := h
    rfl
  intro A outer s H args us vs Q E hrm e0 hbinds rel hsp
  obtain ⟨a, y, rfl, ea, k⟩ := hsp
  obtain ⟨ua, uy, rfl, ra, ry⟩ := vals2 rel
  obtain rfl : ua = Value.ref a := ra
  have inK : K.In s.heap := e0.mod.kin.keeps fun a o h => (e0.bs a o h).1
  have nolim : s.heap.NoLimit := e0.mod.nolimit.keeps fun a o h => (e0.bs a o h).1
  refine PySem.ks_codeAny_call_defAt (body := defBody st) (binds := (["self", pn] : List Str).zip [.ref a, uy]) hrm.depth (inK _ _ look) rfl nolim (PySem.W.codeRec_of inK hcode) rfl hbinds S.nocell (fun x hx => ?_) (fun h₁ hns hk₁ => ?_) F.noco F.nogen S.kind
  · rcases List.mem_cons.mp hx with rfl | hx
    · exact S.self
    · rcases List.mem_cons.mp hx with rfl | hx
      · exact S.arg
      · cases hx
  have I := inv_startI (P := P) (w := w) (mg := mg) (base := base) (qual := qual) (f := f) (cd := .ref cda) (E := E) (tk := s.toks + ((["self", pn] : List Str).zip [Value.ref a, uy]).length) S hrm.hd e0 (x := .ref a) (y := y) rfl ry hcc hns hk₁
  obtain ⟨X, hX⟩ : ∃ X : Cx, X = cxI P w K mg base qual (defScope st) f (.ref cda) cc pn A outer s H E := ⟨_, rfl⟩
  have sup := super_step (X := cxI P w K mg base qual (defScope st) f (.ref cda) cc pn A outer s H E) (body := defBody st) (p5 := p5) I F T nos (by simp [interactive, cxI, S.kind]) S.sup S.cls S.self rfl rfl (by simp [cxI]) (he _) rfl rfl ea
  have rest : ∀ s', Inv (cxI P w K mg base qual (defScope st) f (.ref cda) cc pn A outer s H E) [] [some (.ref a), some y] H s' →
      wpAny (model P w) (A.deeper (PySem.W.envX qual (defScope st) s.heap.objs.size f (.ref cda) [("__class__", cc)])) (execs [.Assign [.Attribute (.Name "self" q0) fld q1] (.Name pn q2) q3] (PySem.W.envX qual (defScope st) s.heap.objs.size f (.ref cda) [("__class__", cc)]))
        (SP (cxI P w K mg base qual (defScope st) f (.ref cda) cc pn A outer s H E) [] { nx := fun _ H' => Q .non H', rt := Q }) (cxI P w K mg base qual (defScope st) f (.ref cda) cc pn A outer s H E).xe s' := fun s' J => by
    have ps : PSs (cxI P w K mg base qual (defScope st) f (.ref cda) cc pn A outer s H E) [.Assign [.Attribute (.Name "self" q0) fld q1] (.Name pn q2) q3] (tOst K fld (tVar 0) (tVar 1)) :=
      pss_one (ps_ost (pe_var rfl (.inl S.self)) (pe_var rfl (.inl S.arg) S.nd S.ncd))
    exact ps.run [] s' _ H _ J ⟨y, rfl, .ref a, rfl, a, C, rfl, T, nof, .inl ⟨ea, fun dx n ne => k dx _ n ne rfl⟩⟩
  have eb : execs (defBody st) (PySem.W.envX qual (defScope st) s.heap.objs.size f (.ref cda) [("__class__", cc)]) = execs [.Expr (.Call (.Attribute (.Call (.Name "super" p0) [] [] p1) "__init__" p2) [.Constant (.str m) j p3] [] p4) p5, .Assign [.Attribute (.Name "self" q0) fld q1] (.Name pn q2) q3] (PySem.W.envX qual (defScope st) s.heap.objs.size f (.ref cda) [("__class__", cc)]) := by rw [hbody]
  show PySem.wpAt (model P w) (A.deeper (PySem.W.envX qual (defScope st) s.heap.objs.size f (.ref cda) [("__class__", cc)])) (.func (defBody st) (PySem.W.envX qual (defScope st) s.heap.objs.size f (.ref cda) [("__class__", cc)])) (execs (defBody st) (PySem.W.envX qual (defScope st) s.heap.objs.size f (.ref cda) [("__class__", cc)])) _ _ _
  rw [eb]
  refine PySem.ks_wpAt_execs_cons (PySem.ks_wpAt_mono sup (fun fl s' hf => ?_) fun e s' h => ?_)
  · obtain ⟨e, J⟩ := hf
    subst e
    refine PySem.wpAt_of_wpAny (wpAny_mono (rest s' J) (fun fl s2 hs => ?_) fun e s2 h => ?_)
    · have fin : ∀ {σ' : L2.St} {H' : Hp} {v : V} {u : Value}, Inv (cxI P w K mg base qual (defScope st) f (.ref cda) cc pn A outer s H E) [] σ' H' s2 → RelV v u → Q v H' → CE outer P w H s Q u s2 :=
        fun J rv q => ⟨_, _, J.os, J.bare, J.base, J.hok, rv, q⟩
      cases fl with
      | ret u =>
        obtain ⟨v, σ', H', J2, rv, q⟩ := hs
        exact fin J2 rv q
      | next =>
        obtain ⟨σ', H', J2, q⟩ := hs
        exact fin (v := V.non) (u := Value.none) J2 rfl q
      | brk =>
        obtain ⟨_, _, _, q⟩ := hs
        exact q.elim
      | cont =>
        obtain ⟨_, _, _, q⟩ := hs
        exact q.elim
    · exact h
  · exact h

/-- an own exception class over ValueError whose __init__ keeps its argument as a field -/
structure XCls (K : PySem.W.Frag) (P : Program) (C : Addr) (pn fld : Str) : Prop where
  oex : OexC K C
  ini : ∃ (f cc cda : Addr) (qual : Str) (st : Stmt) (fd : FuncData), XInit K P C f cc cda qual pn fld st fd ∧ PySem.W.findIn K (.ref C) "__init__" = some (some (.ref f)) ∧ PySem.W.typeIn K (.ref f) = some (.type "function") ∧ Binds K fd ["self", pn] []
  nof : PySem.W.findIn K (.ref C) fld = some none
/-- raise X(e) -/
theorem ps_raiseX {X : Cx} {W : WX} {C : Addr} {x pn fld : Str} {e : Expr} {te : TE} {p pos pos' : Pos} (calm : X.calm = true) (tk : Takes X W) (F : XCls X.K X.prog C pn fld) (nos : X.mg "super" = none) (hr : Room 5 X.A) (isC : X.mg x = some (.ref C)) (he : PE X e te) (gl : Gl X x := by rfl) (nd : (x == ("__debug__" : Str)) = false := by decide) (hst : starEach [e] X.env = (false, eval e X.env) :: starEach [] X.env := by rfl) :
    PS X (.Raise (some (.Call (.Name x p) [e] [] pos)) none pos') (fun _ σ H => te σ H fun v H1 => ∀ d H2, Ex H1 H2 → H2 d = some (.xd [(fld, v)]) → W (.ref C) (some d) σ H2) := by
  obtain ⟨f, cc, cda, qual, st, fd, XI, iC, tI, hb⟩ := F.ini
  have F1 := okXI (P := X.prog) (w := X.w) (mg := X.mg) (base := X.base) XI F.oex F.nof nos
  have q := ps_raise (pos := pos') calm tk (pmk_oex (p := p) (pos := pos) F.oex iC tI F1 hr hb .nil (pass0 (X := X)) gl isC (pa_cons (PE.mon he) pa_nil hst) nd hst rfl)
  refine ⟨fun pins s σ H D I h => q.run pins s σ H D I ?_⟩
  refine ⟨_, h, fun v H1 hv => ⟨by simp, fun a na => ?_⟩⟩
  refine ⟨a, v, rfl, upd_same, fun dx H' nd ne e' => ⟨rfl, dx, [(fld, v)], ?_, ?_, ?_, ?_⟩⟩
  · rw [e', upd_same]
  · rw [e', upd_ne ne, upd_same]
  · rw [upd_ne ne] at nd
    exact nd
  · rw [upd_ne ne] at nd
    refine hv dx _ (fun b o hb => ?_) upd_same
    have b1 : b ≠ a := fun z => by rw [z, na] at hb; cases hb
    have b2 : b ≠ dx := fun z => by rw [z, nd] at hb; cases hb
    rw [upd_ne b2, del_ne b1, e', upd_ne b1, upd_ne b2, upd_ne b1]
    exact hb

/-! figures read: any ASCII text -/
open PySem PySem.Spec PyProof.Rows L2 SX
/-- w tells a number as it is written -/
def decM (w : List Nat) : Bool := !w.isEmpty && (w.all fun c => decide (48 ≤ c) && decide (c ≤ 57)) && (w == [48] || w.head? != some 48)
theorem isdig_ascii : ∀ c < 128, Unicode.isDigit c = (decide (48 ≤ c) && decide (c ≤ 57)) := by decide +kernel
theorem digit_S2 {a : List Nat} (h : ∀ c ∈ a, c < 128) : Txt.isdigit (S a) = (!a.isEmpty && a.all fun c => decide (48 ≤ c) && decide (c ≤ 57)) := by
  unfold Txt.isdigit
  rw [S_len, ← Array.all_toList]
  have e1 : (S a).cps.toList = a := rfl
  have e2 : (a.all fun c => Unicode.isDigit c) = a.all fun c => decide (48 ≤ c) && decide (c ≤ 57) := by
    induction a with
    | nil => rfl
    | cons c a ih =>
      simp only [List.all_cons]
      rw [isdig_ascii c (h c List.mem_cons_self), ih (fun x hx => h x (List.mem_cons_of_mem _ hx)) rfl]
  rw [show ((S a).cps.toList.all Unicode.isDigit) = (a.all fun c => Unicode.isDigit c) from rfl, e2]
  congr 1
  cases a <;> simp
theorem val_snoc (w : List Nat) (d : Nat) : NumText.digitsVal (w ++ [d]) = NumText.digitsVal w * 10 + (d - 48) := by
  unfold NumText.digitsVal
  rw [List.foldl_append]
  rfl
theorem val_pos {w : List Nat} {c : Nat} {l : List Nat} (e : w = c :: l) (h : 48 < c) : 0 < NumText.digitsVal w := by
  subst e
  have key : ∀ (l : List Nat) (a : Nat), 0 < a → 0 < l.foldl (fun acc c => acc * 10 + (c - 48)) a := by
    intro l
    induction l with
    | nil => exact fun a h => h
    | cons x l ih =>
      intro a h
      exact ih _ (show 0 < a * 10 + (x - 48) by omega)
  unfold NumText.digitsVal
  exact key l _ (by simp; omega)
theorem num_back : ∀ (k : Nat) {w : List Nat}, w.length = k → decM w = true → TL.numL (NumText.digitsVal w) = w := by
  intro k
  induction k with
  | zero =>
    intro w hl h
    have : w = [] := List.length_eq_zero_iff.mp hl
    subst this
    cases h
  | succ k ih =>
    intro w hl h
    have hne : w ≠ [] := fun z => by rw [z] at hl; cases hl
    obtain ⟨w', d, rfl⟩ : ∃ w' d, w = w' ++ [d] := ⟨w.dropLast, w.getLast hne, (List.dropLast_concat_getLast hne).symm⟩
    simp only [decM, Bool.and_eq_true, Bool.or_eq_true, List.all_eq_true, decide_eq_true_eq] at h
    obtain ⟨⟨_, hd⟩, hz⟩ := h
    have dd := hd d (by simp)
    rw [val_snoc]
    cases w' with
    | nil =>
      rw [TL.numL_lt (by simp [NumText.digitsVal]; omega)]
      simp [NumText.digitsVal]
      omega
    | cons c l =>
      have c48 : c ≠ 48 := by
        rcases hz with hz | hz
        · simp at hz
        · simpa using hz
      have cd := hd c (by simp)
      have hw : decM (c :: l) = true := by
        simp only [decM, Bool.and_eq_true, Bool.or_eq_true, List.all_eq_true, decide_eq_true_eq]
        refine ⟨⟨rfl, fun x hx => hd x (List.mem_append_left _ hx)⟩, .inr ?_⟩
        simpa using c48
      have vp := val_pos (w := c :: l) rfl (by omega)
      rw [TL.numL_step (by omega)]
      have e1 : (NumText.digitsVal (c :: l) * 10 + (d - 48)) / 10 = NumText.digitsVal (c :: l) := by omega
      have e2 : (NumText.digitsVal (c :: l) * 10 + (d - 48)) % 10 = d - 48 := by omega
      rw [e1, e2, ih (by simpa using hl) hw]
      congr 2
      omega
theorem val_lt {w : List Nat} {k : Nat} (h : NumText.AllDigits w) (hl : w.length ≤ k) : NumText.digitsVal w < 10 ^ k := by
  have key : ∀ (n : Nat) (w : List Nat), w.length = n → NumText.AllDigits w → NumText.digitsVal w < 10 ^ n := by
    intro n
    induction n with
    | zero =>
      intro w hl _
      rw [List.length_eq_zero_iff.mp hl]
      decide
    | succ n ih =>
      intro w hl h
      have hne : w ≠ [] := fun z => by rw [z] at hl; cases hl
      obtain ⟨w', d, rfl⟩ : ∃ w' d, w = w' ++ [d] := ⟨w.dropLast, w.getLast hne, (List.dropLast_concat_getLast hne).symm⟩
      have h1 := ih w' (by simpa using hl) fun c hc => h c (List.mem_append_left _ hc)
      have h2 := h d (by simp)
      rw [val_snoc, Nat.pow_succ]
      omega
  exact Nat.lt_of_lt_of_le (key _ w rfl h) (Nat.pow_le_pow_right (by decide) hl)

/-! except (A, B, C) as name -/
theorem flying_kept {B h h' : Heap} {l : List Env} {a : Addr} {Z : Obj → Prop} (k : ∀ b o, h.get? b = some o → h'.get? b = some o) (fl : HandSPX.FlyingZ B l a Z h) : HandSPX.FlyingZ B l a Z h' := by
  obtain ⟨f1, f2, f3, oe, vs, T, oT, ts, t1, t2, t3, t4, t5, t6, t7, t8, t9⟩ := fl
  exact ⟨fun b o e => k b o (f1 b o e), f2, f3.of_keeps (fun b o e _ => ⟨o, k b o e, rfl⟩), oe, vs, T, oT, ts, k _ _ t1, t2, t3, t4, t5, t6, k _ _ t7, t8, t9⟩
/-- what the clause `except (A, B, C) as n` wishes of an error of the body -/
def wAsL (K : PySem.W.Frag) (cs : List Value) (i : Nat) (ts : Addr → Value → Option Addr → TS) (Wout : WX) (D : Ends) : WX := fun cls d σ H =>
  ∃ b, PySem.W.exmAny K cls cs = some b ∧ (b = false → Wout cls d σ H) ∧
    (b = true → ∀ a, H a = none → ts a cls d { nx := fun σ' H' => D.nx (σ'.set i none) H', rt := D.rt, bk := fun σ' H' => D.bk (σ'.set i none) H', ct := fun σ' H' => D.ct (σ'.set i none) H' } (σ.set i (some (.ref a))) H)
section
variable {X : Cx} {x1 x2 x3 n : Str} {c1 c2 c3 : Value} {i tk0 : Nat} {body suite : List Stmt} {b₀ : Stmt} {q1 q2 q3 tp pos pos' : Pos} {tb : WX → TS} {ts : Addr → Value → Option Addr → TS} {Wout : WX}
/-- a class is named: nothing is laid -/
theorem name_here {Y : Cx} {pn : List (Addr × Obj)} {σ : L2.St} {H : Hp} {s : Shared} {x : Str} {c : Value} {p : Pos} {Q : Value → Shared → Prop} {E : Value → Shared → Prop} (G : Inv Y pn σ H s) (hc : Names Y x c) (q : Q c s) : wpAny (model Y.prog Y.w) Y.A (eval (.Name x p) Y.env) Q E s := by
  obtain ⟨h1, h2, h3 | ⟨h3, h4, h5⟩⟩ := hc
  · exact ld_glob G h1 h3 q h2
  · exact ld_blt G h1 h3 h4 q h5 h2
/-- the tuple of three classes is laid -/
theorem tup_here {Y : Cx} {pn : List (Addr × Obj)} {σ : L2.St} {H : Hp} {s : Shared} {Q : Value → Shared → Prop} {E : Value → Shared → Prop} (G : Inv Y pn σ H s) (h1 : Names Y x1 c1) (h2 : Names Y x2 c2) (h3 : Names Y x3 c3)
    (q : Q (.ref s.heap.objs.size) { s with heap := s.heap.push { cls := .type "tuple", data := .seq [c1, c2, c3].toArray } }) : wpAny (model Y.prog Y.w) Y.A (eval (.Tuple [.Name x1 q1, .Name x2 q2, .Name x3 q3] tk0 tp) Y.env) Q E s := by
  refine wpAny_Tuple_spliced ?_
  exact Calls.spliced_cons (name_here G h1 (Calls.spliced_cons (name_here G h2 (Calls.spliced_cons (name_here G h3 (Calls.spliced_nil ⟨by rw [sizeLine_eq]; simp, q⟩))))))
theorem ps_try_asL (stk : X.stack = X.env :: X.outer) (fr : X.env.frame = some X.env.locals) (nod : X.N.Nodup) (hi : X.N[i]? = some n) (loc : X.env.kindOf n = some .local) (h1 : Names X x1 c1) (h2 : Names X x2 c2) (h3 : Names X x3 c3) (tk : Takes X Wout)
    (hb : ∀ (W : WX) (pn : List (Addr × Obj)) (xe : Value → Shared → Prop), Takes (X.tr pn xe) W → PassesOwn (model X.prog X.w) X.A X.env xe → PSs (X.tr pn xe) body (tb W))
    (hsu : ∀ (a : Addr) (oe : Obj) (cls : Value) (d : Option Addr) (pn : List (Addr × Obj)), Zc cls d oe → (∃ vs, oe.data = .fields vs) → PSs (X.suite a ((a, oe) :: pn)) (b₀ :: suite) (ts a cls d)) :
    PS X (.Try body [.ExceptHandler (some (.Tuple [.Name x1 q1, .Name x2 q2, .Name x3 q3] tk0 tp)) (some n) (b₀ :: suite) pos'] [] [] pos) (fun D σ H => tb (wAsL X.K [c1, c2, c3] i ts Wout D) D σ H) := by
  refine ⟨fun pins s σ H D G h => wpAny_Try_except ?_⟩
  have ok := G.ok
  have frames : X.A.frames = some (X.env :: X.outer) := ok.frames.trans (by rw [stk])
  have run := hb (wAsL X.K [c1, c2, c3] i ts Wout D) (X.pn ++ pins) (fun e s1 => wpAny (model X.prog X.w) X.A (noteFrame e X.env) (fun _ s2 => wpAny (model X.prog X.w) X.A (setFlight e none) (fun _ s3 =>
    wpAny (model X.prog X.w) X.A (handleBy e X.env [.ExceptHandler (some (.Tuple [.Name x1 q1, .Name x2 q2, .Name x3 q3] tk0 tp)) (some n) (b₀ :: suite) pos']) (SP X pins D) X.xe s3) X.xe s2) X.xe s1) (fun u sx caught => ?_) PassesOwn.looking
  · refine wpAny_mono (run.run [] s σ H D (G.toTry _) h) (fun f s1 hsp => ?_) fun _ _ z => z
    cases f with
    | next =>
      obtain ⟨σ', H', G', q⟩ := hsp
      exact wpAny_execs_nil ⟨σ', H', G'.ofTry ok, q⟩
    | brk => exact let ⟨σ', H', G', q⟩ := hsp; ⟨σ', H', G'.ofTry ok, q⟩
    | cont => exact let ⟨σ', H', G', q⟩ := hsp; ⟨σ', H', G'.ofTry ok, q⟩
    | ret u => exact let ⟨v, σ', H', G', r, q⟩ := hsp; ⟨v, σ', H', G'.ofTry ok, r, q⟩
  obtain ⟨a, B, sI, pins', σ1, H1, cls, d, rfl, G0, nb, up, sky, na, os, ag, b, hb1, hno, hyes⟩ := caught
  have G1 : Inv X pins σ1 H1 sI := G0.ofTry ok
  rw [stk] at sky
  show wpAny (model X.prog X.w) X.A (noteFrame (.ref a) X.env) _ _ _
  refine Sky.land Zc.steady frames fr sky fun hp2 fl2 up2 => ?_
  have G2 : Inv X pins σ1 H1 { sx with heap := hp2 } := G1.landed nb fl2.1 (up.trans up2) os ag
  have apart : ∀ {hp : Heap}, HandSPX.FlyingZ B (X.env :: X.outer) a (Zc cls d) hp → a ∉ frs (X.env :: X.outer) := fun fl hm => by
    obtain ⟨o, vs, e1, _, e3⟩ := fl.there
    obtain ⟨_, o', e4, nf⟩ := fl.2.2.1.mem hm
    rw [e1] at e4
    cases e4
    exact nf _ e3
  have noFr := apart fl2
  have noL : a ≠ X.env.locals := fun z => noFr (List.mem_filterMap.mpr ⟨X.env, List.mem_cons_self, by rw [fr, z]⟩)
  have noO : a ∉ X.fs := fun hm => by
    obtain ⟨e, he, q⟩ := List.mem_filterMap.mp hm
    exact noFr (List.mem_filterMap.mpr ⟨e, List.mem_cons_of_mem _ he, q⟩)
  obtain ⟨o2, v2, e2, z2, d2⟩ := fl2.there
  have GS := G2.suite e2 d2 na noL noO
  refine wpAny_handleBy_cons (codeAny_handlers_test ?_) (by intro q; cases q)
  refine tup_here (Y := X.suite a ((a, o2) :: (X.pn ++ pins))) GS h1 h2 h3 ?_
  have k3 : ∀ c o, hp2.get? c = some o → (hp2.push { cls := .type "tuple", data := .seq [c1, c2, c3].toArray }).get? c = some o := fun c o e => Heap.get?_push_of_some _ e
  have t3 : (hp2.push { cls := .type "tuple", data := .seq [c1, c2, c3].toArray }).get? hp2.objs.size = some { cls := .type "tuple", data := .seq [c1, c2, c3].toArray } := Heap.get?_push_at rfl rfl
  show wpAny _ _ (excMatches (.ref a) (.ref hp2.objs.size)) _ _ _
  generalize hp2.push { cls := .type "tuple", data := .seq [c1, c2, c3].toArray } = hp3 at k3 t3
  have fl3 := flying_kept k3 fl2
  have up3 : sI.heap.UpToSlots hp3 := (up.trans up2).trans (Heap.UpToSlots.of_keeps k3)
  have G3 : Inv X pins σ1 H1 { sx with heap := hp3 } := G1.landed nb fl3.1 up3 os ag
  have look : PySem.W.Looks (model X.prog X.w) hp3 (typeOf (.ref a)) cls := fun A Q E s k q => wpAny_typeOf_ref (k _ _ (k3 _ _ e2)) (by rw [z2.1]; exact q)
  refine (PySem.W.exm_tup3 G3.kIn look t3 hb1).here ?_
  cases b with
  | false =>
    show wpAny _ X.A (handleBy (.ref a) X.env []) _ _ _
    refine wpAny_handleBy_nil ?_
    obtain ⟨_, _, _, o5, v5, T5, _, _, g1, _, g3, g4, _⟩ := id fl3
    have leave : wpAny (model X.prog X.w) X.A (setFlight (.ref a) X.env.frame) (fun _ s4 => wpAny (model X.prog X.w) X.A (throw (.ref a) : Sem Flow) (SP X pins D) X.xe s4) X.xe { sx with heap := hp3 } := by
      rw [fr]
      exact HandSPX.setFlight_upZ fl3 fun hp4 held up4 => wpAny_throw (tk _ _ ⟨a, B, sI, pins, σ1, H1, cls, d, rfl, G1, nb, up3.trans up4, .inr (.inr (by rw [stk]; exact held)), na, os, ag, hno rfl⟩)
    unfold PySem.passOn
    refine wpAny_bind (wpAny_field g1 g3 g4 ?_)
    rw [if_neg (by simp : ¬ (Value.ref T5 == Value.none) = true)]
    first
      | exact wpAny_bind leave
      | exact wpAny_bind (wpAny_pure (wpAny_bind leave))
  | true =>
    refine codeAny_handlers_suite_as ?_
    refine HandSPX.lands_againZ fl3 fun hp4 fl4 up4 => ?_
    have G4 : Inv X pins σ1 H1 { sx with heap := hp4 } := G1.landed nb fl4.1 (up3.trans up4) os ag
    obtain ⟨o4, v4, e4, z4, d4⟩ := fl4.there
    refine store_ok (X := X.suite a ((a, o4) :: (X.pn ++ pins))) (v := .ref a) (G4.suite e4 d4 na noL noO) nod hi (.inl loc) rfl (fun s5 G5 => ?_) (.inr loc)
    refine wpAny_mono ((hsu a o4 cls d (X.pn ++ pins) z4 ⟨_, d4⟩).run [] s5 _ H1 _ G5 (hyes rfl a na)) (fun f s6 hsp => ?_) fun _ _ z => z.elim
    have fin : ∀ {σ6 : L2.St} {H6 : Hp} {Q : Shared → Prop}, Inv (X.suite a ((a, o4) :: (X.pn ++ pins))) [] σ6 H6 s6 → (∀ s7, Inv X pins (σ6.set i none) H6 s7 → Q s7) →
        wpAny (model X.prog X.w) X.A (do bindName X.env n .none; unbindBehindTheSuite X.env n pos') (fun _ s7 => Q s7) X.xe s6 := fun G6 q => gone_ok (G6.unsuite ok) nod hi loc q
    cases f with
    | next => exact let ⟨σ6, H6, G6, q6⟩ := hsp; fin G6 fun s7 G7 => ⟨_, _, G7, q6⟩
    | brk => exact let ⟨σ6, H6, G6, q6⟩ := hsp; fin G6 fun s7 G7 => ⟨_, _, G7, q6⟩
    | cont => exact let ⟨σ6, H6, G6, q6⟩ := hsp; fin G6 fun s7 G7 => ⟨_, _, G7, q6⟩
    | ret u => exact let ⟨v6, σ6, H6, G6, r6, q6⟩ := hsp; fin G6 fun s7 G7 => ⟨_, _, _, G7, r6, q6⟩
end

/-! isinstance of a caught error that has a dict -/
/-- isinstance(e, c), e the caught error of the class D, its dict at d -/
def rIsD (K : PySem.W.Frag) (D a d : Addr) : List V → Hp → VK → Prop := fun xs H Q => ∃ (c : V) (cv : Value) (b : Bool) (fs : List (Str × V)), xs = [.ref a, c] ∧ (∀ u, RelV c u → u = cv) ∧ PySem.W.kitOne K (.ref D) cv = some b ∧ H d = some (.xd fs) ∧ Q (.bl b) H
theorem call_isD {X : Cx} {a D d : Addr} {oe : Obj} {pn : List (Addr × Obj)} (C : ExcC X.K D) (hz : Zc (.ref D) (some d) oe) (hf : ∃ vs, oe.data = .fields vs) : CallR (X.suite a ((a, oe) :: pn)) (.builtin "isinstance") (rIsD X.K D a d) := by
  intro pins s σ H xs us Q I r h
  obtain ⟨c, cv, b, fs, rfl, hcv, e, hd, q⟩ := h
  obtain ⟨u1, u2, rfl, r1, r2⟩ := vals2 r
  obtain rfl : u1 = Value.ref a := r1
  have ec := hcv _ r2
  subst ec
  obtain ⟨hget, _⟩ := I.pin (a, oe) (List.mem_append.mpr (.inl List.mem_cons_self))
  obtain ⟨vs, hv⟩ := hf
  have ok : ObjOk X.prog X.w H s.heap d (.xd fs) := I.hok d _ hd
  obtain ⟨mA, ⟨oD, es, ep, hoD, _⟩, _⟩ := ok
  have J : PySem.W.InstAt s.heap a oe D (some oD) := by
    obtain ⟨oc, od, oda, osl⟩ := oe
    obtain ⟨h1, h2⟩ := hz
    dsimp only at h1 h2 hv
    subst h1 h2 hv
    exact ⟨hget, rfl, rfl, hoD⟩
  have isC : (PySem.W.clsIn X.K D).isSome = true := by
    obtain ⟨cd, hc, _⟩ := PySem.W.any_some C.hd
    rw [hc]
    rfl
  exact PySem.W.kia_one (PySem.W.kitx_exc isC C.hg C.hk C.hs C.ha C.hn C.ht C.hm) I.kIn J e (fun z => nomatch z) fun tk => ⟨.bl b, H, I.kept (t' := tk) fun _ _ z => z, rfl, q⟩

/-! ## exceptions of own classes, defs that let them out, a lambda tried -/
section
variable {X : Cx}
/-- an own class of exceptions called without anything -/
theorem pmk_own0 {C : Addr} {bmB : List Value} {B nId iId : String} {x : Str} {p pos : Pos}
    (facts : ExcBaseFacts B nId iId bmB) (cls : PySem.W.excIn X.K C bmB nId = true) (raisable : Raises X (.ref C))
    (kept : PySem.W.keepIn X.K (.ref C) = true) (isC : X.mg x = some (.ref C)) (gl : Gl X x := by rfl) (nd : (x == ("__debug__" : Str)) = false := by decide) :
    PMk X (.Call (.Name x p) [] [] pos) (fun _ H Q => Q (.ref C) none H) := by
  intro pins s σ H Q I q
  refine wpAny_Call_Name_kw (ld_glob I gl isC ?_ nd)
  refine PySem.W.callWith_K0 I.kIn kept ?_
  obtain ⟨_, _, _, _, _, _, _, _, _, _, _, _, _, _, _, _, _, hC, hN, hni, T⟩ := exc_obj I.kIn cls
  refine wpAny_call_exc_subT facts T hC hN hni (fun h' e made => ?_) (Nat.zero_le _)
  exact mk_of I made raisable q (I.hok.gone made.new)
end
/-- what is known of an own class over ArithmeticError that has no __init__ of its own -/
structure ExcA (K : PySem.W.Frag) (C : Addr) : Prop where
  cls : PySem.W.excIn K C [.type "ArithmeticError", .type "Exception", .type "BaseException", .type "object"] "ArithmeticError.__new__" = true
  sub : PySem.W.subIn K (.ref C) (.type "BaseException") = some true
  typ : PySem.W.typeIn K (.ref C) = some (.type "type")
  kept : PySem.W.keepIn K (.ref C) = true
  own : PySem.W.exmOne K (.ref C) (.ref C) = some true
/-- raise X() -/
theorem ps_raise0 {X : Cx} {W : WX} {C : Addr} {x : Str} {p pos pos' : Pos} (calm : X.calm = true) (tk : Takes X W) (F : ExcA X.K C) (isC : X.mg x = some (.ref C)) (gl : Gl X x := by rfl) (nd : (x == ("__debug__" : Str)) = false := by decide) :
    PS X (.Raise (some (.Call (.Name x p) [] [] pos)) none pos') (fun _ σ H => W (.ref C) none σ H) :=
  ps_raise calm tk (pmk_own0 PySem.F.excBase_ArithmeticError F.cls (raises_own F.sub F.typ) F.kept isC gl nd)
/-- the global x is a def that keeps sp, and may raise -/
def HasX (P : Program) (w : World) (K : PySem.W.Frag) (mg : Str → Option Value) (base : Heap) (x : Str) (k : Nat) (ps : List Str) (sp : Sp) : Prop :=
  ∃ f fd, FnOk P w K mg base (L2.CX P w) k f fd ps sp ∧ mg x = some (.ref f) ∧ PySem.W.keepIn K (.ref f) = true ∧ Binds K fd ps []
def HasXW (P : Program) (w : World) (K : PySem.W.Frag) (mg : Str → Option Value) (base : Heap) (x : Str) (k : Nat) (ps : List Str) (sp : Sp) (ks : List Str) (ix : List Nat) : Prop :=
  ∃ f fd, FnOk P w K mg base (L2.CX P w) k f fd ps sp ∧ mg x = some (.ref f) ∧ PySem.W.keepIn K (.ref f) = true ∧ KwOk fd ps ks ix
theorem HasX.of {P : Program} {w : World} {K : PySem.W.Frag} {mg : Str → Option Value} {base : Heap} {x : Str} {st : Stmt} {ps : List Str} {k : Nat} {sp : Sp} (D : Df K mg x st ps)
    (h : ∀ f fd, Fun K x x st f fd → FnOk P w K mg base (L2.CX P w) k f fd ps sp) : HasX P w K mg base x k ps sp := by
  obtain ⟨f, fd, F, hm, hb⟩ := D
  exact ⟨f, fd, h f fd F, hm, F.kp, hb⟩
theorem HasXW.of {P : Program} {w : World} {K : PySem.W.Frag} {mg : Str → Option Value} {base : Heap} {x : Str} {st : Stmt} {ps ks : List Str} {ix : List Nat} {k : Nat} {sp : Sp} (D : DfW K mg x st ps ks ix)
    (h : ∀ f fd, Fun K x x st f fd → FnOk P w K mg base (L2.CX P w) k f fd ps sp) : HasXW P w K mg base x k ps sp ks ix := by
  obtain ⟨f, fd, F, hm, hb⟩ := D
  exact ⟨f, fd, h f fd F, hm, F.kp, hb⟩
section
variable {X : Cx}
def tFX (sp : Sp) (E : XK) (t : TA) : TE := fun σ H Q => t σ H fun vs H1 => sp vs H1 Q E
def tWX (sp : Sp) (E : XK) (m : Nat) (ix : List Nat) (tk : TA) : TE := fun σ H Q => tk σ H fun zs H1 => zs.length = m ∧ sp (arr ix zs) H1 Q E
abbrev offE (E : XK) : WX := fun cls d _ H => E cls d H
theorem pe_hasX {x : Str} {k : Nat} {ps : List Str} {sp : Sp} {E : XK} {p pos : Pos} {e : Expr} {es : List Expr} {t : TA}
    (h : HasX X.prog X.w X.K X.mg X.base x k ps sp) (tk : Takes X (offE E)) (hr : Room k X.A) (ha : PA X (e :: es) t) (hg : Gl X x := by rfl)
    (hdb : (x == ("__debug__" : Str)) = false := by decide)
    (he : starEach (e :: es) X.env = (false, eval e X.env) :: starEach es X.env := by rfl)
    (hpl : (backTo pos (starEach es X.env)).any (·.1) = false := by rfl) :
    PE X (.Call (.Name x p) (e :: es) [] pos) (tFX sp E t) := by
  obtain ⟨f, fd, F, hm, hk, hb⟩ := h
  have q := pe_call (X := X) (p := p) (pos := pos) F hr hg hm hk hb .nil (passes_call tk fun _ _ _ _ z => z) ha hdb he hpl
  refine ⟨fun pins s σ H Q I hq => q.run pins s σ H Q I ?_⟩
  show t σ H fun vs H1 => sp (vs ++ []) H1 Q E
  simp only [List.append_nil]
  exact hq
theorem pe_hasXW {x : Str} {k : Nat} {ps ks : List Str} {ix : List Nat} {sp : Sp} {E : XK} {p pos : Pos} {kws : List Keyword} {ta : TA}
    (h : HasXW X.prog X.w X.K X.mg X.base x k ps sp ks ix) (tk : Takes X (offE E)) (hr : Room k X.A) (hkw : PK X kws ta) (hg : Gl X x := by rfl)
    (hdb : (x == ("__debug__" : Str)) = false := by decide)
    (hall : (backToKw pos (keywordEach kws X.env)).all (·.1.isSome) = true := by rfl) (hks : (backToKw pos (keywordEach kws X.env)).filterMap (·.1) = ks := by rfl)
    (hpl : ((backTo pos (starEach [] X.env)).any (·.1) || (backToKw pos (keywordEach kws X.env)).any (·.1.isNone)) = false := by rfl) :
    PE X (.Call (.Name x p) [] kws pos) (tWX sp E ks.length ix ta) := by
  obtain ⟨f, fd, F, hm, hk, hb⟩ := h
  refine ⟨fun pins s σ H Q I h => ?_⟩
  apply wpAny_Call_Name_kw (ld_glob I hg hm ?_ hdb)
  apply PySem.W.callWith_KW0 (h₀ := X.base) I.ok.mod.kin hk hall ?_ hpl
  refine thn (hkw.run pos pins s σ H _ I h) fun ws s2 ⟨zs, H2, I2, rz, l, hsp⟩ => ⟨I2.kIn, ?_⟩
  rw [hks]
  have r2 := arr_vals rz ix
  have bnd := hb s2 ws (by rw [← rz.length]; exact l)
  refine wpAny_call (codeAny_mono (F.run X.A X.stack s2 H2 ⟨[], ks.zip ws⟩ (arr ix ws) (arr ix zs) Q E hr I2.env0 bnd r2 hsp) fun r s' hc => ?_)
  cases r with
  | error er => exact passes_call tk (fun _ _ _ _ z => z) pins σ H2 s2 er s' I2 hc
  | ok fl =>
    cases fl with
    | ret u => exact I2.after hc
    | next => exact hc.elim
    | brk => exact hc.elim
    | cont => exact hc.elim
/-- what leaves a def's body -/
theorem takes_def {P : Program} {w : World} {K : PySem.W.Frag} {mg : Str → Option Value} {base : Heap} {N : List Str} {q : Str} {sc : Scope} {f : Addr} {cd : Value} {A : Around} {outer : List Env} {s : Shared} {H : Hp} {E : XK} :
    Takes (cxOf (L2.CX P w) P w K mg base N q sc f cd A outer s H E) (offE E) :=
  takes_of rfl rfl rfl rfl
theorem takes_lam {A : Around} {outer : List Env} {s : Shared} {H : Hp} {E : XK} {scope : Scope} {f c' : Addr} :
    Takes (LamX.lamCx X A outer s H E scope f c') (offE E) :=
  takes_of rfl rfl rfl rfl
end
/-! ### a lambda tried by a def of the law -/
/-- what such a def makes of the lambda: its value, or None where it raises an exception of the class -/
def TTnone (K : PySem.W.Frag) (CN : Addr) : (XK → Hp → VK → Prop) → Hp → VK → Prop := fun tl H Q =>
  tl (fun cls _ H' => PySem.W.exmOne K cls (.ref CN) = some true ∧ Q .non H') H Q
/-- the def x: try: return a() / except e: return None -/
structure Trier (K : PySem.W.Frag) (mg : Str → Option Value) (x a e : Str) (CN : Addr) (N : List Str) (st : Stmt) : Prop where
  df : Df K mg x st [a]
  sc : FnScope N [a] (defScope st)
  nm : N[0]? = some a
  start : ∀ f : Addr, (L2.start N [V.ref f])[0]? = some (some (V.ref f))
  vis : Vis (defScope st) a
  gl : (defScope st).names.lookup e = some .globalImplicit
  cls : mg e = some (.ref CN)
  ne : (e == ("__debug__" : Str)) = false
  na : (a == ("__debug__" : Str)) = false
  nc : (a == ("__classdict__" : Str)) = false
  body : ∃ (p1 p2 p3 p4 p5 p6 p7 p8 : Pos) (j : Nat), defBody st = [.Try [.Return (some (.Call (.Name a p1) [] [] p2)) p3] [.ExceptHandler (some (.Name e p4)) none [.Return (some (.Constant .none j p5)) p6] p7] [] [] p8]
theorem told_none {X : Cx} {N : List Str} {x a e q : Str} {sg : Scope} {g CN : Addr} {cdg : Value} {j : Nat} {p1 p2 p3 p4 p5 p6 p7 p8 : Pos}
    (start0 : ∀ f : Addr, (L2.start N [V.ref f])[0]? = some (some (V.ref f))) (isGl : sg.names.lookup e = some .globalImplicit) (isC : X.mg e = some (.ref CN)) (nd : (e == ("__debug__" : Str)) = false) :
    LamX.GivesTo X N x sg g cdg [.Try [.Return (some (.Call (.Name a p1) [] [] p2)) p3] [.ExceptHandler (some (.Name e p4)) none [.Return (some (.Constant .none j p5)) p6] p7] [] [] p8] a q (TTnone X.K CN) := by
  intro f c' s H Q tl run code goal
  have glob : Gl (cxOf C8.CX0 X.prog X.w X.K X.mg X.base N x sg g cdg X.A X.stack s H C8.E0).nox e := isGl
  let tbody : WX → TS := fun W D σ G => ∃ Er : XK, (∀ cls d σ' G', Er cls d G' → W cls d σ' G') ∧ σ[0]? = some (some (.ref f)) ∧ G c' = some (LamX.CodeO c' q) ∧ tl Er G D.rt
  have first : ∀ (W : WX) (pn : List (Addr × Obj)) (xe : Value → Shared → Prop), Takes ((cxOf C8.CX0 X.prog X.w X.K X.mg X.base N x sg g cdg X.A X.stack s H C8.E0).nox.tr pn xe) W →
      PSs ((cxOf C8.CX0 X.prog X.w X.K X.mg X.base N x sg g cdg X.A X.stack s H C8.E0).nox.tr pn xe) [.Return (some (.Call (.Name a p1) [] [] p2)) p3] (tbody W) := by
    intro W pn xe tk
    refine ⟨fun pins s' σ G D I ⟨Er, h0, h1, h2, h3⟩ => ?_⟩
    exact (pss_one (ps_ret (pos := p3) (run W pn xe Er p1 p2 tk h0))).run pins s' σ G D I ⟨h1, h2, h3⟩
  refine ⟨_, pss_one (ps_try_only (X := (cxOf C8.CX0 X.prog X.w X.K X.mg X.base N x sg g cdg X.A X.stack s H C8.E0).nox) (c := .ref CN) (tb := tbody)
    rfl rfl ⟨glob, nd, .inl isC⟩ LamX.takes0 (fun W pn xe tk _ => first W pn xe tk) (fun _ _ _ _ _ _ _ => pss_one (ps_ret pe_non))), ?_⟩
  refine ⟨fun cls _ G => PySem.W.exmOne X.K cls (.ref CN) = some true ∧ Q .non G, ?_, start0 f, code, goal⟩
  rintro cls d σ' G ⟨h1, h2⟩
  exact ⟨true, h1, fun _ _ _ => h2, fun z => nomatch z⟩
theorem pe_told {X : Cx} {x a e : Str} {CN c P : Addr} {N : List Str} {st : Stmt} {k : Nat} {params : Arguments} {body : Expr} {scope : Scope} {t : XK → TE} {p lpos pos : Pos}
    (Tr : Trier X.K X.mg x a e CN N st) (TB : LamX.TabB X.base X.mg c P) (hcode : X.env.code = .ref c) (hr : Room (k + 2) X.A)
    (hbody : ∀ (A : Around) (outer : List Env) (s : Shared) (H : Hp) (E : XK) (f c' : Addr), Room k (A.deeper (LamX.lamEnv X scope s.heap.objs.size f c')) → PE (LamX.lamCx X A outer s H E scope f c') body (t E))
    (hg : Gl X x := by rfl) (L : LamX.LamS X.env.scope scope := by exact LamX.lamS_by rfl) (hdef : defaultsOf params X.env = ([], []) := by rfl)
    (hbind : ∀ (q : Str) (cl : List (Str × Addr)) (pm cv ctv : Value), bindArgs (PySem.W.kla_fn "<lambda>" q params body scope cl pm cv ctv) ⟨[], []⟩ = pure [] := by intros; rfl)
    (hdb : (x == ("__debug__" : Str)) = false := by decide) :
    PE X (.Call (.Name x p) [.Lambda params body scope lpos] [] pos) (LamX.tLam [(P, X.env.qual ++ "<lambda>")] (TTnone X.K CN) t) := by
  obtain ⟨g, fd, F, hm, hb⟩ := Tr.df
  obtain ⟨oc, od, kV, doc, pm, an, cdv, ct, osl, rfl, look, hcd⟩ := F.ex
  obtain ⟨p1, p2, p3, p4, p5, p6, p7, p8, j, eb⟩ := Tr.body
  have gives := told_none (X := X) (N := N) (x := x) (a := a) (q := X.env.qual ++ "<lambda>") (g := g) (cdg := cdv) (j := j) (p1 := p1) (p2 := p2) (p3 := p3) (p4 := p4) (p5 := p5) (p6 := p6) (p7 := p7) (p8 := p8) Tr.start Tr.gl Tr.cls Tr.ne
  rw [← eb] at gives
  refine LamX.pe_lamcall (k := k) hg hm F.kp look hcd hb Tr.sc Tr.nm Tr.vis gives TB hcode (List.mem_singleton.mpr rfl) ?_ hr L hdef hbind hbody hdb Tr.na Tr.nc
  intro y hy _
  rw [List.mem_singleton.mp hy]

/-! except (A, B): without a name -/
/-- what the clause `except (A, B)` wishes of an error of the body -/
def wOnlyL (K : PySem.W.Frag) (cs : List Value) (ts : Addr → Value → Option Addr → TS) (Wout : WX) (D : Ends) : WX := fun cls d σ H =>
  ∃ b, PySem.W.exmAny K cls cs = some b ∧ (b = false → Wout cls d σ H) ∧ (b = true → ∀ a, H a = none → ts a cls d D σ H)
section
variable {X : Cx} {x1 x2 : Str} {c1 c2 : Value} {tk0 : Nat} {body suite : List Stmt} {b₀ : Stmt} {q1 q2 tp pos pos' : Pos} {tb : WX → TS} {ts : Addr → Value → Option Addr → TS} {Wout : WX}
theorem tup_here2 {Y : Cx} {pn : List (Addr × Obj)} {σ : L2.St} {H : Hp} {s : Shared} {Q : Value → Shared → Prop} {E : Value → Shared → Prop} (G : Inv Y pn σ H s) (h1 : Names Y x1 c1) (h2 : Names Y x2 c2)
    (q : Q (.ref s.heap.objs.size) { s with heap := s.heap.push { cls := .type "tuple", data := .seq [c1, c2].toArray } }) : wpAny (model Y.prog Y.w) Y.A (eval (.Tuple [.Name x1 q1, .Name x2 q2] tk0 tp) Y.env) Q E s := by
  refine wpAny_Tuple_spliced ?_
  exact Calls.spliced_cons (name_here G h1 (Calls.spliced_cons (name_here G h2 (Calls.spliced_nil ⟨by rw [sizeLine_eq]; simp, q⟩))))
theorem ps_try_onlyL (stk : X.stack = X.env :: X.outer) (fr : X.env.frame = some X.env.locals) (h1 : Names X x1 c1) (h2 : Names X x2 c2) (tk : Takes X Wout)
    (hb : ∀ (W : WX) (pn : List (Addr × Obj)) (xe : Value → Shared → Prop), Takes (X.tr pn xe) W → PassesOwn (model X.prog X.w) X.A X.env xe → PSs (X.tr pn xe) body (tb W))
    (hsu : ∀ (a : Addr) (oe : Obj) (cls : Value) (d : Option Addr) (pn : List (Addr × Obj)), Zc cls d oe → (∃ vs, oe.data = .fields vs) → PSs (X.suite a ((a, oe) :: pn)) (b₀ :: suite) (ts a cls d)) :
    PS X (.Try body [.ExceptHandler (some (.Tuple [.Name x1 q1, .Name x2 q2] tk0 tp)) none (b₀ :: suite) pos'] [] [] pos) (fun D σ H => tb (wOnlyL X.K [c1, c2] ts Wout D) D σ H) := by
  refine ⟨fun pins s σ H D G h => wpAny_Try_except ?_⟩
  have ok := G.ok
  have frames : X.A.frames = some (X.env :: X.outer) := ok.frames.trans (by rw [stk])
  have run := hb (wOnlyL X.K [c1, c2] ts Wout D) (X.pn ++ pins) (fun e s1 => wpAny (model X.prog X.w) X.A (noteFrame e X.env) (fun _ s2 => wpAny (model X.prog X.w) X.A (setFlight e none) (fun _ s3 =>
    wpAny (model X.prog X.w) X.A (handleBy e X.env [.ExceptHandler (some (.Tuple [.Name x1 q1, .Name x2 q2] tk0 tp)) none (b₀ :: suite) pos']) (SP X pins D) X.xe s3) X.xe s2) X.xe s1) (fun u sx caught => ?_) PassesOwn.looking
  · refine wpAny_mono (run.run [] s σ H D (G.toTry _) h) (fun f s1 hsp => ?_) fun _ _ z => z
    cases f with
    | next =>
      obtain ⟨σ', H', G', q⟩ := hsp
      exact wpAny_execs_nil ⟨σ', H', G'.ofTry ok, q⟩
    | brk => exact let ⟨σ', H', G', q⟩ := hsp; ⟨σ', H', G'.ofTry ok, q⟩
    | cont => exact let ⟨σ', H', G', q⟩ := hsp; ⟨σ', H', G'.ofTry ok, q⟩
    | ret u => exact let ⟨v, σ', H', G', r, q⟩ := hsp; ⟨v, σ', H', G'.ofTry ok, r, q⟩
  obtain ⟨a, B, sI, pins', σ1, H1, cls, d, rfl, G0, nb, up, sky, na, os, ag, b, hb1, hno, hyes⟩ := caught
  have G1 : Inv X pins σ1 H1 sI := G0.ofTry ok
  rw [stk] at sky
  show wpAny (model X.prog X.w) X.A (noteFrame (.ref a) X.env) _ _ _
  refine Sky.land Zc.steady frames fr sky fun hp2 fl2 up2 => ?_
  have G2 : Inv X pins σ1 H1 { sx with heap := hp2 } := G1.landed nb fl2.1 (up.trans up2) os ag
  have apart : ∀ {hp : Heap}, HandSPX.FlyingZ B (X.env :: X.outer) a (Zc cls d) hp → a ∉ frs (X.env :: X.outer) := fun fl hm => by
    obtain ⟨o, vs, e1, _, e3⟩ := fl.there
    obtain ⟨_, o', e4, nf⟩ := fl.2.2.1.mem hm
    rw [e1] at e4
    cases e4
    exact nf _ e3
  have noFr := apart fl2
  have noL : a ≠ X.env.locals := fun z => noFr (List.mem_filterMap.mpr ⟨X.env, List.mem_cons_self, by rw [fr, z]⟩)
  have noO : a ∉ X.fs := fun hm => by
    obtain ⟨e, he, q⟩ := List.mem_filterMap.mp hm
    exact noFr (List.mem_filterMap.mpr ⟨e, List.mem_cons_of_mem _ he, q⟩)
  obtain ⟨o2, v2, e2, z2, d2⟩ := fl2.there
  have GS := G2.suite e2 d2 na noL noO
  refine wpAny_handleBy_cons (codeAny_handlers_test ?_) (by intro q; cases q)
  refine tup_here2 (Y := X.suite a ((a, o2) :: (X.pn ++ pins))) GS h1 h2 ?_
  have k3 : ∀ c o, hp2.get? c = some o → (hp2.push { cls := .type "tuple", data := .seq [c1, c2].toArray }).get? c = some o := fun c o e => Heap.get?_push_of_some _ e
  have t3 : (hp2.push { cls := .type "tuple", data := .seq [c1, c2].toArray }).get? hp2.objs.size = some { cls := .type "tuple", data := .seq [c1, c2].toArray } := Heap.get?_push_at rfl rfl
  show wpAny _ _ (excMatches (.ref a) (.ref hp2.objs.size)) _ _ _
  generalize hp2.push { cls := .type "tuple", data := .seq [c1, c2].toArray } = hp3 at k3 t3
  have fl3 := flying_kept k3 fl2
  have up3 : sI.heap.UpToSlots hp3 := (up.trans up2).trans (Heap.UpToSlots.of_keeps k3)
  have G3 : Inv X pins σ1 H1 { sx with heap := hp3 } := G1.landed nb fl3.1 up3 os ag
  have look : PySem.W.Looks (model X.prog X.w) hp3 (typeOf (.ref a)) cls := fun A Q E s k q => wpAny_typeOf_ref (k _ _ (k3 _ _ e2)) (by rw [z2.1]; exact q)
  refine (PySem.W.exm_tup2 G3.kIn look t3 hb1).here ?_
  cases b with
  | false =>
    show wpAny _ X.A (handleBy (.ref a) X.env []) _ _ _
    refine wpAny_handleBy_nil ?_
    obtain ⟨_, _, _, o5, v5, T5, _, _, g1, _, g3, g4, _⟩ := id fl3
    have leave : wpAny (model X.prog X.w) X.A (setFlight (.ref a) X.env.frame) (fun _ s4 => wpAny (model X.prog X.w) X.A (throw (.ref a) : Sem Flow) (SP X pins D) X.xe s4) X.xe { sx with heap := hp3 } := by
      rw [fr]
      exact HandSPX.setFlight_upZ fl3 fun hp4 held up4 => wpAny_throw (tk _ _ ⟨a, B, sI, pins, σ1, H1, cls, d, rfl, G1, nb, up3.trans up4, .inr (.inr (by rw [stk]; exact held)), na, os, ag, hno rfl⟩)
    unfold PySem.passOn
    refine wpAny_bind (wpAny_field g1 g3 g4 ?_)
    rw [if_neg (by simp : ¬ (Value.ref T5 == Value.none) = true)]
    first
      | exact wpAny_bind leave
      | exact wpAny_bind (wpAny_pure (wpAny_bind leave))
  | true =>
    refine codeAny_handlers_suite ?_
    refine HandSPX.lands_againZ fl3 fun hp4 fl4 up4 => ?_
    have G4 : Inv X pins σ1 H1 { sx with heap := hp4 } := G1.landed nb fl4.1 (up3.trans up4) os ag
    obtain ⟨o4, v4, e4, z4, d4⟩ := fl4.there
    refine wpAny_mono ((hsu a o4 cls d (X.pn ++ pins) z4 ⟨_, d4⟩).run [] _ _ H1 _ (G4.suite e4 d4 na noL noO) (hyes rfl a na)) (fun f s6 hsp => ?_) fun _ _ z => z.elim
    cases f with
    | next => exact let ⟨σ6, H6, G6, q6⟩ := hsp; ⟨_, _, G6.unsuite ok, q6⟩
    | brk => exact let ⟨σ6, H6, G6, q6⟩ := hsp; ⟨_, _, G6.unsuite ok, q6⟩
    | cont => exact let ⟨σ6, H6, G6, q6⟩ := hsp; ⟨_, _, G6.unsuite ok, q6⟩
    | ret u => exact let ⟨v6, σ6, H6, G6, r6, q6⟩ := hsp; ⟨_, _, _, G6.unsuite ok, r6, q6⟩
end

/-! lambdas that are kept: the object told as it is, the cells lent for a call -/
/-- an object as it is -/
def Pin (a : Addr) (o : Obj) : HO := .ext fun h => h.get? a = some o
theorem pin_ok {P : Program} {w : World} {H : Hp} {h : Heap} {a : Addr} {o : Obj} (e : h.get? a = some o) : ObjOk P w H h a (Pin a o) :=
  ⟨e, ⟨o, e⟩, fun _ _ p st => st _ p⟩
theorem pin_get {P : Program} {w : World} {H : Hp} {h : Heap} {a : Addr} {o : Obj} (ok : HOk P w H h) (e : H a = some (Pin a o)) : h.get? a = some o := by
  obtain ⟨q, _⟩ := ok a _ e
  exact q
theorem pin_own {a x : Addr} {o : Obj} : Pin a o ≠ .own x := fun z => by unfold Pin at z; cases z
theorem pin_tup {a : Addr} {o : Obj} {xs : List V} : Pin a o ≠ .tup xs := fun z => by unfold Pin at z; cases z
theorem pin_lst {a : Addr} {o : Obj} {xs : List V} : Pin a o ≠ .lst xs := fun z => by unfold Pin at z; cases z
theorem pin_tbl {a : Addr} {o : Obj} {ps : Array Value} : Pin a o ≠ .tbl ps := fun z => by unfold Pin at z; cases z
open Classical in
noncomputable def dropC (C : Addr → Prop) (H : Hp) : Hp := fun b => if C b then none else H b
open Classical in
noncomputable def putC (C : Addr → Prop) (H0 H1 : Hp) : Hp := fun b => if C b then H0 b else H1 b
section
variable {C : Addr → Prop} {H H0 H1 : Hp} {b : Addr}
theorem drop_on (h : C b) : dropC C H b = none := by unfold dropC; rw [if_pos h]
theorem drop_off (h : ¬ C b) : dropC C H b = H b := by unfold dropC; rw [if_neg h]
theorem put_on (h : C b) : putC C H0 H1 b = H0 b := by unfold putC; rw [if_pos h]
theorem put_off (h : ¬ C b) : putC C H0 H1 b = H1 b := by unfold putC; rw [if_neg h]
end
/-- the objects at C, lent -/
structure Lent (C : Addr → Prop) (h : Heap) (H H' : Hp) : Prop where
  none : ∀ b, C b → H b = none
  off : ∀ b, ¬ C b → H' b = H b
  on : ∀ b, C b → ∃ o, h.get? b = some o ∧ H' b = some (Pin b o)
open Classical in
theorem lend_ex {C : Addr → Prop} {h : Heap} {H : Hp} (n : ∀ b, C b → H b = none) (e : ∀ b, C b → ∃ o, h.get? b = some o) : ∃ H', Lent C h H H' := by
  refine ⟨fun b => if C b then (h.get? b).map (Pin b) else H b, n, fun b hb => if_neg hb, fun b hb => ?_⟩
  obtain ⟨o, ho⟩ := e b hb
  exact ⟨o, ho, by rw [if_pos hb, ho]; rfl⟩
section
variable {P : Program} {w : World} {C : Addr → Prop} {h h' B : Heap} {H H' H1 HZ : Hp}
theorem Lent.nc (L : Lent C h H H') {b : Addr} {o : HO} (e : H b = some o) : ¬ C b := fun z => by
  rw [L.none b z] at e
  cases e
theorem Lent.ex (L : Lent C h H H') : Ex H H' := fun b o e => by rw [L.off b (L.nc e)]; exact e
theorem Lent.hok (L : Lent C h H H') (ok : HOk P w H h) : HOk P w H' h := by
  intro b o e
  by_cases hb : C b
  · obtain ⟨o', h1, h2⟩ := L.on b hb
    rw [h2] at e
    cases e
    exact pin_ok h1
  · rw [L.off b hb] at e
    exact (ok b o e).stay (fun _ _ _ q => q) (fun c q => L.ex _ _ q) fun c xs q => L.ex _ _ q
/-- what is lent in H', taken away -/
theorem drop_hok (hp : ∀ b, C b → ∃ o, H' b = some (Pin b o)) (ok : HOk P w H' h) : HOk P w (dropC C H') h := by
  intro b o e
  by_cases hb : C b
  · rw [drop_on hb] at e
    cases e
  · rw [drop_off hb] at e
    refine (ok b o e).stay (fun _ _ _ q => q) (fun c q => ?_) fun c xs q => ?_
    · rw [drop_off (fun z => ?_)]
      · exact q
      · obtain ⟨o', q'⟩ := hp c z
        rw [q'] at q
        exact pin_own (Option.some.inj q)
    · rw [drop_off (fun z => ?_)]
      · exact q
      · obtain ⟨o', q'⟩ := hp c z
        rw [q'] at q
        exact pin_tup (Option.some.inj q)
/-- a call that had C lent, behind it -/
theorem ce_back {outer : List Env} {s s' : Shared} {Q : VK} {u : Value} (L : Lent C s.heap H H')
    (c : CE outer P w H' s (fun v H2 => (∀ b, C b → H2 b = H' b) ∧ Q v (dropC C H2)) u s') : CE outer P w H s Q u s' := by
  obtain ⟨v, H2, os, bare, un, hok, r, hC, q⟩ := c
  have pins : ∀ b, C b → ∃ o, s.heap.get? b = some o ∧ H2 b = some (Pin b o) := fun b hb => by
    obtain ⟨o, h1, h2⟩ := L.on b hb
    exact ⟨o, h1, (hC b hb).trans h2⟩
  have at_ : ∀ b, C b → ∀ o, s.heap.get? b = some o → s'.heap.get? b = some o := fun b hb o e => by
    obtain ⟨o', h1, h2⟩ := pins b hb
    rw [h1] at e
    cases e
    exact pin_get hok h2
  refine ⟨v, dropC C H2, os, bare, ⟨fun b o e n hb hx => ?_, fun b o e n hb hx => ?_, fun b o e n hx => ?_, un.there, fun b xs e => ?_, fun b o u e => ?_, fun b ps e => ?_⟩, drop_hok (fun b hb => let ⟨o, _, q⟩ := pins b hb; ⟨o, q⟩) hok, r, q⟩
  · by_cases z : C b
    · exact at_ b z o e
    · exact un.keep b o e (by rw [L.off b z]; exact n) hb hx
  · by_cases z : C b
    · exact ⟨o.slots, at_ b z o e⟩
    · exact un.slot b o e (by rw [L.off b z]; exact n) hb hx
  · by_cases z : C b
    · exact drop_on z
    · rw [drop_off z]
      exact un.free b o e (by rw [L.off b z]; exact n) hx
  · rw [drop_off (L.nc e)]
    exact un.tups b xs (L.ex _ _ e)
  · rw [drop_off (L.nc e)]
    exact un.frzs b o u (L.ex _ _ e)
  · rw [drop_off (L.nc e)]
    exact un.tbls b ps (L.ex _ _ e)
/-- the other way about: C, told in HZ, taken away for a call -/
structure Told (C : Addr → Prop) (HZ : Hp) : Prop where
  on : ∀ b, C b → ∃ o, HZ b = some (Pin b o)
theorem Told.nc (T : Told C HZ) {b : Addr} (e : HZ b = none) : ¬ C b := fun z => by
  obtain ⟨o, q⟩ := T.on b z
  rw [e] at q
  cases q
theorem Told.ex (T : Told C HZ) (e : Ex (dropC C HZ) H1) : Ex HZ (putC C HZ H1) := fun b o q => by
  by_cases z : C b
  · rw [put_on z]
    exact q
  · rw [put_off z]
    exact e b o (by rw [drop_off z]; exact q)
theorem put_hok {fs : List Addr} (T : Told C HZ) (ok : HOk P w HZ h) (ok1 : HOk P w H1 B) (keep : ∀ b o, h.get? b = some o → dropC C HZ b = none → b ∉ fs → B.get? b = some o) (free : ∀ b o, h.get? b = some o → dropC C HZ b = none → H1 b = none)
    (hf : ∀ b ∈ fs, HZ b = none) : HOk P w (putC C HZ H1) B := by
  intro b o e
  by_cases z : C b
  · rw [put_on z] at e
    obtain ⟨o', q⟩ := T.on b z
    rw [q] at e
    cases e
    refine pin_ok (keep b o' (pin_get ok q) (drop_on z) fun hb => ?_)
    rw [hf b hb] at q
    cases q
  · rw [put_off z] at e
    have nc : ∀ c u, H1 c = some u → ¬ C c := fun c u q z => by
      obtain ⟨o', q'⟩ := T.on c z
      rw [free c o' (pin_get ok q') (drop_on z)] at q
      cases q
    exact (ok1 b o e).stay (fun _ _ _ q => q) (fun c q => by rw [put_off (nc _ _ q)]; exact q) fun c xs q => by rw [put_off (nc _ _ q)]; exact q
theorem ce_put {outer : List Env} {s s' : Shared} {Q : VK} {u : Value} (T : Told C HZ) (ok : HOk P w HZ s.heap) (hf : ∀ b ∈ frs outer, HZ b = none)
    (c : CE outer P w (dropC C HZ) s (fun v H1 => (∀ b, C b → H1 b = none) → Q v (putC C HZ H1)) u s') : CE outer P w HZ s Q u s' := by
  obtain ⟨v, H1, os, bare, un, hok, r, q⟩ := c
  have q := q fun b hb => let ⟨o, h⟩ := T.on b hb; un.free b o (pin_get ok h) (drop_on hb) (by simp)
  refine ⟨v, putC C HZ H1, os, bare, ⟨fun b o e n hb hx => ?_, fun b o e n hb hx => ?_, fun b o e n hx => ?_, un.there, fun b xs e => ?_, fun b o u e => ?_, fun b ps e => ?_⟩,
    put_hok (fs := frs outer) T ok hok (fun b o e n hb => un.keep b o e n hb (by simp)) (fun b o e n => un.free b o e n (by simp)) hf, r, q⟩
  · exact un.keep b o e (by rw [drop_off (T.nc n)]; exact n) hb hx
  · exact un.slot b o e (by rw [drop_off (T.nc n)]; exact n) hb hx
  · rw [put_off (T.nc n)]
    exact un.free b o e (by rw [drop_off (T.nc n)]; exact n) hx
  · have z : ¬ C b := fun z => by
      obtain ⟨o', q'⟩ := T.on b z
      rw [q'] at e
      exact pin_tup (Option.some.inj e)
    rw [put_off z]
    exact un.tups b xs (by rw [drop_off z]; exact e)
  · have z : ¬ C b := fun z => by
      obtain ⟨o', q'⟩ := T.on b z
      rw [q'] at e
      have e := Option.some.inj e
      unfold Pin at e
      cases e
    rw [put_off z]
    exact un.frzs b o u (by rw [drop_off z]; exact e)
  · have z : ¬ C b := fun z => by
      obtain ⟨o', q'⟩ := T.on b z
      rw [q'] at e
      exact pin_tbl (Option.some.inj e)
    rw [put_off z]
    exact un.tbls b ps (by rw [drop_off z]; exact e)
theorem cx_put {outer : List Env} {s s' : Shared} {E : XK} {u : Value} (T : Told C HZ) (ok : HOk P w HZ s.heap) (hf : ∀ b ∈ frs outer, HZ b = none)
    (c : L2.CX P w outer (dropC C HZ) s (fun cls d H1 => (∀ b, C b → H1 b = none) → E cls d (putC C HZ H1)) u s') : L2.CX P w outer HZ s E u s' := by
  obtain ⟨a, B, H1, cls, d, rfl, fl, hok, ub, na, os, ag, q⟩ := c
  have q := q fun b hb => let ⟨o, h⟩ := T.on b hb; ub.free b o (pin_get ok h) (drop_on hb)
  have nC : ¬ C a := fun z => by
    obtain ⟨o', q'⟩ := T.on a z
    have e := ub.keep a o' (pin_get ok q') (drop_on z) fun hb => by rw [hf a hb] at q'; cases q'
    rw [fl.2.1] at e
    cases e
  refine ⟨a, B, putC C HZ H1, cls, d, rfl, fl, put_hok (fs := frs outer) T ok hok (fun b o e n hb => ub.keep b o e n hb) (fun b o e n => ub.free b o e n) hf, ⟨fun b o e n hb => ?_, ub.slot, fun b o e n => ?_, ub.there, fun b xs e => ?_, fun b o u e => ?_, fun b ps e => ?_⟩, ?_, os, ag, q⟩
  · exact ub.keep b o e (by rw [drop_off (T.nc n)]; exact n) hb
  · rw [put_off (T.nc n)]
    exact ub.free b o e (by rw [drop_off (T.nc n)]; exact n)
  · have z : ¬ C b := fun z => by
      obtain ⟨o', q'⟩ := T.on b z
      rw [q'] at e
      exact pin_tup (Option.some.inj e)
    rw [put_off z]
    exact ub.tups b xs (by rw [drop_off z]; exact e)
  · have z : ¬ C b := fun z => by
      obtain ⟨o', q'⟩ := T.on b z
      rw [q'] at e
      have e := Option.some.inj e
      unfold Pin at e
      cases e
    rw [put_off z]
    exact ub.frzs b o u (by rw [drop_off z]; exact e)
  · have z : ¬ C b := fun z => by
      obtain ⟨o', q'⟩ := T.on b z
      rw [q'] at e
      exact pin_tbl (Option.some.inj e)
    rw [put_off z]
    exact ub.tbls b ps (by rw [drop_off z]; exact e)
  · rw [put_off nC]
    exact na
end
/-! ### cells, told with what they hold -/
def Ad (cells : List (Str × Addr)) : Addr → Prop := fun b => ∃ y, cells.lookup y = some b
structure CellsAt (N : List Str) (cells : List (Str × Addr)) (ok : Str → Prop) (σ : L2.St) (H : Hp) : Prop where
  cell : ∀ y c, cells.lookup y = some c → ok y → ∃ o v, H c = some (Pin c o) ∧ o.data = .cell v ∧ ∀ (i : Nat) (x : V), N[i]? = some y → σ[i]? = some (some x) → ∃ u, v = some u ∧ RelV x u
  len : σ.length = N.length
theorem CellsAt.ex {N : List Str} {cells : List (Str × Addr)} {ok : Str → Prop} {σ : L2.St} {H H' : Hp} (h : CellsAt N cells ok σ H) (e : ∀ b o, Ad cells b → H b = some (Pin b o) → H' b = some (Pin b o)) : CellsAt N cells ok σ H' :=
  ⟨fun y c hc hy => by
    obtain ⟨o, v, h1, h2, h3⟩ := h.cell y c hc hy
    exact ⟨o, v, e _ _ ⟨y, hc⟩ h1, h2, h3⟩, h.len⟩
/-! ### a thing that is called with nothing -/
def Thunk (P : Program) (w : World) (K : PySem.W.Frag) (mg : Str → Option Value) (base : Heap) (k : Nat) (f : Addr) (R : Hp → VK → XK → Prop) : Prop :=
  ∀ (A : Around) (outer : List Env) (s : Shared) (H : Hp) (Q : VK) (E : XK), Room k A → Env0 P w K mg base A outer s H → R H Q E →
    (∃ fd : FuncData, s.heap.get? f = some { cls := .type "function", data := .func fd }) ∧ codeAny (model P w) A (.call (.ref f) ⟨[], []⟩) (CR (L2.CX P w) outer P w H s Q E) s
/-- the context of a kept lambda's body -/
def thCx (P : Program) (w : World) (K : PySem.W.Frag) (mg : Str → Option Value) (base : Heap) (N : List Str) (qual : Str) (scope : Scope) (cells : List (Str × Addr)) (A : Around) (outer : List Env) (s : Shared) (H : Hp) (E : XK) (f c' : Addr) : Cx where
  prog := P
  w := w
  K := K
  mg := mg
  base := base
  A := A.deeper (PySem.W.envX qual scope s.heap.objs.size f (.ref c') cells)
  N := N
  s_0 := s
  H_0 := H
  env := PySem.W.envX qual scope s.heap.objs.size f (.ref c') cells
  outer := outer
  stack := PySem.W.envX qual scope s.heap.objs.size f (.ref c') cells :: outer
  ex := []
  fn := fun _ => false
  calm := true
  pn := []
  xe := fun e s' => wpAny (model P w) (A.deeper (PySem.W.envX qual scope s.heap.objs.size f (.ref c') cells)) (leaving (PySem.W.envX qual scope s.heap.objs.size f (.ref c') cells) e) (fun _ s'' => L2.CX P w outer H s E e s'') (fun e' s'' => L2.CX P w outer H s E e' s'') s'
theorem takes_th {P : Program} {w : World} {K : PySem.W.Frag} {mg : Str → Option Value} {base : Heap} {N : List Str} {qual : Str} {scope : Scope} {cells : List (Str × Addr)} {A : Around} {outer : List Env} {s : Shared} {H : Hp} {E : XK} {f c' : Addr} :
    Takes (thCx P w K mg base N qual scope cells A outer s H E f c') (offE E) := takes_of rfl rfl rfl rfl
/-- a lambda's own names: captured ones and globals -/
structure ThS (scope : Scope) (cells : List (Str × Addr)) : Prop where
  kind : scope.kind = .function
  co : scope.isCoroutine = false
  gen : scope.isGenerator = false
  own : ∀ y ∈ scope.names, y.2 ≠ .local ∧ y.2 ≠ .cell
  has : ∀ y, scope.names.lookup y = some .free → ∃ c, cells.lookup y = some c
  inj : ∀ x y c, cells.lookup x = some c → cells.lookup y = some c → x = y
section
variable {P : Program} {w : World} {K : PySem.W.Frag} {mg : Str → Option Value} {base : Heap} {N : List Str} {qual : Str} {scope : Scope} {cells : List (Str × Addr)} {A : Around} {outer : List Env} {s : Shared} {HZ : Hp} {E : XK} {f c' : Addr}
theorem CellsAt.told {σ : L2.St} (h : CellsAt N cells (fun _ => True) σ HZ) : Told (Ad cells) HZ :=
  ⟨fun b ⟨y, hy⟩ => let ⟨o, _, q, _⟩ := h.cell y b hy True.intro; ⟨o, q⟩⟩
theorem env0_drop {C : Addr → Prop} (T : Told C HZ) (e : Env0 P w K mg base A outer s HZ) : Env0 P w K mg base A outer s (dropC C HZ) :=
  ⟨e.frames, e.mod, fun b o q => ⟨(e.bs b o q).1, by rw [drop_off (T.nc (e.bs b o q).2)]; exact (e.bs b o q).2⟩, e.bsz, e.funs, fun b q => by rw [drop_off (T.nc (e.frf b q))]; exact e.frf b q, drop_hok T.on e.hok, e.bare⟩
theorem th_start {h₁ : Heap} {tk : Nat} {σ : L2.St} (L : ThS scope cells) (h : CellsAt N cells (fun _ => True) σ HZ) (e0 : Env0 P w K mg base A outer s HZ) (hd : A.handled = none)
    (hns : h₁.Ns s.heap.objs.size fun y => ([] : List (Str × Value)).reverse.lookup y) (kp : ∀ b o, s.heap.get? b = some o → h₁.get? b = some o) :
    Inv (thCx P w K mg base N qual scope cells A outer s (dropC (Ad cells) HZ) E f c') [] σ (dropC (Ad cells) HZ) { s with heap := h₁, toks := tk } := by
  have T := h.told
  have e1 := env0_drop T e0
  have noA : ∀ b : Addr, b ∉ (thCx P w K mg base N qual scope cells A outer s (dropC (Ad cells) HZ) E f c').ex := fun b z => absurd (show b ∈ ([] : List Addr) from z) (by simp)
  have cel : ∀ y c, cells.lookup y = some c → ∃ v, s.heap.IsCell c v ∧ ∀ (i : Nat) (x : V), N[i]? = some y → σ[i]? = some (some x) → ∃ u, v = some u ∧ RelV x u := fun y c hc => by
    obtain ⟨o, v, h1, h2, h3⟩ := h.cell y c hc True.intro
    exact ⟨v, ⟨o, pin_get e0.hok h1, h2⟩, h3⟩
  refine ⟨⟨e1.mod, L.kind, rfl, rfl, Nat.le_refl _, fun y z c h1 h2 => L.inj y z c h1 h2, fun y hy => ?_, fun y c z _ => ?_, fun _ => hd, Around.frames_deeper e1.frames, .inr ⟨rfl, rfl⟩, fun b z => absurd z (noA b), e1.bs, e1.bsz, fun b _ _ => noA b,
      fun b z => absurd z (noA b), e1.funs, e1.frf⟩,
    rfl, e1.bare, Un.kept kp, ⟨_, hns, fun i y v h1 h2 h3 => ?_⟩, fun y c e => ?_, e1.hok.fresh (Nat.le_refl _), fun y c e => ?_, fun q hq => absurd (show q ∈ ([] : List (Addr × Obj)) ++ [] from hq) (by simp), e1.hok.kept kp, h.len⟩
  · have hy : scope.names.lookup y = some .cell ∨ scope.names.lookup y = some .free := hy
    rcases hy with hy | hy
    · exact absurd rfl (L.own _ (PySem.mem_of_lookup hy)).2
    · exact L.has y hy
  · have z : false = true := z
    cases z
  · have h3 : Vis scope y := h3
    rcases h3 with k | k | k
    · exact absurd rfl (L.own _ (PySem.mem_of_lookup k)).1
    · exact absurd rfl (L.own _ (PySem.mem_of_lookup k)).2
    · obtain ⟨c, hc⟩ := L.has y k
      obtain ⟨v', hc', hv⟩ := cel y c hc
      obtain ⟨u, rfl, r⟩ := hv i v h1 h2
      exact ⟨u, r, .inr ⟨.inr k, c, hc, hc'.keeps kp⟩⟩
  · obtain ⟨v', hc', _⟩ := cel y c e
    exact ⟨v', hc'.keeps kp⟩
  · exact drop_on ⟨y, e⟩
/-- the promise of a kept lambda -/
theorem thunk_lam {k : Nat} {params : Arguments} {body : Expr} {pm ctv : Value} {t : XK → TE} (L : ThS scope cells)
    (hbind : bindArgs (PySem.W.kla_fn "<lambda>" qual params body scope cells pm (.ref c') ctv) ⟨[], []⟩ = pure [])
    (hbody : ∀ (A : Around) (outer : List Env) (s : Shared) (H : Hp) (E : XK), Room k (A.deeper (PySem.W.envX qual scope s.heap.objs.size f (.ref c') cells)) → PE (thCx P w K mg base N qual scope cells A outer s H E f c') body (t E)) :
    Thunk P w K mg base (k + 1) f (fun HZ Q E => HZ f = some (Pin f (PySem.W.kla_obj "<lambda>" qual params body scope cells pm c' ctv)) ∧ HZ c' = some (LamX.CodeO c' qual) ∧
      ∃ σ, CellsAt N cells (fun _ => True) σ HZ ∧ t (fun cls d H1 => (∀ b, Ad cells b → H1 b = none) → E cls d (putC (Ad cells) HZ H1)) σ (dropC (Ad cells) HZ) (fun v H1 => (∀ b, Ad cells b → H1 b = none) → Q v (putC (Ad cells) HZ H1))) := by
  intro A outer s HZ Q E hr e0 ⟨hf, hc, σ, hcel, ht⟩
  have T := hcel.told
  have of1 := pin_get e0.hok hf
  obtain ⟨⟨oc, vs, tt, hoc, hdc, hvc⟩, _, _⟩ := e0.hok c' _ hc
  refine ⟨⟨_, of1⟩, ?_⟩
  have nolim : s.heap.NoLimit := e0.mod.nolimit.keeps fun a o h => (e0.bs a o h).1
  have rc : codeAny (model P w) A (.call (.ref f) ⟨[], []⟩) (CR (L2.CX P w) outer P w (dropC (Ad cells) HZ) s (fun v H1 => (∀ b, Ad cells b → H1 b = none) → Q v (putC (Ad cells) HZ H1)) (fun cls d H1 => (∀ b, Ad cells b → H1 b = none) → E cls d (putC (Ad cells) HZ H1))) s := by
    refine PySem.W.kla_callFunE hr.depth of1 rfl L.co L.gen rfl ⟨c', oc, vs, tt, rfl, hoc, hdc, hvc⟩ ?_
    rw [hbind]
    refine wpAny_pure (wpAny_newFunctionEnv (fun y hy => (L.own y hy).2) (fun y hy => absurd hy (by simp)) (fun h₁ hns hsb => ⟨nolim.fresh _ hsb, ?_⟩) L.kind)
    show codeAny _ _ (.expr body (PySem.W.envX qual scope s.heap.objs.size f (.ref c') cells)) _ _
    have kp : ∀ b o, s.heap.get? b = some o → h₁.get? b = some o := fun b o e => hsb.extBut b o (Nat.ne_of_lt (Heap.lt_size e)) (Heap.get?_push_of_some _ e)
    have J : Inv (thCx P w K mg base N qual scope cells A outer s (dropC (Ad cells) HZ) (fun cls d H1 => (∀ b, Ad cells b → H1 b = none) → E cls d (putC (Ad cells) HZ H1)) f c') [] σ (dropC (Ad cells) HZ) { s with heap := h₁, toks := s.toks + ([] : List (Str × Value)).length } :=
      th_start L hcel e0 hr.hd hns kp
    refine PySem.W.kla_codeExpr (wpAny_mono ((hbody A outer s _ _ (hr.deeper _)).run [] _ _ _ _ J ht) (fun v s' hq => ?_) fun e s' hq => hq)
    obtain ⟨w', H', J', rv, q⟩ := hq
    exact ⟨w', H', J'.os, J'.bare, J'.base, J'.hok, rv, q⟩
  refine codeAny_mono rc fun r s' hq => ?_
  cases r with
  | error e => exact cx_put T e0.hok e0.frf hq
  | ok fl =>
    cases fl with
    | ret u => exact ce_put T e0.hok e0.frf hq
    | next => exact False.elim hq
    | brk => exact False.elim hq
    | cont => exact False.elim hq
end

/-! ## the law's call where one def of the text makes lambdas -/
/-- the code object c of a maker, its table Pt empty at the start -/
structure Maker (K : PySem.W.Frag) (h : Heap) (c Pt : Addr) : Prop where
  code : PySem.W.CodeHd h c Pt
  none : K.lookup Pt = none
  empty : h.get? Pt = some { cls := .none, data := .fields #[] }
theorem law_callGT {P : Program} {w : World} {K : PySem.W.Frag} {mg mb : Str → Option Value} {k : Nat} {fa a c Pt : Addr} {fd : FuncData} {x : Str} {sp : Sp} {s : Shared} {vs : List Value} {ns : List Int}
    (inK : K.In s.heap) (gl : s.heap.Ns mainGlobals mg) (bl : s.heap.Ns builtinsNs mb)
    (bb : ∀ y : Str, y ≠ "__name__" → mb y = bootBuiltins y) (nolim : s.heap.NoLimit) (gens : s.gens = #[]) (M : Maker K s.heap c Pt)
    (mods : ∃ (bm : Addr) (ob : Obj), mg "__builtins__" = some (.ref bm) ∧ bm ≠ builtinsNs ∧ s.heap.get? bm = some ob ∧ ob.cls = .type "module" ∧ ob.dict = some builtinsNs ∧ ob.data = .plain)
    (obj : s.heap.get? a = some { cls := .type "list", data := .seq vs.toArray }) (ia : IntsAre vs ns) (short : ns.length ≤ sizeLine) (hrm : Room k callerA)
    (F : ∀ base : Heap, K.In base → base.Ns mainGlobals mg → LamX.TabB base mg c Pt → FnG P w K mg base k fa fd [x] sp)
    (bind : ∀ (s : Shared) (u : Value), BindsTo s fd ⟨[u], []⟩ [(x, u)])
    (hsp : ∀ H : Hp, H Pt = some (.tbl #[]) → SqL K H a (ns.map V.int) → sp [.ref a] H (fun v _ => v = .bl true) fun _ _ _ => False) :
    codeAny (model P w) callerA (.call (.ref fa) ⟨[.ref a], []⟩)
      (fun r s' => r = .ok (.ret (.bool true)) ∧ OldK s.heap s'.heap ∧ s'.os = s.os ∧ AllBare s'.gens) s := by
  have vals := vals_ints ia
  have many := ia.length
  have aP : a ≠ Pt := fun z => by
    have q := M.empty
    rw [← z, obj] at q
    have d2 : Data.seq vs.toArray _ = Data.fields #[] := congrArg Obj.data (Option.some.inj q)
    cases d2
  have main : ∀ H : Hp, H Pt = some (.tbl #[]) → (∀ b, H b = none ∨ b = Pt ∨ ∃ o xs, H b = some (.frz o (.lst xs))) → SqL K H a (ns.map V.int) → HOk P w H s.heap → (∀ b, H b ≠ none → b = a ∨ b = Pt) → (H a ≠ none → K.lookup a = none) →
      codeAny (model P w) callerA (.call (.ref fa) ⟨[.ref a], []⟩)
        (fun r s' => r = .ok (.ret (.bool true)) ∧ OldK s.heap s'.heap ∧ s'.os = s.os ∧ AllBare s'.gens) s := by
    intro H tab only script hok alone notK
    have untracked : ∀ {b : Addr} {o : Obj}, s.heap.get? b = some o → (∀ us n, o.data ≠ .seq us n) → o.data ≠ .fields #[] → H b = none := by
      intro b o e d1 d2
      cases q : H b with
      | none => rfl
      | some u =>
        rcases alone b (by rw [q]; simp) with rfl | rfl
        · rw [obj] at e
          cases e
          exact (d1 _ _ rfl).elim
        · rw [M.empty] at e
          cases e
          exact (d2 rfl).elim
    have nsOf : ∀ {b : Addr} {m : Str → Option Value}, s.heap.Ns b m → (hidT s.heap H).Ns b m := by
      intro b m ⟨o, es, ep, e, d, r⟩
      exact ⟨o, es, ep, hidT_get e (untracked e (fun us n z => by rw [d] at z; cases z) fun z => by rw [d] at z; cases z), d, r⟩
    have inB : K.In (hidT s.heap H) := by
      intro b o e
      refine hidT_get (inK b o e) ?_
      cases q : H b with
      | none => rfl
      | some u =>
        rcases alone b (by rw [q]; simp) with rfl | rfl
        · have z := notK (by rw [q]; simp)
          rw [z] at e
          cases e
        · rw [M.none] at e
          cases e
    have md : Mod K mg (hidT s.heap H) := by
      obtain ⟨mc, h1, h2⟩ := nolim
      exact ⟨inB, nsOf gl, ⟨mb, nsOf bl, bb⟩, ⟨mc, nsOf h1, h2⟩⟩
    have env0 : Env0 P w K mg (hidT s.heap H) callerA [] s H :=
      ⟨rfl, md, fun b o e => of_hidT e, Nat.le_of_eq (hidT_size _ _), trivial, fun b z => absurd (show b ∈ ([] : List Addr) from z) (by simp), hok, .of_eq gens⟩
    have tb : LamX.TabB (hidT s.heap H) mg c Pt := by
      refine ⟨?_, ?_, fun z => ?_⟩
      · obtain ⟨o, us, f1, f2, f3, f4, f5, f6, f7, e1, r1, r2, r3, rest⟩ := M.code
        refine ⟨o, us, f1, f2, f3, f4, f5, f6, f7, hidT_get e1 (untracked e1 (fun zs n z => ?_) fun z => ?_), r1, r2, r3, rest⟩
        · rw [r2] at z
          cases z
        · rw [r2] at z
          cases z
          simp at r3
      · obtain ⟨bm, ob, b1, b2, b3, b4, b5, b6⟩ := mods
        have ng : bm ≠ mainGlobals := by
          rintro rfl
          obtain ⟨o, es, ep, e, d, _⟩ := gl
          rw [e] at b3
          cases b3
          rw [d] at b6
          cases b6
        have np : bm ≠ Pt := by
          rintro rfl
          rw [M.empty] at b3
          cases b3
          cases b6
        exact ⟨bm, ob, b1, b2, ng, np, hidT_get b3 (untracked b3 (fun zs n z => by rw [b6] at z; cases z) fun z => by rw [b6] at z; cases z), b4, b5, b6⟩
      · obtain ⟨o, es, ep, e, d, _⟩ := gl
        rw [z, M.empty] at e
        cases e
        cases d
    have run := (F _ inB (nsOf gl) tb).run callerA [] s H ⟨[.ref a], []⟩ [.ref a] [.ref a] _ _ rfl hrm env0 (bind s (.ref a)) (.cons rfl .nil) (hsp H tab script)
    refine codeAny_mono run fun r s' h => ?_
    cases r with
    | error e => exact h.elim
    | ok fl =>
      cases fl with
      | next => exact h.elim
      | brk => exact h.elim
      | cont => exact h.elim
      | ret u =>
        obtain ⟨v, H', os, bare, un, hok2, rel, q⟩ := h
        have q2 : v = .bl true := q
        subst q2
        obtain rfl : u = Value.bool true := rel
        have stays : ∀ b o, b ≠ Pt → s.heap.get? b = some o → s'.heap.get? b = some o := by
          intro b o nb e
          cases q : H b with
          | none =>
            have nn : b ∉ frs ([] : List Env) := fun z => absurd (show b ∈ ([] : List Addr) from z) (by simp)
            exact un.keep b o e q nn (by simp)
          | some u =>
            rcases only b with z | z | ⟨ob, xs, z⟩
            · rw [q] at z
              cases z
            · exact absurd z nb
            · obtain ⟨e1, _⟩ := hok b _ z
              obtain ⟨e2, _⟩ := hok2 b _ (un.frzs b ob _ z)
              rw [e] at e1
              cases e1
              exact e2
        obtain ⟨more, ht⟩ := un.tbls Pt #[] tab
        have grown : s'.heap.get? Pt = some { cls := .none, data := .fields (#[] ++ more) } := hok2 Pt _ ht
        refine ⟨rfl, ⟨fun b o e => ?_, fun b o e => ?_⟩, os, bare⟩
        · by_cases nb : b = Pt
          · subst nb
            have e0 := M.empty
            rw [e0] at e
            cases e
            exact .inr (.inl ⟨(M.code.tab M.empty).isCodeTable, rfl, #[], more, rfl, grown⟩)
          · exact .inl (stays b o nb e)
        · by_cases nb : b = Pt
          · subst nb
            exact ⟨_, grown⟩
          · exact ⟨o, stays b o nb e⟩
  cases hk : K.lookup a with
  | some o =>
    have e := inK a o hk
    rw [obj] at e
    cases e
    refine main (fun b => if b = Pt then some (.tbl #[]) else none) (if_pos rfl) (fun b => ?_) (.inr ⟨_, vs.toArray, _, hk, rfl, rfl, rfl, ?_, ?_⟩) (fun b u z => ?_) (fun b z => ?_) fun z => absurd (if_neg aP) z
    · by_cases eb : b = Pt
      · exact .inr (.inl eb)
      · exact .inl (if_neg eb)
    · rw [List.size_toArray, many]
      exact short
    · simpa using vals
    · by_cases eb : b = Pt
      · have z2 := (if_pos eb).symm.trans z
        cases z2
        subst eb
        exact M.empty
      · have z2 := (if_neg eb).symm.trans z
        cases z2
    · by_cases eb : b = Pt
      · exact .inr eb
      · exact absurd (if_neg eb) z
  | none =>
    refine main (fun b => if b = a then some (.frz { cls := .type "list", data := .seq vs.toArray } (.lst (ns.map V.int))) else if b = Pt then some (.tbl #[]) else none)
      ((if_neg aP.symm).trans (if_pos rfl)) (fun b => ?_) (.inl (.inr ⟨{ cls := .type "list", data := .seq vs.toArray }, if_pos rfl⟩)) (fun b u z => ?_) (fun b z => ?_) fun _ => hk
    · by_cases eb : b = a
      · exact .inr (.inr ⟨_, _, if_pos eb⟩)
      · by_cases ec : b = Pt
        · exact .inr (.inl ec)
        · exact .inl ((if_neg eb).trans (if_neg ec))
    · by_cases eb : b = a
      · have z2 := (if_pos eb).symm.trans z
        cases z2
        subst eb
        exact ⟨obj, by rw [List.length_map]; exact short, vs, _, vals, obj⟩
      · have z2 := (if_neg eb).symm.trans z
        by_cases ec : b = Pt
        · have z3 := (if_pos ec).symm.trans z2
          cases z3
          subst ec
          exact M.empty
        · have z3 := (if_neg ec).symm.trans z2
          cases z3
    · by_cases eb : b = a
      · exact .inl eb
      · by_cases ec : b = Pt
        · exact .inr ec
        · exact absurd ((if_neg eb).trans (if_neg ec)) z
/-- the goal behind such a head -/
theorem walkGT {l : PySem.W.OpenLaw} {n k : Nat} {q : Program} {loose : List Str} {XP : (Str → Option Value) → Heap → Prop} {YP : World → Heap → Prop} {d : DefRec} {K : Params → PySem.W.Frag} {sp : PySem.W.Frag → Addr → Addr → Sp} {x : Str}
    (hn : l.most = some n) (hn2 : n ≤ sizeLine) (hdf : d.params.defaults = []) (hrm : Room k callerA)
    (hY : ∀ (w : World) (h : Heap), YP w h → (K w.params).In h)
    (F : ∀ (w : World) (mg : Str → Option Value) (fa : Addr) (h : Heap), YP w h → (K w.params).In h → h.Ns mainGlobals mg → mg d.name = some (.ref fa) →
      ∃ (c Pt : Addr) (fd : FuncData), Maker (K w.params) h c Pt ∧ (∀ (s : Shared) (u : Value), BindsTo s fd ⟨[u], []⟩ [(x, u)]) ∧
        ∀ base : Heap, (K w.params).In base → base.Ns mainGlobals mg → LamX.TabB base mg c Pt → FnG l.prog w (K w.params) mg base k fa fd [x] (sp (K w.params) c Pt))
    (hsp : ∀ (K : PySem.W.Frag) (c Pt : Addr) (H : Hp) (a : Addr) (ns : List Int), ns.length ≤ n → H Pt = some (.tbl #[]) → SqL K H a (ns.map V.int) → sp K c Pt [.ref a] H (fun v _ => v = .bl true) fun _ _ _ => False) :
    PySem.W.WalkO q loose XP YP l.row.toRowW d [] (fun f vs => PySem.call f vs) := by
  refine Att.attach_call hn hdf fun w s₀ s₁ mg mb fa o pm cd doc a vs ns G Y ho hd hcd hmg hobj hints hlen hg => ?_
  obtain ⟨c, Pt, fd, M, hb, hF⟩ := F w mg fa _ Y (hY w _ Y) G.T.g hmg
  exact law_callGT (hY w _ Y) G.T.g G.T.b G.T.builtins G.T.nolimit hg M G.T.bmain hobj hints (Nat.le_trans hlen hn2) hrm hF hb fun H hT hS => hsp _ _ _ H a ns hlen hT hS

/-! ## a def of the law that makes lambdas: its own code object is c -/
structure FunC (K : PySem.W.Frag) (x qual : Str) (st : Stmt) (f : Addr) (fd : FuncData) (c : Addr) : Prop where
  ex : ∃ (oc : Value) (od : Option Addr) (kV doc pm : Value) (an : Option Addr) (ct : Value) (osl : Array (Option Value)),
    fd = PySem.W.fnOf x qual (defArgs st) (defBody st) (defScope st) .none kV doc pm an (.ref c) ct ∧ K.lookup f = some ⟨oc, od, .func fd, osl⟩ ∧ PySem.W.codeIn K (.ref c) qual = true
  kp : PySem.W.keepIn K (.ref f) = true
def DfC (K : PySem.W.Frag) (mg : Str → Option Value) (x : Str) (st : Stmt) (ps : List Str) (c : Addr) : Prop :=
  ∃ f fd, FunC K x x st f fd c ∧ mg x = some (.ref f) ∧ Binds K fd ps []
section
variable {P : Program} {w : World} {K : PySem.W.Frag} {mg : Str → Option Value} {base : Heap}
theorem okGc {x qual : Str} {st : Stmt} {f c : Addr} {fd : FuncData} {N ps : List Str} {k : Nat} {sp : Sp}
    (F : FunC K x qual st f fd c) (S : FnScope N ps (defScope st))
    (hlen : ∀ vs H Q E, sp vs H Q E → vs.length = ps.length)
    (hb : ∀ (A : Around) (outer : List Env) (s : Shared) (H : Hp) (vs : List V) (Q : VK) (E : XK),
      A.guards = some [] → Room k (A.deeper (envOfC qual (defScope st) s.heap.objs.size f (.ref c))) → sp vs H Q E →
      ∃ t, PSs (cxOf CX0 P w K mg base N qual (defScope st) f (.ref c) A outer s H E).nox (defBody st) t ∧
        t { nx := fun _ H' => Q .non H', rt := Q } (start N vs) H) :
    FnG P w K mg base (k + 1) f fd ps sp := by
  obtain ⟨oc, od, kV, doc, pm, an, ct, osl, rfl, look, hcode⟩ := F.ex
  constructor
  · exact hlen
  intro A outer s H args us vs Q E hgd hrm env0 hbinds rel hsp
  have hl := hlen _ _ _ _ hsp
  have inK : K.In s.heap := env0.mod.kin.keeps fun a o h => (env0.bs a o h).1
  have nolim : s.heap.NoLimit := env0.mod.nolimit.keeps fun a o h => (env0.bs a o h).1
  have kinds : ∀ y ∈ ps.zip us, (defScope st).names.lookup y.1 = some .local ∨
      ((defScope st).names.lookup y.1 = some .cell ∧ ((cellsFrom (s.heap.objs.size + 1) (defScope st).names []).lookup y.1).isSome = true) := by
    intro ⟨n, v⟩ hy
    cases S.par n (List.of_mem_zip hy).1 with
    | inl q => exact .inl q
    | inr q => exact .inr ⟨q, PySem.W.cellsFrom_some _ _ _ (.inl q)⟩
  apply codeAny_call_function hrm.depth (inK _ _ look) rfl S.co S.gen rfl
    (PySem.W.codeRec_of inK hcode) (hbinds _ _ _ _ ?_)
  refine wpAny_newFunctionEnv_cells S.kind kinds fun env henv s1 ic => ?_
  subst henv
  refine ⟨nolim.keeps ic.toInCall.keep, codeAny_func ?_⟩
  obtain ⟨t, ht, hq⟩ := hb A outer s H vs Q E hgd (hrm.deeper _) hsp
  have I := inv_start (CX := CX0) (E := E) S hrm.hd env0 hl rel ic
  refine wpAny_mono (ht.nox.run [] s1 (start N vs) H _ I hq) (fun fl s' hs => ?_) fun _ _ hs => hs
  have done : ∀ {σ' : L2.St} {H' : Hp} {v : V} {u : Value},
      Inv (cxOf CX0 P w K mg base N qual (defScope st) f (.ref c) A outer s H E) [] σ' H' s' → RelV v u → Q v H' →
      CE outer P w H s Q u s' := fun J rv q => ⟨_, _, J.os, J.bare, J.base, J.hok, rv, q⟩
  cases fl with
  | ret u =>
    obtain ⟨v, σ', H', J, rv, q⟩ := hs
    exact done J rv q
  | next =>
    obtain ⟨σ', H', J, q⟩ := hs
    exact done (v := V.non) (u := Value.none) J rfl q
  | brk =>
    obtain ⟨_, _, _, q⟩ := hs
    exact q.elim
  | cont =>
    obtain ⟨_, _, _, q⟩ := hs
    exact q.elim
theorem HasG.ofC {x : Str} {st : Stmt} {ps : List Str} {c : Addr} {k : Nat} {sp : Sp} (D : DfC K mg x st ps c)
    (h : ∀ f fd, FunC K x x st f fd c → FnG P w K mg base k f fd ps sp) : HasG P w K mg base x k ps sp := by
  obtain ⟨f, fd, F, hm, hb⟩ := D
  exact ⟨f, fd, h f fd F, hm, F.kp, hb⟩
end
/-- one reading or the other -/
theorem OpR.either {X : Cx} {g : Value → Value → Sem Value} {r1 r2 : R2} (h1 : OpR X g r1) (h2 : OpR X g r2) : OpR X g (fun x y H Q => r1 x y H Q ∨ r2 x y H Q) :=
  fun pins s σ H x y v u Q I rx ry q => q.elim (h1 pins s σ H x y v u Q I rx ry) (h2 pins s σ H x y v u Q I rx ry)
/-! ### heaps whose tables may have grown -/
abbrev ExN (H H' : Hp) : Prop := LamX.ExtN H H'
theorem Ex.n {H H' : Hp} (e : Ex H H') : ExN H H' := LamX.ExtN.of e
theorem ExN.trans {H H1 H2 : Hp} (a : ExN H H1) (b : ExN H1 H2) : ExN H H2 := LamX.ExtN.trans a b
theorem ExN.refl (H : Hp) : ExN H H := LamX.ExtN.refl H
/-- all but lists and tables -/
def KpN (H H' : Hp) : Prop := ∀ a o, H a = some o → (∀ xs, o ≠ .lst xs) → (∀ ps, o ≠ .tbl ps) → H' a = some o
theorem Kp.n {H H' : Hp} (e : Kp H H') : KpN H H' := fun a o h n _ => e a o h n
theorem ExN.kn {H H' : Hp} (e : ExN H H') : KpN H H' := fun a o h _ n => e a o h n
theorem KpN.trans {H H1 H2 : Hp} (a : KpN H H1) (b : KpN H1 H2) : KpN H H2 := fun x o h n m => b x o (a x o h n m) n m
theorem KpN.refl (H : Hp) : KpN H H := fun _ _ h _ _ => h
theorem sqT_kn {K : PySem.W.Frag} {H H' : Hp} {a : Addr} {xs : List V} (h : SqT K H a xs) (e : KpN H H') : SqT K H' a xs := by
  rcases h with (h | ⟨o, h⟩) | h
  · exact .inl (.inl (e _ _ h (fun _ z => nomatch z) (fun _ z => nomatch z)))
  · exact .inl (.inr ⟨o, e _ _ h (fun _ z => nomatch z) (fun _ z => nomatch z)⟩)
  · exact .inr h
theorem sqL_en {K : PySem.W.Frag} {H H' : Hp} {a : Addr} {xs : List V} (h : SqL K H a xs) (e : ExN H H') : SqL K H' a xs := by
  rcases h with (h | ⟨o, h⟩) | h
  · exact .inl (.inl (e _ _ h (fun _ z => nomatch z)))
  · exact .inl (.inr ⟨o, e _ _ h (fun _ z => nomatch z)⟩)
  · exact .inr h
theorem ExN.lst {H H' : Hp} (e : ExN H H') {a : Addr} {xs : List V} (h : H a = some (.lst xs)) : H' a = some (.lst xs) := e _ _ h (fun _ z => nomatch z)
/-- all but the vat and the tables -/
structure Gn (v : Addr) (H H' : Hp) : Prop where
  old : VatAt H v
  keep : ∀ a o, a ≠ v → H a = some o → (∀ ps, o ≠ .tbl ps) → H' a = some o
  new : VatAt H' v
theorem VatAt.en {H H' : Hp} {v : Addr} (h : VatAt H v) (e : ExN H H') : VatAt H' v := by
  obtain ⟨a, b, c, h1, h2⟩ := h
  exact ⟨a, b, c, e.lst h1, h2⟩
theorem Gv.n {v : Addr} {H H' : Hp} (g : Gv v H H') : Gn v H H' := ⟨g.old, fun a o n h _ => g.keep a o n h, g.new⟩
theorem Gn.refl {v : Addr} {H : Hp} (h : VatAt H v) : Gn v H H := (Gv.refl h).n
theorem Gn.trans {v : Addr} {H H1 H2 : Hp} (a : Gn v H H1) (b : Gn v H1 H2) : Gn v H H2 :=
  ⟨a.old, fun x o n h m => b.keep x o n (a.keep x o n h m) m, b.new⟩
theorem Gn.en {v : Addr} {H H1 H2 : Hp} (a : Gn v H H1) (b : ExN H1 H2) : Gn v H H2 :=
  a.trans ⟨a.new, fun _ _ _ h m => b _ _ h m, a.new.en b⟩
theorem Gn.out {v : Addr} {H H1 H2 : Hp} (n : H v = none) (e : Ex H H1) (g : Gn v H1 H2) : ExN H H2 := fun a o h m =>
  g.keep a o (fun z => by rw [z, n] at h; cases h) (e a o h) m
theorem Gn.kn {v : Addr} {H H' : Hp} (g : Gn v H H') : KpN H H' := fun a o h n m => by
  refine g.keep a o (fun z => ?_) h m
  obtain ⟨x, y, w, h1, _⟩ := g.old
  rw [z, h1] at h
  exact n _ (Option.some.inj h).symm
/-- the list p is written, else nothing -/
theorem Gn.set {v p : Addr} {H H1 : Hp} {o : HO} (g : Gn v H H1) (n : H p = none) (pv : p ≠ v) : Gn v H (L2.upd H1 p o) := by
  refine ⟨g.old, fun a u ha h m => ?_, ?_⟩
  · rw [upd_ne (ne_of_none h n)]
    exact g.keep a u ha h m
  · obtain ⟨x, y, z, h1, h2⟩ := g.new
    exact ⟨x, y, z, by rw [upd_ne (Ne.symm pv)]; exact h1, h2⟩
/-! ### the table of lambdas, kept -/
abbrev Tb (Pt : Addr) (q : Str) (H : Hp) : Prop := LamX.Tabs [(Pt, q)] H
theorem Tb.ex {Pt : Addr} {q : Str} {H H' : Hp} (t : Tb Pt q H) (e : Ex H H') : Tb Pt q H' := LamX.Tabs.ext t e
/-- what keeps all but lists keeps the table -/
theorem Tb.kp {Pt : Addr} {q : Str} {H H' : Hp} (t : Tb Pt q H) (e : Kp H H') : Tb Pt q H' := by
  intro y hy
  obtain ⟨ps, h1, h2, h3⟩ := t y hy
  refine ⟨ps, e _ _ h1 (fun _ z => nomatch z), h2, fun pos cv hc => ?_⟩
  obtain ⟨c, e1, e2⟩ := h3 pos cv hc
  exact ⟨c, e1, e _ _ e2 (fun _ z => by unfold LamX.CodeO at z; cases z)⟩
theorem Tb.start {Pt : Addr} {q : Str} {H : Hp} (h : H Pt = some (.tbl #[])) : Tb Pt q H := by
  intro y hy
  rw [List.mem_singleton.mp hy]
  exact LamX.TabS.nil h

/-! kept lambdas: made, called, handed on -/
section
variable {X : Cx} {pins : List (Addr × Obj)} {σ : L2.St} {H : Hp} {s : Shared}
abbrev lamQ0 (X : Cx) : Str := X.env.qual ++ "<lambda>"
abbrev lamC (X : Cx) (scope : Scope) : List (Str × Addr) := cloFrom X.env.cells scope.names []
abbrev lamO (X : Cx) (params : Arguments) (body : Expr) (scope : Scope) (pm : Value) (c' : Addr) (ctv : Value) : Obj := PySem.W.kla_obj "<lambda>" (lamQ0 X) params body scope (lamC X scope) pm c' ctv
/-- the table of code objects with one more -/
theorem tabs_put {T : List (Addr × Str)} {P c' : Addr} {q : Str} {ps ps' : Array Value} {pos : Pos} (hT : LamX.Tabs T H) (hP : H P = some (.tbl ps)) (tri : TriplesOk ps.toList) (hu : ∀ p ∈ T, p.1 = P → p.2 = q)
    (hps : ps'.toList = ps.toList ++ [rawInt pos.line, rawInt pos.col, .ref c']) (nc : H c' = none) :
    LamX.ExtN H (upd (upd H P (.tbl ps')) c' (LamX.CodeO c' q)) ∧ LamX.Tabs T (upd (upd H P (.tbl ps')) c' (LamX.CodeO c' q)) := by
  have old : LamX.ExtN H (upd (upd H P (.tbl ps')) c' (LamX.CodeO c' q)) := fun b o e n => by
    have b1 : b ≠ P := fun z => by rw [z, hP] at e; exact n ps (Option.some.inj e).symm
    rw [upd_ne (ne_of_none e nc), upd_ne b1, e]
  refine ⟨old, fun p hp => ?_⟩
  obtain ⟨qs, hq, tq, among⟩ := hT p hp
  by_cases at_ : p.1 = P
  · have eq : qs = ps := by
      rw [at_, hP] at hq
      injection hq with e
      injection e with e
      exact e.symm
    subst eq
    refine ⟨ps', by rw [at_, upd_ne (ne_of_none hP nc), upd_same], by rw [hps]; exact PySem.TriplesOk_snoc _ _ _ _ tri, fun pos' cv hc => ?_⟩
    rw [hps] at hc
    cases LamX.among_app _ tri hc with
    | inl was => exact let ⟨c0, e1, e2⟩ := among pos' cv was; ⟨c0, e1, old _ _ e2 LamX.codeO_ne⟩
    | inr new => exact ⟨c', new, by rw [hu p hp at_]; exact upd_same⟩
  · exact ⟨qs, by rw [upd_ne (ne_of_none hq nc), upd_ne at_, hq], tq, fun pos' cv hc => let ⟨c0, e1, e2⟩ := among pos' cv hc; ⟨c0, e1, old _ _ e2 LamX.codeO_ne⟩⟩
/-- a new object is pinned as it is -/
theorem inv_pin {G : Heap} {tk : Nat} {H1 : Hp} (o : Obj) (J : Inv X pins σ H1 { s with heap := G, toks := tk }) (live : o.isFreed = false := by rfl) :
    Inv X pins σ (upd H1 G.objs.size (Pin G.objs.size o)) { s with heap := G.push o, toks := tk } :=
  J.laid (t' := tk) (fun b u e => Heap.get?_push_of_some _ e) (Nat.le_refl _) (pin_ok (Heap.get?_push_size _ live))
/-- the lambda is made and told -/
theorem lam_make3 {T : List (Addr × Str)} {c P : Addr} {params : Arguments} {body : Expr} {scope : Scope} {pos : Pos} {E : Value → Shared → Prop} {Q : Value → Shared → Prop} (I : Inv X pins σ H s) (TB : LamX.TabB X.base X.mg c P) (hcode : X.env.code = .ref c)
    (hm : (P, lamQ0 X) ∈ T) (hu : ∀ p ∈ T, p.1 = P → p.2 = lamQ0 X) (hT : LamX.Tabs T H) (hdef : defaultsOf params X.env = ([], [])) (hfree : ∀ y ∈ scope.names, y.2 = .free → ∃ c, X.env.cells.lookup y.1 = some c)
    (h : ∀ (f c' : Addr) (pm ctv : Value) (H1 : Hp) (s' : Shared), Inv X pins σ (upd H1 f (Pin f (lamO X params body scope pm c' ctv))) s' → LamX.ExtN H H1 → LamX.Tabs T H1 → H1 f = none → H1 c' = some (LamX.CodeO c' (lamQ0 X)) → Q (.ref f) s') :
    wpAny (model X.prog X.w) X.A (eval (.Lambda params body scope pos) X.env) Q E s := by
  apply PySem.W.kla_eval hdef
  obtain ⟨ps, isTbl, tri, among⟩ := hT _ hm
  have tblAt : s.heap.get? P = some { cls := .none, data := .fields ps } := I.hok P _ isTbl
  have glob := I.mod.glob.keeps I.bk
  have code := TB.code.keeps I.bk
  have blt := TB.bm.keeps I.bk
  have clo := closure_ok hfree
  cases hc : codeAmong pos ps.toList with
  | some cv =>
    obtain ⟨c', rfl, told⟩ := among pos cv hc
    apply PySem.W.kla_makeFunctionHit (mg := X.mg) (c := c) (P := P) (ps := ps) clo I.ok.glob glob hcode code tblAt tri hc blt
    intro ctv G tk keep grew
    exact h _ c' _ ctv H _ (inv_pin _ (I.kept fun b o e => keep b o e)) (LamX.ExtN.refl H) hT (I.hok.fresh grew) told
  | none =>
    apply PySem.W.kla_makeFunction (mg := X.mg) (c := c) (P := P) (ps := ps) clo I.ok.glob glob hcode code tblAt tri hc TB.gP blt
    rintro c' ctv G tk keep newer older ⟨c2, oc, vs, t, same, hoc, hd, hv⟩ table
    cases same
    have grew : s.heap.objs.size ≤ G.objs.size := by omega
    obtain ⟨old, tabs⟩ := tabs_put (c' := c') (pos := pos) (q := lamQ0 X) (ps' := ps ++ #[rawInt pos.line, rawInt pos.col, .ref c']) hT isTbl tri hu (by simp) (I.hok.fresh newer)
    have J := LamX.inv_table (t' := tk) (more := #[rawInt pos.line, rawInt pos.col, .ref c']) (h' := G) I isTbl (fun b o nb e => keep b o nb e) table newer ⟨oc, vs, t, hoc, hd, hv⟩
    refine h _ c' _ ctv _ _ (inv_pin _ J) old tabs ?_ upd_same
    have below := Heap.lt_size tblAt
    rw [upd_ne (Nat.ne_of_gt older), upd_ne (Nat.ne_of_gt (Nat.lt_of_lt_of_le below grew))]
    exact I.hok.fresh grew
/-- lambda: body, as a value -/
def tLamK (X : Cx) (T : List (Addr × Str)) (params : Arguments) (body : Expr) (scope : Scope) : TE := fun _ H Q => LamX.Tabs T H ∧
  ∀ (f c' : Addr) (pm ctv : Value) (H1 : Hp), X.Ok → ExN H H1 → LamX.Tabs T H1 → H1 f = none → H1 c' = some (LamX.CodeO c' (lamQ0 X)) → Q (.ref f) (upd H1 f (Pin f (lamO X params body scope pm c' ctv)))
theorem pe_lamK {T : List (Addr × Str)} {c P : Addr} {params : Arguments} {body : Expr} {scope : Scope} {pos : Pos} (TB : LamX.TabB X.base X.mg c P) (hcode : X.env.code = .ref c)
    (hm : (P, lamQ0 X) ∈ T) (hu : ∀ p ∈ T, p.1 = P → p.2 = lamQ0 X) (L : LamX.LamS X.env.scope scope := by exact LamX.lamS_by rfl) (hdef : defaultsOf params X.env = ([], []) := by rfl) :
    PE X (.Lambda params body scope pos) (tLamK X T params body scope) := by
  refine ⟨fun pins s σ H Q I h => ?_⟩
  obtain ⟨hT, h⟩ := h
  exact lam_make3 I TB hcode hm hu hT hdef (L.has I.ok) fun f c' pm ctv H1 s' I1 eN T1 hn hc => ⟨V.ref f, _, I1, rfl, h f c' pm ctv H1 I.ok eN T1 hn hc⟩
/-! ### the captured cells -/
theorem clo_cell {scope : Scope} (L : LamX.LamS X.env.scope scope) (ok : X.Ok) {y : Str} {c : Addr} (e : (lamC X scope).lookup y = some c) : X.env.cells.lookup y = some c ∧ (X.env.kindOf y = some .cell ∨ X.env.kindOf y = some .free) := by
  cases cloFrom_mem (PySem.mem_of_lookup e) with
  | inl none_ => cases none_
  | inr q =>
    obtain ⟨d, there⟩ := L.has ok _ q.1 rfl
    have there : X.env.cells.lookup y = some d := there
    have same : c = d := by
      rw [q.2, there] <;> rfl
    exact ⟨same ▸ there, L.free _ q.1 rfl⟩
theorem clo_th {scope : Scope} (L : LamX.LamS X.env.scope scope) (ok : X.Ok) : ThS scope (lamC X scope) :=
  ⟨L.kind, L.co, L.gen, L.own, fun y hl => mem_lookup (cloFrom_has (cells := X.env.cells) (acc := []) (PySem.mem_of_lookup hl)), fun y z c h1 h2 => ok.inj y z c (clo_cell L ok h1).1 (clo_cell L ok h2).1⟩
/-- the cells of X, lent -/
abbrev okN (X : Cx) : Str → Prop := fun y => X.env.kindOf y = some .cell ∨ X.env.kindOf y = some .free
theorem clo_at {scope : Scope} (L : LamX.LamS X.env.scope scope) (ok : X.Ok) (h : CellsAt X.N X.env.cells (okN X) σ H) : CellsAt X.N (lamC X scope) (fun _ => True) σ H :=
  ⟨fun y c e _ => h.cell y c (clo_cell L ok e).1 (clo_cell L ok e).2, h.len⟩
theorem clo_sub {scope : Scope} (L : LamX.LamS X.env.scope scope) (ok : X.Ok) {b : Addr} (h : Ad (lamC X scope) b) : Ad X.env.cells b :=
  let ⟨y, e⟩ := h; ⟨y, (clo_cell L ok e).1⟩
/-- what is known while they are lent -/
structure LentX (X : Cx) (σ : L2.St) (H H' : Hp) : Prop where
  none : ∀ b, Ad X.env.cells b → H b = none
  off : ∀ b, ¬ Ad X.env.cells b → H' b = H b
  on : ∀ b, Ad X.env.cells b → ∃ o, H' b = some (Pin b o)
  at_ : CellsAt X.N X.env.cells (okN X) σ H'
theorem LentX.ex {H' : Hp} (L : LentX X σ H H') : Ex H H' := fun b o e => by
  rw [L.off b fun z => by rw [L.none b z] at e; cases e]
  exact e
theorem LentX.back {H' H2 : Hp} (L : LentX X σ H H') (e : ExN H' H2) : (∀ b, Ad X.env.cells b → H2 b = H' b) ∧ ExN H (dropC (Ad X.env.cells) H2) := by
  refine ⟨fun b hb => ?_, fun b o q n => ?_⟩
  · obtain ⟨o, h⟩ := L.on b hb
    rw [h]
    exact e b _ h fun ps => pin_tbl
  · rw [drop_off fun z => by rw [L.none b z] at q; cases q]
    exact e b o (L.ex _ _ q) n
theorem lend_inv (I : Inv X pins σ H s) : ∃ H', Lent (Ad X.env.cells) s.heap H H' ∧ LentX X σ H H' := by
  obtain ⟨H', L⟩ := lend_ex (C := Ad X.env.cells) (h := s.heap) (H := H) (fun b ⟨y, e⟩ => I.freeC y b e) fun b ⟨y, e⟩ => by
    obtain ⟨v, o, ho, _⟩ := I.cell y b e
    exact ⟨o, ho⟩
  refine ⟨H', L, L.none, L.off, fun b hb => let ⟨o, _, q⟩ := L.on b hb; ⟨o, q⟩, ⟨fun y c hc hy => ?_, I.len⟩⟩
  obtain ⟨v, o, ho, hd⟩ := I.cell y c hc
  obtain ⟨o', ho', q⟩ := L.on c ⟨y, hc⟩
  rw [ho] at ho'
  cases ho'
  refine ⟨o, v, q, hd, fun i x h1 h2 => ?_⟩
  obtain ⟨m, _, hl⟩ := I.loc
  obtain ⟨u, r, l⟩ := hl i y x h1 h2 (hy.elim (fun k => .inr (.inl k)) (fun k => .inr (.inr k)))
  refine ⟨u, ?_, r⟩
  rcases l with ⟨k, _⟩ | ⟨_, c3, e3, z⟩
  · have k : X.env.kindOf y = some .local := k
    rcases hy with z | z <;> rw [z] at k <;> cases k
  · rw [hc] at e3
    cases e3
    obtain ⟨o2, ho2, hd2⟩ := z
    rw [ho] at ho2
    cases ho2
    rw [hd] at hd2
    injection hd2
/-- the cells stand apart from frames and from what was there -/
theorem cells_new (I : Inv X pins σ H s) (hf : ∀ y, X.fn y = true) {b : Addr} (h : Ad X.env.cells b) : X.base.get? b = none ∧ b ∉ frs X.stack := by
  obtain ⟨y, e⟩ := h
  have ge := I.ok.cab y b (hf y) e
  refine ⟨?_, fun hb => ?_⟩
  · cases q : X.base.get? b with
    | none => rfl
    | some o => exact absurd (Nat.lt_of_lt_of_le (Heap.lt_size (I.ok.bs b o q).1) ge) (Nat.lt_irrefl _)
  · rcases List.mem_cons.mp (I.stkSub b hb) with z | z
    · exact I.cne y b e z
    · obtain ⟨_, o, ho, _⟩ := I.ok.funs.mem z
      exact absurd (Nat.lt_of_lt_of_le (Heap.lt_size ho) ge) (Nat.lt_irrefl _)
theorem lend_env0 {H' : Hp} (I : Inv X pins σ H s) (hf : ∀ y, X.fn y = true) (L : Lent (Ad X.env.cells) s.heap H H') : Env0 X.prog X.w X.K X.mg X.base X.A X.stack s H' := by
  have e := I.env0
  refine ⟨e.frames, e.mod, fun b o q => ⟨(e.bs b o q).1, ?_⟩, e.bsz, e.funs, fun b q => ?_, L.hok e.hok, e.bare⟩
  · rw [L.off b fun z => by rw [(cells_new I hf z).1] at q; cases q]
    exact (e.bs b o q).2
  · rw [L.off b fun z => (cells_new I hf z).2 q]
    exact e.frf b q
/-- x(e, ..) while the cells are lent -/
def tLend (X : Cx) (sp : Sp) (t : TA) : TE := fun σ H Q => t σ H fun vs H1 => ∀ H', X.Ok → LentX X σ H1 H' → sp vs H' (fun v H2 => (∀ b, Ad X.env.cells b → H2 b = H' b) ∧ Q v (dropC (Ad X.env.cells) H2)) E0
theorem pe_lendG {x : Str} {k : Nat} {ps : List Str} {sp : Sp} {p pos : Pos} {e : Expr} {es : List Expr} {t : TA}
    (h : HasG X.prog X.w X.K X.mg X.base x k ps sp) (hgd : X.A.guards = some []) (hr : Room k X.A) (ha : PA X (e :: es) t) (hf : ∀ y, X.fn y = true := by intro _; rfl) (hg : Gl X x := by rfl)
    (hdb : (x == ("__debug__" : Str)) = false := by decide)
    (he : starEach (e :: es) X.env = (false, eval e X.env) :: starEach es X.env := by rfl)
    (hpl : (backTo pos (starEach es X.env)).any (·.1) = false := by rfl) :
    PE X (.Call (.Name x p) (e :: es) [] pos) (tLend X sp t) := by
  obtain ⟨f, fd, F, hm, hk, hb⟩ := h
  refine ⟨fun pins s σ H Q I hq => ?_⟩
  apply wpAny_Call_Name_kw (ld_glob I hg hm ?_ hdb)
  apply PySem.W.callWith_K (h₀ := X.base) I.ok.mod.kin hk ?_ he hpl
  refine thn (ha.run pos pins s σ H _ I hq) fun us s1 ⟨vs, H1, I1, rel, hsp⟩ => ⟨I1.kIn, ?_⟩
  obtain ⟨H', L, LX⟩ := lend_inv I1
  have hsp := hsp H' I1.ok LX
  have hl : us.length = ps.length := by rw [← rel.length]; exact F.len _ _ _ _ hsp
  have bnd := hb s1 us I1.kIn (by rw [List.append_nil]; exact hl)
  rw [List.append_nil] at bnd
  refine wpAny_call (codeAny_mono (F.run X.A X.stack s1 H' ⟨us, []⟩ us vs _ E0 hgd hr (lend_env0 I1 hf L) bnd rel hsp) fun r s' hc => ?_)
  cases r with
  | error er => exact (show False from hc).elim
  | ok fl =>
    cases fl with
    | ret u => exact I1.after (ce_back L hc)
    | next => exact hc.elim
    | brk => exact hc.elim
    | cont => exact hc.elim
/-- x(), x a slot that holds a thing that is called with nothing -/
def tAct (P : Program) (w : World) (K : PySem.W.Frag) (mg : Str → Option Value) (base : Heap) (k i : Nat) (E : XK) : TE := fun σ H Q => ∃ (f : Addr) (R : Hp → VK → XK → Prop), σ[i]? = some (some (.ref f)) ∧ Thunk P w K mg base k f R ∧ R H Q E
theorem pe_actK {W : WX} {E : XK} {k i : Nat} {a : Str} {p1 p2 : Pos} (tk : Takes X W) (hW : ∀ cls d σ' H', E cls d H' → W cls d σ' H') (hr : Room k X.A)
    (hN : X.N[i]? = some a) (hv : Vis X.env.scope a) (hd : (a == ("__debug__" : Str)) = false := by decide) (hcd : (a == ("__classdict__" : Str)) = false := by decide) :
    PE X (.Call (.Name a p1) [] [] p2) (tAct X.prog X.w X.K X.mg X.base k i E) := by
  constructor
  rintro pins s σ H Q I ⟨f, R, at_, T, hR⟩
  apply wpAny_Call_Name_kw
  apply thn ((pe_var (pos := p1) (i := i) hN hv hd hcd).run pins s σ H (fun v H1 => v = .ref f ∧ H1 = H) I ⟨.ref f, at_, rfl, rfl⟩)
  rintro u s1 ⟨_, _, I1, rel, rfl, rfl⟩
  have eu : u = Value.ref f := rel
  rw [eu]
  obtain ⟨⟨fd, hf⟩, rc⟩ := T X.A X.stack s1 _ Q E hr I1.env0 hR
  apply PySem.W.callWith_F0 ⟨_, _, _, _, hf⟩
  apply wpAny_call
  apply codeAny_mono rc
  rintro (e | fl) s' came
  · exact passes_call tk hW pins σ _ s1 e s' I1 came
  · match fl, came with
    | .ret u, came => exact I1.after came
end

/-! the same where an exception's context is known to be None (a list is walked in the suite) -/
section
variable {P : Program} {w : World} {C : Addr → Prop} {h h' B : Heap} {H H' H1 HZ : Hp}
theorem cx_putN {outer : List Env} {s s' : Shared} {E : XK} {u : Value} (T : Told C HZ) (ok : HOk P w HZ s.heap) (hf : ∀ b ∈ frs outer, HZ b = none)
    (c : L2N.CX P w outer (dropC C HZ) s (fun cls d H1 => (∀ b, C b → H1 b = none) → E cls d (putC C HZ H1)) u s') : L2N.CX P w outer HZ s E u s' := by
  obtain ⟨a, B, H1, cls, d, rfl, fl, hok, ub, na, os, ag, q⟩ := c
  have q := q fun b hb => let ⟨o, h⟩ := T.on b hb; ub.free b o (pin_get ok h) (drop_on hb)
  have nC : ¬ C a := fun z => by
    obtain ⟨o', q'⟩ := T.on a z
    have e := ub.keep a o' (pin_get ok q') (drop_on z) fun hb => by rw [hf a hb] at q'; cases q'
    rw [fl.2.1] at e
    cases e
  refine ⟨a, B, putC C HZ H1, cls, d, rfl, fl, put_hok (fs := frs outer) T ok hok (fun b o e n hb => ub.keep b o e n hb) (fun b o e n => ub.free b o e n) hf, ⟨fun b o e n hb => ?_, ub.slot, fun b o e n => ?_, ub.there, fun b xs e => ?_, fun b o u e => ?_, fun b ps e => ?_⟩, ?_, os, ag, q⟩
  · exact ub.keep b o e (by rw [drop_off (T.nc n)]; exact n) hb
  · rw [put_off (T.nc n)]
    exact ub.free b o e (by rw [drop_off (T.nc n)]; exact n)
  · have z : ¬ C b := fun z => by
      obtain ⟨o', q'⟩ := T.on b z
      rw [q'] at e
      exact pin_tup (Option.some.inj e)
    rw [put_off z]
    exact ub.tups b xs (by rw [drop_off z]; exact e)
  · have z : ¬ C b := fun z => by
      obtain ⟨o', q'⟩ := T.on b z
      rw [q'] at e
      have e := Option.some.inj e
      unfold Pin at e
      cases e
    rw [put_off z]
    exact ub.frzs b o u (by rw [drop_off z]; exact e)
  · have z : ¬ C b := fun z => by
      obtain ⟨o', q'⟩ := T.on b z
      rw [q'] at e
      exact pin_tbl (Option.some.inj e)
    rw [put_off z]
    exact ub.tbls b ps (by rw [drop_off z]; exact e)
  · rw [put_off nC]
    exact na
end
/-! ### a thing that is called with nothing -/
def ThunkN (P : Program) (w : World) (K : PySem.W.Frag) (mg : Str → Option Value) (base : Heap) (k : Nat) (f : Addr) (R : Hp → VK → XK → Prop) : Prop :=
  ∀ (A : Around) (outer : List Env) (s : Shared) (H : Hp) (Q : VK) (E : XK), Room k A → Env0 P w K mg base A outer s H → R H Q E →
    (∃ fd : FuncData, s.heap.get? f = some { cls := .type "function", data := .func fd }) ∧ codeAny (model P w) A (.call (.ref f) ⟨[], []⟩) (CR (L2N.CX P w) outer P w H s Q E) s
/-- the context of a kept lambda's body -/
def thCxN (P : Program) (w : World) (K : PySem.W.Frag) (mg : Str → Option Value) (base : Heap) (N : List Str) (qual : Str) (scope : Scope) (cells : List (Str × Addr)) (A : Around) (outer : List Env) (s : Shared) (H : Hp) (E : XK) (f c' : Addr) : Cx where
  prog := P
  w := w
  K := K
  mg := mg
  base := base
  A := A.deeper (PySem.W.envX qual scope s.heap.objs.size f (.ref c') cells)
  N := N
  s_0 := s
  H_0 := H
  env := PySem.W.envX qual scope s.heap.objs.size f (.ref c') cells
  outer := outer
  stack := PySem.W.envX qual scope s.heap.objs.size f (.ref c') cells :: outer
  ex := []
  fn := fun _ => false
  calm := true
  pn := []
  xe := fun e s' => wpAny (model P w) (A.deeper (PySem.W.envX qual scope s.heap.objs.size f (.ref c') cells)) (leaving (PySem.W.envX qual scope s.heap.objs.size f (.ref c') cells) e) (fun _ s'' => L2N.CX P w outer H s E e s'') (fun e' s'' => L2N.CX P w outer H s E e' s'') s'
theorem takes_thN {P : Program} {w : World} {K : PySem.W.Frag} {mg : Str → Option Value} {base : Heap} {N : List Str} {qual : Str} {scope : Scope} {cells : List (Str × Addr)} {A : Around} {outer : List Env} {s : Shared} {H : Hp} {E : XK} {f c' : Addr} :
    L2N.Takes (thCxN P w K mg base N qual scope cells A outer s H E f c') (offE E) 
    := L2N.takes_of rfl rfl rfl rfl
section
variable {P : Program} {w : World} {K : PySem.W.Frag} {mg : Str → Option Value} {base : Heap} {N : List Str} {qual : Str} {scope : Scope} {cells : List (Str × Addr)} {A : Around} {outer : List Env} {s : Shared} {HZ : Hp} {E : XK} {f c' : Addr}
theorem th_startN {h₁ : Heap} {tk : Nat} {σ : L2.St} (L : ThS scope cells) (h : CellsAt N cells (fun _ => True) σ HZ) (e0 : Env0 P w K mg base A outer s HZ) (hd : A.handled = none)
    (hns : h₁.Ns s.heap.objs.size fun y => ([] : List (Str × Value)).reverse.lookup y) (kp : ∀ b o, s.heap.get? b = some o → h₁.get? b = some o) :
    Inv (thCxN P w K mg base N qual scope cells A outer s (dropC (Ad cells) HZ) E f c') [] σ (dropC (Ad cells) HZ) { s with heap := h₁, toks := tk } := by
  have T := h.told
  have e1 := env0_drop T e0
  have noA : ∀ b : Addr, b ∉ (thCxN P w K mg base N qual scope cells A outer s (dropC (Ad cells) HZ) E f c').ex := fun b z => absurd (show b ∈ ([] : List Addr) from z) (by simp)
  have cel : ∀ y c, cells.lookup y = some c → ∃ v, s.heap.IsCell c v ∧ ∀ (i : Nat) (x : V), N[i]? = some y → σ[i]? = some (some x) → ∃ u, v = some u ∧ RelV x u := fun y c hc => by
    obtain ⟨o, v, h1, h2, h3⟩ := h.cell y c hc True.intro
    exact ⟨v, ⟨o, pin_get e0.hok h1, h2⟩, h3⟩
  refine ⟨⟨e1.mod, L.kind, rfl, rfl, Nat.le_refl _, fun y z c h1 h2 => L.inj y z c h1 h2, fun y hy => ?_, fun y c z _ => ?_, fun _ => hd, Around.frames_deeper e1.frames, .inr ⟨rfl, rfl⟩, fun b z => absurd z (noA b), e1.bs, e1.bsz, fun b _ _ => noA b,
      fun b z => absurd z (noA b), e1.funs, e1.frf⟩,
    rfl, e1.bare, Un.kept kp, ⟨_, hns, fun i y v h1 h2 h3 => ?_⟩, fun y c e => ?_, e1.hok.fresh (Nat.le_refl _), fun y c e => ?_, fun q hq => absurd (show q ∈ ([] : List (Addr × Obj)) ++ [] from hq) (by simp), e1.hok.kept kp, h.len⟩
  · have hy : scope.names.lookup y = some .cell ∨ scope.names.lookup y = some .free := hy
    rcases hy with hy | hy
    · exact absurd rfl (L.own _ (PySem.mem_of_lookup hy)).2
    · exact L.has y hy
  · have z : false = true := z
    cases z
  · have h3 : Vis scope y := h3
    rcases h3 with k | k | k
    · exact absurd rfl (L.own _ (PySem.mem_of_lookup k)).1
    · exact absurd rfl (L.own _ (PySem.mem_of_lookup k)).2
    · obtain ⟨c, hc⟩ := L.has y k
      obtain ⟨v', hc', hv⟩ := cel y c hc
      obtain ⟨u, rfl, r⟩ := hv i v h1 h2
      exact ⟨u, r, .inr ⟨.inr k, c, hc, hc'.keeps kp⟩⟩
  · obtain ⟨v', hc', _⟩ := cel y c e
    exact ⟨v', hc'.keeps kp⟩
  · exact drop_on ⟨y, e⟩
/-- the promise of a kept lambda -/
theorem thunk_lamN {k : Nat} {params : Arguments} {body : Expr} {pm ctv : Value} {t : XK → TE} (L : ThS scope cells)
    (hbind : bindArgs (PySem.W.kla_fn "<lambda>" qual params body scope cells pm (.ref c') ctv) ⟨[], []⟩ = pure [])
    (hbody : ∀ (A : Around) (outer : List Env) (s : Shared) (H : Hp) (E : XK), Room k (A.deeper (PySem.W.envX qual scope s.heap.objs.size f (.ref c') cells)) → PE (thCxN P w K mg base N qual scope cells A outer s H E f c') body (t E)) :
    ThunkN P w K mg base (k + 1) f (fun HZ Q E => HZ f = some (Pin f (PySem.W.kla_obj "<lambda>" qual params body scope cells pm c' ctv)) ∧ HZ c' = some (LamX.CodeO c' qual) ∧
      ∃ σ, CellsAt N cells (fun _ => True) σ HZ ∧ t (fun cls d H1 => (∀ b, Ad cells b → H1 b = none) → E cls d (putC (Ad cells) HZ H1)) σ (dropC (Ad cells) HZ) (fun v H1 => (∀ b, Ad cells b → H1 b = none) → Q v (putC (Ad cells) HZ H1))) := by
  intro A outer s HZ Q E hr e0 ⟨hf, hc, σ, hcel, ht⟩
  have T := hcel.told
  have of1 := pin_get e0.hok hf
  obtain ⟨⟨oc, vs, tt, hoc, hdc, hvc⟩, _, _⟩ := e0.hok c' _ hc
  refine ⟨⟨_, of1⟩, ?_⟩
  have nolim : s.heap.NoLimit := e0.mod.nolimit.keeps fun a o h => (e0.bs a o h).1
  have rc : codeAny (model P w) A (.call (.ref f) ⟨[], []⟩) (CR (L2N.CX P w) outer P w (dropC (Ad cells) HZ) s (fun v H1 => (∀ b, Ad cells b → H1 b = none) → Q v (putC (Ad cells) HZ H1)) (fun cls d H1 => (∀ b, Ad cells b → H1 b = none) → E cls d (putC (Ad cells) HZ H1))) s := by
    refine PySem.W.kla_callFunE hr.depth of1 rfl L.co L.gen rfl ⟨c', oc, vs, tt, rfl, hoc, hdc, hvc⟩ ?_
    rw [hbind]
    refine wpAny_pure (wpAny_newFunctionEnv (fun y hy => (L.own y hy).2) (fun y hy => absurd hy (by simp)) (fun h₁ hns hsb => ⟨nolim.fresh _ hsb, ?_⟩) L.kind)
    show codeAny _ _ (.expr body (PySem.W.envX qual scope s.heap.objs.size f (.ref c') cells)) _ _
    have kp : ∀ b o, s.heap.get? b = some o → h₁.get? b = some o := fun b o e => hsb.extBut b o (Nat.ne_of_lt (Heap.lt_size e)) (Heap.get?_push_of_some _ e)
    have J : Inv (thCxN P w K mg base N qual scope cells A outer s (dropC (Ad cells) HZ) (fun cls d H1 => (∀ b, Ad cells b → H1 b = none) → E cls d (putC (Ad cells) HZ H1)) f c') [] σ (dropC (Ad cells) HZ) { s with heap := h₁, toks := s.toks + ([] : List (Str × Value)).length } :=
      th_startN L hcel e0 hr.hd hns kp
    refine PySem.W.kla_codeExpr (wpAny_mono ((hbody A outer s _ _ (hr.deeper _)).run [] _ _ _ _ J ht) (fun v s' hq => ?_) fun e s' hq => hq)
    obtain ⟨w', H', J', rv, q⟩ := hq
    exact ⟨w', H', J'.os, J'.bare, J'.base, J'.hok, rv, q⟩
  refine codeAny_mono rc fun r s' hq => ?_
  cases r with
  | error e => exact cx_putN T e0.hok e0.frf hq
  | ok fl =>
    cases fl with
    | ret u => exact ce_put T e0.hok e0.frf hq
    | next => exact False.elim hq
    | brk => exact False.elim hq
    | cont => exact False.elim hq
end
section
variable {X : Cx} {pins : List (Addr × Obj)} {σ : L2.St} {H : Hp} {s : Shared}
/-- x(), x a slot that holds a thing that is called with nothing -/
def tActN (P : Program) (w : World) (K : PySem.W.Frag) (mg : Str → Option Value) (base : Heap) (k i : Nat) (E : XK) : TE := fun σ H Q => ∃ (f : Addr) (R : Hp → VK → XK → Prop), σ[i]? = some (some (.ref f)) ∧ ThunkN P w K mg base k f R ∧ R H Q E
theorem pe_actN {W : WX} {E : XK} {k i : Nat} {a : Str} {p1 p2 : Pos} (tk : L2N.Takes X W) (hW : ∀ cls d σ' H', E cls d H' → W cls d σ' H') (hr : Room k X.A)
    (hN : X.N[i]? = some a) (hv : Vis X.env.scope a) (hd : (a == ("__debug__" : Str)) = false := by decide) (hcd : (a == ("__classdict__" : Str)) = false := by decide) :
    PE X (.Call (.Name a p1) [] [] p2) (tActN X.prog X.w X.K X.mg X.base k i E) := by
  refine ⟨fun pins s σ H Q I h => ?_⟩
  obtain ⟨f, R, hs, T, hR⟩ := h
  refine wpAny_Call_Name_kw (thn ((pe_var (pos := p1) (i := i) hN hv hd hcd).run pins s σ H (fun v H1 => v = .ref f ∧ H1 = H) I ⟨.ref f, hs, rfl, rfl⟩) fun u s1 ⟨v, H1, I1, r1, q1⟩ => ?_)
  obtain ⟨ev, eH⟩ := q1
  subst ev
  rw [eH] at I1
  obtain rfl : u = Value.ref f := r1
  obtain ⟨⟨fd, hf⟩, rc⟩ := T X.A X.stack s1 H Q E hr I1.env0 hR
  refine PySem.W.callWith_F0 ⟨_, _, _, _, hf⟩ ?_
  refine wpAny_call (codeAny_mono rc fun r s' hq => ?_)
  cases r with
  | error e => exact L2N.passes_call tk hW pins σ H s1 e s' I1 hq
  | ok fl =>
    cases fl with
    | ret u => exact I1.after hq
    | next => exact False.elim hq
    | brk => exact False.elim hq
    | cont => exact False.elim hq
/-- an own class of exceptions called without anything -/
theorem pmk_own0N {C : Addr} {bmB : List Value} {B nId iId : String} {x : Str} {p pos : Pos}
    (facts : ExcBaseFacts B nId iId bmB) (cls : PySem.W.excIn X.K C bmB nId = true) (raisable : Raises X (.ref C))
    (kept : PySem.W.keepIn X.K (.ref C) = true) (isC : X.mg x = some (.ref C)) (gl : Gl X x := by rfl) (nd : (x == ("__debug__" : Str)) = false := by decide) :
    L2N.PMk X (.Call (.Name x p) [] [] pos) (fun _ H Q => Q (.ref C) none H) := by
  intro pins s σ H Q I q
  refine wpAny_Call_Name_kw (ld_glob I gl isC ?_ nd)
  refine PySem.W.callWith_K0 I.kIn kept ?_
  obtain ⟨_, _, _, _, _, _, _, _, _, _, _, _, _, _, _, _, _, hC, hN, hni, T⟩ := exc_obj I.kIn cls
  refine wpAny_call_exc_subT facts T hC hN hni (fun h' e made => ?_) (Nat.zero_le _)
  exact L2N.mk_of I made raisable q (I.hok.gone made.new)
end
/-- raise X() -/
theorem ps_raise0N {X : Cx} {W : WX} {C : Addr} {x : Str} {p pos pos' : Pos} (calm : X.calm = true) (tk : L2N.Takes X W) (F : ExcA X.K C) (isC : X.mg x = some (.ref C)) (gl : Gl X x := by rfl) (nd : (x == ("__debug__" : Str)) = false := by decide) :
    PS X (.Raise (some (.Call (.Name x p) [] [] pos)) none pos') (fun _ σ H => W (.ref C) none σ H) :=
  L2N.ps_raise calm tk (pmk_own0N PySem.F.excBase_ArithmeticError F.cls (raises_own F.sub F.typ) F.kept isC gl nd)
/-- the global x is a def that keeps sp, and may raise -/
def HasN (P : Program) (w : World) (K : PySem.W.Frag) (mg : Str → Option Value) (base : Heap) (x : Str) (k : Nat) (ps : List Str) (sp : Sp) : Prop :=
  ∃ f fd, FnOk P w K mg base (L2N.CX P w) k f fd ps sp ∧ mg x = some (.ref f) ∧ PySem.W.keepIn K (.ref f) = true ∧ Binds K fd ps []
def HasNW (P : Program) (w : World) (K : PySem.W.Frag) (mg : Str → Option Value) (base : Heap) (x : Str) (k : Nat) (ps : List Str) (sp : Sp) (ks : List Str) (ix : List Nat) : Prop :=
  ∃ f fd, FnOk P w K mg base (L2N.CX P w) k f fd ps sp ∧ mg x = some (.ref f) ∧ PySem.W.keepIn K (.ref f) = true ∧ KwOk fd ps ks ix
theorem HasN.of {P : Program} {w : World} {K : PySem.W.Frag} {mg : Str → Option Value} {base : Heap} {x : Str} {st : Stmt} {ps : List Str} {k : Nat} {sp : Sp} (D : Df K mg x st ps)
    (h : ∀ f fd, Fun K x x st f fd → FnOk P w K mg base (L2N.CX P w) k f fd ps sp) : HasN P w K mg base x k ps sp := by
  obtain ⟨f, fd, F, hm, hb⟩ := D
  exact ⟨f, fd, h f fd F, hm, F.kp, hb⟩
theorem HasNW.of {P : Program} {w : World} {K : PySem.W.Frag} {mg : Str → Option Value} {base : Heap} {x : Str} {st : Stmt} {ps ks : List Str} {ix : List Nat} {k : Nat} {sp : Sp} (D : DfW K mg x st ps ks ix)
    (h : ∀ f fd, Fun K x x st f fd → FnOk P w K mg base (L2N.CX P w) k f fd ps sp) : HasNW P w K mg base x k ps sp ks ix := by
  obtain ⟨f, fd, F, hm, hb⟩ := D
  exact ⟨f, fd, h f fd F, hm, F.kp, hb⟩
section
variable {X : Cx}
def tFN (sp : Sp) (E : XK) (t : TA) : TE := fun σ H Q => t σ H fun vs H1 => sp vs H1 Q E
def tWN (sp : Sp) (E : XK) (m : Nat) (ix : List Nat) (tk : TA) : TE := fun σ H Q => tk σ H fun zs H1 => zs.length = m ∧ sp (arr ix zs) H1 Q E
theorem pe_hasN {x : Str} {k : Nat} {ps : List Str} {sp : Sp} {E : XK} {p pos : Pos} {e : Expr} {es : List Expr} {t : TA}
    (h : HasN X.prog X.w X.K X.mg X.base x k ps sp) (tk : L2N.Takes X (offE E)) (hr : Room k X.A) (ha : PA X (e :: es) t) (hg : Gl X x := by rfl)
    (hdb : (x == ("__debug__" : Str)) = false := by decide)
    (he : starEach (e :: es) X.env = (false, eval e X.env) :: starEach es X.env := by rfl)
    (hpl : (backTo pos (starEach es X.env)).any (·.1) = false := by rfl) :
    PE X (.Call (.Name x p) (e :: es) [] pos) (tFN sp E t) := by
  obtain ⟨f, fd, F, hm, hk, hb⟩ := h
  have q := pe_call (X := X) (p := p) (pos := pos) F hr hg hm hk hb .nil (L2N.passes_call tk fun _ _ _ _ z => z) ha hdb he hpl
  refine ⟨fun pins s σ H Q I hq => q.run pins s σ H Q I ?_⟩
  show t σ H fun vs H1 => sp (vs ++ []) H1 Q E
  simp only [List.append_nil]
  exact hq
theorem pe_hasNW {x : Str} {k : Nat} {ps ks : List Str} {ix : List Nat} {sp : Sp} {E : XK} {p pos : Pos} {kws : List Keyword} {ta : TA}
    (h : HasNW X.prog X.w X.K X.mg X.base x k ps sp ks ix) (tk : L2N.Takes X (offE E)) (hr : Room k X.A) (hkw : PK X kws ta) (hg : Gl X x := by rfl)
    (hdb : (x == ("__debug__" : Str)) = false := by decide)
    (hall : (backToKw pos (keywordEach kws X.env)).all (·.1.isSome) = true := by rfl) (hks : (backToKw pos (keywordEach kws X.env)).filterMap (·.1) = ks := by rfl)
    (hpl : ((backTo pos (starEach [] X.env)).any (·.1) || (backToKw pos (keywordEach kws X.env)).any (·.1.isNone)) = false := by rfl) :
    PE X (.Call (.Name x p) [] kws pos) (tWN sp E ks.length ix ta) := by
  obtain ⟨f, fd, F, hm, hk, hb⟩ := h
  refine ⟨fun pins s σ H Q I h => ?_⟩
  apply wpAny_Call_Name_kw (ld_glob I hg hm ?_ hdb)
  apply PySem.W.callWith_KW0 (h₀ := X.base) I.ok.mod.kin hk hall ?_ hpl
  refine thn (hkw.run pos pins s σ H _ I h) fun ws s2 ⟨zs, H2, I2, rz, l, hsp⟩ => ⟨I2.kIn, ?_⟩
  rw [hks]
  have r2 := arr_vals rz ix
  have bnd := hb s2 ws (by rw [← rz.length]; exact l)
  refine wpAny_call (codeAny_mono (F.run X.A X.stack s2 H2 ⟨[], ks.zip ws⟩ (arr ix ws) (arr ix zs) Q E hr I2.env0 bnd r2 hsp) fun r s' hc => ?_)
  cases r with
  | error er => exact L2N.passes_call tk (fun _ _ _ _ z => z) pins σ H2 s2 er s' I2 hc
  | ok fl =>
    cases fl with
    | ret u => exact I2.after hc
    | next => exact hc.elim
    | brk => exact hc.elim
    | cont => exact hc.elim
/-- what leaves a def's body -/
theorem takes_defN {P : Program} {w : World} {K : PySem.W.Frag} {mg : Str → Option Value} {base : Heap} {N : List Str} {q : Str} {sc : Scope} {f : Addr} {cd : Value} {A : Around} {outer : List Env} {s : Shared} {H : Hp} {E : XK} :
    L2N.Takes (cxOf (L2N.CX P w) P w K mg base N q sc f cd A outer s H E) (offE E) :=
  L2N.takes_of rfl rfl rfl rfl
end
/-- C(e), C's own __init__ keeping sp, its context None -/
theorem pmk_oexN {X : Cx} {CX : CXT} {x : Str} {e : Expr} {es : List Expr} {ta : TA} {p pos : Pos} {C fI : Addr} {k : Nat} {fd : FuncData} {ps : List Str} {sp : Sp} (T : OexC X.K C) (iC : PySem.W.findIn X.K (.ref C) "__init__" = some (some (.ref fI))) (tI : PySem.W.typeIn X.K (.ref fI) = some (.type "function"))
    (F1 : FnOk X.prog X.w X.K X.mg X.base CX k fI fd ps sp) (hr : Room (k + 1) X.A) (hb : Binds X.K fd ps []) (hx : Passes CX X (fun _ _ _ => False)) (hg : Gl X x) (hm : X.mg x = some (.ref C)) (ha : PA X (e :: es) ta)
    (hdb : (x == ("__debug__" : Str)) = false := by decide) (he : starEach (e :: es) X.env = (false, eval e X.env) :: starEach es X.env := by rfl) (hpl : (backTo pos (starEach es X.env)).any (·.1) = false := by rfl) :
    L2N.PMk X (.Call (.Name x p) (e :: es) [] pos) (tMkO C sp [] ta) := by
  obtain ⟨nm, q, N, bs, bm, sn, sub, ab, col, dd, k0, k1, k2, k3, k5, hC, hbm⟩ := T.cls
  intro pins s σ H Q I h
  apply wpAny_Call_Name_kw (ld_glob I hg hm ?_ hdb)
  refine PySem.W.callWith_K (h₀ := X.base) I.ok.mod.kin T.kC (thn (ha.run pos pins s σ H _ I h) ?_) he hpl
  rintro us ⟨G, g, dr, tk, os⟩ ⟨vs, J, I1, rel, few, made⟩
  refine ⟨I1.kIn, ?_⟩
  -- the new error stands behind the tuple of its arguments
  obtain ⟨a, ea⟩ : ∃ a, a = G.objs.size + 1 := ⟨_, rfl⟩
  obtain ⟨G2, eG⟩ : ∃ G2, G2 = (G.push (PySem.W.kdv_tup us)).push (PySem.HandSPX.excO C G.objs.size) := ⟨_, rfl⟩
  have above : G.objs.size ≤ a := by omega
  have keep : ∀ b o, G.get? b = some o → G2.get? b = some o := fun b o e => by
    rw [eG]
    exact Heap.get?_push_of_some _ (Heap.get?_push_of_some _ e)
  have at_ : G2.get? a = some (PySem.HandSPX.excO C G.objs.size) := by
    rw [eG, ea]
    heap_get
  have want := made a (I1.hok.fresh above)
  rw [List.append_nil] at want
  have I2 : Inv X pins σ (upd J a (exo a C none)) ⟨G2, g, dr, tk, os⟩ := I1.laid (t' := tk) keep above (exo_ok at_)
  have rel2 : Vals (V.ref a :: vs) (Value.ref a :: us) := .cons rfl rel
  have many : (Value.ref a :: us).length = ps.length := rel2.length.symm.trans (F1.len _ _ _ _ want)
  have short : us.length ≤ sizeLine := by
    have := Paired.length rel
    rw [sizeLine_eq]
    omega
  have binds := hb ⟨G2, g, dr, tk, os⟩ (Value.ref a :: us) I2.kIn (by rw [List.append_nil]; exact many)
  rw [List.append_nil] at binds
  have init := F1.run _ X.stack _ _ ⟨Value.ref a :: us, []⟩ _ _ _ (fun _ _ _ => False) (hr.make C us []) (I2.env0.make C us []) binds rel2 want
  rw [ea, eG] at init
  refine wpAny_call (PySem.HandSPX.call_own F.excBase_ValueError (fun Y => PySem.HandSPX.refsVE_contains Y bm hbm) (I1.kIn _ _ hC) (PySem.W.looks_findIn I1.kIn iC) (fun self => PySem.W.bind_fn I1.kIn self tI) short (codeAny_mono init ?_))
  rw [← eG, ← ea]
  rintro (er | fl) ⟨G3, g3, d3, t3, os3⟩ came
  · exact hx pins σ _ _ er _ I2 came
  · match fl, came with
    | .ret u, came =>
      obtain ⟨v, J2, same, bare, un, ok2, rv, ev, d, fs, e1, e2, e3, done⟩ := came
      subst ev
      obtain ⟨_, Gx, Jx, old, fresh, own, no_⟩ := mk_end0 (d2 := d3) (t2 := t3) I1 above keep un ok2 same bare e1 e2 e3
      exact ⟨rv, ⟨a, _, _, ⟨Gx, g3, d3, t3, os3⟩, _, .ref C, some d, rfl, Jx, old, fresh, own, ⟨rfl, rfl, fun vs hv => by cases hv; rfl⟩, rfl, rfl, no_, rfl, bare, raises_own T.exC T.tyC, done⟩⟩
/-- raise X(e) -/
theorem ps_raiseN {X : Cx} {W : WX} {C : Addr} {x pn fld : Str} {e : Expr} {te : TE} {p pos pos' : Pos} (calm : X.calm = true) (tk : L2N.Takes X W) (F : XCls X.K X.prog C pn fld) (nos : X.mg "super" = none) (hr : Room 5 X.A) (isC : X.mg x = some (.ref C)) (he : PE X e te) (gl : Gl X x := by rfl) (nd : (x == ("__debug__" : Str)) = false := by decide) (hst : starEach [e] X.env = (false, eval e X.env) :: starEach [] X.env := by rfl) :
    PS X (.Raise (some (.Call (.Name x p) [e] [] pos)) none pos') (fun _ σ H => te σ H fun v H1 => ∀ d H2, Ex H1 H2 → H2 d = some (.xd [(fld, v)]) → W (.ref C) (some d) σ H2) := by
  obtain ⟨f, cc, cda, qual, st, fd, XI, iC, tI, hb⟩ := F.ini
  have F1 := okXI (P := X.prog) (w := X.w) (mg := X.mg) (base := X.base) XI F.oex F.nof nos
  have q := L2N.ps_raise (pos := pos') calm tk (pmk_oexN (p := p) (pos := pos) F.oex iC tI F1 hr hb (pass0 (X := X)) gl isC (pa_cons (PE.mon he) pa_nil hst) nd hst rfl)
  refine ⟨fun pins s σ H D I h => q.run pins s σ H D I ?_⟩
  refine ⟨_, h, fun v H1 hv => ⟨by simp, fun a na => ?_⟩⟩
  refine ⟨a, v, rfl, upd_same, fun dx H' nd ne e' => ⟨rfl, dx, [(fld, v)], ?_, ?_, ?_, ?_⟩⟩
  · rw [e', upd_same]
  · rw [e', upd_ne ne, upd_same]
  · rw [upd_ne ne] at nd
    exact nd
  · rw [upd_ne ne] at nd
    refine hv dx _ (fun b o hb => ?_) upd_same
    have b1 : b ≠ a := fun z => by rw [z, na] at hb; cases hb
    have b2 : b ≠ dx := fun z => by rw [z, nd] at hb; cases hb
    rw [upd_ne b2, del_ne b1, e', upd_ne b1, upd_ne b2, upd_ne b1]
    exact hb
section
variable {X : Cx} {x1 x2 x3 n : Str} {c1 c2 c3 : Value} {i tk0 : Nat} {body suite : List Stmt} {b₀ : Stmt} {q1 q2 q3 tp pos pos' : Pos} {tb : WX → TS} {ts : Addr → Value → Option Addr → TS} {Wout : WX}
theorem ps_try_asN (stk : X.stack = X.env :: X.outer) (fr : X.env.frame = some X.env.locals) (nod : X.N.Nodup) (hi : X.N[i]? = some n) (loc : X.env.kindOf n = some .local) (h1 : Names X x1 c1) (h2 : Names X x2 c2) (h3 : Names X x3 c3) (tk : L2N.Takes X Wout)
    (hb : ∀ (W : WX) (pn : List (Addr × Obj)) (xe : Value → Shared → Prop), L2N.Takes (X.tr pn xe) W → PassesOwn (model X.prog X.w) X.A X.env xe → PSs (X.tr pn xe) body (tb W))
    (hsu : ∀ (a : Addr) (oe : Obj) (cls : Value) (d : Option Addr) (pn : List (Addr × Obj)), L2N.Zn cls d oe → (∃ vs, oe.data = .fields vs) → PSs (X.suite a ((a, oe) :: pn)) (b₀ :: suite) (ts a cls d)) :
    PS X (.Try body [.ExceptHandler (some (.Tuple [.Name x1 q1, .Name x2 q2, .Name x3 q3] tk0 tp)) (some n) (b₀ :: suite) pos'] [] [] pos) (fun D σ H => tb (wAsL X.K [c1, c2, c3] i ts Wout D) D σ H) := by
  refine ⟨fun pins s σ H D G h => wpAny_Try_except ?_⟩
  have ok := G.ok
  have frames : X.A.frames = some (X.env :: X.outer) := ok.frames.trans (by rw [stk])
  have run := hb (wAsL X.K [c1, c2, c3] i ts Wout D) (X.pn ++ pins) (fun e s1 => wpAny (model X.prog X.w) X.A (noteFrame e X.env) (fun _ s2 => wpAny (model X.prog X.w) X.A (setFlight e none) (fun _ s3 =>
    wpAny (model X.prog X.w) X.A (handleBy e X.env [.ExceptHandler (some (.Tuple [.Name x1 q1, .Name x2 q2, .Name x3 q3] tk0 tp)) (some n) (b₀ :: suite) pos']) (SP X pins D) X.xe s3) X.xe s2) X.xe s1) (fun u sx caught => ?_) PassesOwn.looking
  · refine wpAny_mono (run.run [] s σ H D (G.toTry _) h) (fun f s1 hsp => ?_) fun _ _ z => z
    cases f with
    | next =>
      obtain ⟨σ', H', G', q⟩ := hsp
      exact wpAny_execs_nil ⟨σ', H', G'.ofTry ok, q⟩
    | brk => exact let ⟨σ', H', G', q⟩ := hsp; ⟨σ', H', G'.ofTry ok, q⟩
    | cont => exact let ⟨σ', H', G', q⟩ := hsp; ⟨σ', H', G'.ofTry ok, q⟩
    | ret u => exact let ⟨v, σ', H', G', r, q⟩ := hsp; ⟨v, σ', H', G'.ofTry ok, r, q⟩
  obtain ⟨a, B, sI, pins', σ1, H1, cls, d, rfl, G0, nb, up, sky, na, os, ag, b, hb1, hno, hyes⟩ := caught
  have G1 : Inv X pins σ1 H1 sI := G0.ofTry ok
  rw [stk] at sky
  show wpAny (model X.prog X.w) X.A (noteFrame (.ref a) X.env) _ _ _
  refine L2N.Sky.land L2N.Zn.steady frames fr sky fun hp2 fl2 up2 => ?_
  have G2 : Inv X pins σ1 H1 { sx with heap := hp2 } := G1.landed nb fl2.1 (up.trans up2) os ag
  have apart : ∀ {hp : Heap}, HandSPX.FlyingZ B (X.env :: X.outer) a (L2N.Zn cls d) hp → a ∉ frs (X.env :: X.outer) := fun fl hm => by
    obtain ⟨o, vs, e1, _, e3⟩ := fl.there
    obtain ⟨_, o', e4, nf⟩ := fl.2.2.1.mem hm
    rw [e1] at e4
    cases e4
    exact nf _ e3
  have noFr := apart fl2
  have noL : a ≠ X.env.locals := fun z => noFr (List.mem_filterMap.mpr ⟨X.env, List.mem_cons_self, by rw [fr, z]⟩)
  have noO : a ∉ X.fs := fun hm => by
    obtain ⟨e, he, q⟩ := List.mem_filterMap.mp hm
    exact noFr (List.mem_filterMap.mpr ⟨e, List.mem_cons_of_mem _ he, q⟩)
  obtain ⟨o2, v2, e2, z2, d2⟩ := fl2.there
  have GS := G2.suite e2 d2 na noL noO
  refine wpAny_handleBy_cons (codeAny_handlers_test ?_) (by intro q; cases q)
  refine tup_here (Y := X.suite a ((a, o2) :: (X.pn ++ pins))) GS h1 h2 h3 ?_
  have k3 : ∀ c o, hp2.get? c = some o → (hp2.push { cls := .type "tuple", data := .seq [c1, c2, c3].toArray }).get? c = some o := fun c o e => Heap.get?_push_of_some _ e
  have t3 : (hp2.push { cls := .type "tuple", data := .seq [c1, c2, c3].toArray }).get? hp2.objs.size = some { cls := .type "tuple", data := .seq [c1, c2, c3].toArray } := Heap.get?_push_at rfl rfl
  show wpAny _ _ (excMatches (.ref a) (.ref hp2.objs.size)) _ _ _
  generalize hp2.push { cls := .type "tuple", data := .seq [c1, c2, c3].toArray } = hp3 at k3 t3
  have fl3 := flying_kept k3 fl2
  have up3 : sI.heap.UpToSlots hp3 := (up.trans up2).trans (Heap.UpToSlots.of_keeps k3)
  have G3 : Inv X pins σ1 H1 { sx with heap := hp3 } := G1.landed nb fl3.1 up3 os ag
  have look : PySem.W.Looks (model X.prog X.w) hp3 (typeOf (.ref a)) cls := fun A Q E s k q => wpAny_typeOf_ref (k _ _ (k3 _ _ e2)) (by rw [z2.1]; exact q)
  refine (PySem.W.exm_tup3 G3.kIn look t3 hb1).here ?_
  cases b with
  | false =>
    show wpAny _ X.A (handleBy (.ref a) X.env []) _ _ _
    refine wpAny_handleBy_nil ?_
    obtain ⟨_, _, _, o5, v5, T5, _, _, g1, _, g3, g4, _⟩ := id fl3
    have leave : wpAny (model X.prog X.w) X.A (setFlight (.ref a) X.env.frame) (fun _ s4 => wpAny (model X.prog X.w) X.A (throw (.ref a) : Sem Flow) (SP X pins D) X.xe s4) X.xe { sx with heap := hp3 } := by
      rw [fr]
      exact HandSPX.setFlight_upZ fl3 fun hp4 held up4 => wpAny_throw (tk _ _ ⟨a, B, sI, pins, σ1, H1, cls, d, rfl, G1, nb, up3.trans up4, .inr (.inr (by rw [stk]; exact held)), na, os, ag, hno rfl⟩)
    unfold PySem.passOn
    refine wpAny_bind (wpAny_field g1 g3 g4 ?_)
    rw [if_neg (by simp : ¬ (Value.ref T5 == Value.none) = true)]
    first
      | exact wpAny_bind leave
      | exact wpAny_bind (wpAny_pure (wpAny_bind leave))
  | true =>
    refine codeAny_handlers_suite_as ?_
    refine HandSPX.lands_againZ fl3 fun hp4 fl4 up4 => ?_
    have G4 : Inv X pins σ1 H1 { sx with heap := hp4 } := G1.landed nb fl4.1 (up3.trans up4) os ag
    obtain ⟨o4, v4, e4, z4, d4⟩ := fl4.there
    refine store_ok (X := X.suite a ((a, o4) :: (X.pn ++ pins))) (v := .ref a) (G4.suite e4 d4 na noL noO) nod hi (.inl loc) rfl (fun s5 G5 => ?_) (.inr loc)
    refine wpAny_mono ((hsu a o4 cls d (X.pn ++ pins) z4 ⟨_, d4⟩).run [] s5 _ H1 _ G5 (hyes rfl a na)) (fun f s6 hsp => ?_) fun _ _ z => z.elim
    have fin : ∀ {σ6 : L2.St} {H6 : Hp} {Q : Shared → Prop}, Inv (X.suite a ((a, o4) :: (X.pn ++ pins))) [] σ6 H6 s6 → (∀ s7, Inv X pins (σ6.set i none) H6 s7 → Q s7) →
        wpAny (model X.prog X.w) X.A (do bindName X.env n .none; unbindBehindTheSuite X.env n pos') (fun _ s7 => Q s7) X.xe s6 := fun G6 q => gone_ok (G6.unsuite ok) nod hi loc q
    cases f with
    | next => exact let ⟨σ6, H6, G6, q6⟩ := hsp; fin G6 fun s7 G7 => ⟨_, _, G7, q6⟩
    | brk => exact let ⟨σ6, H6, G6, q6⟩ := hsp; fin G6 fun s7 G7 => ⟨_, _, G7, q6⟩
    | cont => exact let ⟨σ6, H6, G6, q6⟩ := hsp; fin G6 fun s7 G7 => ⟨_, _, G7, q6⟩
    | ret u => exact let ⟨v6, σ6, H6, G6, r6, q6⟩ := hsp; fin G6 fun s7 G7 => ⟨_, _, _, G7, r6, q6⟩
end

/-! [.. for x in a list if ..] in any context that knows how a list's end is told, also while an exception is handled; the element may know how the block began -/
/-- at a list's end the iterator says so, and only its own record changes -/
def EndTold (P : Program) (w : World) (A : Around) (z : Shared) (it : Addr) : Prop :=
  ∀ (l : Addr) (n : Nat) (items : Array Value) (Q : Option Value → Shared → Prop) (E : Value → Shared → Prop), z.heap.IsListIter it l n → z.heap.IsList l items → items[n]? = none →
    (∀ G, (∀ b o, b ≠ it → z.heap.get? b = some o → G.get? b = some o) → Q none { z with heap := G }) → wpAny (model P w) A (pyNext (.ref it)) Q E z
theorem endTold_calm {P : Program} {w : World} {A : Around} {z : Shared} {it : Addr} (hh : A.handled = none) : EndTold P w A z it := fun l n items Q E st isl hx q =>
  wpAny_pyNext_list_end hh st isl hx fun G e => q G fun b o nb g => e b o nb g
/-- a context whose blocks tell the end of lists -/
def EndsWell (X : Cx) : Prop := ∀ {pins : List (Addr × Obj)} {σ σ' : L2.St} {H0 H' : Hp} {s0 s' : Shared} {it : Addr} {scope : Scope} {env : Env},
  Inv X pins σ H0 s0 → FpOk X pins H0 it → Inv (X.blk s0 H0 scope env [it]) [] σ' H' s' → EndTold X.prog X.w X.A s' it
theorem endsWell_calm {X : Cx} (hc : X.calm = true) : EndsWell X := fun _ _ J => endTold_calm (J.ok.hd hc)
section
variable {X : Cx} {elt tg l : Expr} {ifs : List Expr} {scope : Scope} {own : List (Str × Nat)} {pos : Pos} {tl : TE} {g : TG} {tt : TT} {te : L2.St → TE}
theorem pe_lcOwn (hw : EndsWell X) (nod : X.N.Nodup) (hl : PE X l tl) (ok : BlkOk X.N X.env.scope scope own)
    (hg : ∀ s H C cl fp, PG (X.blk s H scope (compEnvC scope cl C X.env) fp) tg g)
    (ht : ∀ s H C cl fp, PTs (X.blk s H scope (compEnvC scope cl C X.env) fp) ifs tt)
    (he : ∀ pins σ s H C cl it, Inv X pins σ H s → FpOk X pins H it → C = s.heap.objs.size → cl = cellsFrom (s.heap.objs.size + 1) scope.names (cloFrom X.env.cells scope.names []) → PE (X.blk s H scope (compEnvC scope cl C X.env) [it]) elt (te σ))
    (hs : ∀ v, foldedSetIterable l X.env v = pure v := by intro _; rfl) :
    PE X (.ListComp elt [⟨tg, l, ifs, 0⟩] scope pos) (fun σ H Q => tLc (iList X.K tl) g tt (te σ) (own.map (·.2)) σ H Q) := by
  constructor
  intro pins s σ H Q I h
  rw [eval_ListComp]
  apply wpAny_comprehension_free (use := none) rfl hs (closure_ok fun y hy e => I.ok.has _ (ok.free y hy e)) ok.kind (fun y hy e => (ok.uniq y hy).trans (congrArg some e))
  apply thn (hl.run pins s σ H _ I h)
  rintro _ z ⟨_, G, J, rel, a, rfl, ⟨xs, hxs⟩, hD⟩
  cases rel
  obtain ⟨items, _, isl, _⟩ := J.list hxs
  apply wpAny_pyIter_list isl.isList
  -- the iterator
  obtain ⟨it, hit⟩ : ∃ it, it = z.heap.objs.size := ⟨_, rfl⟩
  obtain ⟨z1, hz1⟩ : ∃ z1 : Shared, z1 = { z with heap := z.heap.push { cls := .type "list_iterator", data := .fields #[.ref a, .int 0 0] } } := ⟨_, rfl⟩
  have J1 : Inv X pins σ G z1 := by
    rw [hz1]
    exact J.kept fun b o q => Heap.get?_push_of_some _ q
  have fit : FpOk X pins G it := by
    rw [hit]
    exact J.fpOk (Nat.le_refl _) (J.hok.fresh (Nat.le_refl _))
  have st1 : z1.heap.IsListIter it a 0 := by
    rw [hz1, hit]
    exact ⟨_, Heap.get?_push_size _ rfl, rfl, rfl⟩
  rw [← hz1, ← hit]
  -- the new list
  refine wpAny_newObj_type (newEnv_comp ?_) (by show 0 ≤ sizeLine; decide)
  obtain ⟨D, hDz⟩ : ∃ D, D = z1.heap.objs.size := ⟨_, rfl⟩
  have freeD : G D = none := by
    rw [hDz]
    exact J1.hok.fresh (Nat.le_refl _)
  obtain ⟨W, ⟨m0, w0⟩, turn⟩ := hD D freeD
  have itD : it < D := by
    rw [hDz, hz1, hit, Heap.size_push]
    exact Nat.lt_succ_self _
  obtain ⟨G2, hG2⟩ : ∃ G2, G2 = upd G D (.lst []) := ⟨_, rfl⟩
  obtain ⟨z2, hz2⟩ : ∃ z2 : Shared, z2 = { z1 with heap := z1.heap.push { cls := .type "list", data := .seq ([] : List Value).toArray } } := ⟨_, rfl⟩
  have J2 : Inv X pins σ G2 z2 := by
    rw [hz2, hG2]
    exact J1.laid (fun b o q => Heap.get?_push_of_some _ q) (Nat.le_of_eq hDz.symm) ⟨Nat.zero_le _, [], 0, .nil, by rw [hDz]; exact Heap.get?_push_size _ rfl⟩
  have noIt : G2 it = none := by
    rw [hG2, upd_ne (Nat.ne_of_lt itD)]
    exact fit.1
  have fit2 : FpOk X pins G2 it := ⟨noIt, fit.2⟩
  have st2 : z2.heap.IsListIter it a 0 := by
    obtain ⟨o, q, c⟩ := st1
    rw [hz2]
    exact ⟨o, Heap.get?_push_of_some _ q, c⟩
  have itLt : it < z2.heap.objs.size := let ⟨_, q, _⟩ := st2; Heap.lt_size q
  rw [← hG2] at w0
  rw [← hz2, ← hDz]
  -- the block
  have JB := block_start (fp := [it]) J2 ok nod fun b hb => by
    obtain rfl := List.mem_singleton.mp hb
    exact ⟨fit2, itLt⟩
  obtain ⟨env, henv⟩ : ∃ env, env = compEnvC scope (cellsFrom (z2.heap.objs.size + 1) scope.names (cloFrom X.env.cells scope.names [])) z2.heap.objs.size X.env := ⟨_, rfl⟩
  have pg := hg z2 G2 z2.heap.objs.size (cellsFrom (z2.heap.objs.size + 1) scope.names (cloFrom X.env.cells scope.names [])) [it]
  have pt := ht z2 G2 z2.heap.objs.size (cellsFrom (z2.heap.objs.size + 1) scope.names (cloFrom X.env.cells scope.names [])) [it]
  have pe := he pins σ z2 G2 z2.heap.objs.size (cellsFrom (z2.heap.objs.size + 1) scope.names (cloFrom X.env.cells scope.names [])) it J2 fit2 rfl rfl
  rw [← henv] at JB pg pt pe
  have locs : env.locals = z2.heap.objs.size := by rw [henv]; rfl
  obtain ⟨z3, hz3⟩ : ∃ z3 : Shared, z3 = { z2 with heap := pushCells (z2.heap.push { cls := .type "dict", data := .dict #[] }) scope.names } := ⟨_, rfl⟩
  rw [← hz3] at JB
  have st3 : z3.heap.IsListIter it a 0 := by
    obtain ⟨o, q, c⟩ := st2
    rw [hz3]
    exact ⟨o, pushCells_keeps _ _ _ _ (Heap.get?_push_of_some _ q), c⟩
  -- within the block the iterator stays ours
  have ours : ∀ {σ' : L2.St} {H' : Hp} {s' : Shared}, Inv (X.blk z2 G2 scope env [it]) [] σ' H' s' → H' it = none → FpOk (X.blk z2 G2 scope env [it]) [] H' it := fun K n =>
    ⟨n, (K.ok.exf it (List.mem_singleton.mpr rfl)).1, K.ok.exfs it (List.mem_singleton.mpr rfl), .inl (List.mem_singleton.mpr rfl), (K.ok.exf it (List.mem_singleton.mpr rfl)).2, fun p hp => absurd hp (by simp)⟩
  have sw : ∀ {σ' : L2.St}, wipe σ' (own.map (·.2)) = wipe σ (own.map (·.2)) → (wipe σ (own.map (·.2))).length = σ'.length := fun q => by rw [← q, wipe_length]
  have loop : codeAny (model X.prog X.w) X.A (.compLoop (.ListComp elt [⟨tg, l, ifs, 0⟩] scope pos) 0 (.ref it) (.ref D) env) (compPost (model X.prog X.w) X.A X.xe none (EP X pins σ Q) (.ref D) z2.heap.objs.size) z3 := by
    refine compLoop_any (fun n y => ∃ i Y, Inv (X.blk z2 G2 scope env [it]) [] (wipe σ (own.map (·.2))) Y y ∧ y.heap.IsListIter it a i ∧ Y it = none ∧ W i n Y) ?_ m0 ⟨0, G2, JB, st3, noIt, w0⟩
    intro n y ⟨i, Y, JY, st, no, wi⟩
    have fy := ours JY no
    cases turn i n Y wi with
    | inl stop =>
      obtain ⟨⟨ys, hys, far⟩, done⟩ := stop
      obtain ⟨its, ri, isY, _⟩ := JY.list hys
      refine hw J2 fit2 JY a i _ _ _ st isY.isList (by have := ri.length; simp; omega) fun F keep => ?_
      have JF : Inv (X.blk z2 G2 scope env [it]) [] (wipe σ (own.map (·.2))) Y { y with heap := F } := JY.turned (t' := y.toks) keep fy.1 fy.2.1 fy.2.2.2.1 fy.2.2.2.2.1 fy.2.2.2.2.2
      obtain ⟨m, ns, _⟩ := JF.loc
      have freeE : Y z2.heap.objs.size = none := locs ▸ JF.free
      refine ⟨m, locs ▸ ns, fun F' sb => ?_⟩
      have back : Inv X pins σ Y { y with heap := F } := J2.call' (ch := [it]) JF.os JF.base JF.hok JF.bare fun b hb => by
        obtain rfl := List.mem_singleton.mp hb
        exact ⟨fit2.2.2.2.1, fit2.2.1, fit2.2.2.2.2.1, fit2.2.2.2.2.2⟩
      obtain ⟨e0, e1, e2, e3, e4, e5⟩ := J2.fpOk (Nat.le_refl _) freeE
      exact ⟨.ref D, Y, back.turned (t' := y.toks) (fun b o nb q => (sb.2 b nb).trans q) e0 e1 e3 e4 e5, rfl, done⟩
    | inr more =>
      obtain ⟨⟨ys, x, hys, hx⟩, Nx, hN, step⟩ := more
      obtain ⟨its, ri, isY, _⟩ := JY.list hys
      obtain ⟨u, hu, ru⟩ := ri.get hx
      refine wpAny_pyNext_list_item st isY.isList (x := u) (by simpa using hu) fun F st' sb => ?_
      have JF : Inv (X.blk z2 G2 scope env [it]) [] (wipe σ (own.map (·.2))) Y { y with heap := F } := JY.turned (t' := y.toks) (fun b o nb q => (sb.2 b nb).trans q) fy.1 fy.2.1 fy.2.2.2.1 fy.2.2.2.2.1 fy.2.2.2.2.2
      obtain ⟨oi, gi, ci, di⟩ := id st'
      refine go_of (s := { y with heap := F }) gi ci di (by decide) ?_
      -- the iterator's record is pinned through the turn
      have JP : Inv (X.blk z2 G2 scope env [it]) [(it, oi)] (wipe σ (own.map (·.2))) Y { y with heap := F } := JF.pins_of fun p hp => by
        obtain rfl := List.mem_singleton.mp hp
        exact ⟨gi, fy.1, fy.2.1, fy.2.2.1, fun v q => by rw [di] at q; cases q⟩
      have again : ∀ {σ' : L2.St} {V' : Hp} {v' : Shared}, wipe σ' (own.map (·.2)) = wipe σ (own.map (·.2)) → Inv (X.blk z2 G2 scope env [it]) [(it, oi)] σ' V' v' → Nx V' →
          ∃ m, m < n ∧ ∃ i Y, Inv (X.blk z2 G2 scope env [it]) [] (wipe σ (own.map (·.2))) Y v' ∧ v'.heap.IsListIter it a i ∧ Y it = none ∧ W i m Y := fun {σ' V' v'} ws K nx => by
        obtain ⟨m, lt, wm⟩ := hN V' nx
        have pin := K.pin (it, oi) (List.mem_append_right _ (List.mem_singleton.mpr rfl))
        exact ⟨m, lt, i + 1, V', (K.pins_of (pins' := []) fun p hp => absurd hp (by simp)).weak (sw ws) (fun k v q => (wipe_some (ws ▸ q)).1), ⟨oi, pin.1, ci, di⟩, pin.2.1, wm⟩
      apply thnF (pg.run _ { y with heap := F } _ Y x u _ JP ru (step x Y ⟨rfl, fun vs hv => by rw [JF.list_inj hv hys]; exact hx⟩))
      rintro _ y1 ⟨σ1, Y1, K1, ws, t1⟩
      apply thnF (pt.run _ y1 σ1 Y1 _ K1 t1)
      rintro b y2 ⟨Y2, K2, q2⟩
      cases b with
      | false => exact again ws K2 q2
      | true =>
        apply thnF (pe.run _ y2 σ1 Y2 _ K2 q2)
        rintro v y3 ⟨yv, Y3, K3, r3, acc, hacc, room, nx⟩
        exact app_ok (X := X.blk z2 G2 scope env [it]) K3 hacc room r3 fun y4 K4 => again ws K4 nx
  have start := codeAny_compStart_list loop (wpAny_pyIter_listiter st3 loop)
  rw [henv, hz3] at start
  exact start
end
/-- while x is handled, its context None -/
theorem endTold_hot {P : Program} {w : World} {A : Around} {z : Shared} {it x : Addr} (hot : HotX.HotAt A x z.heap) (ne : x ≠ it) : EndTold P w A z it := by
  intro l n items Q E st isl none_ q
  have ty := st.typeIs
  obtain ⟨oi, gi, ci, di⟩ := st
  obtain ⟨ol, gl, _, _, dl⟩ := isl
  obtain ⟨hh, ox, vx, gx, dx, cx⟩ := hot
  unfold pyNext
  refine wpAny_bind (wpAny_attempt (wpAny_callSpecial?_slot (name := Str.ofString "__next__") ty slot_listiter_next (wpAny_call_entry slot_listiter_next ty entry_listiter_next ?_ (args_listiter_next _))))
  wp_walk using wpAny_field gi di (x := .ref l) rfl, wpAny_field gi di (x := .int n 0) rfl, wpAny_seqItems gl dl
  rw [Int.toNat_natCast, none_]
  wp_walk using wpAny_setField gi di (by simp)
  have g1 : ∀ (b : Addr) (o : Obj), b ≠ it → z.heap.get? b = some o → ((z.heap.update it (Obj.mapFields fun y => y.setIfInBounds 0 Value.none)).push { cls := Value.type "tuple", data := Data.seq #[] }).get? b = some o := fun b o nb g =>
    Heap.get?_push_of_some _ ((Heap.get?_update_other _ _ (Ne.symm nb)).trans g)
  generalize ((z.heap.update it (Obj.mapFields fun y => y.setIfInBounds 0 Value.none)).push { cls := Value.type "tuple", data := Data.seq #[] }) = G1 at g1 ⊢
  have gx1 := g1 x ox ne gx
  refine HotX.raiseNew_hot ⟨hh, ox, vx, Heap.get?_push_of_some _ gx1, dx, cx⟩ (Nat.ne_of_lt (Heap.lt_size gx1)) (Heap.get?_push_size _ rfl) rfl (by simp [Array.size_append]; omega) ?_
  refine wpAny_bind (wpAny_isInstance ⟨_, Heap.get?_update_self _ (Heap.get?_push_size _ rfl) rfl, rfl⟩ isSubtype_stop (wpAny_pure (q _ fun b o nb g => ?_)))
  exact (Heap.get?_update_other _ _ (Nat.ne_of_gt (Heap.lt_size (g1 b o nb g)))).trans (Heap.get?_push_of_some _ (g1 b o nb g))
theorem endsWell_hot {X : Cx} (hc : L2H.HotC X) : EndsWell X := by
  intro pins σ σ' H0 H' s0 s' it scope env I f J
  obtain ⟨p, ⟨hh, vx, dx, cx⟩, hp⟩ := hc
  have pin := I.pin p (List.mem_append_left _ hp)
  have ne : p.1 ≠ it := f.2.2.2.2.2 p (List.mem_append_left _ hp)
  refine endTold_hot ⟨hh, p.2, vx, J.base.keep p.1 p.2 pin.1 pin.2.1 (fun hm => ?_) (fun hm => ne (List.mem_singleton.mp hm)), dx, cx⟩ ne
  exact (List.mem_cons.mp (I.stkSub p.1 hm)).elim pin.2.2.1 pin.2.2.2.1
/-- while an exception is handled -/
theorem pe_lcHot {X : Cx} {K : PySem.W.Frag} {elt tg l : Expr} {ifs : List Expr} {scope : Scope} {own : List (Str × Nat)} {pos : Pos} {tl : TE} {g : TG} {tt : TT} {te : TE}
    (nod : X.N.Nodup) (hc : L2H.HotC X) (hl : PE X l tl) (ok : BlkOk X.N X.env.scope scope own)
    (hg : ∀ s H C cl fp, PG (X.blk s H scope (compEnvC scope cl C X.env) fp) tg g)
    (ht : ∀ s H C cl fp, PTs (X.blk s H scope (compEnvC scope cl C X.env) fp) ifs tt)
    (he : ∀ s H C cl fp, PE (X.blk s H scope (compEnvC scope cl C X.env) fp) elt te)
    (hs : ∀ v, foldedSetIterable l X.env v = pure v := by intro _; rfl) (h : X.K = K := by rfl) :
    PE X (.ListComp elt [⟨tg, l, ifs, 0⟩] scope pos) (tLc (iList K tl) g tt te (own.map (·.2))) := by
  subst h
  exact pe_lcOwn (te := fun _ => te) (endsWell_hot hc) nod hl ok hg ht (fun _ _ s H C cl it _ _ _ _ => he s H C cl [it]) hs
/-- the element may lend the cells of X: its reading speaks of the slots that stood when the block began -/
def tLcB (K : PySem.W.Frag) (tl : TE) (g : TG) (te : L2.St → TE) (vs : List Nat) : TE := fun σ H Q => tLc (iList K tl) g tYes (te σ) vs σ H Q
theorem r_lcB {K : PySem.W.Frag} {tl : TE} {g : TG} {te : L2.St → TE} {vs : List Nat} {σ : L2.St} {H : Hp} {Q : VK} : tLcB K tl g te vs σ H Q = iList K tl σ H fun J H1 => ∀ Dd, H1 Dd = none → LcW J g tYes (te σ) vs σ H1 Dd Q := rfl
theorem pe_lcLend {X : Cx} {K : PySem.W.Frag} {tg l : Expr} {elt : Expr} {scope : Scope} {own : List (Str × Nat)} {pos : Pos} {tl : TE} {g : TG} {te : L2.St → TE}
    (nod : X.N.Nodup) (hc : X.calm = true) (hl : PE X l tl) (ok : BlkOk X.N X.env.scope scope own)
    (hg : ∀ s H C cl fp, PG (X.blk s H scope (compEnvC scope cl C X.env) fp) tg g)
    (he : ∀ pins σ s H C cl it, Inv X pins σ H s → FpOk X pins H it → PE (X.blk s H scope (compEnvC scope cl C X.env) [it]) elt (te σ))
    (hs : ∀ v, foldedSetIterable l X.env v = pure v := by intro _; rfl) (h : X.K = K := by rfl) :
    PE X (.ListComp elt [⟨tg, l, [], 0⟩] scope pos) (tLcB K tl g te (own.map (·.2))) := by
  subst h
  exact pe_lcOwn (endsWell_calm hc) nod hl ok hg (fun _ _ _ _ _ => pts_nil) (fun pins σ s H C cl it i f _ _ => he pins σ s H C cl it i f) hs

/-! what an except suite asks of its error; repr of a value of any kind -/
/-- the suite's binders in the order that leaves its reading free of the object -/
theorem ps_try_asN2 {X : Cx} {x1 x2 x3 n : Str} {c1 c2 c3 : Value} {i tk0 : Nat} {body suite : List Stmt} {b₀ : Stmt} {q1 q2 q3 tp pos pos' : Pos} {tb : WX → TS} {ts : Addr → Value → Option Addr → TS} {Wout : WX} (stk : X.stack = X.env :: X.outer) (fr : X.env.frame = some X.env.locals) (nod : X.N.Nodup) (hi : X.N[i]? = some n) (loc : X.env.kindOf n = some .local) (h1 : Names X x1 c1) (h2 : Names X x2 c2) (h3 : Names X x3 c3) (tk : L2N.Takes X Wout)
    (hb : ∀ (W : WX) (pn : List (Addr × Obj)) (xe : Value → Shared → Prop), L2N.Takes (X.tr pn xe) W → PassesOwn (model X.prog X.w) X.A X.env xe → PSs (X.tr pn xe) body (tb W))
    (hsu : ∀ (a : Addr) (cls : Value) (d : Option Addr) (oe : Obj) (pn : List (Addr × Obj)), L2N.Zn cls d oe → (∃ vs, oe.data = .fields vs) → PSs (X.suite a ((a, oe) :: pn)) (b₀ :: suite) (ts a cls d)) :
    PS X (.Try body [.ExceptHandler (some (.Tuple [.Name x1 q1, .Name x2 q2, .Name x3 q3] tk0 tp)) (some n) (b₀ :: suite) pos'] [] [] pos) (fun D σ H => tb (wAsL X.K [c1, c2, c3] i ts Wout D) D σ H) :=
  ps_try_asN stk fr nod hi loc h1 h2 h3 tk hb fun a oe cls d pn => hsu a cls d oe pn
theorem takes0N {X : Cx} : L2N.Takes X (fun _ _ _ _ => False) := fun _ _ x => by
  obtain ⟨_, _, _, _, _, _, _, _, _, _, _, _, _, _, _, _, z⟩ := x
  exact z.elim
section
variable {X : Cx} {a : Addr} {oe : Obj} {cls : Value} {d : Option Addr} {pn : List (Addr × Obj)}
theorem hotS (hz : L2N.Zn cls d oe) (hf : ∃ vs, oe.data = .fields vs) : L2H.HotC (X.suite a ((a, oe) :: pn)) := by
  obtain ⟨vs, hv⟩ := hf
  exact ⟨(a, oe), ⟨rfl, vs, hv, hz.2.2 vs hv⟩, List.mem_cons_self⟩
/-- isinstance(e, c), e the error of the suite -/
def rIsK (K : PySem.W.Frag) (a : Addr) (cls : Value) (d : Option Addr) : List V → Hp → VK → Prop := fun xs H Q => ∃ (D : Addr) (c : V) (cv : Value) (b : Bool), cls = .ref D ∧ ExcC K D ∧ (d = none ∨ ∃ dd fs, d = some dd ∧ H dd = some (.xd fs)) ∧
  xs = [.ref a, c] ∧ (∀ u, RelV c u → u = cv) ∧ PySem.W.kitOne K (.ref D) cv = some b ∧ Q (.bl b) H
theorem call_isK (hz : L2N.Zn cls d oe) (hf : ∃ vs, oe.data = .fields vs) : CallR (X.suite a ((a, oe) :: pn)) (.builtin "isinstance") (rIsK X.K a cls d) := by
  intro pins s σ H xs us Q I r h
  obtain ⟨D, c, cv, b, rfl, C, hd, ex, hcv, e, q⟩ := h
  rcases hd with rfl | ⟨dd, fs, rfl, hdd⟩
  · exact call_isE C hz.zc hf pins s σ H xs us Q I r ⟨c, cv, b, ex, hcv, e, q⟩
  · exact call_isD C hz.zc hf pins s σ H xs us Q I r ⟨c, cv, b, fs, ex, hcv, e, hdd, q⟩
theorem kIsK {K : PySem.W.Frag} (hz : L2N.Zn cls d oe) (hf : ∃ vs, oe.data = .fields vs) (h : X.K = K := by rfl) : CallR (X.suite a ((a, oe) :: pn)) (.builtin "isinstance") (rIsK K a cls d) := by
  subst h
  exact call_isK hz hf
/-- e.f, e the error of the suite -/
def tXfK (K : PySem.W.Frag) (a : Addr) (cls : Value) (d : Option Addr) (f : Str) (te : TE) : TE := fun σ H Q => te σ H fun x H1 => x = .ref a ∧ ∃ (C dd : Addr) (fs : List (Str × V)) (v : V), cls = .ref C ∧ XfC K C ∧ PySem.W.findIn K (.ref C) f = some none ∧ d = some dd ∧ H1 dd = some (.xd fs) ∧ fs.lookup f = some v ∧ Q v H1
theorem pe_xfK {K : PySem.W.Frag} {e : Expr} {te : TE} {pos : Pos} {n : Str} (hz : L2N.Zn cls d oe) (hf : ∃ vs, oe.data = .fields vs) (he : PE (X.suite a ((a, oe) :: pn)) e te) (hb : attributeBase e n X.env (eval e X.env) = eval e X.env := by rfl) (hK : X.K = K := by rfl) :
    PE (X.suite a ((a, oe) :: pn)) (.Attribute e n pos) (tXfK K a cls d n te) := by
  subst hK
  -- what is asked of the class does not hang on the state
  by_cases known : ∃ C, cls = .ref C ∧ XfC X.K C ∧ PySem.W.findIn X.K (.ref C) n = some none
  · obtain ⟨C, ec, T, hno⟩ := known
    have field := pe_xf (pos := pos) T hno ⟨hz.1, hz.2.1⟩ hf (PE.mon he) hb
    constructor
    intro pins s σ H Q I h
    refine field.run pins s σ H Q I ⟨_, h, fun x H1 hx => ?_⟩
    obtain ⟨ex, C2, dd, fs, v, _, _, _, ed, ea, l, q⟩ := hx
    exact ⟨ex, ec, dd, fs, v, ed, ea, l, q⟩
  · constructor
    intro pins s σ H Q I h
    apply attr_of hb
    apply thn (he.run pins s σ H _ I h)
    rintro u s1 ⟨x, H1, _, _, _, C, _, _, _, ec, T, hno, _⟩
    exact absurd ⟨C, ec, T, hno⟩ known
end
/-- x(), the wish at the caller's slots -/
def tActW (P : Program) (w : World) (K : PySem.W.Frag) (mg : Str → Option Value) (base : Heap) (k i : Nat) (W : WX) : TE := fun σ H Q => ∃ (f : Addr) (R : Hp → VK → XK → Prop), σ[i]? = some (some (.ref f)) ∧ ThunkN P w K mg base k f R ∧ R H Q (fun cls d H' => W cls d σ H')
theorem pe_actW {X : Cx} {W : WX} {k i : Nat} {a : Str} {p1 p2 : Pos} (tk : L2N.Takes X W) (hr : Room k X.A)
    (hN : X.N[i]? = some a) (hv : Vis X.env.scope a) (hd : (a == ("__debug__" : Str)) = false := by decide) (hcd : (a == ("__classdict__" : Str)) = false := by decide) :
    PE X (.Call (.Name a p1) [] [] p2) (tActW X.prog X.w X.K X.mg X.base k i W) := by
  constructor
  rintro pins s σ H Q I ⟨f, R, at_, T, hR⟩
  have var := (pe_var (pos := p1) (i := i) hN hv hd hcd).run pins s σ H (fun v H1 => v = .ref f ∧ H1 = H) I ⟨.ref f, at_, rfl, rfl⟩
  apply wpAny_Call_Name_kw
  apply thn var
  rintro u s1 ⟨_, _, I1, rel, rfl, rfl⟩
  have eu : u = Value.ref f := rel
  rw [eu]
  obtain ⟨⟨fd, hf⟩, rc⟩ := T X.A X.stack s1 _ Q (fun cls d H' => W cls d σ H') hr I1.env0 hR
  apply PySem.W.callWith_F0 ⟨_, _, _, _, hf⟩
  apply wpAny_call
  apply codeAny_mono rc
  rintro (e | fl) s' came
  · exact tk e s' (L2N.XE.of_call I1 (fun _ _ _ h => h) came)
  · match fl, came with
    | .ret u, came => exact I1.after came
theorem kActW {P : Program} {w : World} {K : PySem.W.Frag} {mg : Str → Option Value} {base : Heap} {X : Cx} {W : WX} {k i : Nat} {a : Str} {p1 p2 : Pos} (tk : L2N.Takes X W) (hr : Room k X.A)
    (hN : X.N[i]? = some a) (hv : Vis X.env.scope a) (hx : X.prog = P ∧ X.w = w ∧ X.K = K ∧ X.mg = mg ∧ X.base = base := by exact ⟨rfl, rfl, rfl, rfl, rfl⟩) (hd : (a == ("__debug__" : Str)) = false := by decide) (hcd : (a == ("__classdict__" : Str)) = false := by decide) :
    PE X (.Call (.Name a p1) [] [] p2) (tActW P w K mg base k i W) := by
  obtain ⟨h1, h2, h3, h4, h5⟩ := hx
  subst h1 h2 h3 h4 h5
  exact pe_actW tk hr hN hv hd hcd
/-- as Fun.ok, for a def that may raise, the error's context None -/
theorem Fun_okN {P : Program} {w : World} {K : PySem.W.Frag} {mg : Str → Option Value} {base : Heap} {x qual : Str} {st : Stmt} {f : Addr} {fd : FuncData} {N ps : List Str} {k : Nat} {sp : Sp} (F : Fun K x qual st f fd) (S : FnScope N ps (defScope st)) (len : ∀ vs H Q E, sp vs H Q E → vs.length = ps.length)
    (hbody : ∀ (cdv : Value) (A : Around) (outer : List Env) (s : Shared) (H : Hp) (vs : List V) (Q : VK) (E : XK), Room k (A.deeper (envOfC qual (defScope st) s.heap.objs.size f cdv)) → sp vs H Q E →
      ∃ t, PSs (cxOf (L2N.CX P w) P w K mg base N qual (defScope st) f cdv A outer s H E) (defBody st) t ∧ t { nx := fun _ H' => Q .non H', rt := Q } (L2.start N vs) H) : FnOk P w K mg base (L2N.CX P w) (k + 1) f fd ps sp := by
  obtain ⟨oc, od, kV, doc, pm, an, cdv, ct, osl, rfl, lk, hcd⟩ := F.ex
  exact fn_of lk hcd S len fun A outer s H vs Q E hr hsp => hbody cdv A outer s H vs Q E hr hsp
theorem passN {X : Cx} : Passes (L2N.CX X.prog X.w) X E0 := fun _ _ _ _ _ _ _ h => by
  obtain ⟨_, _, _, _, _, _, _, _, _, _, _, _, z⟩ := h
  exact z.elim
/-- where nothing is raised such a def is one that raises nothing -/
theorem fn_calm {P : Program} {w : World} {K : PySem.W.Frag} {mg : Str → Option Value} {base : Heap} {k : Nat} {f : Addr} {fd : FuncData} {ps : List Str} {sp sp' : Sp} (F : FnOk P w K mg base (L2N.CX P w) k f fd ps sp') (h : ∀ vs H Q E, sp vs H Q E → sp' vs H Q E0) : FnOk P w K mg base CX0 k f fd ps sp :=
  ⟨fun vs H Q E q => F.len vs H Q E0 (h _ _ _ _ q), fun A outer s H args us vs Q E hr he hb hv hs => codeAny_mono (F.run A outer s H args us vs Q E0 hr he hb hv (h _ _ _ _ hs)) fun r s' hc => by
    cases r with
    | error e =>
      obtain ⟨_, _, _, _, _, _, _, _, _, _, _, _, z⟩ := hc
      exact z.elim
    | ok fl => cases fl <;> exact hc⟩
theorem r_Kx {CX : CXT} {P : Program} {w : World} {K : PySem.W.Frag} {mg : Str → Option Value} {base : Heap} {N : List Str} {q : Str} {sc : Scope} {f : Addr} {cd : Value} {A : Around} {outer : List Env} {s : Shared} {H : Hp} {E : XK} : (cxOf CX P w K mg base N q sc f cd A outer s H E).K = K := rfl
theorem r_Kt {P : Program} {w : World} {K : PySem.W.Frag} {mg : Str → Option Value} {base : Heap} {N : List Str} {q : Str} {sc : Scope} {cl : List (Str × Addr)} {A : Around} {outer : List Env} {s : Shared} {H : Hp} {E : XK} {f c' : Addr} : (thCxN P w K mg base N q sc cl A outer s H E f c').K = K := rfl
theorem r_FN {sp : Sp} {E : XK} {t : TA} {σ : L2.St} {H : Hp} {Q : VK} : tFN sp E t σ H Q = t σ H fun vs H1 => sp vs H1 Q E := rfl
theorem r_WN {sp : Sp} {E : XK} {m : Nat} {ix : List Nat} {t : TA} {σ : L2.St} {H : Hp} {Q : VK} : tWN sp E m ix t σ H Q = t σ H fun zs H1 => zs.length = m ∧ sp (arr ix zs) H1 Q E := rfl
/-- a text among a list's texts -/
def rInS (K : PySem.W.Frag) : R2 := fun x y H Q => ∃ (p : Addr) (z : Str) (ns : List Str), x = .str z ∧ y = .ref p ∧ SqL K H p (ns.map V.str) ∧ Q (.bl (ns.any fun n => n == z)) H
theorem kInS {X : Cx} {K : PySem.W.Frag} (h : X.K = K := by rfl) : OpR X (compareOp .In) (rInS K) := by
  subst h
  refine OpR.imp op_in_seq fun x y H Q ⟨p, i, ns, e1, e2, hs, q⟩ => ?_
  subst e1 e2
  refine ⟨p, ns.map V.str, rfl, .inl hs, rfl, by simp [List.all_map, flatV], ?_⟩
  have : inV (.str i) (ns.map V.str) = ns.any fun n => n == i := by
    unfold inV
    rw [List.any_map]
    congr 1
  rw [this]
  exact q
/-! ### repr of a value of any kind -/
def RpT (K : PySem.W.Frag) (H : Hp) (v : V) (t : Str) : Prop :=
  (v = .non ∧ t = "None") ∨ (∃ b, v = .bl b ∧ t = (if b then ("True" : Str) else "False")) ∨ (∃ i : Int, v = .int i ∧ i.natAbs.log2 < 1920 ∧ t = (toString i : String)) ∨ (∃ x, v = .str x ∧ (reprText x).length ≤ sizeLine ∧ t = reprText x) ∨
  (∃ a d k c, v = .ref a ∧ Dp K H v d ∧ Gd d k c ∧ k ≤ 20 ∧ c ≤ 10000000 ∧ t = d.shown) ∨ (∃ a, v = .ref a ∧ H a = some (.dK []) ∧ t = "{}")
theorem RpT.ex {K : PySem.W.Frag} {H H' : Hp} {v : V} {t : Str} (h : RpT K H v t) (e : Ex H H') : RpT K H' v t := by
  rcases h with h | h | h | h | ⟨a, d, k, c, ev, hd, r⟩ | ⟨a, ev, h, r⟩
  · exact .inl h
  · exact .inr (.inl h)
  · exact .inr (.inr (.inl h))
  · exact .inr (.inr (.inr (.inl h)))
  · exact .inr (.inr (.inr (.inr (.inl ⟨a, d, k, c, ev, dp_kp e d v hd, r⟩))))
  · exact .inr (.inr (.inr (.inr (.inr ⟨a, ev, e _ _ h, r⟩))))
def rRpT (K : PySem.W.Frag) : List V → Hp → VK → Prop := fun vs H Q => ∃ v t, vs = [v] ∧ RpT K H v t ∧ Q (.str t) H
theorem cr_rpT {X : Cx} (hg : X.A.guards = some []) (hu : X.A.units + 64 < cLine) : CallR X (.builtin "repr") (rRpT X.K) := by
  intro pins s σ H xs us Q I r h
  obtain ⟨v, t, rfl, h, q⟩ := h
  have r0 := r
  cases r with
  | cons r1 r2 =>
    cases r2
    rcases h with ⟨rfl, rfl⟩ | ⟨b, rfl, rfl⟩ | ⟨i, rfl, hi, rfl⟩ | ⟨x, rfl, hx, rfl⟩ | ⟨a, d, k, c, rfl, hd, g, hk, hc, rfl⟩ | ⟨a, rfl, ha, rfl⟩
    · cases r1
      exact PySem.P.repr_of_none ⟨.str _, H, I.tok _, ⟨_, rfl⟩, q⟩
    · cases r1
      exact PySem.P.repr_of_bool ⟨.str _, H, I.tok _, ⟨_, rfl⟩, q⟩
    · obtain ⟨tk, rfl⟩ := r1
      exact PySem.P.repr_of_int hi ⟨.str _, H, I.tok _, ⟨_, rfl⟩, q⟩
    · obtain ⟨tk, rfl⟩ := r1
      exact PySem.P.repr_of_str ⟨.str _, H, I.tok _, ⟨_, rfl⟩, q⟩ hx
    · exact cr_reprG hg hu pins s σ H _ _ Q I r0 ⟨_, d, k, c, rfl, hd, ⟨a, rfl⟩, g, hk, hc, q⟩
    · cases r1
      obtain ⟨_, hsys, vs, kv, o, es, ep, e, x, dd, ko, prs, _⟩ := (show ObjOk X.prog X.w H s.heap a (.dK []) from I.hok a _ ha)
      cases kv
      have en : es.toList = [] := by
        cases q : es.toList with
        | nil => rfl
        | cons z r => rw [q] at prs; cases prs
      have rd : Reads s.heap (.ref a) (.dict []) (a :: [] ++ []) := .dict (kvs := []) e x.1 dd (by rw [en]; exact .nil) (by rw [en]; exact .nil)
      refine repr_of_reads' rd (by simp [PyData.showable, PyData.showableKv]) (fun _ z => ?_) hg (by show X.A.units + (PyData.depth (.dict []) + 1) < cLine; simp only [PyData.depth, PyData.depthKv]; omega) (fun _ _ e => e) (fun h' u tk hk => ⟨.str "{}", H, I.kept hk, ⟨u, rfl⟩, q⟩) (by decide +kernel)
      have z2 : sysModules = a := by simpa using z
      rw [z2] at hsys
      simp at hsys
theorem kRpT {X : Cx} {K : PySem.W.Frag} (hg : X.A.guards = some []) (hu : X.A.units + 64 < cLine) (h : X.K = K := by rfl) : CallR X (.builtin "repr") (rRpT K) := by
  subst h
  exact cr_rpT hg hu

/-! a tuple repeated, none and one included -/
/-- what a tuple taken no times or once comes to -/
def FewR (l : Addr) (k : Int) (s : Shared) (R : Result → Shared → Prop) : Prop :=
  if k = 1 then R (.ok (.ret (.ref l))) s else R (.ok (.ret (.ref s.heap.objs.size))) { s with heap := s.heap.push { cls := .type "tuple", data := .seq #[] } }
theorem few_mul (l : Addr) (o : Obj) (items : Array Value) (n : Nat) (ho : o.data = .seq items n) (hc : o.cls = .type "tuple") (hi : items.isEmpty = false) (k : Int) (u : Tok) (hk : k = 0 ∨ k = 1) :
    Meets (Builtin.«tuple.__mul__» ⟨[.ref l, .int k u], []⟩) (fun _ R s => s.heap.get? l = some o ∧ FewR l k s R) := by
  apply Meets.of_wp
  rintro prog w A R ⟨hp, g, d, tk, os⟩ ⟨at_, r⟩
  obtain ⟨_, _, _, _⟩ := o
  subst ho hc
  have num := AutoSeq1.idx_int
  have small : (decide (k < -(2 ^ 63)) || decide (k ≥ 2 ^ 63)) = false := by
    rcases hk with rfl | rfl <;> decide
  rcases hk with rfl | rfl
  · have once : (items.isEmpty || (0 : Int) == 1) = false := by rw [hi]; rfl
    have none_ : (decide ((0 : Int) ≤ 0) || items.isEmpty) = true := rfl
    wp_walk using wpAny_loadPart' at_, wpAny_ite_false (decide_eq_false (ne_of_eq_of_ne small Bool.false_ne_true)), wpAny_ite_false (decide_eq_false (ne_of_eq_of_ne once Bool.false_ne_true)), wpAny_ite_true (decide_eq_true none_)
    exact ⟨_, rfl, r⟩
  · have once : (items.isEmpty || (1 : Int) == 1) = true := by rw [hi]; rfl
    wp_walk using wpAny_loadPart' at_, wpAny_ite_false (decide_eq_false (ne_of_eq_of_ne small Bool.false_ne_true)), wpAny_ite_true (decide_eq_true once)
    exact ⟨_, rfl, r⟩
def rRepA (K : PySem.W.Frag) : R2 := fun x y H Q => ∃ l k xs, x = .ref l ∧ y = .int k ∧ H l = some (.tup xs) ∧ xs ≠ [] ∧ 0 ≤ k ∧ k ≤ 1000 ∧ xs.length ≤ 1000 ∧ ∀ p H', Ex H H' → SqT K H' p (List.replicate k.toNat xs).flatten → Q (.ref p) H'
theorem op_repA {X : Cx} {K : PySem.W.Frag} (hK : X.K = K := by rfl) : OpR X (binaryOp .Mult) (rRepA K) := by
  subst hK
  intro pins s σ H x y v u Q I rx ry h
  obtain ⟨l, k, xs, rfl, rfl, hl, hne, h0, h1, hz, q⟩ := h
  have hT : SqT X.K H l xs := .of hl
  by_cases k2 : 2 ≤ k
  · exact op_repT pins s σ H _ _ v u Q I rx ry ⟨l, k, xs, rfl, rfl, hT, hne, k2, h1, hz, fun p hp => q p _ (Ex.new hp) (.of upd_same)⟩
  cases rx
  obtain ⟨t, rfl⟩ := ry
  obtain ⟨its, r, ⟨o, ho, hc, n, hd⟩, _⟩ := I.tuple hT
  have some_ : its.toArray.isEmpty = false := by
    cases its with
    | nil => exact absurd (List.eq_nil_of_length_eq_zero r.length) hne
    | cons a b => rfl
  have hk : k = 0 ∨ k = 1 := by omega
  have isT : s.TypeIs (.ref l) "tuple" := ⟨o, ho, hc⟩
  -- both ways round lead to tuple.__mul__
  have run : ∀ Q' : Value → Shared → Prop, FewR l k s (fun r s' => match r with | .ok (.ret v) => Q' v s' | _ => False) → wpAny (model X.prog X.w) X.A (binaryOp .Mult (.ref l) (.int k t)) Q' X.xe s := fun Q' few => by
    obtain ⟨cls, dd, data, sl⟩ := o
    simp only at hc hd
    subst hc hd
    refine wpAny_binaryOp_repeat_ref (T := "tuple") (U := "int") (by decide) isT (fun s' => typeIs_int s' k t) noFill_tuple_mul F.fills_int_mul F.slot_int_rmul repeat_tuple F.slot_int_index.lookup (call_meets F.slot_int_rmul (typeIs_int s k t) F.entry_int_rmul (F.args_int_rmul_2 _ _) (int_rmul_tuple k t l its.toArray n dd sl) ⟨ho, rfl, isT, call_meets F.slot_tuple_mul isT F.entry_tuple_mul (F.args_tuple_mul_2 _ _) (few_mul l _ its.toArray n rfl rfl some_ k t hk) ⟨ho, ?_⟩⟩)
    unfold FewR at few ⊢
    split at few
    · rename_i k1
      rw [if_pos k1]
      exact few
    · rename_i k1
      rw [if_neg k1]
      exact few
  refine run _ ?_
  unfold FewR
  rcases hk with rfl | rfl
  · rw [if_neg (by decide)]
    refine ⟨.ref s.heap.objs.size, _, I.laid (t' := s.toks) (o := .tup []) (fun b ob q => Heap.get?_push_of_some _ q) (Nat.le_refl _) ⟨Nat.zero_le _, [], .nil, IsTup.new _ _⟩, rfl, q _ _ (Ex.new (I.hok.fresh (Nat.le_refl _))) (.of upd_same)⟩
  · rw [if_pos rfl]
    refine ⟨.ref l, H, I, rfl, q l H (Ex.refl _) ?_⟩
    rw [show (List.replicate (1 : Int).toNat xs).flatten = xs from by show (List.replicate 1 xs).flatten = xs; simp]
    exact hT

/-! texts whose points are points -/
theorem strOk_iff {x : Str} : PyData.strOk x = true ↔ ∀ c ∈ x.cps, c < 0x110000 := by
  unfold PyData.strOk
  rw [Array.all_eq_true_iff_forall_mem]
  exact ⟨fun h c hc => of_decide_eq_true (h c hc), fun h c hc => decide_eq_true (h c hc)⟩
theorem strOk_of (s : String) : PyData.strOk (PySem.Str.ofString s) = true := by
  rw [strOk_iff, PySem.Str.ofString_eq_toList]
  intro c hc
  simp only [List.mem_toArray, List.mem_map] at hc
  obtain ⟨a, _, rfl⟩ := hc
  have h := a.valid
  rcases h with h | h
  · have : a.toNat < 0xd800 := h
    omega
  · exact h.2
theorem strOk_app {a b : Str} (ha : PyData.strOk a = true) (hb : PyData.strOk b = true) : PyData.strOk (a ++ b) = true := by
  rw [strOk_iff] at ha hb ⊢
  intro c hc
  have hc : c ∈ a.cps ++ b.cps := hc
  rcases Array.mem_append.mp hc with h | h
  · exact ha c h
  · exact hb c h
theorem strOk_join {sep : Str} (hs : PyData.strOk sep = true) : ∀ {ts : List Str}, (∀ t ∈ ts, PyData.strOk t = true) → PyData.strOk (Str.join sep ts) = true
  | [], _ => by
    rw [strOk_iff]
    intro c hc
    have hc : c ∈ (#[] : Array Nat) := hc
    simp at hc
  | [t], h => h t List.mem_cons_self
  | t :: u :: ts, h => by
    show PyData.strOk (t ++ sep ++ Str.join sep (u :: ts)) = true
    exact strOk_app (strOk_app (h t List.mem_cons_self) hs) (strOk_join hs fun x hx => h x (List.mem_cons_of_mem _ hx))
theorem strOk_tuple {ts : List Str} (h : ∀ t ∈ ts, PyData.strOk t = true) : PyData.strOk (tupleText ts) = true :=
  strOk_app (strOk_app (strOk_of "(") (strOk_join (strOk_of ", ") h)) (strOk_of _)
theorem strOk_shownInts {cs : List Int} : PyData.strOk (PyData.tuple (cs.map PyData.int)).shown = true := by
  show PyData.strOk (tupleText (PyData.shownAll (cs.map PyData.int))) = true
  refine strOk_tuple fun t ht => ?_
  induction cs with
  | nil => cases ht
  | cons c cs ih =>
    rcases List.mem_cons.mp ht with rfl | ht
    · exact strOk_of _
    · exact ih ht
/-- a lambda kept, a list made of it, another kept and set behind it -/
theorem two_lams {G1 G2 G3 : Hp} {f1 f2 pA : Addr} {o1 o2 oL : HO} {xs : List V} (nf1 : G1 f1 = none) (n2 : (upd G1 f1 o1) pA = none) (e2 : Ex (upd G1 f1 o1) G2) (t2 : G2 pA = some (.lst xs)) (en3 : ExN G2 G3) (nf2 : G3 f2 = none) :
    ExN (upd G1 f1 o1) (upd (upd G3 f2 o2) pA oL) ∧ ExN G1 (upd (upd G3 f2 o2) pA oL) ∧ (upd (upd G3 f2 o2) pA oL) pA = some oL ∧ (upd (upd G3 f2 o2) pA oL) f2 = some o2 ∧ Kp G3 (upd (upd G3 f2 o2) pA oL) := by
  have h3 : G3 pA = some (.lst xs) := en3 _ _ t2 (fun _ z => nomatch z)
  have n : f2 ≠ pA := fun z => by rw [z, h3] at nf2; cases nf2
  have k3 : Kp G3 (upd (upd G3 f2 o2) pA oL) := fun a o h m => by
    rw [upd_ne (fun z => m xs (by rw [z, h3] at h; exact (Option.some.inj h).symm)), upd_ne (ne_of_none h nf2)]
    exact h
  have eB : ExN (upd G1 f1 o1) (upd (upd G3 f2 o2) pA oL) := fun a o h m => by
    have h3 := en3 _ _ (e2 _ _ h) m
    rw [upd_ne (ne_of_none h n2), upd_ne (ne_of_none h3 nf2)]
    exact h3
  exact ⟨eB, (Ex.new nf1).n.trans eB, upd_same, by rw [upd_ne n]; exact upd_same, k3⟩
theorem codeO_lst {c : Addr} {q : Str} : ∀ xs, LamX.CodeO c q ≠ .lst xs := fun _ z => by unfold LamX.CodeO at z; cases z

/-! an error without a context is an error -/
theorem fn_weak {P : Program} {w : World} {K : PySem.W.Frag} {mg : Str → Option Value} {base : Heap} {k : Nat} {f : Addr} {fd : FuncData} {ps : List Str} {sp : Sp} (F : FnOk P w K mg base (L2N.CX P w) k f fd ps sp) : FnOk P w K mg base (L2.CX P w) k f fd ps sp :=
  ⟨F.len, fun A outer s H args us vs Q E hr he hb hv hs => codeAny_mono (F.run A outer s H args us vs Q E hr he hb hv hs) fun r s' hc => by
    cases r with
    | error e =>
      obtain ⟨a, B, H', cls, d, h1, h2, h3⟩ := hc
      refine ⟨a, B, H', cls, d, h1, ?_, h3⟩
      obtain ⟨z1, z2, z3, z4⟩ := h2
      refine ⟨z1, z2, z3, ?_⟩
      obtain ⟨oe, vs, T, oT, ts, g1, g2, g3⟩ := z4
      exact ⟨oe, vs, T, oT, ts, g1, g2.zc, g3⟩
    | ok fl => cases fl <;> exact hc⟩

/-! a call with the cells lent, within a comprehension -/
/-- x(e, ..) while the cells of X0 are lent -/
def tLendF (X0 : Cx) (sp : Sp) (t : TA) : TE := fun σ H Q => t σ H fun vs H1 => ∀ H', LentX X0 σ H1 H' → sp vs H' (fun v H2 => (∀ b, Ad X0.env.cells b → H2 b = H' b) ∧ Q v (dropC (Ad X0.env.cells) H2)) E0
theorem pe_lendF {X : Cx} (X0 : Cx) {x : Str} {k : Nat} {ps : List Str} {sp : Sp} {p pos : Pos} {e : Expr} {es : List Expr} {t : TA}
    (h : HasG X.prog X.w X.K X.mg X.base x k ps sp) (hgd : X.A.guards = some []) (hr : Room k X.A) (ha : PA X (e :: es) t) (hc : X.env.cells = X0.env.cells := by rfl) (hN : X.N = X0.N := by rfl) (hk : ∀ y, X.env.kindOf y = X0.env.kindOf y := by intro _; rfl)
    (hf : ∀ y, X.fn y = true := by intro _; rfl) (hg : Gl X x := by rfl)
    (hdb : (x == ("__debug__" : Str)) = false := by decide)
    (he : starEach (e :: es) X.env = (false, eval e X.env) :: starEach es X.env := by rfl)
    (hpl : (backTo pos (starEach es X.env)).any (·.1) = false := by rfl) :
    PE X (.Call (.Name x p) (e :: es) [] pos) (tLendF X0 sp t) := by
  obtain ⟨f, fd, F, hm, hk2, hb⟩ := h
  have e1 : ∀ {σ : L2.St} {H1 H' : Hp}, LentX X σ H1 H' → LentX X0 σ H1 H' := fun {σ H1 H'} L => by
    refine ⟨fun b hb => L.none b (by rw [hc]; exact hb), fun b hb => L.off b (by rw [hc]; exact hb), fun b hb => L.on b (by rw [hc]; exact hb), ⟨fun y c hy hok => ?_, by rw [← hN]; exact L.at_.len⟩⟩
    have z := L.at_.cell y c (by rw [hc]; exact hy) (by
      rcases hok with h | h
      · exact .inl (by rw [hk]; exact h)
      · exact .inr (by rw [hk]; exact h))
    rw [← hN]
    exact z
  refine ⟨fun pins s σ H Q I hq => ?_⟩
  apply wpAny_Call_Name_kw (ld_glob I hg hm ?_ hdb)
  apply PySem.W.callWith_K (h₀ := X.base) I.ok.mod.kin hk2 ?_ he hpl
  refine thn (ha.run pos pins s σ H _ I hq) fun us s1 ⟨vs, H1, I1, rel, hsp⟩ => ⟨I1.kIn, ?_⟩
  obtain ⟨H', L, LX⟩ := lend_inv I1
  have hsp := hsp H' (e1 LX)
  rw [← hc] at hsp
  have hl : us.length = ps.length := by rw [← rel.length]; exact F.len _ _ _ _ hsp
  have bnd := hb s1 us I1.kIn (by rw [List.append_nil]; exact hl)
  rw [List.append_nil] at bnd
  refine wpAny_call (codeAny_mono (F.run X.A X.stack s1 H' ⟨us, []⟩ us vs _ E0 hgd hr (lend_env0 I1 hf L) bnd rel hsp) fun r s' hc => ?_)
  cases r with
  | error er => exact (show False from hc).elim
  | ok fl =>
    cases fl with
    | ret u => exact I1.after (ce_back L hc)
    | next => exact hc.elim
    | brk => exact hc.elim
    | cont => exact hc.elim
theorem r_lendF {X0 : Cx} {sp : Sp} {t : TA} {σ : L2.St} {H : Hp} {Q : VK} : tLendF X0 sp t σ H Q = t σ H fun vs H1 => ∀ H', LentX X0 σ H1 H' → sp vs H' (fun v H2 => (∀ b, Ad X0.env.cells b → H2 b = H' b) ∧ Q v (dropC (Ad X0.env.cells) H2)) E0 := rfl

/-! a call with the maker's cells lent, in the element of a comprehension -/
section
variable {X : Cx} {pins : List (Addr × Obj)} {σ σ0 : L2.St} {H H0 : Hp} {s s0 : Shared} {fp : List Addr} {scope : Scope} {cenv : Env}
theorem lend_envC {X : Cx} {C : Addr → Prop} {pins : List (Addr × Obj)} {σ : L2.St} {H H' : Hp} {s : Shared} (I : Inv X pins σ H s) (hC : ∀ b, C b → X.base.get? b = none ∧ b ∉ frs X.stack) (L : Lent C s.heap H H') : Env0 X.prog X.w X.K X.mg X.base X.A X.stack s H' := by
  have e := I.env0
  refine ⟨e.frames, e.mod, fun b o q => ⟨(e.bs b o q).1, ?_⟩, e.bsz, e.funs, fun b q => ?_, L.hok e.hok, e.bare⟩
  · rw [L.off b fun z => by rw [(hC b z).1] at q; cases q]
    exact (e.bs b o q).2
  · rw [L.off b fun z => (hC b z).2 q]
    exact e.frf b q
/-- the cells of X0, seen from a block of it -/
theorem lend_blk (I0 : Inv X pins σ0 H0 s0) (hf : ∀ y, X.fn y = true) (hfp : ∀ b ∈ fp, FpOk X pins H0 b) {pins' : List (Addr × Obj)} (I : Inv (X.blk s0 H0 scope cenv fp) pins' σ H s) :
    ∃ H', Lent (Ad X.env.cells) s.heap H H' ∧ LentX X σ0 H H' := by
  have kept : ∀ b, Ad X.env.cells b → ∀ o, s0.heap.get? b = some o → s.heap.get? b = some o ∧ H b = none := fun b ⟨y, e⟩ o ho => by
    have nb := I0.freeC y b e
    have nf : b ∉ frs X.stack := (cells_new I0 hf ⟨y, e⟩).2
    have nx : b ∉ fp := fun hb => (hfp b hb).2.2.2.2.1 y b e rfl
    exact ⟨I.base.keep b o ho nb nf nx, I.base.free b o ho nb nx⟩
  have ex : ∀ b, Ad X.env.cells b → ∃ o, s0.heap.get? b = some o := fun b ⟨y, e⟩ => by
    obtain ⟨v, o, ho, _⟩ := I0.cell y b e
    exact ⟨o, ho⟩
  obtain ⟨H', L⟩ := lend_ex (C := Ad X.env.cells) (h := s.heap) (H := H) (fun b hb => let ⟨o, ho⟩ := ex b hb; (kept b hb o ho).2) fun b hb => let ⟨o, ho⟩ := ex b hb; ⟨o, (kept b hb o ho).1⟩
  refine ⟨H', L, L.none, L.off, fun b hb => let ⟨o, _, q⟩ := L.on b hb; ⟨o, q⟩, ⟨fun y c hc hy => ?_, I0.len⟩⟩
  obtain ⟨v, o, ho, hd⟩ := I0.cell y c hc
  have ho1 := (kept c ⟨y, hc⟩ o ho).1
  obtain ⟨o', ho', q⟩ := L.on c ⟨y, hc⟩
  rw [ho1] at ho'
  cases ho'
  refine ⟨o, v, q, hd, fun i x h1 h2 => ?_⟩
  obtain ⟨m, _, hl⟩ := I0.loc
  obtain ⟨u, r, l⟩ := hl i y x h1 h2 (hy.elim (fun k => .inr (.inl k)) (fun k => .inr (.inr k)))
  refine ⟨u, ?_, r⟩
  rcases l with ⟨k, _⟩ | ⟨_, c3, e3, z⟩
  · have k : X.env.kindOf y = some .local := k
    rcases hy with z | z <;> rw [z] at k <;> cases k
  · rw [hc] at e3
    cases e3
    obtain ⟨o2, ho2, hd2⟩ := z
    rw [ho] at ho2
    cases ho2
    rw [hd] at hd2
    injection hd2
/-- x(e, ..) in the block's element while the cells of X are lent; σ0: the def's slots when the block began -/
def tLendB (X : Cx) (σ0 : L2.St) (sp : Sp) (t : TA) : TE := fun σ H Q => t σ H fun vs H1 => ∀ H', X.Ok → LentX X σ0 H1 H' → sp vs H' (fun v H2 => (∀ b, Ad X.env.cells b → H2 b = H' b) ∧ Q v (dropC (Ad X.env.cells) H2)) E0
theorem r_lendB {sp : Sp} {t : TA} {Q : VK} : tLendB X σ0 sp t σ H Q = t σ H fun vs H1 => ∀ H', X.Ok → LentX X σ0 H1 H' → sp vs H' (fun v H2 => (∀ b, Ad X.env.cells b → H2 b = H' b) ∧ Q v (dropC (Ad X.env.cells) H2)) E0 := rfl
theorem pe_lendB (I0 : Inv X pins σ0 H0 s0) (hf : ∀ y, X.fn y = true) (hfp : ∀ b ∈ fp, FpOk X pins H0 b) {x : Str} {k : Nat} {ps : List Str} {sp : Sp} {p pos : Pos} {e : Expr} {es : List Expr} {t : TA}
    (h : HasG X.prog X.w X.K X.mg X.base x k ps sp) (hgd : X.A.guards = some []) (hr : Room k X.A) (ha : PA (X.blk s0 H0 scope cenv fp) (e :: es) t) (hg : Gl (X.blk s0 H0 scope cenv fp) x := by rfl)
    (hdb : (x == ("__debug__" : Str)) = false := by decide)
    (he : starEach (e :: es) (X.blk s0 H0 scope cenv fp).env = (false, eval e (X.blk s0 H0 scope cenv fp).env) :: starEach es (X.blk s0 H0 scope cenv fp).env := by rfl)
    (hpl : (backTo pos (starEach es (X.blk s0 H0 scope cenv fp).env)).any (·.1) = false := by rfl) :
    PE (X.blk s0 H0 scope cenv fp) (.Call (.Name x p) (e :: es) [] pos) (tLendB X σ0 sp t) := by
  obtain ⟨f, fd, F, hm, hk, hb⟩ := h
  refine ⟨fun pins' s σ H Q I hq => ?_⟩
  apply wpAny_Call_Name_kw (ld_glob I hg hm ?_ hdb)
  apply PySem.W.callWith_K (h₀ := X.base) I.ok.mod.kin hk ?_ he hpl
  refine thn (ha.run pos pins' s σ H _ I hq) fun us s1 ⟨vs, H1, I1, rel, hsp⟩ => ⟨I1.kIn, ?_⟩
  obtain ⟨H', L, LX⟩ := lend_blk I0 hf hfp I1
  have hsp := hsp H' I0.ok LX
  have hl : us.length = ps.length := by rw [← rel.length]; exact F.len _ _ _ _ hsp
  have bnd := hb s1 us I1.kIn (by rw [List.append_nil]; exact hl)
  rw [List.append_nil] at bnd
  refine wpAny_call (codeAny_mono (F.run X.A X.stack s1 H' ⟨us, []⟩ us vs _ E0 hgd hr (lend_envC (X := X.blk s0 H0 scope cenv fp) I1 (fun b hb => cells_new I0 hf hb) L) bnd rel hsp) fun r s' hc => ?_)
  cases r with
  | error er => exact (show False from hc).elim
  | ok fl =>
    cases fl with
    | ret u => exact I1.after (ce_back L hc)
    | next => exact hc.elim
    | brk => exact hc.elim
    | cont => exact hc.elim
theorem pe_lendB1 {it : Addr} (I0 : Inv X pins σ0 H0 s0) (f0 : FpOk X pins H0 it) {x : Str} {k : Nat} {ps : List Str} {sp : Sp} {p pos : Pos} {e : Expr} {es : List Expr} {t : TA}
    (h : HasG X.prog X.w X.K X.mg X.base x k ps sp) (hgd : X.A.guards = some []) (hr : Room k X.A) (ha : PA (X.blk s0 H0 scope cenv [it]) (e :: es) t) (hf : ∀ y, X.fn y = true := by intro _; rfl) (hg : Gl (X.blk s0 H0 scope cenv [it]) x := by rfl)
    (hdb : (x == ("__debug__" : Str)) = false := by decide)
    (he : starEach (e :: es) (X.blk s0 H0 scope cenv [it]).env = (false, eval e (X.blk s0 H0 scope cenv [it]).env) :: starEach es (X.blk s0 H0 scope cenv [it]).env := by rfl)
    (hpl : (backTo pos (starEach es (X.blk s0 H0 scope cenv [it]).env)).any (·.1) = false := by rfl) :
    PE (X.blk s0 H0 scope cenv [it]) (.Call (.Name x p) (e :: es) [] pos) (tLendB X σ0 sp t) :=
  pe_lendB I0 hf (fun b hb => by obtain rfl := List.mem_singleton.mp hb; exact f0) h hgd hr ha hg hdb he hpl
end

/-! [f(lambda: ..) for x in a list], the lambda made and called in the comprehension's own block -/
/-- these cells are no frame's and stand in no base -/
def Apart (X : Cx) (cl : List (Str × Addr)) : Prop := ∀ b, Ad cl b → X.base.get? b = none ∧ b ∉ frs X.stack
section
variable {X : Cx} {pins : List (Addr × Obj)} {σ : L2.St} {H : Hp} {s : Shared}
theorem blk_apart (I : Inv X pins σ H s) (hf : ∀ y, X.fn y = true) {scope : Scope} {own : List (Str × Nat)} (ok : BlkOk X.N X.env.scope scope own) : Apart X (cellsFrom (s.heap.objs.size + 1) scope.names (cloFrom X.env.cells scope.names [])) := by
  intro b ⟨y, e⟩
  have e := PySem.mem_of_lookup e
  rw [← Heap.size_push s.heap { cls := .type "dict", data := .dict #[] }] at e
  cases cells_mem e with
  | inl old =>
    cases cloFrom_mem old with
    | inl no => cases no
    | inr q =>
      obtain ⟨hy, hb⟩ := q
      have there : ∃ c, X.env.cells.lookup y = some c := (ok.free _ hy rfl).elim (fun k => I.ok.has _ (.inl k)) fun k => I.ok.has _ (.inr k)
      obtain ⟨c, hc⟩ := there
      have same : b = c := by
        rw [hb, hc]
        rfl
      exact cells_new I hf ⟨y, by rw [hc, same]⟩
  | inr new =>
    have big : s.heap.objs.size < b := by
      have h := new.2.1
      rw [Heap.size_push] at h
      exact h
    refine ⟨?_, fun hb => ?_⟩
    · cases q : X.base.get? b with
      | none => rfl
      | some o => exact absurd (Nat.lt_trans big (Heap.lt_size (I.bs b o q).1)) (Nat.lt_irrefl _)
    · cases List.mem_cons.mp (I.stkSub b hb) with
      | inl z => exact absurd (Nat.lt_trans big (by rw [z]; exact I.lt)) (Nat.lt_irrefl _)
      | inr z =>
        obtain ⟨_, o, ho, _⟩ := I.ok.funs.mem z
        exact absurd (Nat.lt_trans big (Nat.lt_of_lt_of_le (Heap.lt_size ho) I.sz)) (Nat.lt_irrefl _)
end
section
variable {Y : Cx} {x : Str} {k : Nat} {ps : List Str} {sp : Sp} {p pos : Pos} {e : Expr} {es : List Expr} {t : TA}
/-- x(e, ..) while the cells of a block are lent -/
theorem pe_lendY (ap : Apart Y Y.env.cells) (h : HasG Y.prog Y.w Y.K Y.mg Y.base x k ps sp) (hgd : Y.A.guards = some []) (hr : Room k Y.A) (ha : PA Y (e :: es) t) (hg : Gl Y x := by rfl)
    (hdb : (x == ("__debug__" : Str)) = false := by decide) (he : starEach (e :: es) Y.env = (false, eval e Y.env) :: starEach es Y.env := by rfl) (hpl : (backTo pos (starEach es Y.env)).any (·.1) = false := by rfl) :
    PE Y (.Call (.Name x p) (e :: es) [] pos) (tLend Y sp t) := by
  obtain ⟨f, fd, F, hm, hk, hb⟩ := h
  constructor
  intro pins s σ H Q I hq
  refine wpAny_Call_Name_kw (ld_glob I hg hm (PySem.W.callWith_K (h₀ := Y.base) I.ok.mod.kin hk ?_ he hpl) hdb)
  apply thn (ha.run pos pins s σ H _ I hq)
  rintro us s1 ⟨vs, H1, J, rel, told⟩
  obtain ⟨H', L, LX⟩ := lend_inv J
  have told := told H' J.ok LX
  have many : us.length = ps.length := rel.length.symm.trans (F.len _ _ _ _ told)
  have bnd := hb s1 us J.kIn (by rw [List.append_nil]; exact many)
  rw [List.append_nil] at bnd
  have env : Env0 Y.prog Y.w Y.K Y.mg Y.base Y.A Y.stack s1 H' := lend_envC J ap L
  refine ⟨J.kIn, wpAny_call (codeAny_mono (F.run Y.A Y.stack s1 H' ⟨us, []⟩ us vs _ E0 hgd hr env bnd rel told) ?_)⟩
  rintro (er | fl) s' came
  · exact (show False from came).elim
  · match fl, came with
    | .ret u, came => exact J.after (ce_back L came)
end
/-- read in any block -/
def tBlk (te : Shared → Hp → Addr → List (Str × Addr) → Addr → TE) : TE := fun σ H Q => ∀ s G C cl it, te s G C cl it σ H Q
theorem r_blk {te : Shared → Hp → Addr → List (Str × Addr) → Addr → TE} {σ : L2.St} {H : Hp} {Q : VK} : tBlk te σ H Q = ∀ s G C cl it, te s G C cl it σ H Q := rfl
theorem pe_lcLam {X : Cx} {K : PySem.W.Frag} {tg l : Expr} {elt : Expr} {scope : Scope} {own : List (Str × Nat)} {pos : Pos} {tl : TE} {g : TG} {te : Shared → Hp → Addr → List (Str × Addr) → Addr → TE}
    (nod : X.N.Nodup) (hc : X.calm = true) (hl : PE X l tl) (ok : BlkOk X.N X.env.scope scope own)
    (hg : ∀ s H C cl fp, PG (X.blk s H scope (compEnvC scope cl C X.env) fp) tg g)
    (he : ∀ s H C cl it, Apart X cl → PE (X.blk s H scope (compEnvC scope cl C X.env) [it]) elt (te s H C cl it))
    (hf : ∀ y, X.fn y = true := by intro _; rfl) (hs : ∀ v, foldedSetIterable l X.env v = pure v := by intro _; rfl) (h : X.K = K := by rfl) :
    PE X (.ListComp elt [⟨tg, l, [], 0⟩] scope pos) (tLc (iList K tl) g tYes (tmE (tBlk te)) (own.map (·.2))) := by
  subst h
  refine pe_lcOwn (te := fun _ => tmE (tBlk te)) (endsWell_calm hc) nod hl ok hg (fun _ _ _ _ _ => pts_nil) (fun pins σ s H C cl it I _ _ ecl => ?_) hs
  have ap : Apart X cl := by
    rw [ecl]
    exact blk_apart I hf ok
  apply PE.mon
  constructor
  intro pins' s' σ' H' Q J q
  exact (he s H C cl it ap).run pins' s' σ' H' Q J (q s H C cl it)

/-! ## a comprehension of truths whose items make lambdas -/
section
variable {te : TE} {vs : List Nat} {σ : L2.St} {H1 : Hp} {Dd Pt : Addr} {q : Str} {Q : VK}
def LcN (Pt : Addr) (q : Str) (H1 : Hp) (Dd : Addr) (i : Nat) (H : Hp) : Prop :=
  ∃ acc : List V, H Dd = some (.lst acc) ∧ acc.length = i ∧ ExN H1 H ∧ Tb Pt q H ∧ ∀ y ∈ acc, y = .bl true
theorem lcN_turn (hD : H1 Dd = none) {i : Nat} {H H4 : Hp} {y : V} (p : LcN Pt q H1 Dd i H) (e : ExN H H4) (t : Tb Pt q H4) (r : y = .bl true) (hi : i < 1000000) :
    ∃ acc, H4 Dd = some (.lst acc) ∧ acc.length < sizeLine ∧ LcN Pt q H1 Dd (i + 1) (upd H4 Dd (.lst (acc ++ [y]))) := by
  obtain ⟨acc, h1, h2, h3, h4, h5⟩ := p
  have d4 : H4 Dd = some (.lst acc) := e _ _ h1 (fun _ z => nomatch z)
  have k : Kp H4 (upd H4 Dd (.lst (acc ++ [y]))) := fun b o hb n => by
    rw [upd_ne]
    · exact hb
    · intro z
      rw [z, d4] at hb
      exact n _ (Option.some.inj hb).symm
  refine ⟨acc, d4, Nat.lt_of_lt_of_le (show acc.length < 1000000 by omega) (by decide), acc ++ [y], upd_same, by simp [h2], fun b o hb m => ?_, t.kp k, fun z hz => ?_⟩
  · rw [upd_ne (ne_of_none hb hD)]
    exact e _ _ (h3 _ _ hb m) m
  · rcases List.mem_append.mp hz with hz | hz
    · exact h5 z hz
    · rw [List.mem_singleton.mp hz]
      exact r
theorem lcRn {lo : Int} {n : Nat} {j : Nat} (hD : H1 Dd = none) (ht : Tb Pt q H1) (hz : n ≤ 100000)
    (hw : ∀ x, wipe ((wipe σ vs).set j (some x)) vs = wipe σ vs)
    (hs : ∀ (i : Nat) H, i < n → ExN H1 H → Tb Pt q H → tmE te ((wipe σ vs).set j (some (.int (lo + i)))) H fun y H4 => ExN H H4 ∧ Tb Pt q H4 ∧ y = .bl true)
    (hd : ∀ H, ExN H1 H → Tb Pt q H → H Dd = some (.lst (List.replicate n (.bl true))) → Q (.ref Dd) H) : LcW (Itr lo n) (gName j) tYes (tmE te) vs σ H1 Dd Q :=
  lc_range (LcN Pt q H1 Dd) ⟨[], upd_same, rfl, (Ex.new hD).n, ht.ex (Ex.new hD), fun y h => by simp at h⟩ (fun i H hi p => by
    obtain ⟨acc, q1, q2, q3, q4, q5⟩ := id p
    refine ⟨hw _, ?_⟩
    obtain ⟨R0, z1, z2⟩ := hs i H hi q3 q4
    exact ⟨R0, z1, fun y H4 r0 => lcN_turn hD p (z2 y H4 r0).1 (z2 y H4 r0).2.1 (z2 y H4 r0).2.2 (by omega)⟩)
    fun H ⟨acc, q1, q2, q3, q4, q5⟩ => hd H q3 q4 (by rw [q1, List.eq_replicate_of_mem (a := V.bl true) q5, q2])
end

/-! tuple.count of bools -/
section
variable {X : Cx}
theorem isBool_at (k : Bool) : ∀ {bs : List Bool} {us : List Value}, Vals (bs.map V.bl) us → ∀ y ∈ us, ∀ (A : Around) (s : Shared), SeqAt.EqAt A s y (.bool k) (isBoolOf k y)
  | [], _, h, y, hy, _, _ => by
    cases h
    cases hy
  | b :: bs, _, h, y, hy, A, s => by
    cases h with
    | cons r hr =>
      obtain rfl := r
      rcases List.mem_cons.mp hy with e | e
      · rw [e]
        exact SeqAt.EqAt.bool_bool b k
      · exact isBool_at k hr y e A s
theorem isBool_count (k : Bool) : ∀ {bs : List Bool} {us : List Value}, Vals (bs.map V.bl) us → us.countP (isBoolOf k) = bs.count k
  | [], _, h => by
    cases h
    rfl
  | b :: bs, _, h => by
    cases h with
    | cons r hr =>
      obtain rfl := r
      rw [List.countP_cons, List.count_cons, isBool_count k hr]
      rfl
def rCntB (K : PySem.W.Frag) : V → List V → Hp → VK → Prop := fun x xs H Q => ∃ (p : Addr) (bs : List Bool) (k : Bool), x = .ref p ∧ xs = [.bl k] ∧ SqT K H p (bs.map V.bl) ∧ Q (.int (bs.count k : Nat)) H
theorem mt_tcountB : MtR X "tuple.count" (rCntB X.K) := by
  intro pins s σ H x xs v us Q I rx rxs h
  obtain ⟨p, bs, k, rfl, rfl, hs, q⟩ := h
  cases rx
  obtain ⟨u, rfl, ru⟩ := rxs.one
  obtain rfl : u = Value.bool k := ru
  obtain ⟨its, rv, pl, hz⟩ := I.tuple hs
  obtain ⟨⟨cls, dd, data, sl⟩, ho, hc, n, hd⟩ := pl
  simp only at hc hd
  subst hc hd
  refine call_meets PySem.F.slot_tuple_count ⟨_, ho, rfl⟩ PySem.F.entry_tuple_count (PySem.F.args_tuple_count_2 _ _)
    (SeqAt.tuple_countAt p its.toArray n dd sl (.bool k) (isBoolOf k)) ⟨ho, fun y hy => isBool_at k rv y (by simpa using hy) _ _, ?_⟩
  have ec : its.toArray.toList.countP (isBoolOf k) = bs.count k := isBool_count k rv
  refine ⟨.int (bs.count k : Nat), H, I.tok _, ⟨s.toks, ?_⟩, q⟩
  show Value.int ((its.toArray.toList.countP (isBoolOf k) : Nat) : Int) s.toks = Value.int ((bs.count k : Nat) : Int) s.toks
  rw [ec]
end
section
variable {X : Cx}
def rIsT : R2 := fun x y H Q => ∃ a b, x = .bl a ∧ y = .bl b ∧ Q (.bl (decide (a = b))) H
theorem op_isT : OpR X (compareOp .Is) rIsT := op_is_bl
theorem cut_last (xs : List V) : cutV xs none (some (-1)) = xs.dropLast := by
  have e0 : HT.sIx xs.length 0 none = 0 := rfl
  have e1 : HT.sIx xs.length xs.length (some (-1)) = xs.length - 1 := by
    unfold HT.sIx
    simp
    omega
  unfold cutV
  rw [e0, e1, List.dropLast_eq_take, List.drop_zero, Nat.sub_zero]
end
section
variable {X : Cx} {es : List Expr} {t : TA} {te ta : TE} {pos apos : Pos}
/-- a tuple's object without a dict of its own -/
def TupO (H : Hp) (p : Addr) (xs : List V) : Prop := ∃ o, H p = some (.frz o (.tup xs)) ∧ o.dict = none
theorem TupO.sq {K : PySem.W.Frag} {H : Hp} {p : Addr} {xs : List V} (h : TupO H p xs) : SqT K H p xs := by
  obtain ⟨o, h, _⟩ := h
  exact .inl (.inr ⟨o, h⟩)
theorem TupO.kp {H H' : Hp} {p : Addr} {xs : List V} (h : TupO H p xs) (e : Kp H H') : TupO H' p xs := by
  obtain ⟨o, h, d⟩ := h
  exact ⟨o, e _ _ h (fun _ z => nomatch z), d⟩
def NewT (H : Hp) (xs : List V) (Q : VK) : Prop := ∀ p H', H p = none → Ex H H' → TupO H' p xs → Q (.ref p) H'
def nTupF (t : TA) : TE := fun σ H Q => t σ H fun xs H1 => xs.length ≤ sizeLine ∧ NewT H1 xs Q
theorem pe_tupF {x1} (h : PA X es t) : PE X (.Tuple es x1 pos) (nTupF t) := by
  refine ⟨fun pins s σ H Q I hq => ?_⟩
  refine wpAny_Tuple_spliced (thn ((PA.mon h).run pos pins s σ H _ I ⟨_, hq, fun _ _ z => z⟩) fun us s1 ⟨xs, H1, I1, r, z, q⟩ => ⟨by rw [← r.length]; exact z, ?_⟩)
  have hf : H1 s1.heap.objs.size = none := I1.hok.fresh (Nat.le_refl _)
  refine ⟨.ref s1.heap.objs.size, upd H1 s1.heap.objs.size (.frz { cls := .type "tuple", data := .seq us.toArray } (.tup xs)), I1.laid (t' := s1.toks) (fun b u e => Heap.get?_push_of_some _ e) (Nat.le_refl _) ?_, rfl, q _ _ hf (Ex.new hf) ⟨_, upd_same, rfl⟩⟩
  exact ⟨Heap.get?_push_size _ rfl, z, us, r, ⟨_, Heap.get?_push_size _ rfl, rfl, _, rfl⟩⟩
theorem r_tupF {σ : L2.St} {H : Hp} {Q : VK} : nTupF t σ H Q = t σ H fun xs H1 => xs.length ≤ sizeLine ∧ NewT H1 xs Q := rfl
/-- t[lo:hi], not the whole of it -/
def rSlF (K : PySem.W.Frag) : V → Option Int → Option Int → Hp → VK → Prop := fun x lo hi H Q => ∃ a xs, x = .ref a ∧ SqT K H a xs ∧
  ¬ (HT.sIx xs.length 0 lo = 0 ∧ HT.sIx xs.length xs.length hi = xs.length) ∧ NewT H (cutV xs lo hi) Q
theorem sl_tupF {K : PySem.W.Frag} (hK : X.K = K := by rfl) : SlR X (rSlF K) := by
  subst hK
  intro pins s σ H x v vl vu lo hi sl Q I rx hs pl pu ⟨a, xs, ex, hx, hw, q⟩
  subst ex
  obtain rfl : v = Value.ref a := rx
  obtain ⟨its, r, ht, hz⟩ := I.tuple hx
  have sz : xs.length = its.toArray.size := by rw [r.length, List.size_toArray]
  obtain ⟨u, hu⟩ : ∃ u, u = (its.drop (HT.sIx xs.length 0 lo)).take (HT.sIx xs.length xs.length hi - HT.sIx xs.length 0 lo) := ⟨_, rfl⟩
  have ru : Vals (cutV xs lo hi) u := hu ▸ (r.drop (HT.sIx xs.length 0 lo)).take _
  have nf : H s.heap.objs.size = none := I.hok.fresh (Nat.le_refl _)
  have J : Inv X pins σ (upd H s.heap.objs.size (.frz { cls := .type "tuple", data := .seq u.toArray } (.tup (cutV xs lo hi)))) { s with heap := s.heap.push { cls := .type "tuple", data := .seq u.toArray }, toks := s.toks } :=
    I.laid (fun _ _ e => Heap.get?_push_of_some _ e) (Nat.le_refl _) ⟨Heap.get?_push_size _ rfl, Nat.le_trans (cutV_length xs lo hi) hz, u, ru, IsTup.new _ _⟩
  have fin := q s.heap.objs.size _ nf (Ex.new nf) ⟨{ cls := .type "tuple", data := .seq u.toArray }, upd_same, rfl⟩
  rw [sz] at hw hu hz
  rw [hu] at J fin
  exact ⟨"tuple", _, PyProof.Rows.slot_tuple_getitem.lookup, ht.typeIs, HT.getItem_tuple_cut ht hs pl pu hw ⟨.ref s.heap.objs.size, _, J, rfl, fin⟩ hz⟩
/-- t.count(k), t and k of truths -/
def tTC (K : PySem.W.Frag) (te ta : TE) : TE := fun σ H Q => te σ H fun x H1 => ∃ p xs, x = .ref p ∧ TupO H1 p xs ∧ ta σ H1 fun y H2 => rCntB K (.ref p) [y] H2 Q
theorem kTCount {K : PySem.W.Frag} {o e : Expr} (ho : PE X o te) (he : PE X e ta) (hK : X.K = K := by rfl) (hs : starEach [e] X.env = [(false, eval e X.env)] := by rfl) (hbase : attributeBase o "count" X.env (eval o X.env) = eval o X.env := by rfl) (hline : (apos.endLine == pos.line) = true := by rfl) :
    PE X (.Call (.Attribute o "count" apos) [e] [] pos) (tTC K te ta) := by
  subst hK
  refine ⟨fun pins s σ H Q I h => ?_⟩
  refine PySem.Call_method1 hbase hs hline (thn ((PE.mon ho).run pins s σ H _ I ⟨_, h, fun _ _ z => z⟩) fun v s1 ⟨x, H1, I1, r1, p, xs, ex, ht, q1⟩ => ?_)
  subst ex
  obtain rfl : v = Value.ref p := r1
  obtain ⟨ob, hob, hd⟩ := ht
  obtain ⟨eo, _, its, rv, o2, eo2, cls, n, dd⟩ := I1.hok p _ hob
  rw [eo] at eo2
  cases eo2
  refine ⟨"tuple", _, PySem.F.plainAttrs_tuple, PySem.F.slot_tuple_count, PySem.F.type_tuple_count, ⟨ob, eo, cls⟩, (fun a e => by cases e; exact ⟨ob, eo, hd⟩), Calls.callWith_builtin rfl (Calls.evalArgs_plain (Calls.spliced_cons ?_))⟩
  exact thn ((PE.mon he).run pins s1 σ H1 _ I1 ⟨_, q1, fun _ _ z => z⟩) fun u s2 ⟨y, H2, I2, r2, q2⟩ => Calls.spliced_nil (mt_tcountB pins s2 σ H2 (.ref p) [y] (.ref p) [u] Q I2 rfl (.cons r2 .nil) q2)
theorem r_tc {K : PySem.W.Frag} {σ : L2.St} {H : Hp} {Q : VK} : tTC K te ta σ H Q = te σ H fun x H1 => ∃ p xs, x = .ref p ∧ TupO H1 p xs ∧ ta σ H1 fun y H2 => rCntB K (.ref p) [y] H2 Q := rfl
end

/-! the items of a list, of any kind, that a test keeps -/
section
variable {K : PySem.W.Frag} {te : TE} {tt : TT} {vs : List Nat} {σ : L2.St} {H1 : Hp} {Dd a : Addr} {Q : VK}
theorem take_snoc {α : Type} {M : List α} {i : Nat} {x : α} (h : M[i]? = some x) : M.take (i + 1) = M.take i ++ [x] := by
  rw [List.take_add_one, h]
  rfl
theorem lcIfV {j : Nat} (T : V → Bool) {M : List V} (hD : H1 Dd = none) (hT : SqL K H1 a M) (hz : M.length ≤ 1000)
    (hw : ∀ x, wipe ((wipe σ vs).set j (some x)) vs = wipe σ vs)
    (hs : ∀ (x : V) (H : Hp) (R : Bool → Hp → Prop), x ∈ M → Ex H1 H → (∀ H', Ex H H' → R (T x) H') → tt ((wipe σ vs).set j (some x)) H R)
    (hv : ∀ (x : V) (H : Hp) (R : VK), R x H → te ((wipe σ vs).set j (some x)) H R)
    (hd : ∀ H, Ex H1 H → H Dd = some (.lst (M.filter T)) → Q (.ref Dd) H) : LcW (Itl K a) (gName j) tt (tmE te) vs σ H1 Dd Q := by
  have small : ∀ i, ((M.take i).filter T).length < sizeLine := fun i => by
    have h1 := List.length_filter_le T (M.take i)
    rw [List.length_take] at h1
    exact Nat.lt_of_le_of_lt (show _ ≤ 1000 by omega) (by decide)
  refine lc_list (xs := M) (fun i H => Ex H1 H ∧ H Dd = some (.lst ((M.take i).filter T))) ⟨Ex.new hD, upd_same⟩ (fun i H _ h => sqL_ex hT h.1) (fun i x H hi ⟨e, hA⟩ => ?_) fun H ⟨e, hA⟩ => ?_
  · refine ⟨hw x, hs x H _ (List.mem_of_getElem? hi) e fun H' e' => ?_⟩
    have hA' := e' _ _ hA
    rw [take_snoc hi, List.filter_append]
    cases q : T x with
    | false =>
      simp only [Bool.false_eq_true, if_false, List.filter_cons, q, List.filter_nil, List.append_nil]
      exact ⟨e.trans e', hA'⟩
    | true =>
      simp only [if_true, List.filter_cons, q, List.filter_nil]
      refine ⟨fun y G => y = x ∧ G = H', hv _ _ _ ⟨rfl, rfl⟩, ?_⟩
      rintro y G ⟨rfl, rfl⟩
      refine ⟨_, hA', small i, fun b o hb => ?_, upd_same⟩
      rw [upd_ne (ne_of_none hb hD)]
      exact (e.trans e') b o hb
  · rw [List.take_length] at hA
    exact hd H e hA
end

local macro_rules | `(tactic| walk_at "rd") => `(tactic| try simp only [r_seq, r_asg, r_name, r_ifS, r_next, r_ret, r_retN, r_drop, r_test, r_B, r_if, r_cons, r_nil, r_cb, r_tF, r_part, r_nopart, r_sl, r_par, r_chain, r_or, r_and, r_not, r_orV, r_andV, r_notV, r_op, r_un, r_var, r_c, r_yes, r_I0, r_I, r_U, r_eqI, r_neI, r_eqS, r_neS, r_lst, r_tup, r_for, r_lc, r_list, r_tupI, r_rng1, r_rng2, r_enumT, r_bm, r_fld, r_subT, r_gtup, r_gcons, r_gnil, r_K0, r_K, r_Kb, wipe, r_never, r_len, r_sfld,
  L2.start, List.map_cons, List.map_nil, List.length_cons, List.length_nil, Nat.reduceAdd, Nat.reduceSub, List.reduceReplicate, List.cons_append, List.nil_append, List.set_cons_zero, List.set_cons_succ, List.getElem?_cons_zero, List.getElem?_cons_succ, Option.some.injEq, exists_eq_left', exists_eq_left, exists_eq_right, exists_eq_right', V.int.injEq, V.ref.injEq, V.bl.injEq, V.str.injEq, List.cons.injEq, and_true, true_and, and_false, false_and, or_false, false_or, exists_false, exists_const, and_assoc, reduceCtorEq, if_true, if_false, Bool.false_eq_true, Bool.not_true, Bool.not_false, Bool.not_eq_true', decide_eq_true_eq, decide_eq_false_iff_not, exists_and_left, exists_and_right, exists_eq_or_imp])
section
variable {P : Program} {w : World} {K : PySem.W.Frag} {mg : Str → Option Value} {base : Heap}
def top (i : Nat) : Stmt := PySem.Challenge.pw_drawnmore_k56_whole_watches_led.main.body.getD i (.Pass ⟨0, 0, 0, 0⟩)
/-- the built-in names that the text does not bind -/
structure Bi (mg : Str → Option Value) : Prop where
  len : mg "len" = none
  abs : mg "abs" = none
  max : mg "max" = none
  min : mg "min" = none
  sum : mg "sum" = none
  range : mg "range" = none
  tuple : mg "tuple" = none
  int : mg "int" = none
  divmod : mg "divmod" = none
  all : mg "all" = none
  repr : mg "repr" = none
  isinstance : mg "isinstance" = none
  enumerate : mg "enumerate" = none
  bool : mg "bool" = none
  zip : mg "zip" = none
  str : mg "str" = none
  list : mg "list" = none
theorem Has.of {x : Str} {st : Stmt} {ps : List Str} {k : Nat} {sp : Sp} (D : Df K mg x st ps)
    (h : ∀ f fd, Fun K x x st f fd → FnOk P w K mg base CX0 k f fd ps sp) : Has P w K mg base x k ps sp := by
  obtain ⟨f, fd, F, hm, hb⟩ := D
  exact ⟨f, fd, h f fd F, hm, F.kp, hb⟩
theorem HasG.of {x : Str} {st : Stmt} {ps : List Str} {k : Nat} {sp : Sp} (D : Df K mg x st ps)
    (h : ∀ f fd, Fun K x x st f fd → FnG P w K mg base k f fd ps sp) : HasG P w K mg base x k ps sp := by
  obtain ⟨f, fd, F, hm, hb⟩ := D
  exact ⟨f, fd, h f fd F, hm, F.kp, hb⟩

def spVat (K : PySem.W.Frag) : Sp := fun vs H Q _ => ∃ (a : Addr) (ns : List Int) (i : Int), vs = [.ref a, .int i] ∧ SqL K H a (ns.map V.int) ∧ ns.length ≤ 63 ∧ 0 ≤ i ∧ i < 100 ∧
  ∀ v H', H v = none → Ex H H' → VatAt H' v → Q (.ref v) H'
theorem scVat : FnScope ["script", "at", "figure", "seed", "each"] ["script", "at"] (defScope (top 35)) := ⟨rfl, rfl, rfl, by decide +kernel, rfl, by decide +kernel, by decide +kernel⟩
theorem has_vat (B : Bi mg) (D : Df K mg "_law_vat" (top 35) ["script", "at"]) : Has P w K mg base "_law_vat" 1 ["script", "at"] (spVat K) := by
  have sc := scVat
  refine .of D fun f fd F => F.ok sc (fun vs H Q E h => ?_) (fun cdv A outer s H vs Q E hr h => ?_)
  · obtain ⟨a, ns, i, rfl, _⟩ := h
    rfl
  · obtain ⟨a, ns, i, rfl, hS, hl, h0, h1, k⟩ := h
    refine ⟨_, (pss_cons (ps_set (i := 2) sc.nd rfl (by first | exact Or.inl rfl | exact Or.inr rfl) (PE.mon (pe_ifExp (pt_cmpR op_lt (pv 1) (pe_callB (kLen (K := K)) (by rfl) B.len (by decide +kernel) (pa_cons (pv 0) pa_nil)) (nomark _)) (pe_ix (ixL (K := K)) (pv 0) (pv 1) (fun _ _ => rfl)) (pe_op op_add (pe_op op_mulS pe_int (pv 1)) pe_int))))
      (pss_cons (ps_set (i := 3) sc.nd rfl (by first | exact Or.inl rfl | exact Or.inr rfl) (pe_op op_add pe_int (pe_op op_mulS pe_int (pv 1))))
      (pss_cons (ps_for PassesOwn.never rfl (pi_list (pe_op op_catN (pe_lstN (pa_cons (pv 2) pa_nil)) (pe_slice (slL (K := K)) (pv 0) po_none (po_some pe_int)))) (pg_name (i := 4) sc.nd rfl (by first | exact Or.inl rfl | exact Or.inr rfl))
      (pss_one (ps_set (i := 3) sc.nd rfl (by first | exact Or.inl rfl | exact Or.inr rfl) (pe_op op_mod (pe_callTy call_intN (by rfl) B.int (by decide +kernel) (pa_cons (pe_op op_add (pe_op op_mulS (pv 3) pe_int) (pv 4)) pa_nil)) pe_int))))
      (pss_one (ps_ret (pe_lstN (pa_cons (PE.mon (pe_ifExp (pt_cmpR op_ge (pe_callB call_abs (by rfl) B.abs (by decide +kernel) (pa_cons (pv 2) pa_nil)) (pe_op op_pow pe_int pe_int) (nomark _)) (pe_callB call_abs (by rfl) B.abs (by decide +kernel) (pa_cons (pv 2) pa_nil)) pe_int)) (pa_cons (pv 3) (pa_cons pe_int pa_nil))))))))), ?_⟩
    walk_at "rd"
    obtain ⟨R0, hR⟩ : ∃ R : VK, R = fun v H' => (∃ z : Int, v = .int z) ∧ H' = H := ⟨_, rfl⟩
    refine ⟨R0, ?_, ?_⟩
    · walk_at "rd"
      refine ⟨_, .inl hS, ?_⟩
      rw [List.length_map]
      split
      · rename_i hi
        obtain ⟨z, _, e⟩ := at_int h0 hi
        refine q_ixL hS e ?_
        rw [hR]
        exact ⟨⟨z, rfl⟩, rfl⟩
      · refine ⟨cmulL, ?_⟩
        rw [hR]
        exact ⟨⟨_, rfl⟩, rfl⟩
    intro x H' hx
    rw [hR] at hx
    obtain ⟨⟨z, rfl⟩, rfl⟩ := hx
    walk_at "rd"
    refine ⟨cmulL, by decide, fun p H1 n1 e1 t1 => ⟨a, _, rfl, sqL_ex hS e1, fun p2 H2 n2 e2 t2 => ?_⟩⟩
    have lc := cutV_length (ns.map V.int) none (some 6)
    rw [List.length_map] at lc
    refine ⟨p, p2, _, _, rfl, rfl, e2 _ _ t1, t2, sizeLine_le (by simp only [List.length_cons, List.length_nil]; omega), fun p3 H3 n3 e3 t3 => ⟨p3, rfl, ⟨_, .of t3⟩, ?_⟩⟩
    have e13 := (e1.trans e2).trans e3
    obtain ⟨Pv, hP⟩ : ∃ P : Nat → L2.St → Hp → Prop, P = fun j σ' G => G = H3 ∧ ∃ (s : Int) (t : Option V), σ' = [some (.ref a), some (.int i), some (.int z), some (.int s), t] ∧ 0 ≤ s ∧ s < 2147483323 := ⟨_, rfl⟩
    refine loopL (xs := _) Pv (by rw [hP]; exact ⟨rfl, _, _, rfl, by omega, by omega⟩) (fun j σ' G _ h => by rw [hP] at h; rw [h.1]; exact .of t3) ?_ ?_
    · intro j x σ' G hx h
      rw [hP] at h
      obtain ⟨rfl, s, t, rfl, s0, s1⟩ := h
      have hm := List.mem_of_getElem? hx
      have hx2 : ∃ y, x = .int y := by
        rcases List.mem_append.mp hm with q | q
        · rw [List.mem_singleton] at q
          exact ⟨z, q⟩
        · exact ints_cut q
      obtain ⟨y, rfl⟩ := hx2
      walk_at "rd"
      refine ⟨cmulR, by decide, ?_⟩
      rw [hP]
      exact ⟨rfl, _, _, rfl, Int.emod_nonneg _ (by decide), Int.emod_lt_of_pos _ (by decide)⟩
    · intro σ' G h
      rw [hP] at h
      obtain ⟨rfl, s, t, rfl, s0, s1⟩ := h
      walk_at "rd"
      obtain ⟨R1, hR1⟩ : ∃ R : VK, R = fun v H' => (∃ q : Int, v = .int q ∧ 0 ≤ q) ∧ H' = G := ⟨_, rfl⟩
      refine ⟨R1, ?_, ?_⟩
      · walk_at "rd"
        refine ⟨⟨by decide, by decide, by decide⟩, ?_⟩
        generalize hq : (if z < 0 then -z else z) = q
        have q0 : 0 ≤ q := by
          rw [← hq]
          split <;> omega
        rw [hR1]
        split
        · exact ⟨⟨_, rfl, q0⟩, rfl⟩
        · exact ⟨⟨_, rfl, by decide⟩, rfl⟩
      · intro v H' h
        rw [hR1] at h
        obtain ⟨⟨q, rfl, q0⟩, rfl⟩ := h
        walk_at "rd"
        exact ⟨by decide, fun v H4 n4 e4 t4 => k v H4 (e13.free n4) (e13.trans e4) ⟨q, s, 0, t4, q0, s0, s1, by decide⟩⟩

def spDip : Sp := fun vs H Q _ => ∃ (v : Addr) (m : Int), vs = [.ref v, .int m] ∧ VatAt H v ∧ 0 < m ∧ m.natAbs.log2 < 9000 ∧
  ∀ r H', Gv v H H' → 0 ≤ r → r < m → Q (.int r) H'
theorem scDip : FnScope ["vat", "many", "digit"] ["vat", "many"] (defScope (top 36)) := ⟨rfl, rfl, rfl, by decide +kernel, rfl, by decide +kernel, by decide +kernel⟩
theorem has_dip (B : Bi mg) (D : Df K mg "_law_dip" (top 36) ["vat", "many"]) : Has P w K mg base "_law_dip" 1 ["vat", "many"] spDip := by
  have sc := scDip
  refine .of D fun f fd F => F.ok sc (fun vs H Q E h => ?_) (fun cdv A outer s H vs Q E hr h => ?_)
  · obtain ⟨v, m, rfl, _⟩ := h
    rfl
  · obtain ⟨v, m, rfl, hv, m0, m1, k⟩ := h
    obtain ⟨a, b, c, hl, a0, b0, b1, c0⟩ := id hv
    refine ⟨_, (pss_cons (ps_if (pt_cmpR op_gt (pe_ix (ixL (K := K)) (pv 0) pe_int (fun _ _ => rfl)) pe_int (nomark _)) (pss_cons (ps_asg (pe_callB call_divmodN (by rfl) B.divmod (by decide +kernel) (pa_cons (pe_ix (ixL (K := K)) (pv 0) pe_int (fun _ _ => rfl)) (pa_cons (pv 1) pa_nil))) (pg_tup rfl (pgs_cons (pg_sub (pv 0) pe_int set_list) (pgs_cons (pg_name (i := 2) sc.nd rfl (by first | exact Or.inl rfl | exact Or.inr rfl)) pgs_nil))))
      (pss_one (ps_ret (pv 2)))) pss_nil)
      (pss_cons (ps_asg (pe_op op_add (pe_ix (ixL (K := K)) (pv 0) pe_int (fun _ _ => rfl)) pe_int) (pg_sub (pv 0) pe_int set_list))
      (pss_cons (ps_asg (pe_op op_mod (pe_callTy call_intN (by rfl) B.int (by decide +kernel) (pa_cons (pe_op op_add (pe_op op_mulS (pe_ix (ixL (K := K)) (pv 0) pe_int (fun _ _ => rfl)) pe_int) (pe_op op_mulS pe_int (pe_ix (ixL (K := K)) (pv 0) pe_int (fun _ _ => rfl)))) pa_nil)) pe_int) (pg_sub (pv 0) pe_int set_list))
      (pss_one (ps_ret (pe_op op_mod (pe_callTy call_intN (by rfl) B.int (by decide +kernel) (pa_cons (pe_op op_fdivW (pe_ix (ixL (K := K)) (pv 0) pe_int (fun _ _ => rfl)) pe_int) pa_nil)) (pv 1))))))), ?_⟩
    walk_at "rd"
    refine q_ixL (.of hl) rfl ?_
    walk_at "rd"
    split
    · refine q_ixL (.of hl) rfl ?_
      refine ⟨_, _, rfl, m0, m1, fun p H1 n1 e1 t1 => ⟨p, rfl, _, .of t1, rfl, ?_⟩⟩
      have hv1 := e1 _ _ hl
      walk_at "rd"
      refine ⟨v, _, 0, 0, rfl, rfl, hv1, rfl, ?_⟩
      walk_at "rd"
      refine k _ _ ⟨hv, fun x o n ho => ?_, ⟨_, _, _, upd_same, Int.ediv_nonneg a0 (by omega), b0, b1, c0⟩⟩ (Int.emod_nonneg _ (by omega)) (Int.emod_lt_of_pos _ m0)
      rw [upd_ne n]
      exact e1 _ _ ho
    · refine q_ixL (.of hl) rfl ?_
      walk_at "rd"
      refine ⟨v, _, 2, 2, rfl, rfl, hl, rfl, ?_⟩
      walk_at "rd"
      have t1 : (upd H v (.lst [.int a, .int b, .int (c + 1)])) v = some (.lst [.int a, .int b, .int (c + 1)]) := upd_same
      refine q_ixL (.of t1) rfl ?_
      walk_at "rd"
      refine ⟨cmulR, ?_⟩
      refine q_ixL (.of t1) rfl ?_
      walk_at "rd"
      refine ⟨cmulL, by decide, v, _, 1, 1, rfl, rfl, t1, rfl, ?_⟩
      have g0 := Int.emod_nonneg (b * 45007 + 27017 * (c + 1)) (show (2147483323 : Int) ≠ 0 by decide)
      have g1 := Int.emod_lt_of_pos (b * 45007 + 27017 * (c + 1)) (show (0 : Int) < 2147483323 by decide)
      rw [upd_upd]
      refine q_ixL (.of upd_same) rfl ?_
      walk_at "rd"
      refine ⟨⟨by decide, by decide⟩, m0, k _ _ ⟨hv, fun x o n ho => by rw [upd_ne n]; exact ho, ⟨_, _, _, upd_same, a0, g0, g1, by omega⟩⟩ (Int.emod_nonneg _ (by omega)) (Int.emod_lt_of_pos _ m0)⟩

def spShared : Sp := fun vs H Q _ => ∃ a b : Int, vs = [.int a, .int b] ∧ Q (.int (Int.gcd a b : Nat)) H
theorem scShared : FnScope ["one", "two"] ["one", "two"] (defScope (top 37)) := ⟨rfl, rfl, rfl, by decide +kernel, rfl, by decide +kernel, by decide +kernel⟩
def shM : L2.St → Nat
  | [_, some (.int y)] => y.toNat
  | _ => 0
theorem has_shared (B : Bi mg) (D : Df K mg "_law_shared" (top 37) ["one", "two"]) : Has P w K mg base "_law_shared" 1 ["one", "two"] spShared := by
  have sc := scShared
  refine .of D fun f fd F => F.ok sc (fun vs H Q E h => ?_) (fun cdv A outer s H vs Q E hr h => ?_)
  · obtain ⟨a, b, rfl, _⟩ := h
    rfl
  · obtain ⟨a, b, rfl, k⟩ := h
    refine ⟨_, (pss_cons (ps_par (i := 0) (j := 1) (by rfl) sc.nd rfl rfl (by decide) rfl rfl (pa_cons (pe_callB call_abs (by rfl) B.abs (by decide +kernel) (pa_cons (pv 0) pa_nil)) (pa_cons (pe_callB call_abs (by rfl) B.abs (by decide +kernel) (pa_cons (pv 1) pa_nil)) pa_nil)) (by rfl))
      (pss_cons (ps_while PassesOwn.never (PT.mon (pt_cmpR op_gt (pv 1) pe_int (nomark _))) (pss_one (ps_par (i := 0) (j := 1) (by rfl) sc.nd rfl rfl (by decide) rfl rfl (pa_cons (pv 1) (pa_cons (pe_op op_mod (pe_callTy call_intN (by rfl) B.int (by decide +kernel) (pa_cons (pv 0) pa_nil)) (pv 1)) pa_nil)) (by rfl))))
      (pss_one (ps_ret (pv 0))))), ?_⟩
    walk_at "rd"
    have na : ∀ z : Int, (if z < 0 then -z else z) = ((z.natAbs : Nat) : Int) := fun z => by split <;> omega
    rw [na, na]
    obtain ⟨Pv, hP⟩ : ∃ P : L2.St → Hp → Prop, P = fun σ' G => G = H ∧ ∃ n m : Nat, σ' = [some (.int n), some (.int m)] ∧ Nat.gcd n m = Int.gcd a b := ⟨_, rfl⟩
    refine while_by Pv (fun σ' _ => shM σ') (by rw [hP]; exact ⟨rfl, _, _, rfl, rfl⟩) ?_ ?_
    · intro σ' G h
      rw [hP] at h
      obtain ⟨rfl, n, m, rfl, hg⟩ := h
      obtain ⟨R0, hR⟩ : ∃ R : Bool → Hp → Prop, R = fun b H' => b = decide (0 < m) ∧ H' = G := ⟨_, rfl⟩
      refine ⟨R0, ?_, ?_⟩
      · walk_at "rd"
        rw [hR]
        refine ⟨?_, rfl⟩
        rw [decide_eq_decide]
        omega
      · intro b' H' h
        rw [hR] at h
        obtain ⟨rfl, rfl⟩ := h
        by_cases hm : 0 < m
        · rw [decide_eq_true hm, if_pos rfl]
          walk_at "rd"
          refine ⟨by omega, ?_⟩
          rw [hP]
          refine ⟨⟨rfl, m, n % m, ?_, ?_⟩, ?_⟩
          · rw [Int.natCast_emod]
          · rw [← hg, Nat.gcd_comm n m]
            exact (Nat.gcd_comm _ _).trans (Nat.gcd_rec m n).symm
          · show (((n : Int) % (m : Int))).toNat < ((m : Int)).toNat
            have := Int.emod_lt_of_pos (n : Int) (show (0 : Int) < m by omega)
            have := Int.emod_nonneg (n : Int) (show (m : Int) ≠ 0 by omega)
            omega
        · rw [decide_eq_false hm, if_neg (by decide)]
          walk_at "rd"
          have : m = 0 := by omega
          subst this
          rw [Nat.gcd_zero_right] at hg
          rw [hg]
          exact k
    · intro σ' G R1 R2 h ⟨R0, h1, h2⟩
      exact ⟨R0, h1, fun b' H' h' => h _ _ (h2 _ _ h')⟩
/-- x tells the fraction r -/
def IsFr (K : PySem.W.Frag) (H : Hp) (x : V) (r : Rat) : Prop := ∃ p, x = .ref p ∧ SqT K H p (fr r)
theorem IsFr.kp {H H' : Hp} {x : V} {r : Rat} (h : IsFr K H x r) (e : Kp H H') : IsFr K H' x r := by
  obtain ⟨p, rfl, h⟩ := h
  exact ⟨p, rfl, sqT_kp h e⟩
theorem IsFr.dp {H : Hp} {x : V} {r : Rat} (h : IsFr K H x r) : Dp K H x (frD r) := by
  obtain ⟨p, rfl, h⟩ := h
  exact .tup h (.cons (.int _) (.cons (.int _) .nil))
def spPart (K : PySem.W.Frag) : Sp := fun vs H Q _ => ∃ t b : Int, vs = [.int t, .int b] ∧ 0 < b ∧ b.natAbs < 2 ^ 8990 ∧
  ∀ x H', Ex H H' → IsFr K H' x ((t : Rat) / (b : Rat)) → Q x H'
theorem scPart : FnScope ["top", "bottom", "by"] ["top", "bottom"] (defScope (top 38)) := ⟨rfl, rfl, rfl, by decide +kernel, rfl, by decide +kernel, by decide +kernel⟩
theorem log_lt {n : Nat} (h : n < 2 ^ 8990) : n.log2 < 9000 := Nat.lt_of_lt_of_le (PySem.Flt.log2_lt_of (k := 8990) (by decide) h) (show 8990 ≤ 9000 by decide)
theorem gcd_small {b t : Int} (hb : 0 < b) (h : b.natAbs < 2 ^ 8990) : 0 < ((Int.gcd b t : Nat) : Int) ∧ (((Int.gcd b t : Nat) : Int)).natAbs < 2 ^ 8990 := by
  have h1 : 0 < Int.gcd b t := Int.gcd_pos_of_ne_zero_left _ (by omega)
  have h2 : Int.gcd b t ≤ b.natAbs := Nat.le_of_dvd (by omega) (Nat.gcd_dvd_left _ _)
  have h3 : (((Int.gcd b t : Nat) : Int)).natAbs = Int.gcd b t := Int.natAbs_natCast _
  constructor
  · omega
  · omega
theorem has_part (hs : Has P w K mg base "_law_shared" 1 ["one", "two"] spShared) (D : Df K mg "_law_part" (top 38) ["top", "bottom"]) : Has P w K mg base "_law_part" 2 ["top", "bottom"] (spPart K) := by
  have sc := scPart
  have h_law_shared := hs
  refine .of D fun f fd F => F.ok sc (fun vs H Q E h => ?_) (fun cdv A outer s H vs Q E hr h => ?_)
  · obtain ⟨t, b, rfl, _⟩ := h
    rfl
  · obtain ⟨t, b, rfl, b0, b1, k⟩ := h
    obtain ⟨g0, g1⟩ := gcd_small (t := t) b0 b1
    refine ⟨_, (pss_cons (ps_set (i := 2) sc.nd rfl (by first | exact Or.inl rfl | exact Or.inr rfl) (pe_has h_law_shared (hr.mono (by decide)) (pa_cons (pv 1) (pa_cons (pv 0) pa_nil))))
      (pss_one (ps_ret (pe_tupN (pa_cons (pe_op op_fdivW (pv 0) (pv 2)) (pa_cons (pe_op op_fdivW (pv 1) (pv 2)) pa_nil)))))), ?_⟩
    walk_at "rd"
    refine ⟨b, t, rfl, ?_⟩
    walk_at "rd"
    refine ⟨⟨g0, log_lt g1⟩, ⟨g0, log_lt g1⟩, by decide, fun p H1 n1 e1 t1 => k _ _ e1 ⟨p, rfl, ?_⟩⟩
    rw [← part_eq b0]
    exact .of t1

def IsInts (K : PySem.W.Frag) (H : Hp) (x : V) (cs : List Int) : Prop := ∃ p, x = .ref p ∧ SqT K H p (cs.map V.int)
theorem IsInts.kp {H H' : Hp} {x : V} {cs : List Int} (h : IsInts K H x cs) (e : Kp H H') : IsInts K H' x cs := by
  obtain ⟨p, rfl, h⟩ := h
  exact ⟨p, rfl, sqT_kp h e⟩
def intsD (cs : List Int) : PyData := .tuple (cs.map PyData.int)
theorem IsInts.dp {H : Hp} {x : V} {cs : List Int} (h : IsInts K H x cs) : Dp K H x (intsD cs) := by
  obtain ⟨p, rfl, h⟩ := h
  exact .tup h (dp_ints cs)
/-- a list of ints, told item by item -/
theorem ints_of {ys : List V} {n : Nat} {f : Nat → Int} (hl : ys.length = n) (h : ∀ (i : Nat) y, ys[i]? = some y → y = .int (f i)) : ys = ((List.range n).map f).map V.int := by
  apply List.ext_getElem?
  intro i
  by_cases hi : i < ys.length
  · have hy := List.getElem?_eq_getElem hi
    rw [hy, h i _ hy]
    simp [← hl, hi]
  · rw [List.getElem?_eq_none (by omega), List.getElem?_eq_none (by simp; omega)]
theorem ints_of_map {ys : List V} {cs : List Int} {f : Int → Int} (hl : ys.length = cs.length) (h : ∀ (i : Nat) y, ys[i]? = some y → ∃ c, cs[i]? = some c ∧ y = .int (f c)) : ys = (cs.map f).map V.int := by
  apply List.ext_getElem?
  intro i
  by_cases hi : i < ys.length
  · have hy := List.getElem?_eq_getElem hi
    obtain ⟨c, hc, e⟩ := h i _ hy
    rw [hy, e, List.getElem?_map, List.getElem?_map, hc]
    rfl
  · rw [List.getElem?_eq_none (by omega), List.getElem?_eq_none (by simp; omega)]
theorem map_int_get {cs : List Int} {i : Nat} {x : V} (h : (cs.map V.int)[i]? = some x) : ∃ c, cs[i]? = some c ∧ x = .int c := by
  rw [List.getElem?_map] at h
  cases e : cs[i]? with
  | none => rw [e] at h; cases h
  | some c => rw [e] at h; exact ⟨c, rfl, (Option.some.inj h).symm⟩
def spPlain (K : PySem.W.Frag) : Sp := fun vs H Q _ => ∃ (p : Addr) (cs : List Int), vs = [.ref p] ∧ (SqT K H p (cs.map V.int) ∨ SqL K H p (cs.map V.int)) ∧ cs.length ≤ 1000 ∧ 0 < gcdL cs ∧ gcdL cs < 2 ^ 8990 ∧
  ∀ x H', Ex H H' → IsInts K H' x (plainL cs) → Q x H'
theorem scPlain : FnScope ["some", "by", "count"] ["some"] (defScope (top 42)) := ⟨rfl, rfl, rfl, by decide +kernel, rfl, by decide +kernel, by decide +kernel⟩
theorem has_plain (B : Bi mg) (hs : Has P w K mg base "_law_shared" 1 ["one", "two"] spShared) (D : Df K mg "_law_plain" (top 42) ["some"]) : Has P w K mg base "_law_plain" 2 ["some"] (spPlain K) := by
  have sc := scPlain
  have h_law_shared := hs
  refine .of D fun f fd F => F.ok sc (fun vs H Q E h => ?_) (fun cdv A outer s H vs Q E hr h => ?_)
  · obtain ⟨p, cs, rfl, _⟩ := h
    rfl
  · obtain ⟨p, cs, rfl, hcs, hlen, g0, g1, k⟩ := h
    have gI : (0 : Int) < ((gcdL cs : Nat) : Int) := by omega
    have gL : (((gcdL cs : Nat) : Int)).natAbs.log2 < 9000 := by
      rw [Int.natAbs_natCast]
      exact log_lt g1
    obtain ⟨Pv, hP⟩ : ∃ P : Nat → L2.St → Hp → Prop, P = fun j σ' G => G = H ∧ ∃ t : Option V, σ' = [some (.ref p), some (.int ((gcdL (cs.take j) : Nat) : Int)), t] := ⟨_, rfl⟩
    rcases hcs with hcs | hcs
    · refine ⟨_, (pss_cons (ps_set (i := 1) sc.nd rfl (by first | exact Or.inl rfl | exact Or.inr rfl) pe_int)
      (pss_cons (ps_for PassesOwn.never rfl (pi_tup (pv 0)) (pg_name (i := 2) sc.nd rfl (by first | exact Or.inl rfl | exact Or.inr rfl))
      (pss_one (ps_set (i := 1) sc.nd rfl (by first | exact Or.inl rfl | exact Or.inr rfl) (pe_has h_law_shared (hr.mono (by decide)) (pa_cons (pv 1) (pa_cons (pv 2) pa_nil))))))
      (pss_one (ps_ret (pe_callTy (kTuple (K := K)) (by rfl) B.tuple (by decide +kernel) (pa_cons (pe_lc (own := [("count", 2)]) (g := gName 2) (tt := tYes) rfl sc.nd (pi_tup (pv 0)) (blkOk_by (N := (["some", "by", "count"] : List Str)) (sc := defScope (top 42)) (by decide +kernel)) (fun _ _ _ _ _ => (pg_name (i := 2) sc.nd rfl (by first | exact Or.inl rfl | exact Or.inr rfl))) (fun _ _ _ _ _ => pts_nil) (fun _ _ _ _ _ => (PE.mon (pe_op op_fdivW (pv 2) (pv 1))))) pa_nil)))))), ?_⟩
      walk_at "rd"
      refine ⟨⟨_, hcs⟩, loopT (xs := cs.map V.int) Pv (by rw [hP]; exact ⟨rfl, _, rfl⟩) (fun j σ' G _ h => by rw [hP] at h; rw [h.1]; exact hcs) ?_ ?_⟩
      · intro j x σ' G hx h
        rw [hP] at h
        obtain ⟨rfl, t, rfl⟩ := h
        obtain ⟨c, hc, rfl⟩ := map_int_get hx
        walk_at "rd"
        refine ⟨_, _, rfl, ?_⟩
        walk_at "rd"
        rw [hP]
        dsimp only
        rw [gcdL_take hc]
        exact ⟨rfl, _, rfl⟩
      · intro σ' G h
        rw [hP] at h
        obtain ⟨rfl, t, rfl⟩ := h
        rw [List.length_map, List.take_length]
        walk_at "rd"
        refine ⟨⟨_, hcs⟩, fun Dd hD => lcTn (fun i y _ => ∃ c, cs[i]? = some c ∧ y = .int (c / ((gcdL cs : Nat) : Int))) (fun _ _ _ _ _ h => h) hD hcs (by rw [List.length_map]; omega) (fun _ => rfl) ?_ ?_⟩
        · intro i x H2 hx e
          obtain ⟨c, hc, rfl⟩ := map_int_get hx
          obtain ⟨R0, hR⟩ : ∃ R : VK, R = fun v H' => v = .int (c / ((gcdL cs : Nat) : Int)) ∧ H' = H2 := ⟨_, rfl⟩
          refine ⟨R0, ?_, fun v H' h => by rw [hR] at h; obtain ⟨rfl, rfl⟩ := h; exact ⟨Ex.refl _, c, hc, rfl⟩⟩
          walk_at "rd"
          refine ⟨⟨gI, gL⟩, ?_⟩
          rw [hR]
          exact ⟨rfl, rfl⟩
        · intro H2 ys e hy hl hr2
          rw [List.length_map] at hl
          have ey := ints_of_map hl hr2
          refine ⟨Dd, _, rfl, .of hy, fun q H3 n3 e3 t3 => k _ _ (e.trans e3) ⟨q, rfl, ?_⟩⟩
          rw [ey] at t3
          exact .of t3
    · refine ⟨_, (pss_cons (ps_set (i := 1) sc.nd rfl (by first | exact Or.inl rfl | exact Or.inr rfl) pe_int)
      (pss_cons (ps_for PassesOwn.never rfl (pi_list (pv 0)) (pg_name (i := 2) sc.nd rfl (by first | exact Or.inl rfl | exact Or.inr rfl))
      (pss_one (ps_set (i := 1) sc.nd rfl (by first | exact Or.inl rfl | exact Or.inr rfl) (pe_has h_law_shared (hr.mono (by decide)) (pa_cons (pv 1) (pa_cons (pv 2) pa_nil))))))
      (pss_one (ps_ret (pe_callTy (kTuple (K := K)) (by rfl) B.tuple (by decide +kernel) (pa_cons (pe_lc (own := [("count", 2)]) (g := gName 2) (tt := tYes) rfl sc.nd (pi_list (pv 0)) (blkOk_by (N := (["some", "by", "count"] : List Str)) (sc := defScope (top 42)) (by decide +kernel)) (fun _ _ _ _ _ => (pg_name (i := 2) sc.nd rfl (by first | exact Or.inl rfl | exact Or.inr rfl))) (fun _ _ _ _ _ => pts_nil) (fun _ _ _ _ _ => (PE.mon (pe_op op_fdivW (pv 2) (pv 1))))) pa_nil)))))), ?_⟩
      walk_at "rd"
      refine ⟨⟨_, hcs⟩, loopL (xs := cs.map V.int) Pv (by rw [hP]; exact ⟨rfl, _, rfl⟩) (fun j σ' G _ h => by rw [hP] at h; rw [h.1]; exact hcs) ?_ ?_⟩
      · intro j x σ' G hx h
        rw [hP] at h
        obtain ⟨rfl, t, rfl⟩ := h
        obtain ⟨c, hc, rfl⟩ := map_int_get hx
        walk_at "rd"
        refine ⟨_, _, rfl, ?_⟩
        walk_at "rd"
        rw [hP]
        dsimp only
        rw [gcdL_take hc]
        exact ⟨rfl, _, rfl⟩
      · intro σ' G h
        rw [hP] at h
        obtain ⟨rfl, t, rfl⟩ := h
        rw [List.length_map, List.take_length]
        walk_at "rd"
        refine ⟨⟨_, hcs⟩, fun Dd hD => lcLn (fun i y _ => ∃ c, cs[i]? = some c ∧ y = .int (c / ((gcdL cs : Nat) : Int))) (fun _ _ _ _ _ h => h) hD hcs (by rw [List.length_map]; omega) (fun _ => rfl) ?_ ?_⟩
        · intro i x H2 hx e
          obtain ⟨c, hc, rfl⟩ := map_int_get hx
          obtain ⟨R0, hR⟩ : ∃ R : VK, R = fun v H' => v = .int (c / ((gcdL cs : Nat) : Int)) ∧ H' = H2 := ⟨_, rfl⟩
          refine ⟨R0, ?_, fun v H' h => by rw [hR] at h; obtain ⟨rfl, rfl⟩ := h; exact ⟨Ex.refl _, c, hc, rfl⟩⟩
          walk_at "rd"
          refine ⟨⟨gI, gL⟩, ?_⟩
          rw [hR]
          exact ⟨rfl, rfl⟩
        · intro H2 ys e hy hl hr2
          rw [List.length_map] at hl
          have ey := ints_of_map hl hr2
          refine ⟨Dd, _, rfl, .of hy, fun q H3 n3 e3 t3 => k _ _ (e.trans e3) ⟨q, rfl, ?_⟩⟩
          rw [ey] at t3
          exact .of t3

def CountsOk (cs : List Int) : Prop := 2 ≤ cs.length ∧ cs.length ≤ 6 ∧ (∀ c ∈ cs, 0 ≤ c ∧ c ≤ 10 ^ 30) ∧ 0 < cs.sum
theorem sum_ones : ∀ n : Nat, (List.replicate n (1 : Int)).sum = (n : Int)
  | 0 => rfl
  | n + 1 => by
    rw [List.replicate_succ, List.sum_cons, sum_ones n]
    omega
theorem VatAt.ne {H : Hp} {v p : Addr} (h : VatAt H v) (n : H p = none) : p ≠ v := by
  obtain ⟨a, b, c, e, _⟩ := h
  intro z
  rw [z, e] at n
  cases n
theorem Gv.free {v p : Addr} {H H' : Hp} (g : Gv v H H') (h : p ≠ v) (n : H' p = none) : H p = none := by
  cases q : H p with
  | none => rfl
  | some o =>
    rw [g.keep p o h q] at n
    cases n
theorem Gv.upd {v p : Addr} {H H' : Hp} {o : HO} (g : Gv v H H') (n : H p = none) (h : p ≠ v) : Gv v H (L2.upd H' p o) := by
  refine ⟨g.old, fun a u ha e => ?_, ?_⟩
  · rw [upd_ne (ne_of_none e n)]
    exact g.keep a u ha e
  · obtain ⟨a, b, c, e, r⟩ := g.new
    exact ⟨a, b, c, by rw [upd_ne (Ne.symm h)]; exact e, r⟩
def spCounts (K : PySem.W.Frag) : Sp := fun vs H Q _ => ∃ (v : Addr) (i : Int), vs = [.ref v, .int i] ∧ VatAt H v ∧
  ∀ x H' cs, Gv v H H' → IsInts K H' x cs → CountsOk cs → Q x H'
theorem scCounts : FnScope ["vat", "way", "size", "some", "k", "small"] ["vat", "way"] (defScope (top 43)) := ⟨rfl, rfl, rfl, by decide +kernel, rfl, by decide +kernel, by decide +kernel⟩
theorem has_counts (B : Bi mg) (hd : Has P w K mg base "_law_dip" 1 ["vat", "many"] spDip) (D : Df K mg "_law_counts" (top 43) ["vat", "way"]) : Has P w K mg base "_law_counts" 2 ["vat", "way"] (spCounts K) := by
  have sc := scCounts
  have h_law_dip := hd
  refine .of D fun f fd F => F.ok sc (fun vs H Q E h => ?_) (fun cdv A outer s H vs Q E hr h => ?_)
  · obtain ⟨v, i, rfl, _⟩ := h
    rfl
  · obtain ⟨v, i, rfl, hv, k⟩ := h
    refine ⟨_, (pss_cons (ps_set (i := 2) sc.nd rfl (by first | exact Or.inl rfl | exact Or.inr rfl) (pe_op op_add pe_int (pe_has h_law_dip (hr.mono (by decide)) (pa_cons (pv 0) (pa_cons pe_int pa_nil)))))
      (pss_cons (ps_set (i := 3) sc.nd rfl (by first | exact Or.inl rfl | exact Or.inr rfl) (pe_lstN pa_nil))
      (pss_cons (ps_for PassesOwn.never rfl (pi_range1 (by rfl) B.range (pa_cons (pv 2) pa_nil)) (pg_name (i := 4) sc.nd rfl (by first | exact Or.inl rfl | exact Or.inr rfl))
      (pss_cons (ps_set (i := 5) sc.nd rfl (by first | exact Or.inl rfl | exact Or.inr rfl) (pe_ix (ixL (K := K)) (pe_lstN (pa_cons pe_int (pa_cons pe_int (pa_cons pe_int (pa_cons pe_int (pa_cons pe_int (pa_cons pe_int (pa_cons pe_int pa_nil)))))))) (pe_has h_law_dip (hr.mono (by decide)) (pa_cons (pv 0) (pa_cons pe_int pa_nil))) (fun _ _ => rfl)))
      (pss_one (ps_expr (pe_bm PySem.F.plainAttrs_list PySem.F.slot_list_append PySem.F.type_list_append mt_append (pv 3) (pa_cons (PE.mon (pe_ifExp (pt_cmpR op_eq (pv 1) pe_int (nomark _)) (pv 5) (pe_ix (ixL (K := K)) (pe_lstN (pa_cons (pv 5) (pa_cons (pe_op op_add (pe_op op_pow pe_int pe_int) (pv 5)) (pa_cons (pe_op op_sub (pe_op op_pow pe_int pe_int) (pv 5)) pa_nil)))) (pe_has h_law_dip (hr.mono (by decide)) (pa_cons (pv 0) (pa_cons pe_int pa_nil))) (fun _ _ => rfl)))) pa_nil))))))
      (pss_one (ps_ret (PE.mon (pe_ifExp (pt_cmpR op_gt (pe_callB (kSum (K := K) rfl) (by rfl) B.sum (by decide +kernel) (pa_cons (pv 3) pa_nil)) pe_int (nomark _)) (pe_callTy (kTuple (K := K)) (by rfl) B.tuple (by decide +kernel) (pa_cons (pv 3) pa_nil)) (pe_callTy (kTuple (K := K)) (by rfl) B.tuple (by decide +kernel) (pa_cons (pe_op op_repN (pe_lstN (pa_cons pe_int pa_nil)) (pv 2)) pa_nil))))))))), ?_⟩
    walk_at "rd"
    refine ⟨v, 5, rfl, hv, by decide, by decide, fun d H1 g1 d0 d1 => ?_⟩
    walk_at "rd"
    refine ⟨by decide, fun p H2 n2 e2 t2 => ?_⟩
    walk_at "rd"
    refine ⟨by omega, by omega, ?_⟩
    have pv := g1.new.ne n2
    have hp0 : H p = none := g1.free pv n2
    obtain ⟨Pv, hP⟩ : ∃ P : Nat → L2.St → Hp → Prop, P = fun j σ' G => ∃ (cs : List Int) (s4 s5 : Option V), σ' = [some (.ref v), some (.int i), some (.int (2 + d)), some (.ref p), s4, s5] ∧ Gv v H G ∧ G p = some (.lst (cs.map V.int)) ∧ cs.length = j ∧ ∀ c ∈ cs, 0 ≤ c ∧ c ≤ 10 ^ 30 := ⟨_, rfl⟩
    refine loopR Pv (by rw [hP]; exact ⟨[], _, _, rfl, g1.ex e2, t2, rfl, fun c h => by simp at h⟩) ?_ ?_
    · intro j σ' G hj h
      rw [hP] at h
      obtain ⟨cs, s4, s5, rfl, gG, tG, lG, bG⟩ := h
      walk_at "rd"
      refine ⟨by decide, fun l G1 n1 e1 t1 => ?_⟩
      have lv := gG.new.ne n1
      walk_at "rd"
      refine ⟨v, 7, rfl, gG.new.ex e1, by decide, by decide, fun r G2 g2 r0 r1 => ?_⟩
      obtain ⟨z, hz, ez⟩ := at_int (ns := [0, 1, 2, 3, 4, 7, 12]) r0 (by simpa using r1)
      have zb : 0 ≤ z ∧ z ≤ 12 := by
        have := List.mem_of_getElem? hz
        simp only [List.mem_cons, List.not_mem_nil, or_false] at this
        omega
      refine q_ixL (.of (g2.lst lv t1)) ez ?_
      walk_at "rd"
      have tp : G2 p = some (.lst (cs.map V.int)) := g2.lst pv (e1 _ _ tG)
      refine ⟨.inl ⟨rfl, _, .of tp⟩, ?_⟩
      obtain ⟨R0, hR⟩ : ∃ R : VK, R = fun x G' => ∃ c, x = .int c ∧ 0 ≤ c ∧ c ≤ 10 ^ 30 ∧ Gv v G2 G' := ⟨_, rfl⟩
      refine ⟨R0, ?_, ?_⟩
      · walk_at "rd"
        split
        · rw [hR]
          exact ⟨z, rfl, by omega, by omega, .refl g2.new⟩
        · refine ⟨⟨by decide, by decide, by decide⟩, ⟨by decide, by decide, by decide⟩, by decide, fun l2 G3 n3 e3 t3 => ?_⟩
          have l2v := g2.new.ne n3
          walk_at "rd"
          refine ⟨v, 3, rfl, g2.new.ex e3, by decide, by decide, fun r2 G4 g4 r20 r21 => ?_⟩
          obtain ⟨y, hy, ey⟩ := at_int (ns := [z, 10 ^ Int.toNat 9 + z, 10 ^ Int.toNat 30 - z]) r20 (by simpa using r21)
          refine q_ixL (.of (g4.lst l2v t3)) ey ?_
          rw [hR]
          refine ⟨y, rfl, ?_, ?_, (Gv.of g2.new e3).trans g4⟩
          all_goals
            have := List.mem_of_getElem? hy
            simp only [List.mem_cons, List.not_mem_nil, or_false] at this
            have e9 : (10 : Int) ^ Int.toNat 9 = 1000000000 := by decide
            have e30 : (10 : Int) ^ Int.toNat 30 = 1000000000000000000000000000000 := by decide
            rw [e9, e30] at this
            omega
      · intro x G3 h
        rw [hR] at h
        obtain ⟨c, rfl, c0, c1, g3⟩ := h
        have tp3 := g3.lst pv tp
        refine ⟨p, _, _, rfl, rfl, tp3, Nat.lt_of_lt_of_le (show (cs.map V.int).length < 1000000 by rw [List.length_map]; omega) (by decide), ?_⟩
        walk_at "rd"
        rw [hP]
        refine ⟨cs ++ [c], _, _, rfl, (((gG.ex e1).trans g2).trans g3).upd hp0 pv, ?_, by simp [lG], ?_⟩
        · rw [List.map_append]
          exact upd_same
        · intro y hy
          rcases List.mem_append.mp hy with q | q
          · exact bG y q
          · rw [List.mem_singleton] at q
            rw [q]
            exact ⟨c0, c1⟩
    · intro σ' G h
      rw [hP] at h
      obtain ⟨cs, s4, s5, rfl, gG, tG, lG, bG⟩ := h
      walk_at "rd"
      obtain ⟨R0, hR⟩ : ∃ R : VK, R = fun x G' => ∃ cs', IsInts K G' x cs' ∧ CountsOk cs' ∧ Ex G G' := ⟨_, rfl⟩
      refine ⟨R0, ?_, ?_⟩
      · walk_at "rd"
        refine ⟨p, cs, rfl, .inl (.of tG), ?_⟩
        walk_at "rd"
        split
        · rename_i hpos
          refine ⟨p, _, rfl, .of tG, fun q G1 n1 e1 t1 => ?_⟩
          rw [hR]
          exact ⟨cs, ⟨q, rfl, .of t1⟩, ⟨by omega, by omega, bG, hpos⟩, e1⟩
        · refine ⟨by decide, fun l G1 n1 e1 t1 => ?_⟩
          walk_at "rd"
          refine ⟨l, _, _, rfl, rfl, t1, by omega, by omega, sizeLine_le (by simp only [List.length_cons, List.length_nil]; omega), fun l2 G2 n2 e2 t2 => ?_⟩
          refine ⟨l2, _, rfl, .of t2, fun q G3 n3 e3 t3 => ?_⟩
          rw [hR]
          have er : (List.replicate (2 + d).toNat [V.int 1]).flatten = (List.replicate (2 + d).toNat 1).map V.int := by
            rw [List.flatten_replicate_singleton, List.map_replicate]
          rw [er] at t3
          refine ⟨_, ⟨q, rfl, .of t3⟩, ⟨by simp; omega, by simp; omega, ?_, ?_⟩, (e1.trans e2).trans e3⟩
          · intro c hc
            rw [(List.mem_replicate.mp hc).2]
            decide
          · rw [sum_ones]
            omega
      · intro x G' h
        rw [hR] at h
        obtain ⟨cs', h1, h2, h3⟩ := h
        exact k _ _ _ (gG.ex h3) h1 h2
end

section
variable {P : Program} {w : World} {K : PySem.W.Frag} {mg : Str → Option Value} {base : Heap}
/-! ### is_whole, _check_counts -/
def spWhole : Sp := fun vs H Q _ => ∃ i : Int, vs = [.int i] ∧ Q (.bl true) H
theorem scWhole : FnScope ["value"] ["value"] (defScope (top 17)) := ⟨rfl, rfl, rfl, by decide +kernel, rfl, by decide +kernel, by decide +kernel⟩
theorem has_whole (B : Bi mg) (D : Df K mg "is_whole" (top 17) ["value"]) : Has P w K mg base "is_whole" 1 ["value"] spWhole := by
  have sc := scWhole
  refine .of D fun f fd F => F.ok sc (fun vs H Q E h => ?_) (fun cdv A outer s H vs Q E hr h => ?_)
  · obtain ⟨i, rfl, _⟩ := h
    rfl
  · obtain ⟨i, rfl, k⟩ := h
    refine ⟨_, (pss_one (ps_ret (pe_and (pe_callB (kIsi (K := K)) (by rfl) B.isinstance (by decide +kernel) (pa_cons (pv 0) (pa_cons (pe_bltn (v := .ty "int") (by rfl) B.int (by decide +kernel) rfl) pa_nil))) (pe_one (pe_not (pe_callB (kIsi (K := K)) (by rfl) B.isinstance (by decide +kernel) (pa_cons (pv 0) (pa_cons (pe_bltn (v := .ty "bool") (by rfl) B.bool (by decide +kernel) rfl) pa_nil)))))))), ?_⟩
    walk_at "rd"
    refine ⟨_, _, _, _, true, rfl, .ty "int", .base (.int i), kit_ty (by decide +kernel), ?_⟩
    walk_at "rd"
    refine ⟨_, _, _, _, false, rfl, .ty "bool", .base (.int i), kit_ty (by decide +kernel), ?_⟩
    walk_at "rd"
    exact k
theorem ty_tup {H : Hp} {a : Addr} {xs : List V} (h : SqT K H a xs) : TyX K H (.ref a) (.type "tuple") := by
  rcases h with (h | ⟨o, h⟩) | ⟨o, its, n, h, c, _⟩
  · exact .base (.tup h)
  · exact .fTuple h
  · exact .kTuple h c
/-- counts of a row -/
def RowOk (cs : List Int) : Prop := 2 ≤ cs.length ∧ cs.length ≤ 6 ∧ (∀ c ∈ cs, 0 ≤ c) ∧ 0 < gcdL cs ∧ gcdL cs < 2 ^ 8990
def spCheck (K : PySem.W.Frag) : Sp := fun vs H Q _ => ∃ (q : Addr) (cs : List Int), vs = [.ref q] ∧ SqT K H q (cs.map V.int) ∧ RowOk cs ∧ ∀ H', Ex H H' → Q .non H'
theorem scCheck : FnScope ["counts", "yes", "count"] ["counts"] (defScope (top 27)) := ⟨rfl, rfl, rfl, by decide +kernel, rfl, by decide +kernel, by decide +kernel⟩
theorem has_check {t : Tok} (B : Bi mg) (c_MOST_DRAWS : mg "MOST_DRAWS" = some (.int 5 t)) (his_whole : Has P w K mg base "is_whole" 1 ["value"] spWhole) (D : Df K mg "_check_counts" (top 27) ["counts"]) : Has P w K mg base "_check_counts" 2 ["counts"] (spCheck K) := by
  have sc := scCheck
  refine .of D fun f fd F => F.ok sc (fun vs H Q E h => ?_) (fun cdv A outer s H vs Q E hr h => ?_)
  · obtain ⟨q, cs, rfl, _⟩ := h
    rfl
  · obtain ⟨q, cs, rfl, hS, ⟨l0, l1, pos, g0, g1⟩, k⟩ := h
    refine ⟨_, (pss_cons (ps_if (PW.pt (pw_or (pt_not (pt_val (pe_callB (kIsi (K := K)) (by rfl) B.isinstance (by decide +kernel) (pa_cons (pv 0) (pa_cons (pe_bltn (v := .ty "tuple") (by rfl) B.tuple (by decide +kernel) rfl) pa_nil))))) (pw_or1 (pt_cmpR op_lt (pe_callB (kLen (K := K)) (by rfl) B.len (by decide +kernel) (pa_cons (pv 0) pa_nil)) pe_int (nomark _))))) (pss_one ps_never) pss_nil)
      (pss_one (ps_for PassesOwn.never rfl (pi_enumT (by rfl) B.enumerate (pa_cons (pv 0) pa_nil)) (pg_tup rfl (pgs_cons (pg_name (i := 1) sc.nd rfl (by first | exact Or.inl rfl | exact Or.inr rfl)) (pgs_cons (pg_name (i := 2) sc.nd rfl (by first | exact Or.inl rfl | exact Or.inr rfl)) pgs_nil)))
      (pss_one (ps_if (PW.pt (pw_or (pt_not (pt_val (pe_has his_whole (hr.mono (by decide)) (pa_cons (pv 2) pa_nil)))) (pw_or (pt_cmpR op_lt (pv 2) pe_int (nomark _)) (pw_or1 (pt_cmpR op_gt (pv 1) (pe_glob (v := .int 5) rfl c_MOST_DRAWS ⟨_, rfl⟩) (nomark _)))))) (pss_one ps_never) pss_nil))))), ?_⟩
    walk_at "rd"
    refine ⟨_, _, _, _, true, rfl, .ty "tuple", ty_tup hS, kit_ty (by decide +kernel), ?_⟩
    walk_at "rd"
    refine ⟨_, .inr hS, ?_⟩
    rw [List.length_map, if_neg (by omega)]
    obtain ⟨Pv, hP⟩ : ∃ P : Nat → L2.St → Hp → Prop, P = fun j σ' G => Ex H G ∧ ∃ s1 s2 : Option V, σ' = [some (.ref q), s1, s2] := ⟨_, rfl⟩
    refine ⟨⟨_, hS⟩, loopE (xs := cs.map V.int) Pv (by rw [hP]; exact ⟨.refl _, _, _, rfl⟩) (fun j σ' G _ h => by rw [hP] at h; exact sqT_kp hS h.1.kp) ?_ ?_⟩
    · intro j x σ' G T G' hx h e1 t1
      rw [hP] at h
      obtain ⟨e0, s1, s2, rfl⟩ := h
      obtain ⟨c, hc, rfl⟩ := map_int_get hx
      have c0 := pos c (List.mem_of_getElem? hc)
      have hj := (List.getElem?_eq_some_iff.mp hc).1
      walk_at "rd"
      refine ⟨_, .of t1, rfl, ?_⟩
      walk_at "rd"
      refine ⟨c, rfl, ?_⟩
      walk_at "rd"
      rw [if_neg (by omega), if_neg (by omega)]
      rw [hP]
      exact ⟨e0.trans e1, _, _, rfl⟩
    · intro σ' G h
      rw [hP] at h
      exact k _ h.1

/-! ### Row -/
/-- what the text's top says of the class -/
structure RowC (K : PySem.W.Frag) (mg : Str → Option Value) (C : Addr) : Prop where
  cl : Cls K C
  nC : NoAttr K C "_counts"
  mgC : mg "Row" = some (.ref C)
  ha : PySem.W.findIn K (.ref C) "__class__" = some (some (.builtin "object.__class__"))
  hn : PySem.W.specialIn K (.builtin "object.__class__") "__get__" = some (some (.builtin "getset_descriptor.__get__"))
  htk : PySem.W.takesIn K (.builtin "object.__class__") = some true
  hm : PySem.W.mroIn K C (.type "object") = some true
theorem RowC.ty {C a dx : Addr} {H : Hp} {fs : List (Str × V)} (R : RowC K mg C) (e : H a = some (.ins C dx fs)) : TyX K H (.ref a) (.ref C) := .base (.ins e R.cl R.ha R.hn R.htk R.hm)
/-- x is a row whose plain counts are ps -/
def IsRow (K : PySem.W.Frag) (C : Addr) (H : Hp) (x : V) (ps : List Int) : Prop :=
  ∃ a dx q, x = .ref a ∧ H a = some (.ins C dx [("_counts", .ref q)]) ∧ SqT K H q (ps.map V.int)
theorem IsRow.kp {C : Addr} {H H' : Hp} {x : V} {ps : List Int} (h : IsRow K C H x ps) (e : Kp H H') : IsRow K C H' x ps := by
  obtain ⟨a, dx, q, rfl, h1, h2⟩ := h
  exact ⟨a, dx, q, rfl, e _ _ h1 (fun _ z => nomatch z), sqT_kp h2 e⟩
def spInit (K : PySem.W.Frag) (C : Addr) : Sp := fun vs H Q _ => ∃ (a dx q : Addr) (cs : List Int), vs = [.ref a, .ref q] ∧ H a = some (.ins C dx []) ∧ SqT K H q (cs.map V.int) ∧ RowOk cs ∧
  ∀ H', (∀ b o, b ≠ a → H b = some o → H' b = some o) → IsRow K C H' (.ref a) (plainL cs) → Q .non H'
theorem scInit : FnScope ["self", "counts", "common", "count"] ["self", "counts"] (defScope (inClass (top 25) 0)) := ⟨rfl, rfl, rfl, by decide +kernel, rfl, by decide +kernel, by decide +kernel⟩
theorem ok_init {C f : Addr} {fd : FuncData} (F : Fun K "__init__" "Row.__init__" (inClass (top 25) 0) f fd) (B : Bi mg) (RC : RowC K mg C) (c_gcd : mg "gcd" = some (.builtin "math.gcd"))
    (h_check_counts : Has P w K mg base "_check_counts" 2 ["counts"] (spCheck K)) : FnOk P w K mg base CX0 3 f fd ["self", "counts"] (spInit K C) := by
  have sc := scInit
  refine F.ok sc (fun vs H Q E h => ?_) (fun cdv A outer s H vs Q E hr h => ?_)
  · obtain ⟨a, dx, q, cs, rfl, _⟩ := h
    rfl
  · obtain ⟨a, dx, q, cs, rfl, hA, hS, ok, k⟩ := h
    obtain ⟨l0, l1, pos, g0, g1⟩ := id ok
    refine ⟨_, (pss_cons (ps_expr (pe_has h_check_counts (hr.mono (by decide)) (pa_cons (pv 1) pa_nil)))
      (pss_cons (ps_set (i := 2) sc.nd rfl (by first | exact Or.inl rfl | exact Or.inr rfl) pe_int)
      (pss_cons (ps_for PassesOwn.never rfl (pi_tup (pv 1)) (pg_name (i := 3) sc.nd rfl (by first | exact Or.inl rfl | exact Or.inr rfl))
      (pss_one (ps_set (i := 2) sc.nd rfl (by first | exact Or.inl rfl | exact Or.inr rfl) (pe_callBfun cr_gcd (by rfl) c_gcd (pa_cons (pv 2) (pa_cons (pv 3) pa_nil))))))
      (pss_cons (ps_if (pt_cmpR op_eq (pv 2) pe_int (nomark _)) (pss_one ps_never) pss_nil)
      (pss_one (ps_fld (pv 0) (pe_callTy (kTuple (K := K)) (by rfl) B.tuple (by decide +kernel) (pa_cons (pe_lc (own := [("count", 3)]) (g := gName 3) (tt := tYes) rfl sc.nd (pi_tup (pv 1)) (blkOk_by (N := (["self", "counts", "common", "count"] : List Str)) (sc := defScope (inClass (top 25) 0)) (by decide +kernel)) (fun _ _ _ _ _ => (pg_name (i := 3) sc.nd rfl (by first | exact Or.inl rfl | exact Or.inr rfl))) (fun _ _ _ _ _ => pts_nil) (fun _ _ _ _ _ => (PE.mon (pe_op op_fdivW (pv 3) (pv 2))))) pa_nil)) rfl)))))), ?_⟩
    walk_at "rd"
    refine ⟨q, cs, rfl, hS, ok, fun H1 e1 => ?_⟩
    walk_at "rd"
    have hS1 := sqT_kp hS e1.kp
    obtain ⟨Pv, hP⟩ : ∃ P : Nat → L2.St → Hp → Prop, P = fun j σ' G => G = H1 ∧ ∃ t : Option V, σ' = [some (.ref a), some (.ref q), some (.int ((gcdL (cs.take j) : Nat) : Int)), t] := ⟨_, rfl⟩
    refine ⟨⟨_, hS1⟩, loopT (xs := cs.map V.int) Pv (by rw [hP]; exact ⟨rfl, _, rfl⟩) (fun j σ' G _ h => by rw [hP] at h; rw [h.1]; exact hS1) ?_ ?_⟩
    · intro j x σ' G hx h
      rw [hP] at h
      obtain ⟨rfl, t, rfl⟩ := h
      obtain ⟨c, hc, rfl⟩ := map_int_get hx
      walk_at "rd"
      refine ⟨_, _, rfl, ?_⟩
      walk_at "rd"
      rw [hP]
      dsimp only
      rw [gcdL_take hc]
      exact ⟨rfl, _, rfl⟩
    · intro σ' G h
      rw [hP] at h
      obtain ⟨rfl, t, rfl⟩ := h
      rw [List.length_map, List.take_length]
      have gI : (0 : Int) < ((gcdL cs : Nat) : Int) := by omega
      have gL : (((gcdL cs : Nat) : Int)).natAbs.log2 < 9000 := by
        rw [Int.natAbs_natCast]
        exact log_lt g1
      walk_at "rd"
      rw [if_neg (by omega)]
      refine ⟨⟨_, hS1⟩, fun Dd hD => lcTn (fun i y _ => ∃ c, cs[i]? = some c ∧ y = .int (c / ((gcdL cs : Nat) : Int))) (fun _ _ _ _ _ h => h) hD hS1 (by rw [List.length_map]; omega) (fun _ => rfl) ?_ ?_⟩
      · intro i x H2 hx e
        obtain ⟨c, hc, rfl⟩ := map_int_get hx
        obtain ⟨R0, hR⟩ : ∃ R : VK, R = fun v H' => v = .int (c / ((gcdL cs : Nat) : Int)) ∧ H' = H2 := ⟨_, rfl⟩
        refine ⟨R0, ?_, fun v H' h => by rw [hR] at h; obtain ⟨rfl, rfl⟩ := h; exact ⟨Ex.refl _, c, hc, rfl⟩⟩
        walk_at "rd"
        refine ⟨⟨gI, gL⟩, ?_⟩
        rw [hR]
        exact ⟨rfl, rfl⟩
      · intro H2 ys e hy hl hr2
        rw [List.length_map] at hl
        have ey := ints_of_map hl hr2
        refine ⟨Dd, _, rfl, .of hy, fun p H3 n3 e3 t3 => ?_⟩
        rw [ey] at t3
        have e13 := (e1.trans e).trans e3
        have hA3 := e13 _ _ hA
        walk_at "rd"
        refine ⟨_, _, _, hA3, RC.cl, RC.nC, by decide, k _ (fun b o n h => by rw [upd_ne n]; exact e13 _ _ h) ⟨a, dx, p, rfl, upd_same, ?_⟩⟩
        exact .of (by rw [upd_ne (ne_of t3 hA3 (fun z => nomatch z))]; exact t3)

/-! ### the properties -/
def spGet (K : PySem.W.Frag) (C : Addr) : Sp := fun vs H Q _ => ∃ (x : V) (ps : List Int), vs = [x] ∧ IsRow K C H x ps ∧ ∀ y, IsInts K H y ps → Q y H
theorem scGet : FnScope ["self"] ["self"] (defScope (inClass (top 25) 2)) := ⟨rfl, rfl, rfl, by decide +kernel, rfl, by decide +kernel, by decide +kernel⟩
theorem look_counts (q : Addr) : List.lookup ("_counts" : Str) [(("_counts" : Str), V.ref q)] = some (.ref q) := by simp [List.lookup]
theorem ok_get {C f : Addr} {fd : FuncData} (F : Fun K "counts" "Row.counts" (inClass (top 25) 2) f fd) (RC : RowC K mg C) : FnOk P w K mg base CX0 1 f fd ["self"] (spGet K C) := by
  have sc := scGet
  refine F.ok sc (fun vs H Q E h => ?_) (fun cdv A outer s H vs Q E hr h => ?_)
  · obtain ⟨x, ps, rfl, _⟩ := h
    rfl
  · obtain ⟨x, ps, rfl, ⟨a, dx, q, rfl, hA, hS⟩, k⟩ := h
    refine ⟨_, (pss_one (ps_ret (kFld (K := K) (pv 0) rfl))), ?_⟩
    walk_at "rd"
    exact ⟨_, _, _, hA, RC.cl, RC.nC, _, look_counts q, k _ ⟨q, rfl, hS⟩⟩
def spDraws (K : PySem.W.Frag) (C : Addr) : Sp := fun vs H Q _ => ∃ (x : V) (ps : List Int), vs = [x] ∧ IsRow K C H x ps ∧ Q (.int ((ps.length : Nat) - 1 : Int)) H
theorem scDraws : FnScope ["self"] ["self"] (defScope (inClass (top 25) 4)) := ⟨rfl, rfl, rfl, by decide +kernel, rfl, by decide +kernel, by decide +kernel⟩
theorem ok_draws {C f : Addr} {fd : FuncData} (F : Fun K "draws" "Row.draws" (inClass (top 25) 4) f fd) (B : Bi mg) (RC : RowC K mg C) : FnOk P w K mg base CX0 1 f fd ["self"] (spDraws K C) := by
  have sc := scDraws
  refine F.ok sc (fun vs H Q E h => ?_) (fun cdv A outer s H vs Q E hr h => ?_)
  · obtain ⟨x, ps, rfl, _⟩ := h
    rfl
  · obtain ⟨x, ps, rfl, ⟨a, dx, q, rfl, hA, hS⟩, k⟩ := h
    refine ⟨_, (pss_one (ps_ret (pe_op op_sub (pe_callB (kLen (K := K)) (by rfl) B.len (by decide +kernel) (pa_cons (kFld (K := K) (pv 0) rfl) pa_nil)) pe_int))), ?_⟩
    walk_at "rd"
    refine ⟨_, _, _, hA, RC.cl, RC.nC, _, look_counts q, ?_⟩
    walk_at "rd"
    refine ⟨_, .inr hS, ?_⟩
    rw [List.length_map]
    exact k
/-- a tuple whose items tell the fractions -/
def FrsAt (K : PySem.W.Frag) (H : Hp) (xs : List V) (rs : List Rat) : Prop := xs.length = rs.length ∧ ∀ (i : Nat) x, xs[i]? = some x → ∃ r, rs[i]? = some r ∧ IsFr K H x r
theorem FrsAt.kp {H H' : Hp} {xs : List V} {rs : List Rat} (h : FrsAt K H xs rs) (e : Kp H H') : FrsAt K H' xs rs :=
  ⟨h.1, fun i x hx => let ⟨r, h1, h2⟩ := h.2 i x hx; ⟨r, h1, h2.kp e⟩⟩
def IsFrs (K : PySem.W.Frag) (H : Hp) (x : V) (rs : List Rat) : Prop := ∃ p xs, x = .ref p ∧ SqT K H p xs ∧ FrsAt K H xs rs
theorem IsFrs.kp {H H' : Hp} {x : V} {rs : List Rat} (h : IsFrs K H x rs) (e : Kp H H') : IsFrs K H' x rs := by
  obtain ⟨p, xs, rfl, h1, h2⟩ := h
  exact ⟨p, xs, rfl, sqT_kp h1 e, h2.kp e⟩
theorem frs_dp {H : Hp} : ∀ {xs : List V} {rs : List Rat}, FrsAt K H xs rs → DpAll K H xs (rs.map frD)
  | [], [], _ => .nil
  | [], _ :: _, h => by cases h.1
  | _ :: _, [], h => by cases h.1
  | x :: xs, r :: rs, h => by
    refine .cons ?_ (frs_dp ⟨by simpa using h.1, fun i y hy => by simpa using h.2 (i + 1) y (by simpa using hy)⟩)
    obtain ⟨r', e, q⟩ := h.2 0 x rfl
    cases e
    exact q.dp
/-- rates of plain counts -/
def ratesL (ps : List Int) : List Rat := ps.map fun p => ((p : Int) : Rat) / ((ps.sum : Int) : Rat)
def spLowest (K : PySem.W.Frag) : Sp := fun vs H Q _ => ∃ t b : Int, vs = [.int t, .int b] ∧ 0 < b ∧ b.natAbs < 2 ^ 8990 ∧
  ∀ x H', Ex H H' → IsFr K H' x ((t : Rat) / (b : Rat)) → Q x H'
theorem scLowest : FnScope ["top", "bottom", "common"] ["top", "bottom"] (defScope (top 19)) := ⟨rfl, rfl, rfl, by decide +kernel, rfl, by decide +kernel, by decide +kernel⟩
theorem has_lowest (c_gcd : mg "gcd" = some (.builtin "math.gcd")) (D : Df K mg "lowest" (top 19) ["top", "bottom"]) : Has P w K mg base "lowest" 1 ["top", "bottom"] (spLowest K) := by
  have sc := scLowest
  refine .of D fun f fd F => F.ok sc (fun vs H Q E h => ?_) (fun cdv A outer s H vs Q E hr h => ?_)
  · obtain ⟨t, b, rfl, _⟩ := h
    rfl
  · obtain ⟨t, b, rfl, b0, b1, k⟩ := h
    obtain ⟨g0, g1⟩ := gcd_small (t := t) b0 b1
    refine ⟨_, (pss_cons (ps_set (i := 2) sc.nd rfl (by first | exact Or.inl rfl | exact Or.inr rfl) (pe_callBfun cr_gcd (by rfl) c_gcd (pa_cons (pv 0) (pa_cons (pv 1) pa_nil))))
      (pss_one (ps_ret (pe_tupN (pa_cons (pe_op op_fdivW (pv 0) (pv 2)) (pa_cons (pe_op op_fdivW (pv 1) (pv 2)) pa_nil)))))), ?_⟩
    walk_at "rd"
    refine ⟨_, _, rfl, ?_⟩
    have eg : ((Nat.gcd t.natAbs b.natAbs : Nat) : Int) = ((Int.gcd b t : Nat) : Int) := by
      rw [Nat.gcd_comm]
      rfl
    rw [eg]
    walk_at "rd"
    refine ⟨⟨g0, log_lt g1⟩, ⟨g0, log_lt g1⟩, by decide, fun p H1 n1 e1 t1 => k _ _ e1 ⟨p, rfl, ?_⟩⟩
    rw [← part_eq b0]
    exact .of t1
end

section
variable {P : Program} {w : World} {K : PySem.W.Frag} {mg : Str → Option Value} {base : Heap}
/-! ### rows compared, the rules of rows -/
def spEqR (K : PySem.W.Frag) (C : Addr) : Sp := fun vs H Q _ => ∃ (x y : V) (ps qs : List Int), vs = [x, y] ∧ IsRow K C H x ps ∧ IsRow K C H y qs ∧ Q (.bl (PyData.eqv (intsD ps) (intsD qs))) H
theorem scEq : FnScope ["self", "other"] ["self", "other"] (defScope (inClass (top 25) 7)) := ⟨rfl, rfl, rfl, by decide +kernel, rfl, by decide +kernel, by decide +kernel⟩
theorem shaped_ints (cs : List Int) : SeqAt.shaped (intsD cs) = true := by
  have h : ∀ cs : List Int, PyData.canLayAll0 (cs.map PyData.int) = true ∧ PyData.depthAll (cs.map PyData.int) = 0 := by
    intro cs
    induction cs with
    | nil => exact ⟨by simp [PyData.canLayAll0], by simp [PyData.depthAll]⟩
    | cons c cs ih => exact ⟨by simp [PyData.canLayAll0, PyData.canLay0, ih.1], by simp [PyData.depthAll, PyData.depth, ih.2]⟩
  unfold SeqAt.shaped intsD
  simp [PyData.canLay0, PyData.depth, (h cs).1, (h cs).2]
theorem ok_eq {C f : Addr} {fd : FuncData} (F : Fun K "__eq__" "Row.__eq__" (inClass (top 25) 7) f fd) (B : Bi mg) (RC : RowC K mg C) : FnOk P w K mg base CX0 1 f fd ["self", "other"] (spEqR K C) := by
  have sc := scEq
  refine F.ok sc (fun vs H Q E h => ?_) (fun cdv A outer s H vs Q E hr h => ?_)
  · obtain ⟨x, y, ps, qs, rfl, _⟩ := h
    rfl
  · obtain ⟨x, y, ps, qs, rfl, ⟨a, dx, p, rfl, hA, hS⟩, ⟨b, dy, q, rfl, hB, hT⟩, k⟩ := h
    refine ⟨_, (pss_one (ps_ret (pe_and (pe_callB (kIsi (K := K)) (by rfl) B.isinstance (by decide +kernel) (pa_cons (pv 1) (pa_cons (pe_glob (v := .ref C) rfl RC.mgC rfl) pa_nil))) (pe_one (pe_cmpR (op_eqD hr.units) (pe_fld (pv 0) rfl) (pe_fld (pv 1) rfl) (nomark _)))))), ?_⟩
    walk_at "rd"
    refine ⟨_, _, _, _, true, rfl, .own C, RC.ty hB, by simp [PySem.W.kitOne], ?_⟩
    walk_at "rd"
    refine ⟨_, _, _, hA, RC.cl, RC.nC, _, look_counts p, _, _, _, hB, RC.cl, RC.nC, _, look_counts q, ?_⟩
    exact ⟨intsD ps, intsD qs, .tup hS (dp_ints _), .tup hT (dp_ints _), shaped_ints _, shaped_ints _, k⟩

/-- the class Row as the text makes it: its parts keep what they promise -/
structure RowT (P : Program) (w : World) (K : PySem.W.Frag) (mg : Str → Option Value) (base : Heap) (C : Addr) : Prop where
  rc : RowC K mg C
  init : ∃ f fd, Mk K C f ∧ FnOk P w K mg base CX0 3 f fd ["self", "counts"] (spInit K C) ∧ Binds K fd ["self", "counts"] []
  counts : ∃ p g fd, PropOf K C "counts" p g ∧ FnOk P w K mg base CX0 1 g fd ["self"] (spGet K C) ∧ Binds K fd ["self"] []
  draws : ∃ p g fd, PropOf K C "draws" p g ∧ FnOk P w K mg base CX0 1 g fd ["self"] (spDraws K C) ∧ Binds K fd ["self"] []
  eq : ∃ f fd, PySem.W.findIn K (.ref C) "__eq__" = some (some (.ref f)) ∧ PySem.W.isFn K (.ref f) = true ∧ FnOk P w K mg base CX0 1 f fd ["self", "other"] (spEqR K C) ∧ Binds K fd ["self", "other"] []
  ne : ∃ (f N : Addr) (of : Obj) (nm q : Str) (bs : List Value) (hdct : Bool) (sn : List Str) (sub : List Value) (ab : Bool) (col : Option Bool) (dd : Option Addr) (k0 k1 k2 k3 k5 : Option Value) (newId : String),
    PySem.W.findIn K (.ref C) "__eq__" = some (some (.ref f)) ∧ K.lookup C = some (excClassObj nm q C N bs [.type "object"] hdct sn sub ab col dd k0 k1 k2 k3 k5 newId) ∧ PySem.W.nsOkIn K N = true ∧
    PySem.W.nsIn K N "__eq__" = some (some (.ref f)) ∧ PySem.W.nsIn K N "__ne__" = some none ∧ K.lookup f = some of ∧ of.cls = .type "function"

theorem ns_some {h : Heap} {N : Addr} {m : Str → Option Value} {n : Str} {v : Value} (X : K.In h) (G : h.Ns N m) (e : PySem.W.nsIn K N n = some (some v)) : m n = some v := by
  obtain ⟨o, es, ep, ho, hd, ok, hf⟩ := G
  unfold PySem.W.nsIn at e
  split at e
  · rename_i q
    have z := X _ _ q
    rw [ho] at z
    cases z
    cases hd
    split at e
    · rename_i en hen
      cases e
      rw [← hf]
      unfold nsFind findBy
      rw [← Array.find?_toList, hen]
      rfl
    · split at e <;> cases e
  · cases e
section
variable {X : Cx} {C : Addr} {e : Expr} {es : List Expr} {te : TE} {t : TA} {p pos : Pos}
/-- Row(e) -/
def tRow (K : PySem.W.Frag) (C : Addr) (t : TA) : TE := fun σ H Q => t σ H fun vs H1 => ∃ (y : V) (cs : List Int), vs = [y] ∧ IsInts K H1 y cs ∧ RowOk cs ∧ ∀ x H2, Ex H1 H2 → IsRow K C H2 x (plainL cs) → Q x H2
theorem pe_row (T : RowT X.prog X.w X.K X.mg X.base C) (hr : Room 4 X.A) (ha : PA X (e :: es) t) (hg : Gl X "Row" := by rfl)
    (he : starEach (e :: es) X.env = (false, eval e X.env) :: starEach es X.env := by rfl) (hpl : (backTo pos (starEach es X.env)).any (·.1) = false := by rfl) :
    PE X (.Call (.Name "Row" p) (e :: es) [] pos) (tRow X.K C t) := by
  obtain ⟨f, fd, M, F, hb⟩ := T.init
  have q := pe_make (X := X) (p := p) (pos := pos) M F hr hg T.rc.mgC hb .nil (pass0 (X := X)) (PA.mon ha) (by decide) he hpl
  refine ⟨fun pins s σ H Q I hq => q.run pins s σ H Q I ⟨_, hq, ?_⟩⟩
  intro vs H1 ⟨y, cs, ev, ⟨qa, ey, hS⟩, ok, k⟩ x dx nx ndx nex
  subst ev ey
  have e1 : Ex H1 (upd (upd H1 dx (.own x)) x (.ins C dx [])) := fun b o h => by
    rw [upd_ne (ne_of_none h nx), upd_ne (ne_of_none h ndx)]
    exact h
  refine ⟨x, dx, qa, cs, rfl, upd_same, sqT_kp hS e1.kp, ok, fun H2 keep hrow => ⟨rfl, k _ _ (fun b o h => ?_) hrow⟩⟩
  exact keep b o (ne_of_none h nx) (e1 b o h)
/-- e.counts -/
def tCounts (K : PySem.W.Frag) (C : Addr) (te : TE) : TE := fun σ H Q => te σ H fun x H1 => ∃ ps, IsRow K C H1 x ps ∧ ∀ y, IsInts K H1 y ps → Q y H1
theorem pe_counts (T : RowT X.prog X.w X.K X.mg X.base C) (hr : Room 2 X.A) (he : PE X e te) (hab : attributeBase e "counts" X.env (eval e X.env) = eval e X.env := by rfl) : PE X (.Attribute e "counts" pos) (tCounts X.K C te) := by
  obtain ⟨pr, g, fd, hp, F, hb⟩ := T.counts
  have q := pe_prop (X := X) (pos := pos) (PE.mon he) T.rc.cl hp F hr hb .nil (pass0 (X := X.nox)) hab
  refine ⟨fun pins s σ H Q I hq => q.run pins s σ H Q I ⟨_, hq, ?_⟩⟩
  intro x H1 ⟨ps, hrow, k⟩
  obtain ⟨a, dx, qa, ex, hA, hS⟩ := id hrow
  exact ⟨a, dx, _, ex, hA, x, ps, by rw [ex], hrow, k⟩
def tDraws (K : PySem.W.Frag) (C : Addr) (te : TE) : TE := fun σ H Q => te σ H fun x H1 => ∃ ps : List Int, IsRow K C H1 x ps ∧ Q (.int ((ps.length : Nat) - 1 : Int)) H1
theorem pe_draws (T : RowT X.prog X.w X.K X.mg X.base C) (hr : Room 2 X.A) (he : PE X e te) (hab : attributeBase e "draws" X.env (eval e X.env) = eval e X.env := by rfl) : PE X (.Attribute e "draws" pos) (tDraws X.K C te) := by
  obtain ⟨pr, g, fd, hp, F, hb⟩ := T.draws
  have q := pe_prop (X := X) (pos := pos) (PE.mon he) T.rc.cl hp F hr hb .nil (pass0 (X := X.nox)) hab
  refine ⟨fun pins s σ H Q I hq => q.run pins s σ H Q I ⟨_, hq, ?_⟩⟩
  intro x H1 ⟨ps, hrow, k⟩
  obtain ⟨a, dx, qa, ex, hA, hS⟩ := id hrow
  exact ⟨a, dx, _, ex, hA, x, ps, by rw [ex], hrow, k⟩
def tRates (K : PySem.W.Frag) (C : Addr) (te : TE) : TE := fun σ H Q => te σ H fun x H1 => ∃ ps : List Int, IsRow K C H1 x ps ∧ ps.length ≤ 1000 ∧ 0 < ps.sum ∧ ps.sum.natAbs < 2 ^ 8990 ∧ ∀ y H', Ex H1 H' → IsFrs K H' y (ratesL ps) → Q y H'
/-- x != y, two rows -/
def rNeRow (K : PySem.W.Frag) (C : Addr) : R2 := fun x y H Q => ∃ ps qs, IsRow K C H x ps ∧ IsRow K C H y qs ∧ Q (.bl (!PyData.eqv (intsD ps) (intsD qs))) H
theorem op_neRow (T : RowT X.prog X.w X.K X.mg X.base C) (hr : Room 2 X.A) : OpR X (compareOp .NotEq) (rNeRow X.K C) := by
  intro pins s σ H x y v u Q I rx ry ⟨ps, qs, ⟨a, dx, p, ex, hA, hS⟩, ⟨b, dy, q, ey, hB, hT⟩, k⟩
  subst ex ey
  obtain rfl : v = Value.ref a := rx
  obtain rfl : u = Value.ref b := ry
  obtain ⟨f, fd, f1, f2, F, hb⟩ := T.eq
  obtain ⟨f', N, of, nm, qn, bs, hdct, sn, sub, ab, col, dd, k0, k1, k2, k3, k5, newId, f3, lC, okN, n1, n2, lf, cf⟩ := T.ne
  have ef : f' = f := by
    rw [f1] at f3
    cases f3
    rfl
  subst ef
  obtain ⟨mA, OA, _⟩ := ins_get I.hok hA
  obtain ⟨mB, OB, _⟩ := ins_get I.hok hB
  have KI := I.kIn
  obtain ⟨hp, g, d, tk, os⟩ := s
  have hns : hp.Ns N (hp.nsMap N) := .of_isNs (PySem.W.isNs_of_in KI okN)
  have nNe : hp.nsMap N "__ne__" = none := PySem.W.ns_none_of KI hns n2
  have nEq : hp.nsMap N "__eq__" = some (.ref f') := ns_some KI hns n1
  have OE : hp.OwnEqNoNe a C f' "object" [.type "object"] :=
    ⟨_, of, nm, qn, N, bs, hdct, sn, sub, ab, col, dd, k0, k1, k2, k3, k5, newId, _, _, OA.obj, rfl, KI _ _ lC, hns, nEq, KI _ _ lf, cf, PySem.F.cmp_object.mro, rfl, nNe⟩
  refine compareOp_ne_ownEq PySem.F.cmp_object OE OB.obj rfl (by have := hr.un; omega) ?_
  have hsp : spEqR X.K C [.ref a, .ref b] H (fun v H' => v = .bl (PyData.eqv (intsD ps) (intsD qs)) ∧ H' = H) E0 :=
    ⟨.ref a, .ref b, ps, qs, rfl, ⟨a, dx, p, rfl, hA, hS⟩, ⟨b, dy, q, rfl, hB, hT⟩, rfl, rfl⟩
  have hl := F.len _ _ _ _ hsp
  have r2 : Vals [V.ref a, V.ref b] [Value.ref a, Value.ref b] := .cons rfl (.cons rfl .nil)
  have bnd := hb ⟨hp, g, d, tk, os⟩ [.ref a, .ref b] KI (by simpa using hl)
  rw [List.append_nil] at bnd
  refine wpAny_call (codeAny_mono (F.run X.A.in1 X.stack ⟨hp, g, d, tk, os⟩ H ⟨[.ref a, .ref b], []⟩ [.ref a, .ref b] [.ref a, .ref b] _ E0 hr.in1 I.env0.in1 bnd r2 hsp) fun res s' hq => ?_)
  cases res with
  | error er => exact (pass0 (X := X)) pins σ H _ er s' I hq
  | ok fl =>
    cases fl with
    | next => exact hq.elim
    | brk => exact hq.elim
    | cont => exact hq.elim
    | ret z =>
      obtain ⟨y, H', I', rz, ez, eh⟩ := I.after hq
      subst ez eh
      obtain rfl : z = Value.bool _ := rz
      exact ⟨_, rfl, .bl (!PyData.eqv (intsD ps) (intsD qs)), _, I', rfl, k⟩
end
end
section
variable {X : Cx} {K : PySem.W.Frag}
section
variable {P : Program} {w : World} {mg : Str → Option Value} {base : Heap} {C : Addr} {e : Expr} {es : List Expr} {te : TE} {t : TA} {p pos : Pos}
/-- where the block stands -/
def At (X : Cx) (P : Program) (w : World) (K : PySem.W.Frag) (mg : Str → Option Value) (base : Heap) : Prop := X.prog = P ∧ X.w = w ∧ X.K = K ∧ X.mg = mg ∧ X.base = base
theorem kRow (T : RowT P w K mg base C) (hr : Room 4 X.A) (ha : PA X (e :: es) t) (hx : At X P w K mg base := by exact ⟨rfl, rfl, rfl, rfl, rfl⟩) (hg : Gl X "Row" := by rfl)
    (he : starEach (e :: es) X.env = (false, eval e X.env) :: starEach es X.env := by rfl) (hpl : (backTo pos (starEach es X.env)).any (·.1) = false := by rfl) :
    PE X (.Call (.Name "Row" p) (e :: es) [] pos) (tRow K C t) := by
  obtain ⟨h1, h2, h3, h4, h5⟩ := hx
  subst h1 h2 h3 h4 h5
  exact pe_row T hr ha hg he hpl
theorem kCounts (T : RowT P w K mg base C) (hr : Room 2 X.A) (he : PE X e te) (hx : At X P w K mg base := by exact ⟨rfl, rfl, rfl, rfl, rfl⟩) (hab : attributeBase e "counts" X.env (eval e X.env) = eval e X.env := by rfl) : PE X (.Attribute e "counts" pos) (tCounts K C te) := by
  obtain ⟨h1, h2, h3, h4, h5⟩ := hx
  subst h1 h2 h3 h4 h5
  exact pe_counts T hr he hab
theorem kDraws (T : RowT P w K mg base C) (hr : Room 2 X.A) (he : PE X e te) (hx : At X P w K mg base := by exact ⟨rfl, rfl, rfl, rfl, rfl⟩) (hab : attributeBase e "draws" X.env (eval e X.env) = eval e X.env := by rfl) : PE X (.Attribute e "draws" pos) (tDraws K C te) := by
  obtain ⟨h1, h2, h3, h4, h5⟩ := hx
  subst h1 h2 h3 h4 h5
  exact pe_draws T hr he hab
theorem kNeRow (T : RowT P w K mg base C) (hr : Room 2 X.A) (hx : At X P w K mg base := by exact ⟨rfl, rfl, rfl, rfl, rfl⟩) : OpR X (compareOp .NotEq) (rNeRow K C) := by
  obtain ⟨h1, h2, h3, h4, h5⟩ := hx
  subst h1 h2 h3 h4 h5
  exact op_neRow T hr
end
section
variable {D : Ends} {σ : L2.St} {H : Hp} {te : TE} {tx : TA} {Q : VK} {C : Addr}
theorem r_counts : tCounts K C te σ H Q = te σ H fun x H1 => ∃ ps, IsRow K C H1 x ps ∧ ∀ y, IsInts K H1 y ps → Q y H1 := rfl
theorem r_draws : tDraws K C te σ H Q = te σ H fun x H1 => ∃ ps : List Int, IsRow K C H1 x ps ∧ Q (.int ((ps.length : Nat) - 1 : Int)) H1 := rfl
theorem r_rates : tRates K C te σ H Q = te σ H fun x H1 => ∃ ps : List Int, IsRow K C H1 x ps ∧ ps.length ≤ 1000 ∧ 0 < ps.sum ∧ ps.sum.natAbs < 2 ^ 8990 ∧ ∀ y H', Ex H1 H' → IsFrs K H' y (ratesL ps) → Q y H' := rfl
theorem r_row : tRow K C tx σ H Q = tx σ H fun vs H1 => ∃ (y : V) (cs : List Int), vs = [y] ∧ IsInts K H1 y cs ∧ RowOk cs ∧ ∀ x H2, Ex H1 H2 → IsRow K C H2 x (plainL cs) → Q x H2 := rfl
end
end

section
variable {P : Program} {w : World} {K : PySem.W.Frag} {mg : Str → Option Value} {base : Heap}
def SeqFrs (K : PySem.W.Frag) (H : Hp) (x : V) (rs : List Rat) : Prop := ∃ p xs, x = .ref p ∧ (SqT K H p xs ∨ SqL K H p xs) ∧ FrsAt K H xs rs
theorem IsFrs.seq {H : Hp} {x : V} {rs : List Rat} (h : IsFrs K H x rs) : SeqFrs K H x rs := by
  obtain ⟨p, xs, rfl, h1, h2⟩ := h
  exact ⟨p, xs, rfl, .inl h1, h2⟩
def spSum (K : PySem.W.Frag) : Sp := fun vs H Q _ => ∃ (x : V) (rs : List Rat) (n : Nat), vs = [x] ∧ SeqFrs K H x rs ∧ (∀ r ∈ rs, sz r n) ∧ rs.length * (n + 1) + n + 2 ≤ 8900 ∧
  ∀ y H', Ex H H' → IsFr K H' y (sumR rs) → Q y H'
theorem scSum : FnScope ["parts_here", "found", "top", "bottom"] ["parts_here"] (defScope (top 39)) := ⟨rfl, rfl, rfl, by decide +kernel, rfl, by decide +kernel, by decide +kernel⟩
theorem at0 {r : Rat} : atI (fr r) 0 = some (.int r.num) := rfl
theorem at1 {r : Rat} : atI (fr r) 1 = some (.int ((r.den : Nat) : Int)) := rfl
theorem has_sum (h_law_part : Has P w K mg base "_law_part" 2 ["top", "bottom"] (spPart K)) (D : Df K mg "_law_sum" (top 39) ["parts_here"]) : Has P w K mg base "_law_sum" 3 ["parts_here"] (spSum K) := by
  have sc := scSum
  refine .of D fun f fd F => F.ok sc (fun vs H Q E h => ?_) (fun cdv A outer s H vs Q E hr h => ?_)
  · obtain ⟨x, rs, n, rfl, _⟩ := h
    rfl
  · obtain ⟨_, rs, n, rfl, ⟨p, xs, rfl, hS, hF⟩, hz, hn, k⟩ := h
    obtain ⟨Pv, hP⟩ : ∃ P : Nat → L2.St → Hp → Prop, P = fun j σ' G => Ex H G ∧ ∃ (y : V) (s2 s3 : Option V), σ' = [some (.ref p), some y, s2, s3] ∧ IsFr K G y (sumR (rs.take j)) := ⟨_, rfl⟩
    have step : ∀ (i : Nat) (r : Rat), rs[i]? = some r → sz (sumR (rs.take i)) (i * (n + 1) + 1) ∧ sz r n ∧ (i + 1) * (n + 1) + n + 2 ≤ 8900 := by
      intro i r hr
      have hi := (List.getElem?_eq_some_iff.mp hr).1
      refine ⟨sz_sum rs i hz (by omega), hz r (List.mem_of_getElem? hr), ?_⟩
      have := Nat.mul_le_mul_right (n + 1) (show i + 1 ≤ rs.length by omega)
      omega
    rcases hS with hS | hS
    · refine ⟨_, (pss_cons (ps_set (i := 1) sc.nd rfl (by first | exact Or.inl rfl | exact Or.inr rfl) (pe_tupN (pa_cons pe_int (pa_cons pe_int pa_nil))))
      (pss_cons (ps_for PassesOwn.never rfl (pi_tup (pv 0)) (pg_tup rfl (pgs_cons (pg_name (i := 2) sc.nd rfl (by first | exact Or.inl rfl | exact Or.inr rfl)) (pgs_cons (pg_name (i := 3) sc.nd rfl (by first | exact Or.inl rfl | exact Or.inr rfl)) pgs_nil)))
      (pss_one (ps_set (i := 1) sc.nd rfl (by first | exact Or.inl rfl | exact Or.inr rfl) (pe_has h_law_part (hr.mono (by decide)) (pa_cons (pe_op op_add (pe_op op_mulS (pe_ix (ixT (K := K)) (pv 1) pe_int (fun _ _ => rfl)) (pv 3)) (pe_op op_mulS (pv 2) (pe_ix (ixT (K := K)) (pv 1) pe_int (fun _ _ => rfl)))) (pa_cons (pe_op op_mulS (pe_ix (ixT (K := K)) (pv 1) pe_int (fun _ _ => rfl)) (pv 3)) pa_nil))))))
      (pss_one (ps_ret (pv 1))))), ?_⟩
      walk_at "rd"
      refine ⟨by decide, fun q H1 n1 e1 t1 => ?_⟩
      have hF1 := hF.kp e1.kp
      walk_at "rd"
      refine ⟨⟨_, sqT_kp hS e1.kp⟩, loopT (xs := xs) Pv (by rw [hP]; exact ⟨e1, _, _, _, rfl, q, rfl, .of t1⟩) (fun j σ' G _ h => by rw [hP] at h; exact sqT_kp hS h.1.kp) ?_ ?_⟩
      · intro j x σ' G hx h
        rw [hP] at h
        obtain ⟨e, _, s2, s3, rfl, ⟨y, rfl, hy⟩⟩ := h
        obtain ⟨r, hr1, a, rfl, ha⟩ := (hF.kp e.kp).2 j x hx
        obtain ⟨z1, z2, z3⟩ := step j r hr1
        rw [Nat.add_mul] at z3
        walk_at "rd"
        refine ⟨_, ha, rfl, ?_⟩
        unfold fr
        walk_at "rd"
        refine q_ixT hy at0 ?_
        walk_at "rd"
        refine ⟨cmul 9000 9000 (lt2_mono z1.1 (by omega)) (lt2_mono (den_lt z2) (by omega)), ?_⟩
        refine q_ixT hy at1 ?_
        walk_at "rd"
        refine ⟨cmul 9000 9000 (lt2_mono z2.1 (by omega)) (lt2_mono (den_lt z1) (by omega)), ?_⟩
        refine q_ixT hy at1 ?_
        walk_at "rd"
        refine ⟨cmul 9000 9000 (lt2_mono (den_lt z1) (by omega)) (lt2_mono (den_lt z2) (by omega)), ?_⟩
        refine ⟨_, _, rfl, Int.mul_pos (den_pos _) (den_pos _), lt2_mono (wide_lt (den_lt z1) (den_lt z2)) (by omega), fun y2 H2 e2 h2 => ?_⟩
        rw [add_parts] at h2
        rw [hP]
        refine ⟨e.trans e2, _, _, _, rfl, ?_⟩
        rw [sumR_take hr1]
        exact h2
      · intro σ' G h
        rw [hP] at h
        obtain ⟨e, y, s2, s3, rfl, hy⟩ := h
        rw [hF.1, List.take_length] at hy
        walk_at "rd"
        exact k _ _ e hy
    · refine ⟨_, (pss_cons (ps_set (i := 1) sc.nd rfl (by first | exact Or.inl rfl | exact Or.inr rfl) (pe_tupN (pa_cons pe_int (pa_cons pe_int pa_nil))))
      (pss_cons (ps_for PassesOwn.never rfl (pi_list (pv 0)) (pg_tup rfl (pgs_cons (pg_name (i := 2) sc.nd rfl (by first | exact Or.inl rfl | exact Or.inr rfl)) (pgs_cons (pg_name (i := 3) sc.nd rfl (by first | exact Or.inl rfl | exact Or.inr rfl)) pgs_nil)))
      (pss_one (ps_set (i := 1) sc.nd rfl (by first | exact Or.inl rfl | exact Or.inr rfl) (pe_has h_law_part (hr.mono (by decide)) (pa_cons (pe_op op_add (pe_op op_mulS (pe_ix (ixT (K := K)) (pv 1) pe_int (fun _ _ => rfl)) (pv 3)) (pe_op op_mulS (pv 2) (pe_ix (ixT (K := K)) (pv 1) pe_int (fun _ _ => rfl)))) (pa_cons (pe_op op_mulS (pe_ix (ixT (K := K)) (pv 1) pe_int (fun _ _ => rfl)) (pv 3)) pa_nil))))))
      (pss_one (ps_ret (pv 1))))), ?_⟩
      walk_at "rd"
      refine ⟨by decide, fun q H1 n1 e1 t1 => ?_⟩
      have hF1 := hF.kp e1.kp
      walk_at "rd"
      refine ⟨⟨_, sqL_ex hS e1⟩, loopL (xs := xs) Pv (by rw [hP]; exact ⟨e1, _, _, _, rfl, q, rfl, .of t1⟩) (fun j σ' G _ h => by rw [hP] at h; exact sqL_ex hS h.1) ?_ ?_⟩
      · intro j x σ' G hx h
        rw [hP] at h
        obtain ⟨e, _, s2, s3, rfl, ⟨y, rfl, hy⟩⟩ := h
        obtain ⟨r, hr1, a, rfl, ha⟩ := (hF.kp e.kp).2 j x hx
        obtain ⟨z1, z2, z3⟩ := step j r hr1
        rw [Nat.add_mul] at z3
        walk_at "rd"
        refine ⟨_, ha, rfl, ?_⟩
        unfold fr
        walk_at "rd"
        refine q_ixT hy at0 ?_
        walk_at "rd"
        refine ⟨cmul 9000 9000 (lt2_mono z1.1 (by omega)) (lt2_mono (den_lt z2) (by omega)), ?_⟩
        refine q_ixT hy at1 ?_
        walk_at "rd"
        refine ⟨cmul 9000 9000 (lt2_mono z2.1 (by omega)) (lt2_mono (den_lt z1) (by omega)), ?_⟩
        refine q_ixT hy at1 ?_
        walk_at "rd"
        refine ⟨cmul 9000 9000 (lt2_mono (den_lt z1) (by omega)) (lt2_mono (den_lt z2) (by omega)), ?_⟩
        refine ⟨_, _, rfl, Int.mul_pos (den_pos _) (den_pos _), lt2_mono (wide_lt (den_lt z1) (den_lt z2)) (by omega), fun y2 H2 e2 h2 => ?_⟩
        rw [add_parts] at h2
        rw [hP]
        refine ⟨e.trans e2, _, _, _, rfl, ?_⟩
        rw [sumR_take hr1]
        exact h2
      · intro σ' G h
        rw [hP] at h
        obtain ⟨e, y, s2, s3, rfl, hy⟩ := h
        rw [hF.1, List.take_length] at hy
        walk_at "rd"
        exact k _ _ e hy

def lcmL (rs : List Rat) : Nat := rs.foldl (fun B r => B * (r.den / Nat.gcd B r.den)) 1
def wholeW (rs : List Rat) : List Int := rs.map fun r => r.num * (((lcmL rs : Nat) : Int) / ((r.den : Nat) : Int))
theorem lcmL_take {rs : List Rat} {i : Nat} {r : Rat} (h : rs[i]? = some r) : lcmL (rs.take (i + 1)) = lcmL (rs.take i) * (r.den / Nat.gcd (lcmL (rs.take i)) r.den) := by
  unfold lcmL
  rw [List.take_add_one, h]
  simp
theorem lcmF (rs : List Rat) : ∀ (B : Nat), 0 < B → 0 < rs.foldl (fun B r => B * (r.den / Nat.gcd B r.den)) B ∧ B ∣ rs.foldl (fun B r => B * (r.den / Nat.gcd B r.den)) B ∧ ∀ r ∈ rs, r.den ∣ rs.foldl (fun B r => B * (r.den / Nat.gcd B r.den)) B := by
  induction rs with
  | nil => exact fun B h => ⟨h, Nat.dvd_refl _, fun r h => by simp at h⟩
  | cons r rs ih =>
    intro B hB
    have hd := r.den_pos
    have g0 : 0 < Nat.gcd B r.den := Nat.gcd_pos_of_pos_left _ hB
    have q0 : 0 < r.den / Nat.gcd B r.den := Nat.div_pos (Nat.le_of_dvd hd (Nat.gcd_dvd_right _ _)) g0
    obtain ⟨h1, h2, h3⟩ := ih (B * (r.den / Nat.gcd B r.den)) (Nat.mul_pos hB q0)
    refine ⟨h1, Nat.dvd_trans (Nat.dvd_mul_right _ _) h2, fun x hx => ?_⟩
    rcases List.mem_cons.mp hx with rfl | hx
    · refine Nat.dvd_trans ?_ h2
      obtain ⟨u, hu⟩ := Nat.gcd_dvd_left B x.den
      obtain ⟨v, hv⟩ := Nat.gcd_dvd_right B x.den
      have e : x.den / Nat.gcd B x.den = v := by
        conv => lhs; lhs; rw [hv]
        exact Nat.mul_div_cancel_left _ g0
      rw [e]
      refine ⟨u, ?_⟩
      conv => lhs; lhs; rw [hu]
      conv => rhs; lhs; rw [hv]
      rw [Nat.mul_assoc, Nat.mul_assoc, Nat.mul_comm u v]
    · exact h3 x hx
theorem lcmL_pos (rs : List Rat) : 0 < lcmL rs := (lcmF rs 1 Nat.one_pos).1
theorem lcmL_dvd {rs : List Rat} {r : Rat} (h : r ∈ rs) : r.den ∣ lcmL rs := (lcmF rs 1 Nat.one_pos).2.2 r h
theorem lcmL_lt {n : Nat} : ∀ (rs : List Rat) (i : Nat), (∀ r ∈ rs, sz r n) → i ≤ rs.length → lcmL (rs.take i) < 2 ^ (i * n + 1)
  | rs, 0, _, _ => by
    rw [Nat.zero_mul, List.take_zero]
    show 1 < 2 ^ (0 + 1)
    decide
  | rs, i + 1, h, hi => by
    have hr : rs[i]? = some rs[i] := List.getElem?_eq_getElem (by omega)
    rw [lcmL_take hr]
    have h1 := lcmL_lt rs i h (by omega)
    have h2 : rs[i].den < 2 ^ n := (h _ (List.getElem_mem _)).2
    have h3 : rs[i].den / Nat.gcd (lcmL (rs.take i)) rs[i].den ≤ rs[i].den := Nat.div_le_self _ _
    have e : (i + 1) * n + 1 = (i * n + 1) + n := by rw [Nat.add_mul]; omega
    rw [e, Nat.pow_add]
    exact Nat.mul_lt_mul'' h1 (Nat.lt_of_le_of_lt h3 h2)
theorem gcdL_lt {cs : List Int} {c : Int} {m : Nat} (hc : c ∈ cs) (h0 : c ≠ 0) (h : c.natAbs < 2 ^ m) : gcdL cs < 2 ^ m := by
  have h1 := Int.natAbs_dvd_natAbs.mpr (gcdL_dvd hc)
  have h2 := Nat.le_of_dvd (by omega) h1
  rw [Int.natAbs_natCast] at h2
  omega
def spWholeL (K : PySem.W.Frag) : Sp := fun vs H Q _ => ∃ (x : V) (rs : List Rat) (n : Nat), vs = [x] ∧ SeqFrs K H x rs ∧ (∀ r ∈ rs, sz r n) ∧ rs.length * n + n + n + 10 ≤ 8900 ∧ rs.length ≤ 900 ∧ (∃ r ∈ rs, r ≠ 0) ∧
  ∀ y H', Ex H H' → IsInts K H' y (plainL (wholeW rs)) → Q y H'
theorem scWholeL : FnScope ["parts_here", "bottom", "top", "below"] ["parts_here"] (defScope (top 41)) := ⟨rfl, rfl, rfl, by decide +kernel, rfl, by decide +kernel, by decide +kernel⟩
theorem gtup2 {i j n : Nat} {x : V} {σ : L2.St} {H : Hp} {S S' : L2.St → Hp → Prop} (h : ∀ σ2 H2, S σ2 H2 → S' σ2 H2) (q : gTup K n (gCons (gName i) (gCons (gName j) gNil)) x σ H S) :
    gTup K n (gCons (gName i) (gCons (gName j) gNil)) x σ H S' := by
  obtain ⟨a, xs, e, h1, h2, u, us, e2, u', us', e3, e4, q⟩ := q
  exact ⟨a, xs, e, h1, h2, u, us, e2, u', us', e3, e4, h _ _ q⟩
theorem wholeW_ok {rs : List Rat} {n : Nat} (hz : ∀ r ∈ rs, sz r n) (hn : rs.length * n + n + n + 10 ≤ 8900) (h0 : ∃ r ∈ rs, r ≠ 0) : 0 < gcdL (wholeW rs) ∧ gcdL (wholeW rs) < 2 ^ 8990 := by
  obtain ⟨r, hr, hr0⟩ := h0
  have hL := lcmL_lt rs rs.length hz (Nat.le_refl _)
  rw [List.take_length] at hL
  have hB := lcmL_pos rs
  have q0 : (0 : Int) < ((lcmL rs : Nat) : Int) / ((r.den : Nat) : Int) := by
    have := Nat.div_pos (Nat.le_of_dvd hB (lcmL_dvd hr)) r.den_pos
    have e : ((lcmL rs : Nat) : Int) / ((r.den : Nat) : Int) = ((lcmL rs / r.den : Nat) : Int) := by simp
    omega
  have hc : r.num * (((lcmL rs : Nat) : Int) / ((r.den : Nat) : Int)) ∈ wholeW rs := List.mem_map.mpr ⟨r, hr, rfl⟩
  have hne : r.num * (((lcmL rs : Nat) : Int) / ((r.den : Nat) : Int)) ≠ 0 := Int.mul_ne_zero (fun z => hr0 (Rat.num_eq_zero.mp z)) (by omega)
  refine ⟨gcdL_pos ⟨_, hc, hne⟩, gcdL_lt hc hne ?_⟩
  refine lt2_mono (wide_lt (hz r hr).1 (b := rs.length * n + 1) ?_) (by omega)
  have := Int.natAbs_ediv_le_natAbs ((lcmL rs : Nat) : Int) ((r.den : Nat) : Int)
  rw [Int.natAbs_natCast] at this
  omega
theorem has_whole_l (h_law_shared : Has P w K mg base "_law_shared" 1 ["one", "two"] spShared) (h_law_plain : Has P w K mg base "_law_plain" 2 ["some"] (spPlain K)) (D : Df K mg "_law_whole" (top 41) ["parts_here"]) : Has P w K mg base "_law_whole" 3 ["parts_here"] (spWholeL K) := by
  have sc := scWholeL
  refine .of D fun f fd F => F.ok sc (fun vs H Q E h => ?_) (fun cdv A outer s H vs Q E hr h => ?_)
  · obtain ⟨x, rs, n, rfl, _⟩ := h
    rfl
  · obtain ⟨_, rs, n, rfl, ⟨p, xs, rfl, hS, hF⟩, hz, hn, hlen, h0, k⟩ := h
    obtain ⟨w0, w1⟩ := wholeW_ok hz hn h0
    obtain ⟨Pv, hP⟩ : ∃ P : Nat → L2.St → Hp → Prop, P = fun j σ' G => G = H ∧ ∃ (s2 s3 : Option V), σ' = [some (.ref p), some (.int ((lcmL (rs.take j) : Nat) : Int)), s2, s3] := ⟨_, rfl⟩
    have step : ∀ (i : Nat) (r : Rat), rs[i]? = some r → lcmL (rs.take i) < 2 ^ (i * n + 1) ∧ sz r n ∧ (i + 1) * n + n + n + 10 ≤ 8900 := by
      intro i r hr
      have hi := (List.getElem?_eq_some_iff.mp hr).1
      refine ⟨lcmL_lt rs i hz (by omega), hz r (List.mem_of_getElem? hr), ?_⟩
      have := Nat.mul_le_mul_right n (show i + 1 ≤ rs.length by omega)
      omega
    rcases hS with hS | hS
    · refine ⟨_, (pss_cons (ps_set (i := 1) sc.nd rfl (by first | exact Or.inl rfl | exact Or.inr rfl) pe_int)
      (pss_cons (ps_for PassesOwn.never rfl (pi_tup (pv 0)) (pg_tup rfl (pgs_cons (pg_name (i := 2) sc.nd rfl (by first | exact Or.inl rfl | exact Or.inr rfl)) (pgs_cons (pg_name (i := 3) sc.nd rfl (by first | exact Or.inl rfl | exact Or.inr rfl)) pgs_nil)))
      (pss_one (ps_set (i := 1) sc.nd rfl (by first | exact Or.inl rfl | exact Or.inr rfl) (pe_op op_mulS (pv 1) (pe_op op_fdivW (pv 3) (pe_has h_law_shared (hr.mono (by decide)) (pa_cons (pv 1) (pa_cons (pv 3) pa_nil))))))))
      (pss_one (ps_ret (pe_has h_law_plain (hr.mono (by decide)) (pa_cons (pe_lc (own := [("top", 2), ("below", 3)]) (g := gTup K 2 (gCons (gName 2) (gCons (gName 3) gNil))) (tt := tYes) rfl sc.nd (pi_tup (pv 0)) (blkOk_by (N := (["parts_here", "bottom", "top", "below"] : List Str)) (sc := defScope (top 41)) (by decide +kernel)) (fun _ _ _ _ _ => (pg_tup rfl (pgs_cons (pg_name (i := 2) sc.nd rfl (by first | exact Or.inl rfl | exact Or.inr rfl)) (pgs_cons (pg_name (i := 3) sc.nd rfl (by first | exact Or.inl rfl | exact Or.inr rfl)) pgs_nil)))) (fun _ _ _ _ _ => pts_nil) (fun _ _ _ _ _ => (PE.mon (pe_op op_mulS (pv 2) (pe_op op_fdivW (pv 1) (pv 3)))))) pa_nil)))))), ?_⟩
      walk_at "rd"
      refine ⟨⟨_, hS⟩, loopT (xs := xs) Pv (by rw [hP]; exact ⟨rfl, _, _, rfl⟩) (fun j σ' G _ h => by rw [hP] at h; rw [h.1]; exact hS) ?_ ?_⟩
      · intro j x σ' G hx h
        rw [hP] at h
        obtain ⟨rfl, s2, s3, rfl⟩ := h
        obtain ⟨r, hr1, a, rfl, ha⟩ := hF.2 j x hx
        obtain ⟨z1, z2, z3⟩ := step j r hr1
        rw [Nat.add_mul] at z3
        walk_at "rd"
        refine ⟨_, ha, rfl, ?_⟩
        unfold fr
        walk_at "rd"
        refine ⟨_, _, rfl, ?_⟩
        walk_at "rd"
        have eg : Int.gcd ((lcmL (rs.take j) : Nat) : Int) ((r.den : Nat) : Int) = Nat.gcd (lcmL (rs.take j)) r.den := rfl
        have g0 : 0 < Nat.gcd (lcmL (rs.take j)) r.den := Nat.gcd_pos_of_pos_right _ r.den_pos
        have g1 : Nat.gcd (lcmL (rs.take j)) r.den ≤ r.den := Nat.le_of_dvd r.den_pos (Nat.gcd_dvd_right _ _)
        have g2 : Nat.gcd (lcmL (rs.take j)) r.den < 2 ^ 8990 := Nat.lt_of_le_of_lt g1 (Nat.lt_of_lt_of_le z2.2 (Nat.pow_le_pow_right (by decide) (by omega)))
        rw [eg]
        have d1 := Int.natAbs_ediv_le_natAbs ((r.den : Nat) : Int) ((Nat.gcd (lcmL (rs.take j)) r.den : Nat) : Int)
        rw [Int.natAbs_natCast] at d1
        refine ⟨⟨by omega, by rw [Int.natAbs_natCast]; exact log_lt g2⟩, cmul 9000 9000 ?_ ?_, ?_⟩
        · rw [Int.natAbs_natCast]
          exact Nat.lt_of_lt_of_le z1 (Nat.pow_le_pow_right (by decide) (by omega))
        · exact Nat.lt_of_le_of_lt d1 (Nat.lt_of_lt_of_le z2.2 (Nat.pow_le_pow_right (by decide) (by omega)))
        · rw [hP]
          dsimp only
          rw [lcmL_take hr1, Int.natCast_mul, Int.natCast_ediv]
          exact ⟨rfl, _, _, rfl⟩
      · intro σ' G h
        rw [hP] at h
        obtain ⟨rfl, s2, s3, rfl⟩ := h
        rw [hF.1, List.take_length]
        have hL := lcmL_lt rs rs.length hz (Nat.le_refl _)
        rw [List.take_length] at hL
        walk_at "rd"
        refine ⟨⟨_, hS⟩, fun Dd hD => lcT (fun i y _ => ∃ r, rs[i]? = some r ∧ y = .int (r.num * (((lcmL rs : Nat) : Int) / ((r.den : Nat) : Int)))) (fun _ _ _ _ _ h => h) hD hS (by rw [hF.1]; omega) ?_ (fun i x H2 S S' _ h q => gtup2 h q) ?_⟩
        · intro i x H2 hx e
          obtain ⟨r, hr1, a, rfl, ha⟩ := hF.2 i x hx
          have zr := hz r (List.mem_of_getElem? hr1)
          refine ⟨a, fr r, rfl, sqT_kp ha e.kp, rfl, ?_⟩
          unfold fr
          walk_at "rd"
          obtain ⟨R0, hR⟩ : ∃ R : VK, R = fun v H' => v = .int (r.num * (((lcmL rs : Nat) : Int) / ((r.den : Nat) : Int))) ∧ H' = H2 := ⟨_, rfl⟩
          refine ⟨R0, ?_, fun v H' h => by rw [hR] at h; obtain ⟨rfl, rfl⟩ := h; exact ⟨Ex.refl _, r, hr1, rfl⟩⟩
          walk_at "rd"
          have d1 := Int.natAbs_ediv_le_natAbs ((lcmL rs : Nat) : Int) ((r.den : Nat) : Int)
          rw [Int.natAbs_natCast] at d1
          refine ⟨⟨den_pos r, by rw [Int.natAbs_natCast]; exact log_lt (Nat.lt_of_lt_of_le zr.2 (Nat.pow_le_pow_right (by decide) (by omega)))⟩, cmul 9000 9000 (lt2_mono zr.1 (by omega)) (Nat.lt_of_le_of_lt d1 (Nat.lt_of_lt_of_le hL (Nat.pow_le_pow_right (by decide) (by omega)))), ?_⟩
          rw [hR]
          exact ⟨rfl, rfl⟩
        · intro H2 ys e hy hl hr2
          rw [hF.1] at hl
          have ey : ys = (wholeW rs).map V.int := by
            apply List.ext_getElem?
            intro i
            by_cases hi : i < ys.length
            · obtain ⟨r, h1, h2⟩ := hr2 i _ (List.getElem?_eq_getElem hi)
              rw [List.getElem?_eq_getElem hi, h2]
              simp [wholeW, h1]
            · rw [List.getElem?_eq_none (by omega), List.getElem?_eq_none (by simp [wholeW]; omega)]
          rw [ey] at hy
          exact ⟨Dd, wholeW rs, rfl, .inr (.of hy), by simp [wholeW]; omega, w0, w1, fun y H3 e3 h3 => k y H3 (e.trans e3) h3⟩
    · refine ⟨_, (pss_cons (ps_set (i := 1) sc.nd rfl (by first | exact Or.inl rfl | exact Or.inr rfl) pe_int)
      (pss_cons (ps_for PassesOwn.never rfl (pi_list (pv 0)) (pg_tup rfl (pgs_cons (pg_name (i := 2) sc.nd rfl (by first | exact Or.inl rfl | exact Or.inr rfl)) (pgs_cons (pg_name (i := 3) sc.nd rfl (by first | exact Or.inl rfl | exact Or.inr rfl)) pgs_nil)))
      (pss_one (ps_set (i := 1) sc.nd rfl (by first | exact Or.inl rfl | exact Or.inr rfl) (pe_op op_mulS (pv 1) (pe_op op_fdivW (pv 3) (pe_has h_law_shared (hr.mono (by decide)) (pa_cons (pv 1) (pa_cons (pv 3) pa_nil))))))))
      (pss_one (ps_ret (pe_has h_law_plain (hr.mono (by decide)) (pa_cons (pe_lc (own := [("top", 2), ("below", 3)]) (g := gTup K 2 (gCons (gName 2) (gCons (gName 3) gNil))) (tt := tYes) rfl sc.nd (pi_list (pv 0)) (blkOk_by (N := (["parts_here", "bottom", "top", "below"] : List Str)) (sc := defScope (top 41)) (by decide +kernel)) (fun _ _ _ _ _ => (pg_tup rfl (pgs_cons (pg_name (i := 2) sc.nd rfl (by first | exact Or.inl rfl | exact Or.inr rfl)) (pgs_cons (pg_name (i := 3) sc.nd rfl (by first | exact Or.inl rfl | exact Or.inr rfl)) pgs_nil)))) (fun _ _ _ _ _ => pts_nil) (fun _ _ _ _ _ => (PE.mon (pe_op op_mulS (pv 2) (pe_op op_fdivW (pv 1) (pv 3)))))) pa_nil)))))), ?_⟩
      walk_at "rd"
      refine ⟨⟨_, hS⟩, loopL (xs := xs) Pv (by rw [hP]; exact ⟨rfl, _, _, rfl⟩) (fun j σ' G _ h => by rw [hP] at h; rw [h.1]; exact hS) ?_ ?_⟩
      · intro j x σ' G hx h
        rw [hP] at h
        obtain ⟨rfl, s2, s3, rfl⟩ := h
        obtain ⟨r, hr1, a, rfl, ha⟩ := hF.2 j x hx
        obtain ⟨z1, z2, z3⟩ := step j r hr1
        rw [Nat.add_mul] at z3
        walk_at "rd"
        refine ⟨_, ha, rfl, ?_⟩
        unfold fr
        walk_at "rd"
        refine ⟨_, _, rfl, ?_⟩
        walk_at "rd"
        have eg : Int.gcd ((lcmL (rs.take j) : Nat) : Int) ((r.den : Nat) : Int) = Nat.gcd (lcmL (rs.take j)) r.den := rfl
        have g0 : 0 < Nat.gcd (lcmL (rs.take j)) r.den := Nat.gcd_pos_of_pos_right _ r.den_pos
        have g1 : Nat.gcd (lcmL (rs.take j)) r.den ≤ r.den := Nat.le_of_dvd r.den_pos (Nat.gcd_dvd_right _ _)
        have g2 : Nat.gcd (lcmL (rs.take j)) r.den < 2 ^ 8990 := Nat.lt_of_le_of_lt g1 (Nat.lt_of_lt_of_le z2.2 (Nat.pow_le_pow_right (by decide) (by omega)))
        rw [eg]
        have d1 := Int.natAbs_ediv_le_natAbs ((r.den : Nat) : Int) ((Nat.gcd (lcmL (rs.take j)) r.den : Nat) : Int)
        rw [Int.natAbs_natCast] at d1
        refine ⟨⟨by omega, by rw [Int.natAbs_natCast]; exact log_lt g2⟩, cmul 9000 9000 ?_ ?_, ?_⟩
        · rw [Int.natAbs_natCast]
          exact Nat.lt_of_lt_of_le z1 (Nat.pow_le_pow_right (by decide) (by omega))
        · exact Nat.lt_of_le_of_lt d1 (Nat.lt_of_lt_of_le z2.2 (Nat.pow_le_pow_right (by decide) (by omega)))
        · rw [hP]
          dsimp only
          rw [lcmL_take hr1, Int.natCast_mul, Int.natCast_ediv]
          exact ⟨rfl, _, _, rfl⟩
      · intro σ' G h
        rw [hP] at h
        obtain ⟨rfl, s2, s3, rfl⟩ := h
        rw [hF.1, List.take_length]
        have hL := lcmL_lt rs rs.length hz (Nat.le_refl _)
        rw [List.take_length] at hL
        walk_at "rd"
        refine ⟨⟨_, hS⟩, fun Dd hD => lcL (J0 := True) (fun i y _ => ∃ r, rs[i]? = some r ∧ y = .int (r.num * (((lcmL rs : Nat) : Int) / ((r.den : Nat) : Int)))) (fun _ _ _ _ _ h => h) hD hS (by rw [hF.1]; omega) ?_ (fun i x H2 S S' _ h q => gtup2 h q) ?_⟩
        · intro i x H2 hx e
          obtain ⟨r, hr1, a, rfl, ha⟩ := hF.2 i x hx
          have zr := hz r (List.mem_of_getElem? hr1)
          refine ⟨a, fr r, rfl, sqT_kp ha e.kp, rfl, ?_⟩
          unfold fr
          walk_at "rd"
          obtain ⟨R0, hR⟩ : ∃ R : VK, R = fun v H' => v = .int (r.num * (((lcmL rs : Nat) : Int) / ((r.den : Nat) : Int))) ∧ H' = H2 := ⟨_, rfl⟩
          refine ⟨R0, ?_, fun v H' h => by rw [hR] at h; obtain ⟨rfl, rfl⟩ := h; exact ⟨Ex.refl _, r, hr1, rfl⟩⟩
          walk_at "rd"
          have d1 := Int.natAbs_ediv_le_natAbs ((lcmL rs : Nat) : Int) ((r.den : Nat) : Int)
          rw [Int.natAbs_natCast] at d1
          refine ⟨⟨den_pos r, by rw [Int.natAbs_natCast]; exact log_lt (Nat.lt_of_lt_of_le zr.2 (Nat.pow_le_pow_right (by decide) (by omega)))⟩, cmul 9000 9000 (lt2_mono zr.1 (by omega)) (Nat.lt_of_le_of_lt d1 (Nat.lt_of_lt_of_le hL (Nat.pow_le_pow_right (by decide) (by omega)))), ?_⟩
          rw [hR]
          exact ⟨rfl, rfl⟩
        · intro H2 ys e hy hl hr2
          rw [hF.1] at hl
          have ey : ys = (wholeW rs).map V.int := by
            apply List.ext_getElem?
            intro i
            by_cases hi : i < ys.length
            · obtain ⟨r, h1, h2⟩ := hr2 i _ (List.getElem?_eq_getElem hi)
              rw [List.getElem?_eq_getElem hi, h2]
              simp [wholeW, h1]
            · rw [List.getElem?_eq_none (by omega), List.getElem?_eq_none (by simp [wholeW]; omega)]
          rw [ey] at hy
          exact ⟨Dd, wholeW rs, rfl, .inr (.of hy), by simp [wholeW]; omega, w0, w1, fun y H3 e3 h3 => k y H3 (e.trans e3) h3⟩
end

/-! rates of plain counts -/
theorem sum_scale (k : Int) : ∀ cs : List Int, (cs.map (k * ·)).sum = k * cs.sum
  | [] => by simp
  | c :: cs => by
    rw [List.map_cons, List.sum_cons, List.sum_cons, sum_scale k cs, Int.mul_add]
theorem sum_nonneg : ∀ {cs : List Int}, (∀ c ∈ cs, 0 ≤ c) → 0 ≤ cs.sum
  | [], _ => by simp
  | c :: cs, h => by
    have h1 := h c List.mem_cons_self
    have h2 := sum_nonneg fun x hx => h x (List.mem_cons_of_mem c hx)
    rw [List.sum_cons]
    omega
theorem sum_le {b : Int} : ∀ {cs : List Int}, (∀ c ∈ cs, c ≤ b) → cs.sum ≤ (cs.length : Int) * b
  | [], _ => by simp
  | c :: cs, h => by
    have h1 := h c List.mem_cons_self
    have h2 := sum_le fun x hx => h x (List.mem_cons_of_mem c hx)
    rw [List.sum_cons, List.length_cons, Int.natCast_add, Int.add_mul]
    omega
theorem sum_pos_ex : ∀ {cs : List Int}, (∀ c ∈ cs, 0 ≤ c) → 0 < cs.sum → ∃ c ∈ cs, 0 < c
  | [], _, h => by simp at h
  | c :: cs, h, hs => by
    by_cases hc : 0 < c
    · exact ⟨c, List.mem_cons_self, hc⟩
    · have h1 := h c List.mem_cons_self
      rw [List.sum_cons] at hs
      obtain ⟨x, hx, h2⟩ := sum_pos_ex (fun x hx => h x (List.mem_cons_of_mem c hx)) (by omega)
      exact ⟨x, List.mem_cons_of_mem c hx, h2⟩
theorem mem_le_sum : ∀ {cs : List Int} {c : Int}, (∀ x ∈ cs, 0 ≤ x) → c ∈ cs → c ≤ cs.sum
  | x :: cs, c, h, hc => by
    rw [List.sum_cons]
    have h0 := h x List.mem_cons_self
    have h1 := sum_nonneg fun y hy => h y (List.mem_cons_of_mem x hy)
    rcases List.mem_cons.mp hc with rfl | hc
    · omega
    · have := mem_le_sum (fun y hy => h y (List.mem_cons_of_mem x hy)) hc
      omega
/-- top times the whole is the count times the bottom -/
theorem frac_mul {p S : Int} (hS : 0 < S) : ((p : Rat) / (S : Rat)).num * S = p * (((((p : Rat) / (S : Rat)).den : Nat)) : Int) := by
  rw [div_num hS, div_den hS]
  have d1 : ((Int.gcd S p : Nat) : Int) ∣ p := Int.gcd_dvd_right ..
  have d2 : ((Int.gcd S p : Nat) : Int) ∣ S := Int.gcd_dvd_left ..
  obtain ⟨u, hu⟩ := d1
  obtain ⟨v, hv⟩ := d2
  have g0 : ((Int.gcd S p : Nat) : Int) ≠ 0 := by
    intro z
    rw [z, Int.zero_mul] at hv
    omega
  generalize ((Int.gcd S p : Nat) : Int) = g at *
  subst hu hv
  rw [Int.mul_ediv_cancel_left _ g0, Int.mul_ediv_cancel_left _ g0]
  grind
theorem frac_nonneg {p S : Int} (hp : 0 ≤ p) (hS : 0 < S) : 0 ≤ ((p : Rat) / (S : Rat)).num := by
  rw [div_num hS]
  exact Int.ediv_nonneg hp (by omega)
theorem frac_le_one {p S : Int} (hp : p ≤ S) (hS : 0 < S) : ((p : Rat) / (S : Rat)).num ≤ (((((p : Rat) / (S : Rat)).den : Nat)) : Int) := by
  have e := frac_mul (p := p) hS
  have h2 := den_pos ((p : Rat) / (S : Rat))
  generalize (((((p : Rat) / (S : Rat)).den : Nat)) : Int) = d at *
  generalize ((p : Rat) / (S : Rat)).num = t at *
  have h3 : p * d ≤ S * d := Int.mul_le_mul_of_nonneg_right hp (by omega)
  rw [← e, Int.mul_comm S d] at h3
  exact Int.le_of_mul_le_mul_right h3 hS
theorem sumR_div (S : Rat) : ∀ (ps : List Int) (acc : Rat), (ps.map fun p => ((p : Int) : Rat) / S).foldl (· + ·) acc = acc + ((ps.sum : Int) : Rat) / S
  | [], acc => by
    simp only [List.map_nil, List.foldl_nil, List.sum_nil]
    have : (((0 : Int)) : Rat) = 0 := rfl
    rw [this]
    grind
  | p :: ps, acc => by
    rw [List.map_cons, List.foldl_cons, sumR_div S ps, List.sum_cons, Rat.intCast_add]
    grind
theorem cast_ne {S : Int} (h : S ≠ 0) : ((S : Int) : Rat) ≠ 0 := fun z => h (by
  have := congrArg Rat.num z
  simpa using this)
theorem sumR_rates {ps : List Int} (h : 0 < ps.sum) : sumR (ratesL ps) = 1 := by
  unfold sumR ratesL
  rw [sumR_div]
  have := cast_ne (S := ps.sum) (by omega)
  grind
theorem rates_sz {ps : List Int} {n : Nat} (h : 0 < ps.sum) (hs : ps.sum.natAbs < 2 ^ n) (h0 : ∀ p ∈ ps, 0 ≤ p) : ∀ r ∈ ratesL ps, sz r n := by
  intro r hr
  obtain ⟨p, hp, rfl⟩ := List.mem_map.mp hr
  refine sz_div h ?_ hs
  have h1 := mem_le_sum h0 hp
  have h2 := h0 p hp
  omega

/-! rates of plain counts -/
theorem wholeW_rates {ps : List Int} (h : 0 < ps.sum) : plainL (wholeW (ratesL ps)) = plainL ps := by
  have hB := lcmL_pos (ratesL ps)
  refine plainL_prop (a := ps.sum) (b := ((lcmL (ratesL ps) : Nat) : Int)) h (by omega) ?_
  unfold wholeW
  rw [List.map_map]
  conv => lhs; arg 2; unfold ratesL
  rw [List.map_map]
  apply List.map_congr_left
  intro p hp
  show ps.sum * (((p : Rat) / ((ps.sum : Int) : Rat)).num * _) = _
  have hm : ((p : Int) : Rat) / ((ps.sum : Int) : Rat) ∈ ratesL ps := List.mem_map.mpr ⟨p, hp, rfl⟩
  have e := frac_mul (p := p) h
  have hd := lcmL_dvd hm
  have hp := den_pos (((p : Int) : Rat) / ((ps.sum : Int) : Rat))
  generalize ((lcmL (ratesL ps) : Nat)) = L at *
  generalize hq : (((p : Int) : Rat) / ((ps.sum : Int) : Rat)).den = d at *
  generalize (((p : Int) : Rat) / ((ps.sum : Int) : Rat)).num = t at *
  obtain ⟨m, rfl⟩ := hd
  rw [Int.natCast_mul, Int.mul_ediv_cancel_left _ (by omega)]
  grind

section
variable {P : Program} {w : World} {K : PySem.W.Frag} {mg : Str → Option Value} {base : Heap}
structure RowFacts (cs : List Int) : Prop where
  ok : RowOk cs
  ok_scale : ∀ {k : Int}, 0 < k → k ≤ 1000000 → RowOk (cs.map (k * ·))
  len : (plainL cs).length ≤ 1000
  spos : 0 < (plainL cs).sum
  slt : (plainL cs).sum.natAbs < 2 ^ 110
  ok_plain : RowOk (plainL cs)
  nn : ∀ p ∈ plainL cs, 0 ≤ p
  gd : Gd (intsD (plainL cs)) 1 (6 * 1932 + 3)
  one : gcdL (plainL cs) = 1
  twice : plainL (plainL cs) = plainL cs
theorem row_facts {cs : List Int} (h : CountsOk cs) : RowFacts cs := by
  obtain ⟨l0, l1, hb, hs⟩ := h
  have nn : ∀ c ∈ cs, 0 ≤ c := fun c hc => (hb c hc).1
  obtain ⟨c, hc, c0⟩ := sum_pos_ex nn hs
  have cb := (hb c hc).2
  have b30 : (10 : Int) ^ 30 < 2 ^ 100 := by decide
  have g0 : 0 < gcdL cs := gcdL_pos ⟨c, hc, by omega⟩
  have gI : (0 : Int) < ((gcdL cs : Nat) : Int) := by omega
  have glt : gcdL cs < 2 ^ 100 := gcdL_lt hc (by omega) (by omega)
  have pn : ∀ p ∈ plainL cs, 0 ≤ p := by
    intro p hp
    obtain ⟨x, hx, rfl⟩ := List.mem_map.mp hp
    exact Int.ediv_nonneg (nn x hx) (by omega)
  have e : ((gcdL cs : Nat) : Int) * (plainL cs).sum = cs.sum := by
    rw [← sum_scale, plainL_mul]
  have sp : 0 < (plainL cs).sum := by
    rcases Int.lt_or_le 0 (plainL cs).sum with h | h
    · exact h
    · have := Int.mul_le_mul_of_nonneg_left h (Int.le_of_lt gI)
      rw [e, Int.mul_zero] at this
      omega
  have sl : (plainL cs).sum ≤ cs.sum := by
    rw [← e]
    have := Int.mul_le_mul_of_nonneg_right (show (1 : Int) ≤ ((gcdL cs : Nat) : Int) by omega) (Int.le_of_lt sp)
    omega
  have sb := sum_le (b := 10 ^ 30) (cs := cs) fun c hc => (hb c hc).2
  have sb2 : cs.sum ≤ 6 * 10 ^ 30 := by
    have := Int.mul_le_mul_of_nonneg_right (show (cs.length : Int) ≤ 6 by omega) (show (0 : Int) ≤ 10 ^ 30 by decide)
    omega
  have b110 : (6 : Int) * 10 ^ 30 < 2 ^ 110 := by decide
  have one := plainL_plain cs g0
  have lt : (2 : Nat) ^ 100 ≤ 2 ^ 8990 := Nat.pow_le_pow_right (by decide) (by decide)
  refine ⟨⟨l0, l1, nn, g0, Nat.lt_of_lt_of_le glt lt⟩, fun {k} k0 k1 => ⟨by simpa using l0, by simpa using l1, ?_, ?_, ?_⟩, by rw [plainL_len]; omega, sp, ?_, ⟨by rw [plainL_len]; omega, by rw [plainL_len]; omega, pn, by omega, by rw [one]; exact Nat.lt_of_lt_of_le (by decide) lt⟩, pn, ?_, one, plainL_twice cs g0⟩
  · intro x hx
    obtain ⟨y, hy, rfl⟩ := List.mem_map.mp hx
    exact Int.mul_nonneg (by omega) (nn y hy)
  · have := gcdL_scale cs k0
    have := Int.mul_pos k0 gI
    omega
  · refine gcdL_lt (c := k * c) (List.mem_map.mpr ⟨c, hc, rfl⟩) (by have := Int.mul_pos k0 c0; omega) ?_
    exact lt2_mono (wide_lt (a := 40) (b := 100) (by omega) (by omega)) (by decide)
  · omega
  · refine gd_ints (by rw [plainL_len]; exact l1) fun p hp => ?_
    have h1 := mem_le_sum pn hp
    have h2 := pn p hp
    exact lt2_mono (n := 110) (by omega) (by decide)
theorem rates_ne {ps : List Int} (h0 : ∀ p ∈ ps, 0 ≤ p) (h : 0 < ps.sum) : ∃ r ∈ ratesL ps, r ≠ 0 := by
  obtain ⟨p, hp, p0⟩ := sum_pos_ex h0 h
  refine ⟨_, List.mem_map.mpr ⟨p, hp, rfl⟩, fun z => ?_⟩
  have e := frac_mul (p := p) h
  rw [z] at e
  have e2 : (0 : Rat).num * ps.sum = p * (((0 : Rat).den : Nat) : Int) := e
  rw [Rat.zero_num, Rat.zero_den] at e2
  omega
theorem shaped_listI (cs : List Int) : SeqAt.shaped (.list (cs.map PyData.int)) = true := by
  have h := shaped_ints cs
  unfold SeqAt.shaped intsD at *
  simpa [PyData.canLay0, PyData.depth] using h
theorem IsInts.ref {H : Hp} {x : V} {cs : List Int} (h : IsInts K H x cs) : ∃ a, x = .ref a := by
  obtain ⟨p, rfl, _⟩ := h
  exact ⟨p, rfl⟩
end

local macro_rules | `(tactic| walk_at "rd") => `(tactic| try simp only [r_seq, r_asg, r_name, r_ifS, r_next, r_ret, r_retN, r_drop, r_test, r_B, r_if, r_cons, r_nil, r_cb, r_tF, r_part, r_nopart, r_sl, r_par, r_chain, r_or, r_and, r_not, r_orV, r_andV, r_notV, r_op, r_un, r_var, r_c, r_yes, r_I0, r_I, r_U, r_eqI, r_neI, r_eqS, r_neS, r_lst, r_tup, r_for, r_lc, r_list, r_tupI, r_rng1, r_rng2, r_enumT, r_bm, r_fld, r_subT, r_gtup, r_gcons, r_gnil, r_K0, r_K, r_Kb, r_Kbb, wipe, r_never, not_true_eq_false, not_false_eq_true, Int.zero_add, r_counts, r_draws, r_rates, r_row, r_len, r_sfld, r_zipB, r_revT, r_tW, r_seqI,
  L2.start, List.map_cons, List.map_nil, List.length_cons, List.length_nil, Nat.reduceAdd, Nat.reduceSub, List.reduceReplicate, List.cons_append, List.nil_append, List.set_cons_zero, List.set_cons_succ, List.getElem?_cons_zero, List.getElem?_cons_succ, Option.some.injEq, exists_eq_left', exists_eq_left, exists_eq_right, exists_eq_right', V.int.injEq, V.ref.injEq, V.bl.injEq, V.str.injEq, List.cons.injEq, and_true, true_and, and_false, false_and, or_false, false_or, exists_false, exists_const, and_assoc, reduceCtorEq, if_true, if_false, Bool.false_eq_true, Bool.not_true, Bool.not_false, Bool.not_eq_true', decide_eq_true_eq, decide_eq_false_iff_not, exists_and_left, exists_and_right, exists_eq_or_imp])
section
variable {P : Program} {w : World} {K : PySem.W.Frag} {mg : Str → Option Value} {base : Heap}
/-! ### check_number, check_row -/
def spNum : Sp := fun vs H Q _ => ∃ g lo hi : Int, vs = [.int g, .int lo, .int hi] ∧ lo ≤ g ∧ g ≤ hi ∧ Q .non H
theorem scNum : FnScope ["given", "least", "most"] ["given", "least", "most"] (defScope (top 18)) := ⟨rfl, rfl, rfl, by decide +kernel, rfl, by decide +kernel, by decide +kernel⟩
theorem has_num (his_whole : Has P w K mg base "is_whole" 1 ["value"] spWhole) (D : Df K mg "check_number" (top 18) ["given", "least", "most"]) : Has P w K mg base "check_number" 2 ["given", "least", "most"] spNum := by
  have sc := scNum
  refine .of D fun f fd F => F.ok sc (fun vs H Q E h => ?_) (fun cdv A outer s H vs Q E hr h => ?_)
  · obtain ⟨g, lo, hi, rfl, _⟩ := h
    rfl
  · obtain ⟨g, lo, hi, rfl, h1, h2, k⟩ := h
    refine ⟨_, (pss_one (ps_if (PW.pt (pw_or (pt_not (pt_val (pe_has his_whole (hr.mono (by decide)) (pa_cons (pv 0) pa_nil)))) (pw_or (pt_cmpR op_lt (pv 0) (pv 1) (nomark _)) (pw_or1 (pt_cmpR op_gt (pv 0) (pv 2) (nomark _)))))) (pss_one ps_never) pss_nil)), ?_⟩
    walk_at "rd"
    refine ⟨g, rfl, ?_⟩
    walk_at "rd"
    rw [if_neg (by omega), if_neg (by omega)]
    exact k
def spCheckRow (K : PySem.W.Frag) (C : Addr) : Sp := fun vs H Q _ => ∃ (x : V) (ps : List Int), vs = [x] ∧ IsRow K C H x ps ∧ Q .non H
theorem scCheckRow : FnScope ["row"] ["row"] (defScope (top 26)) := ⟨rfl, rfl, rfl, by decide +kernel, rfl, by decide +kernel, by decide +kernel⟩
theorem has_check_row {C : Addr} (B : Bi mg) (RC : RowC K mg C) (D : Df K mg "check_row" (top 26) ["row"]) : Has P w K mg base "check_row" 1 ["row"] (spCheckRow K C) := by
  have sc := scCheckRow
  refine .of D fun f fd F => F.ok sc (fun vs H Q E h => ?_) (fun cdv A outer s H vs Q E hr h => ?_)
  · obtain ⟨x, ps, rfl, _⟩ := h
    rfl
  · obtain ⟨x, ps, rfl, ⟨a, dx, q, rfl, hA, hS⟩, k⟩ := h
    refine ⟨_, (pss_one (ps_if (pt_not (pt_val (pe_callB (kIsi (K := K)) (by rfl) B.isinstance (by decide +kernel) (pa_cons (pv 0) (pa_cons (pe_glob (v := .ref C) rfl RC.mgC rfl) pa_nil))))) (pss_one ps_never) pss_nil)), ?_⟩
    walk_at "rd"
    refine ⟨_, _, _, _, true, rfl, .own C, RC.ty hA, by simp [PySem.W.kitOne], ?_⟩
    walk_at "rd"
    exact k
end

section
variable {P : Program} {w : World} {K : PySem.W.Frag} {mg : Str → Option Value} {base : Heap}
/-! ### all_yes, swapped -/
structure RowIn (ps : List Int) : Prop where
  l0 : 2 ≤ ps.length
  l1 : ps.length ≤ 6
  nn : ∀ p ∈ ps, 0 ≤ p
  s0 : 0 < ps.sum
  s1 : ps.sum.natAbs < 2 ^ 600
theorem getD_get {ps : List Int} {i : Nat} {c : Int} (h : ps[i]? = some c) : ps.getD i 0 = c := by
  rw [List.getD_eq_getElem?_getD, h]
  rfl
end

section
variable {P : Program} {w : World} {K : PySem.W.Frag} {mg : Str → Option Value} {base : Heap}
def spAllYes (K : PySem.W.Frag) (C : Addr) : Sp := fun vs H Q _ => ∃ (x : V) (ps : List Int) (j : Nat), vs = [x, .int (j : Int)] ∧ IsRow K C H x ps ∧ RowIn ps ∧ j < ps.length ∧ ∀ y H', Ex H H' → IsFr K H' y (ay ps j) → Q y H'
theorem scAllYes : FnScope ["row", "yes", "hits", "k", "count"] ["row", "yes"] (defScope (top 30)) := ⟨rfl, rfl, rfl, by decide +kernel, rfl, by decide +kernel, by decide +kernel⟩
theorem ok_all_yes {C : Addr} (B : Bi mg) (RT : RowT P w K mg base C) (c_comb : mg "comb" = some (.builtin "math.comb")) (hcheck_row : Has P w K mg base "check_row" 1 ["row"] (spCheckRow K C))
    (hcheck_number : Has P w K mg base "check_number" 2 ["given", "least", "most"] spNum) (hlowest : Has P w K mg base "lowest" 1 ["top", "bottom"] (spLowest K))
    {f : Addr} {fd : FuncData} (F : Fun K "all_yes" "all_yes" (top 30) f fd) : FnOk P w K mg base CX0 3 f fd ["row", "yes"] (spAllYes K C) := by
  have sc := scAllYes
  refine F.ok sc (fun vs H Q E h => ?_) (fun cdv A outer s H vs Q E hr h => ?_)
  · obtain ⟨x, ps, j, rfl, _⟩ := h
    rfl
  · obtain ⟨x, ps, j, rfl, hrow, hin, hj, k⟩ := h
    have l0 := hin.l0
    have l1 := hin.l1
    refine ⟨_, (pss_cons (ps_expr (pe_has hcheck_row (hr.mono (by decide)) (pa_cons (pv 0) pa_nil)))
      (pss_cons (ps_expr (pe_has hcheck_number (hr.mono (by decide)) (pa_cons (pv 1) (pa_cons pe_int (pa_cons (kDraws RT (hr.mono (by decide)) (pv 0)) pa_nil)))))
      (pss_cons (ps_setLc (i := 2) (own := [("k", 3), ("count", 4)]) (g := gTup K 2 (gCons (gName 3) (gCons (gName 4) gNil))) (tt := tYes) rfl sc.nd rfl rfl (sw_true rfl rfl rfl (by decide +kernel)) (pi_enumT (by rfl) B.enumerate (pa_cons (kCounts RT (hr.mono (by decide)) (pv 0)) pa_nil)) (blkOk_by (N := (["row", "yes", "hits", "k", "count"] : List Str)) (sc := defScope (top 30)) (by decide +kernel)) (fun _ _ _ _ _ => (pg_tup rfl (pgs_cons (pg_name (i := 3) sc.nd rfl (by first | exact Or.inl rfl | exact Or.inr rfl)) (pgs_cons (pg_name (i := 4) sc.nd rfl (by first | exact Or.inl rfl | exact Or.inr rfl)) pgs_nil)))) (fun _ _ _ _ _ => pts_nil) (fun _ _ _ _ _ => (PE.mon (pe_op op_mulS (pv 4) (pe_callBfun cr_comb (by rfl) c_comb (pa_cons (pv 3) (pa_cons (pv 1) pa_nil)))))))
      (pss_one (ps_ret (pe_has hlowest (hr.mono (by decide)) (pa_cons (pe_callB (kSum (K := K) rfl) (by rfl) B.sum (by decide +kernel) (pa_cons (pv 2) pa_nil)) (pa_cons (pe_op op_mulS (pe_callB (kSum (K := K) rfl) (by rfl) B.sum (by decide +kernel) (pa_cons (kCounts RT (hr.mono (by decide)) (pv 0)) pa_nil)) (pe_callBfun cr_comb (by rfl) c_comb (pa_cons (kDraws RT (hr.mono (by decide)) (pv 0)) (pa_cons (pv 1) pa_nil)))) pa_nil)))))))), ?_⟩
    walk_at "rd"
    refine ⟨x, ps, rfl, hrow, ?_⟩
    walk_at "rd"
    refine ⟨_, hrow, _, _, _, rfl, by omega, by omega, ?_⟩
    walk_at "rd"
    refine ⟨_, hrow, fun y ⟨p, ey, hS⟩ => ⟨p, ey, ⟨_, hS⟩, fun Dd hD => ?_⟩⟩
    refine lcE (fun i y _ => ∃ c, ps[i]? = some c ∧ y = .int (c * ((chs i j : Nat) : Int))) (fun _ _ _ _ _ h => h) hD hS (by rw [List.length_map]; omega) (gm_tup (gm_cons gm_name (gm_cons gm_name gm_nil))) ?_ ?_
    · intro i v T H2 hv e hT
      obtain ⟨c, hc, rfl⟩ := map_int_get hv
      have hi := (List.getElem?_eq_some_iff.mp hc).1
      walk_at "rd"
      refine ⟨_, .of hT, rfl, ?_⟩
      walk_at "rd"
      obtain ⟨R0, hR⟩ : ∃ R : VK, R = fun v H' => v = .int (c * ((chs i j : Nat) : Int)) ∧ H' = H2 := ⟨_, rfl⟩
      refine ⟨R0, ?_, fun v H' h => by rw [hR] at h; obtain ⟨rfl, rfl⟩ := h; exact ⟨Ex.refl _, c, hc, rfl⟩⟩
      walk_at "rd"
      refine ⟨_, _, rfl, comb_ok (by omega) (by omega), ?_⟩
      rw [comb_chs (by omega) (by omega)]
      have hb := chs_le (a := i) (b := j) (by omega) (by omega)
      walk_at "rd"
      refine ⟨cmulR, ?_⟩
      rw [hR]
      exact ⟨rfl, rfl⟩
    · intro H2 ys e hy hl hr2
      rw [List.length_map] at hl
      have ey : ys = (hitsL ps j).map V.int := by
        apply List.ext_getElem?
        intro i
        by_cases hi : i < ys.length
        · obtain ⟨c, h1, h2⟩ := hr2 i _ (List.getElem?_eq_getElem hi)
          rw [List.getElem?_eq_getElem hi, h2]
          simp [hitsL, h1]
        · rw [List.getElem?_eq_none (by omega), List.getElem?_eq_none (by simp [hitsL]; omega)]
      rw [ey] at hy
      have hrow2 := hrow.kp e.kp
      have hn : ((ps.length : Nat) : Int) - 1 = ((ps.length - 1 : Nat) : Int) := by omega
      have hb := chs_le (a := ps.length - 1) (b := j) (by omega) (by omega)
      have hp := chs_pos (a := ps.length - 1) (b := j) (by omega) (by omega)
      walk_at "rd"
      refine ⟨Dd, _, rfl, .inl (.of hy), ?_⟩
      walk_at "rd"
      refine ⟨_, hrow2, fun y2 ⟨p2, ey2, hS2⟩ => ?_⟩
      subst ey2
      refine ⟨p2, _, rfl, .inr hS2, ?_⟩
      walk_at "rd"
      refine ⟨_, hrow2, _, _, rfl, ?_, ?_⟩
      · rw [hn]
        exact comb_ok (by omega) (by omega)
      · rw [hn, comb_chs (by omega) (by omega)]
        walk_at "rd"
        refine ⟨cmulR, ?_⟩
        refine ⟨_, _, rfl, Int.mul_pos hin.s0 (by omega), ?_, fun y3 H3 e3 h3 => k _ _ (e.trans e3) h3⟩
        exact lt2_mono (wide_lt (a := 600) (b := 4) hin.s1 (by omega)) (by omega)
end

section
variable {P : Program} {w : World} {K : PySem.W.Frag} {mg : Str → Option Value} {base : Heap}
def wy (a : Int) : Nat → Int
  | 0 => 1
  | k + 1 => wy a k * (a - (k : Int)) / ((k : Int) + 1)
theorem wy_small {a k : Nat} (ha : a < 6) (hk : k < 6) : (wy (a : Int) k).natAbs < 1000 ∧ (k ≤ a → wy (a : Int) k = ((chs a k : Nat) : Int)) := by
  have h : ∀ a < 6, ∀ k < 6, (wy ((a : Nat) : Int) k).natAbs < 1000 ∧ (k ≤ a → wy ((a : Nat) : Int) k = ((chs a k : Nat) : Int)) := by decide +kernel
  exact h a ha k hk
theorem chs_over {a k : Nat} (ha : a < 6) (hk : k < 6) (h : a < k) : chs a k = 0 := by
  have g : ∀ a < 6, ∀ k < 6, a < k → chs a k = 0 := by decide +kernel
  exact g a ha k hk h
def spWays : Sp := fun vs H Q _ => ∃ a k : Nat, vs = [.int (a : Int), .int (k : Int)] ∧ a < 6 ∧ k < 6 ∧ Q (.int ((chs a k : Nat) : Int)) H
theorem scWays : FnScope ["things", "some", "found", "k"] ["things", "some"] (defScope (top 40)) := ⟨rfl, rfl, rfl, by decide +kernel, rfl, by decide +kernel, by decide +kernel⟩
theorem has_ways (B : Bi mg) (D : Df K mg "_law_ways" (top 40) ["things", "some"]) : Has P w K mg base "_law_ways" 1 ["things", "some"] spWays := by
  have sc := scWays
  refine .of D fun f fd F => F.ok sc (fun vs H Q E h => ?_) (fun cdv A outer s H vs Q E hr h => ?_)
  · obtain ⟨a, b, rfl, _⟩ := h
    rfl
  · obtain ⟨a, b, rfl, ha, hb, k⟩ := h
    refine ⟨_, (pss_cons (ps_set (i := 2) sc.nd rfl (by first | exact Or.inl rfl | exact Or.inr rfl) pe_int)
      (pss_cons (ps_for PassesOwn.never rfl (pi_range1 (by rfl) B.range (pa_cons (pv 1) pa_nil)) (pg_name (i := 3) sc.nd rfl (by first | exact Or.inl rfl | exact Or.inr rfl))
      (pss_one (ps_set (i := 2) sc.nd rfl (by first | exact Or.inl rfl | exact Or.inr rfl) (pe_op op_fdivW (pe_op op_mulS (pv 2) (pe_op op_sub (pv 0) (pv 3))) (pe_op op_add (pv 3) pe_int)))))
      (pss_one (ps_ret (PE.mon (pe_ifExp (pt_chain op_le op_le pe_int (pv 1) (pv 0)) (pv 2) pe_int)))))), ?_⟩
    walk_at "rd"
    refine ⟨by omega, by omega, ?_⟩
    obtain ⟨Pv, hP⟩ : ∃ P : Nat → L2.St → Hp → Prop, P = fun j σ' G => G = H ∧ ∃ s3 : Option V, σ' = [some (.int (a : Int)), some (.int (b : Int)), some (.int (wy (a : Int) j)), s3] := ⟨_, rfl⟩
    refine loopR Pv (by rw [hP]; exact ⟨rfl, _, rfl⟩) ?_ ?_
    · intro j σ' G hj h
      rw [hP] at h
      obtain ⟨rfl, s3, rfl⟩ := h
      have hs := (wy_small (a := a) (k := j) ha (by omega)).1
      walk_at "rd"
      refine ⟨cmulL (by omega) (by omega), ⟨by omega, ?_⟩, ?_⟩
      · exact log_lt (Nat.lt_of_lt_of_le (show ((j : Int) + 1).natAbs < 2 ^ 10 by omega) (Nat.pow_le_pow_right (by decide) (by decide)))
      · rw [hP]
        exact ⟨rfl, _, rfl⟩
    · intro σ' G h
      rw [hP] at h
      obtain ⟨rfl, s3, rfl⟩ := h
      have eb : ((b : Int)).toNat = b := by omega
      rw [eb]
      have hs := (wy_small (a := a) (k := b) ha hb).2
      walk_at "rd"
      refine ⟨Q, ?_, fun _ _ h => h⟩
      walk_at "rd"
      rw [if_pos (by omega)]
      by_cases hab : b ≤ a
      · rw [if_pos (by omega), hs hab]
        exact k
      · rw [if_neg (by omega)]
        rw [chs_over ha hb (by omega)] at k
        exact k
end

section
variable {P : Program} {w : World} {K : PySem.W.Frag} {mg : Str → Option Value} {base : Heap}
def ucL (n y : Int) (d : Nat) : List Int := (List.range (d + 1)).map fun (k : Nat) => PySem.W.mcComb y (k : Int) * PySem.W.mcComb (n - y) ((d : Int) - (k : Int))
def spUrn (K : PySem.W.Frag) : Sp := fun vs H Q _ => ∃ (n y : Int) (d : Nat), vs = [.int n, .int y, .int (d : Int)] ∧ 0 ≤ y ∧ y ≤ n ∧ n < 2 ^ 100 ∧ d ≤ 5 ∧ ∀ x H', Ex H H' → IsInts K H' x (ucL n y d) → Q x H'
def IntsAt (K : PySem.W.Frag) (H : Hp) (xs : List V) (ts : List (List Int)) : Prop := xs.length = ts.length ∧ ∀ (i : Nat) x, xs[i]? = some x → ∃ t, ts[i]? = some t ∧ IsInts K H x t
theorem IntsAt.kp {H H' : Hp} {xs : List V} {ts : List (List Int)} (h : IntsAt K H xs ts) (e : Kp H H') : IntsAt K H' xs ts :=
  ⟨h.1, fun i x hx => let ⟨r, h1, h2⟩ := h.2 i x hx; ⟨r, h1, h2.kp e⟩⟩
def spBlend (K : PySem.W.Frag) (C : Addr) : Sp := fun vs H Q _ => ∃ (p q : Addr) (k : Bool) (xs ys : List V) (zs : Zs) (N m : Nat) (cs : List Int) (S : Int), vs = [.ref p, .ref q] ∧ SqL K H p xs ∧ SqB K k H q ys ∧
  IntsAt K H xs (zs.map (·.1)) ∧ FrsAt K H ys (zs.map (·.2)) ∧ BlendOk zs N m cs S ∧ RowOk (blendL m zs) ∧ ∀ z H', Ex H H' → IsRow K C H' z (plainL cs) → Q z H'
theorem blend_rowok {zs : Zs} {N m : Nat} {cs : List Int} {S : Int} (h : BlendOk zs N m cs S) (hc : ∀ c ∈ cs, 0 ≤ c ∧ c.natAbs < 2 ^ 2000) : RowOk (blendL m zs) := by
  have hB := botF_pos h.tp
  have bB : botF zs < 2 ^ 6401 := by
    have := botF_lt zs zs.length h.ds (Nat.le_refl _)
    rw [List.take_length] at this
    refine Nat.lt_of_lt_of_le this (Nat.pow_le_pow_right (by decide) ?_)
    have h1 := Nat.mul_le_mul h.n1 h.nN
    omega
  have S0 := h.S0
  have fact : ∀ (k : Nat) (c : Int), cs[k]? = some c → ∃ b, (blendL m zs)[k]? = some b ∧ S * b = ((botF zs : Nat) : Int) * c := by
    intro k c hk
    have e := congrArg (·[k]?) (blend_plain h)
    simp only [List.getElem?_map, hk, Option.map_some] at e
    cases hb : (blendL m zs)[k]? with
    | none => rw [hb] at e; cases e
    | some b =>
      rw [hb] at e
      exact ⟨b, rfl, Option.some.inj e⟩
  have back : ∀ b ∈ blendL m zs, ∃ c ∈ cs, S * b = ((botF zs : Nat) : Int) * c := by
    intro b hb
    have : S * b ∈ (blendL m zs).map (S * ·) := List.mem_map.mpr ⟨b, hb, rfl⟩
    rw [blend_plain h] at this
    obtain ⟨c, hc, e⟩ := List.mem_map.mp this
    exact ⟨c, hc, e.symm⟩
  have nn : ∀ b ∈ blendL m zs, 0 ≤ b := by
    intro b hb
    obtain ⟨c, hm, e⟩ := back b hb
    have h1 := Int.mul_nonneg (show (0 : Int) ≤ ((botF zs : Nat) : Int) by omega) (hc c hm).1
    rw [← e] at h1
    rcases Int.lt_or_le b 0 with h2 | h2
    · have := Int.mul_neg_of_pos_of_neg S0 h2
      omega
    · exact h2
  have m0 := h.m0
  have m1 := h.m1
  obtain ⟨c, hm, c0⟩ := h.cp
  obtain ⟨k, hk⟩ := List.mem_iff_getElem?.mp hm
  obtain ⟨b, hb, e⟩ := fact k c hk
  have bm := List.mem_of_getElem? hb
  have b0 : b ≠ 0 := by
    intro z
    rw [z, Int.mul_zero] at e
    have := Int.mul_ne_zero (show ((botF zs : Nat) : Int) ≠ 0 by omega) c0
    omega
  have bb : b.natAbs < 2 ^ 8401 := by
    have h1 : (S * b).natAbs < 2 ^ (6401 + 2000) := by
      rw [e]
      exact wide_lt (by rw [Int.natAbs_natCast]; exact bB) (hc c hm).2
    rw [Int.natAbs_mul] at h1
    have h2 := Nat.mul_le_mul_right b.natAbs (show 1 ≤ S.natAbs by omega)
    omega
  refine ⟨by simp [blendL]; omega, by simp [blendL]; omega, nn, gcdL_pos ⟨b, bm, b0⟩, ?_⟩
  exact Nat.lt_of_lt_of_le (gcdL_lt bm b0 bb) (Nat.pow_le_pow_right (by decide) (by decide))
def ucS (n y d : Nat) : List Int := (List.range (d + 1)).map fun k => ((chs y k : Nat) : Int) * ((chs (n - y) (d - k) : Nat) : Int)
def zsF (ps : List Int) (d : Nat) : Zs := ps.mapIdx fun y p => (ucS (ps.length - 1) y d, ((p : Int) : Rat) / ((ps.sum : Int) : Rat))
def fwL (ps : List Int) (d : Nat) : List Int := (List.range (d + 1)).map fun k => (ps.mapIdx fun y p => p * (((chs y k : Nat) : Int) * ((chs (ps.length - 1 - y) (d - k) : Nat) : Int))).sum
theorem ucL_S {n y d : Nat} (hn : n < 6) (hy : y ≤ n) (hd : d < 6) : ucL (n : Int) (y : Int) d = ucS n y d := by
  unfold ucL ucS
  apply List.map_congr_left
  intro k hk
  have hk := List.mem_range.mp hk
  rw [comb_chs (by omega) (by omega)]
  have e1 : (n : Int) - (y : Int) = ((n - y : Nat) : Int) := by omega
  have e2 : (d : Int) - (k : Int) = ((d - k : Nat) : Int) := by omega
  rw [e1, e2, comb_chs (by omega) (by omega)]
theorem ucS_sum {n y d : Nat} (hn : n < 6) (hy : y ≤ n) (hd : d ≤ n) : (ucS n y d).sum = ((chs n d : Nat) : Int) := by
  have h : ∀ n < 6, ∀ y < n + 1, ∀ d < n + 1, (ucS n y d).sum = ((chs n d : Nat) : Int) := by decide +kernel
  exact h n hn y (by omega) d (by omega)
theorem sum_idx (s c : Rat) : ∀ (ps : List Int) (f : Nat → Int), (ps.mapIdx fun y p => ((p : Int) : Rat) / s * ((f y : Int) : Rat) / c).sum = (((ps.mapIdx fun y p => p * f y).sum : Int) : Rat) / (s * c)
  | [], f => by
    simp
    grind
  | p :: ps, f => by
    rw [List.mapIdx_cons, List.mapIdx_cons, List.sum_cons, List.sum_cons, sum_idx s c ps fun y => f (y + 1), Rat.intCast_add, Rat.intCast_mul]
    grind
theorem mem_idx {α β : Type} {f : Nat → α → β} {l : List α} {b : β} (h : b ∈ l.mapIdx f) : ∃ (i : Nat) (a : α), l[i]? = some a ∧ a ∈ l ∧ b = f i a := by
  obtain ⟨i, hi⟩ := List.mem_iff_getElem?.mp h
  rw [List.getElem?_mapIdx] at hi
  cases e : l[i]? with
  | none => rw [e] at hi; cases hi
  | some a =>
    rw [e] at hi
    exact ⟨i, a, e, List.mem_of_getElem? e, (Option.some.inj hi).symm⟩
theorem fw_blend {ps : List Int} {d : Nat} (h : RowIn ps) (hd0 : 1 ≤ d) (hd : d < ps.length) (hpos : ∃ c ∈ fwL ps d, c ≠ 0) : BlendOk (zsF ps d) 610 (d + 1) (fwL ps d) (ps.sum * ((chs (ps.length - 1) d : Nat) : Int)) := by
  have l0 := h.l0
  have l1 := h.l1
  have s0 := h.s0
  have s1 := h.s1
  have cp := chs_pos (a := ps.length - 1) (b := d) (by omega) (by omega)
  have cl := chs_le (a := ps.length - 1) (b := d) (by omega) (by omega)
  have zf : ∀ z ∈ zsF ps d, ∃ (y : Nat) (p : Int), y ≤ ps.length - 1 ∧ p ∈ ps ∧ z = (ucS (ps.length - 1) y d, ((p : Int) : Rat) / ((ps.sum : Int) : Rat)) := by
    intro z hz
    obtain ⟨y, p, h1, h2, e⟩ := mem_idx hz
    have := (List.getElem?_eq_some_iff.mp h1).1
    exact ⟨y, p, by omega, h2, e⟩
  have rsz : ∀ p ∈ ps, sz (((p : Int) : Rat) / ((ps.sum : Int) : Rat)) 600 := by
    intro p hp
    have h1 := mem_le_sum h.nn hp
    have h2 := h.nn p hp
    exact sz_div s0 (by omega) s1
  refine ⟨by simp [zsF]; omega, by simp [zsF]; omega, by decide, by omega, by omega, ?_, ?_, ?_, ?_, ?_, by simp [fwL], Int.mul_pos s0 (by omega), ?_, hpos⟩
  · intro z hz
    obtain ⟨y, p, hy, hp, rfl⟩ := zf z hz
    simp [ucS]
  · intro z hz
    obtain ⟨y, p, hy, hp, rfl⟩ := zf z hz
    show 0 < (ucS _ _ _).sum
    rw [ucS_sum (by omega) hy (by omega)]
    omega
  · intro z hz
    obtain ⟨y, p, hy, hp, rfl⟩ := zf z hz
    unfold denW
    show ((ucS _ _ _).sum * _).natAbs < _
    rw [ucS_sum (by omega) hy (by omega)]
    exact lt2_mono (wide_lt (a := 4) (b := 600) (by omega) (den_lt (rsz p hp))) (by decide)
  · intro z hz t ht
    obtain ⟨y, p, hy, hp, rfl⟩ := zf z hz
    obtain ⟨k, hk, rfl⟩ := List.mem_map.mp ht
    have hk := List.mem_range.mp hk
    have c1 := chs_le (a := y) (b := k) (by omega) (by omega)
    have c2 := chs_le (a := ps.length - 1 - y) (b := d - k) (by omega) (by omega)
    refine ⟨Int.mul_nonneg (by omega) (by omega), lt2_mono (wide_lt (a := 4) (b := 4) (by omega) (by omega)) (by decide)⟩
  · intro z hz
    obtain ⟨y, p, hy, hp, rfl⟩ := zf z hz
    exact ⟨frac_nonneg (h.nn p hp) s0, lt2_mono (rsz p hp).1 (by decide)⟩
  · intro k hk
    have e1 : (zsF ps d).map (fun z => z.2 * ((z.1.getD k 0 : Int) : Rat) / ((z.1.sum : Int) : Rat)) =
        ps.mapIdx fun y p => ((p : Int) : Rat) / ((ps.sum : Int) : Rat) * (((((chs y k : Nat) : Int) * ((chs (ps.length - 1 - y) (d - k) : Nat) : Int) : Int)) : Rat) / ((((chs (ps.length - 1) d : Nat) : Int)) : Rat) := by
      apply List.ext_getElem?
      intro y
      unfold zsF
      rw [List.getElem?_map, List.getElem?_mapIdx, List.getElem?_mapIdx]
      cases hp : ps[y]? with
      | none => rfl
      | some p =>
        have hy := (List.getElem?_eq_some_iff.mp hp).1
        simp only [Option.map_some]
        congr 1
        rw [ucS_sum (by omega) (by omega) (by omega)]
        have eg : (ucS (ps.length - 1) y d).getD k 0 = ((chs y k : Nat) : Int) * ((chs (ps.length - 1 - y) (d - k) : Nat) : Int) := by
          unfold ucS
          rw [List.getD_eq_getElem?_getD, List.getElem?_map, List.getElem?_range hk]
          rfl
        rw [eg]
    rw [e1, sum_idx]
    have e2 : (fwL ps d).getD k 0 = (ps.mapIdx fun y p => p * (((chs y k : Nat) : Int) * ((chs (ps.length - 1 - y) (d - k) : Nat) : Int))).sum := by
      unfold fwL
      rw [List.getD_eq_getElem?_getD, List.getElem?_map, List.getElem?_range hk]
      rfl
    rw [e2, Rat.intCast_mul]
theorem fwL_all {ps : List Int} (h : RowIn ps) : fwL ps (ps.length - 1) = ps := by
  have l0 := h.l0
  have l1 := h.l1
  match ps, l0, l1 with
  | [a, b], _, _ => simp [fwL, chs, List.range_succ]
  | [a, b, c], _, _ => simp [fwL, chs, List.range_succ]
  | [a, b, c, d], _, _ => simp [fwL, chs, List.range_succ]
  | [a, b, c, d, e], _, _ => simp [fwL, chs, List.range_succ]
  | [a, b, c, d, e, f], _, _ => simp [fwL, chs, List.range_succ]
  | _ :: _ :: _ :: _ :: _ :: _ :: _ :: _, _, h => simp at h
theorem fw_bound {ps : List Int} {d : Nat} (h : RowIn ps) (hd : d < ps.length) : ∀ c ∈ fwL ps d, 0 ≤ c ∧ c.natAbs < 2 ^ 2000 := by
  have l1 := h.l1
  intro c hc
  obtain ⟨k, hk, rfl⟩ := List.mem_map.mp hc
  have hk := List.mem_range.mp hk
  have each : ∀ x ∈ ps.mapIdx (fun y p => p * (((chs y k : Nat) : Int) * ((chs (ps.length - 1 - y) (d - k) : Nat) : Int))), 0 ≤ x ∧ x.natAbs < 2 ^ 608 := by
    intro x hx
    obtain ⟨y, p, h1, hp, rfl⟩ := mem_idx hx
    have hy := (List.getElem?_eq_some_iff.mp h1).1
    have c1 := chs_le (a := y) (b := k) (by omega) (by omega)
    have c2 := chs_le (a := ps.length - 1 - y) (b := d - k) (by omega) (by omega)
    have h2 := mem_le_sum h.nn hp
    have h3 := h.nn p hp
    have h4 := h.s1
    refine ⟨Int.mul_nonneg h3 (Int.mul_nonneg (by omega) (by omega)), ?_⟩
    exact wide_lt (a := 600) (b := 8) (by omega) (wide_lt (a := 4) (b := 4) (by omega) (by omega))
  refine ⟨sum_nonneg fun x hx => (each x hx).1, ?_⟩
  have h5 := sum_abs_lt (n := 608) _ 6 (fun x hx => (each x hx).2) (by simpa using l1)
  have h6 : 6 * 2 ^ 608 < 2 ^ 611 := by
    have e : 2 ^ 611 = 8 * 2 ^ 608 := by rw [show 611 = 3 + 608 from rfl, Nat.pow_add]
    have := Nat.two_pow_pos 608
    omega
  exact Nat.lt_of_lt_of_le (Nat.lt_of_le_of_lt h5 h6) (Nat.pow_le_pow_right (by decide) (by decide))
def spFewer (K : PySem.W.Frag) (C : Addr) : Sp := fun vs H Q _ => ∃ (x : V) (ps : List Int) (d : Nat), vs = [x, .int (d : Int)] ∧ IsRow K C H x ps ∧ RowIn ps ∧ 1 ≤ d ∧ d < ps.length ∧ (∃ c ∈ fwL ps d, c ≠ 0) ∧
  ∀ z H', Ex H H' → IsRow K C H' z (plainL (fwL ps d)) → Q z H'
theorem sumR_eq (l : List Rat) : sumR l = l.sum := by
  have h : ∀ (l : List Rat) (a : Rat), l.foldl (· + ·) a = a + l.sum := by
    intro l
    induction l with
    | nil =>
      intro a
      simp
      grind
    | cons x l ih =>
      intro a
      rw [List.foldl_cons, ih, List.sum_cons]
      grind
  unfold sumR
  rw [h]
  grind
theorem row_in {cs : List Int} (hc : CountsOk cs) (F : RowFacts cs) : RowIn (plainL cs) := by
  refine ⟨by rw [plainL_len]; exact hc.1, by rw [plainL_len]; exact hc.2.1, F.nn, F.spos, ?_⟩
  exact Nat.lt_of_lt_of_le F.slt (Nat.pow_le_pow_right (by decide) (by decide))
theorem rates_plain {cs : List Int} (h : 0 < gcdL cs) : ratesL (plainL cs) = ratesL cs := by
  have e := plainL_mul cs
  have es : ((gcdL cs : Nat) : Int) * (plainL cs).sum = cs.sum := by rw [← sum_scale, plainL_mul]
  conv => rhs; unfold ratesL; rw [← es]; arg 2; rw [← e]
  unfold ratesL
  rw [List.map_map]
  apply List.map_congr_left
  intro p _
  have hg : ((((gcdL cs : Nat) : Int)) : Rat) ≠ 0 := cast_ne (by omega)
  show ((p : Int) : Rat) / _ = (((((gcdL cs : Nat) : Int) * p : Int)) : Rat) / _
  rw [Rat.intCast_mul, Rat.intCast_mul]
  grind
/-- the rates, each by the share of its choices -/
def prodL (ps : List Int) (j : Nat) : List Rat := ps.mapIdx fun k p => ((p : Int) : Rat) / ((ps.sum : Int) : Rat) * ((((chs k j : Nat) : Int) : Rat) / (((chs (ps.length - 1) j : Nat) : Int) : Rat))
theorem prod_ay (ps : List Int) (j : Nat) : sumR (prodL ps j) = ay ps j := by
  rw [sumR_eq]
  have e : prodL ps j = ps.mapIdx fun k p => ((p : Int) : Rat) / ((ps.sum : Int) : Rat) * ((((chs k j : Nat) : Int)) : Rat) / (((chs (ps.length - 1) j : Nat) : Int) : Rat) := by
    unfold prodL
    congr 1
    funext k p
    grind
  rw [e, sum_idx]
  unfold ay hitsL
  rw [Rat.intCast_mul]
theorem sum_mono : ∀ {ps : List Int} {f g : Nat → Int}, (∀ y p, ps[y]? = some p → p * f y ≤ p * g y) → (ps.mapIdx fun y p => p * f y).sum ≤ (ps.mapIdx fun y p => p * g y).sum
  | [], _, _, _ => by simp
  | p :: ps, f, g, h => by
    rw [List.mapIdx_cons, List.mapIdx_cons, List.sum_cons, List.sum_cons]
    have h1 := h 0 p rfl
    have h2 := sum_mono (ps := ps) (f := fun y => f (y + 1)) (g := fun y => g (y + 1)) fun y q hq => h (y + 1) q (by simpa using hq)
    omega
theorem sum_scaleI (c : Int) : ∀ (ps : List Int) (f : Nat → Int), c * (ps.mapIdx fun y p => p * f y).sum = (ps.mapIdx fun y p => p * (f y * c)).sum
  | [], f => by simp
  | p :: ps, f => by
    rw [List.mapIdx_cons, List.mapIdx_cons, List.sum_cons, List.sum_cons, ← sum_scaleI c ps fun y => f (y + 1)]
    grind
theorem hits_abs {ps : List Int} {j : Nat} (h : RowIn ps) (hs : ps.sum.natAbs < 2 ^ 110) (hj : j < 6) : 0 ≤ (hitsL ps j).sum ∧ (hitsL ps j).sum.natAbs < 2 ^ 120 := by
  have l1 := h.l1
  have each : ∀ x ∈ hitsL ps j, 0 ≤ x ∧ x.natAbs < 2 ^ 114 := by
    intro x hx
    obtain ⟨k, p, h1, hp, rfl⟩ := mem_idx hx
    have hk := (List.getElem?_eq_some_iff.mp h1).1
    have c1 := chs_le (a := k) (b := j) (by omega) hj
    have h2 := mem_le_sum h.nn hp
    have h3 := h.nn p hp
    exact ⟨Int.mul_nonneg h3 (by omega), wide_lt (a := 110) (b := 4) (by omega) (by omega)⟩
  refine ⟨sum_nonneg fun x hx => (each x hx).1, ?_⟩
  have h5 := sum_abs_lt (n := 114) _ 6 (fun x hx => (each x hx).2) (show (hitsL ps j).length ≤ 6 by simpa [hitsL] using l1)
  have h6 : 6 * 2 ^ 114 < 2 ^ 120 := by decide
  omega
theorem ay_den {ps : List Int} {j : Nat} (h : RowIn ps) (hj : j < ps.length) : 0 < ps.sum * ((chs (ps.length - 1) j : Nat) : Int) := by
  have l1 := h.l1
  have := chs_pos (a := ps.length - 1) (b := j) (by omega) (by omega)
  exact Int.mul_pos h.s0 (by omega)
theorem ay_sz {ps : List Int} {j : Nat} (h : RowIn ps) (hs : ps.sum.natAbs < 2 ^ 110) (hj : j < ps.length) : sz (ay ps j) 120 := by
  have l1 := h.l1
  have := chs_le (a := ps.length - 1) (b := j) (by omega) (by omega)
  exact sz_div (ay_den h hj) (hits_abs h hs (by omega)).2 (lt2_mono (wide_lt (a := 110) (b := 4) hs (by omega)) (by decide))
theorem frac_cmp {a b c d : Int} (hb : 0 < b) (hd : 0 < d) (h : a * d ≤ c * b) :
    ((a : Rat) / (b : Rat)).num * (((((c : Rat) / (d : Rat)).den : Nat)) : Int) ≤ ((c : Rat) / (d : Rat)).num * (((((a : Rat) / (b : Rat)).den : Nat)) : Int) := by
  have e1 := frac_mul (p := a) hb
  have e2 := frac_mul (p := c) hd
  have p1 := den_pos ((a : Rat) / (b : Rat))
  have p2 := den_pos ((c : Rat) / (d : Rat))
  generalize (((((a : Rat) / (b : Rat)).den : Nat)) : Int) = u at *
  generalize (((((c : Rat) / (d : Rat)).den : Nat)) : Int) = v at *
  generalize ((a : Rat) / (b : Rat)).num = x at *
  generalize ((c : Rat) / (d : Rat)).num = y at *
  have h2 : a * d * (u * v) ≤ c * b * (u * v) := Int.mul_le_mul_of_nonneg_right h (Int.le_of_lt (Int.mul_pos p1 p2))
  have h3 : x * v * (b * d) ≤ y * u * (b * d) := by
    have g1 : x * v * (b * d) = a * d * (u * v) := by grind
    have g2 : y * u * (b * d) = c * b * (u * v) := by grind
    omega
  exact Int.le_of_mul_le_mul_right h3 (Int.mul_pos hb hd)
theorem ay_fall {ps : List Int} {j : Nat} (h : RowIn ps) (hj : j + 1 < ps.length) : (ay ps (j + 1)).num * (((ay ps j).den : Nat) : Int) ≤ (ay ps j).num * (((ay ps (j + 1)).den : Nat) : Int) := by
  have l1 := h.l1
  refine frac_cmp (ay_den h hj) (ay_den h (by omega)) ?_
  have key : ∀ n < 6, ∀ k < n + 1, ∀ j < n, chs k (j + 1) * chs n j ≤ chs k j * chs n (j + 1) := by decide +kernel
  have e1 : (hitsL ps (j + 1)).sum * (ps.sum * ((chs (ps.length - 1) j : Nat) : Int)) = ps.sum * (ps.mapIdx fun k p => p * (((chs k (j + 1) * chs (ps.length - 1) j : Nat)) : Int)).sum := by
    have := sum_scaleI ((chs (ps.length - 1) j : Nat) : Int) ps fun k => ((chs k (j + 1) : Nat) : Int)
    unfold hitsL
    simp only [Int.natCast_mul]
    rw [← this]
    grind
  have e2 : (hitsL ps j).sum * (ps.sum * ((chs (ps.length - 1) (j + 1) : Nat) : Int)) = ps.sum * (ps.mapIdx fun k p => p * (((chs k j * chs (ps.length - 1) (j + 1) : Nat)) : Int)).sum := by
    have := sum_scaleI ((chs (ps.length - 1) (j + 1) : Nat) : Int) ps fun k => ((chs k j : Nat) : Int)
    unfold hitsL
    simp only [Int.natCast_mul]
    rw [← this]
    grind
  rw [e1, e2]
  refine Int.mul_le_mul_of_nonneg_left (sum_mono fun k p hp => ?_) (Int.le_of_lt h.s0)
  have hk := (List.getElem?_eq_some_iff.mp hp).1
  have := key (ps.length - 1) (by omega) k (by omega) j (by omega)
  exact Int.mul_le_mul_of_nonneg_left (by omega) (h.nn p (List.mem_of_getElem? hp))
/-- with its sign -/
def sg (i c : Nat) : Int := if i % 2 = 0 then (c : Int) else 0 - (c : Int)
def sgL (ps : List Int) (k : Nat) : List Rat := (List.range (ps.length - k)).map fun i => ay ps (k + i) * ((sg i (chs (ps.length - 1 - k) i) : Int) : Rat)
theorem cast_ne0 {S : Int} (h : 0 < S) : ((S : Int) : Rat) ≠ 0 := cast_ne (by omega)
theorem ay_inv {ps : List Int} (h : RowIn ps) {k : Nat} (hk : k < ps.length) : sumR (sgL ps k) * ((((chs (ps.length - 1) k : Nat) : Int)) : Rat) = ((ps.getD k 0 : Int) : Rat) / ((ps.sum : Int) : Rat) := by
  have l0 := h.l0
  have l1 := h.l1
  have hs := cast_ne0 h.s0
  match ps, l0, l1, hk, hs with
  | [a, b], _, _, hk, hs =>
    have : k = 0 ∨ k = 1 := by simp at hk; omega
    simp only [List.sum_cons, List.sum_nil] at hs
    rcases this with rfl | rfl <;> simp [sgL, ay, hitsL, chs, List.range_succ, sumR, sg] at hs ⊢ <;> grind
  | [a, b, c], _, _, hk, hs =>
    have : k = 0 ∨ k = 1 ∨ k = 2 := by simp at hk; omega
    rcases this with rfl | rfl | rfl <;> simp [sgL, ay, hitsL, chs, List.range_succ, sumR, sg] at hs ⊢ <;> grind
  | [a, b, c, d], _, _, hk, hs =>
    have : k = 0 ∨ k = 1 ∨ k = 2 ∨ k = 3 := by simp at hk; omega
    rcases this with rfl | rfl | rfl | rfl <;> simp [sgL, ay, hitsL, chs, List.range_succ, sumR, sg] at hs ⊢ <;> grind
  | [a, b, c, d, e], _, _, hk, hs =>
    have : k = 0 ∨ k = 1 ∨ k = 2 ∨ k = 3 ∨ k = 4 := by simp at hk; omega
    rcases this with rfl | rfl | rfl | rfl | rfl <;> simp [sgL, ay, hitsL, chs, List.range_succ, sumR, sg] at hs ⊢ <;> grind
  | [a, b, c, d, e, f], _, _, hk, hs =>
    have : k = 0 ∨ k = 1 ∨ k = 2 ∨ k = 3 ∨ k = 4 ∨ k = 5 := by simp at hk; omega
    rcases this with rfl | rfl | rfl | rfl | rfl | rfl <;> simp [sgL, ay, hitsL, chs, List.range_succ, sumR, sg] at hs ⊢ <;> grind
  | _ :: _ :: _ :: _ :: _ :: _ :: _ :: _, _, h, _, _ => simp at h
theorem ay_zero {ps : List Int} (h : RowIn ps) : ay ps 0 = 1 := by
  have hs := cast_ne0 h.s0
  have e : hitsL ps 0 = ps := by
    apply List.ext_getElem?
    intro i
    unfold hitsL
    rw [List.getElem?_mapIdx]
    cases ps[i]? with
    | none => rfl
    | some p => cases i <;> simp [chs]
  unfold ay
  rw [e]
  have e2 : chs (ps.length - 1) 0 = 1 := by cases (ps.length - 1) <;> rfl
  rw [e2]
  simp
  grind
theorem ay_both {ps : List Int} (h : RowIn ps) : sumR [ay ps 1, ay ps.reverse 1] = 1 := by
  have l0 := h.l0
  have l1 := h.l1
  have hs := cast_ne0 h.s0
  match ps, l0, l1, hs with
  | [a, b], _, _, hs => simp [ay, hitsL, chs, sumR] at hs ⊢ <;> grind
  | [a, b, c], _, _, hs => simp [ay, hitsL, chs, sumR] at hs ⊢ <;> grind
  | [a, b, c, d], _, _, hs => simp [ay, hitsL, chs, sumR] at hs ⊢ <;> grind
  | [a, b, c, d, e], _, _, hs => simp [ay, hitsL, chs, sumR] at hs ⊢ <;> grind
  | [a, b, c, d, e, f], _, _, hs => simp [ay, hitsL, chs, sumR] at hs ⊢ <;> grind
  | _ :: _ :: _ :: _ :: _ :: _ :: _ :: _, _, h, _ => simp at h
theorem ay_last {ps : List Int} (h : RowIn ps) : ay ps.reverse (ps.length - 1) = ((ps.getD 0 0 : Int) : Rat) / ((ps.sum : Int) : Rat) := by
  have l0 := h.l0
  have l1 := h.l1
  have hs := cast_ne0 h.s0
  match ps, l0, l1, hs with
  | [a, b], _, _, hs => simp [ay, hitsL, chs] at hs ⊢ <;> grind
  | [a, b, c], _, _, hs => simp [ay, hitsL, chs] at hs ⊢ <;> grind
  | [a, b, c, d], _, _, hs => simp [ay, hitsL, chs] at hs ⊢ <;> grind
  | [a, b, c, d, e], _, _, hs => simp [ay, hitsL, chs] at hs ⊢ <;> grind
  | [a, b, c, d, e, f], _, _, hs => simp [ay, hitsL, chs] at hs ⊢ <;> grind
  | _ :: _ :: _ :: _ :: _ :: _ :: _ :: _, _, h, _ => simp at h
theorem sum_rev : ∀ ps : List Int, ps.reverse.sum = ps.sum
  | [] => rfl
  | p :: ps => by
    rw [List.reverse_cons, List.sum_append, sum_rev ps, List.sum_cons, List.sum_cons, List.sum_nil]
    omega
theorem row_rev {ps : List Int} (h : RowIn ps) : RowIn ps.reverse := by
  refine ⟨by simpa using h.l0, by simpa using h.l1, fun p hp => h.nn p (List.mem_reverse.mp hp), ?_, ?_⟩
  · rw [sum_rev]
    exact h.s0
  · rw [sum_rev]
    exact h.s1
theorem gcd_rev (ps : List Int) : gcdL ps.reverse = gcdL ps := by
  apply Nat.dvd_antisymm
  · exact dvd_gcdL fun c hc => gcdL_dvd (List.mem_reverse.mpr hc)
  · exact dvd_gcdL fun c hc => gcdL_dvd (List.mem_reverse.mp hc)
theorem plain_one {ps : List Int} (h : gcdL ps = 1) : plainL ps = ps := by
  unfold plainL
  rw [h]
  simp
theorem plain_rev {ps : List Int} (h : gcdL ps = 1) : plainL ps.reverse = ps.reverse := plain_one (by rw [gcd_rev]; exact h)
theorem ok_rev {ps : List Int} (h : RowOk ps) : RowOk ps.reverse := by
  obtain ⟨h1, h2, h3, h4, h5⟩ := h
  exact ⟨by simpa using h1, by simpa using h2, fun c hc => h3 c (List.mem_reverse.mp hc), by rw [gcd_rev]; exact h4, by rw [gcd_rev]; exact h5⟩
theorem fr_int (i : Int) : fr ((i : Int) : Rat) = [V.int i, V.int 1] := by
  unfold fr
  simp
theorem sz_int {i : Int} {n : Nat} (h : i.natAbs < 2 ^ n) (hn : 1 ≤ n) : sz ((i : Int) : Rat) n := by
  refine ⟨by simpa using h, ?_⟩
  have : 2 ^ 1 ≤ 2 ^ n := Nat.pow_le_pow_right (by decide) hn
  simp
  omega
theorem sg_abs {i c : Nat} : (sg i c).natAbs = c := by
  unfold sg
  split
  · omega
  · omega
def Bt (p : Addr) (H H' : Hp) : Prop := ∀ a o, a ≠ p → H a = some o → H' a = some o
theorem Bt.refl {p : Addr} (H : Hp) : Bt p H H := fun _ _ _ h => h
theorem Bt.ex {p : Addr} {H H1 H2 : Hp} (b : Bt p H H1) (e : Ex H1 H2) : Bt p H H2 := fun a o n h => e a o (b a o n h)
theorem Bt.upd {p : Addr} {H H1 : Hp} {o : HO} (b : Bt p H H1) : Bt p H (L2.upd H1 p o) := fun a u n h => by
  rw [upd_ne n]
  exact b a u n h
theorem Bt.kp {p : Addr} {H H1 : Hp} {xs : List V} (b : Bt p H H1) (h : H p = some (.lst xs)) : Kp H H1 := fun a o e n => b a o (fun z => by
  subst z
  rw [h] at e
  exact n _ (Option.some.inj e).symm) e
theorem Bt.out {p : Addr} {H H1 H2 : Hp} (n : H p = none) (e : Ex H H1) (b : Bt p H1 H2) : Ex H H2 := fun a o h => b a o (ne_of_none h n) (e a o h)
theorem Bt.gv {v p : Addr} {H H1 H2 : Hp} (g : Gv v H H1) (n : H p = none) (pv : p ≠ v) (b : Bt p H1 H2) : Gv v H H2 := by
  refine ⟨g.old, fun a o ha e => b a o (ne_of_none e n) (g.keep a o ha e), ?_⟩
  obtain ⟨x, y, z, e, r⟩ := g.new
  exact ⟨x, y, z, b _ _ (Ne.symm pv) e, r⟩
theorem Bt.lst {p l : Addr} {H H1 : Hp} {xs : List V} (b : Bt p H H1) (n : l ≠ p) (h : H l = some (.lst xs)) : H1 l = some (.lst xs) := b l _ n h
def Sm (m : Nat) (f : Nat → Rat) : Rat := ((List.range m).map f).sum
theorem Sm_zero (f : Nat → Rat) : Sm 0 f = 0 := rfl
theorem Sm_succ (m : Nat) (f : Nat → Rat) : Sm (m + 1) f = Sm m f + f m := by
  unfold Sm
  rw [List.range_succ, List.map_append, List.sum_append]
  simp only [List.map_cons, List.map_nil, List.sum_cons, List.sum_nil]
  grind
theorem Sm_congr {m : Nat} {f g : Nat → Rat} (h : ∀ k < m, f k = g k) : Sm m f = Sm m g := by
  induction m with
  | zero => rfl
  | succ m ih => rw [Sm_succ, Sm_succ, ih fun k hk => h k (by omega), h m (by omega)]
theorem Sm_add (f g : Nat → Rat) : ∀ m : Nat, Sm m (fun k => f k + g k) = Sm m f + Sm m g
  | 0 => by rw [Sm_zero, Sm_zero, Sm_zero]; grind
  | m + 1 => by rw [Sm_succ, Sm_succ, Sm_succ, Sm_add f g m]; grind
theorem Sm_mul (c : Rat) (f : Nat → Rat) : ∀ m : Nat, Sm m (fun k => c * f k) = c * Sm m f
  | 0 => by rw [Sm_zero, Sm_zero]; grind
  | m + 1 => by rw [Sm_succ, Sm_succ, Sm_mul c f m]; grind
theorem Sm_null : ∀ m : Nat, Sm m (fun _ => 0) = 0
  | 0 => rfl
  | m + 1 => by rw [Sm_succ, Sm_null m]; grind
theorem idx_Sm (ps : List Int) (f : Nat → Int → Rat) : (ps.mapIdx f).sum = Sm ps.length fun y => f y (ps.getD y 0) := by
  unfold Sm
  congr 1
  apply List.ext_getElem?
  intro i
  rw [List.getElem?_mapIdx, List.getElem?_map]
  by_cases hi : i < ps.length
  · rw [List.getElem?_eq_getElem hi, List.getElem?_range hi]
    simp [List.getD_eq_getElem?_getD, hi]
  · rw [List.getElem?_eq_none (by omega), List.getElem?_eq_none (by simp; omega)]
    rfl
/-- the rate at k -/
def rt (ps : List Int) (k : Nat) : Rat := ((ps.getD k 0 : Int) : Rat) / ((ps.sum : Int) : Rat)
theorem rt_rates (ps : List Int) {k : Nat} (hk : k < ps.length) : (ratesL ps)[k]? = some (rt ps k) := by
  unfold ratesL rt
  rw [List.getElem?_map, List.getElem?_eq_getElem hk, List.getD_eq_getElem?_getD, List.getElem?_eq_getElem hk]
  rfl
theorem rt_plain {cs : List Int} (h : 0 < gcdL cs) (k : Nat) : rt (plainL cs) k = rt cs k := by
  by_cases hk : k < cs.length
  · have e := rates_plain h
    have e1 := rt_rates (plainL cs) (k := k) (by rw [plainL_len]; exact hk)
    rw [e, rt_rates cs hk] at e1
    exact (Option.some.inj e1).symm
  · unfold rt
    rw [List.getD_eq_getElem?_getD, List.getD_eq_getElem?_getD, List.getElem?_eq_none (by rw [plainL_len]; omega), List.getElem?_eq_none (by omega)]
    simp
    grind
theorem rt_one {ps : List Int} (h : 0 < ps.sum) : Sm ps.length (rt ps) = 1 := by
  have e := sumR_rates h
  rw [sumR_eq] at e
  have e2 := idx_Sm ps fun y p => ((p : Int) : Rat) / ((ps.sum : Int) : Rat)
  have e3 : (ps.mapIdx fun y p => ((p : Int) : Rat) / ((ps.sum : Int) : Rat)) = ratesL ps := by
    apply List.ext_getElem?
    intro i
    unfold ratesL
    rw [List.getElem?_mapIdx, List.getElem?_map]
  rw [e3, e] at e2
  exact e2.symm
/-- rows with the same rates are the same -/
theorem plain_rt {a b : List Int} (hl : a.length = b.length) (ha : 0 < a.sum) (hb : 0 < b.sum) (h : ∀ k < a.length, rt a k = rt b k) : plainL a = plainL b := by
  refine plainL_prop hb ha ?_
  apply List.ext_getElem?
  intro k
  rw [List.getElem?_map, List.getElem?_map]
  by_cases hk : k < a.length
  · have e := h k hk
    have na := cast_ne0 ha
    have nb := cast_ne0 hb
    unfold rt at e
    have ga : a[k]? = some (a.getD k 0) := by rw [List.getD_eq_getElem?_getD, List.getElem?_eq_getElem hk]; rfl
    have gb : b[k]? = some (b.getD k 0) := by rw [List.getD_eq_getElem?_getD, List.getElem?_eq_getElem (by omega)]; rfl
    rw [ga, gb]
    simp only [Option.map_some, Option.some.injEq]
    have e2 : (((b.sum * a.getD k 0 : Int)) : Rat) = (((a.sum * b.getD k 0 : Int)) : Rat) := by
      rw [Rat.intCast_mul, Rat.intCast_mul]
      grind
    exact Rat.intCast_inj.mp e2
  · rw [List.getElem?_eq_none (by omega), List.getElem?_eq_none (by omega)]
    rfl
theorem ok_of {cs : List Int} (l0 : 2 ≤ cs.length) (l1 : cs.length ≤ 6) (nn : ∀ c ∈ cs, 0 ≤ c) (s0 : 0 < cs.sum) {n : Nat} (s1 : cs.sum.natAbs < 2 ^ n) (hn : n ≤ 8990) : RowOk cs := by
  obtain ⟨c, hc, c0⟩ := sum_pos_ex nn s0
  have := mem_le_sum nn hc
  refine ⟨l0, l1, nn, gcdL_pos ⟨c, hc, by omega⟩, ?_⟩
  exact Nat.lt_of_lt_of_le (gcdL_lt (m := n) hc (by omega) (by omega)) (Nat.pow_le_pow_right (by decide) hn)
theorem plain_nn {cs : List Int} (g : 0 < gcdL cs) (nn : ∀ c ∈ cs, 0 ≤ c) : ∀ p ∈ plainL cs, 0 ≤ p := by
  intro p hp
  obtain ⟨x, hx, rfl⟩ := List.mem_map.mp hp
  exact Int.ediv_nonneg (nn x hx) (by omega)
theorem plain_sum {cs : List Int} (g : 0 < gcdL cs) (s0 : 0 < cs.sum) : 0 < (plainL cs).sum ∧ (plainL cs).sum ≤ cs.sum := by
  have e : ((gcdL cs : Nat) : Int) * (plainL cs).sum = cs.sum := by rw [← sum_scale, plainL_mul]
  have gI : (0 : Int) < ((gcdL cs : Nat) : Int) := by omega
  have sp : 0 < (plainL cs).sum := by
    rcases Int.lt_or_le 0 (plainL cs).sum with h | h
    · exact h
    · have := Int.mul_le_mul_of_nonneg_left h (Int.le_of_lt gI)
      rw [e, Int.mul_zero] at this
      omega
  refine ⟨sp, ?_⟩
  rw [← e]
  have := Int.mul_le_mul_of_nonneg_right (show (1 : Int) ≤ ((gcdL cs : Nat) : Int) by omega) (Int.le_of_lt sp)
  omega
/-- a row's plain counts, with a bound of their sum -/
structure PR (m n : Nat) (ps : List Int) : Prop where
  len : ps.length = m
  m0 : 2 ≤ m
  m1 : m ≤ 6
  nn : ∀ p ∈ ps, 0 ≤ p
  s0 : 0 < ps.sum
  s1 : ps.sum.natAbs < 2 ^ n
  one : gcdL ps = 1
theorem PR.of {cs : List Int} {m n : Nat} (l : cs.length = m) (m0 : 2 ≤ m) (m1 : m ≤ 6) (nn : ∀ c ∈ cs, 0 ≤ c) (s0 : 0 < cs.sum) (s1 : cs.sum.natAbs < 2 ^ n) : PR m n (plainL cs) := by
  obtain ⟨c, hc, c0⟩ := sum_pos_ex nn s0
  have g : 0 < gcdL cs := gcdL_pos ⟨c, hc, by omega⟩
  obtain ⟨h1, h2⟩ := plain_sum g s0
  exact ⟨by rw [plainL_len]; exact l, m0, m1, plain_nn g nn, h1, by omega, plainL_plain cs g⟩
theorem PR.plain {ps : List Int} {m n : Nat} (h : PR m n ps) : plainL ps = ps := plain_one h.one
theorem PR.inn {ps : List Int} {m n : Nat} (h : PR m n ps) (hn : n ≤ 600) : RowIn ps :=
  ⟨by rw [h.len]; exact h.m0, by rw [h.len]; exact h.m1, h.nn, h.s0, lt2_mono h.s1 hn⟩
theorem PR.mono {ps : List Int} {m n n' : Nat} (h : PR m n ps) (hn : n ≤ n') : PR m n' ps := ⟨h.len, h.m0, h.m1, h.nn, h.s0, lt2_mono h.s1 hn, h.one⟩
theorem PR.ok {ps : List Int} {m n : Nat} (h : PR m n ps) : RowOk ps := by
  refine ⟨by rw [h.len]; exact h.m0, by rw [h.len]; exact h.m1, h.nn, by rw [h.one]; decide, by rw [h.one]; exact Nat.lt_of_lt_of_le (show 1 < 2 ^ 1 by decide) (Nat.pow_le_pow_right (by decide) (by decide))⟩
theorem PR.gd {ps : List Int} {m n : Nat} (h : PR m n ps) (hn : n ≤ 1900) : Gd (intsD ps) 1 (6 * 1932 + 3) := by
  refine gd_ints (by rw [h.len]; exact h.m1) fun c hc => ?_
  have h1 := mem_le_sum h.nn hc
  have h2 := h.nn c hc
  have h3 := h.s1
  exact lt2_mono (n := n) (by omega) hn
theorem PR.eq {a b : List Int} {m n n' : Nat} (ha : PR m n a) (hb : PR m n' b) (h : ∀ k < m, rt a k = rt b k) : a = b := by
  rw [← ha.plain, ← hb.plain]
  exact plain_rt (by rw [ha.len, hb.len]) ha.s0 hb.s0 fun k hk => h k (by rw [← ha.len]; exact hk)
def mx (zs : Zs) (k : Nat) : Rat := (zs.map fun z => z.2 * rt z.1 k).sum
theorem Sm_mx (c : Nat → Rat) (m : Nat) : ∀ zs : Zs, Sm m (fun k => mx zs k * c k) = (zs.map fun z => z.2 * Sm m (fun k => rt z.1 k * c k)).sum
  | [] => by
    rw [Sm_congr (g := fun _ => 0) (fun k _ => by simp [mx]), Sm_null]
    rfl
  | z :: zs => by
    rw [List.map_cons, List.sum_cons, ← Sm_mx c m zs, ← Sm_mul, ← Sm_add]
    apply Sm_congr
    intro k _
    simp only [mx, List.map_cons, List.sum_cons]
    grind
structure MixOk (zs : Zs) (N m : Nat) : Prop where
  n0 : 0 < zs.length
  n1 : zs.length ≤ 8
  nN : N ≤ 800
  m0 : 2 ≤ m
  m1 : m ≤ 6
  len : ∀ z ∈ zs, z.1.length = m
  nn : ∀ z ∈ zs, ∀ t ∈ z.1, 0 ≤ t
  tp : ∀ z ∈ zs, 0 < z.1.sum
  ds : ∀ z ∈ zs, (denW z).natAbs < 2 ^ N
  r0 : ∀ z ∈ zs, 0 ≤ z.2.num
  r1 : ∀ z ∈ zs, z.2.num ≤ ((z.2.den : Nat) : Int)
  one : (zs.map (·.2)).sum = 1
theorem blend_len (m : Nat) (zs : Zs) : (blendL m zs).length = m := by simp [blendL]
theorem blend_get {zs : Zs} {m k : Nat} (hk : k < m) : (blendL m zs).getD k 0 = (colW (botF zs) k zs).sum := by
  unfold blendL
  rw [List.getD_eq_getElem?_getD, List.getElem?_map, List.getElem?_range hk]
  rfl
theorem mx_div {zs : Zs} {N m : Nat} (h : MixOk zs N m) (k : Nat) : (zs.map fun z => z.2 * ((z.1.getD k 0 : Int) : Rat) / ((z.1.sum : Int) : Rat)).sum = mx zs k := by
  unfold mx
  congr 1
  apply List.map_congr_left
  intro z _
  unfold rt
  grind
theorem blend_mx {zs : Zs} {N m : Nat} (h : MixOk zs N m) {k : Nat} (hk : k < m) : (((blendL m zs).getD k 0 : Int) : Rat) = ((botF zs : Nat) : Int) * mx zs k := by
  rw [blend_get hk, col_rat k zs fun z hz => ⟨h.tp z hz, botF_dvd h.tp hz⟩, mx_div h]
theorem sum_Sm (ps : List Int) : ((ps.sum : Int) : Rat) = Sm ps.length fun k => ((ps.getD k 0 : Int) : Rat) := by
  rw [← idx_Sm ps fun y p => ((p : Int) : Rat)]
  have : ∀ ps : List Int, ((ps.sum : Int) : Rat) = (ps.mapIdx fun y p => ((p : Int) : Rat)).sum := by
    intro ps
    induction ps with
    | nil => rfl
    | cons p ps ih => rw [List.sum_cons, List.mapIdx_cons, List.sum_cons, Rat.intCast_add, ih]
  exact this ps
theorem mix_sum {zs : Zs} {N m : Nat} (h : MixOk zs N m) : (blendL m zs).sum = ((botF zs : Nat) : Int) := by
  have e := sum_Sm (blendL m zs)
  rw [blend_len, Sm_congr fun k hk => blend_mx h hk, Sm_mul] at e
  have e1 := Sm_mx (fun _ => 1) m zs
  have e2 : (zs.map fun z => z.2 * Sm m (fun k => rt z.1 k * 1)).sum = 1 := by
    have e5 : (zs.map fun z => z.2 * Sm m (fun k => rt z.1 k * 1)) = zs.map (·.2) := by
      apply List.map_congr_left
      intro z hz
      have e3 := rt_one (h.tp z hz)
      rw [h.len z hz] at e3
      rw [Sm_congr (g := rt z.1) (fun k _ => Rat.mul_one _), e3, Rat.mul_one]
    rw [e5]
    exact h.one
  rw [e2, Sm_congr (g := mx zs) (fun k _ => Rat.mul_one _)] at e1
  rw [e1] at e
  have e4 : (((blendL m zs).sum : Int) : Rat) = ((((botF zs : Nat) : Int)) : Rat) := by
    rw [e]
    grind
  exact Rat.intCast_inj.mp e4
theorem mix_rt {zs : Zs} {N m : Nat} (h : MixOk zs N m) {k : Nat} (hk : k < m) : rt (blendL m zs) k = mx zs k := by
  unfold rt
  rw [mix_sum h, blend_mx h hk]
  have hB := botF_pos h.tp
  have := cast_ne (S := ((botF zs : Nat) : Int)) (by omega)
  grind
theorem mix_nn {zs : Zs} {N m : Nat} (h : MixOk zs N m) : ∀ c ∈ blendL m zs, 0 ≤ c := by
  intro c hc
  obtain ⟨k, hk, rfl⟩ := List.mem_map.mp hc
  refine sum_nonneg fun x hx => ?_
  obtain ⟨z, hz, rfl⟩ := List.mem_map.mp hx
  refine Int.mul_nonneg (Int.mul_nonneg (h.r0 z hz) (Int.ediv_nonneg (by omega) (Int.le_of_lt (denW_pos (h.tp z hz))))) ?_
  rw [List.getD_eq_getElem?_getD]
  cases hq : z.1[k]? with
  | none => exact Int.le_refl 0
  | some p => exact h.nn z hz p (List.mem_of_getElem? hq)
theorem bot_lt {zs : Zs} {N m : Nat} (h : MixOk zs N m) : botF zs < 2 ^ (zs.length * N + 1) := by
  have := botF_lt zs zs.length h.ds (Nat.le_refl _)
  rwa [List.take_length] at this
theorem mix_pos {zs : Zs} {N m : Nat} (h : MixOk zs N m) : 0 < (blendL m zs).sum := by
  rw [mix_sum h]
  have := botF_pos h.tp
  omega
theorem mix_pr {zs : Zs} {N m n : Nat} (h : MixOk zs N m) (hn : zs.length * N + 1 ≤ n) : PR m n (plainL (blendL m zs)) := by
  have hb := bot_lt h
  refine PR.of (blend_len m zs) h.m0 h.m1 (mix_nn h) (mix_pos h) ?_
  rw [mix_sum h, Int.natAbs_natCast]
  exact Nat.lt_of_lt_of_le hb (Nat.pow_le_pow_right (by decide) hn)
theorem mix_gcd {zs : Zs} {N m : Nat} (h : MixOk zs N m) : 0 < gcdL (blendL m zs) := by
  obtain ⟨c, hc, c0⟩ := sum_pos_ex (mix_nn h) (mix_pos h)
  exact gcdL_pos ⟨c, hc, by omega⟩
theorem mix_prt {zs : Zs} {N m : Nat} (h : MixOk zs N m) {k : Nat} (hk : k < m) : rt (plainL (blendL m zs)) k = mx zs k := by
  rw [rt_plain (mix_gcd h), mix_rt h hk]
theorem mix_ok {zs : Zs} {N m : Nat} (h : MixOk zs N m) : RowOk (blendL m zs) := by
  have hb := bot_lt h
  have h1 := Nat.mul_le_mul h.n1 h.nN
  refine ok_of (n := 6401) (by rw [blend_len]; exact h.m0) (by rw [blend_len]; exact h.m1) (mix_nn h) (mix_pos h) ?_ (by decide)
  rw [mix_sum h, Int.natAbs_natCast]
  exact Nat.lt_of_lt_of_le hb (Nat.pow_le_pow_right (by decide) (by omega))
theorem mix_blend {zs : Zs} {N m : Nat} (h : MixOk zs N m) : BlendOk zs N m (blendL m zs) ((botF zs : Nat) : Int) := by
  have hB := botF_pos h.tp
  have le : ∀ z ∈ zs, z.1.sum.natAbs ≤ (denW z).natAbs ∧ (((z.2.den : Nat) : Int)).natAbs ≤ (denW z).natAbs := by
    intro z hz
    have t0 := h.tp z hz
    have d0 := den_pos z.2
    unfold denW
    rw [Int.natAbs_mul]
    have a1 := Nat.mul_le_mul_left z.1.sum.natAbs (show 1 ≤ (((z.2.den : Nat) : Int)).natAbs by omega)
    have a2 := Nat.mul_le_mul_right (((z.2.den : Nat) : Int)).natAbs (show 1 ≤ z.1.sum.natAbs by omega)
    omega
  refine ⟨h.n0, h.n1, h.nN, h.m0, h.m1, h.len, h.tp, h.ds, fun z hz t ht => ⟨h.nn z hz t ht, ?_⟩, fun z hz => ⟨h.r0 z hz, ?_⟩, blend_len m zs, by omega, fun k hk => ?_, ?_⟩
  · have := mem_le_sum (h.nn z hz) ht
    have := h.nn z hz t ht
    have := h.ds z hz
    have := (le z hz).1
    omega
  · have := h.r0 z hz
    have := h.r1 z hz
    have := h.ds z hz
    have := (le z hz).2
    omega
  · rw [mx_div h, blend_mx h hk]
    have := cast_ne (S := ((botF zs : Nat) : Int)) (by omega)
    grind
  · obtain ⟨c, hc, c0⟩ := sum_pos_ex (mix_nn h) (mix_pos h)
    exact ⟨c, hc, by omega⟩
theorem ay_rt (ps : List Int) (j : Nat) : ay ps j = Sm ps.length fun y => rt ps y * (((((chs y j : Nat) : Int)) : Rat) / ((((chs (ps.length - 1) j : Nat) : Int)) : Rat)) := by
  have e := sum_idx ((ps.sum : Int) : Rat) ((((chs (ps.length - 1) j : Nat) : Int)) : Rat) ps fun y => ((chs y j : Nat) : Int)
  unfold ay hitsL
  rw [Rat.intCast_mul, ← e, idx_Sm]
  apply Sm_congr
  intro y _
  unfold rt
  grind
theorem fw_sum {ps : List Int} {d : Nat} (l0 : 2 ≤ ps.length) (l1 : ps.length ≤ 6) (hd0 : 1 ≤ d) (hd : d < ps.length) : (fwL ps d).sum = ps.sum * ((chs (ps.length - 1) d : Nat) : Int) := by
  have hj : d = 1 ∨ d = 2 ∨ d = 3 ∨ d = 4 ∨ d = 5 := by omega
  match ps, l0, l1, hd with
  | [a, b], _, _, hd => rcases hj with rfl | rfl | rfl | rfl | rfl <;> first | (simp at hd; done) | (simp [fwL, chs, List.range_succ]; try omega)
  | [a, b, c], _, _, hd => rcases hj with rfl | rfl | rfl | rfl | rfl <;> first | (simp at hd; done) | (simp [fwL, chs, List.range_succ]; try omega)
  | [a, b, c, d], _, _, hd => rcases hj with rfl | rfl | rfl | rfl | rfl <;> first | (simp at hd; done) | (simp [fwL, chs, List.range_succ]; try omega)
  | [a, b, c, d, e], _, _, hd => rcases hj with rfl | rfl | rfl | rfl | rfl <;> first | (simp at hd; done) | (simp [fwL, chs, List.range_succ]; try omega)
  | [a, b, c, d, e, f], _, _, hd => rcases hj with rfl | rfl | rfl | rfl | rfl <;> first | (simp at hd; done) | (simp [fwL, chs, List.range_succ]; try omega)
  | _ :: _ :: _ :: _ :: _ :: _ :: _ :: _, _, h, _ => simp at h
theorem fw_len (ps : List Int) (d : Nat) : (fwL ps d).length = d + 1 := by simp [fwL]
theorem fw_nn {ps : List Int} {d : Nat} (h : ∀ p ∈ ps, 0 ≤ p) : ∀ c ∈ fwL ps d, 0 ≤ c := by
  intro c hc
  obtain ⟨k, hk, rfl⟩ := List.mem_map.mp hc
  refine sum_nonneg fun x hx => ?_
  obtain ⟨y, p, h1, hp, rfl⟩ := mem_idx hx
  exact Int.mul_nonneg (h p hp) (Int.mul_nonneg (by omega) (by omega))
def fwM (n d k y : Nat) : Rat := (((((chs y k : Nat) : Int) * ((chs (n - y) (d - k) : Nat) : Int) : Int)) : Rat) / ((((chs n d : Nat) : Int)) : Rat)
theorem fw_rt {ps : List Int} {d k : Nat} (l0 : 2 ≤ ps.length) (l1 : ps.length ≤ 6) (hd0 : 1 ≤ d) (hd : d < ps.length) (hk : k < d + 1) : rt (fwL ps d) k = Sm ps.length fun y => rt ps y * fwM (ps.length - 1) d k y := by
  have e := sum_idx ((ps.sum : Int) : Rat) ((((chs (ps.length - 1) d : Nat) : Int)) : Rat) ps fun y => ((chs y k : Nat) : Int) * ((chs (ps.length - 1 - y) (d - k) : Nat) : Int)
  have e2 : (fwL ps d).getD k 0 = (ps.mapIdx fun y p => p * (((chs y k : Nat) : Int) * ((chs (ps.length - 1 - y) (d - k) : Nat) : Int))).sum := by
    unfold fwL
    rw [List.getD_eq_getElem?_getD, List.getElem?_map, List.getElem?_range hk]
    rfl
  unfold rt
  rw [e2, fw_sum l0 l1 hd0 hd, Rat.intCast_mul, ← e, idx_Sm]
  apply Sm_congr
  intro y _
  unfold fwM
  grind
theorem fw_pr {ps : List Int} {m n d : Nat} (h : PR m n ps) (hd0 : 1 ≤ d) (hd : d < m) : PR (d + 1) (n + 4) (plainL (fwL ps d)) ∧ ∃ c ∈ fwL ps d, c ≠ 0 := by
  have l := h.len
  have m0 := h.m0
  have m1 := h.m1
  have cp := chs_pos (a := ps.length - 1) (b := d) (by omega) (by omega)
  have cl := chs_le (a := ps.length - 1) (b := d) (by omega) (by omega)
  have e := fw_sum (ps := ps) (d := d) (by omega) (by omega) hd0 (by omega)
  have s0 : 0 < (fwL ps d).sum := by
    rw [e]
    exact Int.mul_pos h.s0 (by omega)
  refine ⟨PR.of (fw_len ps d) (by omega) (by omega) (fw_nn h.nn) s0 ?_, ?_⟩
  · rw [e]
    exact wide_lt h.s1 (by omega)
  · obtain ⟨c, hc, c0⟩ := sum_pos_ex (fw_nn (d := d) h.nn) s0
    exact ⟨c, hc, by omega⟩
theorem fw_gcd {ps : List Int} {m n d : Nat} (h : PR m n ps) (hd0 : 1 ≤ d) (hd : d < m) : 0 < gcdL (fwL ps d) := gcdL_pos (fw_pr h hd0 hd).2
theorem fw_prt {ps : List Int} {m n d k : Nat} (h : PR m n ps) (hd0 : 1 ≤ d) (hd : d < m) (hk : k < d + 1) : rt (plainL (fwL ps d)) k = Sm m fun y => rt ps y * fwM (m - 1) d k y := by
  have l := h.len
  have m0 := h.m0
  have m1 := h.m1
  rw [rt_plain (fw_gcd h hd0 hd), fw_rt (by omega) (by omega) hd0 (by omega) hk, l]
theorem rev_rt {ps : List Int} {m k : Nat} (l : ps.length = m) (hk : k < m) : rt ps.reverse k = rt ps (m - 1 - k) := by
  unfold rt
  rw [sum_rev, List.getD_eq_getElem?_getD, List.getD_eq_getElem?_getD, List.getElem?_reverse (by omega), l]
theorem rev_pr {ps : List Int} {m n : Nat} (h : PR m n ps) : PR m n ps.reverse :=
  ⟨by rw [List.length_reverse]; exact h.len, h.m0, h.m1, fun p hp => h.nn p (List.mem_reverse.mp hp), by rw [sum_rev]; exact h.s0, by rw [sum_rev]; exact h.s1, by rw [gcd_rev]; exact h.one⟩
def ordF (n m : Nat) : Nat := (List.range m).foldl (fun B k => Nat.lcm B (chs n k)) 1
def bhL (ps : List Int) (s y : Nat) : List Int := (List.range (ps.length - s)).map fun k => ps.getD (y + k) 0 * ((ordF (ps.length - 1) ps.length / chs (ps.length - 1) (y + k) : Nat) : Int) * ((chs (ps.length - 1 - s) k : Nat) : Int)
theorem ord_small {n m : Nat} (hn : n < 6) (hm : m ≤ n + 1) : 0 < ordF n m ∧ ordF n m < 100 := by
  have h : ∀ n < 6, ∀ m < n + 2, 0 < ordF n m ∧ ordF n m < 100 := by decide +kernel
  exact h n hn m (by omega)
def spBehindX (K : PySem.W.Frag) (C CN : Addr) : Sp := fun vs H Q E => ∃ (x : V) (ps : List Int) (s y : Nat), vs = [x, .int (s : Int), .int (y : Int)] ∧ IsRow K C H x ps ∧ RowIn ps ∧ 1 ≤ s ∧ s + 1 < ps.length ∧ y ≤ s ∧ (RowOk (bhL ps s y) ∨ ∀ c ∈ bhL ps s y, c = 0) ∧
  (RowOk (bhL ps s y) → ∀ z H', Ex H H' → IsRow K C H' z (plainL (bhL ps s y)) → Q z H') ∧ ((∀ c ∈ bhL ps s y, c = 0) → ∀ H', Ex H H' → E (.ref CN) none H')
theorem scBehind : FnScope ["row", "draws", "yes", "rest", "orders", "k", "counts"] ["row", "draws", "yes"] (defScope (top 31)) := ⟨rfl, rfl, rfl, by decide +kernel, rfl, by decide +kernel, by decide +kernel⟩
theorem ok_behindX {C CN : Addr} (eNC : ExcA K CN) (c_NoChance : mg "NoChance" = some (.ref CN)) (B : Bi mg) (RT : RowT P w K mg base C) (c_comb : mg "comb" = some (.builtin "math.comb")) (c_lcm : mg "lcm" = some (.builtin "math.lcm")) (hcheck_row : Has P w K mg base "check_row" 1 ["row"] (spCheckRow K C))
    (hcheck_number : Has P w K mg base "check_number" 2 ["given", "least", "most"] spNum)
    {f : Addr} {fd : FuncData} (F : Fun K "behind" "behind" (top 31) f fd) : FnOk P w K mg base (L2.CX P w) 5 f fd ["row", "draws", "yes"] (spBehindX K C CN) := by
  have sc := scBehind
  refine F.okX sc (fun vs H Q E h => ?_) (fun cdv A outer s H vs Q E hr h => ?_)
  · obtain ⟨x, ps, s, y, rfl, _⟩ := h
    rfl
  · obtain ⟨x, ps, sn, y, rfl, hrow, hin, s0, s1, hy, rk0, k, k2⟩ := h
    have l0 := hin.l0
    have l1 := hin.l1
    have en : ((ps.length : Nat) : Int) - 1 = ((ps.length - 1 : Nat) : Int) := by omega
    refine ⟨_, (pss_cons (ps_expr (pe_has hcheck_row (hr.mono (by decide)) (pa_cons (pv 0) pa_nil)))
      (pss_cons (ps_expr (pe_has hcheck_number (hr.mono (by decide)) (pa_cons (pv 1) (pa_cons pe_int (pa_cons (pe_op op_sub (kDraws RT (hr.mono (by decide)) (pv 0)) pe_int) pa_nil)))))
      (pss_cons (ps_expr (pe_has hcheck_number (hr.mono (by decide)) (pa_cons (pv 2) (pa_cons pe_int (pa_cons (pv 1) pa_nil)))))
      (pss_cons (ps_set (i := 3) sc.nd rfl (by first | exact Or.inl rfl | exact Or.inr rfl) (pe_op op_sub (kDraws RT (hr.mono (by decide)) (pv 0)) (pv 1)))
      (pss_cons (ps_set (i := 4) sc.nd rfl (by first | exact Or.inl rfl | exact Or.inr rfl) pe_int)
      (pss_cons (ps_for (passes_of rfl) rfl (pi_range1 (by rfl) B.range (pa_cons (pe_op op_add (kDraws RT (hr.mono (by decide)) (pv 0)) pe_int) pa_nil)) (pg_name (i := 5) sc.nd rfl (by first | exact Or.inl rfl | exact Or.inr rfl))
      (pss_one (ps_set (i := 4) sc.nd rfl (by first | exact Or.inl rfl | exact Or.inr rfl) (pe_callBfun cr_lcm (by rfl) c_lcm (pa_cons (pv 4) (pa_cons (pe_callBfun cr_comb (by rfl) c_comb (pa_cons (kDraws RT (hr.mono (by decide)) (pv 0)) (pa_cons (pv 5) pa_nil))) pa_nil))))))
      (pss_cons (ps_setLc (i := 6) (own := [("k", 5)]) (g := gName 5) (tt := tYes) rfl sc.nd rfl rfl (sw_true rfl rfl rfl (by decide +kernel)) (pi_range1 (by rfl) B.range (pa_cons (pe_op op_add (pv 3) pe_int) pa_nil)) (blkOk_by (N := (["row", "draws", "yes", "rest", "orders", "k", "counts"] : List Str)) (sc := defScope (top 31)) (by decide +kernel)) (fun _ _ _ _ _ => (pg_name (i := 5) sc.nd rfl (by first | exact Or.inl rfl | exact Or.inr rfl))) (fun _ _ _ _ _ => pts_nil) (fun _ _ _ _ _ => (PE.mon (pe_op op_mulS (pe_op op_mulS (pe_ix (ixT (K := K)) (kCounts RT (hr.mono (by decide)) (pv 0)) (pe_op op_add (pv 2) (pv 5)) (fun _ _ => rfl)) (pe_op op_fdivW (pv 4) (pe_callBfun cr_comb (by rfl) c_comb (pa_cons (kDraws RT (hr.mono (by decide)) (pv 0)) (pa_cons (pe_op op_add (pv 2) (pv 5)) pa_nil))))) (pe_callBfun cr_comb (by rfl) c_comb (pa_cons (pv 3) (pa_cons (pv 5) pa_nil)))))))
      (pss_cons (ps_if (pt_cmpR op_eq (pe_callB (kMax (K := K) rfl) (by rfl) B.max (by decide +kernel) (pa_cons (pv 6) pa_nil)) pe_int (nomark _)) (pss_one (ps_raise0 rfl takes_def eNC c_NoChance)) pss_nil)
      (pss_one (ps_ret (kRow RT (hr.mono (by decide)) (pa_cons (pe_callTy (kTuple (K := K)) (by rfl) B.tuple (by decide +kernel) (pa_cons (pv 6) pa_nil)) pa_nil)))))))))))), ?_⟩
    walk_at "rd"
    refine ⟨x, ps, rfl, hrow, ?_⟩
    walk_at "rd"
    refine ⟨_, hrow, _, _, _, rfl, by omega, by omega, ?_⟩
    refine ⟨_, _, _, rfl, by omega, by omega, ?_⟩
    walk_at "rd"
    refine ⟨_, hrow, _, hrow, ?_⟩
    rw [en]
    refine ⟨by omega, by omega, ?_⟩
    obtain ⟨Pv, hP⟩ : ∃ P : Nat → L2.St → Hp → Prop, P = fun j σ' G => G = H ∧ ∃ s5 : Option V, σ' = [some x, some (.int (sn : Int)), some (.int (y : Int)), some (.int (((ps.length - 1 : Nat) : Int) - (sn : Int))), some (.int ((ordF (ps.length - 1) j : Nat) : Int)), s5, none] := ⟨_, rfl⟩
    refine loopR Pv (by rw [hP]; exact ⟨rfl, _, rfl⟩) ?_ ?_
    · intro j σ' G hj h
      rw [hP] at h
      obtain ⟨rfl, s5, rfl⟩ := h
      have hj : j < ps.length := by omega
      have o1 := ord_small (n := ps.length - 1) (m := j) (by omega) (by omega)
      have c1 := chs_le (a := ps.length - 1) (b := j) (by omega) (by omega)
      walk_at "rd"
      refine ⟨_, hrow, ?_⟩
      rw [en]
      refine ⟨_, _, rfl, comb_ok (by omega) (by omega), ?_⟩
      rw [comb_chs (by omega) (by omega)]
      have big : (100 : Nat) < 2 ^ 13000 := Nat.lt_of_lt_of_le (show 100 < 2 ^ 7 by decide) (Nat.pow_le_pow_right (by decide) (by decide))
      refine ⟨_, _, rfl, ?_, ?_, ?_⟩
      · rw [Int.natAbs_natCast]
        omega
      · rw [Int.natAbs_natCast]
        omega
      · rw [hP]
        dsimp only
        have e : ordF (ps.length - 1) (j + 1) = Nat.lcm (ordF (ps.length - 1) j) (chs (ps.length - 1) j) := by
          unfold ordF
          rw [List.range_succ, List.foldl_append]
          rfl
        rw [e, Int.natAbs_natCast, Int.natAbs_natCast]
        exact ⟨rfl, _, rfl⟩
    · intro σ' G h
      rw [hP] at h
      obtain ⟨rfl, s5, rfl⟩ := h
      have eN : ((((ps.length - 1 : Nat) : Int)) + 1).toNat = ps.length := by omega
      rw [eN]
      have eR : (((ps.length - 1 : Nat) : Int)) - (sn : Int) = ((ps.length - 1 - sn : Nat) : Int) := by omega
      rw [eR]
      have o1 := ord_small (n := ps.length - 1) (m := ps.length) (by omega) (by omega)
      walk_at "rd"
      refine ⟨by omega, by omega, fun Dd hD => lcR (fun i z _ => z = .int (ps.getD (y + i) 0 * ((ordF (ps.length - 1) ps.length / chs (ps.length - 1) (y + i) : Nat) : Int) * ((chs (ps.length - 1 - sn) i : Nat) : Int))) (fun _ _ _ _ _ h => h) hD (by omega) (fun _ => rfl) ?_ ?_⟩
      · intro i H3 hi e
        have hi : i < ps.length - sn := by omega
        have hyi : y + i < ps.length := by omega
        obtain ⟨p, hp⟩ : ∃ p, ps[y + i]? = some p := ⟨_, List.getElem?_eq_getElem hyi⟩
        have pm := List.mem_of_getElem? hp
        have pl := mem_le_sum hin.nn pm
        have pn := hin.nn p pm
        have ssz := hin.s1
        have c1 := chs_pos (a := ps.length - 1) (b := y + i) (by omega) (by omega)
        have c2 := chs_le (a := ps.length - 1) (b := y + i) (by omega) (by omega)
        have c3 := chs_le (a := ps.length - 1 - sn) (b := i) (by omega) (by omega)
        rw [getD_get hp]
        obtain ⟨R0, hR⟩ : ∃ R : VK, R = fun v H' => v = .int (p * ((ordF (ps.length - 1) ps.length / chs (ps.length - 1) (y + i) : Nat) : Int) * ((chs (ps.length - 1 - sn) i : Nat) : Int)) ∧ H' = H3 := ⟨_, rfl⟩
        refine ⟨R0, ?_, fun v H' h => by rw [hR] at h; obtain ⟨rfl, rfl⟩ := h; exact ⟨Ex.refl _, rfl⟩⟩
        walk_at "rd"
        refine ⟨_, hrow.kp e.kp, fun v ⟨q, ev, hS⟩ => ?_⟩
        subst ev
        have ei : (y : Int) + (i : Int) = ((y + i : Nat) : Int) := by omega
        rw [ei]
        refine q_ixT hS (at_of (v := .int p) (j := y + i) rfl (by simp [hp])) ?_
        walk_at "rd"
        refine ⟨_, hrow.kp e.kp, ?_⟩
        rw [en]
        refine ⟨_, _, rfl, comb_ok (by omega) (by omega), ?_⟩
        rw [comb_chs (by omega) (by omega)]
        walk_at "rd"
        have dv : ((ordF (ps.length - 1) ps.length : Nat) : Int) / ((chs (ps.length - 1) (y + i) : Nat) : Int) = ((ordF (ps.length - 1) ps.length / chs (ps.length - 1) (y + i) : Nat) : Int) := by simp
        rw [dv]
        have dl := Nat.div_le_self (ordF (ps.length - 1) ps.length) (chs (ps.length - 1) (y + i))
        have dl2 := Nat.lt_of_le_of_lt dl o1.2
        clear dl dv
        generalize ordF (ps.length - 1) ps.length / chs (ps.length - 1) (y + i) = u at *
        refine ⟨⟨by omega, log_lt (Nat.lt_of_lt_of_le (show (((chs (ps.length - 1) (y + i) : Nat) : Int)).natAbs < 2 ^ 10 by rw [Int.natAbs_natCast]; omega) (Nat.pow_le_pow_right (by decide) (by decide)))⟩, cmulR, ?_⟩
        refine ⟨_, _, rfl, comb_ok (by omega) (by omega), ?_⟩
        rw [comb_chs (by omega) (by omega)]
        walk_at "rd"
        refine ⟨cmulR, ?_⟩
        rw [hR]
        exact ⟨rfl, rfl⟩
      · intro H3 ys e hys hl hr2
        have ey : ys = (bhL ps sn y).map V.int := by
          apply List.ext_getElem?
          intro i
          by_cases hi : i < ys.length
          · rw [List.getElem?_eq_getElem hi, hr2 i _ (List.getElem?_eq_getElem hi)]
            simp [bhL, show i < ps.length - sn by omega]
          · rw [List.getElem?_eq_none (by omega), List.getElem?_eq_none (by simp [bhL]; omega)]
        rw [ey] at hys
        have lb : (bhL ps sn y).length = ps.length - sn := by simp [bhL]
        walk_at "rd"
        refine ⟨Dd, _, rfl, .of hys, by rw [lb]; omega, fun m hm hmx => ?_⟩
        walk_at "rd"
        rcases rk0 with rok | z0
        · obtain ⟨r0, r1, r2, r3, r4⟩ := id rok
          have m0 : m ≠ 0 := by
            intro z
            subst z
            have all0 : ∀ c ∈ bhL ps sn y, c = 0 := fun c hc => by
              have := hmx c hc
              have := r2 c hc
              omega
            have : gcdL (bhL ps sn y) = 0 := by
              have h := dvd_gcdL (cs := bhL ps sn y) (d := 0) fun c hc => by rw [all0 c hc]; exact Int.dvd_refl _
              exact Nat.eq_zero_of_zero_dvd h
            omega
          rw [if_neg m0]
          refine ⟨Dd, _, rfl, .of hys, fun q H4 n4 e4 t4 => ?_⟩
          exact ⟨_, ⟨q, rfl, .of t4⟩, rok, fun z H5 e5 h5 => k rok _ _ ((e.trans e4).trans e5) h5⟩
        · rw [if_pos (z0 m hm)]
          exact k2 z0 _ e
theorem IsFr.kn {H H' : Hp} {x : V} {r : Rat} (h : IsFr K H x r) (e : KpN H H') : IsFr K H' x r := by
  obtain ⟨p, rfl, h⟩ := h
  exact ⟨p, rfl, sqT_kn h e⟩
theorem IsInts.kn {H H' : Hp} {x : V} {cs : List Int} (h : IsInts K H x cs) (e : KpN H H') : IsInts K H' x cs := by
  obtain ⟨p, rfl, h⟩ := h
  exact ⟨p, rfl, sqT_kn h e⟩
theorem IsRow.kn {C : Addr} {H H' : Hp} {x : V} {ps : List Int} (h : IsRow K C H x ps) (e : KpN H H') : IsRow K C H' x ps := by
  obtain ⟨a, dx, q, rfl, h1, h2⟩ := h
  exact ⟨a, dx, q, rfl, e _ _ h1 (fun _ z => nomatch z) (fun _ z => nomatch z), sqT_kn h2 e⟩
theorem FrsAt.kn {H H' : Hp} {xs : List V} {rs : List Rat} (h : FrsAt K H xs rs) (e : KpN H H') : FrsAt K H' xs rs :=
  ⟨h.1, fun i x hx => let ⟨r, h1, h2⟩ := h.2 i x hx; ⟨r, h1, h2.kn e⟩⟩
end

section
variable {P : Program} {w : World} {K : PySem.W.Frag} {mg : Str → Option Value} {base : Heap}
theorem wholeW_prop {cs : List Int} {W : Int} (h : 0 < W) : plainL (wholeW (cs.map fun c => ((c : Int) : Rat) / ((W : Int) : Rat))) = plainL cs := by
  have hB := lcmL_pos (cs.map fun c => ((c : Int) : Rat) / ((W : Int) : Rat))
  refine plainL_prop (a := W) (b := ((lcmL (cs.map fun c => ((c : Int) : Rat) / ((W : Int) : Rat)) : Nat) : Int)) h (by omega) ?_
  conv => lhs; arg 2; unfold wholeW
  rw [List.map_map, List.map_map]
  apply List.map_congr_left
  intro p hp
  show W * (((p : Rat) / (W : Rat)).num * _) = _
  have hm : ((p : Int) : Rat) / ((W : Int) : Rat) ∈ (cs.map fun c => ((c : Int) : Rat) / ((W : Int) : Rat)) := List.mem_map.mpr ⟨p, hp, rfl⟩
  have e := frac_mul (p := p) h
  have hd := lcmL_dvd hm
  have hp := den_pos (((p : Int) : Rat) / ((W : Int) : Rat))
  generalize ((lcmL (cs.map fun c => ((c : Int) : Rat) / ((W : Int) : Rat)))) = L at *
  generalize hq : (((p : Int) : Rat) / ((W : Int) : Rat)).den = d at *
  generalize (((p : Int) : Rat) / ((W : Int) : Rat)).num = t at *
  obtain ⟨m, rfl⟩ := hd
  rw [Int.natCast_mul, Int.mul_ediv_cancel_left _ (by omega)]
  grind
theorem bh_scale (g : Int) (ps : List Int) (s y : Nat) : bhL (ps.map (g * ·)) s y = (bhL ps s y).map (g * ·) := by
  unfold bhL
  rw [List.map_map, List.length_map]
  apply List.map_congr_left
  intro k _
  have e : (ps.map (g * ·)).getD (y + k) 0 = g * ps.getD (y + k) 0 := by
    rw [List.getD_eq_getElem?_getD, List.getD_eq_getElem?_getD, List.getElem?_map]
    cases ps[y + k]? <;> simp
  rw [e]
  simp only [Function.comp]
  rw [Int.mul_assoc, Int.mul_assoc, Int.mul_assoc]
theorem bh_plain {cs : List Int} (g : 0 < gcdL cs) (s y : Nat) : (bhL (plainL cs) s y).map (((gcdL cs : Nat) : Int) * ·) = bhL cs s y := by
  rw [← bh_scale, plainL_mul]
theorem bh_len (ps : List Int) (s y : Nat) : (bhL ps s y).length = ps.length - s := by simp [bhL]
theorem ord_mul : ∀ n < 6, ∀ y < n + 1, 0 < chs n y ∧ chs n y ≤ 10 ∧ chs n y * (ordF n (n + 1) / chs n y) = ordF n (n + 1) ∧ 0 < ordF n (n + 1) / chs n y ∧ ordF n (n + 1) / chs n y < 100 := by decide +kernel
theorem ord_mulL {l y : Nat} (l0 : 1 ≤ l) (l1 : l ≤ 6) (hy : y < l) : 0 < chs (l - 1) y ∧ chs (l - 1) y ≤ 10 ∧ chs (l - 1) y * (ordF (l - 1) l / chs (l - 1) y) = ordF (l - 1) l ∧ 0 < ordF (l - 1) l / chs (l - 1) y ∧ ordF (l - 1) l / chs (l - 1) y < 100 := by
  have h := ord_mul (l - 1) (by omega) y (by omega)
  rw [show l - 1 + 1 = l by omega] at h
  exact h
theorem bh_get {ps : List Int} {s y k : Nat} (hk : k < ps.length - s) : (bhL ps s y).getD k 0 = ps.getD (y + k) 0 * ((ordF (ps.length - 1) ps.length / chs (ps.length - 1) (y + k) : Nat) : Int) * ((chs (ps.length - 1 - s) k : Nat) : Int) := by
  unfold bhL
  rw [List.getD_eq_getElem?_getD, List.getElem?_map, List.getElem?_range hk]
  rfl
theorem bh_each {ps : List Int} {m n s y : Nat} (h : PR m n ps) (hs : 1 ≤ s) : ∀ c ∈ bhL ps s y, 0 ≤ c ∧ c.natAbs < 2 ^ (n + 11) := by
  have l := h.len
  have m0 := h.m0
  have m1 := h.m1
  have o := ord_small (n := ps.length - 1) (m := ps.length) (by omega) (by omega)
  intro c hc
  obtain ⟨k, hk, rfl⟩ := List.mem_map.mp hc
  have hk := List.mem_range.mp hk
  have gp : 0 ≤ ps.getD (y + k) 0 ∧ (ps.getD (y + k) 0).natAbs < 2 ^ n := by
    rw [List.getD_eq_getElem?_getD]
    cases hq : ps[y + k]? with
    | none => exact ⟨Int.le_refl 0, Nat.two_pow_pos _⟩
    | some p =>
      have pm := List.mem_of_getElem? hq
      have h1 := mem_le_sum h.nn pm
      have h2 := h.nn p pm
      have h3 := h.s1
      exact ⟨h2, by simp only [Option.getD_some]; omega⟩
  have c3 := chs_le (a := ps.length - 1 - s) (b := k) (by omega) (by omega)
  have dl := Nat.lt_of_le_of_lt (Nat.div_le_self (ordF (ps.length - 1) ps.length) (chs (ps.length - 1) (y + k))) o.2
  refine ⟨Int.mul_nonneg (Int.mul_nonneg gp.1 (Int.natCast_nonneg _)) (Int.natCast_nonneg _), ?_⟩
  refine wide_lt (a := n + 7) (b := 4) (wide_lt (a := n) (b := 7) gp.2 ?_) ?_
  · rw [Int.natAbs_natCast]
    exact Nat.lt_trans dl (by decide)
  · rw [Int.natAbs_natCast]
    omega
theorem sum_lt {b : Nat} : ∀ {l : List Int}, (∀ c ∈ l, 0 ≤ c ∧ c.natAbs < 2 ^ b) → 0 ≤ l.sum ∧ l.sum.natAbs ≤ l.length * 2 ^ b
  | [], _ => by simp
  | c :: l, h => by
    obtain ⟨h1, h2⟩ := sum_lt (l := l) fun x hx => h x (by simp [hx])
    obtain ⟨h3, h4⟩ := h c (by simp)
    rw [List.sum_cons, List.length_cons, Nat.add_mul, Nat.one_mul]
    omega
theorem bh_facts {ps : List Int} {m n s y : Nat} (h : PR m n ps) (hn : n ≤ 600) (hs : 1 ≤ s) (hsm : s + 1 < m) : 0 ≤ (bhL ps s y).sum ∧ (bhL ps s y).sum.natAbs < 2 ^ (n + 14) ∧ ((bhL ps s y).sum = 0 → ∀ c ∈ bhL ps s y, c = 0) ∧
    (0 < (bhL ps s y).sum → RowOk (bhL ps s y) ∧ PR (m - s) (n + 14) (plainL (bhL ps s y)) ∧ 0 < gcdL (bhL ps s y)) := by
  have l := h.len
  have m1 := h.m1
  have each := bh_each (y := y) h hs
  obtain ⟨h1, h2⟩ := sum_lt each
  have nn : ∀ c ∈ bhL ps s y, 0 ≤ c := fun c hc => (each c hc).1
  have lt : (bhL ps s y).sum.natAbs < 2 ^ (n + 14) := by
    rw [bh_len] at h2
    have e : 2 ^ (n + 14) = 8 * 2 ^ (n + 11) := by rw [show n + 14 = (n + 11) + 3 by omega, Nat.pow_add]; omega
    have : (ps.length - s) * 2 ^ (n + 11) ≤ 5 * 2 ^ (n + 11) := Nat.mul_le_mul_right _ (by omega)
    have := Nat.two_pow_pos (n + 11)
    omega
  refine ⟨h1, lt, fun z c hc => ?_, fun p => ?_⟩
  · have := mem_le_sum nn hc
    have := nn c hc
    omega
  · obtain ⟨c, hc, c0⟩ := sum_pos_ex nn p
    have g : 0 < gcdL (bhL ps s y) := gcdL_pos ⟨c, hc, by omega⟩
    exact ⟨ok_of (by rw [bh_len]; omega) (by rw [bh_len]; omega) nn p lt (by omega), PR.of (by rw [bh_len]; omega) (by omega) (by omega) nn p lt, g⟩
end

section
/-! ### what is left behind so many draws, and the chance of the next one -/
/-- the row behind s draws, y of them yes, of any s -/
def rsL (ps : List Int) (s y : Nat) : List Int := if s = 0 then ps else plainL (bhL ps s y)
/-- the chance of any one order of s draws, y of them yes -/
def chR (ps : List Int) (s y : Nat) : Rat := (((bhL ps s y).sum : Int) : Rat) / ((ps.sum * ((ordF (ps.length - 1) ps.length : Nat) : Int) : Int) : Rat)
theorem chs_rec : ∀ r < 6, ∀ k < r + 1, k * chs r k = r * (if k = 0 then 0 else chs (r - 1) (k - 1)) ∧ (r - k) * chs r k = r * chs (r - 1) k := by decide +kernel
theorem bh_sum (ps : List Int) (s y : Nat) : (bhL ps s y).sum = ((List.range (ps.length - s)).map fun k => ps.getD (y + k) 0 * ((ordF (ps.length - 1) ps.length / chs (ps.length - 1) (y + k) : Nat) : Int) * ((chs (ps.length - 1 - s) k : Nat) : Int)).sum := rfl
theorem range_sum_split (f : Nat → Int) : ∀ n, ((List.range (n + 1)).map f).sum = f 0 + ((List.range n).map fun k => f (k + 1)).sum := by
  intro n
  rw [List.range_succ_eq_map, List.map_cons, List.sum_cons, List.map_map]
  rfl
theorem range_sum_congr {f g : Nat → Int} {n : Nat} (h : ∀ k < n, f k = g k) : ((List.range n).map f).sum = ((List.range n).map g).sum := by
  congr 1
  exact List.map_congr_left fun k hk => h k (List.mem_range.mp hk)
theorem range_sum_mul (c : Int) (f : Nat → Int) (n : Nat) : c * ((List.range n).map f).sum = ((List.range n).map fun k => c * f k).sum := by
  rw [← sum_scale, List.map_map]
  rfl
/-- the yes among what is left -/
theorem bh_yes {ps : List Int} {s y : Nat} (l1 : ps.length ≤ 6) (hs : s + 1 < ps.length) : ((bhL ps s y).mapIdx fun k c => c * (k : Int)).sum = ((ps.length - 1 - s : Nat) : Int) * (bhL ps (s + 1) (y + 1)).sum := by
  have e : (bhL ps s y).mapIdx (fun k c => c * (k : Int)) = (List.range (ps.length - s)).map fun k => ps.getD (y + k) 0 * ((ordF (ps.length - 1) ps.length / chs (ps.length - 1) (y + k) : Nat) : Int) * ((chs (ps.length - 1 - s) k : Nat) : Int) * (k : Int) := by
    apply List.ext_getElem?
    intro i
    unfold bhL
    by_cases hi : i < ps.length - s
    · simp [hi]
    · rw [List.getElem?_eq_none (by simp; omega), List.getElem?_eq_none (by simp; omega)]
  obtain ⟨r, hr⟩ : ∃ r, ps.length - s = r + 1 + 1 := ⟨ps.length - s - 2, by omega⟩
  rw [e, bh_sum, hr, range_sum_split, range_sum_mul]
  have e2 : ps.length - (s + 1) = r + 1 := by omega
  have e3 : ps.length - 1 - s = r + 1 := by omega
  have e4 : ps.length - 1 - (s + 1) = r := by omega
  rw [e2, e3, e4]
  simp only [Int.natCast_zero, Int.mul_zero, Int.zero_add]
  apply range_sum_congr
  intro k hk
  have c := (chs_rec (r + 1) (by omega) (k + 1) (by omega)).1
  rw [if_neg (by omega)] at c
  simp only [Nat.add_sub_cancel] at c
  have c2 : (((k + 1 : Nat) : Int)) * ((chs (r + 1) (k + 1) : Nat) : Int) = ((r + 1 : Nat) : Int) * ((chs r k : Nat) : Int) := by
    rw [← Int.natCast_mul, ← Int.natCast_mul, c]
  rw [show y + (k + 1) = y + 1 + k by omega]
  generalize ps.getD (y + 1 + k) 0 * ((ordF (ps.length - 1) ps.length / chs (ps.length - 1) (y + 1 + k) : Nat) : Int) = u
  generalize ((chs (r + 1) (k + 1) : Nat) : Int) = a at *
  generalize ((chs r k : Nat) : Int) = b at *
  rw [Int.mul_assoc, Int.mul_comm a, c2]
  grind
/-- .. and the no -/
theorem bh_no {ps : List Int} {s y : Nat} (l1 : ps.length ≤ 6) (hs : s + 1 < ps.length) : ((ps.length - 1 - s : Nat) : Int) * (bhL ps s y).sum = ((ps.length - 1 - s : Nat) : Int) * (bhL ps (s + 1) (y + 1)).sum + ((ps.length - 1 - s : Nat) : Int) * (bhL ps (s + 1) y).sum := by
  rw [← bh_yes l1 hs]
  have e : (bhL ps s y).mapIdx (fun k c => c * (k : Int)) = (List.range (ps.length - s)).map fun k => ps.getD (y + k) 0 * ((ordF (ps.length - 1) ps.length / chs (ps.length - 1) (y + k) : Nat) : Int) * ((chs (ps.length - 1 - s) k : Nat) : Int) * (k : Int) := by
    apply List.ext_getElem?
    intro i
    unfold bhL
    by_cases hi : i < ps.length - s
    · simp [hi]
    · rw [List.getElem?_eq_none (by simp; omega), List.getElem?_eq_none (by simp; omega)]
  obtain ⟨r, hr⟩ : ∃ r, ps.length - s = r + 1 + 1 := ⟨ps.length - s - 2, by omega⟩
  have e2 : ps.length - (s + 1) = r + 1 := by omega
  have e3 : ps.length - 1 - s = r + 1 := by omega
  have e4 : ps.length - 1 - (s + 1) = r := by omega
  rw [e, bh_sum, bh_sum, hr, e2, e3, e4]
  have key : ∀ k < r + 1 + 1, (fun k => ((r + 1 : Nat) : Int) * (ps.getD (y + k) 0 * ((ordF (ps.length - 1) ps.length / chs (ps.length - 1) (y + k) : Nat) : Int) * ((chs (r + 1) k : Nat) : Int))) k = (fun k => ps.getD (y + k) 0 * ((ordF (ps.length - 1) ps.length / chs (ps.length - 1) (y + k) : Nat) : Int) * ((chs (r + 1) k : Nat) : Int) * (k : Int) + ((r + 1 : Nat) : Int) * (ps.getD (y + k) 0 * ((ordF (ps.length - 1) ps.length / chs (ps.length - 1) (y + k) : Nat) : Int) * ((chs r k : Nat) : Int))) k := by
    intro k hk
    have c := (chs_rec (r + 1) (by omega) k (by omega)).2
    have c2 : (((r + 1 : Nat) : Int) - (k : Int)) * ((chs (r + 1) k : Nat) : Int) = ((r + 1 : Nat) : Int) * ((chs r k : Nat) : Int) := by
      rw [← Int.natCast_sub (by omega), ← Int.natCast_mul, ← Int.natCast_mul, c]
      rfl
    show ((r + 1 : Nat) : Int) * (ps.getD (y + k) 0 * ((ordF (ps.length - 1) ps.length / chs (ps.length - 1) (y + k) : Nat) : Int) * ((chs (r + 1) k : Nat) : Int)) = ps.getD (y + k) 0 * ((ordF (ps.length - 1) ps.length / chs (ps.length - 1) (y + k) : Nat) : Int) * ((chs (r + 1) k : Nat) : Int) * (k : Int) + ((r + 1 : Nat) : Int) * (ps.getD (y + k) 0 * ((ordF (ps.length - 1) ps.length / chs (ps.length - 1) (y + k) : Nat) : Int) * ((chs r k : Nat) : Int))
    generalize ps.getD (y + k) 0 * ((ordF (ps.length - 1) ps.length / chs (ps.length - 1) (y + k) : Nat) : Int) = u
    generalize ((chs (r + 1) k : Nat) : Int) = a at *
    generalize ((chs r k : Nat) : Int) = b at *
    generalize ((r + 1 : Nat) : Int) = n at *
    grind
  have addS : ∀ (f g : Nat → Int) (n : Nat), ((List.range n).map fun k => f k + g k).sum = ((List.range n).map f).sum + ((List.range n).map g).sum := by
    intro f g n
    induction n with
    | zero => rfl
    | succ n ih =>
      rw [List.range_succ, List.map_append, List.map_append, List.map_append, List.sum_append, List.sum_append, List.sum_append, ih]
      simp only [List.map_cons, List.map_nil, List.sum_cons, List.sum_nil, Int.add_zero]
      omega
  rw [range_sum_mul, range_sum_congr key, addS]
  congr 1
  have last : ps.getD (y + (r + 1)) 0 * ((ordF (ps.length - 1) ps.length / chs (ps.length - 1) (y + (r + 1)) : Nat) : Int) * ((chs r (r + 1) : Nat) : Int) = 0 := by
    have : chs r (r + 1) = 0 := by
      have h : ∀ r < 6, chs r (r + 1) = 0 := by decide +kernel
      exact h r (by omega)
    rw [this]
    simp
  rw [List.range_succ, List.map_append, List.sum_append]
  simp only [List.map_cons, List.map_nil, List.sum_cons, List.sum_nil, Int.add_zero]
  rw [last, Int.mul_zero, Int.add_zero, range_sum_mul]
end

section
variable {P : Program} {w : World} {K : PySem.W.Frag} {mg : Str → Option Value} {base : Heap}
/-! ### own classes by their promises: properties, methods, new ones, len -/
def PropT (P : Program) (w : World) (K : PySem.W.Frag) (mg : Str → Option Value) (base : Heap) (C : Addr) (x : Str) (k : Nat) (sp : Sp) : Prop :=
  Cls K C ∧ ∃ p g fd, PropOf K C x p g ∧ FnOk P w K mg base CX0 k g fd ["self"] sp ∧ Binds K fd ["self"] []
def MethT (P : Program) (w : World) (K : PySem.W.Frag) (mg : Str → Option Value) (base : Heap) (CX : CXT) (C : Addr) (x : Str) (k : Nat) (ps : List Str) (sp : Sp) : Prop :=
  Cls K C ∧ ∃ f fd, Meth K C x f ∧ FnOk P w K mg base CX k f fd ps sp ∧ Binds K fd ps []
def MakeT (P : Program) (w : World) (K : PySem.W.Frag) (mg : Str → Option Value) (base : Heap) (C : Addr) (x : Str) (k : Nat) (ps : List Str) (sp : Sp) : Prop :=
  mg x = some (.ref C) ∧ ∃ f fd, Mk K C f ∧ FnOk P w K mg base CX0 k f fd ps sp ∧ Binds K fd ps []
def LenT (P : Program) (w : World) (K : PySem.W.Frag) (mg : Str → Option Value) (base : Heap) (C : Addr) (sp : Sp) : Prop :=
  Cls K C ∧ ∃ f fd, OwnSp K C "__len__" f ∧ FnOk P w K mg base CX0 1 f fd ["self"] sp ∧ Binds K fd ["self"] []
section
variable {X : Cx} {C : Addr} {x : Str} {k : Nat} {sp : Sp} {ps : List Str} {e : Expr} {es : List Expr} {te : TE} {t : TA} {pos apos : Pos}
theorem kProp (T : PropT P w K mg base C x k sp) (hr : Room (k + 1) X.A) (he : PE X e te) (hx : At X P w K mg base := by exact ⟨rfl, rfl, rfl, rfl, rfl⟩) (hab : attributeBase e x X.env (eval e X.env) = eval e X.env := by rfl) : PE X (.Attribute e x pos) (L2.tProp C sp [] E0 te) := by
  obtain ⟨h1, h2, h3, h4, h5⟩ := hx
  subst h1 h2 h3 h4 h5
  obtain ⟨cl, pr, g, fd, hp, F, hb⟩ := T
  exact pe_prop (X := X) (pos := pos) he cl hp F hr hb .nil (pass0 (X := X.nox)) hab
theorem r_prop {E : XK} {σ : L2.St} {H : Hp} {Q : VK} : L2.tProp C sp [] E te σ H Q = te σ H fun x H1 => ∃ a dx fs, x = .ref a ∧ H1 a = some (.ins C dx fs) ∧ sp [.ref a] H1 Q E := rfl
/-- o.x() that may raise -/
theorem kMeth0X {E : XK} {W : WX} {pl : Sem Bool} (T : MethT P w K mg base (L2.CX P w) C x k ps sp) (tk : Takes X W) (hW : ∀ cls d σ H, E cls d H → W cls d σ H) (hr : Room k X.A) (he : PE X e te) (hx : At X P w K mg base := by exact ⟨rfl, rfl, rfl, rfl, rfl⟩)
    (ht : eval (.Call (.Attribute e x apos) [] [] pos) X.env = (do
      let ov ← eval e X.env
      standAt apos.atName
      let (f, first) ← holding [ov] (getMethod ov x pl)
      callWith pos f first [] []) := by rfl) :
    PE X (.Call (.Attribute e x apos) [] [] pos) (L2.tMeth C x sp [] E te tNil) := by
  obtain ⟨h1, h2, h3, h4, h5⟩ := hx
  subst h1 h2 h3 h4 h5
  obtain ⟨cl, f, fd, m, F, hb⟩ := T
  exact pe_meth0 (pl := pl) he cl m F hr hb .nil (passes_call tk hW) ht
theorem kMethX {E : XK} {W : WX} {e1 : Expr} {pl : Sem Bool} (T : MethT P w K mg base (L2.CX P w) C x k ps sp) (tk : Takes X W) (hW : ∀ cls d σ H, E cls d H → W cls d σ H) (hr : Room k X.A) (he : PE X e te) (ha : PA X (e1 :: es) t) (hx : At X P w K mg base := by exact ⟨rfl, rfl, rfl, rfl, rfl⟩)
    (hst : starEach (e1 :: es) X.env = (false, eval e1 X.env) :: starEach es X.env := by rfl) (hpl : (backTo pos (starEach es X.env)).any (·.1) = false := by rfl)
    (ht : eval (.Call (.Attribute e x apos) (e1 :: es) [] pos) X.env = (do
      let ov ← eval e X.env
      standAt apos.atName
      let (f, first) ← holding [ov] (getMethod ov x pl)
      callWith pos f first (backTo pos (starEach (e1 :: es) X.env)) (backToKw pos (keywordEach [] X.env))) := by rfl) :
    PE X (.Call (.Attribute e x apos) (e1 :: es) [] pos) (L2.tMeth C x sp [] E te t) := by
  obtain ⟨h1, h2, h3, h4, h5⟩ := hx
  subst h1 h2 h3 h4 h5
  obtain ⟨cl, f, fd, m, F, hb⟩ := T
  exact pe_meth (pl := pl) he cl m F hr hb .nil (passes_call tk hW) ha hst hpl ht
theorem r_meth {E : XK} {σ : L2.St} {H : Hp} {Q : VK} : L2.tMeth C x sp [] E te t σ H Q = te σ H fun v H1 => ∃ a dx fs, v = .ref a ∧ H1 a = some (.ins C dx fs) ∧ fs.lookup x = none ∧ t σ H1 fun vs H2 => sp (v :: (vs ++ [])) H2 Q E := rfl
theorem kMake {e1 : Expr} {p : Pos} (T : MakeT P w K mg base C x k ps sp) (hr : Room (k + 1) X.A) (ha : PA X (e1 :: es) t) (hx : At X P w K mg base := by exact ⟨rfl, rfl, rfl, rfl, rfl⟩) (hg : Gl X x := by rfl) (hdb : (x == ("__debug__" : Str)) = false := by decide)
    (he : starEach (e1 :: es) X.env = (false, eval e1 X.env) :: starEach es X.env := by rfl) (hpl : (backTo pos (starEach es X.env)).any (·.1) = false := by rfl) :
    PE X (.Call (.Name x p) (e1 :: es) [] pos) (L2.tMake C sp [] E0 t) := by
  obtain ⟨h1, h2, h3, h4, h5⟩ := hx
  subst h1 h2 h3 h4 h5
  obtain ⟨hm, f, fd, M, F, hb⟩ := T
  exact pe_make (X := X) (p := p) (pos := pos) M F hr hg hm hb .nil (pass0 (X := X)) ha hdb he hpl
theorem r_make {E : XK} {σ : L2.St} {H : Hp} {Q : VK} : L2.tMake C sp [] E t σ H Q = t σ H fun vs H1 => ∀ x dx, H1 x = none → H1 dx = none → dx ≠ x → sp (.ref x :: (vs ++ [])) (upd (upd H1 dx (.own x)) x (.ins C dx [])) (fun v H2 => v = .non ∧ Q (.ref x) H2) E := rfl
/-- a call of a def of one argument from a built-in -/
theorem own_run {f a : Addr} {fd : FuncData} {k : Nat} {sp : Sp} {A : Around} {pins : List (Addr × Obj)} {s : Shared} {σ : L2.St} {H : Hp} {Q : VK} (F : FnOk X.prog X.w X.K X.mg X.base CX0 k f fd ["self"] sp) (hb : Binds X.K fd ["self"] []) (I : Inv X pins σ H s) (hr : Room k A) (he : Env0 X.prog X.w X.K X.mg X.base A X.stack s H) (rx : RelV (V.ref a) (Value.ref a)) (h : sp [.ref a] H Q E0)
    {QQ : Value → Shared → Prop} {EE : Value → Shared → Prop} (hk : ∀ u s', EP X pins σ Q u s' → QQ u s') : wpAny (model X.prog X.w) A (call (.ref f) [.ref a]) QQ EE s := by
  have bnd := hb s [.ref a] I.kIn rfl
  rw [List.append_nil] at bnd
  refine wpAny_call (codeAny_mono (F.run A X.stack s H ⟨[.ref a], []⟩ [.ref a] [.ref a] Q E0 hr he bnd (.cons rx .nil) h) fun res s' hq => ?_)
  cases res with
  | error er => exact (show False from hq).elim
  | ok fl =>
    cases fl with
    | next => exact hq.elim
    | brk => exact hq.elim
    | cont => exact hq.elim
    | ret z => exact hk _ _ (I.after hq)
def rLenOwn (C : Addr) (sp : Sp) : List V → Hp → VK → Prop := fun vs H Q => ∃ a dx fs, vs = [.ref a] ∧ H a = some (.ins C dx fs) ∧ sp [.ref a] H (fun v H' => ∃ n : Nat, v = .int n ∧ n < 1000 ∧ Q v H') E0
theorem cr_lenOwn (T : LenT X.prog X.w X.K X.mg X.base C sp) (hr : Room 2 X.A) : CallR X (.builtin "len") (rLenOwn C sp) := by
  intro pins s σ H xs us Q I r h
  obtain ⟨a, dx, fs, rfl, hA, h⟩ := h
  obtain ⟨u, rfl, ru⟩ := vals1 r
  obtain rfl : u = Value.ref a := ru
  obtain ⟨cl, f, fd, S, F, hb⟩ := T
  obtain ⟨mA, OA, _⟩ := ins_get I.hok hA
  have KI := I.kIn
  have J := I
  obtain ⟨hp, g, d, tk, os⟩ := s
  refine len_own (S.at KI OA.obj rfl obj_len) ?_
  refine own_run F hb J hr.in1 J.env0.in1 rfl h fun z s' hz => ?_
  obtain ⟨v, H', I', rz, n, ez, hn, q⟩ := hz
  subst ez
  obtain ⟨tt, rfl⟩ := rz
  exact ⟨_, _, rfl, by omega, by omega, .int _, H', I'.tok _, ⟨_, rfl⟩, q⟩
theorem kLenOwn (T : LenT P w K mg base C sp) (hr : Room 2 X.A) (hx : At X P w K mg base := by exact ⟨rfl, rfl, rfl, rfl, rfl⟩) : CallR X (.builtin "len") (rLenOwn C sp) := by
  obtain ⟨h1, h2, h3, h4, h5⟩ := hx
  subst h1 h2 h3 h4 h5
  exact cr_lenOwn T hr
end
end

local macro_rules | `(tactic| walk_at "rd") => `(tactic| try simp only [r_seq, r_asg, r_name, r_ifS, r_next, r_ret, r_retN, r_drop, r_test, r_B, r_if, r_cons, r_nil, r_cb, r_tF, r_part, r_nopart, r_sl, r_par, r_chain, r_or, r_and, r_not, r_orV, r_andV, r_notV, r_op, r_un, r_var, r_c, r_yes, r_I0, r_I, r_U, r_eqI, r_neI, r_eqS, r_neS, r_lst, r_tup, r_for, r_lc, r_list, r_tupI, r_rng1, r_rng2, r_enumT, r_bm, r_fld, r_subT, r_gtup, r_gcons, r_gnil, r_K0, r_K, r_Kb, r_Kbb, wipe, r_never, not_true_eq_false, not_false_eq_true, Int.zero_add, r_counts, r_draws, r_rates, r_row, r_len, r_sfld, r_zipB, r_revT, r_tW, r_seqI, r_prop, r_meth, r_make, r_star, r_tupF, r_tc,
  L2.start, List.map_cons, List.map_nil, List.length_cons, List.length_nil, Nat.reduceAdd, Nat.reduceSub, List.reduceReplicate, List.cons_append, List.nil_append, List.set_cons_zero, List.set_cons_succ, List.getElem?_cons_zero, List.getElem?_cons_succ, Option.some.injEq, exists_eq_left', exists_eq_left, exists_eq_right, exists_eq_right', V.int.injEq, V.ref.injEq, V.bl.injEq, V.str.injEq, List.cons.injEq, and_true, true_and, and_false, false_and, or_false, false_or, exists_false, exists_const, and_assoc, reduceCtorEq, if_true, if_false, Bool.false_eq_true, Bool.not_true, Bool.not_false, Bool.not_eq_true', decide_eq_true_eq, decide_eq_false_iff_not, exists_and_left, exists_and_right, exists_eq_or_imp])
section
variable {P : Program} {w : World} {K : PySem.W.Frag} {mg : Str → Option Value} {base : Heap}
/-! ### Watch -/
structure WatchC (K : PySem.W.Frag) (mg : Str → Option Value) (CW : Addr) : Prop where
  cl : Cls K CW
  nR : NoAttr K CW "_row"
  nO : NoAttr K CW "_outcomes"
/-- the object at b watches the row x with the counts ps and has seen sn -/
def IsWatch (K : PySem.W.Frag) (C CW : Addr) (H : Hp) (b : Addr) (x : V) (ps : List Int) (sn : List Bool) : Prop :=
  ∃ dx T, H b = some (.ins CW dx [("_row", x), ("_outcomes", .ref T)]) ∧ IsRow K C H x ps ∧ TupO H T (sn.map V.bl)
theorem IsWatch.kp {C CW b : Addr} {x : V} {H H' : Hp} {ps : List Int} {sn : List Bool} (h : IsWatch K C CW H b x ps sn) (e : Kp H H') : IsWatch K C CW H' b x ps sn := by
  obtain ⟨dx, T, h1, h2, h3⟩ := h
  exact ⟨dx, T, e _ _ h1 (fun _ z => nomatch z), h2.kp e, h3.kp e⟩
/-- all but b is kept -/
def But1 (b : Addr) (H H' : Hp) : Prop := ∀ a o, a ≠ b → H a = some o → H' a = some o
theorem But1.of {b : Addr} {H H' : Hp} (e : Ex H H') : But1 b H H' := fun a o _ h => e a o h
theorem But1.trans {b : Addr} {H H1 H2 : Hp} (x : But1 b H H1) (y : But1 b H1 H2) : But1 b H H2 := fun a o n h => y a o n (x a o n h)
theorem But1.upd {b : Addr} {H H1 : Hp} {o : HO} (x : But1 b H H1) : But1 b H (L2.upd H1 b o) := fun a u n h => by
  rw [upd_ne n]
  exact x a u n h
theorem IsRow.but {C b dxb : Addr} {H H' : Hp} {x : V} {ps : List Int} {CW : Addr} {fs : List (Str × V)} (h : IsRow K C H x ps) (hb : H b = some (.ins CW dxb fs)) (n : x ≠ .ref b) (e : But1 b H H') : IsRow K C H' x ps := by
  obtain ⟨a, dx, q, rfl, h1, h2⟩ := h
  refine ⟨a, dx, q, rfl, e _ _ (fun z => n (by rw [z])) h1, ?_⟩
  rcases h2 with (h | ⟨o, h⟩) | h
  · exact .inl (.inl (e _ _ (fun z => by rw [z, hb] at h; cases h) h))
  · exact .inl (.inr ⟨o, e _ _ (fun z => by rw [z, hb] at h; cases h) h⟩)
  · exact .inr h
theorem sqT_but {b dxb : Addr} {H H' : Hp} {T : Addr} {xs : List V} {CW : Addr} {fs : List (Str × V)} (h2 : SqT K H T xs) (hb : H b = some (.ins CW dxb fs)) (e : But1 b H H') : SqT K H' T xs := by
  rcases h2 with (h | ⟨o, h⟩) | h
  · exact .inl (.inl (e _ _ (fun z => by rw [z, hb] at h; cases h) h))
  · exact .inl (.inr ⟨o, e _ _ (fun z => by rw [z, hb] at h; cases h) h⟩)
  · exact .inr h
theorem TupO.but {b dxb : Addr} {H H' : Hp} {T : Addr} {xs : List V} {CW : Addr} {fs : List (Str × V)} (h2 : TupO H T xs) (hb : H b = some (.ins CW dxb fs)) (e : But1 b H H') : TupO H' T xs := by
  obtain ⟨o, h, d⟩ := h2
  exact ⟨o, e _ _ (fun z => by rw [z, hb] at h; cases h) h, d⟩
theorem look_row (x : V) (T : Addr) : List.lookup ("_row" : Str) [(("_row" : Str), x), (("_outcomes" : Str), V.ref T)] = some x := by simp [List.lookup]
theorem look_out (x : V) (T : Addr) : List.lookup ("_outcomes" : Str) [(("_row" : Str), x), (("_outcomes" : Str), V.ref T)] = some (.ref T) := by
  have : (("_outcomes" : Str) == ("_row" : Str)) = false := by decide
  simp [List.lookup, this]
theorem put_out (x : V) (T : Addr) (y : V) : putF ("_outcomes" : Str) y [(("_row" : Str), x), (("_outcomes" : Str), V.ref T)] = [(("_row" : Str), x), (("_outcomes" : Str), y)] := by
  have h1 : (("_outcomes" : Str) == ("_row" : Str)) = false := by decide
  have h2 : ¬ (("_row" : Str) = ("_outcomes" : Str)) := by decide
  simp [putF, h1, h2]
def spWInit (K : PySem.W.Frag) (C CW : Addr) : Sp := fun vs H Q _ => ∃ (b dx : Addr) (x : V) (ps : List Int), vs = [.ref b, x] ∧ H b = some (.ins CW dx []) ∧ IsRow K C H x ps ∧ x ≠ .ref b ∧ ∀ H', But1 b H H' → IsWatch K C CW H' b x ps [] → Q .non H'
theorem ok_winit {C CW f : Addr} {fd : FuncData} (F : Fun K "__init__" "Watch.__init__" (inClass (top 33) 0) f fd) (WC : WatchC K mg CW) (hcheck_row : Has P w K mg base "check_row" 1 ["row"] (spCheckRow K C)) : FnOk P w K mg base CX0 2 f fd ["self", "row"] (spWInit K C CW) := by
  have sc : FnScope ["self", "row"] ["self", "row"] (defScope (inClass (top 33) 0)) := ⟨rfl, rfl, rfl, by decide +kernel, rfl, by decide +kernel, by decide +kernel⟩
  refine F.ok sc (fun vs H Q E h => ?_) (fun cdv A outer s H vs Q E hr h => ?_)
  · obtain ⟨b, dx, x, ps, rfl, _⟩ := h
    rfl
  · obtain ⟨b, dx, x, ps, rfl, hB, hrow, nx, k⟩ := h
    refine ⟨_, (pss_cons (ps_expr (pe_has hcheck_row (hr.mono (by decide)) (pa_cons (pv 1) pa_nil)))
      (pss_cons (ps_fld (pv 0) (pv 1) rfl)
      (pss_one (ps_fld (pv 0) (pe_tupF pa_nil) rfl)))), ?_⟩
    walk_at "rd"
    refine ⟨x, ps, rfl, hrow, ?_⟩
    walk_at "rd"
    refine ⟨_, _, _, hB, WC.cl, WC.nR, (by show 0 < 1000; decide), (by show 0 ≤ sizeLine; decide), fun T H1 n1 e1 t1 => ?_⟩
    have hB1 := e1 _ _ (upd_same (a := b))
    refine ⟨_, _, _, hB1, WC.cl, WC.nO, (by show 1 < 1000; decide), ?_⟩
    have nT : T ≠ b := (ne_of_none (show (upd H b _) b = some _ from upd_same) n1).symm
    have bt : But1 b H (upd H1 b (.ins CW dx [("_row", x), ("_outcomes", .ref T)])) := ((But1.of (Ex.refl H)).upd.trans (.of e1)).upd
    exact k _ bt ⟨dx, T, upd_same, hrow.but hB nx bt, t1.but hB1 (But1.of (Ex.refl H1)).upd⟩
def spWRow (K : PySem.W.Frag) (C CW : Addr) : Sp := fun vs H Q _ => ∃ (b : Addr) (x : V) (ps : List Int) (sn : List Bool), vs = [.ref b] ∧ IsWatch K C CW H b x ps sn ∧ Q x H
theorem ok_wrow {C CW f : Addr} {fd : FuncData} (F : Fun K "row" "Watch.row" (inClass (top 33) 1) f fd) (WC : WatchC K mg CW) : FnOk P w K mg base CX0 1 f fd ["self"] (spWRow K C CW) := by
  have sc : FnScope ["self"] ["self"] (defScope (inClass (top 33) 1)) := ⟨rfl, rfl, rfl, by decide +kernel, rfl, by decide +kernel, by decide +kernel⟩
  refine F.ok sc (fun vs H Q E h => ?_) (fun cdv A outer s H vs Q E hr h => ?_)
  · obtain ⟨b, x, ps, sn, rfl, _⟩ := h
    rfl
  · obtain ⟨b, x, ps, sn, rfl, ⟨dx, T, hB, _⟩, k⟩ := h
    refine ⟨_, (pss_one (ps_ret (kFld (K := K) (pv 0) rfl))), ?_⟩
    walk_at "rd"
    exact ⟨_, _, _, hB, WC.cl, WC.nR, _, look_row x T, k⟩
def spNoted (K : PySem.W.Frag) (C CW : Addr) : Sp := fun vs H Q _ => ∃ (b : Addr) (x : V) (ps : List Int) (sn : List Bool), vs = [.ref b] ∧ IsWatch K C CW H b x ps sn ∧ ∀ T, SqT K H T (sn.map V.bl) → Q (.ref T) H
theorem ok_noted {C CW f : Addr} {fd : FuncData} (F : Fun K "noted" "Watch.noted" (inClass (top 33) 2) f fd) (WC : WatchC K mg CW) : FnOk P w K mg base CX0 1 f fd ["self"] (spNoted K C CW) := by
  have sc : FnScope ["self"] ["self"] (defScope (inClass (top 33) 2)) := ⟨rfl, rfl, rfl, by decide +kernel, rfl, by decide +kernel, by decide +kernel⟩
  refine F.ok sc (fun vs H Q E h => ?_) (fun cdv A outer s H vs Q E hr h => ?_)
  · obtain ⟨b, x, ps, sn, rfl, _⟩ := h
    rfl
  · obtain ⟨b, x, ps, sn, rfl, ⟨dx, T, hB, hR, hT⟩, k⟩ := h
    refine ⟨_, (pss_one (ps_ret (kFld (K := K) (pv 0) rfl))), ?_⟩
    walk_at "rd"
    exact ⟨_, _, _, hB, WC.cl, WC.nO, _, look_out x T, k T hT.sq⟩
def spWLen (K : PySem.W.Frag) (C CW : Addr) : Sp := fun vs H Q _ => ∃ (b : Addr) (x : V) (ps : List Int) (sn : List Bool), vs = [.ref b] ∧ IsWatch K C CW H b x ps sn ∧ Q (.int (sn.length : Nat)) H
theorem ok_wlen {C CW f : Addr} {fd : FuncData} (F : Fun K "__len__" "Watch.__len__" (inClass (top 33) 8) f fd) (B : Bi mg) (WC : WatchC K mg CW) : FnOk P w K mg base CX0 1 f fd ["self"] (spWLen K C CW) := by
  have sc : FnScope ["self"] ["self"] (defScope (inClass (top 33) 8)) := ⟨rfl, rfl, rfl, by decide +kernel, rfl, by decide +kernel, by decide +kernel⟩
  refine F.ok sc (fun vs H Q E h => ?_) (fun cdv A outer s H vs Q E hr h => ?_)
  · obtain ⟨b, x, ps, sn, rfl, _⟩ := h
    rfl
  · obtain ⟨b, x, ps, sn, rfl, ⟨dx, T, hB, hR, hT⟩, k⟩ := h
    refine ⟨_, (pss_one (ps_ret (pe_callB (kLen (K := K)) (by rfl) B.len (by decide +kernel) (pa_cons (kFld (K := K) (pv 0) rfl) pa_nil)))), ?_⟩
    walk_at "rd"
    refine ⟨_, _, _, hB, WC.cl, WC.nO, _, look_out x T, ?_⟩
    walk_at "rd"
    refine ⟨_, .inr hT.sq, ?_⟩
    rw [List.length_map]
    exact k
/-- the yes among what was seen -/
abbrev yesN (sn : List Bool) : Nat := sn.count true
theorem yesN_le (sn : List Bool) : yesN sn ≤ sn.length := List.count_le_length
/-- what was seen has a chance -/
def Live (ps : List Int) (sn : List Bool) : Prop := sn.length + 1 ≤ ps.length ∧ 0 < (bhL ps sn.length (yesN sn)).sum
def spRest (K : PySem.W.Frag) (C CW : Addr) : Sp := fun vs H Q _ => ∃ (b : Addr) (x : V) (ps : List Int) (sn : List Bool) (m n : Nat), vs = [.ref b] ∧ IsWatch K C CW H b x ps sn ∧ PR m n ps ∧ n ≤ 500 ∧ Live ps sn ∧
  (sn.length + 1 = m → Q .non H) ∧ (sn.length + 1 < m → ∀ z H', Ex H H' → IsRow K C H' z (rsL ps sn.length (yesN sn)) → Q z H')
theorem ok_rest {C CW CN f : Addr} {fd : FuncData} (F : Fun K "rest" "Watch.rest" (inClass (top 33) 3) f fd) (B : Bi mg) (WC : WatchC K mg CW) (RT : RowT P w K mg base C) (hbehind : HasX P w K mg base "behind" 5 ["row", "draws", "yes"] (spBehindX K C CN)) : FnOk P w K mg base CX0 6 f fd ["self"] (spRest K C CW) := by
  have sc : FnScope ["self"] ["self"] (defScope (inClass (top 33) 3)) := ⟨rfl, rfl, rfl, by decide +kernel, rfl, by decide +kernel, by decide +kernel⟩
  refine F.ok sc (fun vs H Q E h => ?_) (fun cdv A outer s H vs Q E hr h => ?_)
  · obtain ⟨b, x, ps, sn, m, n, rfl, _⟩ := h
    rfl
  · obtain ⟨b, x, ps, sn, m, n, rfl, ⟨dx, T, hB, hR, hT⟩, pr, hn, ⟨lv1, lv2⟩, k1, k2⟩ := h
    have l := pr.len
    have m0 := pr.m0
    refine ⟨_, (pss_cons (ps_if (pt_cmpR op_eq (pe_callB (kLen (K := K)) (by rfl) B.len (by decide +kernel) (pa_cons (kFld (K := K) (pv 0) rfl) pa_nil)) pe_int (nomark _)) (pss_one (ps_ret (kFld (K := K) (pv 0) rfl))) pss_nil)
      (pss_cons (ps_if (pt_cmpR op_eq (pe_callB (kLen (K := K)) (by rfl) B.len (by decide +kernel) (pa_cons (kFld (K := K) (pv 0) rfl) pa_nil)) (kDraws RT (hr.mono (by decide)) (kFld (K := K) (pv 0) rfl)) (nomark _)) (pss_one (ps_ret pe_non)) pss_nil)
      (pss_one (ps_ret (pe_hasX (E := fun _ _ _ => False) hbehind LamX.takes0 (hr.mono (by decide)) (pa_cons (kFld (K := K) (pv 0) rfl) (pa_cons (pe_callB (kLen (K := K)) (by rfl) B.len (by decide +kernel) (pa_cons (kFld (K := K) (pv 0) rfl) pa_nil)) (pa_cons (kTCount (K := K) (kFld (K := K) (pv 0) rfl) pe_bl) pa_nil)))))))), ?_⟩
    walk_at "rd"
    have F1 := look_row x T
    have F2 := look_out x T
    refine ⟨_, _, _, hB, WC.cl, WC.nO, _, F2, ?_⟩
    walk_at "rd"
    refine ⟨_, .inr hT.sq, ?_⟩
    rw [List.length_map]
    by_cases h0 : sn.length = 0
    · rw [if_pos (by omega)]
      walk_at "rd"
      refine ⟨_, _, _, hB, WC.cl, WC.nR, _, F1, ?_⟩
      have hk := k2 (by omega) x H (Ex.refl H)
      unfold rsL at hk
      rw [if_pos h0] at hk
      exact hk hR
    rw [if_neg (by omega)]
    walk_at "rd"
    refine ⟨_, _, _, hB, WC.cl, WC.nO, _, F2, ?_⟩
    walk_at "rd"
    refine ⟨_, .inr hT.sq, ?_⟩
    walk_at "rd"
    refine ⟨_, _, _, hB, WC.cl, WC.nR, _, F1, ?_⟩
    walk_at "rd"
    refine ⟨_, hR, ?_⟩
    rw [List.length_map]
    walk_at "rd"
    by_cases hl : sn.length + 1 = m
    · rw [if_pos (by omega)]
      exact k1 hl
    rw [if_neg (by omega)]
    unfold tFX
    walk_at "rd"
    refine ⟨_, _, _, hB, WC.cl, WC.nR, _, F1, ?_⟩
    walk_at "rd"
    refine ⟨_, _, _, hB, WC.cl, WC.nO, _, F2, ?_⟩
    walk_at "rd"
    refine ⟨_, .inr hT.sq, ?_⟩
    walk_at "rd"
    refine ⟨_, _, _, hB, WC.cl, WC.nO, _, F2, ?_⟩
    walk_at "rd"
    refine ⟨⟨_, hT⟩, T, sn, true, rfl, rfl, hT.sq, ?_⟩
    rw [List.length_map]
    obtain ⟨b1, b2, b3, b4⟩ := bh_facts (y := yesN sn) pr (by omega) (s := sn.length) (by omega) (by omega)
    obtain ⟨ro, pb, gb⟩ := b4 lv2
    refine ⟨x, ps, sn.length, yesN sn, rfl, hR, pr.inn (by omega), by omega, by omega, yesN_le sn, .inl ro, fun _ z H' e hz => ?_, fun z0 => ?_⟩
    · have hk := k2 (by omega) z H' e
      unfold rsL at hk
      rw [if_neg h0] at hk
      exact hk hz
    · exfalso
      have g := ro.2.2.2.1
      have : gcdL (bhL ps sn.length (yesN sn)) = 0 := by
        have h := dvd_gcdL (cs := bhL ps sn.length (yesN sn)) (d := 0) fun c hc => by rw [z0 c hc]; exact Int.dvd_refl _
        exact Nat.eq_zero_of_zero_dvd h
      omega
def spUndo (K : PySem.W.Frag) (C CW CU : Addr) : Sp := fun vs H Q E => ∃ (b : Addr) (x : V) (ps : List Int) (sn : List Bool), vs = [.ref b] ∧ IsWatch K C CW H b x ps sn ∧ x ≠ .ref b ∧ sn.length ≤ 1000 ∧
  (sn = [] → E (.ref CU) none H) ∧ (sn ≠ [] → ∀ H', But1 b H H' → IsWatch K C CW H' b x ps sn.dropLast → Q .non H')
theorem ok_undo {C CW CU f : Addr} {fd : FuncData} (F : Fun K "undo" "Watch.undo" (inClass (top 33) 5) f fd) (B : Bi mg) (WC : WatchC K mg CW) (eNU : ExcA K CU) (c_NothingToUndo : mg "NothingToUndo" = some (.ref CU)) : FnOk P w K mg base (L2.CX P w) 2 f fd ["self"] (spUndo K C CW CU) := by
  have sc : FnScope ["self"] ["self"] (defScope (inClass (top 33) 5)) := ⟨rfl, rfl, rfl, by decide +kernel, rfl, by decide +kernel, by decide +kernel⟩
  refine F.okX sc (fun vs H Q E h => ?_) (fun cdv A outer s H vs Q E hr h => ?_)
  · obtain ⟨b, x, ps, sn, rfl, _⟩ := h
    rfl
  · obtain ⟨b, x, ps, sn, rfl, ⟨dx, T, hB, hR, hT⟩, nx, hl, k1, k2⟩ := h
    refine ⟨_, (pss_cons (ps_if (pt_cmpR op_eq (pe_callB (kLen (K := K)) (by rfl) B.len (by decide +kernel) (pa_cons (kFld (K := K) (pv 0) rfl) pa_nil)) pe_int (nomark _)) (pss_one (ps_raise0 rfl takes_def eNU c_NothingToUndo)) pss_nil)
      (pss_one (ps_fld (pv 0) (pe_slice (sl_tupF (K := K)) (kFld (K := K) (pv 0) rfl) po_none (po_some (pe_un un_neg pe_int))) rfl))), ?_⟩
    walk_at "rd"
    refine ⟨_, _, _, hB, WC.cl, WC.nO, _, look_out x T, ?_⟩
    walk_at "rd"
    refine ⟨_, .inr hT.sq, ?_⟩
    rw [List.length_map]
    by_cases h0 : sn = []
    · rw [if_pos (by rw [h0]; rfl)]
      exact k1 h0
    have l0 : 0 < sn.length := List.length_pos_iff.mpr h0
    rw [if_neg (by omega)]
    walk_at "rd"
    refine ⟨_, _, _, hB, WC.cl, WC.nO, _, look_out x T, ?_⟩
    refine ⟨T, _, rfl, hT.sq, fun z => ?_, fun p H1 n1 e1 t1 => ?_⟩
    · have z2 := z.2
      rw [List.length_map] at z2
      have : HT.sIx sn.length sn.length (some (-1)) = sn.length - 1 := by
        unfold HT.sIx
        simp
        omega
      omega
    rw [cut_last] at t1
    walk_at "rd"
    have hB1 := e1 _ _ hB
    refine ⟨_, _, _, hB1, WC.cl, WC.nO, (by show 2 < 1000; decide), ?_⟩
    rw [put_out]
    have bt : But1 b H (upd H1 b (.ins CW dx [("_row", x), ("_outcomes", .ref p)])) := (But1.of e1).upd
    refine k2 h0 _ bt ⟨dx, p, upd_same, hR.but hB nx bt, ?_⟩
    rw [← List.map_dropLast] at t1
    exact t1.but hB1 (But1.of (Ex.refl H1)).upd
end

section
variable {P : Program} {w : World} {K : PySem.W.Frag} {mg : Str → Option Value} {base : Heap}
theorem one_sub {r : Rat} : (1 - r).num = ((r.den : Nat) : Int) - r.num ∧ (1 - r).den = r.den := by
  have hd := den_pos r
  have hn : ((((r.den : Nat) : Int)) : Rat) ≠ 0 := cast_ne0 hd
  have en : ((r.num : Int) : Rat) / ((((r.den : Nat) : Int)) : Rat) = r := by
    have := Rat.num_divInt_den r
    rwa [Rat.divInt_eq_div] at this
  have e : 1 - r = ((((r.den : Nat) : Int) - r.num : Int) : Rat) / ((((r.den : Nat) : Int)) : Rat) := by
    rw [Rat.intCast_sub]
    conv => lhs; rw [← en]
    grind
  have g : Int.gcd ((r.den : Nat) : Int) (((r.den : Nat) : Int) - r.num) = 1 := by
    rw [Int.gcd_self_sub_right]
    rw [Int.gcd_comm]
    exact r.reduced
  rw [e]
  refine ⟨?_, ?_⟩
  · rw [div_num hd, g]
    simp
  · have := div_den (t := ((r.den : Nat) : Int) - r.num) hd
    rw [g] at this
    have h1 : (((1 : Nat)) : Int) = 1 := rfl
    rw [h1, Int.ediv_one] at this
    exact Int.ofNat_inj.mp this
end

section
/-! ### the chance of the next draw -/
def chT (ps : List Int) (sn : List Bool) (t : Bool) : Rat := (((bhL ps (sn.length + 1) (yesN (sn ++ [t]))).sum : Int) : Rat) / (((bhL ps sn.length (yesN sn)).sum : Int) : Rat)
theorem yesN_true (sn : List Bool) : yesN (sn ++ [true]) = yesN sn + 1 := by simp [yesN]
theorem yesN_false (sn : List Bool) : yesN (sn ++ [false]) = yesN sn := by simp [yesN]
theorem bh_zero {ps : List Int} {m n : Nat} (h : PR m n ps) : bhL ps 0 0 = ps.map (((ordF (ps.length - 1) ps.length : Nat) : Int) * ·) := by
  have l := h.len
  have m0 := h.m0
  have m1 := h.m1
  apply List.ext_getElem?
  intro i
  unfold bhL
  by_cases hi : i < ps.length
  · obtain ⟨c0, _, cu, _, _⟩ := ord_mulL (l := ps.length) (y := i) (by omega) (by omega) hi
    have e : ((ordF (ps.length - 1) ps.length : Nat) : Int) = ((chs (ps.length - 1) i : Nat) : Int) * ((ordF (ps.length - 1) ps.length / chs (ps.length - 1) i : Nat) : Int) := by
      rw [← Int.natCast_mul, cu]
    rw [List.getElem?_map, List.getElem?_map, List.getElem?_range (by omega), List.getElem?_eq_getElem hi]
    simp only [Option.map_some, Option.some.injEq, Nat.zero_add, Nat.sub_zero]
    rw [e, List.getD_eq_getElem?_getD, List.getElem?_eq_getElem hi]
    simp only [Option.getD_some]
    grind
  · rw [List.getElem?_eq_none (by simp; omega), List.getElem?_eq_none (by simp; omega)]
theorem rs_plain {ps : List Int} {m n : Nat} (h : PR m n ps) (s y : Nat) (hy : y ≤ s) : rsL ps s y = plainL (bhL ps s y) := by
  have l := h.len
  have m0 := h.m0
  have m1 := h.m1
  unfold rsL
  split
  · rename_i z
    subst z
    have : y = 0 := by omega
    subst this
    have o := ord_small (n := ps.length - 1) (m := ps.length) (by omega) (by omega)
    rw [bh_zero h, plainL_scale _ (by omega), h.plain]
  · rfl
/-- a row that is alive: its rest is a row -/
theorem live_rest {ps : List Int} {m n : Nat} {sn : List Bool} (h : PR m n ps) (hn : n ≤ 500) (lv : Live ps sn) (hs : sn.length + 1 < m) : PR (m - sn.length) (n + 14) (rsL ps sn.length (yesN sn)) ∧ 0 < gcdL (bhL ps sn.length (yesN sn)) := by
  by_cases z : sn.length = 0
  · have e : sn = [] := List.length_eq_zero_iff.mp z
    subst e
    have h2 := h.mono (n' := n + 14) (by omega)
    refine ⟨?_, ?_⟩
    · unfold rsL
      rw [if_pos (show ([] : List Bool).length = 0 from rfl)]
      exact h2
    · obtain ⟨c, hc, c0⟩ := sum_pos_ex (cs := bhL ps 0 0) (fun c hc => by
        have o := ord_small (n := ps.length - 1) (m := ps.length) (by have := h.len; have := h.m1; omega) (by omega)
        rw [bh_zero h] at hc
        obtain ⟨p, hp, rfl⟩ := List.mem_map.mp hc
        exact Int.mul_nonneg (by omega) (h.nn p hp)) lv.2
      exact gcdL_pos ⟨c, hc, by omega⟩
  · obtain ⟨b1, b2, b3, b4⟩ := bh_facts (y := yesN sn) h (by omega) (s := sn.length) (by omega) (by omega)
    obtain ⟨ro, pb, gb⟩ := b4 lv.2
    unfold rsL
    rw [if_neg z]
    exact ⟨pb, gb⟩
theorem ay_plain {cs : List Int} (g : 0 < gcdL cs) (j : Nat) : ay (plainL cs) j = ay cs j := by
  rw [ay_rt, ay_rt, plainL_len]
  apply Sm_congr
  intro k _
  rw [rt_plain g]
theorem chs_one : ∀ k < 6, chs k 1 = k := by decide +kernel
theorem note_yes {ps : List Int} {m n : Nat} {sn : List Bool} (h : PR m n ps) (hn : n ≤ 500) (lv : Live ps sn) (hs : sn.length + 1 < m) : ay (rsL ps sn.length (yesN sn)) 1 = chT ps sn true := by
  have l := h.len
  have m1 := h.m1
  obtain ⟨_, g⟩ := live_rest h hn lv hs
  rw [rs_plain h _ _ (yesN_le sn), ay_plain g]
  unfold ay chT
  have e : hitsL (bhL ps sn.length (yesN sn)) 1 = (bhL ps sn.length (yesN sn)).mapIdx fun k c => c * (k : Int) := by
    unfold hitsL
    apply List.ext_getElem?
    intro i
    by_cases hi : i < (bhL ps sn.length (yesN sn)).length
    · rw [bh_len] at hi
      simp only [List.getElem?_mapIdx]
      rw [chs_one i (by omega)]
    · rw [List.getElem?_eq_none (by simp; omega), List.getElem?_eq_none (by simp; omega)]
  rw [e, bh_yes (by omega) (by omega), yesN_true, bh_len, show ps.length - sn.length - 1 = ps.length - 1 - sn.length by omega, chs_one _ (by omega)]
  have r0 : (((ps.length - 1 - sn.length : Nat) : Int) : Rat) ≠ 0 := cast_ne0 (by omega)
  have b0 := cast_ne0 lv.2
  rw [Rat.intCast_mul, Rat.intCast_mul]
  generalize (((ps.length - 1 - sn.length : Nat) : Int) : Rat) = r at *
  generalize (((bhL ps sn.length (yesN sn)).sum : Int) : Rat) = B at *
  generalize (((bhL ps (sn.length + 1) (yesN sn + 1)).sum : Int) : Rat) = Y at *
  grind
theorem live_split {ps : List Int} {m n : Nat} {sn : List Bool} (h : PR m n ps) (hs : sn.length + 1 < m) : (bhL ps sn.length (yesN sn)).sum = (bhL ps (sn.length + 1) (yesN (sn ++ [true]))).sum + (bhL ps (sn.length + 1) (yesN (sn ++ [false]))).sum := by
  have l := h.len
  have m1 := h.m1
  have q := bh_no (ps := ps) (s := sn.length) (y := yesN sn) (by omega) (by omega)
  rw [yesN_true, yesN_false]
  rw [← Int.mul_add] at q
  exact Int.eq_of_mul_eq_mul_left (by omega) q
theorem note_no {ps : List Int} {m n : Nat} {sn : List Bool} (h : PR m n ps) (lv : Live ps sn) (hs : sn.length + 1 < m) : chT ps sn false = 1 - chT ps sn true := by
  have q := live_split h hs
  have b0 := cast_ne0 lv.2
  unfold chT
  have q2 : (((bhL ps sn.length (yesN sn)).sum : Int) : Rat) = (((bhL ps (sn.length + 1) (yesN (sn ++ [true]))).sum : Int) : Rat) + (((bhL ps (sn.length + 1) (yesN (sn ++ [false]))).sum : Int) : Rat) := by
    rw [← Rat.intCast_add, ← q]
  generalize (((bhL ps sn.length (yesN sn)).sum : Int) : Rat) = B at *
  generalize (((bhL ps (sn.length + 1) (yesN (sn ++ [true]))).sum : Int) : Rat) = Y at *
  generalize (((bhL ps (sn.length + 1) (yesN (sn ++ [false]))).sum : Int) : Rat) = N at *
  grind
theorem bh_nn {ps : List Int} {m n : Nat} (h : PR m n ps) (s y : Nat) : 0 ≤ (bhL ps s y).sum := by
  refine sum_nonneg fun c hc => ?_
  obtain ⟨k, hk, rfl⟩ := List.mem_map.mp hc
  have gp : 0 ≤ ps.getD (y + k) 0 := by
    rw [List.getD_eq_getElem?_getD]
    cases hq : ps[y + k]? with
    | none => exact Int.le_refl 0
    | some p => exact h.nn p (List.mem_of_getElem? hq)
  exact Int.mul_nonneg (Int.mul_nonneg gp (Int.natCast_nonneg _)) (Int.natCast_nonneg _)
theorem chT_num {ps : List Int} {m n : Nat} {sn : List Bool} {t : Bool} (h : PR m n ps) (lv : Live ps sn) : (chT ps sn t).num = 0 ↔ (bhL ps (sn.length + 1) (yesN (sn ++ [t]))).sum = 0 := by
  rw [Rat.num_eq_zero]
  have b0 := cast_ne0 lv.2
  unfold chT
  constructor
  · intro z
    have z2 : (((bhL ps (sn.length + 1) (yesN (sn ++ [t]))).sum : Int) : Rat) = (((0 : Int)) : Rat) := by
      show _ = (0 : Rat)
      generalize (((bhL ps sn.length (yesN sn)).sum : Int) : Rat) = B at *
      grind
    exact Rat.intCast_inj.mp z2
  · intro z
    rw [z]
    show (((0 : Int)) : Rat) / _ = 0
    rw [Rat.div_def]
    simp
/-- what is left of one -/
theorem fr_rest (r : Rat) : fr (1 - r) = [V.int (((r.den : Nat) : Int) - r.num), V.int ((r.den : Nat) : Int)] := by
  unfold fr
  rw [(one_sub (r := r)).1, (one_sub (r := r)).2]
end

section
variable {P : Program} {w : World} {K : PySem.W.Frag} {mg : Str → Option Value} {base : Heap}
/-! ### Watch.note -/
def spNote (K : PySem.W.Frag) (C CW CM CN : Addr) : Sp := fun vs H Q E => ∃ (b : Addr) (x : V) (ps : List Int) (sn : List Bool) (m n : Nat) (t : Bool), vs = [.ref b, .bl t] ∧ IsWatch K C CW H b x ps sn ∧ x ≠ .ref b ∧ PR m n ps ∧ n ≤ 500 ∧ Live ps sn ∧
  (sn.length + 1 = m → ∀ H', Ex H H' → E (.ref CM) none H') ∧
  (sn.length + 1 < m → (bhL ps (sn.length + 1) (yesN (sn ++ [t]))).sum = 0 → ∀ H', Ex H H' → E (.ref CN) none H') ∧
  (sn.length + 1 < m → 0 < (bhL ps (sn.length + 1) (yesN (sn ++ [t]))).sum → ∀ y H', But1 b H H' → IsWatch K C CW H' b x ps (sn ++ [t]) → IsFr K H' y (chT ps sn t) → Q y H')
theorem ok_note {C CW CM CN f : Addr} {fd : FuncData} (F : Fun K "note" "Watch.note" (inClass (top 33) 4) f fd) (B : Bi mg) (WC : WatchC K mg CW) (Wrest : PropT P w K mg base CW "rest" 6 (spRest K C CW)) (eNM : ExcA K CM) (c_NoMore : mg "NoMore" = some (.ref CM)) (eNC : ExcA K CN) (c_NoChance : mg "NoChance" = some (.ref CN))
    (hall_yes : Has P w K mg base "all_yes" 3 ["row", "yes"] (spAllYes K C)) : FnOk P w K mg base (L2.CX P w) 8 f fd ["self", "outcome"] (spNote K C CW CM CN) := by
  have sc : FnScope ["self", "outcome", "rest", "top", "bottom"] ["self", "outcome"] (defScope (inClass (top 33) 4)) := ⟨rfl, rfl, rfl, by decide +kernel, rfl, by decide +kernel, by decide +kernel⟩
  refine F.okX sc (fun vs H Q E h => ?_) (fun cdv A outer s H vs Q E hr h => ?_)
  · obtain ⟨b, x, ps, sn, m, n, t, rfl, _⟩ := h
    rfl
  · obtain ⟨b, x, ps, sn, m, n, t, rfl, hW, nx, pr, hn, lv, k1, k2, k3⟩ := h
    obtain ⟨dx, T, hB, hR, hT⟩ := id hW
    have l := pr.len
    have m1 := pr.m1
    refine ⟨_, (pss_cons (ps_if (PW.pt (pw_and (pt_cmpR op_notT (pv 1) pe_bl (nomark _)) (pw_and1 (pt_cmpR op_notT (pv 1) pe_bl (nomark _))))) (pss_one ps_never) pss_nil)
      (pss_cons (ps_set (i := 2) sc.nd rfl (by first | exact Or.inl rfl | exact Or.inr rfl) (kProp Wrest (hr.mono (by decide)) (pv 0)))
      (pss_cons (ps_if (pt_cmpR op_isN (pv 2) pe_non (nomark _)) (pss_one (ps_raise0 rfl takes_def eNM c_NoMore)) pss_nil)
      (pss_cons (ps_asg (pe_has hall_yes (hr.mono (by decide)) (pa_cons (pv 2) (pa_cons pe_int pa_nil))) (pg_tup rfl (pgs_cons (pg_name (i := 3) sc.nd rfl (by first | exact Or.inl rfl | exact Or.inr rfl)) (pgs_cons (pg_name (i := 4) sc.nd rfl (by first | exact Or.inl rfl | exact Or.inr rfl)) pgs_nil))))
      (pss_cons (ps_if (pt_cmpR op_isT (pv 1) pe_bl (nomark _)) (pss_one (ps_set (i := 3) sc.nd rfl (by first | exact Or.inl rfl | exact Or.inr rfl) (pe_op op_sub (pv 4) (pv 3)))) pss_nil)
      (pss_cons (ps_if (pt_cmpR op_eq (pv 3) pe_int (nomark _)) (pss_one (ps_raise0 rfl takes_def eNC c_NoChance)) pss_nil)
      (pss_cons (ps_fld (pv 0) (pe_tupF (kStar (K := K) (kFld (K := K) (pv 0) rfl) (pa_cons (pv 1) pa_nil))) rfl)
      (pss_one (ps_ret (pe_tupN (pa_cons (pv 3) (pa_cons (pv 4) pa_nil)))))))))))), ?_⟩
    walk_at "rd"
    refine ⟨t, true, rfl, rfl, ?_⟩
    have first : ∀ {R : Bool → Hp → Prop} {G : Hp}, R false G → (if (!decide (t = true)) = true then rNotT (.bl t) (.bl false) G (fun x H1 => ∃ k, x = V.bl k ∧ R k H1) else R false G) := by
      intro R G h
      cases t with
      | true => exact h
      | false => exact ⟨false, false, rfl, rfl, _, rfl, h⟩
    refine ⟨_, rfl, first ?_⟩
    walk_at "rd"
    refine ⟨⟨_, _, hB⟩, b, x, ps, sn, m, n, rfl, hW, pr, hn, lv, fun hl => ?_, fun hl z H1 e1 hz => ?_⟩
    · walk_at "rd"
      exact k1 hl H (Ex.refl H)
    obtain ⟨az, dz, qz, rfl, hz1, hz2⟩ := id hz
    walk_at "rd"
    obtain ⟨pr2, gb⟩ := live_rest pr hn lv hl
    refine ⟨.ref az, _, 1, rfl, hz, pr2.inn (by omega), by rw [pr2.len]; omega, fun y H2 e2 hy => ?_⟩
    rw [note_yes pr hn lv hl] at hy
    obtain ⟨py, rfl, hpy⟩ := id hy
    refine ⟨py, rfl, _, hpy, rfl, ?_⟩
    unfold fr
    walk_at "rd"
    have e02 := e1.trans e2
    have num0 := chT_num (t := t) pr lv
    have sn0 := bh_nn pr (sn.length + 1) (yesN (sn ++ [t]))
    refine ⟨t, false, rfl, rfl, _, rfl, ?_⟩
    have hB2 := e02 _ _ hB
    have hT2 := hT.kp e02.kp
    have lsn : sn.length ≤ 6 := by omega
    have lon : (sn.map V.bl ++ [V.bl t]).length ≤ sizeLine := sizeLine_le (by rw [List.length_append, List.length_map]; simp only [List.length_cons, List.length_nil]; omega)
    have stay : ∀ (p : Addr) (H3 : Hp), H2 p = none → Ex H2 H3 → TupO H3 p (sn.map V.bl ++ [V.bl t]) → H3 b = some (.ins CW dx [("_row", x), ("_outcomes", .ref T)]) ∧
        ∀ (H4 : Hp) (q : Addr), H4 = upd H3 b (.ins CW dx [("_row", x), ("_outcomes", .ref p)]) → ∀ H5, Ex H4 H5 → But1 b H H5 ∧ IsWatch K C CW H5 b x ps (sn ++ [t]) := by
      intro p H3 n3 e3 t3
      have hB3 := e3 _ _ hB2
      refine ⟨hB3, fun H4 q e4 H5 e5 => ?_⟩
      have b4 : But1 b H H4 := by
        rw [e4]
        exact (But1.of (e02.trans e3)).upd
      have b5 : But1 b H H5 := b4.trans (.of e5)
      refine ⟨b5, dx, p, e5 _ _ (by rw [e4]; exact upd_same), hR.but hB nx b5, ?_⟩
      have t4 : TupO H4 p ((sn ++ [t]).map V.bl) := by
        rw [List.map_append, e4]
        exact t3.but hB3 (But1.of (Ex.refl H3)).upd
      exact t4.kp e5.kp
    cases t with
    | true =>
      rw [if_neg (by decide)]
      by_cases z0 : (chT ps sn true).num = 0
      · rw [if_pos z0]
        exact k2 hl (num0.mp z0) _ e02
      rw [if_neg z0]
      have p0 : 0 < (bhL ps (sn.length + 1) (yesN (sn ++ [true]))).sum := by
        have := fun z => z0 (num0.mpr z)
        omega
      refine ⟨_, _, _, hB2, WC.cl, WC.nO, _, look_out x T, T, rfl, _, .inl hT2.sq, lon, fun p H3 n3 e3 t3 => ?_⟩
      obtain ⟨hB3, st⟩ := stay p H3 n3 e3 t3
      refine ⟨_, _, _, hB3, WC.cl, WC.nO, (by show 2 < 1000; decide), (by decide), fun y H5 n5 e5 t5 => ?_⟩
      rw [put_out] at n5 e5
      obtain ⟨s1, s2⟩ := st _ y rfl H5 e5
      exact k3 hl p0 _ H5 s1 s2 ⟨y, rfl, .of t5⟩
    | false =>
      rw [if_pos (by decide)]
      have nn := note_no pr lv hl
      have f2 := fr_rest (chT ps sn true)
      rw [← nn] at f2
      have nm : (chT ps sn false).num = (((chT ps sn true).den : Nat) : Int) - (chT ps sn true).num := by
        have h := congrArg (fun l => l.head?) f2
        simpa [fr] using h
      by_cases z0 : (((chT ps sn true).den : Nat) : Int) - (chT ps sn true).num = 0
      · rw [if_pos z0]
        exact k2 hl (num0.mp (by rw [nm]; exact z0)) _ e02
      rw [if_neg z0]
      have p0 : 0 < (bhL ps (sn.length + 1) (yesN (sn ++ [false]))).sum := by
        have := fun z => z0 (by rw [← nm]; exact num0.mpr z)
        omega
      refine ⟨_, _, _, hB2, WC.cl, WC.nO, _, look_out x T, T, rfl, _, .inl hT2.sq, lon, fun p H3 n3 e3 t3 => ?_⟩
      obtain ⟨hB3, st⟩ := stay p H3 n3 e3 t3
      refine ⟨_, _, _, hB3, WC.cl, WC.nO, (by show 2 < 1000; decide), (by decide), fun y H5 n5 e5 t5 => ?_⟩
      rw [put_out] at n5 e5
      obtain ⟨s1, s2⟩ := st _ y rfl H5 e5
      refine k3 hl p0 _ H5 s1 s2 ⟨y, rfl, ?_⟩
      rw [f2]
      exact .of t5
end

section
variable {P : Program} {w : World} {K : PySem.W.Frag} {mg : Str → Option Value} {base : Heap}
/-! ### _law_sum of pairs that need not be in lowest terms; _law_chance, _law_rest -/
def qq (z : Int × Int) : Rat := ((z.1 : Int) : Rat) / ((z.2 : Int) : Rat)
def PairsAt (K : PySem.W.Frag) (H : Hp) (xs : List V) (zs : List (Int × Int)) : Prop := xs.length = zs.length ∧ ∀ (i : Nat) x, xs[i]? = some x → ∃ z p, zs[i]? = some z ∧ x = .ref p ∧ SqT K H p [.int z.1, .int z.2]
theorem PairsAt.kp {H H' : Hp} {xs : List V} {zs : List (Int × Int)} (h : PairsAt K H xs zs) (e : Kp H H') : PairsAt K H' xs zs :=
  ⟨h.1, fun i x hx => let ⟨z, p, h1, h2, h3⟩ := h.2 i x hx; ⟨z, p, h1, h2, sqT_kp h3 e⟩⟩
theorem qq_sz {z : Int × Int} {n : Nat} (h0 : 0 < z.2) (h1 : z.1.natAbs < 2 ^ n) (h2 : z.2.natAbs < 2 ^ n) : sz (qq z) n := sz_div h0 h1 h2
theorem add_raw {f : Rat} {t b : Int} (hb : 0 < b) : (((f.num * b + t * ((f.den : Nat) : Int) : Int)) : Rat) / (((((f.den : Nat) : Int) * b : Int)) : Rat) = f + ((t : Int) : Rat) / ((b : Int) : Rat) := by
  have d0 := cast_ne0 (den_pos f)
  have b0 := cast_ne0 hb
  have ef : ((f.num : Int) : Rat) / ((((f.den : Nat) : Int)) : Rat) = f := by
    have := Rat.num_divInt_den f
    rwa [Rat.divInt_eq_div] at this
  rw [Rat.intCast_add, Rat.intCast_mul, Rat.intCast_mul, Rat.intCast_mul]
  conv => rhs; rw [← ef]
  generalize ((((f.den : Nat) : Int)) : Rat) = D at *
  grind
def spSumP (K : PySem.W.Frag) : Sp := fun vs H Q _ => ∃ (p : Addr) (xs : List V) (zs : List (Int × Int)) (n : Nat), vs = [.ref p] ∧ SqL K H p xs ∧ PairsAt K H xs zs ∧ (∀ z ∈ zs, 0 < z.2 ∧ z.1.natAbs < 2 ^ n ∧ z.2.natAbs < 2 ^ n) ∧ zs.length * (n + 1) + n + 2 ≤ 8900 ∧
  ∀ y H', Ex H H' → IsFr K H' y (zs.map qq).sum → Q y H'
theorem has_sumP (h_law_part : Has P w K mg base "_law_part" 2 ["top", "bottom"] (spPart K)) (D : Df K mg "_law_sum" (top 39) ["parts_here"]) : Has P w K mg base "_law_sum" 3 ["parts_here"] (spSumP K) := by
  have sc := scSum
  refine .of D fun f fd F => F.ok sc (fun vs H Q E h => ?_) (fun cdv A outer s H vs Q E hr h => ?_)
  · obtain ⟨p, xs, zs, n, rfl, _⟩ := h
    rfl
  · obtain ⟨p, xs, zs, n, rfl, hS, hF, hz, hn, k⟩ := h
    have hq : ∀ r ∈ zs.map qq, sz r n := by
      intro r hr
      obtain ⟨z, hz2, rfl⟩ := List.mem_map.mp hr
      obtain ⟨h0, h1, h2⟩ := hz z hz2
      exact qq_sz h0 h1 h2
    obtain ⟨Pv, hP⟩ : ∃ P : Nat → L2.St → Hp → Prop, P = fun j σ' G => Ex H G ∧ ∃ (y : V) (s2 s3 : Option V), σ' = [some (.ref p), some y, s2, s3] ∧ IsFr K G y (sumR ((zs.map qq).take j)) := ⟨_, rfl⟩
    refine ⟨_, (pss_cons (ps_set (i := 1) sc.nd rfl (by first | exact Or.inl rfl | exact Or.inr rfl) (pe_tupN (pa_cons pe_int (pa_cons pe_int pa_nil))))
      (pss_cons (ps_for PassesOwn.never rfl (pi_list (pv 0)) (pg_tup rfl (pgs_cons (pg_name (i := 2) sc.nd rfl (by first | exact Or.inl rfl | exact Or.inr rfl)) (pgs_cons (pg_name (i := 3) sc.nd rfl (by first | exact Or.inl rfl | exact Or.inr rfl)) pgs_nil)))
      (pss_one (ps_set (i := 1) sc.nd rfl (by first | exact Or.inl rfl | exact Or.inr rfl) (pe_has h_law_part (hr.mono (by decide)) (pa_cons (pe_op op_add (pe_op op_mulS (pe_ix (ixT (K := K)) (pv 1) pe_int (fun _ _ => rfl)) (pv 3)) (pe_op op_mulS (pv 2) (pe_ix (ixT (K := K)) (pv 1) pe_int (fun _ _ => rfl)))) (pa_cons (pe_op op_mulS (pe_ix (ixT (K := K)) (pv 1) pe_int (fun _ _ => rfl)) (pv 3)) pa_nil))))))
      (pss_one (ps_ret (pv 1))))), ?_⟩
    walk_at "rd"
    refine ⟨by decide, fun q H1 n1 e1 t1 => ?_⟩
    walk_at "rd"
    refine ⟨⟨_, sqL_ex hS e1⟩, loopL (xs := xs) Pv (by rw [hP]; exact ⟨e1, _, _, _, rfl, q, rfl, .of t1⟩) (fun j σ' G _ h => by rw [hP] at h; exact sqL_ex hS h.1) ?_ ?_⟩
    · intro j x σ' G hx h
      rw [hP] at h
      obtain ⟨e, _, s2, s3, rfl, ⟨y, rfl, hy⟩⟩ := h
      obtain ⟨⟨t, b⟩, a, hz1, rfl, ha⟩ := (hF.kp e.kp).2 j x hx
      have hj := (List.getElem?_eq_some_iff.mp hz1).1
      obtain ⟨b0, z1, z2⟩ := hz (t, b) (List.mem_of_getElem? hz1)
      have z3 : (j + 1) * (n + 1) + n + 2 ≤ 8900 := by
        have := Nat.mul_le_mul_right (n + 1) (show j + 1 ≤ zs.length by omega)
        omega
      rw [Nat.add_mul] at z3
      have zs1 : sz (sumR ((zs.map qq).take j)) (j * (n + 1) + 1) := sz_sum (zs.map qq) j hq (by rw [List.length_map]; omega)
      simp only at ha b0 z1 z2
      walk_at "rd"
      refine ⟨_, ha, rfl, ?_⟩
      walk_at "rd"
      refine q_ixT hy at0 ?_
      walk_at "rd"
      refine ⟨cmul 9000 9000 (lt2_mono zs1.1 (by omega)) (lt2_mono z2 (by omega)), ?_⟩
      refine q_ixT hy at1 ?_
      walk_at "rd"
      refine ⟨cmul 9000 9000 (lt2_mono z1 (by omega)) (lt2_mono (den_lt zs1) (by omega)), ?_⟩
      refine q_ixT hy at1 ?_
      walk_at "rd"
      refine ⟨cmul 9000 9000 (lt2_mono (den_lt zs1) (by omega)) (lt2_mono z2 (by omega)), ?_⟩
      refine ⟨_, _, rfl, Int.mul_pos (den_pos _) b0, lt2_mono (wide_lt (den_lt zs1) z2) (by omega), fun y2 H2 e2 h2 => ?_⟩
      rw [add_raw b0] at h2
      rw [hP]
      refine ⟨e.trans e2, _, _, _, rfl, ?_⟩
      rw [sumR_take (show (zs.map qq)[j]? = some (qq (t, b)) by rw [List.getElem?_map, hz1]; rfl)]
      exact h2
    · intro σ' G h
      rw [hP] at h
      obtain ⟨e, y, s2, s3, rfl, hy⟩ := h
      rw [hF.1, ← List.length_map (f := qq), List.take_length, sumR_eq] at hy
      walk_at "rd"
      exact k _ _ e hy
end

section
variable {P : Program} {w : World} {K : PySem.W.Frag} {mg : Str → Option Value} {base : Heap}
def isTrue : V → Bool
  | .bl b => b
  | _ => false
theorem filt_true (sn : List Bool) : ((sn.map V.bl).filter isTrue).length = yesN sn := by
  induction sn with
  | nil => rfl
  | cons b sn ih => cases b <;> simp_all [isTrue, yesN, List.filter_cons]
/-- the chance that the first draws are just these truths, by the counts of a row -/
def chS (cs : List Int) (sn : List Bool) : Rat := (((bhL cs sn.length (yesN sn)).sum : Int) : Rat) / ((cs.sum * ((ordF (cs.length - 1) cs.length : Nat) : Int) : Int) : Rat)
def oneC (cs : List Int) (y : Nat) : Rat := ((cs.getD y 0 : Int) : Rat) / ((cs.sum * ((chs (cs.length - 1) y : Nat) : Int) : Int) : Rat)
theorem chS_sum {cs : List Int} {sn : List Bool} (l0 : 2 ≤ cs.length) (l1 : cs.length ≤ 6) (S : 0 < cs.sum) (hs : sn.length < cs.length) :
    ((List.range (cs.length - sn.length)).map fun k => oneC cs (yesN sn + k) * ((((chs (cs.length - 1 - sn.length) k : Nat) : Int)) : Rat)).sum = chS cs sn := by
  have yl := yesN_le sn
  have o := ord_small (n := cs.length - 1) (m := cs.length) (by omega) (by omega)
  have key : ∀ k < cs.length - sn.length, oneC cs (yesN sn + k) * ((((chs (cs.length - 1 - sn.length) k : Nat) : Int)) : Rat) = ((((cs.getD (yesN sn + k) 0 * ((ordF (cs.length - 1) cs.length / chs (cs.length - 1) (yesN sn + k) : Nat) : Int) * ((chs (cs.length - 1 - sn.length) k : Nat) : Int)) : Int)) : Rat) / ((cs.sum * ((ordF (cs.length - 1) cs.length : Nat) : Int) : Int) : Rat) := by
    intro k hk
    obtain ⟨c0, _, cu, u0, _⟩ := ord_mulL (l := cs.length) (y := yesN sn + k) (by omega) l1 (by omega)
    unfold oneC
    have hc := cast_ne0 (show (0 : Int) < ((chs (cs.length - 1) (yesN sn + k) : Nat) : Int) by omega)
    have hu := cast_ne0 (show (0 : Int) < ((ordF (cs.length - 1) cs.length / chs (cs.length - 1) (yesN sn + k) : Nat) : Int) by omega)
    have hS := cast_ne0 S
    have e : ((ordF (cs.length - 1) cs.length : Nat) : Int) = ((chs (cs.length - 1) (yesN sn + k) : Nat) : Int) * ((ordF (cs.length - 1) cs.length / chs (cs.length - 1) (yesN sn + k) : Nat) : Int) := by
      rw [← Int.natCast_mul, cu]
    rw [e]
    simp only [Int.natCast_mul, Rat.intCast_mul]
    generalize (((chs (cs.length - 1) (yesN sn + k) : Nat) : Int) : Rat) = c at *
    generalize (((ordF (cs.length - 1) cs.length / chs (cs.length - 1) (yesN sn + k) : Nat) : Int) : Rat) = u at *
    generalize ((cs.sum : Int) : Rat) = S' at *
    generalize (((chs (cs.length - 1 - sn.length) k : Nat) : Int) : Rat) = q at *
    generalize ((cs.getD (yesN sn + k) 0 : Int) : Rat) = p at *
    grind
  unfold chS bhL
  have e2 : ((List.range (cs.length - sn.length)).map fun k => oneC cs (yesN sn + k) * ((((chs (cs.length - 1 - sn.length) k : Nat) : Int)) : Rat)) = ((List.range (cs.length - sn.length)).map fun k => cs.getD (yesN sn + k) 0 * ((ordF (cs.length - 1) cs.length / chs (cs.length - 1) (yesN sn + k) : Nat) : Int) * ((chs (cs.length - 1 - sn.length) k : Nat) : Int)).map fun c => ((c : Int) : Rat) / ((cs.sum * ((ordF (cs.length - 1) cs.length : Nat) : Int) : Int) : Rat) := by
    rw [List.map_map]
    apply List.map_congr_left
    intro k hk
    exact key k (List.mem_range.mp hk)
  rw [e2]
  generalize ((List.range (cs.length - sn.length)).map fun k => cs.getD (yesN sn + k) 0 * ((ordF (cs.length - 1) cs.length / chs (cs.length - 1) (yesN sn + k) : Nat) : Int) * ((chs (cs.length - 1 - sn.length) k : Nat) : Int)) = l
  generalize cs.sum * ((ordF (cs.length - 1) cs.length : Nat) : Int) = W
  induction l with
  | nil =>
    show (0 : Rat) = (((0 : Int)) : Rat) / _
    rw [Rat.div_def]
    simp
  | cons x l ih =>
    rw [List.map_cons, List.sum_cons, List.sum_cons, ih, Rat.intCast_add]
    grind
def spChance (K : PySem.W.Frag) : Sp := fun vs H Q _ => ∃ (q p : Addr) (cs : List Int) (sn : List Bool), vs = [.ref q, .ref p] ∧ SqT K H q (cs.map V.int) ∧ CountsOk cs ∧ SqL K H p (sn.map V.bl) ∧ sn.length < cs.length ∧ ∀ y H', Ex H H' → IsFr K H' y (chS cs sn) → Q y H'
theorem counts_get {cs : List Int} (h : CountsOk cs) {y : Nat} (hy : y < cs.length) : ∃ c, cs[y]? = some c ∧ cs.getD y 0 = c ∧ 0 ≤ c ∧ c.natAbs < 2 ^ 100 := by
  obtain ⟨c, hc⟩ : ∃ c, cs[y]? = some c := ⟨_, List.getElem?_eq_getElem hy⟩
  obtain ⟨c0, c1⟩ := h.2.2.1 c (List.mem_of_getElem? hc)
  refine ⟨c, hc, getD_get hc, c0, ?_⟩
  have : (10 : Int) ^ 30 < 2 ^ 100 := by decide
  omega
theorem counts_sum {cs : List Int} (h : CountsOk cs) : cs.sum.natAbs < 2 ^ 103 := by
  have h1 := sum_le (b := 10 ^ 30) (fun c hc => (h.2.2.1 c hc).2)
  have h2 := h.2.1
  have h3 := h.2.2.2
  have : (6 : Int) * 10 ^ 30 < 2 ^ 103 := by decide
  have h4 : (cs.length : Int) * 10 ^ 30 ≤ 6 * 10 ^ 30 := Int.mul_le_mul_of_nonneg_right (by omega) (by decide)
  omega
theorem has_chance56 (B : Bi mg) (h_law_part : Has P w K mg base "_law_part" 2 ["top", "bottom"] (spPart K)) (h_law_ways : Has P w K mg base "_law_ways" 1 ["things", "some"] spWays) (h_law_sum : Has P w K mg base "_law_sum" 3 ["parts_here"] (spSumP K))
    (D : Df K mg "_law_chance" (top 44) ["some", "seen"]) : Has P w K mg base "_law_chance" 4 ["some", "seen"] (spChance K) := by
  have sc : FnScope ["some", "seen", "size", "marked", "each", "rest", "found", "k", "one"] ["some", "seen"] (defScope (top 44)) := ⟨rfl, rfl, rfl, by decide +kernel, rfl, by decide +kernel, by decide +kernel⟩
  refine .of D fun f fd F => F.ok sc (fun vs H Q E h => ?_) (fun cdv A outer s H vs Q E hr h => ?_)
  · obtain ⟨q, p, cs, sn, rfl, _⟩ := h
    rfl
  · obtain ⟨q, p, cs, sn, rfl, hq, ok, hp, hs, k⟩ := h
    obtain ⟨l0, l1, nn, S⟩ := id ok
    have yl := yesN_le sn
    refine ⟨_, (pss_cons (ps_par (i := 2) (j := 3) (by rfl) sc.nd rfl rfl (by decide) rfl rfl (pa_cons (pe_op op_sub (pe_callB (kLen (K := K)) (by rfl) B.len (by decide +kernel) (pa_cons (pv 0) pa_nil)) pe_int) (pa_cons (pe_callB (kLen (K := K)) (by rfl) B.len (by decide +kernel) (pa_cons (pe_lc (own := [("each", 4)]) (g := gName 4)  rfl sc.nd (pi_list (pv 1)) (blkOk_by (N := (["some", "seen", "size", "marked", "each", "rest", "found", "k", "one"] : List Str)) (sc := defScope (top 44)) (by decide +kernel)) (fun _ _ _ _ _ => (pg_name (i := 4) sc.nd rfl (by first | exact Or.inl rfl | exact Or.inr rfl))) (fun _ _ _ _ _ => pts_one (pt_val (pv 4))) (fun _ _ _ _ _ => (PE.mon (pv 4)))) pa_nil)) pa_nil)) (by rfl))
      (pss_cons (ps_par (i := 5) (j := 6) (by rfl) sc.nd rfl rfl (by decide) rfl rfl (pa_cons (pe_op op_sub (pv 2) (pe_callB (kLen (K := K)) (by rfl) B.len (by decide +kernel) (pa_cons (pv 1) pa_nil))) (pa_cons (pe_lstN pa_nil) pa_nil)) (by rfl))
      (pss_cons (ps_for PassesOwn.never rfl (pi_range1 (by rfl) B.range (pa_cons (pe_op op_add (pv 5) pe_int) pa_nil)) (pg_name (i := 7) sc.nd rfl (by first | exact Or.inl rfl | exact Or.inr rfl))
      (pss_cons (ps_set (i := 8) sc.nd rfl (by first | exact Or.inl rfl | exact Or.inr rfl) (pe_has h_law_part (hr.mono (by decide)) (pa_cons (pe_ix (ixT (K := K)) (pv 0) (pe_op op_add (pv 3) (pv 7)) (fun _ _ => rfl)) (pa_cons (pe_op op_mulS (pe_callB (kSum (K := K) rfl) (by rfl) B.sum (by decide +kernel) (pa_cons (pv 0) pa_nil)) (pe_has h_law_ways (hr.mono (by decide)) (pa_cons (pv 2) (pa_cons (pe_op op_add (pv 3) (pv 7)) pa_nil)))) pa_nil))))
      (pss_one (ps_expr (pe_bm PySem.F.plainAttrs_list PySem.F.slot_list_append PySem.F.type_list_append mt_append (pv 6) (pa_cons (pe_tupN (pa_cons (pe_op op_mulS (pe_ix (ixT (K := K)) (pv 8) pe_int (fun _ _ => rfl)) (pe_has h_law_ways (hr.mono (by decide)) (pa_cons (pv 5) (pa_cons (pv 7) pa_nil)))) (pa_cons (pe_ix (ixT (K := K)) (pv 8) pe_int (fun _ _ => rfl)) pa_nil))) pa_nil))))))
      (pss_one (ps_ret (pe_has h_law_sum (hr.mono (by decide)) (pa_cons (pv 6) pa_nil))))))), ?_⟩
    walk_at "rd"
    refine ⟨_, .inr hq, ⟨_, hp⟩, fun D1 nD1 => ?_⟩
    refine lcIfV (M := sn.map V.bl) isTrue nD1 hp (by rw [List.length_map]; omega) (fun _ => rfl) (fun x H2 R hx e2 h => ?_) (fun x H2 R h => ?_) (fun H2 e2 t2 => ?_)
    · obtain ⟨b, _, rfl⟩ := List.mem_map.mp hx
      walk_at "rd"
      exact h H2 (Ex.refl _)
    · walk_at "rd"
      exact h
    have hq2 := sqT_kp hq e2.kp
    have hp2 := sqL_ex hp e2
    refine ⟨D1, rfl, _, .inl (.of t2), _, .inl hp2, by decide, fun fl H3 n3 e3 t3 => ?_⟩
    rw [filt_true, List.length_map, List.length_map]
    have rr : ((cs.length : Nat) : Int) - 1 - ((sn.length : Nat) : Int) = ((cs.length - 1 - sn.length : Nat) : Int) := by omega
    have rn : ((cs.length : Nat) : Int) - 1 = ((cs.length - 1 : Nat) : Int) := by omega
    rw [rr, rn]
    refine ⟨by omega, by omega, ?_⟩
    have e03 := e2.trans e3
    obtain ⟨zf, hzf⟩ : ∃ zf : Nat → Int × Int, zf = fun k => ((oneC cs (yesN sn + k)).num * ((chs (cs.length - 1 - sn.length) k : Nat) : Int), (((oneC cs (yesN sn + k)).den : Nat) : Int)) := ⟨_, rfl⟩
    have hz : ∀ k < cs.length - sn.length, sz (oneC cs (yesN sn + k)) 107 := by
      intro k hk
      obtain ⟨c, hc, hg, c0, c1⟩ := counts_get ok (y := yesN sn + k) (by omega)
      have b := chs_pos (a := cs.length - 1) (b := yesN sn + k) (by omega) (by omega)
      have b2 := chs_le (a := cs.length - 1) (b := yesN sn + k) (by omega) (by omega)
      unfold oneC
      rw [hg]
      refine sz_div (Int.mul_pos S (by omega)) (lt2_mono c1 (by omega)) ?_
      exact wide_lt (a := 103) (b := 4) (counts_sum ok) (by omega)
    obtain ⟨Pv, hP⟩ : ∃ P : Nat → L2.St → Hp → Prop, P = fun j σ' G => Bt fl H3 G ∧ ∃ (xs : List V) (s7 s8 : Option V), σ' = [some (.ref q), some (.ref p), some (.int ((cs.length - 1 : Nat) : Int)), some (.int ((yesN sn : Nat) : Int)), none, some (.int ((cs.length - 1 - sn.length : Nat) : Int)), some (.ref fl), s7, s8] ∧ G fl = some (.lst xs) ∧ PairsAt K G xs ((List.range j).map zf) := ⟨_, rfl⟩
    refine loopR Pv (by rw [hP]; exact ⟨Bt.refl _, [], _, _, rfl, t3, rfl, fun i x hx => by simp at hx⟩) ?_ ?_
    · intro j σ' G hj h
      rw [hP] at h
      obtain ⟨bG, xs, s7, s8, rfl, hfl, hPa⟩ := h
      have hj : j < cs.length - sn.length := by omega
      have kpG : Kp H3 G := bG.kp t3
      have hqG := sqT_kp (sqT_kp hq2 e3.kp) kpG
      obtain ⟨c, hc, hg, c0, c1⟩ := counts_get ok (y := yesN sn + j) (by omega)
      have b := chs_pos (a := cs.length - 1) (b := yesN sn + j) (by omega) (by omega)
      have b2 := chs_le (a := cs.length - 1) (b := yesN sn + j) (by omega) (by omega)
      have b3 := chs_le (a := cs.length - 1 - sn.length) (b := j) (by omega) (by omega)
      have ey : ((yesN sn : Nat) : Int) + (j : Int) = ((yesN sn + j : Nat) : Int) := by omega
      walk_at "rd"
      rw [ey]
      refine q_ixT hqG (at_of (v := .int c) (j := yesN sn + j) rfl (by simp [hc])) ?_
      walk_at "rd"
      refine ⟨q, cs, rfl, .inr hqG, ?_⟩
      refine ⟨_, _, rfl, by omega, by omega, ?_⟩
      walk_at "rd"
      refine ⟨cmulR, ?_⟩
      refine ⟨c, _, rfl, Int.mul_pos S (by omega), lt2_mono (wide_lt (a := 103) (b := 4) (counts_sum ok) (by omega)) (by omega), fun y G1 e1 hy => ?_⟩
      have hy : IsFr K G1 y (oneC cs (yesN sn + j)) := by
        unfold oneC
        rw [hg]
        exact hy
      obtain ⟨yp, rfl, hyp⟩ := id hy
      have hfl1 := e1 _ _ hfl
      have zj := hz j hj
      walk_at "rd"
      refine ⟨.inl ⟨rfl, _, .of hfl1⟩, ?_⟩
      refine q_ixT hyp at0 ?_
      refine ⟨_, _, rfl, by omega, by omega, ?_⟩
      walk_at "rd"
      refine ⟨cmul 9000 9000 (lt2_mono zj.1 (by omega)) ?_, ?_⟩
      · rw [Int.natAbs_natCast]
        exact Nat.lt_of_le_of_lt b3 (Nat.lt_of_lt_of_le (show 10 < 2 ^ 4 by decide) (Nat.pow_le_pow_right (by decide) (by decide)))
      refine q_ixT hyp at1 ?_
      refine ⟨by decide, fun tp G2 n2 e2' t2' => ?_⟩
      have lx : xs.length = j := by
        rw [hPa.1]
        simp
      refine ⟨fl, xs, .ref tp, rfl, rfl, e2' _ _ hfl1, small1000 (by omega), ?_⟩
      walk_at "rd"
      rw [hP]
      have kpL : Kp G2 (upd G2 fl (.lst (xs ++ [.ref tp]))) := ((Bt.refl _).upd).kp (e2' _ _ hfl1)
      refine ⟨((bG.ex e1).ex e2').upd, _, _, _, rfl, upd_same, ?_⟩
      refine ⟨by rw [List.length_append, List.length_map, List.length_range]; simp [lx], fun i x hx => ?_⟩
      by_cases hi : i < j
      · rw [List.getElem?_append_left (by omega)] at hx
        obtain ⟨z, pz, h1, h2, h3⟩ := hPa.2 i x hx
        refine ⟨z, pz, ?_, h2, sqT_kp h3 ((e1.trans e2').kp.trans kpL)⟩
        rw [List.getElem?_map, List.getElem?_range hi] at h1
        rw [List.getElem?_map, List.getElem?_range (by omega)]
        exact h1
      · rw [List.getElem?_append_right (by omega)] at hx
        have hij : i = j := by
          have := (List.getElem?_eq_some_iff.mp hx).1
          simp only [List.length_cons, List.length_nil] at this
          omega
        subst hij
        rw [lx, Nat.sub_self] at hx
        cases hx
        refine ⟨zf i, tp, by rw [List.getElem?_map, List.getElem?_range (by omega)]; rfl, rfl, ?_⟩
        rw [hzf]
        exact sqT_kp (.of t2') kpL
    · intro σ' G h
      rw [hP] at h
      obtain ⟨bG, xs, s7, s8, rfl, hfl, hPa⟩ := h
      have er : (((cs.length - 1 - sn.length : Nat) : Int) + 1).toNat = cs.length - sn.length := by omega
      rw [er] at hPa
      walk_at "rd"
      refine ⟨fl, xs, _, 111, rfl, .of hfl, hPa, fun z hz2 => ?_, by rw [List.length_map, List.length_range]; omega, fun y H5 e5 h5 => ?_⟩
      · obtain ⟨k, hk, rfl⟩ := List.mem_map.mp hz2
        have hk := List.mem_range.mp hk
        have zk := hz k hk
        have b3 := chs_le (a := cs.length - 1 - sn.length) (b := k) (by omega) (by omega)
        rw [hzf]
        refine ⟨den_pos _, ?_, ?_⟩
        · exact wide_lt (a := 107) (b := 4) zk.1 (by rw [Int.natAbs_natCast]; omega)
        · exact lt2_mono (den_lt zk) (by omega)
      · have es : (((List.range (cs.length - sn.length)).map zf).map qq).sum = chS cs sn := by
          rw [← chS_sum l0 l1 S hs, List.map_map]
          congr 1
          apply List.map_congr_left
          intro k _
          rw [hzf]
          show (((_ * _ : Int)) : Rat) / _ = _
          rw [Rat.intCast_mul]
          have en : (((oneC cs (yesN sn + k)).num : Int) : Rat) / (((((oneC cs (yesN sn + k)).den : Nat) : Int)) : Rat) = oneC cs (yesN sn + k) := by
            have := Rat.num_divInt_den (oneC cs (yesN sn + k))
            rwa [Rat.divInt_eq_div] at this
          conv => rhs; rw [← en]
          grind
        rw [es] at h5
        exact k y H5 (Bt.out (e2.free n3) e03 (bG.ex e5)) h5
/-- the plain counts of the other draws behind these truths -/
def spRestL (K : PySem.W.Frag) : Sp := fun vs H Q _ => ∃ (q p : Addr) (cs : List Int) (sn : List Bool), vs = [.ref q, .ref p] ∧ SqT K H q (cs.map V.int) ∧ CountsOk cs ∧ SqL K H p (sn.map V.bl) ∧ sn.length + 1 < cs.length ∧ 0 < (bhL cs sn.length (yesN sn)).sum ∧ ∀ y H', Ex H H' → IsInts K H' y (plainL (bhL cs sn.length (yesN sn))) → Q y H'
def rsR (cs : List Int) (sn : List Bool) : List Rat := (bhL cs sn.length (yesN sn)).map fun c => ((c : Int) : Rat) / ((((ordF (cs.length - 1) cs.length : Nat) : Int)) : Rat)
theorem rsR_get {cs : List Int} {sn : List Bool} (l0 : 2 ≤ cs.length) (l1 : cs.length ≤ 6) (hs : sn.length < cs.length) {k : Nat} (hk : k < cs.length - sn.length) :
    (rsR cs sn)[k]? = some ((((cs.getD (yesN sn + k) 0 * ((chs (cs.length - 1 - sn.length) k : Nat) : Int) : Int)) : Rat) / ((((chs (cs.length - 1) (yesN sn + k) : Nat) : Int)) : Rat)) := by
  have yl := yesN_le sn
  obtain ⟨c0, _, cu, u0, _⟩ := ord_mulL (l := cs.length) (y := yesN sn + k) (by omega) l1 (by omega)
  have hc := cast_ne0 (show (0 : Int) < ((chs (cs.length - 1) (yesN sn + k) : Nat) : Int) by omega)
  have hu := cast_ne0 (show (0 : Int) < ((ordF (cs.length - 1) cs.length / chs (cs.length - 1) (yesN sn + k) : Nat) : Int) by omega)
  have e : ((ordF (cs.length - 1) cs.length : Nat) : Int) = ((chs (cs.length - 1) (yesN sn + k) : Nat) : Int) * ((ordF (cs.length - 1) cs.length / chs (cs.length - 1) (yesN sn + k) : Nat) : Int) := by
    rw [← Int.natCast_mul, cu]
  unfold rsR bhL
  rw [List.getElem?_map, List.getElem?_map, List.getElem?_range hk]
  simp only [Option.map_some, Option.some.injEq]
  rw [e]
  simp only [Rat.intCast_mul]
  generalize (((chs (cs.length - 1) (yesN sn + k) : Nat) : Int) : Rat) = c at *
  generalize (((ordF (cs.length - 1) cs.length / chs (cs.length - 1) (yesN sn + k) : Nat) : Int) : Rat) = u at *
  generalize (((chs (cs.length - 1 - sn.length) k : Nat) : Int) : Rat) = q at *
  generalize ((cs.getD (yesN sn + k) 0 : Int) : Rat) = p at *
  grind
theorem has_rest56 (B : Bi mg) (h_law_part : Has P w K mg base "_law_part" 2 ["top", "bottom"] (spPart K)) (h_law_ways : Has P w K mg base "_law_ways" 1 ["things", "some"] spWays) (h_law_whole : Has P w K mg base "_law_whole" 3 ["parts_here"] (spWholeL K))
    (D : Df K mg "_law_rest" (top 45) ["some", "seen"]) : Has P w K mg base "_law_rest" 4 ["some", "seen"] (spRestL K) := by
  have sc : FnScope ["some", "seen", "size", "marked", "each", "rest", "found", "k"] ["some", "seen"] (defScope (top 45)) := ⟨rfl, rfl, rfl, by decide +kernel, rfl, by decide +kernel, by decide +kernel⟩
  refine .of D fun f fd F => F.ok sc (fun vs H Q E h => ?_) (fun cdv A outer s H vs Q E hr h => ?_)
  · obtain ⟨q, p, cs, sn, rfl, _⟩ := h
    rfl
  · obtain ⟨q, p, cs, sn, rfl, hq, ok, hp, hs, pos, k⟩ := h
    obtain ⟨l0, l1, nn, S⟩ := id ok
    have yl := yesN_le sn
    refine ⟨_, (pss_cons (ps_par (i := 2) (j := 3) (by rfl) sc.nd rfl rfl (by decide) rfl rfl (pa_cons (pe_op op_sub (pe_callB (kLen (K := K)) (by rfl) B.len (by decide +kernel) (pa_cons (pv 0) pa_nil)) pe_int) (pa_cons (pe_callB (kLen (K := K)) (by rfl) B.len (by decide +kernel) (pa_cons (pe_lc (own := [("each", 4)]) (g := gName 4)  rfl sc.nd (pi_list (pv 1)) (blkOk_by (N := (["some", "seen", "size", "marked", "each", "rest", "found", "k"] : List Str)) (sc := defScope (top 45)) (by decide +kernel)) (fun _ _ _ _ _ => (pg_name (i := 4) sc.nd rfl (by first | exact Or.inl rfl | exact Or.inr rfl))) (fun _ _ _ _ _ => pts_one (pt_val (pv 4))) (fun _ _ _ _ _ => (PE.mon (pv 4)))) pa_nil)) pa_nil)) (by rfl))
      (pss_cons (ps_par (i := 5) (j := 6) (by rfl) sc.nd rfl rfl (by decide) rfl rfl (pa_cons (pe_op op_sub (pv 2) (pe_callB (kLen (K := K)) (by rfl) B.len (by decide +kernel) (pa_cons (pv 1) pa_nil))) (pa_cons (pe_lstN pa_nil) pa_nil)) (by rfl))
      (pss_cons (ps_for PassesOwn.never rfl (pi_range1 (by rfl) B.range (pa_cons (pe_op op_add (pv 5) pe_int) pa_nil)) (pg_name (i := 7) sc.nd rfl (by first | exact Or.inl rfl | exact Or.inr rfl))
      (pss_one (ps_expr (pe_bm PySem.F.plainAttrs_list PySem.F.slot_list_append PySem.F.type_list_append mt_append (pv 6) (pa_cons (pe_has h_law_part (hr.mono (by decide)) (pa_cons (pe_op op_mulS (pe_ix (ixT (K := K)) (pv 0) (pe_op op_add (pv 3) (pv 7)) (fun _ _ => rfl)) (pe_has h_law_ways (hr.mono (by decide)) (pa_cons (pv 5) (pa_cons (pv 7) pa_nil)))) (pa_cons (pe_has h_law_ways (hr.mono (by decide)) (pa_cons (pv 2) (pa_cons (pe_op op_add (pv 3) (pv 7)) pa_nil))) pa_nil))) pa_nil)))))
      (pss_one (ps_ret (pe_has h_law_whole (hr.mono (by decide)) (pa_cons (pv 6) pa_nil))))))), ?_⟩
    walk_at "rd"
    refine ⟨_, .inr hq, ⟨_, hp⟩, fun D1 nD1 => ?_⟩
    refine lcIfV (M := sn.map V.bl) isTrue nD1 hp (by rw [List.length_map]; omega) (fun _ => rfl) (fun x H2 R hx e2 h => ?_) (fun x H2 R h => ?_) (fun H2 e2 t2 => ?_)
    · obtain ⟨b, _, rfl⟩ := List.mem_map.mp hx
      walk_at "rd"
      exact h H2 (Ex.refl _)
    · walk_at "rd"
      exact h
    have hq2 := sqT_kp hq e2.kp
    have hp2 := sqL_ex hp e2
    refine ⟨D1, rfl, _, .inl (.of t2), _, .inl hp2, by decide, fun fl H3 n3 e3 t3 => ?_⟩
    rw [filt_true, List.length_map, List.length_map]
    have rr : ((cs.length : Nat) : Int) - 1 - ((sn.length : Nat) : Int) = ((cs.length - 1 - sn.length : Nat) : Int) := by omega
    have rn : ((cs.length : Nat) : Int) - 1 = ((cs.length - 1 : Nat) : Int) := by omega
    rw [rr, rn]
    refine ⟨by omega, by omega, ?_⟩
    have e03 := e2.trans e3
    obtain ⟨Pv, hP⟩ : ∃ P : Nat → L2.St → Hp → Prop, P = fun j σ' G => Bt fl H3 G ∧ ∃ (xs : List V) (s7 : Option V), σ' = [some (.ref q), some (.ref p), some (.int ((cs.length - 1 : Nat) : Int)), some (.int ((yesN sn : Nat) : Int)), none, some (.int ((cs.length - 1 - sn.length : Nat) : Int)), some (.ref fl), s7] ∧ G fl = some (.lst xs) ∧ FrsAt K G xs ((rsR cs sn).take j) := ⟨_, rfl⟩
    have lR : (rsR cs sn).length = cs.length - sn.length := by simp [rsR, bh_len]
    refine loopR Pv (by rw [hP]; exact ⟨Bt.refl _, [], _, rfl, t3, rfl, fun i x hx => by simp at hx⟩) ?_ ?_
    · intro j σ' G hj h
      rw [hP] at h
      obtain ⟨bG, xs, s7, rfl, hfl, hPa⟩ := h
      have hj : j < cs.length - sn.length := by omega
      have kpG : Kp H3 G := bG.kp t3
      have hqG := sqT_kp (sqT_kp hq2 e3.kp) kpG
      obtain ⟨c, hc, hg, c0, c1⟩ := counts_get ok (y := yesN sn + j) (by omega)
      have b := chs_pos (a := cs.length - 1) (b := yesN sn + j) (by omega) (by omega)
      have b2 := chs_le (a := cs.length - 1) (b := yesN sn + j) (by omega) (by omega)
      have b3 := chs_le (a := cs.length - 1 - sn.length) (b := j) (by omega) (by omega)
      have ey : ((yesN sn : Nat) : Int) + (j : Int) = ((yesN sn + j : Nat) : Int) := by omega
      have hgt := rsR_get (sn := sn) l0 l1 (by omega) hj
      rw [hg] at hgt
      walk_at "rd"
      refine ⟨.inl ⟨rfl, _, .of hfl⟩, ?_⟩
      rw [ey]
      refine q_ixT hqG (at_of (v := .int c) (j := yesN sn + j) rfl (by simp [hc])) ?_
      refine ⟨_, _, rfl, by omega, by omega, ?_⟩
      walk_at "rd"
      refine ⟨cmulR, ?_⟩
      refine ⟨_, _, rfl, by omega, by omega, ?_⟩
      walk_at "rd"
      refine ⟨_, _, rfl, by omega, ?_, fun y G1 e1 hy => ?_⟩
      · rw [Int.natAbs_natCast]
        exact Nat.lt_of_le_of_lt b2 (Nat.lt_of_lt_of_le (show 10 < 2 ^ 4 by decide) (Nat.pow_le_pow_right (by decide) (by decide)))
      have hfl1 := e1 _ _ hfl
      have lx : xs.length = j := by
        rw [hPa.1, List.length_take, lR]
        omega
      refine ⟨fl, xs, y, rfl, rfl, hfl1, small1000 (by omega), ?_⟩
      walk_at "rd"
      rw [hP]
      have kpL : Kp G1 (upd G1 fl (.lst (xs ++ [y]))) := ((Bt.refl _).upd).kp hfl1
      refine ⟨(bG.ex e1).upd, _, _, rfl, upd_same, ?_⟩
      rw [take_snoc hgt]
      refine ⟨by rw [List.length_append, List.length_append, hPa.1]; rfl, fun i x hx => ?_⟩
      by_cases hi : i < j
      · rw [List.getElem?_append_left (by omega)] at hx
        obtain ⟨r, h1, h2⟩ := hPa.2 i x hx
        exact ⟨r, by rw [List.getElem?_append_left (by rw [← hPa.1]; omega)]; exact h1, h2.kp (e1.kp.trans kpL)⟩
      · rw [List.getElem?_append_right (by omega)] at hx
        have hij : i = j := by
          have := (List.getElem?_eq_some_iff.mp hx).1
          simp only [List.length_cons, List.length_nil] at this
          omega
        subst hij
        rw [lx, Nat.sub_self] at hx
        cases hx
        refine ⟨_, ?_, hy.kp kpL⟩
        rw [List.getElem?_append_right (by rw [← hPa.1]; omega), ← hPa.1, lx, Nat.sub_self]
        rfl
    · intro σ' G h
      rw [hP] at h
      obtain ⟨bG, xs, s7, rfl, hfl, hPa⟩ := h
      have er : (((cs.length - 1 - sn.length : Nat) : Int) + 1).toNat = cs.length - sn.length := by omega
      rw [er, List.take_of_length_le (by omega)] at hPa
      have o := ord_small (n := cs.length - 1) (m := cs.length) (by omega) (by omega)
      walk_at "rd"
      refine ⟨.ref fl, rsR cs sn, 111, rfl, ⟨fl, xs, rfl, .inr (.of hfl), hPa⟩, fun r hr => ?_, by omega, by omega, ?_, fun y H5 e5 h5 => ?_⟩
      · obtain ⟨i, hi⟩ := List.mem_iff_getElem?.mp hr
        have hi2 : i < cs.length - sn.length := by
          have := (List.getElem?_eq_some_iff.mp hi).1
          omega
        rw [rsR_get l0 l1 (by omega) hi2] at hi
        cases hi
        obtain ⟨c, hc, hg, c0, c1⟩ := counts_get ok (y := yesN sn + i) (by omega)
        have b := chs_pos (a := cs.length - 1) (b := yesN sn + i) (by omega) (by omega)
        have b2 := chs_le (a := cs.length - 1) (b := yesN sn + i) (by omega) (by omega)
        have b3 := chs_le (a := cs.length - 1 - sn.length) (b := i) (by omega) (by omega)
        rw [hg]
        refine sz_div (by omega) (lt2_mono (wide_lt (a := 100) (b := 4) c1 (by rw [Int.natAbs_natCast]; omega)) (by omega)) ?_
        rw [Int.natAbs_natCast]
        exact Nat.lt_of_le_of_lt b2 (Nat.lt_of_lt_of_le (show 10 < 2 ^ 4 by decide) (Nat.pow_le_pow_right (by decide) (by decide)))
      · obtain ⟨c, hc, c0⟩ := sum_pos_ex (cs := bhL cs sn.length (yesN sn)) (fun c hc => by
          obtain ⟨k, hk, rfl⟩ := List.mem_map.mp hc
          have gp : 0 ≤ cs.getD (yesN sn + k) 0 := by
            rw [List.getD_eq_getElem?_getD]
            cases hq : cs[yesN sn + k]? with
            | none => exact Int.le_refl 0
            | some p => exact (nn p (List.mem_of_getElem? hq)).1
          exact Int.mul_nonneg (Int.mul_nonneg gp (Int.natCast_nonneg _)) (Int.natCast_nonneg _)) pos
        refine ⟨_, List.mem_map.mpr ⟨c, hc, rfl⟩, fun z => ?_⟩
        have hc0 := cast_ne0 c0
        have ho := cast_ne0 (show (0 : Int) < ((ordF (cs.length - 1) cs.length : Nat) : Int) by omega)
        generalize (((ordF (cs.length - 1) cs.length : Nat) : Int) : Rat) = W at *
        grind
      · unfold rsR at h5
        rw [wholeW_prop (by omega)] at h5
        exact k y H5 (Bt.out (e2.free n3) e03 (bG.ex e5)) h5
end

section
variable {P : Program} {w : World} {K : PySem.W.Frag} {mg : Str → Option Value} {base : Heap}
/-! ### _law_due, _law_outcome -/
theorem chT_div {cs : List Int} {sn : List Bool} {t : Bool} (l0 : 2 ≤ cs.length) (l1 : cs.length ≤ 6) (S : 0 < cs.sum) (hs : sn.length + 1 < cs.length) : chS cs (sn ++ [t]) / chS cs sn = chT cs sn t := by
  have o := ord_small (n := cs.length - 1) (m := cs.length) (by omega) (by omega)
  have w0 := cast_ne0 (show 0 < cs.sum * ((ordF (cs.length - 1) cs.length : Nat) : Int) from Int.mul_pos S (by omega))
  unfold chS chT
  have e : (sn ++ [t]).length = sn.length + 1 := by simp
  rw [e]
  generalize (((cs.sum * ((ordF (cs.length - 1) cs.length : Nat) : Int) : Int)) : Rat) = W at *
  generalize (((bhL cs (sn.length + 1) (yesN (sn ++ [t]))).sum : Int) : Rat) = a
  generalize (((bhL cs sn.length (yesN sn)).sum : Int) : Rat) = b
  by_cases hb : b = 0
  · subst hb
    simp [Rat.div_def]
  · grind
theorem chT_plain {cs : List Int} {sn : List Bool} {t : Bool} (g : 0 < gcdL cs) : chT (plainL cs) sn t = chT cs sn t := by
  unfold chT
  rw [← bh_plain g, ← bh_plain g (s := sn.length), sum_scale, sum_scale, Rat.intCast_mul, Rat.intCast_mul]
  have g0 := cast_ne0 (show (0 : Int) < ((gcdL cs : Nat) : Int) by omega)
  generalize (((gcdL cs : Nat) : Int) : Rat) = G at *
  generalize (((bhL (plainL cs) (sn.length + 1) (yesN (sn ++ [t]))).sum : Int) : Rat) = a
  generalize (((bhL (plainL cs) sn.length (yesN sn)).sum : Int) : Rat) = b
  by_cases hb : b = 0
  · subst hb
    simp [Rat.div_def]
  · grind
theorem bh_pos_plain {cs : List Int} (g : 0 < gcdL cs) (s y : Nat) : (0 < (bhL (plainL cs) s y).sum ↔ 0 < (bhL cs s y).sum) ∧ ((bhL (plainL cs) s y).sum = 0 ↔ (bhL cs s y).sum = 0) := by
  rw [← bh_plain g s y, sum_scale]
  have g0 : (0 : Int) < ((gcdL cs : Nat) : Int) := by omega
  constructor
  · constructor
    · exact fun h => Int.mul_pos g0 h
    · exact fun h => Int.pos_of_mul_pos_right h (by omega)
  · constructor
    · intro h
      rw [h, Int.mul_zero]
    · intro h
      rcases Int.mul_eq_zero.mp h with z | z
      · omega
      · exact z
theorem chS_sz {cs : List Int} (ok : CountsOk cs) {sn : List Bool} (hs : sn.length < cs.length) : sz (chS cs sn) 120 ∧ 0 ≤ (bhL cs sn.length (yesN sn)).sum ∧ ((chS cs sn).num > 0 ↔ 0 < (bhL cs sn.length (yesN sn)).sum) := by
  obtain ⟨l0, l1, nn, S⟩ := ok
  have o := ord_small (n := cs.length - 1) (m := cs.length) (by omega) (by omega)
  have w0 : 0 < cs.sum * ((ordF (cs.length - 1) cs.length : Nat) : Int) := Int.mul_pos S (by omega)
  have each : ∀ c ∈ bhL cs sn.length (yesN sn), 0 ≤ c ∧ c.natAbs < 2 ^ 111 := by
    intro c hc
    obtain ⟨k, hk, rfl⟩ := List.mem_map.mp hc
    have hk := List.mem_range.mp hk
    have yl := yesN_le sn
    obtain ⟨c, hc, hg, c0, c1⟩ := counts_get ⟨l0, l1, nn, S⟩ (y := yesN sn + k) (by omega)
    rw [hg]
    have c3 := chs_le (a := cs.length - 1 - sn.length) (b := k) (by omega) (by omega)
    have dl := Nat.lt_of_le_of_lt (Nat.div_le_self (ordF (cs.length - 1) cs.length) (chs (cs.length - 1) (yesN sn + k))) o.2
    refine ⟨Int.mul_nonneg (Int.mul_nonneg c0 (Int.natCast_nonneg _)) (Int.natCast_nonneg _), ?_⟩
    refine wide_lt (a := 107) (b := 4) (wide_lt (a := 100) (b := 7) c1 ?_) ?_
    · rw [Int.natAbs_natCast]
      exact Nat.lt_trans dl (by decide)
    · rw [Int.natAbs_natCast]
      omega
  obtain ⟨h1, h2⟩ := sum_lt each
  rw [bh_len] at h2
  have h3 : (bhL cs sn.length (yesN sn)).sum.natAbs < 2 ^ 114 := by
    have : (cs.length - sn.length) * 2 ^ 111 ≤ 6 * 2 ^ 111 := Nat.mul_le_mul_right _ (by omega)
    have e : (2 : Nat) ^ 114 = 8 * 2 ^ 111 := by decide
    omega
  refine ⟨sz_div w0 (lt2_mono h3 (by decide)) (lt2_mono (wide_lt (a := 103) (b := 7) (counts_sum ⟨l0, l1, nn, S⟩) (by rw [Int.natAbs_natCast]; exact Nat.lt_trans o.2 (by decide))) (by decide)), h1, ?_⟩
  unfold chS
  have d := div_num (t := (bhL cs sn.length (yesN sn)).sum) w0
  have fm := frac_mul (p := (bhL cs sn.length (yesN sn)).sum) w0
  have dp := den_pos ((((bhL cs sn.length (yesN sn)).sum : Int) : Rat) / ((cs.sum * ((ordF (cs.length - 1) cs.length : Nat) : Int) : Int) : Rat))
  generalize ((((bhL cs sn.length (yesN sn)).sum : Int) : Rat) / ((cs.sum * ((ordF (cs.length - 1) cs.length : Nat) : Int) : Int) : Rat)) = r at *
  generalize cs.sum * ((ordF (cs.length - 1) cs.length : Nat) : Int) = W at *
  generalize (bhL cs sn.length (yesN sn)).sum = B at *
  constructor
  · intro h
    have : 0 < r.num * W := Int.mul_pos h w0
    rw [fm] at this
    exact Int.pos_of_mul_pos_left this (by omega)
  · intro h
    have : 0 < B * ((r.den : Nat) : Int) := Int.mul_pos h dp
    rw [← fm] at this
    exact Int.pos_of_mul_pos_left this (by omega)
theorem div_parts {a b : Rat} (hb : 0 < b.num) : (((a.num * ((b.den : Nat) : Int) : Int)) : Rat) / (((((a.den : Nat) : Int) * b.num : Int)) : Rat) = a / b := by
  have ea : ((a.num : Int) : Rat) / ((((a.den : Nat) : Int)) : Rat) = a := by
    have := Rat.num_divInt_den a
    rwa [Rat.divInt_eq_div] at this
  have eb : ((b.num : Int) : Rat) / ((((b.den : Nat) : Int)) : Rat) = b := by
    have := Rat.num_divInt_den b
    rwa [Rat.divInt_eq_div] at this
  have da := cast_ne0 (den_pos a)
  have db := cast_ne0 (den_pos b)
  have nb := cast_ne0 hb
  conv => rhs; rw [← ea, ← eb]
  rw [Rat.intCast_mul, Rat.intCast_mul]
  generalize ((((a.den : Nat) : Int)) : Rat) = u at *
  generalize ((((b.den : Nat) : Int)) : Rat) = v at *
  generalize ((b.num : Int) : Rat) = x at *
  grind
def LstAt (H : Hp) (l : Addr) (xs : List V) : Prop := H l = some (.lst xs)
def spDue56 (K : PySem.W.Frag) : Sp := fun vs H Q _ => ∃ (q p : Addr) (cs : List Int) (sn : List Bool) (t : Bool), vs = [.ref q, .ref p, .bl t] ∧ SqT K H q (cs.map V.int) ∧ CountsOk cs ∧ H p = some (.lst (sn.map V.bl)) ∧ sn.length < cs.length ∧ 0 < (bhL cs sn.length (yesN sn)).sum ∧
  (sn.length + 1 = cs.length → ∀ l H', Ex H H' → H l = none → H' l = some (.lst [.str "no more", .non]) → Q (.ref l) H') ∧
  (sn.length + 1 < cs.length → (bhL cs (sn.length + 1) (yesN (sn ++ [t]))).sum = 0 → ∀ l H', Ex H H' → H l = none → H' l = some (.lst [.str "no chance", .non]) → Q (.ref l) H') ∧
  (sn.length + 1 < cs.length → 0 < (bhL cs (sn.length + 1) (yesN (sn ++ [t]))).sum → ∀ l y H', Ex H H' → H l = none → H' l = some (.lst [.str "told", y]) → IsFr K H' y (chT cs sn t) → Q (.ref l) H')
theorem has_due56 (B : Bi mg) (h_law_part : Has P w K mg base "_law_part" 2 ["top", "bottom"] (spPart K)) (h_law_chance : Has P w K mg base "_law_chance" 4 ["some", "seen"] (spChance K)) (D : Df K mg "_law_due" (top 47) ["some", "seen", "truth"]) : Has P w K mg base "_law_due" 5 ["some", "seen", "truth"] (spDue56 K) := by
  have sc : FnScope ["some", "seen", "truth", "both", "one"] ["some", "seen", "truth"] (defScope (top 47)) := ⟨rfl, rfl, rfl, by decide +kernel, rfl, by decide +kernel, by decide +kernel⟩
  refine .of D fun f fd F => F.ok sc (fun vs H Q E h => ?_) (fun cdv A outer s H vs Q E hr h => ?_)
  · obtain ⟨q, p, cs, sn, t, rfl, _⟩ := h
    rfl
  · obtain ⟨q, p, cs, sn, t, rfl, hq, ok, hp, hs, pos, k1, k2, k3⟩ := h
    obtain ⟨l0, l1, nn, S⟩ := id ok
    refine ⟨_, (pss_cons (ps_if (pt_cmpR op_eq (pe_callB (kLen (K := K)) (by rfl) B.len (by decide +kernel) (pa_cons (pv 1) pa_nil)) (pe_op op_sub (pe_callB (kLen (K := K)) (by rfl) B.len (by decide +kernel) (pa_cons (pv 0) pa_nil)) pe_int) (nomark _)) (pss_one (ps_ret (pe_lstN (pa_cons pe_str (pa_cons pe_non pa_nil))))) pss_nil)
      (pss_cons (ps_par (i := 3) (j := 4) (by rfl) sc.nd rfl rfl (by decide) rfl rfl (pa_cons (pe_has h_law_chance (hr.mono (by decide)) (pa_cons (pv 0) (pa_cons (pe_op op_catN (pv 1) (pe_lstN (pa_cons (pv 2) pa_nil))) pa_nil))) (pa_cons (pe_has h_law_chance (hr.mono (by decide)) (pa_cons (pv 0) (pa_cons (pv 1) pa_nil))) pa_nil)) (by rfl))
      (pss_one (ps_ret (PE.mon (pe_ifExp (pt_cmpR op_gt (pe_ix (ixT (K := K)) (pv 3) pe_int (fun _ _ => rfl)) pe_int (nomark _)) (pe_lstN (pa_cons pe_str (pa_cons (pe_has h_law_part (hr.mono (by decide)) (pa_cons (pe_op op_mulS (pe_ix (ixT (K := K)) (pv 3) pe_int (fun _ _ => rfl)) (pe_ix (ixT (K := K)) (pv 4) pe_int (fun _ _ => rfl))) (pa_cons (pe_op op_mulS (pe_ix (ixT (K := K)) (pv 3) pe_int (fun _ _ => rfl)) (pe_ix (ixT (K := K)) (pv 4) pe_int (fun _ _ => rfl))) pa_nil))) pa_nil))) (pe_lstN (pa_cons pe_str (pa_cons pe_non pa_nil))))))))), ?_⟩
    walk_at "rd"
    refine ⟨_, .inl (.of hp), _, .inr hq, ?_⟩
    rw [List.length_map, List.length_map]
    by_cases hl : sn.length + 1 = cs.length
    · rw [if_pos (by omega)]
      refine ⟨by decide, fun l H1 n1 e1 t1 => k1 hl l H1 e1 n1 t1⟩
    rw [if_neg (by omega)]
    refine ⟨by decide, fun l1' H1 n1 e1 t1 => ?_⟩
    refine ⟨p, l1', _, _, rfl, rfl, e1 _ _ hp, t1, sizeLine_le (by rw [List.length_map]; simp only [List.length_cons, List.length_nil]; omega), fun l2 H2 n2 e2 t2 => ?_⟩
    have t2 : H2 l2 = some (.lst ((sn ++ [t]).map V.bl)) := by
      rw [List.map_append]
      exact t2
    have e02 := e1.trans e2
    refine ⟨q, l2, cs, sn ++ [t], rfl, sqT_kp hq e02.kp, ok, .of t2, by rw [List.length_append]; simp only [List.length_cons, List.length_nil]; omega, fun y3 H3 e3 h3 => ?_⟩
    have e03 := e02.trans e3
    refine ⟨q, p, cs, sn, rfl, sqT_kp hq e03.kp, ok, .of (e03 _ _ hp), hs, fun y4 H4 e4 h4 => ?_⟩
    have e04 := e03.trans e4
    have h3 := h3.kp e4.kp
    obtain ⟨p3, rfl, hp3⟩ := id h3
    obtain ⟨p4, rfl, hp4⟩ := id h4
    obtain ⟨z3, _, g3⟩ := chS_sz ok (sn := sn ++ [t]) (by rw [List.length_append]; simp only [List.length_cons, List.length_nil]; omega)
    obtain ⟨z4, _, g4⟩ := chS_sz ok (sn := sn) hs
    have g4' := g4.mpr pos
    have elen : (sn ++ [t]).length = sn.length + 1 := by simp
    rw [elen] at g3
    walk_at "rd"
    refine ⟨Q, ?_, fun _ _ h => h⟩
    walk_at "rd"
    refine q_ixT hp3 at0 ?_
    walk_at "rd"
    by_cases hz : (bhL cs (sn.length + 1) (yesN (sn ++ [t]))).sum = 0
    · rw [if_neg (fun h => by have := g3.mp h; omega)]
      walk_at "rd"
      exact ⟨by decide, fun l H5 n5 e5 t5 => k2 (by omega) hz l H5 (e04.trans e5) (e04.free n5) t5⟩
    · have hp' : 0 < (bhL cs (sn.length + 1) (yesN (sn ++ [t]))).sum := by
        have h := (chS_sz ok (sn := sn ++ [t]) (by rw [elen]; omega)).2.1
        rw [elen] at h
        omega
      rw [if_pos (g3.mpr hp')]
      refine q_ixT hp3 at0 ?_
      refine q_ixT hp4 at1 ?_
      walk_at "rd"
      refine ⟨cmul 9000 9000 (lt2_mono z3.1 (by decide)) (lt2_mono (den_lt z4) (by decide)), ?_⟩
      refine q_ixT hp3 at1 ?_
      refine q_ixT hp4 at0 ?_
      walk_at "rd"
      refine ⟨cmul 9000 9000 (lt2_mono (den_lt z3) (by decide)) (lt2_mono z4.1 (by decide)), ?_⟩
      refine ⟨_, _, rfl, Int.mul_pos (den_pos _) g4', lt2_mono (wide_lt (den_lt z3) z4.1) (by decide), fun y5 H5 e5 h5 => ?_⟩
      rw [div_parts g4', chT_div l0 l1 S (by omega)] at h5
      refine ⟨by decide, fun l H6 n6 e6 t6 => ?_⟩
      exact k3 (by omega) hp' l y5 H6 ((e04.trans e5).trans e6) ((e04.trans e5).free n6) t6 (h5.kp e6.kp)
end

section
variable {P : Program} {w : World} {K : PySem.W.Frag} {mg : Str → Option Value} {base : Heap}
/-! ### _law_outcome -/
structure Outs (K : PySem.W.Frag) (CM CN CU : Addr) : Prop where
  mm : PySem.W.exmOne K (.ref CM) (.ref CM) = some true
  nm : PySem.W.exmOne K (.ref CN) (.ref CM) = some false
  nn : PySem.W.exmOne K (.ref CN) (.ref CN) = some true
  um : PySem.W.exmOne K (.ref CU) (.ref CM) = some false
  un : PySem.W.exmOne K (.ref CU) (.ref CN) = some false
  uu : PySem.W.exmOne K (.ref CU) (.ref CU) = some true
def TTout (CM CN CU : Addr) : (XK → Hp → VK → Prop) → Hp → VK → Prop := fun tl H Q =>
  tl (fun cls _ H' => (cls = .ref CM ∧ New H' (.lst [.str "no more", .non]) Q) ∨ (cls = .ref CN ∧ New H' (.lst [.str "no chance", .non]) Q) ∨ (cls = .ref CU ∧ New H' (.lst [.str "nothing", .non]) Q)) H
    (fun v H' => New H' (.lst [.str "told", v]) Q)
theorem scOutcome : FnScope ["act", "came"] ["act"] (defScope (top 46)) := ⟨rfl, rfl, rfl, by decide +kernel, rfl, by decide +kernel, by decide +kernel⟩
theorem told_out {X : Cx} {q : Str} {g CM CN CU : Addr} {cdg : Value} (O : Outs X.K CM CN CU) (m1 : X.mg "NoMore" = some (.ref CM)) (m2 : X.mg "NoChance" = some (.ref CN)) (m3 : X.mg "NothingToUndo" = some (.ref CU)) :
    LamX.GivesTo X ["act", "came"] "_law_outcome" (defScope (top 46)) g cdg (defBody (top 46)) "act" q (TTout CM CN CU) := by
  intro f c' s H Q tl run code goal
  have sc := scOutcome
  let tbody : WX → TS := fun W D σ G => ∃ Er : XK, (∀ cls d σ' G', Er cls d G' → W cls d σ' G') ∧ σ[0]? = some (some (.ref f)) ∧ G c' = some (LamX.CodeO c' q) ∧ tl Er G (fun v G' => D.nx (σ.set 1 (some v)) G')
  have suite : ∀ {Y : Cx} {st : Str} {p1 p2 p3 p4 : Pos} {j1 j2 : Nat}, PSs Y [.Return (some (.List [.Constant (.str st) j1 p1, .Constant .none j2 p2] p3)) p4] (tRet (nLst (tCons (tC (.str st)) (tCons (tC .non) tNil)))) := fun {Y st p1 p2 p3 p4 j1 j2} => pss_one (ps_ret (pe_lstN (pa_cons pe_str (pa_cons pe_non pa_nil))))
  refine ⟨_, pss_cons (ps_try_many (X := (cxOf C8.CX0 X.prog X.w X.K X.mg X.base ["act", "came"] "_law_outcome" (defScope (top 46)) g cdg X.A X.stack s H C8.E0).nox) (tb := tbody) rfl rfl LamX.takes0 (fun W pn xe tk _ => ?_)
      (.cons ⟨rfl, by decide, .inl m1⟩ (fun _ _ _ _ _ _ _ => suite) (.cons ⟨rfl, by decide, .inl m2⟩ (fun _ _ _ _ _ _ _ => suite) (.cons ⟨rfl, by decide, .inl m3⟩ (fun _ _ _ _ _ _ _ => suite) .nil))))
      (pss_one (ps_ret (pe_lstN (pa_cons pe_str (pa_cons (pv 1) pa_nil))))), ?_⟩
  · refine ⟨fun pins s' σ G D I ⟨Er, h0, h1, h2, h3⟩ => ?_⟩
    exact (pss_one (ps_set (i := 1) sc.nd rfl (by first | exact Or.inl rfl | exact Or.inr rfl) (run W pn xe Er _ _ tk h0))).run pins s' σ G D I ⟨h1, h2, h3⟩
  · have two : ∀ {st : Str} {G : Hp} {σ : L2.St}, New G (.lst [.str st, .non]) Q → nLst (tCons (tC (.str st)) (tCons (tC .non) tNil)) σ G Q := fun {st G σ} h => ⟨(by show 2 ≤ sizeLine; decide), h⟩
    refine ⟨fun cls _ H' => (cls = .ref CM ∧ New H' (.lst [.str "no more", .non]) Q) ∨ (cls = .ref CN ∧ New H' (.lst [.str "no chance", .non]) Q) ∨ (cls = .ref CU ∧ New H' (.lst [.str "nothing", .non]) Q), ?_, rfl, code, ?_⟩
    · rintro cls d σ' G (⟨rfl, h⟩ | ⟨rfl, h⟩ | ⟨rfl, h⟩)
      · exact ⟨true, O.mm, fun _ _ _ => two h, fun z => nomatch z⟩
      · exact ⟨false, O.nm, (fun z => nomatch z), fun _ => ⟨true, O.nn, fun _ _ _ => two h, fun z => nomatch z⟩⟩
      · exact ⟨false, O.um, (fun z => nomatch z), fun _ => ⟨false, O.un, (fun z => nomatch z), fun _ => ⟨true, O.uu, fun _ _ _ => two h, fun z => nomatch z⟩⟩⟩
    · have fin : (fun v H' => New H' (.lst [.str "told", v]) Q) = (fun v G' => (tRet (nLst (tCons (tC (.str "told")) (tCons (tVar 1) tNil))) : TS) { nx := fun _ H' => Q .non H', rt := Q } (([some (.ref f), none] : L2.St).set 1 (some v)) G') := by
        funext v G'
        apply propext
        constructor
        · intro h
          exact ⟨_, rfl, (by show 2 ≤ sizeLine; decide), h⟩
        · rintro ⟨v', e, _, h⟩
          cases e
          exact h
      have goal : tl _ H (fun v H' => New H' (.lst [.str "told", v]) Q) := goal
      rw [fin] at goal
      exact goal
/-- _law_outcome(lambda: body) -/
theorem pe_out {X : Cx} {CM CN CU c Pt : Addr} {k : Nat} {params : Arguments} {body : Expr} {scope : Scope} {t : XK → TE} {p lpos pos : Pos} (D : Df K mg "_law_outcome" (top 46) ["act"]) (O : Outs K CM CN CU) (m1 : mg "NoMore" = some (.ref CM)) (m2 : mg "NoChance" = some (.ref CN)) (m3 : mg "NothingToUndo" = some (.ref CU))
    (TB : LamX.TabB base mg c Pt) (hcode : X.env.code = .ref c) (hr : Room (k + 2) X.A)
    (hbody : ∀ (A : Around) (outer : List Env) (s : Shared) (H : Hp) (E : XK) (f c' : Addr), Room k (A.deeper (LamX.lamEnv X scope s.heap.objs.size f c')) → PE (LamX.lamCx X A outer s H E scope f c') body (t E)) (hx : At X P w K mg base := by exact ⟨rfl, rfl, rfl, rfl, rfl⟩)
    (hg : Gl X "_law_outcome" := by rfl) (L : LamX.LamS X.env.scope scope := by exact LamX.lamS_by rfl) (hdef : defaultsOf params X.env = ([], []) := by rfl)
    (hbind : ∀ (q : Str) (cl : List (Str × Addr)) (pm cv ctv : Value), bindArgs (PySem.W.kla_fn "<lambda>" q params body scope cl pm cv ctv) ⟨[], []⟩ = pure [] := by intros; rfl) :
    PE X (.Call (.Name "_law_outcome" p) [.Lambda params body scope lpos] [] pos) (LamX.tLam [(Pt, X.env.qual ++ "<lambda>")] (TTout CM CN CU) t) := by
  obtain ⟨h1, h2, h3, h4, h5⟩ := hx
  subst h1 h2 h3 h4 h5
  obtain ⟨g, fd, F, hm, hb⟩ := D
  obtain ⟨oc, od, kV, doc, pm, an, cdv, ct, osl, rfl, look, hcd⟩ := F.ex
  refine LamX.pe_lamcall (k := k) hg hm F.kp look hcd hb scOutcome rfl (by first | exact Or.inl rfl | exact Or.inr (Or.inl rfl)) (told_out O m1 m2 m3) TB hcode (List.mem_singleton.mpr rfl) ?_ hr L hdef hbind hbody
  intro y hy _
  rw [List.mem_singleton.mp hy]
end

section
variable {P : Program} {w : World} {K : PySem.W.Frag} {mg : Str → Option Value} {base : Heap}
/-! ### rows compared with values of other kinds -/
theorem ty_lst {H : Hp} {a : Addr} {xs : List V} (h : SqL K H a xs) : TyX K H (.ref a) (.type "list") := by
  rcases h with (h | ⟨o, h⟩) | ⟨o, its, n, h, c, _⟩
  · exact .base (.lst h)
  · exact .base (.frz h)
  · exact .kList h c
inductive OddK (K : PySem.W.Frag) (H : Hp) : V → String → Prop
  | non : OddK K H .non "NoneType"
  | bl (b : Bool) : OddK K H (.bl b) "bool"
  | int (i : Int) : OddK K H (.int i) "int"
  | str (x : Str) : OddK K H (.str x) "str"
  | lst {a : Addr} {xs : List V} (h : SqL K H a xs) : OddK K H (.ref a) "list"
  | tup {a : Addr} {xs : List V} (h : SqT K H a xs) : OddK K H (.ref a) "tuple"
  | dct {a : Addr} {kvs : List (Key × V)} (h : H a = some (.dK kvs)) : OddK K H (.ref a) "dict"
theorem OddK.ty {H : Hp} {v : V} {T : String} (h : OddK K H v T) : TyX K H v (.type T) := by
  cases h with
  | non => exact .base .non
  | bl b => exact .base (.bl b)
  | int i => exact .base (.int i)
  | str x => exact .base (.str x)
  | lst h => exact ty_lst h
  | tup h => exact ty_tup h
  | dct h => exact .base (.dK h)
def oddNames : List String := ["NoneType", "bool", "int", "str", "list", "tuple", "dict"]
theorem OddK.mem {H : Hp} {v : V} {T : String} (h : OddK K H v T) : T ∈ oddNames := by
  cases h <;> simp [oddNames]
theorem OddK.kp {H H' : Hp} {v : V} {T : String} (h : OddK K H v T) (e : Ex H H') : OddK K H' v T := by
  cases h with
  | non => exact .non
  | bl b => exact .bl b
  | int i => exact .int i
  | str x => exact .str x
  | lst h => exact .lst (sqL_ex h e)
  | tup h => exact .tup (sqT_kp h e.kp)
  | dct h => exact .dct (e _ _ h)
section
variable {X : Cx} {pins : List (Addr × Obj)} {σ : L2.St} {H : Hp} {s : Shared}
theorem OddK.odd {v : V} {u : Value} {T : String} (h : OddK X.K H v T) (I : Inv X pins σ H s) (r : RelV v u) : OddC s u T := by
  cases h with
  | non => cases (show u = Value.none from r); exact odd_none s
  | bl b => cases (show u = Value.bool b from r); exact odd_bool s b
  | int i => obtain ⟨t, q⟩ := (show ∃ t, u = Value.int i t from r); cases q; exact odd_int s i t
  | str x => obtain ⟨t, q⟩ := (show ∃ t, u = Value.str x t from r); cases q; exact odd_str s x t
  | @lst a xs h =>
    cases (show u = Value.ref a from r)
    obtain ⟨its, _, ⟨o, n, e, c, d, q⟩, _⟩ := I.list h
    obtain ⟨oc, od, dt, sl⟩ := o
    simp only at c q
    subst c q
    exact odd_list s a e
  | @tup a xs h =>
    cases (show u = Value.ref a from r)
    obtain ⟨its, _, ⟨o, e, c, n, q⟩, _⟩ := I.tuple h
    obtain ⟨oc, od, dt, sl⟩ := o
    simp only at c q
    subst c q
    exact odd_tuple s a e
  | @dct a kvs h =>
    cases (show u = Value.ref a from r)
    obtain ⟨_, _, vs, _, o, es, ep, e, x, q, _⟩ := (show ObjOk X.prog X.w H s.heap a (.dK kvs) from I.hok a _ h)
    obtain ⟨oc, od, dt, sl⟩ := o
    have c := x.1
    simp only at c q
    subst c q
    exact odd_dict s a e
end
/-- Row.__eq__ of a value of another kind -/
def spEqO (K : PySem.W.Frag) (C : Addr) : Sp := fun vs H Q _ => ∃ (x y : V) (ps : List Int) (T : String), vs = [x, y] ∧ IsRow K C H x ps ∧ OddK K H y T ∧ Q (.bl false) H
theorem ok_eqO {C f : Addr} {fd : FuncData} (F : Fun K "__eq__" "Row.__eq__" (inClass (top 25) 7) f fd) (B : Bi mg) (RC : RowC K mg C) (hodd : ∀ T ∈ oddNames, PySem.W.kitOne K (.type T) (.ref C) = some false) : FnOk P w K mg base CX0 1 f fd ["self", "other"] (spEqO K C) := by
  have sc := scEq
  refine F.ok sc (fun vs H Q E h => ?_) (fun cdv A outer s H vs Q E hr h => ?_)
  · obtain ⟨x, y, ps, T, rfl, _⟩ := h
    rfl
  · obtain ⟨x, y, ps, T, rfl, ⟨a, dx, p, rfl, hA, hS⟩, ho, k⟩ := h
    refine ⟨_, (pss_one (ps_ret (pe_and (pe_callB (kIsi (K := K)) (by rfl) B.isinstance (by decide +kernel) (pa_cons (pv 1) (pa_cons (pe_glob (v := .ref C) rfl RC.mgC rfl) pa_nil))) (pe_one (pe_cmpR (op_eqD hr.units) (pe_fld (pv 0) rfl) (pe_fld (pv 1) rfl) (nomark _)))))), ?_⟩
    walk_at "rd"
    refine ⟨_, _, _, _, false, rfl, .own C, ho.ty, hodd T ho.mem, ?_⟩
    walk_at "rd"
    exact k
end

section
variable {P : Program} {w : World} {K : PySem.W.Frag} {mg : Str → Option Value} {base : Heap}
/-! ### == and != of rows and other things, the rules -/
/-- C's own __eq__ is the def at f; it has no own __ne__ -/
def OwnEq (K : PySem.W.Frag) (C f : Addr) : Prop := ∃ (N : Addr) (of : Obj) (nm q : Str) (bs : List Value) (hdct : Bool) (sn : List Str) (sub : List Value) (ab : Bool) (col : Option Bool) (dd : Option Addr) (k0 k1 k2 k3 k5 : Option Value) (newId : String),
  K.lookup C = some (excClassObj nm q C N bs [.type "object"] hdct sn sub ab col dd k0 k1 k2 k3 k5 newId) ∧ PySem.W.nsOkIn K N = true ∧ PySem.W.nsIn K N "__eq__" = some (some (.ref f)) ∧ PySem.W.nsIn K N "__ne__" = some none ∧ K.lookup f = some of ∧ of.cls = .type "function"
structure RowQ (P : Program) (w : World) (K : PySem.W.Frag) (mg : Str → Option Value) (base : Heap) (C : Addr) : Prop where
  q : ∃ f fd, OwnEq K C f ∧ FnOk P w K mg base CX0 1 f fd ["self", "other"] (spEqR K C) ∧ FnOk P w K mg base CX0 1 f fd ["self", "other"] (spEqO K C) ∧ Binds K fd ["self", "other"] []
/-- what == says of two values, a row among them -/
def CmpQ (K : PySem.W.Frag) (C : Addr) (H : Hp) (x y : V) (b : Bool) : Prop :=
  (∃ ps qs, IsRow K C H x ps ∧ IsRow K C H y qs ∧ b = PyData.eqv (intsD ps) (intsD qs)) ∨ (∃ ps T, IsRow K C H x ps ∧ OddK K H y T ∧ b = false) ∨ (∃ ps T, OddK K H x T ∧ IsRow K C H y ps ∧ b = false)
def rEqQ (K : PySem.W.Frag) (C : Addr) : R2 := fun x y H Q => ∃ b, CmpQ K C H x y b ∧ Q (.bl b) H
def rNeQ (K : PySem.W.Frag) (C : Addr) : R2 := fun x y H Q => ∃ b, CmpQ K C H x y b ∧ Q (.bl (!b)) H
section
variable {X : Cx} {C : Addr}
theorem run_eqQ {f a : Addr} {y : V} {u : Value} {fd : FuncData} {b : Bool} {sp : Sp} {A : Around} {pins : List (Addr × Obj)} {s : Shared} {σ : L2.St} {H : Hp} (F : FnOk X.prog X.w X.K X.mg X.base CX0 1 f fd ["self", "other"] sp) (hb : Binds X.K fd ["self", "other"] []) (I : Inv X pins σ H s) (hr : Room 1 A) (he : Env0 X.prog X.w X.K X.mg X.base A X.stack s H) (ry : RelV y u)
    (h : sp [.ref a, y] H (fun v H' => v = .bl b ∧ H' = H) E0) {EE : Value → Shared → Prop} {QQ : Value → Shared → Prop} (hk : ∀ s', Inv X pins σ H s' → QQ (.bool b) s') : wpAny (model X.prog X.w) A (call (.ref f) [.ref a, u]) QQ EE s := by
  have bnd := hb s [.ref a, u] I.kIn rfl
  rw [List.append_nil] at bnd
  refine wpAny_call (codeAny_mono (F.run A X.stack s H ⟨[.ref a, u], []⟩ [.ref a, u] [.ref a, y] _ E0 hr he bnd (.cons rfl (.cons ry .nil)) h) fun res s' hq => ?_)
  cases res with
  | error er => exact (show False from hq).elim
  | ok fl =>
    cases fl with
    | next => exact hq.elim
    | brk => exact hq.elim
    | cont => exact hq.elim
    | ret z =>
      obtain ⟨v, H', I', rz, ez, eh⟩ := I.after hq
      subst ez eh
      obtain rfl : z = Value.bool b := rz
      exact hk _ I'
theorem OwnEq.ins {f a dx : Addr} {fs : List (Str × V)} {pins : List (Addr × Obj)} {s : Shared} {σ : L2.St} {H : Hp} (Y : OwnEq X.K C f) (I : Inv X pins σ H s) (e : H a = some (.ins C dx fs)) :
    InsAt s.heap a C [.type "object"] ∧ s.heap.OwnEqNoNe a C f "object" [.type "object"] := by
  obtain ⟨N, of, nm, q, bs, hdct, sn, sub, ab, col, dd, k0, k1, k2, k3, k5, newId, lC, okN, n1, n2, lf, cf⟩ := Y
  obtain ⟨mA, OA, _⟩ := ins_get I.hok e
  have KI := I.kIn
  have hns : s.heap.Ns N (s.heap.nsMap N) := .of_isNs (PySem.W.isNs_of_in KI okN)
  have nNe : s.heap.nsMap N "__ne__" = none := PySem.W.ns_none_of KI hns n2
  have nEq : s.heap.nsMap N "__eq__" = some (.ref f) := ns_some KI hns n1
  exact ⟨⟨_, nm, q, N, bs, hdct, sn, sub, ab, col, dd, k0, k1, k2, k3, k5, newId, OA.obj, rfl, rfl, KI _ _ lC⟩,
    ⟨_, of, nm, q, N, bs, hdct, sn, sub, ab, col, dd, k0, k1, k2, k3, k5, newId, _, _, OA.obj, rfl, KI _ _ lC, hns, nEq, KI _ _ lf, cf, PySem.F.cmp_object.mro, rfl, nNe⟩⟩
theorem op_eqQ (T : RowQ X.prog X.w X.K X.mg X.base C) (hr : Room 3 X.A) : OpR X (compareOp .Eq) (rEqQ X.K C) := by
  intro pins s σ H x y v u Q I rx ry ⟨b, h, k⟩
  obtain ⟨f, fd, Y, F1, F2, hb⟩ := T.q
  have J := I
  have hun := hr.un
  obtain ⟨hp, g, d, tk, os⟩ := s
  have h2 : Room 1 X.A := hr.mono (by decide)
  have fin : ∀ s', Inv X pins σ H s' → EP X pins σ Q (.bool b) s' := fun s' I' => ⟨.bl b, H, I', rfl, k⟩
  rcases h with ⟨ps, qs, r1, r2, eb⟩ | ⟨ps, T, r1, o2, eb⟩ | ⟨ps, T, o1, r2, eb⟩
  · obtain ⟨a, dx, p, rfl, hA, hS⟩ := id r1
    obtain ⟨c, dy, q, rfl, hB, hT⟩ := id r2
    obtain rfl : v = Value.ref a := rx
    obtain rfl : u = Value.ref c := ry
    obtain ⟨IA, OA⟩ := Y.ins J hA
    obtain ⟨mB, OB, _⟩ := ins_get J.hok hB
    subst eb
    refine compareOp_own_same (op := .Eq) rfl ⟨by simp, by simp, by simp, by simp⟩ OA.ownEq OB.obj rfl (by omega) ?_
    exact run_eqQ (y := .ref c) (u := .ref c) F1 hb J h2 J.env0 rfl ⟨_, _, ps, qs, rfl, r1, r2, rfl, rfl⟩ fun s' I' => ⟨_, rfl, fin _ I'⟩
  · obtain ⟨a, dx, p, rfl, hA, hS⟩ := id r1
    obtain rfl : v = Value.ref a := rx
    obtain ⟨IA, OA⟩ := Y.ins J hA
    subst eb
    refine rich_row_odd (op := .Eq) rfl IA (o2.odd J ry) (by omega) (try_eq_own OA.ownEq ?_)
    exact run_eqQ F2 hb J h2 J.env0 ry ⟨_, _, ps, T, rfl, r1, o2, rfl, rfl⟩ fun s' I' => ⟨_, rfl, _, rfl, fin _ I'⟩
  · obtain ⟨a, dx, p, rfl, hA, hS⟩ := id r2
    obtain rfl : u = Value.ref a := ry
    obtain ⟨IA, OA⟩ := Y.ins J hA
    subst eb
    have O := o1.odd J rx
    refine rich_odd_row (op := .Eq) rfl IA O (by omega) (fun Q' q' => O.eq _ _ _ _ _ _ _ IA q') (try_eq_own OA.ownEq ?_)
    exact run_eqQ F2 hb J h2 J.env0 rx ⟨_, _, ps, T, rfl, r2, o1, rfl, rfl⟩ fun s' I' => ⟨_, rfl, _, rfl, fin _ I'⟩
theorem op_neQ (T : RowQ X.prog X.w X.K X.mg X.base C) (hr : Room 3 X.A) : OpR X (compareOp .NotEq) (rNeQ X.K C) := by
  intro pins s σ H x y v u Q I rx ry ⟨b, h, k⟩
  obtain ⟨f, fd, Y, F1, F2, hb⟩ := T.q
  have J := I
  have hun := hr.un
  obtain ⟨hp, g, d, tk, os⟩ := s
  have h2 : Room 1 X.A.in1 := (hr.mono (by decide : 2 ≤ 3)).in1
  have fin : ∀ s', Inv X pins σ H s' → EP X pins σ Q (.bool (!b)) s' := fun s' I' => ⟨.bl (!b), H, I', rfl, k⟩
  rcases h with ⟨ps, qs, r1, r2, eb⟩ | ⟨ps, T, r1, o2, eb⟩ | ⟨ps, T, o1, r2, eb⟩
  · obtain ⟨a, dx, p, rfl, hA, hS⟩ := id r1
    obtain ⟨c, dy, q, rfl, hB, hT⟩ := id r2
    obtain rfl : v = Value.ref a := rx
    obtain rfl : u = Value.ref c := ry
    obtain ⟨IA, OA⟩ := Y.ins J hA
    obtain ⟨mB, OB, _⟩ := ins_get J.hok hB
    subst eb
    refine compareOp_ne_ownEq PySem.F.cmp_object OA OB.obj rfl (by omega) ?_
    exact run_eqQ (y := .ref c) (u := .ref c) F1 hb J h2 J.env0.in1 rfl ⟨_, _, ps, qs, rfl, r1, r2, rfl, rfl⟩ fun s' I' => ⟨_, rfl, fin _ I'⟩
  · obtain ⟨a, dx, p, rfl, hA, hS⟩ := id r1
    obtain rfl : v = Value.ref a := rx
    obtain ⟨IA, OA⟩ := Y.ins J hA
    subst eb
    refine rich_row_odd (op := .NotEq) rfl IA (o2.odd J ry) (by omega) (try_ne_own PySem.F.cmp_object OA (by omega) ?_)
    exact run_eqQ F2 hb J h2 J.env0.in1 ry ⟨_, _, ps, T, rfl, r1, o2, rfl, rfl⟩ fun s' I' => ⟨_, rfl, _, rfl, fin _ I'⟩
  · obtain ⟨a, dx, p, rfl, hA, hS⟩ := id r2
    obtain rfl : u = Value.ref a := ry
    obtain ⟨IA, OA⟩ := Y.ins J hA
    subst eb
    have O := o1.odd J rx
    refine rich_odd_row (op := .NotEq) rfl IA O (by omega) (fun Q' q' => O.ne _ _ _ _ _ _ _ IA q') (try_ne_own PySem.F.cmp_object OA (by omega) ?_)
    exact run_eqQ F2 hb J h2 J.env0.in1 rx ⟨_, _, ps, T, rfl, r2, o1, rfl, rfl⟩ fun s' I' => ⟨_, rfl, _, rfl, fin _ I'⟩
end
section
variable {X : Cx} {C : Addr}
theorem kEqQ (T : RowQ P w K mg base C) (hr : Room 3 X.A) (hx : At X P w K mg base := by exact ⟨rfl, rfl, rfl, rfl, rfl⟩) : OpR X (compareOp .Eq) (rEqQ K C) := by
  obtain ⟨h1, h2, h3, h4, h5⟩ := hx
  subst h1 h2 h3 h4 h5
  exact op_eqQ T hr
theorem kNeQ (T : RowQ P w K mg base C) (hr : Room 3 X.A) (hx : At X P w K mg base := by exact ⟨rfl, rfl, rfl, rfl, rfl⟩) : OpR X (compareOp .NotEq) (rNeQ K C) := by
  obtain ⟨h1, h2, h3, h4, h5⟩ := hx
  subst h1 h2 h3 h4 h5
  exact op_neQ T hr
end
end

section
variable {P : Program} {w : World} {K : PySem.W.Frag} {mg : Str → Option Value} {base : Heap}
/-! ### _law_right -/
def lamQ : Str := "_law_right.<locals>.<lambda>"
def spRightN (K : PySem.W.Frag) (Pt : Addr) : Sp := fun vs H Q _ => ∃ v, vs = [.ref v] ∧ VatAt H v ∧ Tb Pt lamQ H ∧ ∀ H', Gn v H H' → Tb Pt lamQ H' → Q (.bl true) H'
theorem scRight : FnScope ["vat", "again", "some", "mine", "seen", "board", "step", "truth", "due", "rest", "told"] ["vat"] (defScope (top 48)) := ⟨rfl, rfl, rfl, by decide +kernel, rfl, by decide +kernel, by decide +kernel⟩
theorem Tb.but {b dxb : Addr} {H H' : Hp} {CW Pt : Addr} {q : Str} {fs : List (Str × V)} (t : Tb Pt q H) (hb : H b = some (.ins CW dxb fs)) (e : But1 b H H') : Tb Pt q H' := by
  intro p hp
  obtain ⟨ps, h1, h2, h3⟩ := t p hp
  refine ⟨ps, e _ _ (fun z => by rw [z, hb] at h1; cases h1) h1, h2, fun pos cv hc => ?_⟩
  obtain ⟨c, e1, e2⟩ := h3 pos cv hc
  exact ⟨c, e1, e _ _ (fun z => by rw [z, hb] at e2; unfold LamX.CodeO at e2; cases e2) e2⟩
/-- nothing but a table stands at b -/
def Fre (H : Hp) (b : Addr) : Prop := ∀ o, H b = some o → ∃ ps, o = .tbl ps
theorem Gn.but {v b : Addr} {H G G' : Hp} (g : Gn v H G) (n : Fre H b) (bv : b ≠ v) (e : But1 b G G') : Gn v H G' := by
  refine ⟨g.old, fun a o na h m => e a o (fun z => by obtain ⟨p, hp⟩ := n o (by rw [← z]; exact h); exact m p hp) (g.keep a o na h m), ?_⟩
  obtain ⟨x, y, z, h1, h2⟩ := g.new
  exact ⟨x, y, z, e v _ (Ne.symm bv) h1, h2⟩
/-- what stands between two steps -/
structure St56 (K : PySem.W.Frag) (C CW Pt v : Addr) (H G : Hp) (qa pl b am : Addr) (cs ps : List Int) (sn : List Bool) : Prop where
  gn : Gn v H G
  tb : Tb Pt lamQ G
  hq : SqT K G qa (cs.map V.int)
  hm : IsRow K C G (.ref am) ps
  hw : IsWatch K C CW G b (.ref am) ps sn
  hl : G pl = some (.lst (sn.map V.bl))
  lv : Live ps sn
  lc : 0 < (bhL cs sn.length (yesN sn)).sum ∧ sn.length < cs.length
  nb : Fre H b
  bv : b ≠ v
  mb : V.ref am ≠ V.ref b
  pv : pl ≠ v
theorem St56.gv {C CW Pt v : Addr} {H G G' : Hp} {qa pl b am : Addr} {cs ps : List Int} {sn : List Bool} (s : St56 K C CW Pt v H G qa pl b am cs ps sn) (g : Gv v G G') : St56 K C CW Pt v H G' qa pl b am cs ps sn :=
  ⟨s.gn.trans g.n, s.tb.kp g.kp, sqT_kp s.hq g.kp, s.hm.kp g.kp, s.hw.kp g.kp, g.lst s.pv s.hl, s.lv, s.lc, s.nb, s.bv, s.mb, s.pv⟩
theorem St56.en {C CW Pt v : Addr} {H G G' : Hp} {qa pl b am : Addr} {cs ps : List Int} {sn : List Bool} (s : St56 K C CW Pt v H G qa pl b am cs ps sn) (g : ExN G G') (t : Tb Pt lamQ G') : St56 K C CW Pt v H G' qa pl b am cs ps sn := by
  obtain ⟨dx, T, h1, h2, o, h3, h4⟩ := s.hw
  obtain ⟨a, dy, q, e1, e2, e3⟩ := s.hm
  have m' : IsRow K C G' (.ref am) ps := ⟨a, dy, q, e1, g _ _ e2 (fun _ z => nomatch z), sqT_kn e3 g.kn⟩
  exact ⟨s.gn.en g, t, sqT_kn s.hq g.kn, m', ⟨dx, T, g _ _ h1 (fun _ z => nomatch z), m', o, g _ _ h3 (fun _ z => nomatch z), h4⟩, g.lst s.hl, s.lv, s.lc, s.nb, s.bv, s.mb, s.pv⟩
theorem St56.ex {C CW Pt v : Addr} {H G G' : Hp} {qa pl b am : Addr} {cs ps : List Int} {sn : List Bool} (s : St56 K C CW Pt v H G qa pl b am cs ps sn) (e : Ex G G') : St56 K C CW Pt v H G' qa pl b am cs ps sn :=
  s.en e.n (s.tb.ex e)
/-- the watch has changed -/
theorem St56.set {C CW Pt v : Addr} {H G G' : Hp} {qa pl b am : Addr} {cs ps : List Int} {sn sm : List Bool} (s : St56 K C CW Pt v H G qa pl b am cs ps sn) (e : But1 b G G') (w : IsWatch K C CW G' b (.ref am) ps sm) :
    Gn v H G' ∧ Tb Pt lamQ G' ∧ SqT K G' qa (cs.map V.int) ∧ IsRow K C G' (.ref am) ps ∧ G' pl = some (.lst (sn.map V.bl)) := by
  obtain ⟨dx, T, h1, _⟩ := s.hw
  exact ⟨s.gn.but s.nb s.bv e, s.tb.but h1 e, sqT_but s.hq h1 e, s.hm.but h1 s.mb e, e _ _ (fun z => by have := s.hl; rw [z, h1] at this; cases this) s.hl⟩
theorem gd_none : Gd .none 0 1930 := ⟨by simp [PyData.canLay0], by simp [PyData.showable], by simp [PyData.hasDict], Nat.le_of_eq (by simp [PyData.depth]), by simp [costD]⟩
theorem gd_bls (sn : List Bool) (h : sn.length ≤ 6) : Gd (.tuple (sn.map PyData.bool)) 1 (6 * 1932 + 3) :=
  Gd.tuple (k := 0) (c := 1930) (fun d hd => by
    obtain ⟨c, hc, rfl⟩ := List.mem_map.mp hd
    exact .bool c) (by rw [List.length_map]; exact h)
theorem bls_dp {H : Hp} : ∀ sn : List Bool, DpAll K H (sn.map V.bl) (sn.map PyData.bool)
  | [] => .nil
  | _ :: sn => .cons (.bl _) (bls_dp sn)
theorem gd_w1 : Gd (.str "no more") 0 4000 := ⟨by simp [PyData.canLay0]; decide +kernel, by decide +kernel, by simp [PyData.hasDict], Nat.le_of_eq (by simp [PyData.depth]), by show (reprText ("no more" : Str)).length ≤ 4000; decide +kernel⟩
theorem gd_w2 : Gd (.str "no chance") 0 4000 := ⟨by simp [PyData.canLay0]; decide +kernel, by decide +kernel, by simp [PyData.hasDict], Nat.le_of_eq (by simp [PyData.depth]), by show (reprText ("no chance" : Str)).length ≤ 4000; decide +kernel⟩
theorem gd_w3 : Gd (.str "nothing") 0 4000 := ⟨by simp [PyData.canLay0]; decide +kernel, by decide +kernel, by simp [PyData.hasDict], Nat.le_of_eq (by simp [PyData.depth]), by show (reprText ("nothing" : Str)).length ≤ 4000; decide +kernel⟩
theorem gd_w4 : Gd (.str "told") 0 4000 := ⟨by simp [PyData.canLay0]; decide +kernel, by decide +kernel, by simp [PyData.hasDict], Nat.le_of_eq (by simp [PyData.depth]), by show (reprText ("told" : Str)).length ≤ 4000; decide +kernel⟩
theorem gd_two {a b : PyData} (ha : Gd a 0 4000) (hb : Gd b 1 4000) : Gd (.list [a, b]) 2 (2 * 4002 + 3) :=
  Gd.list (k := 1) (c := 4000) (n := 2) (fun d hd => by
    simp only [List.mem_cons, List.not_mem_nil, or_false] at hd
    rcases hd with rfl | rfl
    · exact ha.mono (by decide) (Nat.le_refl _)
    · exact hb) (Nat.le_refl 2)
theorem gd_none4 : Gd .none 1 4000 := gd_none.mono (by decide) (by decide)
theorem two_dp {H : Hp} {l : Addr} {s : Str} {y : V} {d : PyData} (h : H l = some (.lst [.str s, y])) (hy : Dp K H y d) : Dp K H (.ref l) (.list [.str s, d]) := .lst (.of h) (.cons (.str _) (.cons hy .nil))
theorem bls_ld {H : Hp} {l : Addr} {sn : List Bool} (h : H l = some (.lst (sn.map V.bl))) : Dp K H (.ref l) (.list (sn.map PyData.bool)) := .lst (.of h) (bls_dp sn)
theorem gd_lbls (sn : List Bool) (h : sn.length ≤ 6) : Gd (.list (sn.map PyData.bool)) 1 (6 * 1932 + 3) :=
  Gd.list (k := 0) (c := 1930) (fun d hd => by
    obtain ⟨c, hc, rfl⟩ := List.mem_map.mp hd
    exact .bool c) (by rw [List.length_map]; exact h)
theorem look_meth (x : V) (T : Addr) {m : Str} (h1 : (m == ("_row" : Str)) = false) (h2 : (m == ("_outcomes" : Str)) = false) : List.lookup m [(("_row" : Str), x), (("_outcomes" : Str), V.ref T)] = none := by
  simp [List.lookup, h1, h2]
theorem live_pre {ps : List Int} {m n : Nat} {sm : List Bool} {t : Bool} (h : PR m n ps) (lv : Live ps (sm ++ [t])) : Live ps sm := by
  obtain ⟨l1, l2⟩ := lv
  have le : (sm ++ [t]).length = sm.length + 1 := by simp
  rw [le] at l1 l2
  have q := live_split (sn := sm) h (by rw [h.len] at l1; omega)
  have a := bh_nn h (sm.length + 1) (yesN (sm ++ [true]))
  have b := bh_nn h (sm.length + 1) (yesN (sm ++ [false]))
  refine ⟨by omega, ?_⟩
  cases t <;> omega
theorem has_right56 {C CW CM CN CU c Pt : Addr} (B : Bi mg) (RT : RowT P w K mg base C) (RQ : RowQ P w K mg base C) (DO : Df K mg "_law_outcome" (top 46) ["act"]) (OU : Outs K CM CN CU) (c_NoMore : mg "NoMore" = some (.ref CM)) (c_NoChance : mg "NoChance" = some (.ref CN)) (c_NothingToUndo : mg "NothingToUndo" = some (.ref CU)) (TB : LamX.TabB base mg c Pt)
    (Wmake : MakeT P w K mg base CW "Watch" 2 ["self", "row"] (spWInit K C CW)) (Wrow : PropT P w K mg base CW "row" 1 (spWRow K C CW)) (Wnoted : PropT P w K mg base CW "noted" 1 (spNoted K C CW)) (Wrest : PropT P w K mg base CW "rest" 6 (spRest K C CW))
    (Wnote : MethT P w K mg base (L2.CX P w) CW "note" 8 ["self", "outcome"] (spNote K C CW CM CN)) (Wundo : MethT P w K mg base (L2.CX P w) CW "undo" 2 ["self"] (spUndo K C CW CU)) (Wlen : LenT P w K mg base CW (spWLen K C CW))
    (h_law_dip : Has P w K mg base "_law_dip" 1 ["vat", "many"] spDip) (h_law_counts : Has P w K mg base "_law_counts" 2 ["vat", "way"] (spCounts K)) (h_law_due : Has P w K mg base "_law_due" 5 ["some", "seen", "truth"] (spDue56 K)) (h_law_rest : Has P w K mg base "_law_rest" 4 ["some", "seen"] (spRestL K))
    (D : DfC K mg "_law_right" (top 48) ["vat"] c) : HasG P w K mg base "_law_right" 11 ["vat"] (spRightN K Pt) := by
  have sc := scRight
  refine .ofC D fun f fd F => okGc F sc (fun vs H Q E h => ?_) (fun A outer s H vs Q E hgd hr h => ?_)
  · obtain ⟨v, rfl, _⟩ := h
    rfl
  · obtain ⟨v, rfl, hv, ht, k⟩ := h
    refine ⟨_, (pss_cons (ps_for PassesOwn.never rfl (pi_range1 (by rfl) B.range (pa_cons pe_int pa_nil)) (pg_name (i := 1) sc.nd rfl (by first | exact Or.inl rfl | exact Or.inr rfl))
      (pss_cons (ps_set (i := 2) sc.nd rfl (by first | exact Or.inl rfl | exact Or.inr rfl) (pe_has h_law_counts (hr.mono (by decide)) (pa_cons (pv 0) (pa_cons (pe_has h_law_dip (hr.mono (by decide)) (pa_cons (pv 0) (pa_cons pe_int pa_nil))) pa_nil))))
      (pss_cons (ps_par (i := 3) (j := 4) (by rfl) sc.nd rfl rfl (by decide) rfl rfl (pa_cons (kRow RT (hr.mono (by decide)) (pa_cons (pv 2) pa_nil)) (pa_cons (pe_lstN pa_nil) pa_nil)) (by rfl))
      (pss_cons (ps_set (i := 5) sc.nd rfl (by first | exact Or.inl rfl | exact Or.inr rfl) (kMake Wmake (hr.mono (by decide)) (pa_cons (pv 3) pa_nil)))
      (pss_one (ps_for PassesOwn.never rfl (pi_range1 (by rfl) B.range (pa_cons pe_int pa_nil)) (pg_name (i := 6) sc.nd rfl (by first | exact Or.inl rfl | exact Or.inr rfl))
      (pss_cut (ps_if (pt_cmpR op_eq (pe_has h_law_dip (hr.mono (by decide)) (pa_cons (pv 0) (pa_cons pe_int pa_nil))) pe_int (nomark _)) (pss_cons (ps_if (pt_cmpR (op_neB (K := K) hr.units) (pe_out (k := 8) DO OU c_NoMore c_NoChance c_NothingToUndo TB rfl (hr.mono (by decide)) (fun A2 outer2 s2 H2 E2 f2 c2 hr2 => kMeth0X (E := E2) Wundo takes_lam (fun _ _ _ _ h => h) (hr2.mono (by decide)) (pv 5))) (PE.mon (pe_ifExp (pt_cmpR (op_neB (K := K) hr.units) (pv 4) (pe_lstN pa_nil) (nomark _)) (pe_lstN (pa_cons pe_str (pa_cons pe_non pa_nil))) (pe_lstN (pa_cons pe_str (pa_cons pe_non pa_nil))))) (nomark _)) (pss_one (ps_ret pe_bl)) pss_nil)
      (pss_one (ps_set (i := 4) sc.nd rfl (by first | exact Or.inl rfl | exact Or.inr rfl) (pe_slice (slL (K := K)) (pv 4) po_none (po_some (pe_un un_neg pe_int)))))) (pss_cons (ps_set (i := 7) sc.nd rfl (by first | exact Or.inl rfl | exact Or.inr rfl) (pe_cmpR op_eq (pe_has h_law_dip (hr.mono (by decide)) (pa_cons (pv 0) (pa_cons pe_int pa_nil))) pe_int (nomark _)))
      (pss_cons (ps_set (i := 8) sc.nd rfl (by first | exact Or.inl rfl | exact Or.inr rfl) (pe_has h_law_due (hr.mono (by decide)) (pa_cons (pv 2) (pa_cons (pv 4) (pa_cons (pv 7) pa_nil)))))
      (pss_cons (ps_if (pt_cmpR op_ne (pe_callB (kRepr (K := K) hgd hr.units) (by rfl) B.repr (by decide +kernel) (pa_cons (pe_out (k := 8) DO OU c_NoMore c_NoChance c_NothingToUndo TB rfl (hr.mono (by decide)) (fun A2 outer2 s2 H2 E2 f2 c2 hr2 => kMethX (E := E2) Wnote takes_lam (fun _ _ _ _ h => h) (hr2.mono (by decide)) (pv 5) (pa_cons (pv 7) pa_nil))) pa_nil)) (pe_callB (kRepr (K := K) hgd hr.units) (by rfl) B.repr (by decide +kernel) (pa_cons (pv 8) pa_nil)) (nomark _)) (pss_one (ps_ret pe_bl)) pss_nil)
      (pss_one (ps_set (i := 4) sc.nd rfl (by first | exact Or.inl rfl | exact Or.inr rfl) (pe_op op_catN (pv 4) (PE.mon (pe_ifExp (pt_cmpR op_eq (pe_ix (ixL (K := K)) (pv 8) pe_int (fun _ _ => rfl)) pe_str (nomark _)) (pe_lstN (pa_cons (pv 7) pa_nil)) (pe_lstN pa_nil))))))))))
      (pss_cons (ps_set (i := 9) sc.nd rfl (by first | exact Or.inl rfl | exact Or.inr rfl) (PE.mon (pe_ifExp (pt_cmpR op_lt (pe_callB (kLen (K := K)) (by rfl) B.len (by decide +kernel) (pa_cons (pv 4) pa_nil)) (pe_op op_sub (pe_callB (kLen (K := K)) (by rfl) B.len (by decide +kernel) (pa_cons (pv 2) pa_nil)) pe_int) (nomark _)) (pe_has h_law_rest (hr.mono (by decide)) (pa_cons (pv 2) (pa_cons (pv 4) pa_nil))) pe_non)))
      (pss_cons (ps_set (i := 10) sc.nd rfl (by first | exact Or.inl rfl | exact Or.inr rfl) (pe_lstN (pa_cons (kProp Wnoted (hr.mono (by decide)) (pv 5)) (pa_cons (pe_callB (kLenOwn Wlen (hr.mono (by decide))) (by rfl) B.len (by decide +kernel) (pa_cons (pv 5) pa_nil)) (pa_cons (PE.mon (pe_ifExp (pt_cmpR op_isN (kProp Wrest (hr.mono (by decide)) (pv 5)) pe_non (nomark _)) pe_non (kCounts RT (hr.mono (by decide)) (kProp Wrest (hr.mono (by decide)) (pv 5))))) (pa_cons (pe_cmpR (kEqQ RQ (hr.mono (by decide))) (kProp Wrow (hr.mono (by decide)) (pv 5)) (pv 3) (nomark _)) pa_nil))))))
      (pss_one (ps_if (pt_cmpR op_ne (pe_callB (kRepr (K := K) hgd hr.units) (by rfl) B.repr (by decide +kernel) (pa_cons (pv 10) pa_nil)) (pe_callB (kRepr (K := K) hgd hr.units) (by rfl) B.repr (by decide +kernel) (pa_cons (pe_lstN (pa_cons (pe_callTy (kTuple (K := K)) (by rfl) B.tuple (by decide +kernel) (pa_cons (pv 4) pa_nil)) (pa_cons (pe_callB (kLen (K := K)) (by rfl) B.len (by decide +kernel) (pa_cons (pv 4) pa_nil)) (pa_cons (pv 9) (pa_cons pe_bl pa_nil))))) pa_nil)) (nomark _)) (pss_one (ps_ret pe_bl)) pss_nil)))))))))))
      (pss_one (ps_ret pe_bl))), ?_⟩
    walk_at "rd"
    refine ⟨by decide, by decide, ?_⟩
    obtain ⟨Pv, hP⟩ : ∃ P : Nat → L2.St → Hp → Prop, P = fun _ σ' G => ∃ s1 s2 s3 s4 s5 s6 s7 s8 s9 s10 : Option V, σ' = [some (.ref v), s1, s2, s3, s4, s5, s6, s7, s8, s9, s10] ∧ Gn v H G ∧ Tb Pt lamQ G := ⟨_, rfl⟩
    refine loopR Pv (by rw [hP]; exact ⟨_, _, _, _, _, _, _, _, _, _, rfl, .refl hv, ht⟩) ?_ ?_
    · intro j σ' G hj h
      rw [hP] at h
      obtain ⟨s1, s2, s3, s4, s5, s6, s7, s8, s9, s10, rfl, gG, tG⟩ := h
      walk_at "rd"
      refine ⟨v, 2, rfl, gG.new, by decide, by decide, fun d0 G1 g1 d00 d01 => ?_⟩
      refine ⟨v, d0, rfl, g1.new, fun q G2 cs g2 hq ok => ?_⟩
      obtain ⟨qa, rfl, hqS⟩ := id hq
      have FF := row_facts ok
      have hin := row_in ok FF
      obtain ⟨l0, l1, hb, hsum⟩ := id ok
      refine ⟨cs, hq, FF.ok, fun mine G3 e3 m3 => ?_⟩
      obtain ⟨am, dm, qm, rfl, hm1, hm2⟩ := id m3
      refine ⟨by decide, fun pl G4 n4 e4 t4 => ?_⟩
      walk_at "rd"
      intro b dx nb ndx ndb
      obtain ⟨G5, hG5⟩ : ∃ G5, G5 = upd (upd G4 dx (.own b)) b (.ins CW dx []) := ⟨_, rfl⟩
      rw [← hG5]
      have e5 : Ex G4 G5 := fun a o h => by
        rw [hG5, upd_ne (ne_of_none h nb), upd_ne (ne_of_none h ndx)]
        exact h
      have m4 := m3.kp e4.kp
      have mb : V.ref am ≠ V.ref b := fun z => by
        cases z
        have h2 := e4 _ _ hm1
        rw [nb] at h2
        cases h2
      refine ⟨b, dx, .ref am, plainL cs, rfl, by rw [hG5]; exact upd_same, m4.kp e5.kp, mb, fun G6 b6 w6 => ⟨rfl, ?_⟩⟩
      obtain ⟨ps, hps⟩ : ∃ ps, ps = plainL cs := ⟨_, rfl⟩
      rw [← hps] at w6 m3
      have nn : ∀ c ∈ cs, 0 ≤ c := fun c hc => (hb c hc).1
      have gcs : 0 < gcdL cs := FF.ok.2.2.2.1
      have PP : PR cs.length 103 ps := by
        rw [hps]
        exact PR.of rfl l0 l1 nn hsum (counts_sum ok)
      have lps : ps.length = cs.length := PP.len
      have bvv : b ≠ v := fun z => by
        obtain ⟨x, y, w, hx, _⟩ := g2.new
        have := e4 _ _ (e3 _ _ hx)
        rw [← z, nb] at this
        cases this
      have nbH : Fre H b := fun o q => by
        by_cases isT : ∃ p, o = .tbl p
        · exact isT
        · exfalso
          have h1 := gG.keep b o bvv q (fun p z => isT ⟨p, z⟩)
          have h2 := (g1.trans g2).keep b o bvv h1
          have h3 := e4 _ _ (e3 _ _ h2)
          rw [nb] at h3
          cases h3
      have b46 : But1 b G4 G6 := (But1.of e5).trans b6
      have hB5 : G5 b = some (.ins CW dx []) := by rw [hG5]; exact upd_same
      have ord0 := ord_small (n := cs.length - 1) (m := cs.length) (by omega) (by omega)
      have pos0 : ∀ {zs : List Int}, zs.length = cs.length → 0 < zs.sum → bhL zs 0 0 = zs.map (((ordF (zs.length - 1) zs.length : Nat) : Int) * ·) → 0 < (bhL zs 0 0).sum := by
        intro zs e p h
        rw [h, sum_scale, e]
        exact Int.mul_pos (by omega) p
      have lvp : 0 < (bhL ps 0 0).sum := pos0 lps PP.s0 (bh_zero PP)
      have St0 : St56 K C CW Pt v H G6 qa pl b am cs ps [] := by
        have g05 : Gn v H G5 := (gG.trans (g1.trans g2).n).en (((e3.trans e4).trans e5).n)
        have t05 : Tb Pt lamQ G5 := ((tG.kp (g1.trans g2).kp).ex (e3.trans e4)).ex e5
        have hpl5 := e5 _ _ t4
        have vpl : pl ≠ v := ((g2.new.ex e3).ne n4)
        refine ⟨g05.but nbH bvv b6, t05.but hB5 b6, sqT_but (sqT_kp hqS ((e3.trans e4).trans e5).kp) hB5 b6, (m3.kp (e4.trans e5).kp).but hB5 mb b6, w6, b6 _ _ (fun z => by rw [z, hB5] at hpl5; cases hpl5) hpl5, ⟨by rw [lps]; simp only [List.length_nil]; omega, lvp⟩, ⟨?_, by simp only [List.length_nil]; omega⟩, nbH, bvv, mb, vpl⟩
        rw [hps] at lvp
        exact (bh_pos_plain gcs 0 0).1.mp lvp
      refine ⟨by decide, by decide, ?_⟩
      obtain ⟨P2, hP2⟩ : ∃ P : Nat → L2.St → Hp → Prop, P = fun _ σ' G => ∃ (s6 s7 s8 s9 s10 : Option V) (pl : Addr) (sn : List Bool), σ' = [some (.ref v), some (.int (j : Int)), some (.ref qa), some (.ref am), some (.ref pl), some (.ref b), s6, s7, s8, s9, s10] ∧ St56 K C CW Pt v H G qa pl b am cs ps sn := ⟨_, rfl⟩
      refine loopR P2 (by rw [hP2]; exact ⟨_, _, _, _, _, pl, [], rfl, St0⟩) ?_ ?_
      · intro i σ' G hi h
        rw [hP2] at h
        obtain ⟨s6, s7, s8, s9, s10, pl, sn, rfl, S0⟩ := h
        have lsn := S0.lc.2
        have lvps : sn.length + 1 ≤ ps.length := S0.lv.1
        walk_at "rd"
        obtain ⟨M1, hM1⟩ : ∃ M : L2.St → Hp → Prop, M = fun σ' G => ∃ (s7 s8 s9 s10 : Option V) (pl : Addr) (sn : List Bool), σ' = [some (.ref v), some (.int (j : Int)), some (.ref qa), some (.ref am), some (.ref pl), some (.ref b), some (.int (i : Int)), s7, s8, s9, s10] ∧ St56 K C CW Pt v H G qa pl b am cs ps sn := ⟨_, rfl⟩
        refine ⟨M1, ?_, fun σ' G' hm => ?_⟩
        · walk_at "rd"
          refine ⟨v, 4, rfl, S0.gn.new, by decide, by decide, fun d G1 g1 d0 d1 => ?_⟩
          have S1 := S0.gv g1
          walk_at "rd"
          by_cases hd : d = 0
          · rw [if_pos hd]
            refine ⟨S1.tb, fun G2 e2 t2 => ?_⟩
            have S2 := S1.en e2 t2
            unfold TTout
            walk_at "rd"
            obtain ⟨dxw, Tw, hBw, _⟩ := id S2.hw
            have same : ∀ d : PyData, SeqAt.shaped d = true → PyData.eqv d d = true := fun d z => SeqAt.eqv_refl _ (SeqAt.canLay_of_shaped z)
            refine ⟨_, _, hBw, look_meth _ _ (by decide) (by decide), b, .ref am, ps, sn, rfl, S2.hw, S2.mb, by omega, fun h0 => ?_, fun hne G3 bt w3 => ?_⟩
            · refine .inr (.inr ⟨rfl, fun l1 G3 n3 e3 t3 => ?_⟩)
              have S3 := S2.ex e3
              refine ⟨fun y H' => Ex G3 H' ∧ ∃ l2, y = .ref l2 ∧ H' l2 = some (.lst [.str "nothing", .non]), ?_, ?_⟩
              · walk_at "rd"
                refine ⟨by decide, fun l0 G4 n4 e4 t4 => ?_⟩
                refine ⟨_, _, bls_ld (e4 _ _ S3.hl), .lst (.of t4) .nil, (gd_lbls sn (by omega)).shaped (by decide), (gd_lbls [] (by decide)).shaped (by decide), false, ?_, ?_⟩
                · rw [h0]
                  simp [PyData.eqv, PyData.eqvAll]
                · walk_at "rd"
                  exact ⟨by decide, fun l2 G5 n5 e5 t5 => ⟨e4.trans e5, l2, rfl, t5⟩⟩
              · rintro y G4 ⟨e4, l2, rfl, t4⟩
                have sh := (gd_two gd_w3 gd_none4).shaped (by decide)
                refine ⟨_, _, two_dp (e4 _ _ t3) .non, two_dp t4 .non, sh, sh, false, by rw [same _ sh]; rfl, ?_⟩
                walk_at "rd"
                have S4 := S3.ex e4
                refine ⟨pl, _, rfl, .of S4.hl, fun pl2 G5 n5 e5 t5 => ?_⟩
                rw [cut_last, h0] at t5
                have S5 := S4.ex e5
                rw [hM1]
                refine ⟨_, _, _, _, pl2, sn, rfl, ⟨S5.gn, S5.tb, S5.hq, S5.hm, S5.hw, by rw [t5, h0]; rfl, S5.lv, S5.lc, S5.nb, S5.bv, S5.mb, ?_⟩⟩
                exact (S4.gn.new.ne n5)
            · obtain ⟨a1, a2, a3, a4, a5⟩ := S2.set bt w3
              obtain ⟨sm, tt, rfl⟩ : ∃ sm tt, sn = sm ++ [tt] := ⟨sn.dropLast, sn.getLast hne, (List.dropLast_concat_getLast hne).symm⟩
              rw [List.dropLast_concat] at w3
              intro l1 G4 n4 e4 t4
              refine ⟨fun y H' => Ex G4 H' ∧ ∃ l2, y = .ref l2 ∧ H' l2 = some (.lst [.str "told", .non]), ?_, ?_⟩
              · walk_at "rd"
                refine ⟨by decide, fun l0 G5 n5 e5 t5 => ?_⟩
                refine ⟨_, _, bls_ld (e5 _ _ (e4 _ _ a5)), .lst (.of t5) .nil, (gd_lbls _ (by omega)).shaped (by decide), (gd_lbls [] (by decide)).shaped (by decide), true, ?_, ?_⟩
                · cases sm <;> simp [PyData.eqv, PyData.eqvAll]
                · walk_at "rd"
                  exact ⟨by decide, fun l2 G6 n6 e6 t6 => ⟨e5.trans e6, l2, rfl, t6⟩⟩
              · rintro y G5 ⟨e5, l2, rfl, t5⟩
                have sh := (gd_two gd_w4 gd_none4).shaped (by decide)
                refine ⟨_, _, two_dp (e5 _ _ t4) .non, two_dp t5 .non, sh, sh, false, by rw [same _ sh]; rfl, ?_⟩
                walk_at "rd"
                have hpl5 := e5 _ _ (e4 _ _ a5)
                refine ⟨pl, _, rfl, .of hpl5, fun pl2 G6 n6 e6 t6 => ?_⟩
                rw [cut_last, List.map_append, List.map_cons, List.map_nil, List.dropLast_concat] at t6
                have e36 := (e4.trans e5).trans e6
                have lv2 := live_pre PP S2.lv
                have lc2 := (bh_pos_plain gcs sm.length (yesN sm)).1.mp (by rw [← hps]; exact lv2.2)
                rw [hM1]
                refine ⟨_, _, _, _, pl2, sm, rfl, ⟨a1.en e36.n, a2.ex e36, sqT_kp a3 e36.kp, a4.kp e36.kp, w3.kp e36.kp, t6, lv2, ⟨lc2, by rw [List.length_append] at lsn; omega⟩, S2.nb, S2.bv, S2.mb, ?_⟩⟩
                exact ((a1.en (e4.trans e5).n).new.ne n6)
          · rw [if_neg hd]
            refine ⟨v, 2, rfl, S1.gn.new, by decide, by decide, fun r G2 g2 r0 r1 => ?_⟩
            have S2 := S1.gv g2
            walk_at "rd"
            generalize decide (r = 0) = t
            obtain ⟨dxw, Tw, hBw, _⟩ := id S2.hw
            refine ⟨qa, pl, cs, sn, t, rfl, S2.hq, ok, S2.hl, lsn, S2.lc.1, fun hl l G3 e3 n3 t3 => ?_, fun hl hz l G3 e3 n3 t3 => ?_, fun hl hp l y G3 e3 n3 t3 hy => ?_⟩
            · have S3 := S2.ex e3
              refine ⟨S3.tb, fun G4 e4 t4 => ?_⟩
              have S4 := S3.en e4 t4
              unfold TTout
              walk_at "rd"
              refine ⟨_, _, e4 _ _ (e3 _ _ hBw) (fun _ z => nomatch z), look_meth _ _ (by decide) (by decide), b, .ref am, ps, sn, cs.length, 103, t, rfl, S4.hw, S4.mb, PP, by decide, S4.lv, fun _ G5 e5 => ?_, fun h => absurd hl (by omega), fun h => absurd hl (by omega)⟩
              refine .inl ⟨rfl, fun l2 G6 n6 e6 t6 => ?_⟩
              have S6 := (S4.ex e5).ex e6
              have gg := gd_two gd_w1 gd_none4
              refine ⟨_, _, 2, _, rfl, two_dp t6 .non, ⟨_, rfl⟩, gg, by decide, by decide, ?_⟩
              have t36 := ExN.lst (ExN.trans e4 (e5.trans e6).n) t3
              refine ⟨_, _, 2, _, rfl, two_dp t36 .non, ⟨_, rfl⟩, gg, by decide, by decide, ?_⟩
              walk_at "rd"
              refine ⟨fun y H' => Ex G6 H' ∧ ∃ l3, y = .ref l3 ∧ H' l3 = some (.lst []), ?_, ?_⟩
              · walk_at "rd"
                refine q_ixL (.of t36) rfl ?_
                walk_at "rd"
                rw [if_neg (by decide)]
                exact ⟨by decide, fun l3 G7 n7 e7 t7 => ⟨e7, l3, rfl, t7⟩⟩
              · rintro y G7 ⟨e7, l3, rfl, t7⟩
                have S7 := S6.ex e7
                refine ⟨pl, l3, _, _, rfl, rfl, S7.hl, t7, sizeLine_le (by rw [List.length_map]; simp only [List.length_nil]; omega), fun pl2 G8 n8 e8 t8 => ?_⟩
                rw [List.append_nil] at t8
                have S8 := S7.ex e8
                rw [hM1]
                exact ⟨_, _, _, _, pl2, sn, rfl, ⟨S8.gn, S8.tb, S8.hq, S8.hm, S8.hw, t8, S8.lv, S8.lc, S8.nb, S8.bv, S8.mb, S7.gn.new.ne n8⟩⟩
            · have S3 := S2.ex e3
              refine ⟨S3.tb, fun G4 e4 t4 => ?_⟩
              have S4 := S3.en e4 t4
              have hz2 : (bhL ps (sn.length + 1) (yesN (sn ++ [t]))).sum = 0 := by
                rw [hps]
                exact (bh_pos_plain gcs _ _).2.mpr hz
              unfold TTout
              walk_at "rd"
              refine ⟨_, _, e4 _ _ (e3 _ _ hBw) (fun _ z => nomatch z), look_meth _ _ (by decide) (by decide), b, .ref am, ps, sn, cs.length, 103, t, rfl, S4.hw, S4.mb, PP, by decide, S4.lv, fun h => absurd hl (by omega), fun _ _ G5 e5 => ?_, fun _ h => absurd hz2 (by omega)⟩
              refine .inr (.inl ⟨rfl, fun l2 G6 n6 e6 t6 => ?_⟩)
              have S6 := (S4.ex e5).ex e6
              have gg := gd_two gd_w2 gd_none4
              refine ⟨_, _, 2, _, rfl, two_dp t6 .non, ⟨_, rfl⟩, gg, by decide, by decide, ?_⟩
              have t36 := ExN.lst (ExN.trans e4 (e5.trans e6).n) t3
              refine ⟨_, _, 2, _, rfl, two_dp t36 .non, ⟨_, rfl⟩, gg, by decide, by decide, ?_⟩
              walk_at "rd"
              refine ⟨fun y H' => Ex G6 H' ∧ ∃ l3, y = .ref l3 ∧ H' l3 = some (.lst []), ?_, ?_⟩
              · walk_at "rd"
                refine q_ixL (.of t36) rfl ?_
                walk_at "rd"
                rw [if_neg (by decide)]
                exact ⟨by decide, fun l3 G7 n7 e7 t7 => ⟨e7, l3, rfl, t7⟩⟩
              · rintro y G7 ⟨e7, l3, rfl, t7⟩
                have S7 := S6.ex e7
                refine ⟨pl, l3, _, _, rfl, rfl, S7.hl, t7, sizeLine_le (by rw [List.length_map]; simp only [List.length_nil]; omega), fun pl2 G8 n8 e8 t8 => ?_⟩
                rw [List.append_nil] at t8
                have S8 := S7.ex e8
                rw [hM1]
                exact ⟨_, _, _, _, pl2, sn, rfl, ⟨S8.gn, S8.tb, S8.hq, S8.hm, S8.hw, t8, S8.lv, S8.lc, S8.nb, S8.bv, S8.mb, S7.gn.new.ne n8⟩⟩
            · have S3 := S2.ex e3
              refine ⟨S3.tb, fun G4 e4 t4 => ?_⟩
              have S4 := S3.en e4 t4
              have hp2 : 0 < (bhL ps (sn.length + 1) (yesN (sn ++ [t]))).sum := by
                rw [hps]
                exact (bh_pos_plain gcs _ _).1.mpr hp
              have hy2 : chT ps sn t = chT cs sn t := by rw [hps, chT_plain gcs]
              have t34 := ExN.lst e4 t3
              have hy4 := hy.kn (ExN.kn e4)
              unfold TTout
              walk_at "rd"
              refine ⟨_, _, e4 _ _ (e3 _ _ hBw) (fun _ z => nomatch z), look_meth _ _ (by decide) (by decide), b, .ref am, ps, sn, cs.length, 103, t, rfl, S4.hw, S4.mb, PP, by decide, S4.lv, fun h => absurd hl (by omega), fun _ h => absurd hp2 (by omega), fun _ _ z G5 b5 w5 hz => ?_⟩
              rw [hy2] at hz
              have hB4 : ∃ dx fs, G4 b = some (.ins CW dx fs) := ⟨_, _, e4 _ _ (e3 _ _ hBw) (fun _ z => nomatch z)⟩
              obtain ⟨dx4, fs4, hB4⟩ := hB4
              obtain ⟨a1, a2, a3, a4, a5⟩ := S4.set b5 w5
              have t35 : G5 l = some (.lst [.str "told", y]) := b5 _ _ (fun z => by rw [z, hB4] at t34; cases t34) t34
              have hy5 : IsFr K G5 y (chT cs sn t) := by
                obtain ⟨yp, rfl, hyp⟩ := hy4
                exact ⟨yp, rfl, sqT_but hyp hB4 b5⟩
              intro l2 G6 n6 e6 t6
              have szT : sz (chT cs sn t) 1900 := by
                rw [← hy2]
                have z1 := bh_nn PP (sn.length + 1) (yesN (sn ++ [t]))
                have q := live_split (sn := sn) PP (by omega)
                have b1 := bh_nn PP (sn.length + 1) (yesN (sn ++ [true]))
                have b2 := bh_nn PP (sn.length + 1) (yesN (sn ++ [false]))
                have big : (bhL ps sn.length (yesN sn)).sum.natAbs < 2 ^ 118 := by
                  by_cases h0 : sn.length = 0
                  · have e : sn = [] := List.length_eq_zero_iff.mp h0
                    rw [e]
                    show (bhL ps 0 0).sum.natAbs < 2 ^ 118
                    rw [bh_zero PP, sum_scale]
                    have s1 := PP.s1
                    have o := ord_small (n := ps.length - 1) (m := ps.length) (by omega) (by omega)
                    refine Nat.lt_of_lt_of_le (wide_lt (a := 7) (b := 103) ?_ s1) (by decide)
                    rw [Int.natAbs_natCast]
                    exact Nat.lt_trans o.2 (by decide)
                  · have h := (bh_facts (y := yesN sn) PP (by decide) (s := sn.length) (by omega) (by omega)).2.1
                    exact Nat.lt_of_lt_of_le h (by decide)
                have le : (bhL ps (sn.length + 1) (yesN (sn ++ [t]))).sum ≤ (bhL ps sn.length (yesN sn)).sum := by
                  cases t <;> omega
                exact sz_div S4.lv.2 (lt2_mono (n := 118) (by omega) (by decide)) (lt2_mono big (by decide))
              have gg := gd_two gd_w4 (gd_fr szT)
              refine ⟨_, _, 2, _, rfl, two_dp t6 ((hz.kp e6.kp).dp), ⟨_, rfl⟩, gg, by decide, by decide, ?_⟩
              have t36 := e6 _ _ t35
              refine ⟨_, _, 2, _, rfl, two_dp t36 ((hy5.kp e6.kp).dp), ⟨_, rfl⟩, gg, by decide, by decide, ?_⟩
              walk_at "rd"
              refine ⟨fun y H' => Ex G6 H' ∧ ∃ l3, y = .ref l3 ∧ H' l3 = some (.lst [.bl t]), ?_, ?_⟩
              · walk_at "rd"
                refine q_ixL (.of t36) rfl ?_
                walk_at "rd"
                exact ⟨by decide, fun l3 G7 n7 e7 t7 => ⟨e7, l3, rfl, t7⟩⟩
              · rintro y G7 ⟨e7, l3, rfl, t7⟩
                have e57 := e6.trans e7
                refine ⟨pl, l3, _, _, rfl, rfl, e57 _ _ a5, t7, sizeLine_le (by rw [List.length_map]; simp only [List.length_cons, List.length_nil]; omega), fun pl2 G8 n8 e8 t8 => ?_⟩
                have t8 : G8 pl2 = some (.lst ((sn ++ [t]).map V.bl)) := by
                  rw [List.map_append]
                  exact t8
                have e58 := e57.trans e8
                have le : (sn ++ [t]).length = sn.length + 1 := by simp
                rw [hM1]
                exact ⟨_, _, _, _, pl2, sn ++ [t], rfl, ⟨a1.en e58.n, a2.ex e58, sqT_kp a3 e58.kp, a4.kp e58.kp, w5.kp e58.kp, t8, ⟨by rw [le]; omega, by rw [le]; exact hp2⟩, ⟨by rw [le]; exact hp, by rw [le]; omega⟩, S4.nb, S4.bv, S4.mb, (a1.en e57.n).new.ne n8⟩⟩
        · rw [hM1] at hm
          obtain ⟨s7, s8, s9, s10, pl, sn, rfl, S9⟩ := hm
          walk_at "rd"
          have hl9 := S9.lc.2
          have yl := yesN_le sn
          have rsE : 0 < sn.length + 1 → plainL (bhL cs sn.length (yesN sn)) = rsL ps sn.length (yesN sn) := fun _ => by
            rw [rs_plain PP _ _ yl, hps, ← bh_plain gcs sn.length (yesN sn), plainL_scale _ (by omega)]
          have rsEq := rsE (by omega)
          obtain ⟨dR, hdR⟩ : ∃ d : PyData, d = if sn.length + 1 < cs.length then intsD (rsL ps sn.length (yesN sn)) else .none := ⟨_, rfl⟩
          have gR : Gd dR 1 11700 := by
            rw [hdR]
            split
            · rename_i h
              obtain ⟨p2, _⟩ := live_rest PP (by decide) S9.lv h
              exact (p2.gd (by decide)).mono (Nat.le_refl 1) (by decide)
            · exact gd_none.mono (by decide) (by decide)
          refine ⟨fun y H' => Ex G' H' ∧ Dp K H' y dR, ?_, ?_⟩
          · walk_at "rd"
            refine ⟨_, .inl (.of S9.hl), _, .inr S9.hq, ?_⟩
            rw [List.length_map, List.length_map]
            by_cases hl : sn.length + 1 < cs.length
            · rw [if_pos (by omega)]
              refine ⟨qa, pl, cs, sn, rfl, S9.hq, ok, .of S9.hl, hl, S9.lc.1, fun y H5 e5 h5 => ⟨e5, ?_⟩⟩
              rw [rsEq] at h5
              rw [hdR, if_pos hl]
              exact h5.dp
            · rw [if_neg (by omega)]
              exact ⟨Ex.refl _, by rw [hdR, if_neg hl]; exact .non⟩
          · rintro yR G1 ⟨e1, dpR⟩
            have S1 := S9.ex e1
            obtain ⟨dxw, Tw, hBw, _, _⟩ := id S1.hw
            refine ⟨⟨_, _, hBw⟩, b, .ref am, ps, sn, rfl, S1.hw, fun T hT => ?_⟩
            refine ⟨b, _, _, rfl, hBw, b, .ref am, ps, sn, rfl, S1.hw, sn.length, rfl, by omega, ?_⟩
            refine ⟨fun y H' => Ex G1 H' ∧ Dp K H' y dR, ?_, ?_⟩
            · walk_at "rd"
              refine ⟨⟨_, _, hBw⟩, b, .ref am, ps, sn, cs.length, 103, rfl, S1.hw, PP, by decide, S1.lv, fun hl => ?_, fun hl z G2 e2 hz => ?_⟩
              · walk_at "rd"
                exact ⟨Ex.refl _, by rw [hdR, if_neg (by omega)]; exact .non⟩
              · obtain ⟨az, dz, qz, rfl, hz1, hz2⟩ := id hz
                walk_at "rd"
                refine ⟨⟨_, _, e2 _ _ hBw⟩, b, .ref am, ps, sn, cs.length, 103, rfl, S1.hw.kp e2.kp, PP, by decide, S1.lv, fun h => absurd hl (by omega), fun _ z3 G3 e3 hz3 => ?_⟩
                refine ⟨_, hz3, fun y hy => ⟨e2.trans e3, ?_⟩⟩
                rw [hdR, if_pos hl]
                exact hy.dp
            · rintro yC G2 ⟨e2, dpC⟩
              have S2 := S1.ex e2
              refine ⟨⟨_, _, e2 _ _ hBw⟩, b, .ref am, ps, sn, rfl, S2.hw, ?_⟩
              refine ⟨true, .inl ⟨ps, ps, S2.hm, S2.hm, (SeqAt.eqv_refl _ (SeqAt.canLay_of_shaped (shaped_ints ps))).symm⟩, ?_⟩
              refine ⟨by decide, fun l1 G3 n3 e3 t3 => ?_⟩
              obtain ⟨dd, hdd⟩ : ∃ d : PyData, d = .list [.tuple (sn.map PyData.bool), .int (sn.length : Nat), dR, .bool true] := ⟨_, rfl⟩
              have gg : Gd dd 2 (4 * 11702 + 3) := by
                rw [hdd]
                refine Gd.list (k := 1) (c := 11700) (n := 4) (fun d hd => ?_) (Nat.le_refl 4)
                simp only [List.mem_cons, List.not_mem_nil, or_false] at hd
                rcases hd with rfl | rfl | rfl | rfl
                · exact (gd_bls sn (by omega)).mono (Nat.le_refl 1) (by decide)
                · exact (Gd.int (log1920 (by rw [Int.natAbs_natCast]; exact Nat.lt_of_lt_of_le (show sn.length < 2 ^ 4 by omega) (Nat.pow_le_pow_right (by decide) (by decide))))).mono (by decide) (by decide)
                · exact gR
                · exact (Gd.bool true).mono (by decide) (by decide)
              have e13 := e2.trans e3
              refine ⟨_, dd, 2, _, rfl, ?_, ⟨_, rfl⟩, gg, by decide, by decide, ?_⟩
              · rw [hdd]
                exact .lst (.of t3) (.cons (.tup (sqT_kp hT e13.kp) (bls_dp sn)) (.cons (.int _) (.cons (dp_kp e3 _ _ dpC) (.cons (.bl _) .nil))))
              have S3 := S2.ex e3
              refine ⟨pl, _, rfl, .of S3.hl, fun T4 G4 n4 e4 t4 => ?_⟩
              have S4 := S3.ex e4
              refine ⟨_, .inl (.of S4.hl), by decide, fun l5 G5 n5 e5 t5 => ?_⟩
              rw [List.length_map] at t5
              have e15 := (e13.trans e4).trans e5
              refine ⟨_, dd, 2, _, rfl, ?_, ⟨_, rfl⟩, gg, by decide, by decide, ?_⟩
              · rw [hdd]
                exact .lst (.of t5) (.cons (.tup (.of (e5 _ _ t4)) (bls_dp sn)) (.cons (.int _) (.cons (dp_kp e15 _ _ dpR) (.cons (.bl _) .nil))))
              walk_at "rd"
              rw [hP2]
              exact ⟨_, _, _, _, _, pl, sn, rfl, S4.ex e5⟩
      · intro σ' G h
        rw [hP2] at h
        obtain ⟨s6, s7, s8, s9, s10, pl, sn, rfl, S9⟩ := h
        walk_at "rd"
        rw [hP]
        exact ⟨_, _, _, _, _, _, _, _, _, _, rfl, S9.gn, S9.tb⟩
    · intro σ' G h
      rw [hP] at h
      obtain ⟨s1, s2, s3, s4, s5, s6, s7, s8, s9, s10, rfl, gG, tG⟩ := h
      walk_at "rd"
      exact k _ gG tG
end

section
variable {P : Program} {w : World} {K : PySem.W.Frag} {mg : Str → Option Value} {base : Heap}
/-! ### _law_quiet, law -/
theorem scQuiet : FnScope ["vat", "is_right"] ["vat"] (defScope (top 49)) := ⟨rfl, rfl, rfl, by decide +kernel, rfl, by decide +kernel, by decide +kernel⟩
theorem has_quiet {Pt : Addr} (h_law_right : HasG P w K mg base "_law_right" 11 ["vat"] (spRightN K Pt)) (D : Df K mg "_law_quiet" (top 49) ["vat"]) : HasG P w K mg base "_law_quiet" 12 ["vat"] (spRightN K Pt) := by
  have sc := scQuiet
  refine .of D fun f fd F => okG F sc (fun vs H Q E h => ?_) (fun cdv A outer s H vs Q E hgd hr h => ?_)
  · obtain ⟨v, rfl, _⟩ := h
    rfl
  · obtain ⟨v, rfl, hv, ht, k⟩ := h
    refine ⟨_, (pss_cons (ps_try_thru0 (pss_one (ps_set (i := 1) sc.nd rfl (by first | exact Or.inl rfl | exact Or.inr rfl) (pe_hasG h_law_right hgd (hr.mono (by decide)) (pa_cons (pv 0) pa_nil)))))
      (pss_one (ps_ret (pv 1)))), ?_⟩
    walk_at "rd"
    refine ⟨v, rfl, hv, ht, fun H' g t => ?_⟩
    walk_at "rd"
    exact k _ g t
def spLawT (K : PySem.W.Frag) (_ Pt : Addr) : Sp := fun vs H Q _ => ∃ (a : Addr) (ns : List Int), vs = [.ref a] ∧ SqL K H a (ns.map V.int) ∧ ns.length ≤ 63 ∧ H Pt = some (.tbl #[]) ∧ ∀ H', Q (.bl true) H'
theorem scLaw : FnScope ["script", "at"] ["script"] (defScope (top 50)) := ⟨rfl, rfl, rfl, by decide +kernel, rfl, by decide +kernel, by decide +kernel⟩
theorem ok_law {c Pt : Addr} (B : Bi mg) (h_law_vat : Has P w K mg base "_law_vat" 1 ["script", "at"] (spVat K)) (h_law_quiet : HasG P w K mg base "_law_quiet" 12 ["vat"] (spRightN K Pt)) {f : Addr} {fd : FuncData} (F : Fun K "law" "law" (top 50) f fd) : FnG P w K mg base 13 f fd ["script"] (spLawT K c Pt) := by
  have sc := scLaw
  refine okG F sc (fun vs H Q E h => ?_) (fun cdv A outer s H vs Q E hgd hr h => ?_)
  · obtain ⟨a, ns, rfl, _⟩ := h
    rfl
  · obtain ⟨a, ns, rfl, hS, hlen, hPt, k⟩ := h
    refine ⟨_, (pss_one (ps_ret (pe_callB (kAll (K := K) rfl) (by rfl) B.all (by decide +kernel) (pa_cons (pe_lc (own := [("at", 1)]) (g := gName 1) (tt := tYes) rfl sc.nd (pi_range1 (by rfl) B.range (pa_cons (pe_callB (call_max2 rfl) (by rfl) B.max (by decide +kernel) (pa_cons pe_int (pa_cons (pe_callB (call_min2 rfl) (by rfl) B.min (by decide +kernel) (pa_cons (pe_callB (kLen (K := K)) (by rfl) B.len (by decide +kernel) (pa_cons (pv 0) pa_nil)) (pa_cons pe_int pa_nil))) pa_nil))) pa_nil)) (blkOk_by (N := (["script", "at"] : List Str)) (sc := defScope (top 50)) (by decide +kernel)) (fun _ _ _ _ _ => (pg_name (i := 1) sc.nd rfl (by first | exact Or.inl rfl | exact Or.inr rfl))) (fun _ _ _ _ _ => pts_nil) (fun _ _ _ _ _ => (PE.mon (pe_hasG h_law_quiet hgd (hr.mono (by decide)) (pa_cons (pe_has h_law_vat (hr.mono (by decide)) (pa_cons (pv 0) (pa_cons (pv 1) pa_nil))) pa_nil))))) pa_nil)))), ?_⟩
    walk_at "rd"
    refine ⟨_, .inl hS, ?_⟩
    rw [List.length_map]
    generalize hm : (if (if _ < ((ns.length : Nat) : Int) then _ else ((ns.length : Nat) : Int)) > 2 then (if _ < ((ns.length : Nat) : Int) then _ else ((ns.length : Nat) : Int)) else (2 : Int)) = m
    have m5 : 0 ≤ m ∧ m ≤ 5 := by
      rw [← hm]
      repeat' split
      all_goals omega
    refine ⟨by omega, by omega, fun Dd hD => lcRn (Pt := Pt) (q := lamQ) hD (Tb.start hPt) (by omega) (fun _ => rfl) ?_ ?_⟩
    · intro i G hi e t
      obtain ⟨R0, hR⟩ : ∃ R : VK, R = fun y G' => ExN G G' ∧ Tb Pt lamQ G' ∧ y = .bl true := ⟨_, rfl⟩
      refine ⟨R0, ?_, fun y G' h => by rw [hR] at h; exact h⟩
      walk_at "rd"
      refine ⟨a, ns, _, rfl, sqL_en hS e, hlen, by omega, by omega, fun v G2 n2 e2 hv => ⟨v, rfl, hv, t.ex e2, fun G3 g t3 => ?_⟩⟩
      rw [hR]
      exact ⟨Gn.out n2 e2 g, t3, rfl⟩
    · intro G e t hy
      have er : (List.replicate m.toNat (V.bl true)) = (List.replicate m.toNat true).map V.bl := by simp
      rw [er] at hy
      refine ⟨Dd, _, rfl, .of hy, ?_⟩
      have : (List.replicate m.toNat true).all id = true := by simp
      rw [this]
      exact k _
end

/-! ### the end -/
theorem all_mk {l : PySem.W.OpenLaw} {w : World} {K : PySem.W.Frag} {h : Heap} {mg : Str → Option Value} {fa : Addr} (X : K.In h) (G : h.Ns mainGlobals mg) (hfa : mg "law" = some (.ref fa))
    {cR PtR : Addr}
    {f1 : Addr} {od1 an1 : Option Addr} {sl1 : Array (Option Value)} {oc1 kV1 dc1 pm1 cd1 ct1 : Value}
    {f2 : Addr} {od2 an2 : Option Addr} {sl2 : Array (Option Value)} {oc2 kV2 dc2 pm2 cd2 ct2 : Value}
    {f3 : Addr} {od3 an3 : Option Addr} {sl3 : Array (Option Value)} {oc3 kV3 dc3 pm3 cd3 ct3 : Value}
    {f4 : Addr} {od4 an4 : Option Addr} {sl4 : Array (Option Value)} {oc4 kV4 dc4 pm4 cd4 ct4 : Value}
    {f5 : Addr} {od5 an5 : Option Addr} {sl5 : Array (Option Value)} {oc5 kV5 dc5 pm5 cd5 ct5 : Value}
    {f6 : Addr} {od6 an6 : Option Addr} {sl6 : Array (Option Value)} {oc6 kV6 dc6 pm6 cd6 ct6 : Value}
    {f7 : Addr} {od7 an7 : Option Addr} {sl7 : Array (Option Value)} {oc7 kV7 dc7 pm7 cd7 ct7 : Value}
    {f8 : Addr} {od8 an8 : Option Addr} {sl8 : Array (Option Value)} {oc8 kV8 dc8 pm8 cd8 ct8 : Value}
    {f9 : Addr} {od9 an9 : Option Addr} {sl9 : Array (Option Value)} {oc9 kV9 dc9 pm9 cd9 ct9 : Value}
    {f10 : Addr} {od10 an10 : Option Addr} {sl10 : Array (Option Value)} {oc10 kV10 dc10 pm10 cd10 ct10 : Value}
    {f11 : Addr} {od11 an11 : Option Addr} {sl11 : Array (Option Value)} {oc11 kV11 dc11 pm11 cd11 ct11 : Value}
    {f12 : Addr} {od12 an12 : Option Addr} {sl12 : Array (Option Value)} {oc12 kV12 dc12 pm12 cd12 ct12 : Value}
    {f13 : Addr} {od13 an13 : Option Addr} {sl13 : Array (Option Value)} {oc13 kV13 dc13 pm13 cd13 ct13 : Value}
    {f14 : Addr} {od14 an14 : Option Addr} {sl14 : Array (Option Value)} {oc14 kV14 dc14 pm14 ct14 : Value}
    {f15 : Addr} {od15 an15 : Option Addr} {sl15 : Array (Option Value)} {oc15 kV15 dc15 pm15 cd15 ct15 : Value}
    {f16 : Addr} {od16 an16 : Option Addr} {sl16 : Array (Option Value)} {oc16 kV16 dc16 pm16 cd16 ct16 : Value}
    {f17 : Addr} {od17 an17 : Option Addr} {sl17 : Array (Option Value)} {oc17 kV17 dc17 pm17 cd17 ct17 : Value}
    {f18 : Addr} {od18 an18 : Option Addr} {sl18 : Array (Option Value)} {oc18 kV18 dc18 pm18 cd18 ct18 : Value}
    {f19 : Addr} {od19 an19 : Option Addr} {sl19 : Array (Option Value)} {oc19 kV19 dc19 pm19 cd19 ct19 : Value}
    {f20 : Addr} {od20 an20 : Option Addr} {sl20 : Array (Option Value)} {oc20 kV20 dc20 pm20 cd20 ct20 : Value}
    {f21 : Addr} {od21 an21 : Option Addr} {sl21 : Array (Option Value)} {oc21 kV21 dc21 pm21 cd21 ct21 : Value}
    {f22 : Addr} {od22 an22 : Option Addr} {sl22 : Array (Option Value)} {oc22 kV22 dc22 pm22 cd22 ct22 : Value}
    {f23 : Addr} {od23 an23 : Option Addr} {sl23 : Array (Option Value)} {oc23 kV23 dc23 pm23 cd23 ct23 : Value}
    {C : Addr}
    {f24 : Addr} {od24 an24 : Option Addr} {sl24 : Array (Option Value)} {oc24 kV24 dc24 pm24 cd24 ct24 : Value}
    {f25 : Addr} {od25 an25 : Option Addr} {sl25 : Array (Option Value)} {oc25 kV25 dc25 pm25 cd25 ct25 : Value}
    {f26 p26 : Addr} {r26 : List Value} {od26 an26 : Option Addr} {sl26 : Array (Option Value)} {oc26 kV26 dc26 pm26 cd26 ct26 : Value}
    {f27 p27 : Addr} {r27 : List Value} {od27 an27 : Option Addr} {sl27 : Array (Option Value)} {oc27 kV27 dc27 pm27 cd27 ct27 : Value}
    {N : Addr} {nm qn : Str} {bs : List Value} {hdct : Bool} {sn : List Str} {sub : List Value} {ab : Bool} {col : Option Bool} {dd : Option Addr} {q0 q1 q2 q3 q5 : Option Value} {newId : String}
    {CW : Addr}
    {f28 : Addr} {od28 an28 : Option Addr} {sl28 : Array (Option Value)} {oc28 kV28 dc28 pm28 cd28 ct28 : Value}
    {f29 p29 : Addr} {r29 : List Value} {od29 an29 : Option Addr} {sl29 : Array (Option Value)} {oc29 kV29 dc29 pm29 cd29 ct29 : Value}
    {f30 p30 : Addr} {r30 : List Value} {od30 an30 : Option Addr} {sl30 : Array (Option Value)} {oc30 kV30 dc30 pm30 cd30 ct30 : Value}
    {f31 p31 : Addr} {r31 : List Value} {od31 an31 : Option Addr} {sl31 : Array (Option Value)} {oc31 kV31 dc31 pm31 cd31 ct31 : Value}
    {f32 : Addr} {od32 an32 : Option Addr} {sl32 : Array (Option Value)} {oc32 kV32 dc32 pm32 cd32 ct32 : Value}
    {f33 : Addr} {od33 an33 : Option Addr} {sl33 : Array (Option Value)} {oc33 kV33 dc33 pm33 cd33 ct33 : Value}
    {NCW : Addr} {nmCW qnCW : Str} {bsCW : List Value} {hdctCW : Bool} {snCW : List Str} {subCW : List Value} {abCW : Bool} {colCW : Option Bool} {ddCW : Option Addr} {q0CW q1CW q2CW q3CW q5CW : Option Value} {newIdCW : String}
    {f34 : Addr} {od34 an34 : Option Addr} {sl34 : Array (Option Value)} {oc34 kV34 dc34 pm34 cd34 ct34 : Value}
    {CNoMore : Addr}
    {CNoChance : Addr}
    {CNothingToUndo : Addr}
    {tk : Tok}
    (tabs : ∀ b ∈ [PtR], h.get? b = some { cls := .none, data := .fields #[] })
    (a1 : PySem.W.nsIn K mainGlobals "_law_vat" = some (some (.ref f1)))
    (l1 : K.lookup f1 = some ⟨oc1, od1, .func (PySem.W.fnOf "_law_vat" "_law_vat" (defArgs (top 35)) (defBody (top 35)) (defScope (top 35)) .none kV1 dc1 pm1 an1 cd1 ct1), sl1⟩)
    (c1 : PySem.W.codeIn K cd1 "_law_vat" = true)
    (k1 : PySem.W.keepIn K (.ref f1) = true)
    (a2 : PySem.W.nsIn K mainGlobals "_law_dip" = some (some (.ref f2)))
    (l2 : K.lookup f2 = some ⟨oc2, od2, .func (PySem.W.fnOf "_law_dip" "_law_dip" (defArgs (top 36)) (defBody (top 36)) (defScope (top 36)) .none kV2 dc2 pm2 an2 cd2 ct2), sl2⟩)
    (c2 : PySem.W.codeIn K cd2 "_law_dip" = true)
    (k2 : PySem.W.keepIn K (.ref f2) = true)
    (a3 : PySem.W.nsIn K mainGlobals "_law_shared" = some (some (.ref f3)))
    (l3 : K.lookup f3 = some ⟨oc3, od3, .func (PySem.W.fnOf "_law_shared" "_law_shared" (defArgs (top 37)) (defBody (top 37)) (defScope (top 37)) .none kV3 dc3 pm3 an3 cd3 ct3), sl3⟩)
    (c3 : PySem.W.codeIn K cd3 "_law_shared" = true)
    (k3 : PySem.W.keepIn K (.ref f3) = true)
    (a4 : PySem.W.nsIn K mainGlobals "_law_part" = some (some (.ref f4)))
    (l4 : K.lookup f4 = some ⟨oc4, od4, .func (PySem.W.fnOf "_law_part" "_law_part" (defArgs (top 38)) (defBody (top 38)) (defScope (top 38)) .none kV4 dc4 pm4 an4 cd4 ct4), sl4⟩)
    (c4 : PySem.W.codeIn K cd4 "_law_part" = true)
    (k4 : PySem.W.keepIn K (.ref f4) = true)
    (a5 : PySem.W.nsIn K mainGlobals "_law_sum" = some (some (.ref f5)))
    (l5 : K.lookup f5 = some ⟨oc5, od5, .func (PySem.W.fnOf "_law_sum" "_law_sum" (defArgs (top 39)) (defBody (top 39)) (defScope (top 39)) .none kV5 dc5 pm5 an5 cd5 ct5), sl5⟩)
    (c5 : PySem.W.codeIn K cd5 "_law_sum" = true)
    (k5 : PySem.W.keepIn K (.ref f5) = true)
    (a6 : PySem.W.nsIn K mainGlobals "_law_ways" = some (some (.ref f6)))
    (l6 : K.lookup f6 = some ⟨oc6, od6, .func (PySem.W.fnOf "_law_ways" "_law_ways" (defArgs (top 40)) (defBody (top 40)) (defScope (top 40)) .none kV6 dc6 pm6 an6 cd6 ct6), sl6⟩)
    (c6 : PySem.W.codeIn K cd6 "_law_ways" = true)
    (k6 : PySem.W.keepIn K (.ref f6) = true)
    (a7 : PySem.W.nsIn K mainGlobals "_law_whole" = some (some (.ref f7)))
    (l7 : K.lookup f7 = some ⟨oc7, od7, .func (PySem.W.fnOf "_law_whole" "_law_whole" (defArgs (top 41)) (defBody (top 41)) (defScope (top 41)) .none kV7 dc7 pm7 an7 cd7 ct7), sl7⟩)
    (c7 : PySem.W.codeIn K cd7 "_law_whole" = true)
    (k7 : PySem.W.keepIn K (.ref f7) = true)
    (a8 : PySem.W.nsIn K mainGlobals "_law_plain" = some (some (.ref f8)))
    (l8 : K.lookup f8 = some ⟨oc8, od8, .func (PySem.W.fnOf "_law_plain" "_law_plain" (defArgs (top 42)) (defBody (top 42)) (defScope (top 42)) .none kV8 dc8 pm8 an8 cd8 ct8), sl8⟩)
    (c8 : PySem.W.codeIn K cd8 "_law_plain" = true)
    (k8 : PySem.W.keepIn K (.ref f8) = true)
    (a9 : PySem.W.nsIn K mainGlobals "_law_counts" = some (some (.ref f9)))
    (l9 : K.lookup f9 = some ⟨oc9, od9, .func (PySem.W.fnOf "_law_counts" "_law_counts" (defArgs (top 43)) (defBody (top 43)) (defScope (top 43)) .none kV9 dc9 pm9 an9 cd9 ct9), sl9⟩)
    (c9 : PySem.W.codeIn K cd9 "_law_counts" = true)
    (k9 : PySem.W.keepIn K (.ref f9) = true)
    (a10 : PySem.W.nsIn K mainGlobals "_law_chance" = some (some (.ref f10)))
    (l10 : K.lookup f10 = some ⟨oc10, od10, .func (PySem.W.fnOf "_law_chance" "_law_chance" (defArgs (top 44)) (defBody (top 44)) (defScope (top 44)) .none kV10 dc10 pm10 an10 cd10 ct10), sl10⟩)
    (c10 : PySem.W.codeIn K cd10 "_law_chance" = true)
    (k10 : PySem.W.keepIn K (.ref f10) = true)
    (a11 : PySem.W.nsIn K mainGlobals "_law_rest" = some (some (.ref f11)))
    (l11 : K.lookup f11 = some ⟨oc11, od11, .func (PySem.W.fnOf "_law_rest" "_law_rest" (defArgs (top 45)) (defBody (top 45)) (defScope (top 45)) .none kV11 dc11 pm11 an11 cd11 ct11), sl11⟩)
    (c11 : PySem.W.codeIn K cd11 "_law_rest" = true)
    (k11 : PySem.W.keepIn K (.ref f11) = true)
    (a12 : PySem.W.nsIn K mainGlobals "_law_outcome" = some (some (.ref f12)))
    (l12 : K.lookup f12 = some ⟨oc12, od12, .func (PySem.W.fnOf "_law_outcome" "_law_outcome" (defArgs (top 46)) (defBody (top 46)) (defScope (top 46)) .none kV12 dc12 pm12 an12 cd12 ct12), sl12⟩)
    (c12 : PySem.W.codeIn K cd12 "_law_outcome" = true)
    (k12 : PySem.W.keepIn K (.ref f12) = true)
    (a13 : PySem.W.nsIn K mainGlobals "_law_due" = some (some (.ref f13)))
    (l13 : K.lookup f13 = some ⟨oc13, od13, .func (PySem.W.fnOf "_law_due" "_law_due" (defArgs (top 47)) (defBody (top 47)) (defScope (top 47)) .none kV13 dc13 pm13 an13 cd13 ct13), sl13⟩)
    (c13 : PySem.W.codeIn K cd13 "_law_due" = true)
    (k13 : PySem.W.keepIn K (.ref f13) = true)
    (a14 : PySem.W.nsIn K mainGlobals "_law_right" = some (some (.ref f14)))
    (l14 : K.lookup f14 = some ⟨oc14, od14, .func (PySem.W.fnOf "_law_right" "_law_right" (defArgs (top 48)) (defBody (top 48)) (defScope (top 48)) .none kV14 dc14 pm14 an14 (.ref cR) ct14), sl14⟩)
    (c14 : PySem.W.codeIn K (.ref cR) "_law_right" = true)
    (k14 : PySem.W.keepIn K (.ref f14) = true)
    (hC14 : PySem.W.codeHdIn K cR PtR = true)
    (nP14 : K.lookup PtR = none)
    (a15 : PySem.W.nsIn K mainGlobals "_law_quiet" = some (some (.ref f15)))
    (l15 : K.lookup f15 = some ⟨oc15, od15, .func (PySem.W.fnOf "_law_quiet" "_law_quiet" (defArgs (top 49)) (defBody (top 49)) (defScope (top 49)) .none kV15 dc15 pm15 an15 cd15 ct15), sl15⟩)
    (c15 : PySem.W.codeIn K cd15 "_law_quiet" = true)
    (k15 : PySem.W.keepIn K (.ref f15) = true)
    (a16 : PySem.W.nsIn K mainGlobals "is_whole" = some (some (.ref f16)))
    (l16 : K.lookup f16 = some ⟨oc16, od16, .func (PySem.W.fnOf "is_whole" "is_whole" (defArgs (top 17)) (defBody (top 17)) (defScope (top 17)) .none kV16 dc16 pm16 an16 cd16 ct16), sl16⟩)
    (c16 : PySem.W.codeIn K cd16 "is_whole" = true)
    (k16 : PySem.W.keepIn K (.ref f16) = true)
    (a17 : PySem.W.nsIn K mainGlobals "check_number" = some (some (.ref f17)))
    (l17 : K.lookup f17 = some ⟨oc17, od17, .func (PySem.W.fnOf "check_number" "check_number" (defArgs (top 18)) (defBody (top 18)) (defScope (top 18)) .none kV17 dc17 pm17 an17 cd17 ct17), sl17⟩)
    (c17 : PySem.W.codeIn K cd17 "check_number" = true)
    (k17 : PySem.W.keepIn K (.ref f17) = true)
    (a18 : PySem.W.nsIn K mainGlobals "lowest" = some (some (.ref f18)))
    (l18 : K.lookup f18 = some ⟨oc18, od18, .func (PySem.W.fnOf "lowest" "lowest" (defArgs (top 19)) (defBody (top 19)) (defScope (top 19)) .none kV18 dc18 pm18 an18 cd18 ct18), sl18⟩)
    (c18 : PySem.W.codeIn K cd18 "lowest" = true)
    (k18 : PySem.W.keepIn K (.ref f18) = true)
    (a19 : PySem.W.nsIn K mainGlobals "check_row" = some (some (.ref f19)))
    (l19 : K.lookup f19 = some ⟨oc19, od19, .func (PySem.W.fnOf "check_row" "check_row" (defArgs (top 26)) (defBody (top 26)) (defScope (top 26)) .none kV19 dc19 pm19 an19 cd19 ct19), sl19⟩)
    (c19 : PySem.W.codeIn K cd19 "check_row" = true)
    (k19 : PySem.W.keepIn K (.ref f19) = true)
    (a20 : PySem.W.nsIn K mainGlobals "_check_counts" = some (some (.ref f20)))
    (l20 : K.lookup f20 = some ⟨oc20, od20, .func (PySem.W.fnOf "_check_counts" "_check_counts" (defArgs (top 27)) (defBody (top 27)) (defScope (top 27)) .none kV20 dc20 pm20 an20 cd20 ct20), sl20⟩)
    (c20 : PySem.W.codeIn K cd20 "_check_counts" = true)
    (k20 : PySem.W.keepIn K (.ref f20) = true)
    (a21 : PySem.W.nsIn K mainGlobals "all_yes" = some (some (.ref f21)))
    (l21 : K.lookup f21 = some ⟨oc21, od21, .func (PySem.W.fnOf "all_yes" "all_yes" (defArgs (top 30)) (defBody (top 30)) (defScope (top 30)) .none kV21 dc21 pm21 an21 cd21 ct21), sl21⟩)
    (c21 : PySem.W.codeIn K cd21 "all_yes" = true)
    (k21 : PySem.W.keepIn K (.ref f21) = true)
    (a22 : PySem.W.nsIn K mainGlobals "behind" = some (some (.ref f22)))
    (l22 : K.lookup f22 = some ⟨oc22, od22, .func (PySem.W.fnOf "behind" "behind" (defArgs (top 31)) (defBody (top 31)) (defScope (top 31)) .none kV22 dc22 pm22 an22 cd22 ct22), sl22⟩)
    (c22 : PySem.W.codeIn K cd22 "behind" = true)
    (k22 : PySem.W.keepIn K (.ref f22) = true)
    (a23 : PySem.W.nsIn K mainGlobals "law" = some (some (.ref f23)))
    (l23 : K.lookup f23 = some ⟨oc23, od23, .func (PySem.W.fnOf "law" "law" (defArgs (top 50)) (defBody (top 50)) (defScope (top 50)) .none kV23 dc23 pm23 an23 cd23 ct23), sl23⟩)
    (c23 : PySem.W.codeIn K cd23 "law" = true)
    (k23 : PySem.W.keepIn K (.ref f23) = true)
    (aC : PySem.W.nsIn K mainGlobals "Row" = some (some (.ref C)))
    (pg : PySem.W.plainGet K C Str.empty = true)
    (hd : PySem.W.hasDictIn K C = true)
    (po : PySem.W.plainOver K C = true)
    (sa : PySem.W.findIn K (.ref C) "__setattr__" = some (some (.builtin "object.__setattr__")))
    (mk : PySem.W.makesIn K C = true)
    (kc : PySem.W.keepIn K (.ref C) = true)
    (nC : PySem.W.findIn K (.ref C) "_counts" = some none)
    (xa : PySem.W.findIn K (.ref C) "__class__" = some (some (.builtin "object.__class__")))
    (xn : PySem.W.specialIn K (.builtin "object.__class__") "__get__" = some (some (.builtin "getset_descriptor.__get__")))
    (xt : PySem.W.takesIn K (.builtin "object.__class__") = some true)
    (xm : PySem.W.mroIn K C (.type "object") = some true)
    (a24 : PySem.W.findIn K (.ref C) "__init__" = some (some (.ref f24)))
    (i24 : PySem.W.isFn K (.ref f24) = true)
    (l24 : K.lookup f24 = some ⟨oc24, od24, .func (PySem.W.fnOf "__init__" "Row.__init__" (defArgs (inClass (top 25) 0)) (defBody (inClass (top 25) 0)) (defScope (inClass (top 25) 0)) .none kV24 dc24 pm24 an24 cd24 ct24), sl24⟩)
    (c24 : PySem.W.codeIn K cd24 "Row.__init__" = true)
    (k24 : PySem.W.keepIn K (.ref f24) = true)
    (a25 : PySem.W.findIn K (.ref C) "__eq__" = some (some (.ref f25)))
    (i25 : PySem.W.isFn K (.ref f25) = true)
    (l25 : K.lookup f25 = some ⟨oc25, od25, .func (PySem.W.fnOf "__eq__" "Row.__eq__" (defArgs (inClass (top 25) 7)) (defBody (inClass (top 25) 7)) (defScope (inClass (top 25) 7)) .none kV25 dc25 pm25 an25 cd25 ct25), sl25⟩)
    (c25 : PySem.W.codeIn K cd25 "Row.__eq__" = true)
    (k25 : PySem.W.keepIn K (.ref f25) = true)
    (a26 : PySem.W.findIn K (.ref C) "counts" = some (some (.ref p26)))
    (g26 : PySem.W.specialIn K (.ref p26) "__get__" = some (some (.builtin "property.__get__")))
    (t26 : PySem.W.takesIn K (.ref p26) = some true)
    (r26r : PySem.W.recIn K p26 "property" = some (.ref f26 :: r26))
    (l26 : K.lookup f26 = some ⟨oc26, od26, .func (PySem.W.fnOf "counts" "Row.counts" (defArgs (inClass (top 25) 2)) (defBody (inClass (top 25) 2)) (defScope (inClass (top 25) 2)) .none kV26 dc26 pm26 an26 cd26 ct26), sl26⟩)
    (c26 : PySem.W.codeIn K cd26 "Row.counts" = true)
    (k26 : PySem.W.keepIn K (.ref f26) = true)
    (a27 : PySem.W.findIn K (.ref C) "draws" = some (some (.ref p27)))
    (g27 : PySem.W.specialIn K (.ref p27) "__get__" = some (some (.builtin "property.__get__")))
    (t27 : PySem.W.takesIn K (.ref p27) = some true)
    (r27r : PySem.W.recIn K p27 "property" = some (.ref f27 :: r27))
    (l27 : K.lookup f27 = some ⟨oc27, od27, .func (PySem.W.fnOf "draws" "Row.draws" (defArgs (inClass (top 25) 4)) (defBody (inClass (top 25) 4)) (defScope (inClass (top 25) 4)) .none kV27 dc27 pm27 an27 cd27 ct27), sl27⟩)
    (c27 : PySem.W.codeIn K cd27 "Row.draws" = true)
    (k27 : PySem.W.keepIn K (.ref f27) = true)
    (lC : K.lookup C = some (excClassObj nm qn C N bs [.type "object"] hdct sn sub ab col dd q0 q1 q2 q3 q5 newId))
    (okN : PySem.W.nsOkIn K N = true)
    (n1 : PySem.W.nsIn K N "__eq__" = some (some (.ref f25)))
    (n2 : PySem.W.nsIn K N "__ne__" = some none)
    (ocf : oc25 = .type "function")
    (oddC : ∀ T ∈ oddNames, PySem.W.kitOne K (.type T) (.ref C) = some false)
    (aCW : PySem.W.nsIn K mainGlobals "Watch" = some (some (.ref CW)))
    (pgCW : PySem.W.plainGet K CW Str.empty = true)
    (hdCW : PySem.W.hasDictIn K CW = true)
    (poCW : PySem.W.plainOver K CW = true)
    (saCW : PySem.W.findIn K (.ref CW) "__setattr__" = some (some (.builtin "object.__setattr__")))
    (mkCW : PySem.W.makesIn K CW = true)
    (kcCW : PySem.W.keepIn K (.ref CW) = true)
    (nfCW_row : PySem.W.findIn K (.ref CW) "_row" = some none)
    (nfCW_outcomes : PySem.W.findIn K (.ref CW) "_outcomes" = some none)
    (a28 : PySem.W.findIn K (.ref CW) "__init__" = some (some (.ref f28)))
    (i28 : PySem.W.isFn K (.ref f28) = true)
    (l28 : K.lookup f28 = some ⟨oc28, od28, .func (PySem.W.fnOf "__init__" "Watch.__init__" (defArgs (inClass (top 33) 0)) (defBody (inClass (top 33) 0)) (defScope (inClass (top 33) 0)) .none kV28 dc28 pm28 an28 cd28 ct28), sl28⟩)
    (c28 : PySem.W.codeIn K cd28 "Watch.__init__" = true)
    (k28 : PySem.W.keepIn K (.ref f28) = true)
    (a29 : PySem.W.findIn K (.ref CW) "row" = some (some (.ref p29)))
    (g29 : PySem.W.specialIn K (.ref p29) "__get__" = some (some (.builtin "property.__get__")))
    (t29 : PySem.W.takesIn K (.ref p29) = some true)
    (r29r : PySem.W.recIn K p29 "property" = some (.ref f29 :: r29))
    (l29 : K.lookup f29 = some ⟨oc29, od29, .func (PySem.W.fnOf "row" "Watch.row" (defArgs (inClass (top 33) 1)) (defBody (inClass (top 33) 1)) (defScope (inClass (top 33) 1)) .none kV29 dc29 pm29 an29 cd29 ct29), sl29⟩)
    (c29 : PySem.W.codeIn K cd29 "Watch.row" = true)
    (k29 : PySem.W.keepIn K (.ref f29) = true)
    (a30 : PySem.W.findIn K (.ref CW) "noted" = some (some (.ref p30)))
    (g30 : PySem.W.specialIn K (.ref p30) "__get__" = some (some (.builtin "property.__get__")))
    (t30 : PySem.W.takesIn K (.ref p30) = some true)
    (r30r : PySem.W.recIn K p30 "property" = some (.ref f30 :: r30))
    (l30 : K.lookup f30 = some ⟨oc30, od30, .func (PySem.W.fnOf "noted" "Watch.noted" (defArgs (inClass (top 33) 2)) (defBody (inClass (top 33) 2)) (defScope (inClass (top 33) 2)) .none kV30 dc30 pm30 an30 cd30 ct30), sl30⟩)
    (c30 : PySem.W.codeIn K cd30 "Watch.noted" = true)
    (k30 : PySem.W.keepIn K (.ref f30) = true)
    (a31 : PySem.W.findIn K (.ref CW) "rest" = some (some (.ref p31)))
    (g31 : PySem.W.specialIn K (.ref p31) "__get__" = some (some (.builtin "property.__get__")))
    (t31 : PySem.W.takesIn K (.ref p31) = some true)
    (r31r : PySem.W.recIn K p31 "property" = some (.ref f31 :: r31))
    (l31 : K.lookup f31 = some ⟨oc31, od31, .func (PySem.W.fnOf "rest" "Watch.rest" (defArgs (inClass (top 33) 3)) (defBody (inClass (top 33) 3)) (defScope (inClass (top 33) 3)) .none kV31 dc31 pm31 an31 cd31 ct31), sl31⟩)
    (c31 : PySem.W.codeIn K cd31 "Watch.rest" = true)
    (k31 : PySem.W.keepIn K (.ref f31) = true)
    (a32 : PySem.W.findIn K (.ref CW) "note" = some (some (.ref f32)))
    (i32 : PySem.W.isFn K (.ref f32) = true)
    (l32 : K.lookup f32 = some ⟨oc32, od32, .func (PySem.W.fnOf "note" "Watch.note" (defArgs (inClass (top 33) 4)) (defBody (inClass (top 33) 4)) (defScope (inClass (top 33) 4)) .none kV32 dc32 pm32 an32 cd32 ct32), sl32⟩)
    (c32 : PySem.W.codeIn K cd32 "Watch.note" = true)
    (k32 : PySem.W.keepIn K (.ref f32) = true)
    (a33 : PySem.W.findIn K (.ref CW) "undo" = some (some (.ref f33)))
    (i33 : PySem.W.isFn K (.ref f33) = true)
    (l33 : K.lookup f33 = some ⟨oc33, od33, .func (PySem.W.fnOf "undo" "Watch.undo" (defArgs (inClass (top 33) 5)) (defBody (inClass (top 33) 5)) (defScope (inClass (top 33) 5)) .none kV33 dc33 pm33 an33 cd33 ct33), sl33⟩)
    (c33 : PySem.W.codeIn K cd33 "Watch.undo" = true)
    (k33 : PySem.W.keepIn K (.ref f33) = true)
    (lCCW : K.lookup CW = some (excClassObj nmCW qnCW CW NCW bsCW [.type "object"] hdctCW snCW subCW abCW colCW ddCW q0CW q1CW q2CW q3CW q5CW newIdCW))
    (okNCW : PySem.W.nsOkIn K NCW = true)
    (n34w : PySem.W.nsIn K NCW "__len__" = some (some (.ref f34)))
    (l34 : K.lookup f34 = some ⟨oc34, od34, .func (PySem.W.fnOf "__len__" "Watch.__len__" (defArgs (inClass (top 33) 8)) (defBody (inClass (top 33) 8)) (defScope (inClass (top 33) 8)) .none kV34 dc34 pm34 an34 cd34 ct34), sl34⟩)
    (c34 : PySem.W.codeIn K cd34 "Watch.__len__" = true)
    (k34 : PySem.W.keepIn K (.ref f34) = true)
    (oc34w : oc34 = .type "function")
    (x1NoMore : PySem.W.nsIn K mainGlobals "NoMore" = some (some (.ref CNoMore)))
    (x2NoMore : PySem.W.excIn K CNoMore [.type "ArithmeticError", .type "Exception", .type "BaseException", .type "object"] "ArithmeticError.__new__" = true)
    (x3NoMore : PySem.W.subIn K (.ref CNoMore) (.type "BaseException") = some true)
    (x4NoMore : PySem.W.typeIn K (.ref CNoMore) = some (.type "type"))
    (x5NoMore : PySem.W.keepIn K (.ref CNoMore) = true)
    (x6NoMore : PySem.W.exmOne K (.ref CNoMore) (.ref CNoMore) = some true)
    (x1NoChance : PySem.W.nsIn K mainGlobals "NoChance" = some (some (.ref CNoChance)))
    (x2NoChance : PySem.W.excIn K CNoChance [.type "ArithmeticError", .type "Exception", .type "BaseException", .type "object"] "ArithmeticError.__new__" = true)
    (x3NoChance : PySem.W.subIn K (.ref CNoChance) (.type "BaseException") = some true)
    (x4NoChance : PySem.W.typeIn K (.ref CNoChance) = some (.type "type"))
    (x5NoChance : PySem.W.keepIn K (.ref CNoChance) = true)
    (x6NoChance : PySem.W.exmOne K (.ref CNoChance) (.ref CNoChance) = some true)
    (x1NothingToUndo : PySem.W.nsIn K mainGlobals "NothingToUndo" = some (some (.ref CNothingToUndo)))
    (x2NothingToUndo : PySem.W.excIn K CNothingToUndo [.type "ArithmeticError", .type "Exception", .type "BaseException", .type "object"] "ArithmeticError.__new__" = true)
    (x3NothingToUndo : PySem.W.subIn K (.ref CNothingToUndo) (.type "BaseException") = some true)
    (x4NothingToUndo : PySem.W.typeIn K (.ref CNothingToUndo) = some (.type "type"))
    (x5NothingToUndo : PySem.W.keepIn K (.ref CNothingToUndo) = true)
    (x6NothingToUndo : PySem.W.exmOne K (.ref CNothingToUndo) (.ref CNothingToUndo) = some true)
    (oNM : PySem.W.exmOne K (.ref CNoChance) (.ref CNoMore) = some false)
    (oUM : PySem.W.exmOne K (.ref CNothingToUndo) (.ref CNoMore) = some false)
    (oUN : PySem.W.exmOne K (.ref CNothingToUndo) (.ref CNoChance) = some false)
    (c_gcd : PySem.W.nsIn K mainGlobals "gcd" = some (some (.builtin "math.gcd")))
    (c_comb : PySem.W.nsIn K mainGlobals "comb" = some (some (.builtin "math.comb")))
    (c_lcm : PySem.W.nsIn K mainGlobals "lcm" = some (some (.builtin "math.lcm")))
    (c_MOST_DRAWS : PySem.W.nsIn K mainGlobals "MOST_DRAWS" = some (some (.int 5 tk)))
    (z_len : PySem.W.nsIn K mainGlobals "len" = some none)
    (z_abs : PySem.W.nsIn K mainGlobals "abs" = some none)
    (z_max : PySem.W.nsIn K mainGlobals "max" = some none)
    (z_min : PySem.W.nsIn K mainGlobals "min" = some none)
    (z_sum : PySem.W.nsIn K mainGlobals "sum" = some none)
    (z_range : PySem.W.nsIn K mainGlobals "range" = some none)
    (z_tuple : PySem.W.nsIn K mainGlobals "tuple" = some none)
    (z_int : PySem.W.nsIn K mainGlobals "int" = some none)
    (z_divmod : PySem.W.nsIn K mainGlobals "divmod" = some none)
    (z_all : PySem.W.nsIn K mainGlobals "all" = some none)
    (z_repr : PySem.W.nsIn K mainGlobals "repr" = some none)
    (z_isinstance : PySem.W.nsIn K mainGlobals "isinstance" = some none)
    (z_enumerate : PySem.W.nsIn K mainGlobals "enumerate" = some none)
    (z_bool : PySem.W.nsIn K mainGlobals "bool" = some none)
    (z_zip : PySem.W.nsIn K mainGlobals "zip" = some none)
    (z_str : PySem.W.nsIn K mainGlobals "str" = some none)
    (z_list : PySem.W.nsIn K mainGlobals "list" = some none)
    : ∃ (c Pt : Addr) (fd : FuncData), Maker K h c Pt ∧ (∀ (s : Shared) (u : Value), BindsTo s fd ⟨[u], []⟩ [("script", u)]) ∧ ∀ base : Heap, K.In base → base.Ns mainGlobals mg → LamX.TabB base mg c Pt → FnG l.prog w K mg base 13 fa fd ["script"] (spLawT K c Pt) := by
  have e := hfa.symm.trans (PySem.W.mg_of X G a23)
  cases e
  have D_law_vat : Df K mg "_law_vat" (top 35) ["script", "at"] := ⟨f1, _, fun_mk (st := (top 35)) l1 c1 k1, PySem.W.mg_of X G a1, (fun_mk (st := (top 35)) l1 c1 k1).binds (ps := ["script", "at"]) fun _ _ _ _ _ _ us hl => match us, hl with | [_, _], _ => rfl⟩
  have D_law_dip : Df K mg "_law_dip" (top 36) ["vat", "many"] := ⟨f2, _, fun_mk (st := (top 36)) l2 c2 k2, PySem.W.mg_of X G a2, (fun_mk (st := (top 36)) l2 c2 k2).binds (ps := ["vat", "many"]) fun _ _ _ _ _ _ us hl => match us, hl with | [_, _], _ => rfl⟩
  have D_law_shared : Df K mg "_law_shared" (top 37) ["one", "two"] := ⟨f3, _, fun_mk (st := (top 37)) l3 c3 k3, PySem.W.mg_of X G a3, (fun_mk (st := (top 37)) l3 c3 k3).binds (ps := ["one", "two"]) fun _ _ _ _ _ _ us hl => match us, hl with | [_, _], _ => rfl⟩
  have D_law_part : Df K mg "_law_part" (top 38) ["top", "bottom"] := ⟨f4, _, fun_mk (st := (top 38)) l4 c4 k4, PySem.W.mg_of X G a4, (fun_mk (st := (top 38)) l4 c4 k4).binds (ps := ["top", "bottom"]) fun _ _ _ _ _ _ us hl => match us, hl with | [_, _], _ => rfl⟩
  have D_law_sum : Df K mg "_law_sum" (top 39) ["parts_here"] := ⟨f5, _, fun_mk (st := (top 39)) l5 c5 k5, PySem.W.mg_of X G a5, (fun_mk (st := (top 39)) l5 c5 k5).binds (ps := ["parts_here"]) fun _ _ _ _ _ _ us hl => match us, hl with | [_], _ => rfl⟩
  have D_law_ways : Df K mg "_law_ways" (top 40) ["things", "some"] := ⟨f6, _, fun_mk (st := (top 40)) l6 c6 k6, PySem.W.mg_of X G a6, (fun_mk (st := (top 40)) l6 c6 k6).binds (ps := ["things", "some"]) fun _ _ _ _ _ _ us hl => match us, hl with | [_, _], _ => rfl⟩
  have D_law_whole : Df K mg "_law_whole" (top 41) ["parts_here"] := ⟨f7, _, fun_mk (st := (top 41)) l7 c7 k7, PySem.W.mg_of X G a7, (fun_mk (st := (top 41)) l7 c7 k7).binds (ps := ["parts_here"]) fun _ _ _ _ _ _ us hl => match us, hl with | [_], _ => rfl⟩
  have D_law_plain : Df K mg "_law_plain" (top 42) ["some"] := ⟨f8, _, fun_mk (st := (top 42)) l8 c8 k8, PySem.W.mg_of X G a8, (fun_mk (st := (top 42)) l8 c8 k8).binds (ps := ["some"]) fun _ _ _ _ _ _ us hl => match us, hl with | [_], _ => rfl⟩
  have D_law_counts : Df K mg "_law_counts" (top 43) ["vat", "way"] := ⟨f9, _, fun_mk (st := (top 43)) l9 c9 k9, PySem.W.mg_of X G a9, (fun_mk (st := (top 43)) l9 c9 k9).binds (ps := ["vat", "way"]) fun _ _ _ _ _ _ us hl => match us, hl with | [_, _], _ => rfl⟩
  have D_law_chance : Df K mg "_law_chance" (top 44) ["some", "seen"] := ⟨f10, _, fun_mk (st := (top 44)) l10 c10 k10, PySem.W.mg_of X G a10, (fun_mk (st := (top 44)) l10 c10 k10).binds (ps := ["some", "seen"]) fun _ _ _ _ _ _ us hl => match us, hl with | [_, _], _ => rfl⟩
  have D_law_rest : Df K mg "_law_rest" (top 45) ["some", "seen"] := ⟨f11, _, fun_mk (st := (top 45)) l11 c11 k11, PySem.W.mg_of X G a11, (fun_mk (st := (top 45)) l11 c11 k11).binds (ps := ["some", "seen"]) fun _ _ _ _ _ _ us hl => match us, hl with | [_, _], _ => rfl⟩
  have D_law_outcome : Df K mg "_law_outcome" (top 46) ["act"] := ⟨f12, _, fun_mk (st := (top 46)) l12 c12 k12, PySem.W.mg_of X G a12, (fun_mk (st := (top 46)) l12 c12 k12).binds (ps := ["act"]) fun _ _ _ _ _ _ us hl => match us, hl with | [_], _ => rfl⟩
  have D_law_due : Df K mg "_law_due" (top 47) ["some", "seen", "truth"] := ⟨f13, _, fun_mk (st := (top 47)) l13 c13 k13, PySem.W.mg_of X G a13, (fun_mk (st := (top 47)) l13 c13 k13).binds (ps := ["some", "seen", "truth"]) fun _ _ _ _ _ _ us hl => match us, hl with | [_, _, _], _ => rfl⟩
  have D_law_right : DfC K mg "_law_right" (top 48) ["vat"] cR := ⟨f14, _, ⟨⟨_, _, _, _, _, _, _, _, rfl, l14, c14⟩, k14⟩, PySem.W.mg_of X G a14, (fun_mk (st := (top 48)) l14 c14 k14).binds (ps := ["vat"]) fun _ _ _ _ _ _ us hl => match us, hl with | [_], _ => rfl⟩
  have MKR : Maker K h cR PtR := ⟨PySem.W.codeHd_of_K X hC14, nP14, tabs _ (List.mem_singleton.mpr rfl)⟩
  have D_law_quiet : Df K mg "_law_quiet" (top 49) ["vat"] := ⟨f15, _, fun_mk (st := (top 49)) l15 c15 k15, PySem.W.mg_of X G a15, (fun_mk (st := (top 49)) l15 c15 k15).binds (ps := ["vat"]) fun _ _ _ _ _ _ us hl => match us, hl with | [_], _ => rfl⟩
  have Dis_whole : Df K mg "is_whole" (top 17) ["value"] := ⟨f16, _, fun_mk (st := (top 17)) l16 c16 k16, PySem.W.mg_of X G a16, (fun_mk (st := (top 17)) l16 c16 k16).binds (ps := ["value"]) fun _ _ _ _ _ _ us hl => match us, hl with | [_], _ => rfl⟩
  have Dcheck_number : Df K mg "check_number" (top 18) ["given", "least", "most"] := ⟨f17, _, fun_mk (st := (top 18)) l17 c17 k17, PySem.W.mg_of X G a17, (fun_mk (st := (top 18)) l17 c17 k17).binds (ps := ["given", "least", "most"]) fun _ _ _ _ _ _ us hl => match us, hl with | [_, _, _], _ => rfl⟩
  have Dlowest : Df K mg "lowest" (top 19) ["top", "bottom"] := ⟨f18, _, fun_mk (st := (top 19)) l18 c18 k18, PySem.W.mg_of X G a18, (fun_mk (st := (top 19)) l18 c18 k18).binds (ps := ["top", "bottom"]) fun _ _ _ _ _ _ us hl => match us, hl with | [_, _], _ => rfl⟩
  have Dcheck_row : Df K mg "check_row" (top 26) ["row"] := ⟨f19, _, fun_mk (st := (top 26)) l19 c19 k19, PySem.W.mg_of X G a19, (fun_mk (st := (top 26)) l19 c19 k19).binds (ps := ["row"]) fun _ _ _ _ _ _ us hl => match us, hl with | [_], _ => rfl⟩
  have D_check_counts : Df K mg "_check_counts" (top 27) ["counts"] := ⟨f20, _, fun_mk (st := (top 27)) l20 c20 k20, PySem.W.mg_of X G a20, (fun_mk (st := (top 27)) l20 c20 k20).binds (ps := ["counts"]) fun _ _ _ _ _ _ us hl => match us, hl with | [_], _ => rfl⟩
  have Dall_yes : Df K mg "all_yes" (top 30) ["row", "yes"] := ⟨f21, _, fun_mk (st := (top 30)) l21 c21 k21, PySem.W.mg_of X G a21, (fun_mk (st := (top 30)) l21 c21 k21).binds (ps := ["row", "yes"]) fun _ _ _ _ _ _ us hl => match us, hl with | [_, _], _ => rfl⟩
  have Dbehind : Df K mg "behind" (top 31) ["row", "draws", "yes"] := ⟨f22, _, fun_mk (st := (top 31)) l22 c22 k22, PySem.W.mg_of X G a22, (fun_mk (st := (top 31)) l22 c22 k22).binds (ps := ["row", "draws", "yes"]) fun _ _ _ _ _ _ us hl => match us, hl with | [_, _, _], _ => rfl⟩
  have F__init__ := fun_mk (st := (inClass (top 25) 0)) l24 c24 k24
  have b__init__ := F__init__.binds (ps := ["self", "counts"]) fun _ _ _ _ _ _ us hl => match us, hl with | [_, _], _ => rfl
  have F__eq__ := fun_mk (st := (inClass (top 25) 7)) l25 c25 k25
  have b__eq__ := F__eq__.binds (ps := ["self", "other"]) fun _ _ _ _ _ _ us hl => match us, hl with | [_, _], _ => rfl
  have Fcounts := fun_mk (st := (inClass (top 25) 2)) l26 c26 k26
  have bcounts := Fcounts.binds (ps := ["self"]) fun _ _ _ _ _ _ us hl => match us, hl with | [_], _ => rfl
  have Pcounts : PropOf K C "counts" p26 f26 := ⟨a26, g26, t26, _, r26r⟩
  have Fdraws := fun_mk (st := (inClass (top 25) 4)) l27 c27 k27
  have bdraws := Fdraws.binds (ps := ["self"]) fun _ _ _ _ _ _ us hl => match us, hl with | [_], _ => rfl
  have Pdraws : PropOf K C "draws" p27 f27 := ⟨a27, g27, t27, _, r27r⟩
  have OEQ : OwnEq K C f25 := ⟨N, _, nm, qn, bs, hdct, sn, sub, ab, col, dd, q0, q1, q2, q3, q5, newId, lC, okN, n1, n2, l25, ocf⟩
  have mCW := PySem.W.mg_of X G aCW
  have clCW : Cls K CW := ⟨pgCW, hdCW, poCW, saCW⟩
  have FWatch___init__ := fun_mk (st := (inClass (top 33) 0)) l28 c28 k28
  have bWatch___init__ := FWatch___init__.binds (ps := ["self", "row"]) fun _ _ _ _ _ _ us hl => match us, hl with | [_, _], _ => rfl
  have MKCW : Mk K CW f28 := ⟨mkCW, a28, i28, kcCW⟩
  have FWatch_row := fun_mk (st := (inClass (top 33) 1)) l29 c29 k29
  have bWatch_row := FWatch_row.binds (ps := ["self"]) fun _ _ _ _ _ _ us hl => match us, hl with | [_], _ => rfl
  have PWatch_row : PropOf K CW "row" p29 f29 := ⟨a29, g29, t29, _, r29r⟩
  have FWatch_noted := fun_mk (st := (inClass (top 33) 2)) l30 c30 k30
  have bWatch_noted := FWatch_noted.binds (ps := ["self"]) fun _ _ _ _ _ _ us hl => match us, hl with | [_], _ => rfl
  have PWatch_noted : PropOf K CW "noted" p30 f30 := ⟨a30, g30, t30, _, r30r⟩
  have FWatch_rest := fun_mk (st := (inClass (top 33) 3)) l31 c31 k31
  have bWatch_rest := FWatch_rest.binds (ps := ["self"]) fun _ _ _ _ _ _ us hl => match us, hl with | [_], _ => rfl
  have PWatch_rest : PropOf K CW "rest" p31 f31 := ⟨a31, g31, t31, _, r31r⟩
  have FWatch_note := fun_mk (st := (inClass (top 33) 4)) l32 c32 k32
  have bWatch_note := FWatch_note.binds (ps := ["self", "outcome"]) fun _ _ _ _ _ _ us hl => match us, hl with | [_, _], _ => rfl
  have MWatch_note : Meth K CW "note" f32 := ⟨a32, i32, k32⟩
  have FWatch_undo := fun_mk (st := (inClass (top 33) 5)) l33 c33 k33
  have bWatch_undo := FWatch_undo.binds (ps := ["self"]) fun _ _ _ _ _ _ us hl => match us, hl with | [_], _ => rfl
  have MWatch_undo : Meth K CW "undo" f33 := ⟨a33, i33, k33⟩
  have FWatch___len__ := fun_mk (st := (inClass (top 33) 8)) l34 c34 k34
  have bWatch___len__ := FWatch___len__.binds (ps := ["self"]) fun _ _ _ _ _ _ us hl => match us, hl with | [_], _ => rfl
  have OWatch___len__ : OwnSp K CW "__len__" f34 := ⟨NCW, _, nmCW, qnCW, bsCW, hdctCW, snCW, subCW, abCW, colCW, ddCW, q0CW, q1CW, q2CW, q3CW, q5CW, newIdCW, lCCW, okNCW, n34w, l34, oc34w⟩
  have c_NoMore := PySem.W.mg_of X G x1NoMore
  have eNoMore : ExcA K CNoMore := ⟨x2NoMore, x3NoMore, x4NoMore, x5NoMore, x6NoMore⟩
  have c_NoChance := PySem.W.mg_of X G x1NoChance
  have eNoChance : ExcA K CNoChance := ⟨x2NoChance, x3NoChance, x4NoChance, x5NoChance, x6NoChance⟩
  have c_NothingToUndo := PySem.W.mg_of X G x1NothingToUndo
  have eNothingToUndo : ExcA K CNothingToUndo := ⟨x2NothingToUndo, x3NothingToUndo, x4NothingToUndo, x5NothingToUndo, x6NothingToUndo⟩
  have c_gcd := PySem.W.mg_of X G c_gcd
  have c_comb := PySem.W.mg_of X G c_comb
  have c_lcm := PySem.W.mg_of X G c_lcm
  have c_MOST_DRAWS := PySem.W.mg_of X G c_MOST_DRAWS
  have B : Bi mg := ⟨PySem.W.mg_none_of X G z_len, PySem.W.mg_none_of X G z_abs, PySem.W.mg_none_of X G z_max, PySem.W.mg_none_of X G z_min, PySem.W.mg_none_of X G z_sum, PySem.W.mg_none_of X G z_range, PySem.W.mg_none_of X G z_tuple, PySem.W.mg_none_of X G z_int, PySem.W.mg_none_of X G z_divmod, PySem.W.mg_none_of X G z_all, PySem.W.mg_none_of X G z_repr, PySem.W.mg_none_of X G z_isinstance, PySem.W.mg_none_of X G z_enumerate, PySem.W.mg_none_of X G z_bool, PySem.W.mg_none_of X G z_zip, PySem.W.mg_none_of X G z_str, PySem.W.mg_none_of X G z_list⟩
  have RC : RowC K mg C := ⟨⟨pg, hd, po, sa⟩, nC, PySem.W.mg_of X G aC, xa, xn, xt, xm⟩
  have NE := (⟨f25, N, _, nm, qn, bs, hdct, sn, sub, ab, col, dd, q0, q1, q2, q3, q5, newId, a25, lC, okN, n1, n2, l25, ocf⟩ : ∃ (f N : Addr) (of : Obj) (nm q : Str) (bs : List Value) (hdct : Bool) (sn : List Str) (sub : List Value) (ab : Bool) (col : Option Bool) (dd : Option Addr) (k0 k1 k2 k3 k5 : Option Value) (newId : String), PySem.W.findIn K (.ref C) "__eq__" = some (some (.ref f)) ∧ K.lookup C = some (excClassObj nm q C N bs [.type "object"] hdct sn sub ab col dd k0 k1 k2 k3 k5 newId) ∧ PySem.W.nsOkIn K N = true ∧ PySem.W.nsIn K N "__eq__" = some (some (.ref f)) ∧ PySem.W.nsIn K N "__ne__" = some none ∧ K.lookup f = some of ∧ of.cls = .type "function")
  have MK : Mk K C f24 := ⟨mk, a24, i24, kc⟩
  have EQ1 := a25
  have EQ2 := i25
  refine ⟨cR, PtR, PySem.W.fnOf "law" "law" (defArgs (top 50)) (defBody (top 50)) (defScope (top 50)) .none kV23 dc23 pm23 an23 cd23 ct23, MKR, fun s u => BindsTo.of_eq (by first | rfl | with_unfolding_all rfl), fun base _ _ TB => ?_⟩
  have h_law_vat := has_vat (P := l.prog) (w := w) (base := base) B D_law_vat
  have h_law_dip := has_dip (P := l.prog) (w := w) (base := base) B D_law_dip
  have h_law_shared := has_shared (P := l.prog) (w := w) (base := base) B D_law_shared
  have h_law_part := has_part h_law_shared D_law_part
  have his_whole := has_whole (P := l.prog) (w := w) (base := base) B Dis_whole
  have h_check_counts := has_check B c_MOST_DRAWS his_whole D_check_counts
  have hlowest := has_lowest (P := l.prog) (w := w) (base := base) c_gcd Dlowest
  have RT : RowT l.prog w K mg base C := ⟨RC, ⟨_, _, MK, ok_init F__init__ B RC c_gcd h_check_counts, b__init__⟩, ⟨_, _, _, Pcounts, ok_get Fcounts RC, bcounts⟩, ⟨_, _, _, Pdraws, ok_draws Fdraws B RC, bdraws⟩, ⟨_, _, EQ1, EQ2, ok_eq F__eq__ B RC, b__eq__⟩, NE⟩
  have RQ : RowQ l.prog w K mg base C := ⟨_, _, OEQ, ok_eq F__eq__ B RC, ok_eqO F__eq__ B RC oddC, b__eq__⟩
  have hcheck_number := has_num his_whole Dcheck_number
  have hcheck_row := has_check_row (P := l.prog) (w := w) (base := base) B RC Dcheck_row
  have hall_yes := Has.of Dall_yes fun f fd F => ok_all_yes B RT c_comb hcheck_row hcheck_number hlowest F
  have h_law_plain := has_plain B h_law_shared D_law_plain
  have h_law_whole := has_whole_l h_law_shared h_law_plain D_law_whole
  have h_law_sum := has_sumP h_law_part D_law_sum
  have h_law_counts := has_counts B h_law_dip D_law_counts
  have h_law_ways := has_ways (P := l.prog) (w := w) (base := base) B D_law_ways
  have hbehind := HasX.of Dbehind fun f fd F => ok_behindX eNoChance c_NoChance B RT c_comb c_lcm hcheck_row hcheck_number F
  have WC : WatchC K mg CW := ⟨clCW, nfCW_row, nfCW_outcomes⟩
  have Wmake : MakeT l.prog w K mg base CW "Watch" 2 ["self", "row"] (spWInit K C CW) := ⟨mCW, _, _, MKCW, ok_winit FWatch___init__ WC hcheck_row, bWatch___init__⟩
  have Wrow : PropT l.prog w K mg base CW "row" 1 (spWRow K C CW) := ⟨clCW, _, _, _, PWatch_row, ok_wrow FWatch_row WC, bWatch_row⟩
  have Wnoted : PropT l.prog w K mg base CW "noted" 1 (spNoted K C CW) := ⟨clCW, _, _, _, PWatch_noted, ok_noted FWatch_noted WC, bWatch_noted⟩
  have Wrest : PropT l.prog w K mg base CW "rest" 6 (spRest K C CW) := ⟨clCW, _, _, _, PWatch_rest, ok_rest FWatch_rest B WC RT hbehind, bWatch_rest⟩
  have Wnote : MethT l.prog w K mg base (L2.CX l.prog w) CW "note" 8 ["self", "outcome"] (spNote K C CW CNoMore CNoChance) := ⟨clCW, _, _, MWatch_note, ok_note FWatch_note B WC Wrest eNoMore c_NoMore eNoChance c_NoChance hall_yes, bWatch_note⟩
  have Wundo : MethT l.prog w K mg base (L2.CX l.prog w) CW "undo" 2 ["self"] (spUndo K C CW CNothingToUndo) := ⟨clCW, _, _, MWatch_undo, ok_undo FWatch_undo B WC eNothingToUndo c_NothingToUndo, bWatch_undo⟩
  have Wlen : LenT l.prog w K mg base CW (spWLen K C CW) := ⟨clCW, _, _, OWatch___len__, ok_wlen FWatch___len__ B WC, bWatch___len__⟩
  have OU : Outs K CNoMore CNoChance CNothingToUndo := ⟨eNoMore.own, oNM, eNoChance.own, oUM, oUN, eNothingToUndo.own⟩
  have h_law_chance := has_chance56 B h_law_part h_law_ways h_law_sum D_law_chance
  have h_law_rest := has_rest56 B h_law_part h_law_ways h_law_whole D_law_rest
  have h_law_due := has_due56 B h_law_part h_law_chance D_law_due
  have h_law_right := has_right56 B RT RQ D_law_outcome OU c_NoMore c_NoChance c_NothingToUndo TB Wmake Wrow Wnoted Wrest Wnote Wundo Wlen h_law_dip h_law_counts h_law_due h_law_rest D_law_right
  have h_law_quiet := has_quiet h_law_right D_law_quiet
  exact ok_law B h_law_vat h_law_quiet (fun_mk l23 c23 k23)
end Dm
open PySem PySem.W PyProof.Rows in
set_option maxRecDepth 100000 in
set_option maxHeartbeats 0 in
theorem PySem.Challenge.cw_drawnmore_k56_whole_watches_led_holds : PySem.Challenge.rw_drawnmore_k56_whole_watches_led.Holds := by
  w_on; o_law; k_head; (case hw => w_witness2)
  k_fill
  refine Dm.walkGT (l := PySem.Challenge.rw_drawnmore_k56_whole_watches_led) (n := 63) (k := 13) (x := "script") (sp := Dm.spLawT) rfl (by decide) rfl ⟨rfl, by decide, by decide⟩ (fun w h Y => PySem.W.km_in_of Y) ?F (fun K c Pt H a ns hl hT hS => ⟨a, ns, rfl, hS, hl, hT, fun _ => rfl⟩)
  case F =>
    intro w mg fa h Y KX G hmg
    refine' Dm.all_mk KX G hmg ?tabs ?a1 ?l1 ?c1 ?k1 ?a2 ?l2 ?c2 ?k2 ?a3 ?l3 ?c3 ?k3 ?a4 ?l4 ?c4 ?k4 ?a5 ?l5 ?c5 ?k5 ?a6 ?l6 ?c6 ?k6 ?a7 ?l7 ?c7 ?k7 ?a8 ?l8 ?c8 ?k8 ?a9 ?l9 ?c9 ?k9 ?a10 ?l10 ?c10 ?k10 ?a11 ?l11 ?c11 ?k11 ?a12 ?l12 ?c12 ?k12 ?a13 ?l13 ?c13 ?k13 ?a14 ?l14 ?c14 ?k14 ?hC14 ?nP14 ?a15 ?l15 ?c15 ?k15 ?a16 ?l16 ?c16 ?k16 ?a17 ?l17 ?c17 ?k17 ?a18 ?l18 ?c18 ?k18 ?a19 ?l19 ?c19 ?k19 ?a20 ?l20 ?c20 ?k20 ?a21 ?l21 ?c21 ?k21 ?a22 ?l22 ?c22 ?k22 ?a23 ?l23 ?c23 ?k23 ?aC ?pg ?hd ?po ?sa ?mk ?kc ?nC ?xa ?xn ?xt ?xm ?a24 ?i24 ?l24 ?c24 ?k24 ?a25 ?i25 ?l25 ?c25 ?k25 ?a26 ?g26 ?t26 ?r26r ?l26 ?c26 ?k26 ?a27 ?g27 ?t27 ?r27r ?l27 ?c27 ?k27 ?lC ?okN ?n1 ?n2 ?ocf ?oddC ?aCW ?pgCW ?hdCW ?poCW ?saCW ?mkCW ?kcCW ?nfCW_row ?nfCW_outcomes ?a28 ?i28 ?l28 ?c28 ?k28 ?a29 ?g29 ?t29 ?r29r ?l29 ?c29 ?k29 ?a30 ?g30 ?t30 ?r30r ?l30 ?c30 ?k30 ?a31 ?g31 ?t31 ?r31r ?l31 ?c31 ?k31 ?a32 ?i32 ?l32 ?c32 ?k32 ?a33 ?i33 ?l33 ?c33 ?k33 ?lCCW ?okNCW ?n34w ?l34 ?c34 ?k34 ?oc34w ?x1NoMore ?x2NoMore ?x3NoMore ?x4NoMore ?x5NoMore ?x6NoMore ?x1NoChance ?x2NoChance ?x3NoChance ?x4NoChance ?x5NoChance ?x6NoChance ?x1NothingToUndo ?x2NothingToUndo ?x3NothingToUndo ?x4NothingToUndo ?x5NothingToUndo ?x6NothingToUndo ?oNM ?oUM ?oUN ?c_gcd ?c_comb ?c_lcm ?c_MOST_DRAWS ?z_len ?z_abs ?z_max ?z_min ?z_sum ?z_range ?z_tuple ?z_int ?z_divmod ?z_all ?z_repr ?z_isinstance ?z_enumerate ?z_bool ?z_zip ?z_str ?z_list
    (case tabs => exact PySem.W.km_tabs_of Y)
    (case a1 => k_is)
    (case l1 => k_is)
    (case c1 => k_is)
    (case k1 => k_is)
    (case a2 => k_is)
    (case l2 => k_is)
    (case c2 => k_is)
    (case k2 => k_is)
    (case a3 => k_is)
    (case l3 => k_is)
    (case c3 => k_is)
    (case k3 => k_is)
    (case a4 => k_is)
    (case l4 => k_is)
    (case c4 => k_is)
    (case k4 => k_is)
    (case a5 => k_is)
    (case l5 => k_is)
    (case c5 => k_is)
    (case k5 => k_is)
    (case a6 => k_is)
    (case l6 => k_is)
    (case c6 => k_is)
    (case k6 => k_is)
    (case a7 => k_is)
    (case l7 => k_is)
    (case c7 => k_is)
    (case k7 => k_is)
    (case a8 => k_is)
    (case l8 => k_is)
    (case c8 => k_is)
    (case k8 => k_is)
    (case a9 => k_is)
    (case l9 => k_is)
    (case c9 => k_is)
    (case k9 => k_is)
    (case a10 => k_is)
    (case l10 => k_is)
    (case c10 => k_is)
    (case k10 => k_is)
    (case a11 => k_is)
    (case l11 => k_is)
    (case c11 => k_is)
    (case k11 => k_is)
    (case a12 => k_is)
    (case l12 => k_is)
    (case c12 => k_is)
    (case k12 => k_is)
    (case a13 => k_is)
    (case l13 => k_is)
    (case c13 => k_is)
    (case k13 => k_is)
    (case a14 => k_is)
    (case l14 => k_is)
    (case c14 => k_is)
    (case k14 => k_is)
    (case hC14 => kernel_rfl)
    (case nP14 => kernel_rfl)
    (case a15 => k_is)
    (case l15 => k_is)
    (case c15 => k_is)
    (case k15 => k_is)
    (case a16 => k_is)
    (case l16 => k_is)
    (case c16 => k_is)
    (case k16 => k_is)
    (case a17 => k_is)
    (case l17 => k_is)
    (case c17 => k_is)
    (case k17 => k_is)
    (case a18 => k_is)
    (case l18 => k_is)
    (case c18 => k_is)
    (case k18 => k_is)
    (case a19 => k_is)
    (case l19 => k_is)
    (case c19 => k_is)
    (case k19 => k_is)
    (case a20 => k_is)
    (case l20 => k_is)
    (case c20 => k_is)
    (case k20 => k_is)
    (case a21 => k_is)
    (case l21 => k_is)
    (case c21 => k_is)
    (case k21 => k_is)
    (case a22 => k_is)
    (case l22 => k_is)
    (case c22 => k_is)
    (case k22 => k_is)
    (case a23 => k_is)
    (case l23 => k_is)
    (case c23 => k_is)
    (case k23 => k_is)
    (case aC => k_is)
    (case pg => k_is)
    (case hd => k_is)
    (case po => k_is)
    (case sa => k_is)
    (case mk => k_is)
    (case kc => k_is)
    (case nC => k_is)
    (case xa => k_is)
    (case xn => k_is)
    (case xt => k_is)
    (case xm => k_is)
    (case a24 => k_is)
    (case i24 => k_is)
    (case l24 => k_is)
    (case c24 => k_is)
    (case k24 => k_is)
    (case a25 => k_is)
    (case i25 => k_is)
    (case l25 => k_is)
    (case c25 => k_is)
    (case k25 => k_is)
    (case a26 => k_is)
    (case g26 => k_is)
    (case t26 => k_is)
    (case r26r => k_is)
    (case l26 => k_is)
    (case c26 => k_is)
    (case k26 => k_is)
    (case a27 => k_is)
    (case g27 => k_is)
    (case t27 => k_is)
    (case r27r => k_is)
    (case l27 => k_is)
    (case c27 => k_is)
    (case k27 => k_is)
    (case lC => k_is)
    (case okN => kernel_rfl)
    (case n1 => k_is)
    (case n2 => k_is)
    (case ocf => rfl)
    (case oddC => intro T hT; simp only [Dm.oddNames, List.mem_cons, List.not_mem_nil, or_false] at hT; rcases hT with rfl | rfl | rfl | rfl | rfl | rfl | rfl <;> kernel_rfl)
    (case aCW => k_is)
    (case pgCW => k_is)
    (case hdCW => k_is)
    (case poCW => k_is)
    (case saCW => k_is)
    (case mkCW => k_is)
    (case kcCW => k_is)
    (case nfCW_row => k_is)
    (case nfCW_outcomes => k_is)
    (case a28 => k_is)
    (case i28 => k_is)
    (case l28 => k_is)
    (case c28 => k_is)
    (case k28 => k_is)
    (case a29 => k_is)
    (case g29 => k_is)
    (case t29 => k_is)
    (case r29r => k_is)
    (case l29 => k_is)
    (case c29 => k_is)
    (case k29 => k_is)
    (case a30 => k_is)
    (case g30 => k_is)
    (case t30 => k_is)
    (case r30r => k_is)
    (case l30 => k_is)
    (case c30 => k_is)
    (case k30 => k_is)
    (case a31 => k_is)
    (case g31 => k_is)
    (case t31 => k_is)
    (case r31r => k_is)
    (case l31 => k_is)
    (case c31 => k_is)
    (case k31 => k_is)
    (case a32 => k_is)
    (case i32 => k_is)
    (case l32 => k_is)
    (case c32 => k_is)
    (case k32 => k_is)
    (case a33 => k_is)
    (case i33 => k_is)
    (case l33 => k_is)
    (case c33 => k_is)
    (case k33 => k_is)
    (case lCCW => k_is)
    (case okNCW => kernel_rfl)
    (case n34w => k_is)
    (case l34 => k_is)
    (case c34 => k_is)
    (case k34 => k_is)
    (case oc34w => rfl)
    (case x1NoMore => k_is)
    (case x2NoMore => kernel_rfl)
    (case x3NoMore => k_is)
    (case x4NoMore => k_is)
    (case x5NoMore => k_is)
    (case x6NoMore => kernel_rfl)
    (case x1NoChance => k_is)
    (case x2NoChance => kernel_rfl)
    (case x3NoChance => k_is)
    (case x4NoChance => k_is)
    (case x5NoChance => k_is)
    (case x6NoChance => kernel_rfl)
    (case x1NothingToUndo => k_is)
    (case x2NothingToUndo => kernel_rfl)
    (case x3NothingToUndo => k_is)
    (case x4NothingToUndo => k_is)
    (case x5NothingToUndo => k_is)
    (case x6NothingToUndo => kernel_rfl)
    (case oNM => kernel_rfl)
    (case oUM => kernel_rfl)
    (case oUN => kernel_rfl)
    (case c_gcd => k_is)
    (case c_comb => k_is)
    (case c_lcm => k_is)
    (case c_MOST_DRAWS => k_is)
    (case z_len => k_is)
    (case z_abs => k_is)
    (case z_max => k_is)
    (case z_min => k_is)
    (case z_sum => k_is)
    (case z_range => k_is)
    (case z_tuple => k_is)
    (case z_int => k_is)
    (case z_divmod => k_is)
    (case z_all => k_is)
    (case z_repr => k_is)
    (case z_isinstance => k_is)
    (case z_enumerate => k_is)
    (case z_bool => k_is)
    (case z_zip => k_is)
    (case z_str => k_is)
    (case z_list => k_is)
