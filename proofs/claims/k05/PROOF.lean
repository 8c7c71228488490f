import PyProof.Rows.All
import Wide.All
import OpenK.AllK
import Wide.FinOn
import PySem.Challenge.RW_drawnmore_k05_rows_compared
import HandS.ForMost
import HandS.ForExc
import HandS.Property
import HandS.IsInst
import HandS.Gcd
import HandS.Wide
import HandS.WideBits
import PyProof.ReprRoads
import PyProof.InstNe
import KE.GoesEnum
import KE.KTupSum
import HandS.Walk
import KE.GoesMore
import KE.GoesZip
import KE.KMathGC
import HandS.Zip
import HandS.Style
import HandS.TupAny
import HandS.Conv
import HandS.Star
import HandS.TupLe
import Flt.RightSqrt
import HandS.SortInts
import PyProof.CallFns
import HandS.Codes
import HandS.StrMore
import HandS.FStr
import HandS.ClsMeth
import HandS.Iter
import PyProof.InstSpecial
import KE.KIntText
import KE.IntTextLaws
import PyProof.Rows.StrAscii
import PyProof.Rows.Range3
import PyProof.Conv_bool
import PyProof.CallStr
import PyProof.Truth
import PyProof.EqKinds
import PyProof.NeKinds
import HandS.MakeKw
set_option Elab.async false
set_option linter.all false
set_option maxRecDepth 100000
set_option maxHeartbeats 8000000
namespace Dm
open PySem PySem.Spec PyProof.Rows L2

/-! ## promises that hold where no guard is under way -/
structure FnG (P : Program) (w : World) (K : PySem.W.Frag) (mg : Str → Option Value) (base : Heap) (k : Nat)
    (f : Addr) (fd : FuncData) (ps : List Str) (sp : Sp) : Prop where
  len : ∀ vs H Q E, sp vs H Q E → vs.length = ps.length
  run : ∀ (A : Around) (outer : List Env) (s : Shared) (H : Hp) (args : Args) (us : List Value) (vs : List V) (Q : VK) (E : XK),
    A.guards = some [] → Room k A → Env0 P w K mg base A outer s H → BindsTo s fd args (ps.zip us) → Vals vs us → sp vs H Q E →
    codeAny (model P w) A (.call (.ref f) args) (CR CX0 outer P w H s Q E) s

section
variable {P : Program} {w : World} {K : PySem.W.Frag} {mg : Str → Option Value} {base : Heap}

/-- a def by its body, its caller's stack free of guards -/
theorem okG {x qual : Str} {st : Stmt} {f : Addr} {fd : FuncData} {N ps : List Str} {k : Nat} {sp : Sp}
    (F : Fun K x qual st f fd) (S : FnScope N ps (defScope st))
    (hlen : ∀ vs H Q E, sp vs H Q E → vs.length = ps.length)
    (hb : ∀ (cdv : Value) (A : Around) (outer : List Env) (s : Shared) (H : Hp) (vs : List V) (Q : VK) (E : XK),
      A.guards = some [] → Room k (A.deeper (envOfC qual (defScope st) s.heap.objs.size f cdv)) → sp vs H Q E →
      ∃ t, PSs (cxOf CX0 P w K mg base N qual (defScope st) f cdv A outer s H E).nox (defBody st) t ∧
        t { nx := fun _ H' => Q .non H', rt := Q } (start N vs) H) :
    FnG P w K mg base (k + 1) f fd ps sp := by
  obtain ⟨oc, od, kV, doc, pm, an, cdv, ct, osl, rfl, look, hcode⟩ := F.ex
  constructor
  · exact hlen
  intro A outer s H args us vs Q E hgd hrm env0 hbinds rel hsp
  have hl := hlen _ _ _ _ hsp
  have inK : K.In s.heap := env0.mod.kin.keeps fun a o h => (env0.bs a o h).1
  have nolim : s.heap.NoLimit := env0.mod.nolimit.keeps fun a o h => (env0.bs a o h).1
  have kinds : ∀ y ∈ ps.zip us, (defScope st).names.lookup y.1 = some .local ∨
      ((defScope st).names.lookup y.1 = some .cell ∧ ((cellsFrom (s.heap.objs.size + 1) (defScope st).names []).lookup y.1).isSome = true) := by
    intro ⟨n, v⟩ hy
    cases S.par n (List.of_mem_zip hy).1 with
    | inl q => exact .inl q
    | inr q => exact .inr ⟨q, PySem.W.cellsFrom_some _ _ _ (.inl q)⟩
  apply codeAny_call_function hrm.depth (inK _ _ look) rfl S.co S.gen rfl
    (PySem.W.codeRec_of inK hcode) (hbinds _ _ _ _ ?_)
  refine wpAny_newFunctionEnv_cells S.kind kinds fun env henv s1 ic => ?_
  subst henv
  refine ⟨nolim.keeps ic.toInCall.keep, codeAny_func ?_⟩
  obtain ⟨t, ht, hq⟩ := hb cdv A outer s H vs Q E hgd (hrm.deeper _) hsp
  have I := inv_start (CX := CX0) (E := E) S hrm.hd env0 hl rel ic
  refine wpAny_mono (ht.nox.run [] s1 (start N vs) H _ I hq) (fun fl s' hs => ?_) fun _ _ hs => hs
  have done : ∀ {σ' : L2.St} {H' : Hp} {v : V} {u : Value},
      Inv (cxOf CX0 P w K mg base N qual (defScope st) f cdv A outer s H E) [] σ' H' s' → RelV v u → Q v H' →
      CE outer P w H s Q u s' := fun J rv q => ⟨_, _, J.os, J.bare, J.base, J.hok, rv, q⟩
  cases fl with
  | ret u =>
    obtain ⟨v, σ', H', J, rv, q⟩ := hs
    exact done J rv q
  | next =>
    obtain ⟨σ', H', J, q⟩ := hs
    exact done (v := V.non) (u := Value.none) J rfl q
  | brk =>
    obtain ⟨_, _, _, q⟩ := hs
    exact q.elim
  | cont =>
    obtain ⟨_, _, _, q⟩ := hs
    exact q.elim

theorem FnG.of {k : Nat} {f : Addr} {fd : FuncData} {ps : List Str} {sp : Sp} (F : FnOk P w K mg base CX0 k f fd ps sp) :
    FnG P w K mg base k f fd ps sp := ⟨F.len, fun A o s H a us vs Q E _ => F.run A o s H a us vs Q E⟩

/-- the global x is a def that keeps sp -/
def Has (P : Program) (w : World) (K : PySem.W.Frag) (mg : Str → Option Value) (base : Heap) (x : Str) (k : Nat) (ps : List Str) (sp : Sp) : Prop :=
  ∃ f fd, FnOk P w K mg base CX0 k f fd ps sp ∧ mg x = some (.ref f) ∧ PySem.W.keepIn K (.ref f) = true ∧ Binds K fd ps []
def HasG (P : Program) (w : World) (K : PySem.W.Frag) (mg : Str → Option Value) (base : Heap) (x : Str) (k : Nat) (ps : List Str) (sp : Sp) : Prop :=
  ∃ f fd, FnG P w K mg base k f fd ps sp ∧ mg x = some (.ref f) ∧ PySem.W.keepIn K (.ref f) = true ∧ Binds K fd ps []
/-- the def st of the text stands under its name -/
def Df (K : PySem.W.Frag) (mg : Str → Option Value) (x : Str) (st : Stmt) (ps : List Str) : Prop :=
  ∃ f fd, Fun K x x st f fd ∧ mg x = some (.ref f) ∧ Binds K fd ps []
end

section
variable {X : Cx}
def tF (sp : Sp) (t : TA) : TE := fun σ H Q => t σ H fun vs H1 => sp vs H1 Q E0
theorem pe_has {x : Str} {k : Nat} {ps : List Str} {sp : Sp} {p pos : Pos} {e : Expr} {es : List Expr} {t : TA}
    (h : Has X.prog X.w X.K X.mg X.base x k ps sp) (hr : Room k X.A) (ha : PA X (e :: es) t) (hg : Gl X x := by rfl)
    (hdb : (x == ("__debug__" : Str)) = false := by decide)
    (he : starEach (e :: es) X.env = (false, eval e X.env) :: starEach es X.env := by rfl)
    (hpl : (backTo pos (starEach es X.env)).any (·.1) = false := by rfl) :
    PE X (.Call (.Name x p) (e :: es) [] pos) (tF sp t) := by
  obtain ⟨f, fd, F, hm, hk, hb⟩ := h
  have q := pe_call (X := X) (p := p) (pos := pos) F hr hg hm hk hb .nil (pass0 (X := X)) ha hdb he hpl
  refine ⟨fun pins s σ H Q I hq => q.run pins s σ H Q I ?_⟩
  show t σ H fun vs H1 => sp (vs ++ []) H1 Q E0
  simp only [List.append_nil]
  exact hq
theorem pe_hasG {x : Str} {k : Nat} {ps : List Str} {sp : Sp} {p pos : Pos} {e : Expr} {es : List Expr} {t : TA}
    (h : HasG X.prog X.w X.K X.mg X.base x k ps sp) (hgd : X.A.guards = some []) (hr : Room k X.A) (ha : PA X (e :: es) t) (hg : Gl X x := by rfl)
    (hdb : (x == ("__debug__" : Str)) = false := by decide)
    (he : starEach (e :: es) X.env = (false, eval e X.env) :: starEach es X.env := by rfl)
    (hpl : (backTo pos (starEach es X.env)).any (·.1) = false := by rfl) :
    PE X (.Call (.Name x p) (e :: es) [] pos) (tF sp t) := by
  obtain ⟨f, fd, F, hm, hk, hb⟩ := h
  refine ⟨fun pins s σ H Q I hq => ?_⟩
  apply wpAny_Call_Name_kw (ld_glob I hg hm ?_ hdb)
  apply PySem.W.callWith_K (h₀ := X.base) I.ok.mod.kin hk ?_ he hpl
  refine thn (ha.run pos pins s σ H _ I hq) fun us s1 ⟨vs, H1, I1, rel, hsp⟩ => ⟨I1.kIn, ?_⟩
  have hl : us.length = ps.length := by rw [← rel.length]; exact F.len _ _ _ _ hsp
  have bnd := hb s1 us I1.kIn (by rw [List.append_nil]; exact hl)
  rw [List.append_nil] at bnd
  refine wpAny_call (codeAny_mono (F.run X.A X.stack s1 H1 ⟨us, []⟩ us vs Q E0 hgd hr I1.env0 bnd rel hsp) fun r s' hc => ?_)
  cases r with
  | error er => exact ((pass0 (X := X)) pins σ H1 s1 er s' I1 hc)
  | ok fl =>
    cases fl with
    | ret u => exact I1.after hc
    | next => exact hc.elim
    | brk => exact hc.elim
    | cont => exact hc.elim

theorem PE.imp {e : Expr} {t t' : TE} (h : PE X e t) (hi : ∀ σ H Q, t' σ H Q → t σ H Q) : PE X e t' :=
  ⟨fun pins s σ H Q I hq => h.run pins s σ H Q I (hi σ H Q hq)⟩
theorem PT.imp {e : Expr} {t t' : TT} (h : PT X e t) (hi : ∀ σ H Q, t' σ H Q → t σ H Q) : PT X e t' :=
  ⟨fun pins s σ H Q I hq => h.run pins s σ H Q I (hi σ H Q hq)⟩
end


/-- the law's call, its def kept where no guard is under way -/
theorem law_callG {P : Program} {w : World} {K : PySem.W.Frag} {mg mb : Str → Option Value} {k : Nat} {fa a : Addr} {fd : FuncData} {x : Str} {sp : Sp} {s : Shared} {vs : List Value} {ns : List Int}
    (inK : K.In s.heap) (gl : s.heap.Ns mainGlobals mg) (bl : s.heap.Ns builtinsNs mb)
    (bb : ∀ y : Str, y ≠ "__name__" → mb y = bootBuiltins y) (nolim : s.heap.NoLimit) (gens : s.gens = #[])
    (obj : s.heap.get? a = some { cls := .type "list", data := .seq vs.toArray }) (ia : IntsAre vs ns) (short : ns.length ≤ sizeLine) (hrm : Room k callerA)
    (F : ∀ base : Heap, K.In base → base.Ns mainGlobals mg → FnG P w K mg base k fa fd [x] sp)
    (bind : ∀ (s : Shared) (u : Value), BindsTo s fd ⟨[u], []⟩ [(x, u)])
    (hsp : ∀ H : Hp, SqL K H a (ns.map V.int) → sp [.ref a] H (fun v _ => v = .bl true) fun _ _ _ => False) :
    codeAny (model P w) callerA (.call (.ref fa) ⟨[.ref a], []⟩)
      (fun r s' => r = .ok (.ret (.bool true)) ∧ OldK s.heap s'.heap ∧ s'.os = s.os ∧ AllBare s'.gens) s := by
  have vals := vals_ints ia
  have many := ia.length
  have main : ∀ H : Hp, Only H → SqL K H a (ns.map V.int) → HOk P w H s.heap → (∀ b, H b ≠ none → b = a) → (H a ≠ none → K.lookup a = none) →
      codeAny (model P w) callerA (.call (.ref fa) ⟨[.ref a], []⟩)
        (fun r s' => r = .ok (.ret (.bool true)) ∧ OldK s.heap s'.heap ∧ s'.os = s.os ∧ AllBare s'.gens) s := by
    intro H only script hok alone notK
    have dictFree : ∀ {b : Addr} {o : Obj} {es : Array DictEntry} {ep : Nat},
        s.heap.get? b = some o → o.data = .dict es ep → H b = none := by
      intro b o es ep e d
      cases q : H b with
      | none => rfl
      | some u =>
        have eb := alone b (by rw [q]; simp)
        subst eb
        rw [obj] at e
        cases e
        have d2 : Data.seq vs.toArray _ = Data.dict es ep := d
        cases d2
    have nsOf : ∀ {b : Addr} {m : Str → Option Value}, s.heap.Ns b m → (hidT s.heap H).Ns b m := by
      intro b m ⟨o, es, ep, e, d, r⟩
      exact ⟨o, es, ep, hidT_get e (dictFree e d), d, r⟩
    have inB : K.In (hidT s.heap H) := by
      intro b o e
      refine hidT_get (inK b o e) ?_
      cases q : H b with
      | none => rfl
      | some u =>
        have eb := alone b (by rw [q]; simp)
        subst eb
        have z := notK (by rw [q]; simp)
        rw [z] at e
        cases e
    have md : Mod K mg (hidT s.heap H) := by
      obtain ⟨mc, h1, h2⟩ := nolim
      exact ⟨inB, nsOf gl, ⟨mb, nsOf bl, bb⟩, ⟨mc, nsOf h1, h2⟩⟩
    have env0 : Env0 P w K mg (hidT s.heap H) callerA [] s H :=
      ⟨rfl, md, fun b o e => of_hidT e, Nat.le_of_eq (hidT_size _ _), trivial, fun b z => absurd (show b ∈ ([] : List Addr) from z) (by simp), hok, .of_eq gens⟩
    have run := (F _ inB (nsOf gl)).run callerA [] s H ⟨[.ref a], []⟩ [.ref a] [.ref a] _ _ rfl hrm env0 (bind s (.ref a)) (.cons rfl .nil) (hsp H script)
    refine codeAny_mono run fun r s' h => ?_
    cases r with
    | error e => exact h.elim
    | ok fl =>
      cases fl with
      | next => exact h.elim
      | brk => exact h.elim
      | cont => exact h.elim
      | ret u =>
        obtain ⟨v, H', os, bare, un, hok2, rel, q⟩ := h
        have q2 : v = .bl true := q
        subst q2
        obtain rfl : u = Value.bool true := rel
        refine ⟨rfl, OldK.of_keep fun b o e => ?_, os, bare⟩
        cases q : H b with
        | none =>
          have nn : b ∉ frs ([] : List Env) := fun z => absurd (show b ∈ ([] : List Addr) from z) (by simp)
          exact un.keep b o e q nn (by simp)
        | some u =>
          rcases only b with z | ⟨ob, xs, z⟩
          · rw [q] at z
            cases z
          · obtain ⟨e1, _⟩ := hok b _ z
            obtain ⟨e2, _⟩ := hok2 b _ (un.frzs b ob _ z)
            rw [e] at e1
            cases e1
            exact e2
  cases hk : K.lookup a with
  | some o =>
    have e := inK a o hk
    rw [obj] at e
    cases e
    refine main (fun _ => none) (fun _ => .inl rfl) (.inr ⟨_, vs.toArray, _, hk, rfl, rfl, rfl, ?_, ?_⟩) (fun b u z => ?_) (fun b z => absurd rfl z) fun z => absurd rfl z
    · rw [List.size_toArray, many]
      exact short
    · simpa using vals
    · have z2 : (none : Option HO) = some u := z
      cases z2
  | none =>
    refine main (fun b => if b = a then some (.frz { cls := .type "list", data := .seq vs.toArray } (.lst (ns.map V.int))) else none)
      (fun b => ?_) (.inl (.inr ⟨{ cls := .type "list", data := .seq vs.toArray }, if_pos rfl⟩)) (fun b u z => ?_) (fun b z => ?_) fun _ => hk
    · by_cases eb : b = a
      · exact .inr ⟨_, _, if_pos eb⟩
      · exact .inl (if_neg eb)
    · by_cases eb : b = a
      · have z2 := (if_pos eb).symm.trans z
        cases z2
        subst eb
        exact ⟨obj, by rw [List.length_map]; exact short, vs, _, vals, obj⟩
      · have z2 := (if_neg eb).symm.trans z
        cases z2
    · by_cases eb : b = a
      · exact eb
      · exact absurd (if_neg eb) z

/-- the goal behind the head -/
theorem walkG {l : PySem.W.OpenLaw} {n k : Nat} {q : Program} {loose : List Str} {XP : (Str → Option Value) → Heap → Prop} {YP : World → Heap → Prop} {d : DefRec} {K : Params → PySem.W.Frag} {sp : PySem.W.Frag → Sp} {x : Str}
    (hn : l.most = some n) (hn2 : n ≤ sizeLine) (hdf : d.params.defaults = []) (hrm : Room k callerA)
    (hY : ∀ (w : World) (h : Heap), YP w h → (K w.params).In h)
    (F : ∀ (w : World) (mg : Str → Option Value) (fa : Addr) (h : Heap), (K w.params).In h → h.Ns mainGlobals mg → mg d.name = some (.ref fa) →
      ∃ fd : FuncData, (∀ (s : Shared) (u : Value), BindsTo s fd ⟨[u], []⟩ [(x, u)]) ∧
        ∀ base : Heap, (K w.params).In base → base.Ns mainGlobals mg → FnG l.prog w (K w.params) mg base k fa fd [x] (sp (K w.params)))
    (hsp : ∀ (K : PySem.W.Frag) (H : Hp) (a : Addr) (ns : List Int), ns.length ≤ n → SqL K H a (ns.map V.int) → sp K [.ref a] H (fun v _ => v = .bl true) fun _ _ _ => False) :
    PySem.W.WalkO q loose XP YP l.row.toRowW d [] (fun f vs => PySem.call f vs) := by
  refine Att.attach_call hn hdf fun w s₀ s₁ mg mb fa o pm cd doc a vs ns G Y ho hd hcd hmg hobj hints hlen hg => ?_
  obtain ⟨fd, hb, hF⟩ := F w mg fa _ (hY w _ Y) G.T.g hmg
  exact law_callG (hY w _ Y) G.T.g G.T.b G.T.builtins G.T.nolimit hg hobj hints (Nat.le_trans hlen hn2) hrm hF hb fun H hS => hsp _ H a ns hlen hS

/-! enumerate of a tuple, sum of a tuple -/

/-- behind enumerate(t): the tuple's iterator, the enumerate object -/
def enumSt (s : Shared) (t : Addr) : Shared :=
  { s with heap := Heap.push (s.heap.push { cls := .type "tuple_iterator", data := .fields #[.ref t, .int 0 0] }) { cls := .type "enumerate", data := .fields #[.none, .bool false, .ref s.heap.objs.size, rawInt 0, .none, .none] } }
theorem meets_enumT (t : Addr) (items : Array Value) :
    Meets (Builtin.«enumerate.__new__» ⟨[.type "enumerate", .ref t], []⟩) (fun _ R s => s.heap.IsTuple t items ∧
      R (.ok (.ret (.ref (s.heap.push { cls := .type "tuple_iterator", data := .fields #[.ref t, .int 0 0] }).objs.size)))
        (enumSt s t)) :=
  .of_wp fun prog w A R s h => by
    obtain ⟨hp, g, d, tk, os⟩ := s
    obtain ⟨ht, h⟩ := h
    have sub := sub_enumerate
    have q1 : ∀ {A' : Around} {E : Value → Shared → Prop} {Q : Value → Shared → Prop},
        Q (.ref hp.objs.size) ⟨hp.push { cls := .type "tuple_iterator", data := .fields #[.ref t, .int 0 0] }, g, d, tk, os⟩ →
        wpAny (model prog w) A' (pyIter (.ref t)) Q E ⟨hp, g, d, tk, os⟩ :=
      fun q => wpAny_pyIter_tuple (s := ⟨hp, g, d, tk, os⟩) ht q
    wp_walk using q1
    refine wpAny_stack_any fun st => wpAny_pure ?_
    split
    · rename_i c _ _ _ _ _
      cases (c == Value.type "enumerate") <;> (wp_walk using q1; exact ⟨_, rfl, h⟩)
    · wp_walk using q1
      exact ⟨_, rfl, h⟩

section
variable {prog : Program} {w : World} {A : Around} {E : Value → Shared → Prop} {s : Shared}
theorem call_enumT {l : Addr} {items : Array Value} {Q : Value → Shared → Prop} (hL : s.heap.IsTuple l items)
    (h : ∀ h', IsEnum h' (s.heap.objs.size + 1) s.heap.objs.size 0 .none → h'.IsTupleIter s.heap.objs.size l 0 →
      (∀ b o, s.heap.get? b = some o → h'.get? b = some o) → Q (.ref (s.heap.objs.size + 1)) { s with heap := h' }) :
    wpAny (model prog w) A (call (.type "enumerate") [.ref l]) Q E s := by
  refine callType_new F.called_enumerate (by decide) (F.typeCall_enumerate_1 _) (F.newCall_enumerate_1 _)
    (fun obj => F.args_object_init_2 obj _) F.entry_enumerate_new (meets_enumT l items) ⟨hL, ?_⟩
  have sz : (s.heap.push { cls := .type "tuple_iterator", data := .fields #[.ref l, .int 0 0] }).objs.size = s.heap.objs.size + 1 := Heap.size_push ..
  show _ ∧ _
  rw [sz]
  have got := Heap.get?_push_size (s.heap.push { cls := .type "tuple_iterator", data := .fields #[.ref l, .int 0 0] })
    (o := { cls := .type "enumerate", data := .fields #[.none, .bool false, .ref s.heap.objs.size, rawInt 0, .none, .none] }) rfl
  rw [sz] at got
  have en : IsEnum ((s.heap.push { cls := .type "tuple_iterator", data := .fields #[.ref l, .int 0 0] }).push
      { cls := .type "enumerate", data := .fields #[.none, .bool false, .ref s.heap.objs.size, rawInt 0, .none, .none] })
      (s.heap.objs.size + 1) s.heap.objs.size 0 .none := got
  have itr : Heap.IsTupleIter ((s.heap.push { cls := .type "tuple_iterator", data := .fields #[.ref l, .int 0 0] }).push
      { cls := .type "enumerate", data := .fields #[.none, .bool false, .ref s.heap.objs.size, rawInt 0, .none, .none] }) s.heap.objs.size l 0 :=
    ⟨_, Heap.get?_push_of_some _ (Heap.get?_push_size _ rfl), rfl, rfl⟩
  exact ⟨⟨_, got, rfl⟩, h _ en itr fun b o x => Heap.get?_push_of_some _ (Heap.get?_push_of_some _ x)⟩
end

/-- the tuple at a, each item in a new pair with its place -/
def Iet (K : PySem.W.Frag) (a : Addr) : It :=
  ⟨fun i H => ∃ (xs : List V) (x : V), SqT K H a xs ∧ xs[i]? = some x,
   fun i H v H' => ∃ T x, v = .ref T ∧ H T = none ∧ H' = upd H T (.tup [.int (i : Nat), x]) ∧ ∀ xs, SqT K H a xs → xs[i]? = some x,
   fun i H => ∃ xs : List V, SqT K H a xs ∧ xs.length ≤ i⟩

theorem turn_enumT {P : Program} {w : World} {K : PySem.W.Frag} {elts : List Expr} {kk : Nat} {tpos : Pos} (a e it : Addr) :
    Turn P w K (.Tuple elts kk tpos) (Iet K a) [e, it] e (fun i h => (∃ old, IsEnum h e it ((i : Nat) : Int) old) ∧ h.IsTupleIter it a i ∧ e ≠ it) where
  mem := by simp
  obj := by
    intro i h st b hb
    obtain ⟨⟨old, he⟩, ⟨o, ho, hc, hd⟩, _⟩ := st
    have eb : b = e ∨ b = it := by simpa using hb
    cases eb with
    | inl z =>
      rw [z]
      exact ⟨_, he, fun v q => nomatch q⟩
    | inr z =>
      rw [z]
      refine ⟨o, ho, fun v q => ?_⟩
      rw [hd] at q
      cases q
  keep := fun i h h' st k =>
    let ⟨⟨old, he⟩, hi, hne⟩ := st
    ⟨⟨old, k e (by simp) _ he⟩, hi.at fun o q => k it (by simp) o q, hne⟩
  item := by
    intro X hP hw hK hc i pins s σ H E I hf st hg
    subst hP hw hK
    obtain ⟨⟨old, he⟩, hit, hne⟩ := st
    obtain ⟨xs, x, hq, hx⟩ := hg
    obtain ⟨its, rv, p, hz⟩ := I.tuple hq
    obtain ⟨u, hu, ru⟩ := rv.get hx
    have hel : e < s.heap.objs.size := Heap.lt_size he
    have hil : it < s.heap.objs.size := by
      obtain ⟨_, q, _⟩ := hit
      exact Heap.lt_size q
    have isT : s.heap.IsTuple a its.toArray := p
    have ane : a ≠ it := by
      intro z
      obtain ⟨o1, h1, c1, _⟩ := isT
      obtain ⟨o2, h2, c2, _⟩ := hit
      rw [z, h2] at h1
      cases h1
      rw [c1] at c2
      exact absurd c2 (by decide)
    have aee : e ≠ a := by
      intro z
      obtain ⟨o1, h1, c1, _⟩ := isT
      have h2 : s.heap.get? e = _ := he
      rw [z, h1] at h2
      have c2 : Value.type "tuple" = Value.type "enumerate" := c1.symm.trans (congrArg Obj.cls (Option.some.inj h2))
      exact absurd c2 (by decide)
    have D := Draws.tuple (prog := X.prog) (w := X.w) (A := X.A.in1) (I.ok.hd hc) it a ane its.toArray
    have hlt : i < its.toArray.size := by
      have := (List.getElem?_eq_some_iff.mp hu).1
      simpa using this
    refine wpAny_pyNext_enum_itemD D he ⟨hit, isT⟩ hlt hne (by simp [hne, aee]) fun x' h' tk hP ho hst' hT hsz hk => ?_
    have ex : x' = u := by
      have z : its.toArray[i]? = some x' := hP
      rw [List.getElem?_toArray, hu] at z
      cases z
      rfl
    subst ex
    refine ⟨_, rfl, wpAny_letOwnedTupleGo_enum (s := { s with heap := h', toks := tk + 1 }) ho fun h'' he' sb => ?_⟩
    have hT2 : h''.get? s.heap.objs.size = some { cls := .type "tuple", data := .seq #[.int i tk, x'] } := (sb.2 _ (Nat.ne_of_gt hel)).trans hT
    have new : ObjOk X.prog X.w (upd H s.heap.objs.size (.tup [.int (i : Nat), x])) h'' s.heap.objs.size (.tup [.int (i : Nat), x]) := by
      refine ⟨by show 2 ≤ sizeLine; decide, [.int i tk, x'], ?_, ⟨_, hT2, rfl, _, rfl⟩⟩
      exact .cons ⟨_, rfl⟩ (.cons ru .nil)
    have I1 : Inv X pins σ (upd H s.heap.objs.size (.tup [.int (i : Nat), x])) { s with heap := h'', toks := tk + 1 } := by
      refine I.turnedNew (ch := [e, it]) (fun b ob hb q => ?_) hf (Nat.le_refl _) new
      have b1 : b ≠ e := fun z => hb (by simp [z])
      have b2 : b ≠ it := fun z => hb (by simp [z])
      exact (sb.2 b b1).trans (hk b ob b1 b2 q)
    refine ⟨.ref s.heap.objs.size, _, I1, rfl, ⟨_, x, rfl, I.hok.fresh (Nat.le_refl _), rfl, fun ys hy => ?_⟩, ⟨⟨x', ?_⟩, ?_, hne⟩, fun b hb => ?_⟩
    · rw [I.tuple_inj hy hq]
      exact hx
    · have e1 : ((i + 1 : Nat) : Int) = (i : Int) + 1 := by omega
      rw [e1]
      exact he'
    · exact hst'.1.at fun o q => (sb.2 it (Ne.symm hne)).trans q
    · have small : b < s.heap.objs.size := by
        have eb : b = e ∨ b = it := by simpa using hb
        cases eb with
        | inl z => rw [z]; exact hel
        | inr z => rw [z]; exact hil
      rw [upd_ne (Nat.ne_of_lt small)]
      exact (hf b hb).1
  done := by
    intro X hP hw hK hc i pins s σ H E I hf st hg
    subst hP hw hK
    obtain ⟨⟨old, he⟩, hit, hne⟩ := st
    obtain ⟨xs, hq, hx⟩ := hg
    obtain ⟨its, rv, p, hz⟩ := I.tuple hq
    obtain ⟨f0, f1, f2, f3, f4, f5⟩ := hf it (by simp)
    have isT : s.heap.IsTuple a its.toArray := p
    have hl := rv.length
    -- past the end the iterator's place does not matter: i is at least the length
    have hd : wpAny (model X.prog X.w) X.A (pyNext (.ref e)) (fun r s1 => r = none ∧ Inv X pins σ H s1) E s := by
      have hT : s.TypeIs (.ref e) "enumerate" := ⟨_, he, rfl⟩
      unfold pyNext
      refine wpAny_bind (wpAny_attempt (wpAny_callSpecial?_slot (name := Str.ofString "__next__") hT F.slot_enumerate_next
        (wpAny_call_entry F.slot_enumerate_next hT F.entry_enumerate_next ?_ (F.args_enumerate_next_1 _))))
      show wpAny _ _ (field (.ref e) 2 >>= _) _ _ _
      refine wpAny_bind (wpAny_field he rfl (x := .ref it) rfl ?_)
      refine wpAny_bind (wpAny_nextOf_tuple_end (I.ok.hd hc) hit isT (by simp; omega) fun h' x eb hx' => ?_)
      obtain ⟨o, ho, hcl⟩ := hx'
      refine wpAny_bind (wpAny_isInstance (T := "StopIteration") (b := true) ⟨o, ho, hcl⟩ isSubtype_stop ?_)
      exact wpAny_pure ⟨rfl, I.turned (t' := s.toks) (fun b o hb q => eb b o hb q) f0 f1 f3 f4 f5⟩
    exact hd
  self := fun A i s Q E st h => let ⟨⟨_, he⟩, _⟩ := st; wpAny_pyIter_enum he h

def iEnumT (K : PySem.W.Frag) (ta : TA) : TI := fun σ H R => ta σ H fun vs H1 => ∃ a xs, vs = [.ref a] ∧ SqT K H1 a xs ∧ R (Iet K a) H1
theorem pi_enumT {X : Cx} {e : Expr} {ta : TA} {p pos tpos : Pos} {elts : List Expr} {kk : Nat} (hg : Gl X "enumerate") (hm : X.mg "enumerate" = none) (ha : PA X [e] ta)
    (hs : starEach [e] X.env = [(false, eval e X.env)] := by rfl) :
    PI X (.Tuple elts kk tpos) (.Call (.Name "enumerate" p) [e] [] pos) (iEnumT X.K ta) := by
  refine ⟨fun pins s σ H R I h => ?_⟩
  refine Call_ (ld_blt I hg hm boot_enumerate ?_)
  refine PyProof.Rows.callWith_type1 (thn (ha.run pos pins s σ H _ I h) fun us s1 ⟨vs, H1, I1, r1, q1⟩ => ?_) hs rfl
  obtain ⟨a, xs, ex, hq, q⟩ := q1
  subst ex
  have eu := Vals.ref1 r1
  subst eu
  obtain ⟨its, rv, p', hz⟩ := I1.tuple hq
  refine call_enumT (show s1.heap.IsTuple a its.toArray from p') fun h' he hit hk => wpAny_pyIter_enum he ?_
  have I2 : Inv X pins σ H1 { s1 with heap := h' } := I1.kept (t' := s1.toks) hk
  refine ⟨s1.heap.objs.size + 1, [s1.heap.objs.size + 1, s1.heap.objs.size], _, _, H1, rfl, I2,
    turn_enumT a (s1.heap.objs.size + 1) s1.heap.objs.size, ⟨⟨.none, he⟩, hit, Nat.succ_ne_self _⟩, fun b hb => ?_, q⟩
  have eb : b = s1.heap.objs.size + 1 ∨ b = s1.heap.objs.size := by simpa using hb
  have hle : s1.heap.objs.size ≤ b := by
    cases eb with
    | inl z => rw [z]; exact Nat.le_add_right _ _
    | inr z => rw [z]; exact Nat.le_refl _
  exact I1.fpOk hle (I1.hok.fresh hle)
theorem walk_enumT {K : PySem.W.Frag} {a : Addr} {xs : List V} :
    Walk (Iet K a) xs.length (fun H => SqT K H a xs) (YPair (fun i => some (.int (i : Nat))) (fun i => xs[i]?)) := by
  refine ⟨fun i _ hi q => ⟨xs, xs[i], q, by simp [hi]⟩, fun _ q => ⟨xs, q, Nat.le_refl _⟩, fun i H v H' _ q y => ?_⟩
  obtain ⟨T, x, h1, h2, h3, h4⟩ := y
  exact ⟨T, .int (i : Nat), x, h1, h2, h3, rfl, h4 xs q⟩

section
variable {X : Cx}
def rSumN (K : PySem.W.Frag) : List V → Hp → VK → Prop := fun vs H Q => ∃ (a : Addr) (ns : List Int), vs = [V.ref a] ∧ (SqL K H a (ns.map V.int) ∨ SqT K H a (ns.map V.int)) ∧ Q (.int ns.sum) H
theorem cr_sumN (hc : X.calm = true) : CallR X (.builtin "sum") (rSumN X.K) := by
  intro pins s σ H vs us Q I r h
  obtain ⟨a, ns, rfl, hs, q⟩ := h
  cases hs with
  | inl hs => exact cr_sum hc pins s σ H _ us Q I r ⟨a, ns, rfl, hs, q⟩
  | inr hs =>
    obtain ⟨its, rv, hl, _⟩ := I.tuple hs
    have isT : s.heap.IsTuple a its.toArray := hl
    rw [Vals.ref1 r]
    have hi := rv.ints
    obtain ⟨xs, e⟩ := hi.allInts.items
    have hn : numsOf (intItems xs).toList = ns := by
      rw [← e]
      exact hi.numsOf
    rw [nums_intItems] at hn
    rw [e] at isT
    refine PySem.W.ktm_sumG (I.ok.hd hc) isT fun h' tk t' hk => ⟨.int ns.sum, H, I.kept hk, ?_, q⟩
    refine ⟨t', ?_⟩
    rw [preSum_eq, List.take_of_length_le (by simp), hn]
end

/-! heaps that grow; rules whose readings say it -/

/-! ### relations of heaps -/
def Ex (H H' : Hp) : Prop := ∀ a o, H a = some o → H' a = some o
/-- all but lists are kept -/
def Kp (H H' : Hp) : Prop := ∀ a o, H a = some o → (∀ xs, o ≠ .lst xs) → H' a = some o
theorem Ex.refl (H : Hp) : Ex H H := fun _ _ h => h
theorem Ex.trans {H H1 H2 : Hp} (a : Ex H H1) (b : Ex H1 H2) : Ex H H2 := fun x o h => b x o (a x o h)
theorem Ex.new {H : Hp} {p : Addr} {o : HO} (h : H p = none) : Ex H (upd H p o) := fun a u e => by
  rw [upd_ne (ne_of_none e h)]
  exact e
theorem Ex.kp {H H' : Hp} (e : Ex H H') : Kp H H' := fun a o h _ => e a o h
theorem Ex.free {H H' : Hp} (e : Ex H H') {l : Addr} (h : H' l = none) : H l = none := by
  cases q : H l with
  | none => rfl
  | some o =>
    rw [e l o q] at h
    cases h
theorem Kp.refl (H : Hp) : Kp H H := fun _ _ h _ => h
theorem Kp.trans {H H1 H2 : Hp} (a : Kp H H1) (b : Kp H1 H2) : Kp H H2 := fun x o h n => b x o (a x o h n) n

/-- the draws' list: a figure, a seed, a counter -/
def VatAt (H : Hp) (v : Addr) : Prop := ∃ a b c : Int, H v = some (.lst [.int a, .int b, .int c]) ∧ 0 ≤ a ∧ 0 ≤ b ∧ b < 2147483323 ∧ 0 ≤ c
/-- what calls that draw leave -/
structure Gv (v : Addr) (H H' : Hp) : Prop where
  old : VatAt H v
  keep : ∀ a o, a ≠ v → H a = some o → H' a = some o
  new : VatAt H' v
theorem VatAt.ex {H H' : Hp} {v : Addr} (h : VatAt H v) (e : Ex H H') : VatAt H' v := by
  obtain ⟨a, b, c, h1, h2⟩ := h
  exact ⟨a, b, c, e _ _ h1, h2⟩
theorem Gv.kp {v : Addr} {H H' : Hp} (g : Gv v H H') : Kp H H' := fun a o h n => by
  refine g.keep a o (fun z => ?_) h
  obtain ⟨x, y, w, h1, _⟩ := g.old
  rw [z, h1] at h
  exact n _ (Option.some.inj h).symm
theorem Gv.of {v : Addr} {H H' : Hp} (h : VatAt H v) (e : Ex H H') : Gv v H H' := ⟨h, fun a o _ q => e a o q, h.ex e⟩
theorem Gv.refl {v : Addr} {H : Hp} (h : VatAt H v) : Gv v H H := Gv.of h (Ex.refl H)
theorem Gv.trans {v : Addr} {H H1 H2 : Hp} (a : Gv v H H1) (b : Gv v H1 H2) : Gv v H H2 :=
  ⟨a.old, fun x o n h => b.keep x o n (a.keep x o n h), b.new⟩
theorem Gv.ex {v : Addr} {H H1 H2 : Hp} (a : Gv v H H1) (b : Ex H1 H2) : Gv v H H2 := a.trans (Gv.of a.new b)
/-- where the list is new nothing old is changed -/
theorem Gv.out {v : Addr} {H H1 H2 : Hp} (n : H v = none) (e : Ex H H1) (g : Gv v H1 H2) : Ex H H2 := fun a o h =>
  g.keep a o (fun z => by rw [z, n] at h; cases h) (e a o h)
theorem Gv.lst {v l : Addr} {H H' : Hp} {xs : List V} (g : Gv v H H') (n : l ≠ v) (h : H l = some (.lst xs)) : H' l = some (.lst xs) := g.keep l _ n h

theorem sqT_kp {K : PySem.W.Frag} {H H' : Hp} {a : Addr} {xs : List V} (h : SqT K H a xs) (e : Kp H H') : SqT K H' a xs := by
  rcases h with (h | ⟨o, h⟩) | h
  · exact .inl (.inl (e _ _ h (fun _ z => nomatch z)))
  · exact .inl (.inr ⟨o, e _ _ h (fun _ z => nomatch z)⟩)
  · exact .inr h
theorem sqL_ex {K : PySem.W.Frag} {H H' : Hp} {a : Addr} {xs : List V} (h : SqL K H a xs) (e : Ex H H') : SqL K H' a xs := by
  rcases h with (h | ⟨o, h⟩) | h
  · exact .inl (.inl (e _ _ h))
  · exact .inl (.inr ⟨o, e _ _ h⟩)
  · exact .inr h

/-! ### new objects, told by what they hold -/
section
variable {X : Cx} {f : Value} {g : Value → Value → Sem Value}
theorem CallR.imp {r r' : List V → Hp → VK → Prop} (h : CallR X f r) (hi : ∀ vs H Q, r' vs H Q → r vs H Q) : CallR X f r' :=
  fun pins s σ H xs us Q I rel q => h pins s σ H xs us Q I rel (hi _ _ _ q)
theorem OpR.imp {r r' : R2} (h : OpR X g r) (hi : ∀ x y H Q, r' x y H Q → r x y H Q) : OpR X g r' :=
  fun pins s σ H x y v u Q I rx ry q => h pins s σ H x y v u Q I rx ry (hi _ _ _ _ q)
theorem SlR.imp {r r' : V → Option Int → Option Int → Hp → VK → Prop} (h : SlR X r) (hi : ∀ x lo hi H Q, r' x lo hi H Q → r x lo hi H Q) : SlR X r' :=
  fun pins s σ H x v vl vu lo hi' sl Q I rx hs pl pu q => h pins s σ H x v vl vu lo hi' sl Q I rx hs pl pu (hi _ _ _ _ _ q)

/-- a new object o, all else as it was -/
def New (H : Hp) (o : HO) (Q : VK) : Prop := ∀ p H', H p = none → Ex H H' → H' p = some o → Q (.ref p) H'
theorem New.at {H : Hp} {o : HO} {Q : VK} (h : New H o Q) : ∀ p, H p = none → Q (.ref p) (upd H p o) :=
  fun p n => h p _ n (Ex.new n) upd_same

def nLst (t : TA) : TE := fun σ H Q => t σ H fun xs H1 => xs.length ≤ sizeLine ∧ New H1 (.lst xs) Q
def nTup (t : TA) : TE := fun σ H Q => t σ H fun xs H1 => xs.length ≤ sizeLine ∧ New H1 (.tup xs) Q
end
section
variable {X : Cx} {es : List Expr} {t : TA} {pos : Pos}
/-- a reading closed under what follows from the wanted -/
def tm (t : TA) : TA := fun σ H R => ∃ R0 : List V → Hp → Prop, t σ H R0 ∧ ∀ vs H', R0 vs H' → R vs H'
theorem PA.mon (h : PA X es t) : PA X es (tm t) := by
  refine ⟨fun pos pins s σ H R I ⟨R0, h0, hi⟩ => thn (h.run pos pins s σ H R0 I h0) fun us s' q => ?_⟩
  obtain ⟨vs, H', I', rel, z⟩ := q
  exact ⟨vs, H', I', rel, hi vs H' z⟩
theorem pe_lstN (h : PA X es t) : PE X (.List es pos) (nLst t) :=
  ⟨fun pins s σ H Q I hq => (pe_lst (PA.mon h)).run pins s σ H Q I ⟨_, hq, fun vs H' ⟨z, n⟩ => ⟨z, n.at⟩⟩⟩
theorem pe_tupN {k : Nat} (h : PA X es t) : PE X (.Tuple es k pos) (nTup t) :=
  ⟨fun pins s σ H Q I hq => (pe_tup (PA.mon h)).run pins s σ H Q I ⟨_, hq, fun vs H' ⟨z, n⟩ => ⟨z, n.at⟩⟩⟩

/-- tuple(x) of a list, of a tuple -/
def rTupleN (K : PySem.W.Frag) : List V → Hp → VK → Prop := fun vs H Q => ∃ p ys, vs = [.ref p] ∧ SqL K H p ys ∧ New H (.tup ys) Q
theorem call_tupleN : CallR X (.type "tuple") (rTupleN X.K) :=
  CallR.imp call_tuple_of fun vs H Q ⟨p, ys, e, h, n⟩ => ⟨p, ys, e, .inl ⟨h, n.at⟩⟩
def rListN (K : PySem.W.Frag) : List V → Hp → VK → Prop := fun vs H Q => ∃ p ys, vs = [.ref p] ∧ (SqL K H p ys ∨ SqT K H p ys) ∧ New H (.lst ys) Q
theorem call_list_ofN : CallR X (.type "list") (rListN X.K) :=
  CallR.imp call_list_of fun vs H Q ⟨p, ys, e, h, n⟩ => ⟨p, ys, e, h, n.at⟩
/-- divmod by a positive number below 2 ^ 9000 -/
def rDivmodN : List V → Hp → VK → Prop := fun vs H Q => ∃ i j, vs = [.int i, .int j] ∧ 0 < j ∧ j.natAbs.log2 < 9000 ∧ New H (.tup [.int (i / j), .int (i % j)]) Q
theorem call_divmodN : CallR X (.builtin "divmod") rDivmodN :=
  CallR.imp call_divmodW fun vs H Q ⟨i, j, e, h0, h1, n⟩ => ⟨i, j, e, ⟨h0, PyProof.noPylong_of_log2 h1⟩, n.at⟩
/-- xs + ys, two lists that may be written -/
def rCatN : R2 := fun x y H Q => ∃ l b xs zs, x = .ref l ∧ y = .ref b ∧ H l = some (.lst xs) ∧ H b = some (.lst zs) ∧ xs.length + zs.length ≤ sizeLine ∧ New H (.lst (xs ++ zs)) Q
theorem op_catN : OpR X (binaryOp .Add) rCatN :=
  OpR.imp op_cat fun x y H Q ⟨l, b, xs, zs, e1, e2, h1, h2, z, n⟩ => ⟨l, b, xs, zs, e1, e2, h1, h2, z, n.at⟩
def rRepN : R2 := fun x y H Q => ∃ l k xs, x = .ref l ∧ y = .int k ∧ H l = some (.lst xs) ∧ 0 ≤ k ∧ k < 2 ^ 63 ∧ xs.length * k.toNat ≤ sizeLine ∧ New H (.lst (List.replicate k.toNat xs).flatten) Q
theorem op_repN : OpR X (binaryOp .Mult) rRepN :=
  OpR.imp op_rep fun x y H Q ⟨l, k, xs, e1, e2, h1, h2, h3, z, n⟩ => ⟨l, k, xs, e1, e2, h1, by omega, h3, z, n.at⟩
def rSlN (K : PySem.W.Frag) : V → Option Int → Option Int → Hp → VK → Prop := fun x lo hi H Q => ∃ a xs, x = .ref a ∧ SqL K H a xs ∧ New H (.lst (cutV xs lo hi)) Q
theorem sl_listN : SlR X (rSlN X.K) := SlR.imp sl_list fun x lo hi H Q ⟨a, xs, e, h, n⟩ => ⟨a, xs, e, h, n.at⟩
end

/-! ### data -/
/-- v tells d in H -/
abbrev Is (K : PySem.W.Frag) (H : Hp) (v : V) (d : PyData) : Prop := Dp K H v d
mutual
theorem dp_kp {K : PySem.W.Frag} {H H' : Hp} (e : Ex H H') : ∀ (d : PyData) (v : V), Dp K H v d → Dp K H' v d
  | .none, _, h => by cases h; exact .non
  | .bool _, _, h => by cases h; exact .bl _
  | .int _, _, h => by cases h; exact .int _
  | .str _, _, h => by cases h; exact .str _
  | .list ds, _, h => by
    cases h with
    | lst hs ha => exact .lst (sqL_ex hs e) (dpAll_kp e ds _ ha)
  | .tuple ds, _, h => by
    cases h with
    | tup hs ha => exact .tup (sqT_kp hs e.kp) (dpAll_kp e ds _ ha)
  | .dict _, _, h => by cases h
theorem dpAll_kp {K : PySem.W.Frag} {H H' : Hp} (e : Ex H H') : ∀ (ds : List PyData) (vs : List V), DpAll K H vs ds → DpAll K H' vs ds
  | [], _, h => by cases h; exact .nil
  | d :: ds, _, h => by
    cases h with
    | cons h1 h2 => exact .cons (dp_kp e d _ h1) (dpAll_kp e ds _ h2)
end
theorem dp_ints {K : PySem.W.Frag} {H : Hp} : ∀ ns : List Int, DpAll K H (ns.map V.int) (ns.map PyData.int)
  | [] => .nil
  | _ :: ns => .cons (.int _) (dp_ints ns)
/-- data without lists is kept by all that keeps tuples -/
def noList : PyData → Bool
  | .list _ => false
  | .tuple ds => noLists ds
  | _ => true
where noLists : List PyData → Bool
  | [] => true
  | d :: ds => noList d && noLists ds
mutual
theorem dp_keep {K : PySem.W.Frag} {H H' : Hp} (e : Kp H H') : ∀ (d : PyData) (v : V), noList d = true → Dp K H v d → Dp K H' v d
  | .none, _, _, h => by cases h; exact .non
  | .bool _, _, _, h => by cases h; exact .bl _
  | .int _, _, _, h => by cases h; exact .int _
  | .str _, _, _, h => by cases h; exact .str _
  | .list ds, _, n, _ => by simp [noList] at n
  | .tuple ds, _, n, h => by
    cases h with
    | tup hs ha => exact .tup (sqT_kp hs e) (dpAll_keep e ds _ (by simpa [noList] using n) ha)
  | .dict _, _, _, h => by cases h
theorem dpAll_keep {K : PySem.W.Frag} {H H' : Hp} (e : Kp H H') : ∀ (ds : List PyData) (vs : List V), noList.noLists ds = true → DpAll K H vs ds → DpAll K H' vs ds
  | [], _, _, h => by cases h; exact .nil
  | d :: ds, _, n, h => by
    cases h with
    | cons h1 h2 =>
      simp only [noList.noLists, Bool.and_eq_true] at n
      exact .cons (dp_keep e d _ n.1 h1) (dpAll_keep e ds _ n.2 h2)
end

section
variable {X : Cx}
/-- != of two that tell one and the same -/
def rNeN (K : PySem.W.Frag) : R2 := fun x y H Q => ∃ d, Dp K H x d ∧ Dp K H y d ∧ SeqAt.shaped d = true ∧ Q (.bl false) H
theorem op_neDN (hu : X.A.units + 64 < cLine) : OpR X (compareOp .NotEq) (rNeN X.K) :=
  OpR.imp (op_neD hu) fun x y H Q ⟨d, h1, h2, z, q⟩ => ⟨d, d, h1, h2, z, z, by rw [SeqAt.eqv_refl _ (SeqAt.canLay_of_shaped z)]; exact q⟩
def rEqN (K : PySem.W.Frag) : R2 := fun x y H Q => ∃ d, Dp K H x d ∧ Dp K H y d ∧ SeqAt.shaped d = true ∧ Q (.bl true) H
theorem op_eqDN (hu : X.A.units + 64 < cLine) : OpR X (compareOp .Eq) (rEqN X.K) :=
  OpR.imp (op_eqD hu) fun x y H Q ⟨d, h1, h2, z, q⟩ => ⟨d, d, h1, h2, z, z, by rw [SeqAt.eqv_refl _ (SeqAt.canLay_of_shaped z)]; exact q⟩
end

/-! ### repr -/
mutual
def costD : PyData → Nat
  | .none => 4
  | .bool _ => 5
  | .int _ => 1930
  | .str x => (reprText x).length
  | .list ds => costs ds + 3
  | .tuple ds => costs ds + 3
  | .dict _ => 0
def costs : List PyData → Nat
  | [] => 0
  | d :: ds => costD d + 2 + costs ds
end
theorem listText_len : ∀ ts : List Str, (listText ts).length ≤ piled ts + 2
  | [] => by decide +kernel
  | t :: r => by
    have e1 : ("[" : Str).length = 1 := rfl
    have e2 : ("]" : Str).length = 1 := rfl
    have e3 : ("" : Str).length = 0 := rfl
    unfold listText
    rw [strLen_append]
    show (textFrom (0 + 1) (("[" : Str) ++ (if (0 : Nat) > 0 then ", " else "" : String) ++ t) r).length + _ ≤ _
    rw [textFrom_length_pos _ _ _ (Nat.succ_pos 0), if_neg (by decide), strLen_append, strLen_append, e1, e2, piled_cons]
    show 1 + ("" : Str).length + t.length + piled r + 1 ≤ _
    rw [e3]
    omega
theorem tupleText_len (ts : List Str) : (tupleText ts).length ≤ piled ts + 3 := by
  have e3 : (((if ts.length == 1 then ",)" else ")" : String) : Str)).length ≤ 2 := by split <;> decide +kernel
  have e1 : ("(" : Str).length = 1 := rfl
  unfold tupleText
  rw [strLen_append, strLen_append, e1]
  by_cases h : ts = []
  · subst h
    decide +kernel
  · have := join_length_add ts h
    omega
mutual
theorem shown_cost : ∀ d : PyData, d.showable = true → d.hasDict = false → d.shown.length ≤ costD d
  | .none, _, _ => by decide +kernel
  | .bool b, _, _ => by cases b <;> decide +kernel
  | .int i, h, _ => by
    have h1 : i.natAbs.log2 < 1920 := by simpa [PyData.showable] using h
    have h2 := int_text_length_le (k := 1920) (by decide) h1
    show (Str.ofString (toString i)).length ≤ 1930
    rw [PySem.ofString_length]
    omega
  | .str x, _, _ => Nat.le_refl _
  | .list ds, h, n => by
    have q := showns_cost ds (by simpa [PyData.showable] using h) (by simpa [PyData.hasDict] using n)
    have q2 := listText_len (PyData.shownAll ds)
    show (listText (PyData.shownAll ds)).length ≤ costs ds + 3
    omega
  | .tuple ds, h, n => by
    have q := showns_cost ds (by simpa [PyData.showable] using h) (by simpa [PyData.hasDict] using n)
    have q2 := tupleText_len (PyData.shownAll ds)
    show (tupleText (PyData.shownAll ds)).length ≤ costs ds + 3
    omega
  | .dict _, _, n => by simp [PyData.hasDict] at n
theorem showns_cost : ∀ ds : List PyData, PyData.showableAll ds = true → PyData.hasDictAll ds = false → piled (PyData.shownAll ds) ≤ costs ds
  | [], _, _ => Nat.le_refl _
  | d :: ds, h, n => by
    simp only [PyData.showableAll, Bool.and_eq_true] at h
    simp only [PyData.hasDictAll, Bool.or_eq_false_iff] at n
    have q1 := shown_cost d h.1 n.1
    have q2 := showns_cost ds h.2 n.2
    show piled (d.shown :: PyData.shownAll ds) ≤ costD d + 2 + costs ds
    rw [piled_cons]
    omega
end
section
variable {X : Cx}
/-- repr of data that is a list or a tuple -/
def rRepr (K : PySem.W.Frag) : List V → Hp → VK → Prop := fun vs H Q => ∃ a d, vs = [V.ref a] ∧ Dp K H (.ref a) d ∧ d.showable = true ∧ d.hasDict = false ∧ d.depth ≤ 20 ∧ costD d ≤ sizeLine ∧ Q (.str d.shown) H
theorem cr_repr (hg : X.A.guards = some []) (hu : X.A.units + 64 < cLine) : CallR X (.builtin "repr") (rRepr X.K) := by
  intro pins s σ H vs us Q I r h
  obtain ⟨a, d, rfl, hd, h1, h2, h3, h4, q⟩ := h
  obtain ⟨as, rd⟩ := Dp.reads I d (.ref a) (.ref a) hd rfl
  rw [Vals.ref1 r]
  have sz := shown_cost d h1 h2
  refine repr_of_reads' rd h1 (fun z => ?_) hg (by omega) (fun _ _ e => e) (fun h' u tk hk => ⟨.str d.shown, H, I.kept hk, ⟨u, rfl⟩, q⟩) (by omega)
  rw [h2] at z
  cases z
end

/-! readings run by rewriting -/

def LoopW (J : It) (g : TG) (tb : TS) (D : Ends) (σ : L2.St) (H1 : Hp) : Prop :=
  ∃ W : Nat → Nat → L2.St → Hp → Prop, (∃ m, W 0 m σ H1) ∧ ∀ (i m : Nat) (σ : L2.St) (H : Hp), W i m σ H →
    (J.stop i H ∧ D.nx σ H) ∨ (J.go i H ∧ ∃ N : L2.St → Hp → Prop, (∀ (σ' : L2.St) (H' : Hp), N σ' H' → ∃ m', m' < m ∧ W (i + 1) m' σ' H') ∧
      ∀ (x : V) (H' : Hp), J.yld i H x H' → g x σ H' fun σ2 H2 => tb { nx := N, rt := D.rt, bk := D.nx, ct := N } σ2 H2)
def LcW (J : It) (g : TG) (tt : TT) (te : TE) (vs : List Nat) (σ : L2.St) (H1 : Hp) (D : Addr) (Q : VK) : Prop :=
  ∃ W : Nat → Nat → Hp → Prop, (∃ m, W 0 m (upd H1 D (.lst []))) ∧ ∀ (i m : Nat) (H : Hp), W i m H →
    (J.stop i H ∧ Q (V.ref D) H) ∨ (J.go i H ∧ ∃ Nx : Hp → Prop, (∀ (H' : Hp), Nx H' → ∃ m', m' < m ∧ W (i + 1) m' H') ∧
      ∀ (x : V) (H' : Hp), J.yld i H x H' → g x (wipe σ vs) H' fun σ2 H2 => wipe σ2 vs = wipe σ vs ∧ tt σ2 H2 fun b H3 =>
        if b = true then te σ2 H3 fun y H4 => ∃ acc, H4 D = some (.lst acc) ∧ acc.length < sizeLine ∧ Nx (upd H4 D (.lst (acc ++ [y]))) else Nx H3)
section
variable {X : Cx}
def tmE (t : TE) : TE := fun σ H R => ∃ R0 : VK, t σ H R0 ∧ ∀ v H', R0 v H' → R v H'
theorem PE.mon {e : Expr} {t : TE} (h : PE X e t) : PE X e (tmE t) := by
  refine ⟨fun pins s σ H R I ⟨R0, h0, hi⟩ => thn (h.run pins s σ H R0 I h0) fun u s' q => ?_⟩
  obtain ⟨v, H', I', rel, z⟩ := q
  exact ⟨v, H', I', rel, hi v H' z⟩
def tmT (t : TT) : TT := fun σ H R => ∃ R0 : Bool → Hp → Prop, t σ H R0 ∧ ∀ v H', R0 v H' → R v H'
theorem PT.mon {e : Expr} {t : TT} (h : PT X e t) : PT X e (tmT t) := by
  refine ⟨fun pins s σ H R I ⟨R0, h0, hi⟩ => thn (h.run pins s σ H R0 I h0) fun u s' q => ?_⟩
  obtain ⟨H', I', z⟩ := q
  exact ⟨H', I', hi u H' z⟩
def tCut (t u : TS) : TS := fun D σ H => ∃ Mid : L2.St → Hp → Prop, t { nx := Mid, rt := D.rt, bk := D.bk, ct := D.ct } σ H ∧ ∀ σ' H', Mid σ' H' → u D σ' H'
theorem pss_cut {st : Stmt} {rest : List Stmt} {t u : TS} (h1 : PS X st t) (h2 : PSs X rest u) : PSs X (st :: rest) (tCut t u) := by
  refine ⟨fun pins s σ H D I ⟨Mid, hm, hu⟩ => ?_⟩
  refine wpAny_execs_cons (thn (h1.run pins s σ H { nx := Mid, rt := D.rt, bk := D.bk, ct := D.ct } I hm) fun fl s1 q => ?_)
  cases fl with
  | next =>
    obtain ⟨σ', H', I', z⟩ := q
    exact h2.run pins s1 σ' H' D I' (hu σ' H' z)
  | ret v => exact q
  | brk => exact q
  | cont => exact q
end
section
variable {t u : TS} {D : Ends} {σ : L2.St} {H : Hp} {te ta tb tc : TE} {g : TG} {Q : VK} {tt tu : TT} {K : PySem.W.Frag} {wi : TI} {tx tr : TA} {to th : TO} {R : Bool → Hp → Prop}
theorem r_seq : tSeq t u D σ H = t { nx := u D, rt := D.rt, bk := D.bk, ct := D.ct } σ H := rfl
theorem r_asg : tAsg te g D σ H = te σ H fun x H1 => g x σ H1 D.nx := rfl
theorem r_name {i : Nat} {v : V} {S : L2.St → Hp → Prop} : gName i v σ H S = S (σ.set i (some v)) H := rfl
theorem r_ifS : tIfS tt t u D σ H = tt σ H fun b H1 => if b = true then t D σ H1 else u D σ H1 := rfl
theorem r_next : tNext D σ H = D.nx σ H := rfl
theorem r_ret : tRet te D σ H = te σ H D.rt := rfl
theorem r_retN : tRetN D σ H = D.rt V.non H := rfl
theorem r_drop : tDrop te D σ H = te σ H fun _ H1 => D.nx σ H1 := rfl
theorem r_test : tTest te σ H R = te σ H fun x H1 => ∃ k, x = V.bl k ∧ R k H1 := rfl
theorem r_B : tB te σ H R = te σ H fun x H1 => ∃ k, x = V.bl k ∧ R k H1 := rfl
theorem r_if : tIf tt ta tb σ H Q = tt σ H fun c H1 => if c = true then ta σ H1 Q else tb σ H1 Q := rfl
theorem r_cons {S : List V → Hp → Prop} : tCons ta tx σ H S = ta σ H fun x H1 => tx σ H1 fun xs H2 => S (x :: xs) H2 := rfl
theorem r_nil {S : List V → Hp → Prop} : tNil σ H S = S [] H := rfl
theorem r_cb {r : List V → Hp → VK → Prop} : tCB r tx σ H Q = tx σ H fun vs H1 => r vs H1 Q := rfl
theorem r_tF {sp : Sp} : tF sp tx σ H Q = tx σ H fun vs H1 => sp vs H1 Q E0 := rfl
theorem r_part {S : Option Int → Hp → Prop} : tPart te σ H S = te σ H fun x H1 => ∃ i, x = V.int i ∧ S (some i) H1 := rfl
theorem r_nopart {S : Option Int → Hp → Prop} : tNoPart σ H S = S none H := rfl
theorem r_sl {r : V → Option Int → Option Int → Hp → VK → Prop} : L2.tSl r te to th σ H Q = te σ H fun x H1 => to σ H1 fun l H2 => th σ H2 fun u H3 => r x l u H3 Q := rfl
theorem r_par {i j : Nat} : tPar i j tx D σ H = tx σ H fun vs H1 => ∃ v w, vs = [v, w] ∧ D.nx ((σ.set i (some v)).set j (some w)) H1 := rfl
theorem r_chain {r r' : R2} : tChain r r' ta tb tc σ H Q = ta σ H fun x H1 => tb σ H1 fun y H2 => r x y H2 fun z H3 => ∃ k, z = V.bl k ∧ if k = true then tc σ H3 fun w' H4 => r' y w' H4 Q else Q (V.bl false) H3 := rfl
theorem r_or : tOr tt tu σ H R = tt σ H fun c H1 => if c = true then R true H1 else tu σ H1 R := rfl
theorem r_and : tAnd tt tu σ H R = tt σ H fun c H1 => if c = true then tu σ H1 R else R false H1 := rfl
theorem r_not : tNot tt σ H R = tt σ H fun c H1 => R (!c) H1 := rfl
theorem r_orV : tOrV ta tb σ H Q = ta σ H fun x H1 => ∃ c, x = V.bl c ∧ if c = true then Q (.bl true) H1 else tb σ H1 Q := rfl
theorem r_andV : tAndV ta tb σ H Q = ta σ H fun x H1 => ∃ c, x = V.bl c ∧ if c = true then tb σ H1 Q else Q (.bl false) H1 := rfl
theorem r_notV : tNotV ta σ H Q = ta σ H fun x H1 => ∃ c, x = V.bl c ∧ Q (.bl (!c)) H1 := rfl
theorem r_op {r : R2} : tOp r ta tb σ H Q = ta σ H fun x H1 => tb σ H1 fun y H2 => r x y H2 Q := rfl
theorem r_un {r : V → Hp → VK → Prop} : tUn r ta σ H Q = ta σ H fun x H1 => r x H1 Q := rfl
theorem r_var {i : Nat} : tVar i σ H Q = ∃ v, σ[i]? = some (some v) ∧ Q v H := rfl
theorem r_c {v : V} : tC v σ H Q = Q v H := rfl
theorem r_yes {R : Bool → Hp → Prop} : tYes σ H R = R true H := rfl
theorem r_sfld {tv : TE} {f : Str} : sFld K ta tv f D σ H = tv σ H fun y H1 => ta σ H1 fun x H2 => ∃ a C dx fs, x = V.ref a ∧ H2 a = some (HO.ins C dx fs) ∧ Cls K C ∧ NoAttr K C f ∧ fs.length < 1000 ∧ D.nx σ (upd H2 a (HO.ins C dx (putF f y fs))) := rfl
theorem r_never : tNever D σ H ↔ False := Iff.rfl
theorem r_I0 {f : Int → Int → V} {i j : Int} : rI0 f (.int i) (.int j) H Q ↔ Q (f i j) H := by simp [rI0]
theorem r_I {C : Int → Int → Prop} {f : Int → Int → V} {i j : Int} : rI C f (.int i) (.int j) H Q ↔ C i j ∧ Q (f i j) H := by simp [rI]
theorem r_U {f : Int → V} {i : Int} : rU f (.int i) H Q ↔ Q (f i) H := by simp [rU]
theorem r_eqI {i j : Int} : rEq (.int i) (.int j) H Q ↔ Q (.bl (decide (i = j))) H := by simp [rEq, scal]
theorem r_neI {i j : Int} : rNe (.int i) (.int j) H Q ↔ Q (.bl (!decide (i = j))) H := by simp [rNe, scal]
theorem r_eqS {x y : Str} : rEq (.str x) (.str y) H Q ↔ Q (.bl (decide (x = y))) H := by simp [rEq, scal]
theorem r_neS {x y : Str} : rNe (.str x) (.str y) H Q ↔ Q (.bl (!decide (x = y))) H := by simp [rNe, scal]
theorem r_lst {es : TA} : nLst es σ H Q = es σ H fun xs H1 => xs.length ≤ sizeLine ∧ New H1 (.lst xs) Q := rfl
theorem r_tup {es : TA} : nTup es σ H Q = es σ H fun xs H1 => xs.length ≤ sizeLine ∧ New H1 (.tup xs) Q := rfl
theorem r_for {D : Ends} : tFor wi g t D σ H = wi σ H fun J H1 => LoopW J g t D σ H1 := rfl
theorem r_lc {vs : List Nat} : tLc wi g tt te vs σ H Q = wi σ H fun J H1 => ∀ Dd, H1 Dd = none → LcW J g tt te vs σ H1 Dd Q := rfl
theorem r_list {S : It → Hp → Prop} : iList K te σ H S = te σ H fun x H1 => ∃ a, x = V.ref a ∧ (∃ xs, SqL K H1 a xs) ∧ S (Itl K a) H1 := rfl
theorem r_tupI {S : It → Hp → Prop} : iTup K te σ H S = te σ H fun x H1 => ∃ a, x = V.ref a ∧ (∃ xs, SqT K H1 a xs) ∧ S (Itt K a) H1 := rfl
theorem r_rng1 {S : It → Hp → Prop} : iRng1 tx σ H S = tx σ H fun vs H1 => ∃ j, vs = [V.int j] ∧ -2 ^ 62 ≤ j ∧ j < 2 ^ 62 ∧ S (Itr 0 j.toNat) H1 := rfl
theorem r_rng2 {S : It → Hp → Prop} : iRng2 tx σ H S = tx σ H fun vs H1 => ∃ i j : Int, vs = [.int i, .int j] ∧ (-(2 ^ 62) ≤ i ∧ i < 2 ^ 62 ∧ -(2 ^ 62) ≤ j ∧ j < 2 ^ 62) ∧ S (Itr i (j - i).toNat) H1 := rfl
theorem r_enumT {S : It → Hp → Prop} : iEnumT K tx σ H S = tx σ H fun vs H1 => ∃ a xs, vs = [.ref a] ∧ SqT K H1 a xs ∧ S (Iet K a) H1 := rfl
theorem r_bm {T : String} {r : V → List V → Hp → VK → Prop} : tBM K T r te tx σ H Q = te σ H fun x H1 => tyV K T x H1 ∧ tx σ H1 fun xs H2 => r x xs H2 Q := rfl
theorem r_fld {f : Str} : tFld K ta f σ H Q = ta σ H fun x H1 => ∃ a C dx fs v, x = V.ref a ∧ H1 a = some (HO.ins C dx fs) ∧ Cls K C ∧ NoAttr K C f ∧ List.lookup f fs = some v ∧ Q v H1 := rfl
theorem r_subT {o i : TE} {s : TSet} {v : V} {S : L2.St → Hp → Prop} : gSub o i s v σ H S = o σ H fun x H1 => i σ H1 fun y H2 => s x y v H2 fun H3 => S σ H3 := rfl
theorem r_gtup {n : Nat} {ts : TGs} {v : V} {S : L2.St → Hp → Prop} : gTup K n ts v σ H S = ∃ a xs, v = .ref a ∧ SqT K H a xs ∧ xs.length = n ∧ ts xs σ H S := rfl
theorem r_gcons {ts : TGs} {v : V} {xs : List V} {S : L2.St → Hp → Prop} : gCons g ts (v :: xs) σ H S ↔ g v σ H fun σ' H' => ts xs σ' H' S := by
  constructor
  · rintro ⟨w, r, e, h⟩
    cases e
    exact h
  · exact fun h => ⟨v, xs, rfl, h⟩
theorem r_gnil {S : L2.St → Hp → Prop} : gNil [] σ H S ↔ S σ H := by
  simp [gNil]
section
variable {P : Program} {w : World} {mg : Str → Option Value} {base : Heap} {N : List Str} {q : Str} {sc : Scope} {f : Addr} {cd : Value} {A : Around} {outer : List Env} {s : Shared} {E : XK}
theorem r_K0 : (cxOf CX0 P w K mg base N q sc f cd A outer s H E).K = K := rfl
theorem r_K : (cxOf CX0 P w K mg base N q sc f cd A outer s H E).nox.K = K := rfl
theorem r_Kb {s' : Shared} {H' : Hp} {sc' : Scope} {ce : Env} {fp : List Addr} : (((cxOf CX0 P w K mg base N q sc f cd A outer s H E).nox).blk s' H' sc' ce fp).K = K := rfl
end
/-- loops -/
theorem loopL {a : Addr} {xs : List V} {tb : TS} (Pv : Nat → L2.St → Hp → Prop) (h0 : Pv 0 σ H) (hl : ∀ i σ H, i ≤ xs.length → Pv i σ H → SqL K H a xs)
    (hs : ∀ i x σ H, xs[i]? = some x → Pv i σ H → g x σ H fun σ2 H2 => tb { nx := Pv (i + 1), rt := D.rt, bk := D.nx, ct := Pv (i + 1) } σ2 H2) (hd : ∀ σ H, Pv xs.length σ H → D.nx σ H) : LoopW (Itl K a) g tb D σ H := for_list Pv h0 hl hs hd
theorem loopT {a : Addr} {xs : List V} {tb : TS} (Pv : Nat → L2.St → Hp → Prop) (h0 : Pv 0 σ H) (hl : ∀ i σ H, i ≤ xs.length → Pv i σ H → SqT K H a xs)
    (hs : ∀ i x σ H, xs[i]? = some x → Pv i σ H → g x σ H fun σ2 H2 => tb { nx := Pv (i + 1), rt := D.rt, bk := D.nx, ct := Pv (i + 1) } σ2 H2) (hd : ∀ σ H, Pv xs.length σ H → D.nx σ H) : LoopW (Itt K a) g tb D σ H := for_tup Pv h0 hl hs hd
theorem loopR {lo : Int} {n : Nat} {tb : TS} (Pv : Nat → L2.St → Hp → Prop) (h0 : Pv 0 σ H)
    (hs : ∀ i σ H, i < n → Pv i σ H → g (.int (lo + i)) σ H fun σ2 H2 => tb { nx := Pv (i + 1), rt := D.rt, bk := D.nx, ct := Pv (i + 1) } σ2 H2) (hd : ∀ σ H, Pv n σ H → D.nx σ H) : LoopW (Itr lo n) g tb D σ H := for_range Pv h0 hs hd
theorem loopE {a : Addr} {xs : List V} {tb : TS} (Pv : Nat → L2.St → Hp → Prop) (h0 : Pv 0 σ H) (hl : ∀ i σ H, i ≤ xs.length → Pv i σ H → SqT K H a xs)
    (hs : ∀ i x σ H T H', xs[i]? = some x → Pv i σ H → Ex H H' → H' T = some (.tup [.int (i : Nat), x]) → g (.ref T) σ H' fun σ2 H2 => tb { nx := Pv (i + 1), rt := D.rt, bk := D.nx, ct := Pv (i + 1) } σ2 H2) (hd : ∀ σ H, Pv xs.length σ H → D.nx σ H) : LoopW (Iet K a) g tb D σ H :=
  for_it (walk_enumT (K := K) (a := a) (xs := xs)) Pv h0 hl (fun i v σ H H' hi hp y => by
    obtain ⟨T, x, z, rfl, hn, rfl, h1, h2⟩ := y
    cases h1
    exact hs i z σ H T _ h2 hp (Ex.new hn) upd_same) hd
end

/-! comprehensions; small rules of values -/
section
variable {g : TG} {te : TE} {vs : List Nat} {σ : L2.St} {H1 : Hp} {Dd : Addr} {Q : VK} {K : PySem.W.Frag} {a : Addr} {xs : List V}
/-- the state of a comprehension: what is made so far tells R -/
def LcJ (H1 : Hp) (Dd : Addr) (R : Nat → V → Hp → Prop) (i : Nat) (H : Hp) : Prop :=
  ∃ acc : List V, H Dd = some (.lst acc) ∧ acc.length = i ∧ Ex H1 H ∧ ∀ (j : Nat) y, acc[j]? = some y → R j y H
theorem lcJ_turn {R : Nat → V → Hp → Prop} (hR : ∀ i y H H', Kp H H' → R i y H → R i y H') (hD : H1 Dd = none) {i : Nat} {H H4 : Hp} {y : V}
    (p : LcJ H1 Dd R i H) (e : Ex H H4) (r : R i y H4) (hi : i < 1000000) :
    ∃ acc, H4 Dd = some (.lst acc) ∧ acc.length < sizeLine ∧ LcJ H1 Dd R (i + 1) (upd H4 Dd (.lst (acc ++ [y]))) := by
  obtain ⟨acc, h1, h2, h3, h4⟩ := p
  have k : Kp H4 (upd H4 Dd (.lst (acc ++ [y]))) := fun b o hb n => by
    rw [upd_ne]
    · exact hb
    · intro z
      rw [z, e _ _ h1] at hb
      exact n _ (Option.some.inj hb).symm
  refine ⟨acc, e _ _ h1, Nat.lt_of_lt_of_le (show acc.length < 1000000 by omega) (by decide), acc ++ [y], upd_same, by simp [h2], fun b o hb => ?_, fun j z hz => ?_⟩
  · rw [upd_ne (ne_of_none hb hD)]
    exact e _ _ (h3 _ _ hb)
  · by_cases hj : j < acc.length
    · rw [List.getElem?_append_left hj] at hz
      exact hR _ _ _ _ (e.kp.trans k) (h4 j z hz)
    · have hj2 : j = acc.length := by
        have := (List.getElem?_eq_some_iff.mp hz).1
        rw [List.length_append, List.length_singleton] at this
        omega
      subst hj2
      rw [List.getElem?_append_right (Nat.le_refl _), Nat.sub_self] at hz
      cases hz
      rw [h2]
      exact hR _ _ _ _ k r
theorem lcJ_start {R : Nat → V → Hp → Prop} (hD : H1 Dd = none) : LcJ H1 Dd R 0 (upd H1 Dd (.lst [])) :=
  ⟨[], upd_same, rfl, Ex.new hD, fun j y h => by simp at h⟩
/-- what is wanted behind a comprehension -/
def LcEnd (H1 : Hp) (Dd : Addr) (n : Nat) (R : Nat → V → Hp → Prop) (Q : VK) : Prop :=
  ∀ H ys, Ex H1 H → H Dd = some (.lst ys) → ys.length = n → (∀ (i : Nat) y, ys[i]? = some y → R i y H) → Q (.ref Dd) H
theorem lcL {J0 : Prop} (R : Nat → V → Hp → Prop) (hR : ∀ i y H H', Kp H H' → R i y H → R i y H') (hD : H1 Dd = none) (hx : SqL K H1 a xs) (hz : xs.length ≤ 100000)
    (hs : ∀ (i : Nat) x H, xs[i]? = some x → Ex H1 H → g x (wipe σ vs) H fun σ2 H2 => wipe σ2 vs = wipe σ vs ∧ tmE te σ2 H2 fun y H4 => Ex H H4 ∧ R i y H4)
    (hg : ∀ (i : Nat) x H S S', xs[i]? = some x → (∀ σ2 H2, S σ2 H2 → S' σ2 H2) → g x (wipe σ vs) H S → g x (wipe σ vs) H S')
    (hd : LcEnd H1 Dd xs.length R Q) : LcW (Itl K a) g tYes (tmE te) vs σ H1 Dd Q :=
  lc_list (xs := xs) (LcJ H1 Dd R) (lcJ_start hD) (fun i H _ ⟨_, _, _, e, _⟩ => sqL_ex hx e) (fun i x H hi p => by
    obtain ⟨acc, q1, q2, q3, q4⟩ := id p
    refine hg i x H _ _ hi (fun σ2 H2 ⟨w, z⟩ => ⟨w, ?_⟩) (hs i x H hi q3)
    show tmE te σ2 H2 _
    obtain ⟨R0, z1, z2⟩ := z
    exact ⟨R0, z1, fun y H4 r0 => lcJ_turn hR hD p (z2 y H4 r0).1 (z2 y H4 r0).2 (by have := (List.getElem?_eq_some_iff.mp hi).1; omega)⟩)
    fun H ⟨acc, q1, q2, q3, q4⟩ => hd H acc q3 q1 q2 q4
theorem lcT (R : Nat → V → Hp → Prop) (hR : ∀ i y H H', Kp H H' → R i y H → R i y H') (hD : H1 Dd = none) (hx : SqT K H1 a xs) (hz : xs.length ≤ 100000)
    (hs : ∀ (i : Nat) x H, xs[i]? = some x → Ex H1 H → g x (wipe σ vs) H fun σ2 H2 => wipe σ2 vs = wipe σ vs ∧ tmE te σ2 H2 fun y H4 => Ex H H4 ∧ R i y H4)
    (hg : ∀ (i : Nat) x H S S', xs[i]? = some x → (∀ σ2 H2, S σ2 H2 → S' σ2 H2) → g x (wipe σ vs) H S → g x (wipe σ vs) H S')
    (hd : LcEnd H1 Dd xs.length R Q) : LcW (Itt K a) g tYes (tmE te) vs σ H1 Dd Q :=
  lc_tup (xs := xs) (LcJ H1 Dd R) (lcJ_start hD) (fun i H _ ⟨_, _, _, e, _⟩ => sqT_kp hx e.kp) (fun i x H hi p => by
    obtain ⟨acc, q1, q2, q3, q4⟩ := id p
    refine hg i x H _ _ hi (fun σ2 H2 ⟨w, z⟩ => ⟨w, ?_⟩) (hs i x H hi q3)
    show tmE te σ2 H2 _
    obtain ⟨R0, z1, z2⟩ := z
    exact ⟨R0, z1, fun y H4 r0 => lcJ_turn hR hD p (z2 y H4 r0).1 (z2 y H4 r0).2 (by have := (List.getElem?_eq_some_iff.mp hi).1; omega)⟩)
    fun H ⟨acc, q1, q2, q3, q4⟩ => hd H acc q3 q1 q2 q4
theorem lcR {lo : Int} {n : Nat} {j : Nat} (R : Nat → V → Hp → Prop) (hR : ∀ i y H H', Kp H H' → R i y H → R i y H') (hD : H1 Dd = none) (hz : n ≤ 100000)
    (hw : ∀ x, wipe ((wipe σ vs).set j (some x)) vs = wipe σ vs)
    (hs : ∀ (i : Nat) H, i < n → Ex H1 H → tmE te ((wipe σ vs).set j (some (.int (lo + i)))) H fun y H4 => Ex H H4 ∧ R i y H4)
    (hd : LcEnd H1 Dd n R Q) : LcW (Itr lo n) (gName j) tYes (tmE te) vs σ H1 Dd Q :=
  lc_range (LcJ H1 Dd R) (lcJ_start hD) (fun i H hi p => by
    obtain ⟨acc, q1, q2, q3, q4⟩ := id p
    refine ⟨hw _, ?_⟩
    obtain ⟨R0, z1, z2⟩ := hs i H hi q3
    exact ⟨R0, z1, fun y H4 r0 => lcJ_turn hR hD p (z2 y H4 r0).1 (z2 y H4 r0).2 (by omega)⟩)
    fun H ⟨acc, q1, q2, q3, q4⟩ => hd H acc q3 q1 q2 q4
/-- a name as the target -/
theorem lcLn {j : Nat} (R : Nat → V → Hp → Prop) (hR : ∀ i y H H', Kp H H' → R i y H → R i y H') (hD : H1 Dd = none) (hx : SqL K H1 a xs) (hz : xs.length ≤ 100000)
    (hw : ∀ x, wipe ((wipe σ vs).set j (some x)) vs = wipe σ vs)
    (hs : ∀ (i : Nat) x H, xs[i]? = some x → Ex H1 H → tmE te ((wipe σ vs).set j (some x)) H fun y H4 => Ex H H4 ∧ R i y H4)
    (hd : LcEnd H1 Dd xs.length R Q) : LcW (Itl K a) (gName j) tYes (tmE te) vs σ H1 Dd Q :=
  lcL (J0 := True) R hR hD hx hz (fun i x H hi e => ⟨hw x, hs i x H hi e⟩) (fun _ _ _ _ _ _ h q => h _ _ q) hd
theorem lcTn {j : Nat} (R : Nat → V → Hp → Prop) (hR : ∀ i y H H', Kp H H' → R i y H → R i y H') (hD : H1 Dd = none) (hx : SqT K H1 a xs) (hz : xs.length ≤ 100000)
    (hw : ∀ x, wipe ((wipe σ vs).set j (some x)) vs = wipe σ vs)
    (hs : ∀ (i : Nat) x H, xs[i]? = some x → Ex H1 H → tmE te ((wipe σ vs).set j (some x)) H fun y H4 => Ex H H4 ∧ R i y H4)
    (hd : LcEnd H1 Dd xs.length R Q) : LcW (Itt K a) (gName j) tYes (tmE te) vs σ H1 Dd Q :=
  lcT R hR hD hx hz (fun i x H hi e => ⟨hw x, hs i x H hi e⟩) (fun _ _ _ _ _ _ h q => h _ _ q) hd
end
section
variable {K : PySem.W.Frag} {H : Hp} {Q : VK} {p : Addr} {xs : List V} {i : Int} {v : V}
theorem q_ixL (h : SqL K H p xs) (e : atI xs i = some v) (q : Q v H) : rIxL K (.ref p) (.int i) H Q := ⟨p, xs, i, v, rfl, rfl, h, e, q⟩
theorem q_ixT (h : SqT K H p xs) (e : atI xs i = some v) (q : Q v H) : rIxT K (.ref p) (.int i) H Q := ⟨p, xs, i, v, rfl, rfl, h, e, q⟩
theorem at_int {ns : List Int} {i : Int} (h0 : 0 ≤ i) (h : i < ns.length) : ∃ z, ns[i.toNat]? = some z ∧ atI (ns.map V.int) i = some (.int z) := by
  obtain ⟨n, rfl⟩ := Int.eq_ofNat_of_zero_le h0
  have hn : n < ns.length := by omega
  refine ⟨ns[n], by simp [hn], at_of (j := n) rfl ?_⟩
  simp [hn]
/-- products: both together short, or one of them small -/
def CMulS (i j : Int) : Prop := CMulX i j ∨ CMul i j
theorem op_mulS {X : Cx} : OpR X (binaryOp .Mult) (rI CMulS fun i j => .int (i * j)) := fun pins s σ H x y v u Q I rx ry ⟨i, j, e1, e2, c, q⟩ =>
  c.elim (fun c => op_mulX pins s σ H x y v u Q I rx ry ⟨i, j, e1, e2, c, q⟩) fun c => op_mul pins s σ H x y v u Q I rx ry ⟨i, j, e1, e2, c, q⟩
theorem cmul {i j : Int} (a b : Nat) (ha : i.natAbs < 2 ^ a) (hb : j.natAbs < 2 ^ b) (h : a + b ≤ 134217728 := by decide) : CMulS i j := .inl (mulx_ok ha hb h)
theorem cmulL {i j : Int} (h1 : -(2 ^ 64) < i := by first | decide | omega) (h2 : i < 2 ^ 64 := by first | decide | omega) : CMulS i j := .inr (.inl ⟨h1, h2⟩)
theorem cmulR {i j : Int} (h1 : -(2 ^ 64) < j := by first | decide | omega) (h2 : j < 2 ^ 64 := by first | decide | omega) : CMulS i j := .inr (.inr ⟨h1, h2⟩)
theorem ints_cut {ns : List Int} {lo hi : Option Int} {x : V} (h : x ∈ cutV (ns.map V.int) lo hi) : ∃ z, x = .int z := by
  unfold cutV at h
  have h2 := List.mem_of_mem_drop (List.mem_of_mem_take h)
  obtain ⟨z, _, e⟩ := List.mem_map.mp h2
  exact ⟨z, e.symm⟩
theorem call_intN {X : Cx} : CallR X (.type "int") (fun xs H Q => ∃ i, xs = [V.int i] ∧ Q (.int i) H) :=
  CallR.imp call_int1 fun _ _ _ h => .inl h
theorem r_set {o i v : V} {S : Hp → Prop} : rSetL o i v H S = ∃ p xs k j, o = .ref p ∧ i = .int k ∧ H p = some (.lst xs) ∧ ixN xs.length k = some j ∧ S (upd H p (.lst (xs.set j v))) := rfl
theorem sizeLine_le {n : Nat} (h : n ≤ 1000000) : n ≤ sizeLine := Nat.le_trans h (by decide)
end

/-! fractions in lowest terms are rational numbers; plain counts -/

/-- a fraction as a tuple's items -/
def fr (r : Rat) : List V := [.int r.num, .int ((r.den : Nat) : Int)]
def frD (r : Rat) : PyData := .tuple [.int r.num, .int ((r.den : Nat) : Int)]
/-- both parts below 2 ^ n -/
def sz (r : Rat) (n : Nat) : Prop := r.num.natAbs < 2 ^ n ∧ r.den < 2 ^ n

theorem nac {k : Int} (hk : 0 < k) : ((k.natAbs : Nat) : Int) = k := by omega
theorem div_num {t b : Int} (hb : 0 < b) : ((t : Rat) / (b : Rat)).num = t / ((Int.gcd b t : Nat) : Int) := by
  rw [← Rat.divInt_eq_div, Rat.num_divInt, Int.sign_eq_one_of_pos hb, Int.one_mul]
theorem div_den {t b : Int} (hb : 0 < b) : ((((t : Rat) / (b : Rat)).den : Nat) : Int) = b / ((Int.gcd b t : Nat) : Int) := by
  rw [← Rat.divInt_eq_div, Rat.den_divInt, if_neg (by omega), Int.natCast_ediv, nac hb]
theorem part_eq {t b : Int} (hb : 0 < b) : [V.int (t / ((Int.gcd b t : Nat) : Int)), V.int (b / ((Int.gcd b t : Nat) : Int))] = fr ((t : Rat) / (b : Rat)) := by
  unfold fr
  rw [div_num hb, div_den hb]
theorem natAbs_div_le (t : Int) (g : Nat) : (t / (g : Int)).natAbs ≤ t.natAbs ∨ g = 0 := by
  by_cases h : g = 0
  · exact .inr h
  · left
    have := Int.natAbs_ediv_le_natAbs t (g : Int)
    omega
theorem sz_div {t b : Int} {n : Nat} (hb : 0 < b) (h1 : t.natAbs < 2 ^ n) (h2 : b.natAbs < 2 ^ n) : sz ((t : Rat) / (b : Rat)) n := by
  have q1 := Int.natAbs_ediv_le_natAbs t ((Int.gcd b t : Nat) : Int)
  have q2 := Int.natAbs_ediv_le_natAbs b ((Int.gcd b t : Nat) : Int)
  have e1 := div_num (t := t) hb
  have e2 := div_den (t := t) hb
  constructor
  · rw [e1]
    omega
  · have : (((t : Rat) / (b : Rat)).den) = (b / ((Int.gcd b t : Nat) : Int)).natAbs := by
      rw [← e2]
      simp
    omega
theorem sz_mono {r : Rat} {n m : Nat} (h : sz r n) (e : n ≤ m) : sz r m :=
  ⟨Nat.lt_of_lt_of_le h.1 (Nat.pow_le_pow_right (by decide) e), Nat.lt_of_lt_of_le h.2 (Nat.pow_le_pow_right (by decide) e)⟩
theorem den_pos (r : Rat) : (0 : Int) < ((r.den : Nat) : Int) := by
  have := r.den_pos
  omega
theorem add_parts (s r : Rat) : (((s.num * ((r.den : Nat) : Int) + r.num * ((s.den : Nat) : Int) : Int) : Rat)) / (((((s.den : Nat) : Int) * ((r.den : Nat) : Int) : Int)) : Rat) = s + r := by
  rw [Rat.add_def', Rat.mkRat_eq_div]
  congr 1
theorem mul_parts (s r : Rat) : (((s.num * r.num : Int) : Rat)) / (((((s.den : Nat) : Int) * ((r.den : Nat) : Int) : Int)) : Rat) = s * r := by
  rw [Rat.mul_def', Rat.mkRat_eq_div]
  congr 1
theorem add_lt2 {a b : Int} {n : Nat} (h1 : a.natAbs < 2 ^ n) (h2 : b.natAbs < 2 ^ n) : (a + b).natAbs < 2 ^ (n + 1) := by
  have : (2 : Nat) ^ (n + 1) = 2 ^ n + 2 ^ n := by rw [Nat.pow_succ]; omega
  omega
theorem lt2_mono {a : Int} {n m : Nat} (h : a.natAbs < 2 ^ n) (e : n ≤ m) : a.natAbs < 2 ^ m := Nat.lt_of_lt_of_le h (Nat.pow_le_pow_right (by decide) e)
theorem den_lt {r : Rat} {n : Nat} (h : sz r n) : (((r.den : Nat) : Int)).natAbs < 2 ^ n := by
  have := h.2
  simpa using this
theorem sz_add {s r : Rat} {n m : Nat} (h1 : sz s n) (h2 : sz r m) : sz (s + r) (n + m + 1) := by
  rw [← add_parts]
  refine sz_div (Int.mul_pos (den_pos s) (den_pos r)) ?_ ?_
  · refine add_lt2 (wide_lt h1.1 (den_lt h2)) ?_
    rw [Nat.add_comm]
    exact wide_lt h2.1 (den_lt h1)
  · exact lt2_mono (wide_lt (den_lt h1) (den_lt h2)) (by omega)
theorem sz_mul {s r : Rat} {n m : Nat} (h1 : sz s n) (h2 : sz r m) : sz (s * r) (n + m) := by
  rw [← mul_parts]
  exact sz_div (Int.mul_pos (den_pos s) (den_pos r)) (wide_lt h1.1 h2.1) (wide_lt (den_lt h1) (den_lt h2))
/-- the sum, from the left -/
def sumR (rs : List Rat) : Rat := rs.foldl (· + ·) 0
theorem sumR_take {rs : List Rat} {i : Nat} {r : Rat} (h : rs[i]? = some r) : sumR (rs.take (i + 1)) = sumR (rs.take i) + r := by
  unfold sumR
  rw [List.take_add_one, h]
  simp
theorem sz_sum {n : Nat} : ∀ (rs : List Rat) (i : Nat), (∀ r ∈ rs, sz r n) → i ≤ rs.length → sz (sumR (rs.take i)) (i * (n + 1) + 1)
  | rs, 0, _, _ => by
    have e : 2 ^ (0 * (n + 1) + 1) = 2 := by rw [Nat.zero_mul]
    simp only [List.take_zero]
    unfold sz
    rw [e]
    constructor <;> decide
  | rs, i + 1, h, hi => by
    have hr : rs[i]? = some rs[i] := List.getElem?_eq_getElem (by omega)
    rw [sumR_take hr]
    refine sz_mono (sz_add (sz_sum rs i h (by omega)) (h _ (List.getElem_mem _))) ?_
    rw [Nat.add_mul]
    omega

/-! ### plain counts -/
def gcdL (cs : List Int) : Nat := cs.foldl (fun (g : Nat) c => Int.gcd (g : Int) c) 0
def plainL (cs : List Int) : List Int := cs.map fun c => c / ((gcdL cs : Nat) : Int)
theorem gcdL_take {cs : List Int} {i : Nat} {c : Int} (h : cs[i]? = some c) : gcdL (cs.take (i + 1)) = Int.gcd ((gcdL (cs.take i) : Nat) : Int) c := by
  unfold gcdL
  rw [List.take_add_one, h]
  simp
theorem gcdF_dvd : ∀ (cs : List Int) (g : Nat), cs.foldl (fun (g : Nat) c => Int.gcd (g : Int) c) g ∣ g ∧ ∀ c ∈ cs, ((cs.foldl (fun (g : Nat) c => Int.gcd (g : Int) c) g : Nat) : Int) ∣ c
  | [], g => ⟨Nat.dvd_refl _, fun _ h => by simp at h⟩
  | c :: cs, g => by
    obtain ⟨h1, h2⟩ := gcdF_dvd cs (Int.gcd (g : Int) c)
    have d1 : Int.gcd (g : Int) c ∣ g := by
      have := Int.gcd_dvd_left (a := (g : Int)) (b := c)
      exact Int.ofNat_dvd.mp this
    have d2 : ((Int.gcd (g : Int) c : Nat) : Int) ∣ c := Int.gcd_dvd_right ..
    refine ⟨Nat.dvd_trans h1 d1, fun x hx => ?_⟩
    rcases List.mem_cons.mp hx with rfl | hx
    · exact Int.dvd_trans (Int.ofNat_dvd.mpr h1) d2
    · exact h2 x hx
theorem gcdL_dvd {cs : List Int} {c : Int} (h : c ∈ cs) : ((gcdL cs : Nat) : Int) ∣ c := (gcdF_dvd cs 0).2 c h
theorem dvd_gcdF : ∀ (cs : List Int) (g d : Nat), d ∣ g → (∀ c ∈ cs, (d : Int) ∣ c) → d ∣ cs.foldl (fun (g : Nat) c => Int.gcd (g : Int) c) g
  | [], g, d, h, _ => h
  | c :: cs, g, d, h, hc => by
    refine dvd_gcdF cs _ d ?_ fun x hx => hc x (List.mem_cons_of_mem _ hx)
    exact Int.dvd_gcd (Int.ofNat_dvd.mpr h) (hc c List.mem_cons_self)
theorem dvd_gcdL {cs : List Int} {d : Nat} (h : ∀ c ∈ cs, (d : Int) ∣ c) : d ∣ gcdL cs := dvd_gcdF cs 0 d (Nat.dvd_zero d) h
/-- the common divisor is told by its divisors -/
theorem gcdL_eq {cs : List Int} {g : Nat} (h1 : ∀ c ∈ cs, (g : Int) ∣ c) (h2 : ∀ d : Nat, (∀ c ∈ cs, (d : Int) ∣ c) → d ∣ g) : gcdL cs = g :=
  Nat.dvd_antisymm (h2 _ fun _ hc => gcdL_dvd hc) (dvd_gcdL h1)
theorem gcdL_pos {cs : List Int} (h : ∃ c ∈ cs, c ≠ 0) : 0 < gcdL cs := by
  obtain ⟨c, hc, hn⟩ := h
  apply Nat.pos_of_ne_zero
  intro z
  have := gcdL_dvd hc
  rw [z] at this
  exact hn (Int.zero_dvd.mp this)
theorem gcdL_le {cs : List Int} {c : Int} (hc : c ∈ cs) (h : 0 < c) : ((gcdL cs : Nat) : Int) ≤ c := Int.le_of_dvd h (gcdL_dvd hc)
/-- so many times as great -/
theorem gcdL_scale (cs : List Int) {k : Int} (hk : 0 < k) : ((gcdL (cs.map (k * ·)) : Nat) : Int) = k * ((gcdL cs : Nat) : Int) := by
  have key : gcdL (cs.map (k * ·)) = k.natAbs * gcdL cs := by
    apply gcdL_eq
    · intro c hc
      obtain ⟨x, hx, rfl⟩ := List.mem_map.mp hc
      rw [Int.natCast_mul, nac hk]
      exact Int.mul_dvd_mul_left k (gcdL_dvd hx)
    · intro d hd
      have kd : k.natAbs ∣ gcdL (cs.map (k * ·)) := by
        apply dvd_gcdL
        intro c hc
        obtain ⟨x, hx, rfl⟩ := List.mem_map.mp hc
        rw [nac hk]
        exact Int.dvd_mul_right k x
      obtain ⟨m, hm⟩ := kd
      have hm2 : m ∣ gcdL cs := by
        apply dvd_gcdL
        intro c hc
        have h1 := gcdL_dvd (cs := cs.map (k * ·)) (c := k * c) (List.mem_map.mpr ⟨c, hc, rfl⟩)
        rw [hm, Int.natCast_mul, nac hk] at h1
        exact Int.dvd_of_mul_dvd_mul_left (by omega) h1
      have h3 : d ∣ gcdL (cs.map (k * ·)) := dvd_gcdL hd
      rw [hm] at h3
      exact Nat.dvd_trans h3 (Nat.mul_dvd_mul_left _ hm2)
  rw [key, Int.natCast_mul, nac hk]
theorem plainL_scale (cs : List Int) {k : Int} (hk : 0 < k) : plainL (cs.map (k * ·)) = plainL cs := by
  unfold plainL
  rw [List.map_map, gcdL_scale cs hk]
  apply List.map_congr_left
  intro c _
  exact Int.mul_ediv_mul_of_pos _ _ hk
theorem plainL_len (cs : List Int) : (plainL cs).length = cs.length := List.length_map _
/-- the counts are so many times the plain ones -/
theorem plainL_mul (cs : List Int) : (plainL cs).map (((gcdL cs : Nat) : Int) * ·) = cs := by
  unfold plainL
  rw [List.map_map]
  conv => rhs; rw [← List.map_id cs]
  apply List.map_congr_left
  intro c hc
  exact Int.mul_ediv_cancel' (gcdL_dvd hc)
theorem plainL_plain (cs : List Int) (h : 0 < gcdL cs) : gcdL (plainL cs) = 1 := by
  have e := gcdL_scale (plainL cs) (k := ((gcdL cs : Nat) : Int)) (by omega)
  rw [plainL_mul] at e
  have hp : (0 : Int) < ((gcdL cs : Nat) : Int) := by omega
  have : ((gcdL cs : Nat) : Int) * 1 = ((gcdL cs : Nat) : Int) * ((gcdL (plainL cs) : Nat) : Int) := by rw [Int.mul_one]; exact e
  have := Int.eq_of_mul_eq_mul_left (by omega) this
  omega
theorem plainL_twice (cs : List Int) (h : 0 < gcdL cs) : plainL (plainL cs) = plainL cs := by
  have e := plainL_plain cs h
  conv => lhs; unfold plainL
  rw [show gcdL (List.map (fun c => c / ((gcdL cs : Nat) : Int)) cs) = 1 from e]
  simp [plainL]
/-- counts in one proportion are alike -/
theorem plainL_prop {cs ds : List Int} {a b : Int} (ha : 0 < a) (hb : 0 < b) (h : cs.map (a * ·) = ds.map (b * ·)) : plainL cs = plainL ds := by
  rw [← plainL_scale cs ha, h, plainL_scale ds hb]

/-! data that can be shown and compared -/
/-- d can be laid, shown within c signs, compared; k deep -/
structure Gd (d : PyData) (k c : Nat) : Prop where
  lay : d.canLay0 = true
  sh : d.showable = true
  nd : d.hasDict = false
  dp : d.depth ≤ k
  co : costD d ≤ c
theorem Gd.int {i : Int} (h : i.natAbs.log2 < 1920) : Gd (.int i) 0 1930 :=
  ⟨by simp [PyData.canLay0], by simp [PyData.showable, h], by simp [PyData.hasDict], Nat.le_of_eq (by simp [PyData.depth]), Nat.le_of_eq (by simp [costD])⟩
theorem Gd.bool (b : Bool) : Gd (.bool b) 0 1930 :=
  ⟨by simp [PyData.canLay0], by simp [PyData.showable], by simp [PyData.hasDict], Nat.le_of_eq (by simp [PyData.depth]), by simp [costD]⟩
theorem gds {k c : Nat} : ∀ {ds : List PyData}, (∀ d ∈ ds, Gd d k c) → PyData.canLayAll0 ds = true ∧ PyData.showableAll ds = true ∧ PyData.hasDictAll ds = false ∧ PyData.depthAll ds ≤ k ∧ costs ds ≤ ds.length * (c + 2)
  | [], _ => ⟨by simp [PyData.canLayAll0], by simp [PyData.showableAll], by simp [PyData.hasDictAll], by simp [PyData.depthAll], by simp [costs]⟩
  | d :: ds, h => by
    obtain ⟨h1, h2, h3, h4, h5⟩ := gds fun x hx => h x (List.mem_cons_of_mem _ hx)
    obtain ⟨g1, g2, g3, g4, g5⟩ := h d List.mem_cons_self
    refine ⟨by simp [PyData.canLayAll0, g1, h1], by simp [PyData.showableAll, g2, h2], by simp [PyData.hasDictAll, g3, h3], ?_, ?_⟩
    · simp only [PyData.depthAll]
      omega
    · simp only [costs, List.length_cons]
      rw [Nat.add_mul]
      omega
theorem Gd.tuple {k c n : Nat} {ds : List PyData} (h : ∀ d ∈ ds, Gd d k c) (hn : ds.length ≤ n) : Gd (.tuple ds) (k + 1) (n * (c + 2) + 3) := by
  obtain ⟨h1, h2, h3, h4, h5⟩ := gds h
  refine ⟨by simpa [PyData.canLay0] using h1, by simpa [PyData.showable] using h2, by simpa [PyData.hasDict] using h3, ?_, ?_⟩
  · simp only [PyData.depth]
    omega
  · simp only [costD]
    have := Nat.mul_le_mul_right (c + 2) hn
    omega
theorem Gd.list {k c n : Nat} {ds : List PyData} (h : ∀ d ∈ ds, Gd d k c) (hn : ds.length ≤ n) : Gd (.list ds) (k + 1) (n * (c + 2) + 3) := by
  obtain ⟨h1, h2, h3, h4, h5⟩ := gds h
  refine ⟨by simpa [PyData.canLay0] using h1, by simpa [PyData.showable] using h2, by simpa [PyData.hasDict] using h3, ?_, ?_⟩
  · simp only [PyData.depth]
    omega
  · simp only [costD]
    have := Nat.mul_le_mul_right (c + 2) hn
    omega
theorem Gd.mono {d : PyData} {k c k' c' : Nat} (h : Gd d k c) (hk : k ≤ k') (hc : c ≤ c') : Gd d k' c' := ⟨h.lay, h.sh, h.nd, Nat.le_trans h.dp hk, Nat.le_trans h.co hc⟩
theorem Gd.shaped {d : PyData} {k c : Nat} (h : Gd d k c) (hk : k ≤ 64) : SeqAt.shaped d = true := by
  unfold SeqAt.shaped
  rw [h.lay]
  simp only [Bool.true_and, decide_eq_true_eq]
  exact Nat.le_trans h.dp hk
theorem log1920 {i : Int} (h : i.natAbs < 2 ^ 1900) : i.natAbs.log2 < 1920 := Nat.lt_of_lt_of_le (PySem.Flt.log2_lt_of (k := 1900) (by decide) h) (show 1900 ≤ 1920 by decide)
theorem gd_ints {cs : List Int} {n : Nat} (hn : cs.length ≤ n) (h : ∀ c ∈ cs, c.natAbs < 2 ^ 1900) : Gd (.tuple (cs.map PyData.int)) 1 (n * 1932 + 3) :=
  Gd.tuple (k := 0) (c := 1930) (fun d hd => by
    obtain ⟨c, hc, rfl⟩ := List.mem_map.mp hd
    exact .int (log1920 (h c hc))) (by rw [List.length_map]; exact hn)
theorem gd_fr {r : Rat} (h : sz r 1900) : Gd (frD r) 1 4000 := by
  have g : Gd (.tuple [.int r.num, .int ((r.den : Nat) : Int)]) 1 (2 * (1930 + 2) + 3) :=
    Gd.tuple (k := 0) (c := 1930) (n := 2) (fun d hd => by
      simp only [List.mem_cons, List.not_mem_nil, or_false] at hd
      rcases hd with rfl | rfl
      · exact .int (log1920 h.1)
      · exact .int (log1920 (den_lt h))) (Nat.le_refl 2)
  exact g.mono (Nat.le_refl 1) (by decide)
section
variable {X : Cx}
def rReprG (K : PySem.W.Frag) : List V → Hp → VK → Prop := fun vs H Q => ∃ v d k c, vs = [v] ∧ Dp K H v d ∧ (∃ a, v = V.ref a) ∧ Gd d k c ∧ k ≤ 20 ∧ c ≤ 10000000 ∧ Q (.str d.shown) H
theorem cr_reprG (hg : X.A.guards = some []) (hu : X.A.units + 64 < cLine) : CallR X (.builtin "repr") (rReprG X.K) :=
  CallR.imp (cr_repr hg hu) fun vs H Q ⟨v, d, k, c, e, h, ⟨a, ea⟩, g, hk, hc, q⟩ =>
    ⟨a, d, by rw [e, ea], by rw [← ea]; exact h, g.sh, g.nd, Nat.le_trans g.dp hk, Nat.le_trans g.co (Nat.le_trans hc (by decide)), q⟩
end

/-! ### the rules with the written part named: their readings do not hang on a block -/
section
variable {X : Cx} {K : PySem.W.Frag}
theorem ixL (h : X.K = K := by rfl) : IxR X (rIxL K) := by
  subst h
  exact ix_list
theorem ixT (h : X.K = K := by rfl) : IxR X (rIxT K) := by
  subst h
  exact ix_tup
def rLen (K : PySem.W.Frag) : List V → Hp → VK → Prop := fun xs H Q => ∃ p ys, xs = [.ref p] ∧ (SqL K H p ys ∨ SqT K H p ys) ∧ Q (.int ys.length) H
theorem kLen (h : X.K = K := by rfl) : CallR X (.builtin "len") (rLen K) := by
  subst h
  exact call_len_seq
theorem kSum (hc : X.calm = true) (h : X.K = K := by rfl) : CallR X (.builtin "sum") (rSumN K) := by
  subst h
  exact cr_sumN hc
theorem kAll (hc : X.calm = true) (h : X.K = K := by rfl) : CallR X (.builtin "all") (rAll K) := by
  subst h
  exact cr_all hc
theorem kTuple (h : X.K = K := by rfl) : CallR X (.type "tuple") (rTupleN K) := by
  subst h
  exact call_tupleN
theorem kList (h : X.K = K := by rfl) : CallR X (.type "list") (rListN K) := by
  subst h
  exact call_list_ofN
theorem kRepr (hg : X.A.guards = some []) (hu : X.A.units + 64 < cLine) (h : X.K = K := by rfl) : CallR X (.builtin "repr") (rReprG K) := by
  subst h
  exact cr_reprG hg hu
theorem kIsi (h : X.K = K := by rfl) : CallR X (.builtin "isinstance") (rIsi K) := by
  subst h
  exact call_isi
theorem kNe (hu : X.A.units + 64 < cLine) (h : X.K = K := by rfl) : OpR X (compareOp .NotEq) (rNeN K) := by
  subst h
  exact op_neDN hu
theorem kEq (hu : X.A.units + 64 < cLine) (h : X.K = K := by rfl) : OpR X (compareOp .Eq) (rEqN K) := by
  subst h
  exact op_eqDN hu
theorem slL (h : X.K = K := by rfl) : L2.SlR X (rSlN K) := by
  subst h
  exact sl_listN
theorem kFld {e : Expr} {f : Str} {pos : Pos} {ta : TE} (he : PE X e ta) (hb : attributeBase e f X.env (eval e X.env) = eval e X.env) (h : X.K = K := by rfl) : PE X (.Attribute e f pos) (tFld K ta f) := by
  subst h
  exact pe_fld he hb
theorem r_len {xs : List V} {H : Hp} {Q : VK} : rLen K xs H Q = ∃ p ys, xs = [.ref p] ∧ (SqL K H p ys ∨ SqT K H p ys) ∧ Q (.int ys.length) H := rfl
end

/-! zip of lists and tuples in any order; comb, lcm; words alone; a tuple turned about -/

/-- a list (true) or a tuple -/
def SqB (K : PySem.W.Frag) : Bool → Hp → Addr → List V → Prop
  | true => SqL K
  | false => SqT K
def IsB : Bool → Heap → Addr → Array Value → Prop
  | true => Heap.IsList
  | false => Heap.IsTuple
def ItB : Bool → Heap → Addr → Addr → Nat → Prop
  | true => Heap.IsListIter
  | false => Heap.IsTupleIter
def oB : Bool → Addr → Obj
  | true, l => { cls := .type "list_iterator", data := .fields #[.ref l, .int 0 0] }
  | false, l => { cls := .type "tuple_iterator", data := .fields #[.ref l, .int 0 0] }
theorem sqB_kp {K : PySem.W.Frag} {k : Bool} {H H' : Hp} {a : Addr} {xs : List V} (h : SqB K k H a xs) (e : Ex H H') : SqB K k H' a xs := by
  cases k
  · exact sqT_kp h e.kp
  · exact sqL_ex h e
theorem side {X : Cx} {pins : List (Addr × Obj)} {σ : L2.St} {H : Hp} {s : Shared} {k : Bool} {a : Addr} {xs : List V} (I : Inv X pins σ H s) (h : SqB X.K k H a xs) :
    ∃ its : List Value, Vals xs its ∧ IsB k s.heap a its.toArray ∧ a < s.heap.objs.size := by
  cases k
  · obtain ⟨its, rv, p, _⟩ := I.tuple h
    have p' : s.heap.IsTuple a its.toArray := p
    obtain ⟨_, e, _⟩ := id p'
    exact ⟨its, rv, p', Heap.lt_size e⟩
  · obtain ⟨its, rv, p, _⟩ := I.list h
    exact ⟨its, rv, p.isList, p.lt⟩
theorem sqB_inj {X : Cx} {pins : List (Addr × Obj)} {σ : L2.St} {H : Hp} {s : Shared} {k : Bool} {a : Addr} {xs ys : List V} (I : Inv X pins σ H s) (h : SqB X.K k H a xs) (h2 : SqB X.K k H a ys) : xs = ys := by
  cases k
  · exact I.tuple_inj h h2
  · exact I.list_inj h h2
theorem drawsB {prog : Program} {w : World} {A : Around} (k : Bool) (hh : A.handled = none) (it l : Addr) (hne : l ≠ it) (items : Array Value) :
    Draws prog w A it [it, l] items.size (fun i v => items[i]? = some v) (fun i h => ItB k h it l i ∧ IsB k h l items) := by
  cases k
  · exact Draws.tuple hh it l hne items
  · exact Draws.list hh it l hne items
theorem beginsB (k : Bool) (l : Addr) (items : Array Value) : Begins (.ref l) (oB k l) (fun h => IsB k h l items) := by
  cases k
  · exact begins_tuple l items
  · exact begins_list l items
theorem itB_new {k : Bool} {h : Heap} {it l : Addr} (e : h.get? it = some (oB k l)) : ItB k h it l 0 := by
  cases k
  · exact ⟨_, e, rfl, rfl⟩
  · exact ⟨_, e, rfl, rfl⟩
theorem itB_at {k : Bool} {h h' : Heap} {it l : Addr} {i : Nat} (x : ItB k h it l i) (e : ∀ o, h.get? it = some o → h'.get? it = some o) : ItB k h' it l i := by
  cases k
  · exact Heap.IsTupleIter.at x e
  · exact Heap.IsListIter.at x e
theorem itB_obj {k : Bool} {h : Heap} {it l : Addr} {i : Nat} (x : ItB k h it l i) : ∃ o, h.get? it = some o ∧ ∃ fs, o.data = .fields fs := by
  cases k
  · obtain ⟨o, e, _, d⟩ := x
    exact ⟨o, e, _, d⟩
  · obtain ⟨o, e, _, d⟩ := x
    exact ⟨o, e, _, d⟩
theorem isB_ne {k k2 : Bool} {h : Heap} {a it l : Addr} {i : Nat} {xs : Array Value} (x : IsB k h a xs) (y : ItB k2 h it l i) : a ≠ it := by
  intro z
  subst z
  obtain ⟨o, e, fs, d⟩ := itB_obj y
  cases k
  · obtain ⟨o2, e2, _, _, d2⟩ := x
    rw [e2] at e
    cases e
    rw [d2] at d
    cases d
  · obtain ⟨o2, e2, _, _, d2⟩ := x
    rw [e2] at e
    cases e
    rw [d2] at d
    cases d

/-- both as they stand at each turn, the items in new pairs -/
def ItzB (K : PySem.W.Frag) (k1 k2 : Bool) (a b : Addr) : It :=
  ⟨fun i H => ∃ (xs ys : List V) (x y : V), (SqB K k1 H a xs ∧ SqB K k2 H b ys) ∧ xs[i]? = some x ∧ ys[i]? = some y,
    fun i H v H' => ∃ T x y, v = .ref T ∧ H T = none ∧ H' = upd H T (.tup [x, y]) ∧ (∀ xs, SqB K k1 H a xs → xs[i]? = some x) ∧ ∀ ys, SqB K k2 H b ys → ys[i]? = some y,
    fun i H => ∃ xs ys : List V, (SqB K k1 H a xs ∧ SqB K k2 H b ys) ∧ i = min xs.length ys.length⟩
def zSt (k1 k2 : Bool) (a b z TI TO i1 i2 : Addr) (i : Nat) (h : Heap) : Prop :=
  (IsZip h z TI TO .none ∧ IsTupOf2 h TI (.ref i1) (.ref i2)) ∧ (∃ x y, IsTupOf2 h TO x y) ∧ ItB k1 h i1 a i ∧ ItB k2 h i2 b i
theorem five {c z TI TO i1 i2 : Addr} (h : c ∈ [z, TI, TO, i1, i2]) : c = z ∨ c = TI ∨ c = TO ∨ c = i1 ∨ c = i2 := by
  simpa using h
theorem turn_zipB {P : Program} {w : World} {K : PySem.W.Frag} {elts : List Expr} {kk : Nat} {tpos : Pos} {k1 k2 : Bool} {a b z TI TO i1 i2 : Addr} (S : ZipSep2 z TI TO i1 i2 [i1, a] [i2, b]) :
    Turn P w K (.Tuple elts kk tpos) (ItzB K k1 k2 a b) [z, TI, TO, i1, i2] z (zSt k1 k2 a b z TI TO i1 i2) where
  mem := List.mem_cons_self ..
  obj := by
    intro i h st c hc
    obtain ⟨⟨hz, hTI⟩, ⟨x, y, hTO⟩, h1, h2⟩ := st
    obtain ⟨o1, e1, f1, d1⟩ := itB_obj h1
    obtain ⟨o2, e2, f2, d2⟩ := itB_obj h2
    rcases five hc with q | q | q | q | q <;> subst q
    · exact ⟨_, hz, fun v q => nomatch q⟩
    · exact ⟨_, hTI, fun v q => nomatch q⟩
    · exact ⟨_, hTO, fun v q => nomatch q⟩
    · refine ⟨o1, e1, fun v q => ?_⟩
      rw [d1] at q
      cases q
    · refine ⟨o2, e2, fun v q => ?_⟩
      rw [d2] at q
      cases q
  keep := by
    intro i h h' st k
    obtain ⟨⟨hz, hTI⟩, ⟨x, y, hTO⟩, h1, h2⟩ := st
    exact ⟨⟨k _ (by simp) _ hz, k _ (by simp) _ hTI⟩, ⟨x, y, k _ (by simp) _ hTO⟩, itB_at h1 fun o q => k _ (by simp) o q, itB_at h2 fun o q => k _ (by simp) o q⟩
  item := by
    intro X hP hw hK hc i pins s σ H E I hf st hg
    subst hP hw hK
    obtain ⟨⟨hz, hTI⟩, ⟨x0, y0, hTO⟩, h1, h2⟩ := st
    obtain ⟨xs, ys, x, y, ⟨qx, qy⟩, hx, hy⟩ := hg
    obtain ⟨us, rx, px, _⟩ := side I qx
    obtain ⟨vs, ry, py, _⟩ := side I qy
    have hzl : z < s.heap.objs.size := Heap.lt_size hz
    have lx : i < us.toArray.size := by
      have := (List.getElem?_eq_some_iff.mp hx).1
      have := rx.length
      simp
      omega
    have ly : i < vs.toArray.size := by
      have := (List.getElem?_eq_some_iff.mp hy).1
      have := ry.length
      simp
      omega
    have hh : X.A.in1.handled = none := I.ok.hd hc
    have D1 := drawsB (prog := X.prog) (w := X.w) k1 hh i1 a (isB_ne px h1) us.toArray
    have D2 := drawsB (prog := X.prog) (w := X.w) k2 hh i2 b (isB_ne py h2) vs.toArray
    refine wpAny_pyNext_zipD2_item S D1 D2 hz hTI hTO (show _ ∧ _ from ⟨h1, px⟩) (show _ ∧ _ from ⟨h2, py⟩) lx ly
      fun u v h' tk pu pv z' TO' s1' s2' hT hsz hk => ?_
    obtain ⟨u', eu, ru⟩ := rx.get hx
    obtain ⟨v', ev, rv⟩ := ry.get hy
    have eu2 : us.toArray[i]? = some u := pu
    have ev2 : vs.toArray[i]? = some v := pv
    rw [List.getElem?_toArray, eu] at eu2
    rw [List.getElem?_toArray, ev] at ev2
    cases eu2
    cases ev2
    refine ⟨_, rfl, wpAny_letOwnedTupleGo_zip (s := { s with heap := h', toks := tk }) z' fun h'' z'' sb => ?_⟩
    have away : ∀ c, c ≠ z → ∀ o, h'.get? c = some o → h''.get? c = some o := fun c n o q => (sb.2 c n).trans q
    have nT : s.heap.objs.size ≠ z := Nat.ne_of_gt hzl
    have new : ObjOk X.prog X.w (upd H s.heap.objs.size (.tup [x, y])) h'' s.heap.objs.size (.tup [x, y]) := by
      refine ⟨show 2 ≤ sizeLine by decide, [u, v], ?_, ⟨_, away _ nT _ hT, rfl, _, rfl⟩⟩
      exact .cons ru (.cons rv .nil)
    have I1 : Inv X pins σ (upd H s.heap.objs.size (.tup [x, y])) { s with heap := h'', toks := tk } := by
      refine I.turnedNew (t' := tk) (ch := [z, TI, TO, i1, i2]) (fun c o hb q => ?_) hf (Nat.le_refl _) new
      have nz : c ≠ z := fun e => hb (by simp [e])
      refine away c nz o (hk c o nz ?_ ?_ ?_ q)
      · exact fun e => hb (by simp [e])
      · exact fun e => hb (by simp [e])
      · exact fun e => hb (by simp [e])
    refine ⟨.ref s.heap.objs.size, _, I1, rfl, ⟨_, x, y, rfl, I.hok.fresh (Nat.le_refl _), rfl, fun l hl => ?_, fun l hl => ?_⟩, ⟨⟨z'', ?_⟩, ⟨u, v, away _ S.TOz _ TO'⟩, ?_, ?_⟩, fun c hcm => ?_⟩
    · rw [sqB_inj I hl qx]
      exact hx
    · rw [sqB_inj I hl qy]
      exact hy
    · exact away _ S.TIz _ (hk _ _ S.TIz S.TITO S.TIi1 S.TIi2 hTI)
    · exact itB_at s1'.1 fun o q => away _ (Ne.symm S.zi1) o q
    · exact itB_at s2'.1 fun o q => away _ (Ne.symm S.zi2) o q
    · have hlt : c < s.heap.objs.size := by
        obtain ⟨o1, e1, _⟩ := itB_obj h1
        obtain ⟨o2, e2, _⟩ := itB_obj h2
        rcases five hcm with q | q | q | q | q <;> subst q
        · exact hzl
        · exact Heap.lt_size hTI
        · exact Heap.lt_size hTO
        · exact Heap.lt_size e1
        · exact Heap.lt_size e2
      rw [upd_ne (Nat.ne_of_lt hlt)]
      exact (hf c hcm).1
  done := by
    intro X hP hw hK hc i pins s σ H E I hf st hg
    subst hP hw hK
    obtain ⟨⟨hz, hTI⟩, ⟨x0, y0, hTO⟩, h1, h2⟩ := st
    obtain ⟨xs, ys, ⟨qx, qy⟩, hi⟩ := hg
    obtain ⟨us, rx, px, _⟩ := side I qx
    obtain ⟨vs, ry, py, _⟩ := side I qy
    have lx : xs.length = us.toArray.size := by rw [List.size_toArray]; exact rx.length
    have ly : ys.length = vs.toArray.size := by rw [List.size_toArray]; exact ry.length
    have hh : X.A.in1.handled = none := I.ok.hd hc
    have D1 := drawsB (prog := X.prog) (w := X.w) k1 hh i1 a (isB_ne px h1) us.toArray
    have D2 := drawsB (prog := X.prog) (w := X.w) k2 hh i2 b (isB_ne py h2) vs.toArray
    refine wpAny_pyNext_zipD2_end (i := i) S D1 D2 hz hTI hTO (show _ ∧ _ from ⟨h1, px⟩) (show _ ∧ _ from ⟨h2, py⟩) (by omega) (by omega) (by omega)
      fun h' tk hk => ⟨rfl, ?_⟩
    refine I.turnedL (t' := tk) (ch := [z, TI, TO, i1, i2]) (fun c o hb q => hk c o ?_ ?_ ?_ ?_ q) hf
    · exact fun e => hb (by simp [e])
    · exact fun e => hb (by simp [e])
    · exact fun e => hb (by simp [e])
    · exact fun e => hb (by simp [e])
  self := fun A i s Q E st h => wpAny_pyIter_zip st.1.1 h

def iZipB (K : PySem.W.Frag) (ta : TA) : TI := fun σ H R => ta σ H fun vs H1 => ∃ k1 k2 a b xs ys, vs = [.ref a, .ref b] ∧ SqB K k1 H1 a xs ∧ SqB K k2 H1 b ys ∧ R (ItzB K k1 k2 a b) H1
theorem pi_zipB {X : Cx} {e e2 : Expr} {ta : TA} {p pos tpos : Pos} {elts : List Expr} {kk : Nat} (hg : Gl X "zip") (hm : X.mg "zip" = none) (ha : PA X [e, e2] ta)
    (hs : starEach [e, e2] X.env = (false, eval e X.env) :: starEach [e2] X.env := by rfl) (hpl : (backTo pos (starEach [e2] X.env)).any (·.1) = false := by rfl) :
    PI X (.Tuple elts kk tpos) (.Call (.Name "zip" p) [e, e2] [] pos) (iZipB X.K ta) := by
  refine ⟨fun pins s σ H R I h => ?_⟩
  refine Call_ (ld_blt I hg hm PyProof.Rows.boot_zip ?_)
  refine PyProof.Rows.callWith_type1 (thn (ha.run pos pins s σ H _ I h) fun us s1 ⟨vs, H1, I1, r1, q1⟩ => ?_) hs hpl
  obtain ⟨k1, k2, a, b, xs, ys, ex, qx, qy, q⟩ := q1
  subst ex
  cases r1 with
  | cons r rr =>
    cases rr with
    | cons r' rr =>
      cases rr
      cases r
      cases r'
      obtain ⟨ws, rx, px, la⟩ := side I1 qx
      obtain ⟨zs, ry, py, lb⟩ := side I1 qy
      refine zip_begins2 (beginsB k1 a ws.toArray) (beginsB k2 b zs.toArray) px py fun h' hz hTI hTO o1 o2 hsz hk => wpAny_pyIter_zip hz ?_
      have I2 : Inv X pins σ H1 { s1 with heap := h' } := I1.kept (t' := s1.toks) hk
      have S := zip_sep2 (N := s1.heap.objs.size) (fp1 := [a]) (fp2 := [b]) (by simpa using la) (by simpa using lb)
      refine ⟨_, _, _, _, H1, rfl, I2, turn_zipB (k1 := k1) (k2 := k2) S, ⟨⟨hz, hTI⟩, ⟨_, _, hTO⟩, itB_new o1, itB_new o2⟩, fun c hcm => ?_, q⟩
      have hle : s1.heap.objs.size ≤ c := by
        rcases five hcm with e | e | e | e | e <;> subst e
        · exact Nat.le_add_right _ _
        · exact Nat.le_add_right _ _
        · exact Nat.le_add_right _ _
        · exact Nat.le_refl _
        · exact Nat.le_add_right _ _
      exact I1.fpOk hle (I1.hok.fresh hle)
theorem walk_zipB {K : PySem.W.Frag} {k1 k2 : Bool} {a b : Addr} {xs ys : List V} {n : Nat} (hn : n = min xs.length ys.length) :
    Walk (ItzB K k1 k2 a b) n (fun H => SqB K k1 H a xs ∧ SqB K k2 H b ys) (YPair (fun i => xs[i]?) (fun i => ys[i]?)) := by
  subst hn
  refine ⟨fun i _ hi q => ?_, fun _ q => ⟨xs, ys, q, rfl⟩, fun i H v H' _ q y => ?_⟩
  · have h1 : i < xs.length := by omega
    have h2 : i < ys.length := by omega
    exact ⟨xs, ys, xs[i], ys[i], q, by simp [h1], by simp [h2]⟩
  · obtain ⟨T, x, z, h1, h2, h3, h4, h5⟩ := y
    exact ⟨T, x, z, h1, h2, h3, h4 xs q.1, h5 ys q.2⟩
theorem kZip {X : Cx} {K : PySem.W.Frag} {e e2 : Expr} {ta : TA} {p pos tpos : Pos} {elts : List Expr} {kk : Nat} (hg : Gl X "zip") (hm : X.mg "zip" = none) (ha : PA X [e, e2] ta) (h : X.K = K := by rfl)
    (hs : starEach [e, e2] X.env = (false, eval e X.env) :: starEach [e2] X.env := by rfl) (hpl : (backTo pos (starEach [e2] X.env)).any (·.1) = false := by rfl) :
    PI X (.Tuple elts kk tpos) (.Call (.Name "zip" p) [e, e2] [] pos) (iZipB K ta) := by
  subst h
  exact pi_zipB hg hm ha hs hpl
theorem kEnumT {X : Cx} {K : PySem.W.Frag} {e : Expr} {ta : TA} {p pos tpos : Pos} {elts : List Expr} {kk : Nat} (hg : Gl X "enumerate") (hm : X.mg "enumerate" = none) (ha : PA X [e] ta) (h : X.K = K := by rfl)
    (hs : starEach [e] X.env = [(false, eval e X.env)] := by rfl) :
    PI X (.Tuple elts kk tpos) (.Call (.Name "enumerate" p) [e] [] pos) (iEnumT K ta) := by
  subst h
  exact pi_enumT hg hm ha hs

section
variable {g : TG} {te : TE} {vs : List Nat} {σ : L2.St} {H H1 : Hp} {Dd : Addr} {Q : VK} {K : PySem.W.Frag} {D : Ends}
/-! ### targets pass what is wanted on -/
def GMono (g : TG) : Prop := ∀ v σ H S S', (∀ σ2 H2, S σ2 H2 → S' σ2 H2) → g v σ H S → g v σ H S'
def GsMono (g : TGs) : Prop := ∀ v σ H S S', (∀ σ2 H2, S σ2 H2 → S' σ2 H2) → g v σ H S → g v σ H S'
theorem gm_name {i : Nat} : GMono (gName i) := fun _ _ _ _ _ h q => h _ _ q
theorem gm_nil : GsMono gNil := fun _ _ _ _ _ h q => ⟨q.1, h _ _ q.2⟩
theorem gm_cons {t : TG} {u : TGs} (a : GMono t) (b : GsMono u) : GsMono (gCons t u) := fun _ σ H S S' h ⟨v, r, e, q⟩ =>
  ⟨v, r, e, a _ _ _ _ _ (fun σ2 H2 z => b _ _ _ _ _ h z) q⟩
theorem gm_tup {n : Nat} {t : TGs} (a : GsMono t) : GMono (gTup K n t) := fun _ σ H S S' h ⟨p, xs, e, q, l, z⟩ => ⟨p, xs, e, q, l, a _ _ _ _ _ h z⟩
/-! ### loops and comprehensions over pairs -/
theorem loopZ {k1 k2 : Bool} {a b : Addr} {xs ys : List V} {n : Nat} {tb : TS} (hn : n = min xs.length ys.length) (Pv : Nat → L2.St → Hp → Prop) (h0 : Pv 0 σ H) (hl : ∀ i σ H, i ≤ n → Pv i σ H → SqB K k1 H a xs ∧ SqB K k2 H b ys)
    (hs : ∀ i x y σ H T H', xs[i]? = some x → ys[i]? = some y → Pv i σ H → Ex H H' → H' T = some (.tup [x, y]) → g (.ref T) σ H' fun σ2 H2 => tb { nx := Pv (i + 1), rt := D.rt, bk := D.nx, ct := Pv (i + 1) } σ2 H2)
    (hd : ∀ σ H, Pv n σ H → D.nx σ H) : LoopW (ItzB K k1 k2 a b) g tb D σ H :=
  for_it (walk_zipB hn) Pv h0 hl (fun i v σ H H' hi hp y => by
    obtain ⟨T, x, z, rfl, hn, rfl, h1, h2⟩ := y
    exact hs i x z σ H T _ h1 h2 hp (Ex.new hn) upd_same) hd
theorem lcP {J : It} {n : Nat} {G : Hp → Prop} {fx fy : Nat → Option V} (w : Walk J n G (YPair fx fy)) (R : Nat → V → Hp → Prop) (hR : ∀ i y H H', Kp H H' → R i y H → R i y H') (hD : H1 Dd = none) (hG : ∀ H, Ex H1 H → G H) (hz : n ≤ 100000)
    (hm : GMono g)
    (hs : ∀ (i : Nat) x y T H, i < n → fx i = some x → fy i = some y → Ex H1 H → H T = some (.tup [x, y]) → g (.ref T) (wipe σ vs) H fun σ2 H2 => wipe σ2 vs = wipe σ vs ∧ tmE te σ2 H2 fun y H4 => Ex H H4 ∧ R i y H4)
    (hd : LcEnd H1 Dd n R Q) : LcW J g tYes (tmE te) vs σ H1 Dd Q :=
  lc_it (Qd := fun H => Q (.ref Dd) H) w (LcJ H1 Dd R) (lcJ_start hD) (fun i H _ ⟨_, _, _, e, _⟩ => hG H e) (fun i v H H' hi p y => by
    obtain ⟨T, x, z, rfl, hn, rfl, h1, h2⟩ := y
    obtain ⟨acc, q1, q2, q3, q4⟩ := id p
    have e : Ex H (upd H T (.tup [x, z])) := Ex.new hn
    refine hm _ _ _ _ _ (fun σ2 H2 ⟨w, u⟩ => ⟨w, ?_⟩) (hs i x z T _ hi h1 h2 (q3.trans e) upd_same)
    show tmE te σ2 H2 _
    obtain ⟨R0, z1, z2⟩ := u
    exact ⟨R0, z1, fun y H4 r0 => lcJ_turn hR hD p (e.trans (z2 y H4 r0).1) (z2 y H4 r0).2 (by omega)⟩)
    fun H ⟨acc, q1, q2, q3, q4⟩ => hd H acc q3 q1 q2 q4
/-- over enumerate of a tuple -/
theorem lcE {a : Addr} {xs : List V} (R : Nat → V → Hp → Prop) (hR : ∀ i y H H', Kp H H' → R i y H → R i y H') (hD : H1 Dd = none) (hx : SqT K H1 a xs) (hz : xs.length ≤ 100000) (hm : GMono g)
    (hs : ∀ (i : Nat) y T H, xs[i]? = some y → Ex H1 H → H T = some (.tup [.int (i : Nat), y]) → g (.ref T) (wipe σ vs) H fun σ2 H2 => wipe σ2 vs = wipe σ vs ∧ tmE te σ2 H2 fun y H4 => Ex H H4 ∧ R i y H4)
    (hd : LcEnd H1 Dd xs.length R Q) : LcW (Iet K a) g tYes (tmE te) vs σ H1 Dd Q :=
  lcP (walk_enumT (K := K) (a := a) (xs := xs)) R hR hD (fun H e => sqT_kp hx e.kp) hz hm (fun i x y T H _ h1 h2 e t => by
    cases h1
    exact hs i y T H h2 e t) hd
theorem lcZ {k1 k2 : Bool} {a b : Addr} {xs ys : List V} {n : Nat} (hn : n = min xs.length ys.length) (R : Nat → V → Hp → Prop) (hR : ∀ i y H H', Kp H H' → R i y H → R i y H') (hD : H1 Dd = none)
    (hx : SqB K k1 H1 a xs) (hy : SqB K k2 H1 b ys) (hz : n ≤ 100000) (hm : GMono g)
    (hs : ∀ (i : Nat) x y T H, xs[i]? = some x → ys[i]? = some y → Ex H1 H → H T = some (.tup [x, y]) → g (.ref T) (wipe σ vs) H fun σ2 H2 => wipe σ2 vs = wipe σ vs ∧ tmE te σ2 H2 fun y H4 => Ex H H4 ∧ R i y H4)
    (hd : LcEnd H1 Dd n R Q) : LcW (ItzB K k1 k2 a b) g tYes (tmE te) vs σ H1 Dd Q :=
  lcP (walk_zipB hn) R hR hD (fun H e => ⟨sqB_kp hx e, sqB_kp hy e⟩) hz hm (fun i x y T H _ h1 h2 e t => hs i x y T H h1 h2 e t) hd
theorem r_zipB {tx : TA} {S : It → Hp → Prop} : iZipB K tx σ H S = tx σ H fun vs H1 => ∃ k1 k2 a b xs ys, vs = [.ref a, .ref b] ∧ SqB K k1 H1 a xs ∧ SqB K k2 H1 b ys ∧ S (ItzB K k1 k2 a b) H1 := rfl
end

/-! ### comb, lcm -/
theorem fp_abs {n : Int} {c : Nat} (h0 : 0 ≤ n) (hn : n.natAbs ≤ 2 ^ c) (k : Nat) : (k : Int) ≤ n → (Builtin.Math.fallingProduct n k).natAbs ≤ 2 ^ (c * k) := by
  induction k with
  | zero =>
    intro _
    rw [PySem.W.mc_fp_zero]
    simp
  | succ k ih =>
    intro h
    rw [PySem.W.mc_fp_succ, Int.natAbs_mul, Nat.mul_succ, Nat.pow_add]
    have h1 := ih (by omega)
    have h2 : (n - (k : Int)).natAbs ≤ 2 ^ c := by omega
    exact Nat.mul_le_mul h1 h2
theorem lg {m c : Nat} (h : m ≤ 2 ^ c) (hc : c < 100000000) : m.log2 < bitsLine := by
  have p : 0 < 2 ^ c := Nat.two_pow_pos c
  have h2 : m < 2 ^ (c + 1) := by
    rw [Nat.pow_succ]
    omega
  by_cases h0 : m = 0
  · subst h0
    show (0 : Nat).log2 < 2 ^ 27
    decide +kernel
  have := (Nat.log2_lt h0).mpr h2
  show m.log2 < 2 ^ 27
  omega
/-- the numbers that comb is asked for -/
def CombOk (a b : Int) : Prop := 0 ≤ a ∧ 0 ≤ b ∧ b ≤ 8 ∧ a < 2 ^ 300
theorem gives_comb {a b : Int} (t u : Tok) (h : CombOk a b) : Gives (Builtin.«math.comb» ⟨[.int a t, .int b u], []⟩) (.int (PySem.W.mcComb a b)) := by
  obtain ⟨ha, hb, hs, hl⟩ := h
  by_cases h : b > a
  · rw [PySem.W.mcComb_above h]
    exact PySem.W.mc_run_comb0 a t b u (by omega) (by omega) h
  · have hm : min b (a - b) ≤ 8 := by omega
    have hm0 : 0 ≤ min b (a - b) := by omega
    have hq : PySem.W.mcComb a b = Builtin.Math.fallingProduct a (min b (a - b)).toNat / Builtin.Math.fallingProduct (min b (a - b)) (min b (a - b)).toNat := PySem.W.mcComb_at hb (by omega) rfl
    have h1 : (Builtin.Math.fallingProduct a (min b (a - b)).toNat).natAbs ≤ 2 ^ (300 * (min b (a - b)).toNat) := fp_abs ha (by omega) _ (by omega)
    have h2 : (PySem.W.mcComb a b).natAbs ≤ (Builtin.Math.fallingProduct a (min b (a - b)).toNat).natAbs := by
      rw [hq]
      exact Int.natAbs_ediv_le_natAbs _ _
    have hs : (PySem.W.mcComb a b).natAbs.log2 < bitsLine := lg (Nat.le_trans h2 h1) (by omega)
    have h3 : ¬min b (a - b) > Builtin.Math.maxSsize := by show ¬min b (a - b) > 2 ^ 63 - 1; omega
    have h4 : ¬min b (a - b) > Builtin.Math.manyFactors := by show ¬min b (a - b) > 20000; omega
    rw [hq] at hs ⊢
    exact PySem.W.mc_run_comb a t b u (by omega) (by omega) h h3 h4 (by omega) hs
section
variable {X : Cx}
def rComb : List V → Hp → VK → Prop := fun vs H Q => ∃ a b : Int, vs = [.int a, .int b] ∧ CombOk a b ∧ Q (.int (PySem.W.mcComb a b)) H
theorem cr_comb : CallR X (.builtin "math.comb") rComb := by
  intro pins s σ H vs us Q I r h
  obtain ⟨a, b, rfl, ok, q⟩ := h
  obtain ⟨t, u, rfl⟩ := Vals.int2 r
  exact call_function_meets PySem.W.MGF.kind_comb PySem.W.MGF.plain_comb PySem.W.MGF.entry_comb (PySem.W.MGF.args_comb _ _) (gives_comb t u ok).meets ⟨.int _, H, I.tok _, ⟨_, rfl⟩, q⟩
def rLcm : List V → Hp → VK → Prop := fun vs H Q => ∃ a b : Int, vs = [.int a, .int b] ∧ a.natAbs < 2 ^ 13000 ∧ b.natAbs < 2 ^ 13000 ∧ Q (.int ((Nat.lcm a.natAbs b.natAbs : Nat) : Int)) H
theorem log_le {m c : Nat} (h : m < 2 ^ c) : m.log2 ≤ c := by
  by_cases h0 : m = 0
  · subst h0
    exact Nat.zero_le _
  exact Nat.le_of_lt ((Nat.log2_lt h0).mpr h)
theorem lcm_le (m n : Nat) : m.lcm n ≤ m * n := Nat.div_le_self _ _
theorem cr_lcm : CallR X (.builtin "math.lcm") rLcm := by
  intro pins s σ H vs us Q I r h
  obtain ⟨a, b, rfl, la, lb, q⟩ := h
  obtain ⟨t, u, rfl⟩ := Vals.int2 r
  have hl : (Nat.lcm a.natAbs b.natAbs) ≤ 2 ^ 26000 := by
    have h1 := lcm_le a.natAbs b.natAbs
    have h2 := Nat.mul_le_mul (Nat.le_of_lt la) (Nat.le_of_lt lb)
    rw [← Nat.pow_add] at h2
    exact Nat.le_trans h1 h2
  have h1 : (max 1 a.natAbs).log2 ≤ 13000 := log_le (by
    have : 1 < 2 ^ 13000 := Nat.one_lt_two_pow (by decide)
    omega)
  have h2 : (max a.natAbs b.natAbs).log2 ≤ 13000 := log_le (by omega)
  have e : Nat.lcm 1 a.natAbs = a.natAbs := PySem.W.mc_lcm_one _
  have g := PySem.W.mg_run_lcm a t b u (by omega) (by omega) (by rw [e]; exact lg hl (by decide))
  rw [e] at g
  exact call_function_meets PySem.W.MGF.kind_lcm PySem.W.MGF.plain_lcm PySem.W.MGF.entry_lcm (PySem.W.MGF.args_lcm _ _) g.meets ⟨.int _, H, I.tok _, ⟨_, rfl⟩, q⟩

/-! ### words alone -/
/-- the written values put in the parameters' order: ix tells for each parameter which of them -/
def arr {α : Type} (ix : List Nat) (ws : List α) : List α := ix.filterMap (ws[·]?)
theorem arr_vals {zs : List V} {ws : List Value} (r : Vals zs ws) : ∀ ix : List Nat, Vals (arr ix zs) (arr ix ws)
  | [] => .nil
  | i :: ix => by
    have ih := arr_vals r ix
    unfold arr at ih ⊢
    have hl := r.length
    cases h : zs[i]? with
    | none =>
      have h2 : ws[i]? = none := by
        rw [List.getElem?_eq_none_iff] at h ⊢
        omega
      rw [List.filterMap_cons, List.filterMap_cons, h, h2]
      exact ih
    | some z =>
      obtain ⟨u, hu, ru⟩ := r.get h
      rw [List.filterMap_cons, List.filterMap_cons, h, hu]
      exact .cons ru ih
def KwOk (fd : FuncData) (ps ks : List Str) (ix : List Nat) : Prop := ∀ (s : Shared) (ws : List Value), ws.length = ks.length → BindsTo s fd ⟨[], ks.zip ws⟩ (ps.zip (arr ix ws))
def HasW (P : Program) (w : World) (K : PySem.W.Frag) (mg : Str → Option Value) (base : Heap) (x : Str) (k : Nat) (ps : List Str) (sp : Sp) (ks : List Str) (ix : List Nat) : Prop :=
  ∃ f fd, FnOk P w K mg base CX0 k f fd ps sp ∧ mg x = some (.ref f) ∧ PySem.W.keepIn K (.ref f) = true ∧ KwOk fd ps ks ix
/-- the def st of the text, called by words -/
def DfW (K : PySem.W.Frag) (mg : Str → Option Value) (x : Str) (st : Stmt) (ps ks : List Str) (ix : List Nat) : Prop :=
  ∃ f fd, Fun K x x st f fd ∧ mg x = some (.ref f) ∧ KwOk fd ps ks ix
theorem HasW.of {P : Program} {w : World} {K : PySem.W.Frag} {mg : Str → Option Value} {base : Heap} {x : Str} {st : Stmt} {ps ks : List Str} {ix : List Nat} {k : Nat} {sp : Sp} (D : DfW K mg x st ps ks ix)
    (h : ∀ f fd, Fun K x x st f fd → FnOk P w K mg base CX0 k f fd ps sp) : HasW P w K mg base x k ps sp ks ix := by
  obtain ⟨f, fd, F, hm, hb⟩ := D
  exact ⟨f, fd, h f fd F, hm, F.kp, hb⟩
def tW (sp : Sp) (m : Nat) (ix : List Nat) (tk : TA) : TE := fun σ H Q => tk σ H fun zs H1 => zs.length = m ∧ sp (arr ix zs) H1 Q E0
theorem pe_hasW {x : Str} {k : Nat} {ps ks : List Str} {ix : List Nat} {sp : Sp} {p pos : Pos} {kws : List Keyword} {tk : TA}
    (h : HasW X.prog X.w X.K X.mg X.base x k ps sp ks ix) (hr : Room k X.A) (hkw : PK X kws tk) (hg : Gl X x := by rfl)
    (hdb : (x == ("__debug__" : Str)) = false := by decide)
    (hall : (backToKw pos (keywordEach kws X.env)).all (·.1.isSome) = true := by rfl) (hks : (backToKw pos (keywordEach kws X.env)).filterMap (·.1) = ks := by rfl)
    (hpl : ((backTo pos (starEach [] X.env)).any (·.1) || (backToKw pos (keywordEach kws X.env)).any (·.1.isNone)) = false := by rfl) :
    PE X (.Call (.Name x p) [] kws pos) (tW sp ks.length ix tk) := by
  obtain ⟨f, fd, F, hm, hk, hb⟩ := h
  refine ⟨fun pins s σ H Q I h => ?_⟩
  apply wpAny_Call_Name_kw (ld_glob I hg hm ?_ hdb)
  apply PySem.W.callWith_KW0 (h₀ := X.base) I.ok.mod.kin hk hall ?_ hpl
  refine thn (hkw.run pos pins s σ H _ I h) fun ws s2 ⟨zs, H2, I2, rz, l, hsp⟩ => ⟨I2.kIn, ?_⟩
  rw [hks]
  have r2 := arr_vals rz ix
  have bnd := hb s2 ws (by rw [← rz.length]; exact l)
  refine wpAny_call (codeAny_mono (F.run X.A X.stack s2 H2 ⟨[], ks.zip ws⟩ (arr ix ws) (arr ix zs) Q E0 hr I2.env0 bnd r2 hsp) fun r s' hc => ?_)
  cases r with
  | error er => exact ((pass0 (X := X)) pins σ H2 s2 er s' I2 hc)
  | ok fl =>
    cases fl with
    | ret u => exact I2.after hc
    | next => exact hc.elim
    | brk => exact hc.elim
    | cont => exact hc.elim
theorem r_tW {sp : Sp} {m : Nat} {ix : List Nat} {tk : TA} {σ : L2.St} {H : Hp} {Q : VK} : tW sp m ix tk σ H Q = tk σ H fun zs H1 => zs.length = m ∧ sp (arr ix zs) H1 Q E0 := rfl
end

/-! ### a tuple turned about -/
theorem fm_congr {α β : Type} {f g : α → Option β} : ∀ {l : List α}, (∀ x ∈ l, f x = g x) → l.filterMap f = l.filterMap g
  | [], _ => rfl
  | a :: l, h => by
    rw [List.filterMap_cons, List.filterMap_cons, h a (List.mem_cons_self ..), fm_congr fun x hx => h x (List.mem_cons_of_mem _ hx)]
theorem rev_pick (xs : Array Value) : ((List.range xs.size).filterMap fun (m : Nat) => xs[(((xs.size : Int) - 1) + (m : Int) * (-1)).toNat]?).toArray = xs.toList.reverse.toArray := by
  congr 1
  apply List.ext_getElem?
  intro i
  have e : (List.range xs.size).filterMap (fun (m : Nat) => xs[(((xs.size : Int) - 1) + (m : Int) * (-1)).toNat]?) = (List.range xs.size).filterMap (fun m => xs.toList.reverse[m]?) := by
    apply fm_congr
    intro m hm
    replace hm := List.mem_range.mp hm
    have z : (((xs.size : Int) - 1) + (m : Int) * (-1)).toNat = xs.size - 1 - m := by omega
    rw [z, List.getElem?_reverse (by simpa using hm)]
    simp
  rw [e]
  have : (List.range xs.size).filterMap (fun m => xs.toList.reverse[m]?) = xs.toList.reverse := by
    have h : ∀ (l : List Value), (List.range l.length).filterMap (fun m => l[m]?) = l := by
      intro l
      induction l with
      | nil => rfl
      | cons a l ih =>
        rw [List.length_cons, List.range_succ_eq_map, List.filterMap_cons]
        simp only [List.getElem?_cons_zero, List.filterMap_map]
        congr 1
    have h2 := h xs.toList.reverse
    rw [List.length_reverse, Array.length_toList] at h2
    exact h2
  rw [this]
section
variable {prog : Program} {w : World} {A : Around} {E : Value → Shared → Prop} {s : Shared}
theorem adjust_rev (n : Nat) : Builtin.Slice.sliceAdjust none none (-1) (n : Int) = ((n : Int) - 1, -1) := by
  unfold Builtin.Slice.sliceAdjust
  simp
theorem places_rev (n : Nat) : Builtin.Slice.slicePlaces ((n : Int) - 1) (-1) (-1) = n := by
  unfold Builtin.Slice.slicePlaces
  have h1 : ¬ ((-1 : Int) > 0) := by omega
  rw [if_neg h1]
  split
  · have : ((n : Int) - 1 - -1 - 1) / (- -1) = (n : Int) - 1 := by
      rw [show (- -1 : Int) = 1 by decide, Int.ediv_one]
      omega
    rw [this]
    omega
  · omega
theorem item_rev {t sl : Addr} {items : Array Value} {vl vu vs : Value} {Q : Value → Shared → Prop} (ht : IsTup s.heap t items) (hs : s.heap.IsSliceOf sl vl vu vs) (pl : IsPart vl none) (pu : IsPart vu none) (ps : IsPart vs (some (-1)))
    (h : Q (.ref s.heap.objs.size) { s with heap := s.heap.push { cls := .type "tuple", data := .seq items.toList.reverse.toArray } })
    (hsz : items.size ≤ sizeLine) : wpAny (model prog w) A (getItem (.ref t) (.ref sl)) Q E s := by
  have hok : sizeOk (.seq items.toList.reverse.toArray) := by
    show items.toList.reverse.toArray.size ≤ sizeLine
    simpa using hsz
  obtain ⟨os, hos, hcs, hds⟩ := id hs
  have hTs : s.TypeIs (.ref sl) "slice" := ⟨os, hos, hcs⟩
  have hTt : s.TypeIs (.ref t) "tuple" := let ⟨o, ho, hc, _⟩ := ht; ⟨o, ho, hc⟩
  unfold getItem
  try with_reducible refine wpAny_holding ?_
  first | refine wpAny_bind (wpAny_pure ?_) | skip
  refine wpAny_bind (wpAny_sequenceKey hTt (by decide) ?_)
  apply wpAny_bind
  apply wpAny_callSpecial?_slot (name := Str.ofString "__getitem__") hTt PyProof.Rows.slot_tuple_getitem
  apply wpAny_call_entry PyProof.Rows.slot_tuple_getitem hTt PyProof.Rows.entry_tuple_getitem ?_ (PyProof.Rows.args_tuple_getitem _ _)
  show wpAny _ _ (Builtin.Tuple.tupleItemsOf (.ref t) >>= _) _ _ s
  refine wpAny_bind (tupleItemsOf_ ht ?_)
  refine wpAny_bind (wpAny_typeOf hTs ?_)
  rw [if_pos (by decide)]
  apply wpAny_bind
  unfold Builtin.Slice.sliceApplied Builtin.Slice.sliceFields
  apply wpAny_bind
  refine wpAny_bind (wpAny_field hos hds (x := vl) rfl ?_)
  refine wpAny_bind (wpAny_field hos hds (x := vu) rfl ?_)
  refine wpAny_bind (wpAny_field hos hds (x := vs) rfl (wpAny_pure ?_))
  refine wpAny_bind (HT.slicePart_ ps ?_)
  show wpAny _ _ (if ((-1 : Int) == 0) = true then _ else _) _ _ s
  rw [if_neg (by decide)]
  refine wpAny_bind (HT.slicePart_ pl ?_)
  refine wpAny_bind (HT.slicePart_ pu ?_)
  refine wpAny_bind (wpAny_pure ?_)
  show wpAny _ _ (match Builtin.Slice.sliceAdjust none none (-1) (items.size : Int) with | (lo, hi) => pure (lo, (-1 : Int), Builtin.Slice.slicePlaces lo hi (-1))) _ _ s
  rw [adjust_rev]
  show wpAny _ _ (pure ((items.size : Int) - 1, (-1 : Int), Builtin.Slice.slicePlaces ((items.size : Int) - 1) (-1) (-1))) _ _ s
  rw [places_rev]
  refine wpAny_pure ?_
  have no : ¬ ((((items.size : Int) - 1 == 0) && ((-1 : Int) == 1) && (items.size == items.size)) = true) := by
    intro q
    rw [Bool.and_eq_true, Bool.and_eq_true] at q
    exact absurd q.1.2 (by decide)
  show wpAny _ _ (if (((items.size : Int) - 1 == 0) && ((-1 : Int) == 1) && (items.size == items.size)) = true then _ else _) _ _ s
  rw [if_neg no, rev_pick]
  first
    | exact wpAny_bind (m := Builtin.Tuple.tupleExact _) (wpAny_newObj_type (wpAny_pure ⟨_, rfl, wpAny_pure h⟩) hok)
    | exact wpAny_bind (m := Builtin.Tuple.tupleExact _) (wpAny_newObj_type (wpAny_bind (wpAny_pure (wpAny_pure ⟨_, rfl, wpAny_pure h⟩))) hok)
    | exact wpAny_bind (wpAny_bind (m := Builtin.Tuple.tupleExact _) (wpAny_newObj_type (wpAny_pure (wpAny_pure ⟨_, rfl, wpAny_pure h⟩)) hok))
    | exact wpAny_bind (wpAny_bind (m := Builtin.Tuple.tupleExact _) (wpAny_newObj_type (wpAny_pure ⟨_, rfl, wpAny_pure h⟩) hok))
end
section
variable {X : Cx}
def tRevT (K : PySem.W.Frag) (te : TE) : TE := fun σ H Q => te σ H fun x H1 => ∃ a xs, x = .ref a ∧ SqT K H1 a xs ∧ New H1 (.tup xs.reverse) Q
theorem pe_revT {e : Expr} {te : TE} {k : Nat} {p1 p2 p3 pos : Pos} (he : PE X e te) : PE X (.Subscript e (.Slice none none (some (.UnaryOp .USub (.Constant (.int 1) k p1) p2)) p3) pos) (tRevT X.K te) := by
  refine ⟨fun pins s σ H Q I h => ?_⟩
  refine Subscript_ (thn (he.run pins s σ H _ I h) fun v s1 ⟨x, H1, I1, r1, q1⟩ => ?_)
  obtain ⟨a, xs, ex, hx, q⟩ := q1
  subst ex
  cases r1
  have hst : PO X (some (.UnaryOp .USub (.Constant (.int 1) k p1) p2)) (tPart (tUn (rU fun i => .int (-i)) (tC (.int 1)))) := po_some (pe_un un_neg pe_int)
  apply wpAny_Slice
  refine thn (po_none.run pins s1 σ H1 (fun o H2 => o = none ∧ H2 = H1) I1 ⟨rfl, rfl⟩) fun vl s2 ⟨l, H2, I2, pl, el, e2⟩ => ?_
  cases el
  cases e2
  refine thn (po_none.run pins s2 σ H1 (fun o H2 => o = none ∧ H2 = H1) I2 ⟨rfl, rfl⟩) fun vu s3 ⟨u, H3, I3, pu, eu, e3⟩ => ?_
  cases eu
  cases e3
  refine thn (hst.run pins s3 σ H1 (fun o H2 => o = some (-1) ∧ H2 = H1) I3 ⟨1, rfl, -1, rfl, rfl, rfl⟩) fun vs s4 ⟨o, H4, I4, ps, eo, e4⟩ => ?_
  cases eo
  cases e4
  let so : Obj := { cls := .type "slice", data := .fields #[vl, vu, vs] }
  have I5 : Inv X pins σ H1 { s4 with heap := s4.heap.push so } := I4.kept (t' := s4.toks) fun b ob q => Heap.get?_push_of_some _ q
  obtain ⟨its, r, ht, hz⟩ := I5.tuple hx
  have hlen := r.length
  have hT : ({ s4 with heap := s4.heap.push so } : Shared).TypeIs (.ref a) "tuple" := let ⟨o, ho, hc, _⟩ := ht; ⟨o, ho, hc⟩
  show wpAny (model X.prog X.w) X.A (subscriptTail e (.Slice none none (some (.UnaryOp .USub (.Constant (.int 1) k p1) p2)) p3) (.ref a) (.ref s4.heap.objs.size)) (EP X pins σ Q) X.xe { s4 with heap := s4.heap.push so }
  refine tail_any (ops := [.ref a, .ref s4.heap.objs.size]) hT PyProof.Rows.slot_tuple_getitem.lookup ?_ (by with_unfolding_all rfl)
  refine item_rev ht (Heap.IsSliceOf.new _ vl vu vs) pl pu ps ?_ (by rw [List.size_toArray]; omega)
  refine ⟨.ref _, _, I5.laid (t' := s4.toks) (o := .tup xs.reverse) (fun b ob q => Heap.get?_push_of_some _ q) (Nat.le_refl _) ?_, rfl, ?_⟩
  · exact ⟨by rw [List.length_reverse]; omega, _, by simpa using r.reverse, IsTup.new _ _⟩
  · exact q.at _ (I5.hok.fresh (Nat.le_refl _))
theorem kRevT {K : PySem.W.Frag} {e : Expr} {te : TE} {k : Nat} {p1 p2 p3 pos : Pos} (he : PE X e te) (h : X.K = K := by rfl) : PE X (.Subscript e (.Slice none none (some (.UnaryOp .USub (.Constant (.int 1) k p1) p2)) p3) pos) (tRevT K te) := by
  subst h
  exact pe_revT he
theorem r_revT {K : PySem.W.Frag} {te : TE} {σ : L2.St} {H : Hp} {Q : VK} : tRevT K te σ H Q = te σ H fun x H1 => ∃ a xs, x = .ref a ∧ SqT K H1 a xs ∧ New H1 (.tup xs.reverse) Q := rfl
end
section
variable {P : Program} {w : World} {K : PySem.W.Frag} {mg : Str → Option Value} {base : Heap} {N : List Str} {q : Str} {sc : Scope} {f : Addr} {cd : Value} {A : Around} {outer : List Env} {s : Shared} {H : Hp} {E : XK}
theorem r_Kbb {s' s2 : Shared} {H' H2 : Hp} {sc' sc2 : Scope} {ce ce2 : Env} {fp fp2 : List Addr} : ((((cxOf CX0 P w K mg base N q sc f cd A outer s H E).nox).blk s' H' sc' ce fp).blk s2 H2 sc2 ce2 fp2).K = K := rfl
end

/-! ### ways to choose, small -/
def chs : Nat → Nat → Nat
  | _, 0 => 1
  | 0, _ + 1 => 0
  | n + 1, k + 1 => chs n k + chs n (k + 1)
theorem comb_chs {a b : Nat} (ha : a < 6) (hb : b < 6) : PySem.W.mcComb (a : Int) (b : Int) = ((chs a b : Nat) : Int) := by
  have h : ∀ a < 6, ∀ b < 6, PySem.W.mcComb ((a : Nat) : Int) ((b : Nat) : Int) = ((chs a b : Nat) : Int) := by decide +kernel
  exact h a ha b hb
theorem chs_le {a b : Nat} (ha : a < 6) (hb : b < 6) : chs a b ≤ 10 := by
  have h : ∀ a < 6, ∀ b < 6, chs a b ≤ 10 := by decide +kernel
  exact h a ha b hb
theorem chs_pos {a b : Nat} (ha : a < 6) (hb : b ≤ a) : 0 < chs a b := by
  have h : ∀ a < 6, ∀ b < a + 1, 0 < chs a b := by decide +kernel
  exact h a ha b (by omega)
theorem comb_ok {a b : Nat} (ha : a < 6) (hb : b < 6) : CombOk (a : Int) (b : Int) := ⟨by omega, by omega, by omega, by omega⟩
/-! ### all-yes chances -/
def hitsL (ps : List Int) (j : Nat) : List Int := ps.mapIdx fun k c => c * ((chs k j : Nat) : Int)
def ay (ps : List Int) (j : Nat) : Rat := (((hitsL ps j).sum : Int) : Rat) / ((ps.sum * ((chs (ps.length - 1) j : Nat) : Int) : Int) : Rat)
/-! ### blending -/
abbrev Zs := List (List Int × Rat)
def denW (z : List Int × Rat) : Int := z.1.sum * ((z.2.den : Nat) : Int)
def botF (zs : Zs) : Nat := zs.foldl (fun B z => Nat.lcm B (denW z).natAbs) 1
def wgt (B : Nat) (z : List Int × Rat) : Int := z.2.num * ((B : Int) / denW z)
def colW (B : Nat) (k : Nat) (zs : Zs) : List Int := zs.map fun z => wgt B z * z.1.getD k 0
def blendL (m : Nat) (zs : Zs) : List Int := (List.range m).map fun k => (colW (botF zs) k zs).sum
theorem botF_take {zs : Zs} {i : Nat} {z : List Int × Rat} (h : zs[i]? = some z) : botF (zs.take (i + 1)) = Nat.lcm (botF (zs.take i)) (denW z).natAbs := by
  unfold botF
  rw [List.take_add_one, h]
  simp
theorem lcm0 {a b : Nat} (ha : 0 < a) (hb : 0 < b) : 0 < Nat.lcm a b := Nat.lcm_pos ha hb
theorem botG (zs : Zs) : ∀ (B : Nat), 0 < B → (∀ z ∈ zs, 0 < denW z) → 0 < zs.foldl (fun B z => Nat.lcm B (denW z).natAbs) B ∧ B ∣ zs.foldl (fun B z => Nat.lcm B (denW z).natAbs) B ∧ ∀ z ∈ zs, (denW z).natAbs ∣ zs.foldl (fun B z => Nat.lcm B (denW z).natAbs) B := by
  induction zs with
  | nil => exact fun B h _ => ⟨h, Nat.dvd_refl _, fun r h => by simp at h⟩
  | cons z zs ih =>
    intro B hB hz
    have hd := hz z (List.mem_cons_self ..)
    obtain ⟨h1, h2, h3⟩ := ih (Nat.lcm B (denW z).natAbs) (lcm0 hB (by omega)) fun x hx => hz x (List.mem_cons_of_mem _ hx)
    refine ⟨h1, Nat.dvd_trans (Nat.dvd_lcm_left _ _) h2, fun x hx => ?_⟩
    rcases List.mem_cons.mp hx with rfl | hx
    · exact Nat.dvd_trans (Nat.dvd_lcm_right _ _) h2
    · exact h3 x hx
structure BlendOk (zs : Zs) (N m : Nat) (cs : List Int) (S : Int) : Prop where
  n0 : 0 < zs.length
  n1 : zs.length ≤ 8
  nN : N ≤ 800
  m0 : 2 ≤ m
  m1 : m ≤ 6
  len : ∀ z ∈ zs, z.1.length = m
  tp : ∀ z ∈ zs, 0 < z.1.sum
  ds : ∀ z ∈ zs, (denW z).natAbs < 2 ^ N
  tn : ∀ z ∈ zs, ∀ t ∈ z.1, 0 ≤ t ∧ t.natAbs < 2 ^ N
  rn : ∀ z ∈ zs, 0 ≤ z.2.num ∧ z.2.num.natAbs < 2 ^ N
  cl : cs.length = m
  S0 : 0 < S
  pr : ∀ k < m, (zs.map fun z => z.2 * ((z.1.getD k 0 : Int) : Rat) / ((z.1.sum : Int) : Rat)).sum = ((cs.getD k 0 : Int) : Rat) / (S : Rat)
  cp : ∃ c ∈ cs, c ≠ 0
theorem denW_pos {z : List Int × Rat} (h : 0 < z.1.sum) : 0 < denW z := Int.mul_pos h (den_pos _)
theorem botF_lt {N : Nat} : ∀ (zs : Zs) (i : Nat), (∀ z ∈ zs, (denW z).natAbs < 2 ^ N) → i ≤ zs.length → botF (zs.take i) < 2 ^ (i * N + 1)
  | zs, 0, _, _ => by
    rw [Nat.zero_mul, List.take_zero]
    show 1 < 2 ^ (0 + 1)
    decide
  | zs, i + 1, h, hi => by
    have hr : zs[i]? = some zs[i] := List.getElem?_eq_getElem (by omega)
    rw [botF_take hr]
    have h1 := botF_lt zs i h (by omega)
    have h2 := h _ (List.getElem_mem (h := show i < zs.length by omega))
    have e : (i + 1) * N + 1 = (i * N + 1) + N := by rw [Nat.add_mul]; omega
    rw [e, Nat.pow_add]
    exact Nat.lt_of_le_of_lt (lcm_le _ _) (Nat.mul_lt_mul'' h1 h2)
theorem botF_pos {zs : Zs} (h : ∀ z ∈ zs, 0 < z.1.sum) : 0 < botF zs := (botG zs 1 Nat.one_pos fun z hz => denW_pos (h z hz)).1
theorem botF_dvd {zs : Zs} (h : ∀ z ∈ zs, 0 < z.1.sum) {z : List Int × Rat} (hz : z ∈ zs) : denW z ∣ ((botF zs : Nat) : Int) :=
  Int.natAbs_dvd.mp (Int.ofNat_dvd.mpr ((botG zs 1 Nat.one_pos fun z hz => denW_pos (h z hz)).2.2 z hz))
theorem wgt_rat {B : Nat} {z : List Int × Rat} (h : 0 < z.1.sum) (hd : denW z ∣ (B : Int)) (t : Int) :
    ((wgt B z * t : Int) : Rat) = ((B : Int) : Rat) * (z.2 * (t : Rat) / ((z.1.sum : Int) : Rat)) := by
  obtain ⟨q, hq⟩ := hd
  have d0 := denW_pos h
  have e : (B : Int) / denW z = q := by rw [hq]; exact Int.mul_ediv_cancel_left _ (by omega)
  unfold wgt
  rw [e]
  have eB : ((B : Int) : Rat) = ((z.1.sum : Int) : Rat) * (((z.2.den : Nat) : Int) : Rat) * (q : Rat) := by
    rw [hq]
    unfold denW
    rw [Rat.intCast_mul, Rat.intCast_mul]
  rw [eB, Rat.intCast_mul, Rat.intCast_mul]
  have en : ((z.2.num : Int) : Rat) = z.2 * (((z.2.den : Nat) : Int) : Rat) := by
    have := Rat.num_divInt_den z.2
    rw [Rat.divInt_eq_div] at this
    have hn : (((z.2.den : Nat) : Int) : Rat) ≠ 0 := fun x => by
      have := congrArg Rat.num x
      have := den_pos z.2
      simp at *
      omega
    have h2 : ((z.2.num : Int) : Rat) / (((z.2.den : Nat) : Int) : Rat) = z.2 := this
    grind
  have hs : ((z.1.sum : Int) : Rat) ≠ 0 := fun x => by
    have := congrArg Rat.num x
    simp at this
    omega
  rw [en]
  grind
theorem col_rat {B : Nat} (k : Nat) : ∀ (zs : Zs), (∀ z ∈ zs, 0 < z.1.sum ∧ denW z ∣ (B : Int)) →
    (((colW B k zs).sum : Int) : Rat) = ((B : Int) : Rat) * (zs.map fun z => z.2 * ((z.1.getD k 0 : Int) : Rat) / ((z.1.sum : Int) : Rat)).sum
  | [], _ => by
    simp [colW]
  | z :: zs, h => by
    have ih := col_rat (B := B) k zs fun x hx => h x (List.mem_cons_of_mem _ hx)
    obtain ⟨h1, h2⟩ := h z (List.mem_cons_self ..)
    have e : colW B k (z :: zs) = wgt B z * z.1.getD k 0 :: colW B k zs := rfl
    rw [e, List.sum_cons, Rat.intCast_add, ih, wgt_rat h1 h2, List.map_cons, List.sum_cons]
    grind
theorem blend_col {zs : Zs} {N m : Nat} {cs : List Int} {S : Int} (h : BlendOk zs N m cs S) {k : Nat} (hk : k < m) : S * (colW (botF zs) k zs).sum = ((botF zs : Nat) : Int) * cs.getD k 0 := by
  have e := col_rat (B := botF zs) k zs fun z hz => ⟨h.tp z hz, botF_dvd h.tp hz⟩
  rw [h.pr k hk] at e
  have hS : ((S : Int) : Rat) ≠ 0 := fun x => by
    have := congrArg Rat.num x
    have := h.S0
    simp at *
    omega
  have e2 : ((S * (colW (botF zs) k zs).sum : Int) : Rat) = ((((botF zs : Nat) : Int) * cs.getD k 0 : Int) : Rat) := by
    rw [Rat.intCast_mul, Rat.intCast_mul, e]
    grind
  exact Rat.intCast_inj.mp e2
theorem blend_plain {zs : Zs} {N m : Nat} {cs : List Int} {S : Int} (h : BlendOk zs N m cs S) : (blendL m zs).map (S * ·) = cs.map (((botF zs : Nat) : Int) * ·) := by
  apply List.ext_getElem?
  intro k
  by_cases hk : k < m
  · have hc : cs[k]? = some (cs.getD k 0) := by
      have hl : k < cs.length := by rw [h.cl]; exact hk
      rw [List.getD_eq_getElem?_getD, List.getElem?_eq_getElem hl]
      rfl
    have e := blend_col h hk
    rw [List.getElem?_map, List.getElem?_map, hc]
    simp only [blendL, List.getElem?_map, List.getElem?_range hk, Option.map_some]
    rw [e]
  · rw [List.getElem?_eq_none (by simp [blendL]; omega), List.getElem?_eq_none (by simp [h.cl]; omega)]
theorem sum_abs_lt {n : Nat} : ∀ (xs : List Int) (a : Nat), (∀ x ∈ xs, x.natAbs < 2 ^ n) → xs.length ≤ a → xs.sum.natAbs ≤ a * 2 ^ n
  | [], a, _, _ => by simp
  | x :: xs, 0, _, h => by simp at h
  | x :: xs, a + 1, h, hl => by
    have ih := sum_abs_lt xs a (fun y hy => h y (List.mem_cons_of_mem _ hy)) (by simpa using hl)
    have h1 := h x (List.mem_cons_self ..)
    rw [List.sum_cons, Nat.add_mul]
    omega
theorem mc_abs {a b : Int} {c : Nat} (h0 : 0 ≤ a) (ha : a.natAbs ≤ 2 ^ c) (hb : 0 ≤ b) (hb8 : b ≤ 8) : (PySem.W.mcComb a b).natAbs < 2 ^ (c * 8 + 1) := by
  by_cases h : b > a
  · rw [PySem.W.mcComb_above h]
    exact Nat.two_pow_pos _
  · have hm : min b (a - b) ≤ 8 := by omega
    have hq : PySem.W.mcComb a b = PySem.Builtin.Math.fallingProduct a (min b (a - b)).toNat / PySem.Builtin.Math.fallingProduct (min b (a - b)) (min b (a - b)).toNat := PySem.W.mcComb_at hb (by omega) rfl
    have h1 : (PySem.Builtin.Math.fallingProduct a (min b (a - b)).toNat).natAbs ≤ 2 ^ (c * (min b (a - b)).toNat) := fp_abs h0 ha _ (by omega)
    have h2 : (PySem.W.mcComb a b).natAbs ≤ (PySem.Builtin.Math.fallingProduct a (min b (a - b)).toNat).natAbs := by
      rw [hq]
      exact Int.natAbs_ediv_le_natAbs _ _
    have h3 : c * (min b (a - b)).toNat ≤ c * 8 := Nat.mul_le_mul_left _ (by omega)
    have h4 := Nat.pow_le_pow_right (show 0 < 2 by decide) h3
    have h5 : 2 ^ (c * 8 + 1) = 2 ^ (c * 8) + 2 ^ (c * 8) := by rw [Nat.pow_succ]; omega
    have := Nat.two_pow_pos (c * 8)
    omega
theorem BlendOk.sl {zs : Zs} {N m : Nat} {cs : List Int} {S : Int} (h : BlendOk zs N m cs S) {z : List Int × Rat} (hz : z ∈ zs) : z.1.sum.natAbs < 2 ^ N := by
  have h1 := h.ds z hz
  unfold denW at h1
  rw [Int.natAbs_mul] at h1
  have h2 : 1 ≤ (((z.2.den : Nat) : Int)).natAbs := by have := den_pos z.2; omega
  have h3 := Nat.mul_le_mul_left z.1.sum.natAbs h2
  omega
theorem BlendOk.dl {zs : Zs} {N m : Nat} {cs : List Int} {S : Int} (h : BlendOk zs N m cs S) {z : List Int × Rat} (hz : z ∈ zs) : (((z.2.den : Nat) : Int)).natAbs < 2 ^ N := by
  have h1 := h.ds z hz
  unfold denW at h1
  rw [Int.natAbs_mul] at h1
  have h2 : 1 ≤ z.1.sum.natAbs := by have := h.tp z hz; omega
  have h3 := Nat.mul_le_mul_right (((z.2.den : Nat) : Int)).natAbs h2
  omega

theorem kMax {X : Cx} {K : PySem.W.Frag} (hc : X.calm = true) (h : X.K = K := by rfl) : CallR X (.builtin "max") (rMax K) := by
  subst h
  exact cr_max hc
/-- a power that is written out, as one value -/
theorem pe_pow {X : Cx} {a b : Expr} {i j c : Int} {pos : Pos} (ha : PE X a (tC (.int i))) (hb : PE X b (tC (.int j))) (h : CPow i j) (e : i ^ j.toNat = c) : PE X (.BinOp a .Pow b pos) (tC (.int c)) :=
  PE.imp (pe_op op_pow ha hb) fun σ H Q q => ⟨i, j, rfl, rfl, h, by
    have q2 : Q (.int c) H := q
    rw [← e] at q2
    exact q2⟩
theorem pe_less {X : Cx} {a b : Expr} {i j c : Int} {pos : Pos} (ha : PE X a (tC (.int i))) (hb : PE X b (tC (.int j))) (e : i - j = c) : PE X (.BinOp a .Sub b pos) (tC (.int c)) :=
  PE.imp (pe_op op_sub ha hb) fun σ H Q q => ⟨i, j, rfl, rfl, by
    have q2 : Q (.int c) H := q
    rw [← e] at q2
    exact q2⟩

/-! comprehensions that draw; a list or a tuple walked, indexed -/
section
variable {g : TG} {te : TE} {vs : List Nat} {σ : L2.St} {H1 : Hp} {Dd v : Addr} {Q : VK} {K : PySem.W.Frag} {a : Addr} {xs : List V} {D : Ends} {H : Hp}
def LcV (v : Addr) (H1 : Hp) (Dd : Addr) (R : Nat → V → Hp → Prop) (i : Nat) (H : Hp) : Prop :=
  ∃ acc : List V, H Dd = some (.lst acc) ∧ acc.length = i ∧ Gv v H1 H ∧ ∀ (j : Nat) y, acc[j]? = some y → R j y H
theorem vat_ne (hD : H1 Dd = none) (hv : VatAt H1 v) : Dd ≠ v := fun z => by
  obtain ⟨x, y, w, h1, _⟩ := hv
  rw [← z, hD] at h1
  cases h1
theorem lcV_turn {R : Nat → V → Hp → Prop} (hR : ∀ i y H H', Kp H H' → R i y H → R i y H') (hD : H1 Dd = none) (hv : VatAt H1 v) {i : Nat} {H H4 : Hp} {y : V}
    (p : LcV v H1 Dd R i H) (e : Gv v H H4) (r : R i y H4) (hi : i < 1000000) :
    ∃ acc, H4 Dd = some (.lst acc) ∧ acc.length < sizeLine ∧ LcV v H1 Dd R (i + 1) (upd H4 Dd (.lst (acc ++ [y]))) := by
  obtain ⟨acc, h1, h2, h3, h4⟩ := p
  have dv := vat_ne hD hv
  have h5 := e.lst dv h1
  have k : Kp H4 (upd H4 Dd (.lst (acc ++ [y]))) := fun b o hb n => by
    rw [upd_ne]
    · exact hb
    · intro z
      rw [z, h5] at hb
      exact n _ (Option.some.inj hb).symm
  refine ⟨acc, h5, Nat.lt_of_lt_of_le (show acc.length < 1000000 by omega) (by decide), acc ++ [y], upd_same, by simp [h2], ⟨hv, fun b o n hb => ?_, ?_⟩, fun j z hz => ?_⟩
  · rw [upd_ne (ne_of_none hb hD)]
    exact (h3.trans e).keep _ _ n hb
  · obtain ⟨x, y, w, q1, q2⟩ := e.new
    exact ⟨x, y, w, by rw [upd_ne (Ne.symm dv)]; exact q1, q2⟩
  · by_cases hj : j < acc.length
    · rw [List.getElem?_append_left hj] at hz
      exact hR _ _ _ _ (e.kp.trans k) (h4 j z hz)
    · have hj2 : j = acc.length := by
        have := (List.getElem?_eq_some_iff.mp hz).1
        rw [List.length_append, List.length_singleton] at this
        omega
      subst hj2
      rw [List.getElem?_append_right (Nat.le_refl _), Nat.sub_self] at hz
      cases hz
      rw [h2]
      exact hR _ _ _ _ k r
theorem lcV_start {R : Nat → V → Hp → Prop} (hD : H1 Dd = none) (hv : VatAt H1 v) : LcV v H1 Dd R 0 (upd H1 Dd (.lst [])) :=
  ⟨[], upd_same, rfl, .of hv (Ex.new hD), fun j y h => by simp at h⟩
/-- what is wanted behind a comprehension that draws -/
def LcEndV (v : Addr) (H1 : Hp) (Dd : Addr) (n : Nat) (R : Nat → V → Hp → Prop) (Q : VK) : Prop :=
  ∀ H ys, Gv v H1 H → H Dd = some (.lst ys) → ys.length = n → (∀ (i : Nat) y, ys[i]? = some y → R i y H) → Q (.ref Dd) H
theorem lcRv {lo : Int} {n : Nat} {j : Nat} (R : Nat → V → Hp → Prop) (hR : ∀ i y H H', Kp H H' → R i y H → R i y H') (hD : H1 Dd = none) (hv : VatAt H1 v) (hz : n ≤ 100000)
    (hw : ∀ x, wipe ((wipe σ vs).set j (some x)) vs = wipe σ vs)
    (hs : ∀ (i : Nat) H, i < n → Gv v H1 H → tmE te ((wipe σ vs).set j (some (.int (lo + i)))) H fun y H4 => Gv v H H4 ∧ R i y H4)
    (hd : LcEndV v H1 Dd n R Q) : LcW (Itr lo n) (gName j) tYes (tmE te) vs σ H1 Dd Q :=
  lc_range (LcV v H1 Dd R) (lcV_start hD hv) (fun i H hi p => by
    obtain ⟨acc, q1, q2, q3, q4⟩ := id p
    refine ⟨hw _, ?_⟩
    obtain ⟨R0, z1, z2⟩ := hs i H hi q3
    exact ⟨R0, z1, fun y H4 r0 => lcV_turn hR hD hv p (z2 y H4 r0).1 (z2 y H4 r0).2 (by omega)⟩)
    fun H ⟨acc, q1, q2, q3, q4⟩ => hd H acc q3 q1 q2 q4
/-! ### a list or a tuple -/
def ItS (K : PySem.W.Frag) : Bool → Addr → It
  | true => Itl K
  | false => Itt K
def iSeq (K : PySem.W.Frag) (tl : TE) : TI := fun σ H R => tl σ H fun x H1 => ∃ a k, x = .ref a ∧ (∃ xs, SqB K k H1 a xs) ∧ R (ItS K k a) H1
theorem r_seqI {tl : TE} {S : It → Hp → Prop} : iSeq K tl σ H S = tl σ H fun x H1 => ∃ a k, x = .ref a ∧ (∃ xs, SqB K k H1 a xs) ∧ S (ItS K k a) H1 := rfl
theorem loopB {k : Bool} {a : Addr} {xs : List V} {tb : TS} (Pv : Nat → L2.St → Hp → Prop) (h0 : Pv 0 σ H) (hl : ∀ i σ H, i ≤ xs.length → Pv i σ H → SqB K k H a xs)
    (hs : ∀ i x σ H, xs[i]? = some x → Pv i σ H → g x σ H fun σ2 H2 => tb { nx := Pv (i + 1), rt := D.rt, bk := D.nx, ct := Pv (i + 1) } σ2 H2) (hd : ∀ σ H, Pv xs.length σ H → D.nx σ H) : LoopW (ItS K k a) g tb D σ H := by
  cases k
  · exact for_tup Pv h0 hl hs hd
  · exact for_list Pv h0 hl hs hd
theorem lcB {k : Bool} (R : Nat → V → Hp → Prop) (hR : ∀ i y H H', Kp H H' → R i y H → R i y H') (hD : H1 Dd = none) (hx : SqB K k H1 a xs) (hz : xs.length ≤ 100000)
    (hs : ∀ (i : Nat) x H, xs[i]? = some x → Ex H1 H → g x (wipe σ vs) H fun σ2 H2 => wipe σ2 vs = wipe σ vs ∧ tmE te σ2 H2 fun y H4 => Ex H H4 ∧ R i y H4)
    (hg : GMono g)
    (hd : LcEnd H1 Dd xs.length R Q) : LcW (ItS K k a) g tYes (tmE te) vs σ H1 Dd Q := by
  cases k
  · exact lcT R hR hD hx hz hs (fun i x H S S' _ h q => hg _ _ _ _ _ h q) hd
  · exact lcL (J0 := True) R hR hD hx hz hs (fun i x H S S' _ h q => hg _ _ _ _ _ h q) hd
theorem sqB_or {k : Bool} {a : Addr} {xs : List V} (h : SqB K k H a xs) : SqL K H a xs ∨ SqT K H a xs := by
  cases k
  · exact .inr h
  · exact .inl h
theorem q_ixB {k : Bool} {p : Addr} {xs : List V} {i : Int} {v : V} (h : SqB K k H p xs) (e : atI xs i = some v) (q : Q v H) : rIxL K (.ref p) (.int i) H Q ∨ rIxT K (.ref p) (.int i) H Q := by
  cases k
  · exact .inr (q_ixT h e q)
  · exact .inl (q_ixL h e q)
end
section
variable {X : Cx} {tg : Expr} {K : PySem.W.Frag}
theorem pi_seq {l : Expr} {tl : TE} (hl : PE X l tl) (h : X.K = K := by rfl) : PI X tg l (iSeq K tl) := by
  subst h
  refine ⟨fun pins s σ H R I h => ?_⟩
  refine thn (hl.run pins s σ H _ I h) fun v s1 ⟨x, H1, I1, r1, q1⟩ => ?_
  obtain ⟨a, k, e, ⟨xs, hq⟩, q⟩ := q1
  subst e
  cases r1
  cases k
  · obtain ⟨its, rv, p, hz⟩ := I1.tuple hq
    refine wpAny_pyIter_tuple (show s1.heap.IsTuple a its.toArray from p) ?_
    refine ⟨s1.heap.objs.size, [s1.heap.objs.size], _, _, H1, rfl, I1.kept (t' := s1.toks) fun b o e => Heap.get?_push_of_some _ e, turn_tuple a _, ⟨_, Heap.get?_push_size _ rfl, rfl, rfl⟩, fun b hb => ?_, q⟩
    have e : b = s1.heap.objs.size := by simpa using hb
    subst e
    exact I1.fpOk (Nat.le_refl _) (I1.hok.fresh (Nat.le_refl _))
  · obtain ⟨its, rv, p, hz⟩ := I1.list hq
    refine wpAny_pyIter_list p.isList ?_
    refine ⟨s1.heap.objs.size, [s1.heap.objs.size], _, _, H1, rfl, I1.kept (t' := s1.toks) fun b o e => Heap.get?_push_of_some _ e, turn_list a _, ⟨_, Heap.get?_push_size _ rfl, rfl, rfl⟩, fun b hb => ?_, q⟩
    have e : b = s1.heap.objs.size := by simpa using hb
    subst e
    exact I1.fpOk (Nat.le_refl _) (I1.hok.fresh (Nat.le_refl _))
def rIxB (K : PySem.W.Frag) : R2 := fun x y H Q => rIxL K x y H Q ∨ rIxT K x y H Q
theorem ixB (h : X.K = K := by rfl) : IxR X (rIxB K) := by
  subst h
  exact ix_list.or ix_tup
theorem call_intB : CallR X (.type "int") (fun xs H Q => (∃ i, xs = [.int i] ∧ Q (.int i) H) ∨ ∃ k, xs = [.bl k] ∧ Q (.int (if k then 1 else 0)) H) := call_int1
end

/-! comprehensions whose items may be lists -/
/-- all but the list d stays -/
def But (d : Addr) (H H' : Hp) : Prop := ∀ a o, (a ≠ d ∨ ∀ xs, o ≠ .lst xs) → H a = some o → H' a = some o
theorem Ex.but {d : Addr} {H H' : Hp} (e : Ex H H') : But d H H' := fun a o _ h => e a o h
theorem But.kp {d : Addr} {H H' : Hp} (b : But d H H') : Kp H H' := fun a o h n => b a o (.inr n) h
theorem But.trans {d : Addr} {H H1 H2 : Hp} (a : But d H H1) (b : But d H1 H2) : But d H H2 := fun x o n h => b x o n (a x o n h)
section
variable {g : TG} {te : TE} {vs : List Nat} {σ : L2.St} {H1 : Hp} {Dd v : Addr} {Q : VK} {K : PySem.W.Frag} {a : Addr} {xs : List V} {D : Ends} {H : Hp}
theorem lcB_turn {R : Nat → V → Hp → Prop} (hR : ∀ i y H H', But Dd H H' → R i y H → R i y H') (hD : H1 Dd = none) {i : Nat} {H H4 : Hp} {y : V}
    (p : LcJ H1 Dd R i H) (e : Ex H H4) (r : R i y H4) (hi : i < 1000000) :
    ∃ acc, H4 Dd = some (.lst acc) ∧ acc.length < sizeLine ∧ LcJ H1 Dd R (i + 1) (upd H4 Dd (.lst (acc ++ [y]))) := by
  obtain ⟨acc, h1, h2, h3, h4⟩ := p
  have k : But Dd H4 (upd H4 Dd (.lst (acc ++ [y]))) := fun b o n hb => by
    rw [upd_ne]
    · exact hb
    · intro z
      rw [z, e _ _ h1] at hb
      rcases n with n | n
      · exact n z
      · exact n _ (Option.some.inj hb).symm
  refine ⟨acc, e _ _ h1, Nat.lt_of_lt_of_le (show acc.length < 1000000 by omega) (by decide), acc ++ [y], upd_same, by simp [h2], fun b o hb => ?_, fun j z hz => ?_⟩
  · rw [upd_ne (ne_of_none hb hD)]
    exact e _ _ (h3 _ _ hb)
  · by_cases hj : j < acc.length
    · rw [List.getElem?_append_left hj] at hz
      exact hR _ _ _ _ (e.but.trans k) (h4 j z hz)
    · have hj2 : j = acc.length := by
        have := (List.getElem?_eq_some_iff.mp hz).1
        rw [List.length_append, List.length_singleton] at this
        omega
      subst hj2
      rw [List.getElem?_append_right (Nat.le_refl _), Nat.sub_self] at hz
      cases hz
      rw [h2]
      exact hR _ _ _ _ k r
/-- over a tuple, by a name -/
theorem lcTb {j : Nat} (R : Nat → V → Hp → Prop) (hR : ∀ i y H H', But Dd H H' → R i y H → R i y H') (hD : H1 Dd = none) (hx : SqT K H1 a xs) (hz : xs.length ≤ 100000)
    (hw : ∀ x, wipe ((wipe σ vs).set j (some x)) vs = wipe σ vs)
    (hs : ∀ (i : Nat) x H, xs[i]? = some x → Ex H1 H → (∃ acc, H Dd = some (.lst acc)) → tmE te ((wipe σ vs).set j (some x)) H fun y H4 => Ex H H4 ∧ R i y H4)
    (hd : LcEnd H1 Dd xs.length R Q) : LcW (Itt K a) (gName j) tYes (tmE te) vs σ H1 Dd Q :=
  lc_tup (xs := xs) (LcJ H1 Dd R) (lcJ_start hD) (fun i H _ ⟨_, _, _, e, _⟩ => sqT_kp hx e.kp) (fun i x H hi p => by
    obtain ⟨acc, q1, q2, q3, q4⟩ := id p
    refine ⟨hw _, ?_⟩
    obtain ⟨R0, z1, z2⟩ := hs i x H hi q3 ⟨_, q1⟩
    exact ⟨R0, z1, fun y H4 r0 => lcB_turn hR hD p (z2 y H4 r0).1 (z2 y H4 r0).2 (by have := (List.getElem?_eq_some_iff.mp hi).1; omega)⟩)
    fun H ⟨acc, q1, q2, q3, q4⟩ => hd H acc q3 q1 q2 q4
/-- over a list, by a name -/
theorem lcLb {j : Nat} (R : Nat → V → Hp → Prop) (hR : ∀ i y H H', But Dd H H' → R i y H → R i y H') (hD : H1 Dd = none) (hx : SqL K H1 a xs) (hz : xs.length ≤ 100000)
    (hw : ∀ x, wipe ((wipe σ vs).set j (some x)) vs = wipe σ vs)
    (hs : ∀ (i : Nat) x H, xs[i]? = some x → Ex H1 H → (∃ acc, H Dd = some (.lst acc)) → tmE te ((wipe σ vs).set j (some x)) H fun y H4 => Ex H H4 ∧ R i y H4)
    (hd : LcEnd H1 Dd xs.length R Q) : LcW (Itl K a) (gName j) tYes (tmE te) vs σ H1 Dd Q :=
  lc_list (xs := xs) (LcJ H1 Dd R) (lcJ_start hD) (fun i H _ ⟨_, _, _, e, _⟩ => sqL_ex hx e) (fun i x H hi p => by
    obtain ⟨acc, q1, q2, q3, q4⟩ := id p
    refine ⟨hw _, ?_⟩
    obtain ⟨R0, z1, z2⟩ := hs i x H hi q3 ⟨_, q1⟩
    exact ⟨R0, z1, fun y H4 r0 => lcB_turn hR hD p (z2 y H4 r0).1 (z2 y H4 r0).2 (by have := (List.getElem?_eq_some_iff.mp hi).1; omega)⟩)
    fun H ⟨acc, q1, q2, q3, q4⟩ => hd H acc q3 q1 q2 q4
/-- over a range -/
theorem lcRb {lo : Int} {n : Nat} {j : Nat} (R : Nat → V → Hp → Prop) (hR : ∀ i y H H', But Dd H H' → R i y H → R i y H') (hD : H1 Dd = none) (hz : n ≤ 100000)
    (hw : ∀ x, wipe ((wipe σ vs).set j (some x)) vs = wipe σ vs)
    (hs : ∀ (i : Nat) H, i < n → Ex H1 H → (∃ acc, H Dd = some (.lst acc)) → tmE te ((wipe σ vs).set j (some (.int (lo + i)))) H fun y H4 => Ex H H4 ∧ R i y H4)
    (hd : LcEnd H1 Dd n R Q) : LcW (Itr lo n) (gName j) tYes (tmE te) vs σ H1 Dd Q :=
  lc_range (LcJ H1 Dd R) (lcJ_start hD) (fun i H hi p => by
    obtain ⟨acc, q1, q2, q3, q4⟩ := id p
    refine ⟨hw _, ?_⟩
    obtain ⟨R0, z1, z2⟩ := hs i H hi q3 ⟨_, q1⟩
    exact ⟨R0, z1, fun y H4 r0 => lcB_turn hR hD p (z2 y H4 r0).1 (z2 y H4 r0).2 (by omega)⟩)
    fun H ⟨acc, q1, q2, q3, q4⟩ => hd H acc q3 q1 q2 q4
theorem sqL_but {d a : Addr} {H H' : Hp} {xs : List V} (h : SqL K H a xs) (n : a ≠ d) (e : But d H H') : SqL K H' a xs := by
  rcases h with (h | ⟨o, h⟩) | h
  · exact .inl (.inl (e _ _ (.inl n) h))
  · exact .inl (.inr ⟨o, e _ _ (.inl n) h⟩)
  · exact .inr h
end

/-! tuples added, data that differ, comprehensions with a test, ways to choose of great numbers -/
section
variable {X : Cx} {K : PySem.W.Frag}
/-- t + u, u not empty -/
def rCatAN (K : PySem.W.Frag) : R2 := fun x y H Q => ∃ a b xs ys, x = .ref a ∧ y = .ref b ∧ SqT K H a xs ∧ SqT K H b ys ∧ ys ≠ [] ∧ xs.length + ys.length ≤ sizeLine ∧
  ∀ p H', Ex H H' → SqT K H' p (xs ++ ys) → Q (.ref p) H'
theorem op_catAN (h : X.K = K := by rfl) : OpR X (binaryOp .Add) (rCatAN K) := by
  subst h
  exact OpR.imp op_catA fun x y H Q ⟨a, b, xs, ys, e1, e2, h1, h2, hy, z, n⟩ => ⟨a, b, xs, ys, e1, e2, h1, h2, z,
    fun q => n b H (Ex.refl H) (by rw [q]; exact h2), fun _ q => absurd q hy, fun _ _ p hp => n p _ (Ex.new hp) (.of upd_same)⟩
theorem op_neB (hu : X.A.units + 64 < cLine) (h : X.K = K := by rfl) : OpR X (compareOp .NotEq) (rNeD K) := by
  subst h
  exact op_neD hu
theorem op_eqB (hu : X.A.units + 64 < cLine) (h : X.K = K := by rfl) : OpR X (compareOp .Eq) (rEqD K) := by
  subst h
  exact op_eqD hu
end
section
variable {g : TG} {te : TE} {tt : TT} {vs : List Nat} {σ : L2.St} {H1 : Hp} {Dd : Addr} {Q : VK} {K : PySem.W.Frag} {a : Addr}
/-- the ints of a tuple for which a test holds -/
theorem lcTf {j : Nat} (p : Int → Bool) {ts : List Int} (hD : H1 Dd = none) (hx : SqT K H1 a (ts.map V.int)) (hz : ts.length ≤ 100000)
    (hw : ∀ x, wipe ((wipe σ vs).set j (some x)) vs = wipe σ vs)
    (hs : ∀ c H (S : Bool → Hp → Prop), S (p c) H → tt ((wipe σ vs).set j (some (.int c))) H S)
    (hv : ∀ c H (S : VK), S (.int c) H → te ((wipe σ vs).set j (some (.int c))) H S)
    (hd : ∀ H, Ex H1 H → H Dd = some (.lst ((ts.filter p).map V.int)) → Q (.ref Dd) H) : LcW (Itt K a) (gName j) tt (tmE te) vs σ H1 Dd Q :=
  lc_tup (xs := ts.map V.int) (fun i H => H Dd = some (.lst (((ts.take i).filter p).map V.int)) ∧ Ex H1 H) ⟨by simp [upd_same], Ex.new hD⟩ (fun i H _ h => sqT_kp hx h.2.kp) (fun i x H hi h => by
    obtain ⟨hl, he⟩ := h
    rw [List.getElem?_map] at hi
    cases hc : ts[i]? with
    | none => rw [hc] at hi; cases hi
    | some c =>
      rw [hc] at hi
      cases hi
      have et : ts.take (i + 1) = ts.take i ++ [c] := by
        rw [List.take_add_one, hc]
        rfl
      refine ⟨hw _, hs c H _ ?_⟩
      cases hp : p c with
      | false =>
        rw [if_neg (by decide)]
        refine ⟨?_, he⟩
        rw [et, List.filter_append, List.filter_cons, hp]
        simpa using hl
      | true =>
        rw [if_pos rfl]
        refine ⟨fun y H' => y = .int c ∧ H' = H, hv c H _ ⟨rfl, rfl⟩, ?_⟩
        rintro y H' ⟨rfl, rfl⟩
        refine ⟨_, hl, ?_, ?_, ?_⟩
        · have h1 := List.length_filter_le p (ts.take i)
          have h2 := List.length_take_le i ts
          rw [List.length_map]
          refine Nat.lt_of_lt_of_le (show _ < 1000000 from ?_) (by decide)
          have h3 : (ts.take i).length ≤ ts.length := by rw [List.length_take]; omega
          omega
        · rw [et, List.filter_append, List.filter_cons, hp]
          simp [upd_same]
        · exact fun b o hb => by
            rw [upd_ne (ne_of_none hb hD)]
            exact he _ _ hb)
    fun H h => by
      rw [List.length_map, List.take_length] at h
      exact hd H h.2 h.1
end
/-! ### ways to choose -/
theorem chs_zero (a : Nat) : chs a 0 = 1 := by cases a <;> rfl
theorem chs_big : ∀ (a k : Nat), a < k → chs a k = 0
  | _, 0, h => by omega
  | 0, k + 1, _ => rfl
  | a + 1, k + 1, h => by
    show chs a k + chs a (k + 1) = 0
    rw [chs_big a k (by omega), chs_big a (k + 1) (by omega)]
theorem chs_self : ∀ a : Nat, chs a a = 1
  | 0 => rfl
  | a + 1 => by
    show chs a a + chs a (a + 1) = 1
    rw [chs_self a, chs_big a (a + 1) (by omega)]
theorem chs_step : ∀ (a k : Nat), ((k : Int) + 1) * ((chs a (k + 1) : Nat) : Int) = ((a : Int) - (k : Int)) * ((chs a k : Nat) : Int)
  | 0, 0 => by decide
  | 0, k + 1 => by
    have h1 : chs 0 (k + 1) = 0 := rfl
    have h2 : chs 0 (k + 1 + 1) = 0 := rfl
    rw [h1, h2]
    simp
  | a + 1, 0 => by
    have ih := chs_step a 0
    have h1 : chs (a + 1) (0 + 1) = chs a 0 + chs a (0 + 1) := rfl
    rw [h1, chs_zero, chs_zero] at *
    push_cast at *
    omega
  | a + 1, k + 1 => by
    have ih := chs_step a (k + 1)
    have ih2 := chs_step a k
    have h1 : chs (a + 1) (k + 1 + 1) = chs a (k + 1) + chs a (k + 1 + 1) := rfl
    have h2 : chs (a + 1) (k + 1) = chs a k + chs a (k + 1) := rfl
    rw [h1, h2]
    generalize chs a (k + 1 + 1) = z at *
    generalize chs a (k + 1) = y at *
    generalize chs a k = x at *
    push_cast at *
    grind
def fct : Nat → Int
  | 0 => 1
  | k + 1 => fct k * ((k : Int) + 1)
theorem fct_pos : ∀ k : Nat, 0 < fct k
  | 0 => by decide
  | k + 1 => Int.mul_pos (fct_pos k) (by omega)
theorem fall_chs (a : Nat) : ∀ k : Nat, Builtin.Math.fallingProduct (a : Int) k = ((chs a k : Nat) : Int) * fct k
  | 0 => by
    rw [PySem.W.mc_fp_zero, chs_zero]
    rfl
  | k + 1 => by
    rw [PySem.W.mc_fp_succ, fall_chs a k]
    have := chs_step a k
    show _ = _ * (fct k * ((k : Int) + 1))
    grind
theorem comb_big {a k : Nat} (hk : k < 6) : PySem.W.mcComb (a : Int) (k : Int) = ((chs a k : Nat) : Int) := by
  by_cases h : k ≤ a
  · by_cases h2 : a < 12
    · have g : ∀ a < 12, ∀ k < 6, PySem.W.mcComb ((a : Nat) : Int) ((k : Nat) : Int) = ((chs a k : Nat) : Int) := by decide +kernel
      exact g a h2 k hk
    · have e := PySem.W.mcComb_at (a := (a : Int)) (b := (k : Int)) (by omega) (by omega) (m := (k : Int)) (by omega)
      rw [e]
      have t : ((k : Int)).toNat = k := by omega
      rw [t, fall_chs a k, fall_chs k k, chs_self]
      have := fct_pos k
      rw [show (((1 : Nat)) : Int) = 1 from rfl, Int.one_mul]
      exact Int.mul_ediv_cancel _ (by omega)
  · rw [PySem.W.mcComb_above (by omega), chs_big a k (by omega)]
    rfl
theorem chs_pow : ∀ (a k : Nat), chs a k ≤ a ^ k
  | a, 0 => by rw [chs_zero]; simp
  | a, k + 1 => by
    by_cases h : a < k
    · rw [chs_big a (k + 1) (by omega)]
      exact Nat.zero_le _
    have ih := chs_pow a k
    have e := chs_step a k
    have h1 : ((a : Int) - (k : Int)) = ((a - k : Nat) : Int) := by omega
    rw [h1] at e
    have e2 : (k + 1) * chs a (k + 1) = (a - k) * chs a k := by
      have : (((k + 1) * chs a (k + 1) : Nat) : Int) = (((a - k) * chs a k : Nat) : Int) := by
        push_cast
        push_cast at e
        exact e
      exact Int.ofNat_inj.mp this
    have h2 : (a - k) * chs a k ≤ a * a ^ k := Nat.mul_le_mul (by omega) ih
    have h3 : 1 * chs a (k + 1) ≤ (k + 1) * chs a (k + 1) := Nat.mul_le_mul_right _ (by omega)
    rw [Nat.pow_succ, Nat.mul_comm]
    omega
theorem chs_lt {a k n : Nat} (ha : a < 2 ^ n) (hk : k ≤ 5) : chs a k < 2 ^ (n * 5 + 1) := by
  have h1 := chs_pow a k
  have h2 : a ^ k ≤ (2 ^ n) ^ k := Nat.pow_le_pow_left (by omega) k
  rw [← Nat.pow_mul] at h2
  have h3 := Nat.pow_le_pow_right (show 0 < 2 by decide) (Nat.mul_le_mul_left n hk)
  have h4 : 2 ^ (n * 5 + 1) = 2 ^ (n * 5) + 2 ^ (n * 5) := by rw [Nat.pow_succ]; omega
  have := Nat.two_pow_pos (n * 5)
  omega
theorem chs_posG {a k : Nat} (h : k ≤ a) : 0 < chs a k := by
  have g : ∀ (a k : Nat), k ≤ a → 0 < chs a k := by
    intro a
    induction a with
    | zero =>
      intro k h
      have : k = 0 := by omega
      subst this
      decide
    | succ a ih =>
      intro k h
      cases k with
      | zero => rw [chs_zero]; decide
      | succ k =>
        have := ih k (by omega)
        show 0 < chs a k + chs a (k + 1)
        omega
  exact g a k h

/-! sums of products of ways to choose -/
/-- f 0 + .. + f (m - 1) -/
def Zs' (m : Nat) (f : Nat → Int) : Int := ((List.range m).map f).sum
theorem Zs_zero (f : Nat → Int) : Zs' 0 f = 0 := rfl
theorem Zs_succ (m : Nat) (f : Nat → Int) : Zs' (m + 1) f = Zs' m f + f m := by
  unfold Zs'
  rw [List.range_succ, List.map_append, List.sum_append]
  simp only [List.map_cons, List.map_nil, List.sum_cons, List.sum_nil]
  omega
theorem Zs_first : ∀ (m : Nat) (f : Nat → Int), Zs' (m + 1) f = f 0 + Zs' m fun k => f (k + 1)
  | 0, f => by rw [Zs_succ, Zs_zero, Zs_zero]; omega
  | m + 1, f => by rw [Zs_succ, Zs_first m f, Zs_succ m]; omega
theorem Zs_congr {m : Nat} {f g : Nat → Int} (h : ∀ k < m, f k = g k) : Zs' m f = Zs' m g := by
  induction m with
  | zero => rfl
  | succ m ih => rw [Zs_succ, Zs_succ, ih fun k hk => h k (by omega), h m (by omega)]
theorem Zs_add (f g : Nat → Int) : ∀ m : Nat, Zs' m (fun k => f k + g k) = Zs' m f + Zs' m g
  | 0 => rfl
  | m + 1 => by rw [Zs_succ, Zs_succ, Zs_succ, Zs_add f g m]; omega
theorem Zs_mul (c : Int) (f : Nat → Int) : ∀ m : Nat, Zs' m (fun k => c * f k) = c * Zs' m f
  | 0 => by rw [Zs_zero, Zs_zero, Int.mul_zero]
  | m + 1 => by rw [Zs_succ, Zs_succ, Zs_mul c f m, Int.mul_add]
/-- the ways to choose d of y and r things, by how many are of the y -/
def vd (y r d : Nat) : Int := Zs' (d + 1) fun k => ((chs y k : Nat) : Int) * ((chs r (d - k) : Nat) : Int)
theorem vd_zero (y r : Nat) : vd y r 0 = 1 := by
  unfold vd
  rw [Zs_succ, Zs_zero, chs_zero, chs_zero]
  rfl
theorem vd_none (r d : Nat) : vd 0 r d = ((chs r d : Nat) : Int) := by
  unfold vd
  rw [Zs_first]
  have e : Zs' d (fun k => ((chs 0 (k + 1) : Nat) : Int) * ((chs r (d - (k + 1)) : Nat) : Int)) = Zs' d (fun k => 0 * ((chs r (d - (k + 1)) : Nat) : Int)) := Zs_congr fun k _ => rfl
  rw [e, Zs_mul, chs_zero]
  simp
theorem vd_step (y r d : Nat) : vd (y + 1) r (d + 1) = vd y r (d + 1) + vd y r d := by
  unfold vd
  rw [Zs_first, Zs_first (d + 1) fun k => ((chs y k : Nat) : Int) * ((chs r (d + 1 - k) : Nat) : Int)]
  have e : Zs' (d + 1) (fun k => ((chs (y + 1) (k + 1) : Nat) : Int) * ((chs r (d + 1 - (k + 1)) : Nat) : Int)) =
      Zs' (d + 1) (fun k => ((chs y (k + 1) : Nat) : Int) * ((chs r (d + 1 - (k + 1)) : Nat) : Int) + ((chs y k : Nat) : Int) * ((chs r (d - k) : Nat) : Int)) := by
    apply Zs_congr
    intro k _
    have h1 : chs (y + 1) (k + 1) = chs y k + chs y (k + 1) := rfl
    have h2 : d + 1 - (k + 1) = d - k := by omega
    rw [h1, h2, Int.natCast_add, Int.add_mul]
    omega
  rw [e, Zs_add, chs_zero, chs_zero]
  omega
theorem vandermonde : ∀ (y r d : Nat), vd y r d = ((chs (y + r) d : Nat) : Int)
  | 0, r, d => by rw [vd_none, Nat.zero_add]
  | y + 1, r, 0 => by rw [vd_zero, chs_zero]; rfl
  | y + 1, r, d + 1 => by
    rw [vd_step, vandermonde y r (d + 1), vandermonde y r d]
    have e : y + 1 + r = y + r + 1 := by omega
    have h1 : chs (y + r + 1) (d + 1) = chs (y + r) d + chs (y + r) (d + 1) := rfl
    rw [e, h1, Int.natCast_add]
    omega
theorem fall_add (a : Int) (j : Nat) : ∀ i : Nat, Builtin.Math.fallingProduct a (j + i) = Builtin.Math.fallingProduct a j * Builtin.Math.fallingProduct (a - (j : Int)) i
  | 0 => by rw [PySem.W.mc_fp_zero, Nat.add_zero, Int.mul_one]
  | i + 1 => by
    rw [show j + (i + 1) = (j + i) + 1 from rfl, PySem.W.mc_fp_succ, PySem.W.mc_fp_succ, fall_add a j i, Int.mul_assoc]
    congr 2
    omega
/-- choosing k of a, then j of these: choosing j of a, then the others -/
theorem revise {a k j : Nat} (hj : j ≤ k) : ((chs a k : Nat) : Int) * ((chs k j : Nat) : Int) = ((chs a j : Nat) : Int) * ((chs (a - j) (k - j) : Nat) : Int) := by
  by_cases ha : j ≤ a
  · have e1 := fall_chs a k
    have e2 := fall_chs a j
    have e3 := fall_chs (a - j) (k - j)
    have e4 := fall_chs k j
    have e5 := fall_chs (k - j) (k - j)
    have e6 := fall_chs k k
    rw [chs_self] at e5 e6
    have s1 := fall_add (a : Int) j (k - j)
    have s2 := fall_add (k : Int) j (k - j)
    rw [show j + (k - j) = k by omega] at s1 s2
    have c1 : (a : Int) - (j : Int) = ((a - j : Nat) : Int) := by omega
    have c2 : (k : Int) - (j : Int) = ((k - j : Nat) : Int) := by omega
    rw [c1] at s1
    rw [c2] at s2
    rw [e1, e2, e3] at s1
    rw [e6, e4, e5] at s2
    have p1 := fct_pos j
    have p2 := fct_pos (k - j)
    have one : (((1 : Nat)) : Int) = 1 := rfl
    rw [one] at s2
    generalize ((chs a k : Nat) : Int) = x at *
    generalize ((chs k j : Nat) : Int) = y at *
    generalize ((chs a j : Nat) : Int) = z at *
    generalize ((chs (a - j) (k - j) : Nat) : Int) = u at *
    generalize fct k = f at *
    generalize fct j = g at *
    generalize fct (k - j) = h at *
    have key : x * y * (g * h) = z * u * (g * h) := by
      have a1 : x * y * (g * h) = x * (y * g * (1 * h)) := by grind
      rw [a1, ← s2]
      have a2 : x * (1 * f) = x * f := by rw [Int.one_mul]
      rw [a2, s1]
      grind
    exact Int.eq_of_mul_eq_mul_right (Int.ne_of_gt (Int.mul_pos p1 p2)) key
  · rw [chs_big a k (by omega), chs_big a j (by omega)]
    simp
/-- the mean of the ways to choose j of the yes among d draws -/
theorem moment {y r d j : Nat} (hj : j ≤ d) : (Zs' (d + 1) fun k => ((chs y k : Nat) : Int) * ((chs r (d - k) : Nat) : Int) * ((chs k j : Nat) : Int)) = ((chs y j : Nat) : Int) * (if j ≤ y then ((chs (y - j + r) (d - j) : Nat) : Int) else 0) := by
  obtain ⟨e, rfl⟩ : ∃ e, d = j + e := ⟨d - j, by omega⟩
  have split : ∀ (j : Nat) (f : Nat → Int), Zs' (j + e + 1) f = Zs' j f + Zs' (e + 1) fun k => f (j + k) := by
    intro j f
    clear hj
    induction e with
    | zero => rw [Zs_succ, Zs_succ, Zs_zero]; simp
    | succ e ih => rw [show j + (e + 1) + 1 = (j + e + 1) + 1 from rfl, Zs_succ, ih, Zs_succ (e + 1)]; simp only [Nat.add_assoc]; omega
  rw [split]
  have z : Zs' j (fun k => ((chs y k : Nat) : Int) * ((chs r (j + e - k) : Nat) : Int) * ((chs k j : Nat) : Int)) = Zs' j (fun k => 0 * ((chs y k : Nat) : Int)) := by
    apply Zs_congr
    intro k hk
    rw [chs_big k j hk]
    simp
  rw [z, Zs_mul, Int.zero_mul, Int.zero_add]
  have t : Zs' (e + 1) (fun k => ((chs y (j + k) : Nat) : Int) * ((chs r (j + e - (j + k)) : Nat) : Int) * ((chs (j + k) j : Nat) : Int)) =
      Zs' (e + 1) (fun k => ((chs y j : Nat) : Int) * (((chs (y - j) k : Nat) : Int) * ((chs r (e - k) : Nat) : Int))) := by
    apply Zs_congr
    intro k _
    have h := revise (a := y) (k := j + k) (j := j) (by omega)
    have e1 : j + k - j = k := by omega
    have e2 : j + e - (j + k) = e - k := by omega
    rw [e1] at h
    rw [e2]
    calc _ = ((chs y (j + k) : Nat) : Int) * ((chs (j + k) j : Nat) : Int) * ((chs r (e - k) : Nat) : Int) := by grind
      _ = _ := by rw [h]; grind
  rw [t, Zs_mul]
  have e3 : j + e - j = e := by omega
  rw [e3]
  by_cases hy : j ≤ y
  · rw [if_pos hy]
    have := vandermonde (y - j) r e
    unfold vd at this
    rw [this]
  · rw [if_neg hy, chs_big y j (by omega)]
    simp

/-! slices of tuples; lists told by an own notion under changes of one list -/
def rSlAN (K : PySem.W.Frag) : V → Option Int → Option Int → Hp → VK → Prop := fun x lo hi H Q => ∃ a xs, x = .ref a ∧ SqT K H a xs ∧ ∀ p H', Ex H H' → SqT K H' p (cutV xs lo hi) → Q (.ref p) H'
theorem sl_tupAN {X : Cx} {K : PySem.W.Frag} (h : X.K = K := by rfl) : L2.SlR X (rSlAN K) := by
  subst h
  refine SlR.imp sl_tupA fun x lo hi H Q ⟨a, xs, e, hS, n⟩ => ⟨a, xs, e, hS, fun w => ?_, fun _ p hp => n p _ (Ex.new hp) (.of upd_same)⟩
  refine n a H (Ex.refl H) ?_
  unfold cutV
  rw [w.1, w.2]
  simpa using hS
theorem cut_take (xs : List V) (n : Nat) : cutV xs none (some (n : Int)) = xs.take n := by
  unfold cutV
  rw [HT.sIx_none, HT.sIx_nat, List.drop_zero, Nat.sub_zero]
  by_cases h : n ≤ xs.length
  · rw [Nat.min_eq_left h]
  · rw [Nat.min_eq_right (by omega), List.take_length, List.take_of_length_le (by omega)]
theorem cut_drop (xs : List V) (n : Nat) : cutV xs (some (n : Int)) none = xs.drop n := by
  unfold cutV
  rw [HT.sIx_none, HT.sIx_nat]
  by_cases h : n ≤ xs.length
  · rw [Nat.min_eq_left h, List.take_of_length_le (by rw [List.length_drop]; omega)]
  · rw [Nat.min_eq_right (by omega), List.drop_eq_nil_of_le (Nat.le_refl _), List.drop_eq_nil_of_le (by omega)]
    simp

/-! walks within a comprehension, their K named -/
section
variable {X : Cx} {K : PySem.W.Frag} {tg e : Expr} {te : TE}
theorem kPiL (he : PE X e te) (h : X.K = K := by rfl) : PI X tg e (iList K te) := by
  subst h
  exact pi_list he
theorem kPiT (he : PE X e te) (h : X.K = K := by rfl) : PI X tg e (iTup K te) := by
  subst h
  exact pi_tup he
end

/-! list(range(n)) as a new list of numbers -/
section
variable {X : Cx} {a : Expr} {ta : TE}
def natV (n : Nat) : List Int := (List.range n).map fun i : Nat => (i : Int)
def tListR (ta : TE) : TE := fun σ H Q => ta σ H fun x H1 => ∃ n : Nat, x = .int (n : Int) ∧ n ≤ 1000 ∧ New H1 (.lst ((natV n).map V.int)) Q
theorem pe_listR {p p2 pos pos2 : Pos} (hc : X.calm = true) (gl : Gl X "list") (ml : X.mg "list" = none) (gr : Gl X "range") (mr : X.mg "range" = none) (ha : PE X a ta)
    (na : starEach [a] X.env = (false, eval a X.env) :: starEach [] X.env := by rfl) :
    PE X (.Call (.Name "list" p) [.Call (.Name "range" p2) [a] [] pos2] [] pos) (tListR ta) := by
  have q := pe_listRg (p := p) (pos := pos) hc gl ml (prg_1 (p := p2) (pos := pos2) gr mr (PE.mon ha) na)
  refine ⟨fun pins s σ H Q I h => q.run pins s σ H Q I ?_⟩
  refine ⟨_, h, ?_⟩
  rintro x H1 ⟨n, rfl, n1, hq⟩
  refine ⟨n, rfl, RgOk.of_le (by decide) (by omega) (by decide) (by omega), fun q nq => ?_⟩
  have e : rgV 0 (n : Int) = (natV n).map V.int := by
    unfold rgV natV
    rw [List.map_map, show ((n : Int) - 0).toNat = n by omega]
    apply List.map_congr_left
    intro i _
    simp
  rw [e]
  exact hq q _ nq (Ex.new nq) upd_same
end

/-! math.factorial; comprehensions of two clauses; a star in a tuple -/
open PySem PySem.Spec PyProof.Rows L2 StX
section
variable {X : Cx}
def rFact : List V → Hp → VK → Prop := fun vs H Q => ∃ n : Nat, vs = [.int (n : Int)] ∧ n ≤ 1000 ∧ Q (.int ((Builtin.Math.factorialNat n : Nat) : Int)) H
theorem cr_fact : CallR X (.builtin "math.factorial") rFact := by
  intro pins s σ H vs us Q I r h
  obtain ⟨n, rfl, hn, q⟩ := h
  cases r with
  | cons r1 r2 =>
    cases r2
    obtain ⟨t, rfl⟩ := r1
    refine PySem.W.mc_factorial (by omega) (by omega) fun _ => ⟨.int _, H, I.tok _, ⟨_, rfl⟩, ?_⟩
    exact q
/-- the inner walk of a comprehension of two clauses -/
def Lc2In (g1 : TG) (tt1 : TT) (te : TE) (vs1 : List Nat) (σ2 : L2.St) (D : Addr) (Nx : Hp → Prop) (J1 : It) (H4 : Hp) : Prop := ∃ W1 : Nat → Nat → Hp → Prop, (∃ m, W1 0 m H4) ∧ ∀ j k H, W1 j k H →
      (J1.stop j H ∧ Nx H) ∨ (J1.go j H ∧ ∃ Nx1 : Hp → Prop, (∀ H', Nx1 H' → ∃ k', k' < k ∧ W1 (j + 1) k' H') ∧ ∀ x H', J1.yld j H x H' → g1 x (wipe σ2 vs1) H' fun σ3 H5 => wipe σ3 vs1 = wipe σ2 vs1 ∧ tt1 σ3 H5 fun b H6 =>
        if b = true then te σ3 H6 fun y H7 => ∃ acc, H7 D = some (.lst acc) ∧ acc.length < sizeLine ∧ Nx1 (upd H7 D (.lst (acc ++ [y]))) else Nx1 H6)
def LcW2 (J : It) (g : TG) (tt : TT) (wi1 : TI) (g1 : TG) (tt1 : TT) (te : TE) (vs vs1 : List Nat) (σ : L2.St) (H1 : Hp) (D : Addr) (Q : VK) : Prop := ∃ W : Nat → Nat → Hp → Prop, (∃ m, W 0 m (upd H1 D (.lst []))) ∧ ∀ i m H, W i m H →
  (J.stop i H ∧ Q (.ref D) H) ∨ (J.go i H ∧ ∃ Nx : Hp → Prop, (∀ H', Nx H' → ∃ m', m' < m ∧ W (i + 1) m' H') ∧ ∀ x H', J.yld i H x H' → g x (wipe σ vs) H' fun σ2 H2 => wipe σ2 vs = wipe σ vs ∧ tt σ2 H2 fun b H3 =>
    if b = true then wi1 σ2 H3 fun J1 H4 => Lc2In g1 tt1 te vs1 σ2 D Nx J1 H4 else Nx H3)
theorem r_lc2 {wi : TI} {g : TG} {tt : TT} {wi1 : TI} {g1 : TG} {tt1 : TT} {te : TE} {vs vs1 : List Nat} {σ : L2.St} {H : Hp} {Q : VK} : tLc2 wi g tt wi1 g1 tt1 te vs vs1 σ H Q = wi σ H fun J H1 => ∀ D, H1 D = none → LcW2 J g tt wi1 g1 tt1 te vs vs1 σ H1 D Q := rfl
theorem r_star {K : PySem.W.Frag} {te : TE} {t : TA} {σ : L2.St} {H : Hp} {Q : List V → Hp → Prop} : tStar K te t σ H Q = te σ H fun x H1 => ∃ p xs, x = V.ref p ∧ (SqT K H1 p xs ∨ SqL K H1 p xs) ∧ t σ H1 fun ys H2 => Q (xs ++ ys) H2 := rfl
section
variable {J : It} {n : Nat} {G : Hp → Prop} {Y : Nat → Hp → V → Hp → Prop}
theorem lc2_it (w : Walk J n G Y) {g : TG} {tt : TT} {wi1 : TI} {g1 : TG} {tt1 : TT} {te : TE} {vs vs1 : List Nat} {σ : L2.St} {H1 : Hp} {D : Addr} {Q : VK} (Pv : Nat → Hp → Prop) (h0 : Pv 0 (upd H1 D (.lst []))) (hG : ∀ i H, i ≤ n → Pv i H → G H)
    (hs : ∀ i x H H', i < n → Pv i H → Y i H x H' → g x (wipe σ vs) H' fun σ2 H2 => wipe σ2 vs = wipe σ vs ∧ tt σ2 H2 fun b H3 => if b = true then wi1 σ2 H3 fun J1 H4 => Lc2In g1 tt1 te vs1 σ2 D (Pv (i + 1)) J1 H4 else Pv (i + 1) H3)
    (hd : ∀ H, Pv n H → Q (.ref D) H) : LcW2 J g tt wi1 g1 tt1 te vs vs1 σ H1 D Q := by
  refine ⟨fun i m H => m = n - i ∧ i ≤ n ∧ Pv i H, ⟨n, by simp, Nat.zero_le _, h0⟩, ?_⟩
  rintro i m H ⟨rfl, hi, p⟩
  have q := hG i H hi p
  by_cases hlt : i < n
  · exact .inr ⟨w.goes i H hlt q, Pv (i + 1), fun H' p' => ⟨n - (i + 1), by omega, rfl, hlt, p'⟩, fun x H' y => hs i x H H' hlt p (w.yields i H x H' hlt q y)⟩
  · have e : i = n := by omega
    subst e
    exact .inl ⟨w.stops H q, hd H p⟩
theorem lc2_in (w : Walk J n G Y) {g1 : TG} {tt1 : TT} {te : TE} {vs1 : List Nat} {σ2 : L2.St} {H4 : Hp} {D : Addr} {Nx : Hp → Prop} (Pv : Nat → Hp → Prop) (h0 : Pv 0 H4) (hG : ∀ i H, i ≤ n → Pv i H → G H)
    (hs : ∀ i x H H', i < n → Pv i H → Y i H x H' → g1 x (wipe σ2 vs1) H' fun σ3 H5 => wipe σ3 vs1 = wipe σ2 vs1 ∧ tt1 σ3 H5 fun b H6 => if b = true then te σ3 H6 fun y H7 => ∃ acc, H7 D = some (.lst acc) ∧ acc.length < sizeLine ∧ Pv (i + 1) (upd H7 D (.lst (acc ++ [y]))) else Pv (i + 1) H6)
    (hd : ∀ H, Pv n H → Nx H) : Lc2In g1 tt1 te vs1 σ2 D Nx J H4 := by
  refine ⟨fun i m H => m = n - i ∧ i ≤ n ∧ Pv i H, ⟨n, by simp, Nat.zero_le _, h0⟩, ?_⟩
  rintro i m H ⟨rfl, hi, p⟩
  have q := hG i H hi p
  by_cases hlt : i < n
  · exact .inr ⟨w.goes i H hlt q, Pv (i + 1), fun H' p' => ⟨n - (i + 1), by omega, rfl, hlt, p'⟩, fun x H' y => hs i x H H' hlt p (w.yields i H x H' hlt q y)⟩
  · have e : i = n := by omega
    subst e
    exact .inl ⟨w.stops H q, hd H p⟩
end
/-- the truth of a tuple -/
theorem pt_truT {K : PySem.W.Frag} {a : Expr} {ta : TE} (ha : PE X a ta) (he : ∀ whole, isTrue a X.env whole = (do let v ← whole; standAt a.pos; holding [v] (truthy v))) (h : X.K = K := by rfl) :
    PT X a (fun σ H Q => ta σ H fun x H' => ∃ p xs, x = .ref p ∧ SqT K H' p xs ∧ Q (!xs.isEmpty) H') := by
  subst h
  refine ⟨fun pins s σ H Q I q => ?_⟩
  refine isTrue_plain (thn ((PE.mon ha).run pins s σ H _ I ⟨_, q, fun y H' z => z⟩) fun v s1 ⟨x, H1, I1, r1, p, xs, e, hx, q1⟩ => ?_) (he _)
  refine tru_ok pins s1 σ H1 x v Q I1 r1 ⟨_, ?_, q1⟩
  subst e
  exact .inr (.inl ⟨xs, hx, rfl⟩)
theorem loopEl {K : PySem.W.Frag} {g : TG} {D : Ends} {σ : L2.St} {H : Hp} {a : Addr} {xs : List V} {tb : TS} (Pv : Nat → L2.St → Hp → Prop) (h0 : Pv 0 σ H) (hl : ∀ i σ H, i ≤ xs.length → Pv i σ H → SqL K H a xs)
    (hs : ∀ i x σ H T H', xs[i]? = some x → Pv i σ H → Ex H H' → H' T = some (.tup [.int (i : Nat), x]) → g (.ref T) σ H' fun σ2 H2 => tb { nx := Pv (i + 1), rt := D.rt, bk := D.nx, ct := Pv (i + 1) } σ2 H2) (hd : ∀ σ H, Pv xs.length σ H → D.nx σ H) : LoopW (Ite K a) g tb D σ H :=
  for_it (walk_enum (K := K) (a := a) (xs := xs)) Pv h0 hl (fun i v σ H H' hi hp y => by
    obtain ⟨T, x, z, rfl, hn, rfl, h1, h2⟩ := y
    cases h1
    exact hs i z σ H T _ h2 hp (Ex.new hn) upd_same) hd
theorem kStar {K : PySem.W.Frag} {e : Expr} {es : List Expr} {te : TE} {t : TA} {p : Pos} (he : PE X e te) (hr : PA X es t) (hs : starEach (.Starred e p :: es) X.env = (true, eval e X.env) :: starEach es X.env := by rfl) (h : X.K = K := by rfl) : PA X (.Starred e p :: es) (tStar K te t) := by
  subst h
  exact pa_star he hr hs
def rNotT : R2 := fun x y H Q => ∃ a b, x = .bl a ∧ y = .bl b ∧ Q (.bl (!decide (a = b))) H
theorem op_notT : OpR X (compareOp .IsNot) rNotT := op_isnot_bl
/-- a loop over enumerate of a list -/
theorem r_enumL {tx : TA} {K : PySem.W.Frag} {σ : L2.St} {H : Hp} {S : It → Hp → Prop} : iEnum K tx σ H S = tx σ H fun vs H1 => ∃ a xs, vs = [.ref a] ∧ SqL K H1 a xs ∧ S (Ite K a) H1 := rfl
end

/-! perm, isqrt, in, sorted, name op= e -/
section
variable {X : Cx}
def prm (a : Nat) (k : Nat) : Int := Builtin.Math.fallingProduct (a : Int) k
def rPerm : List V → Hp → VK → Prop := fun vs H Q => ∃ a k : Nat, vs = [.int (a : Int), .int (k : Int)] ∧ k ≤ a ∧ k ≤ 8 ∧ a < 2 ^ 2000 ∧ Q (.int (prm a k)) H
theorem cr_perm : CallR X (.builtin "math.perm") rPerm := by
  intro pins s σ H vs us Q I r h
  obtain ⟨a, k, rfl, hk, h8, ha, q⟩ := h
  obtain ⟨t, u, rfl⟩ := Vals.int2 r
  have hb : (Builtin.Math.fallingProduct (a : Int) k).natAbs ≤ 2 ^ (2000 * k) := fp_abs (by omega) (by rw [Int.natAbs_natCast]; exact Nat.le_of_lt ha) k (by omega)
  have hs : (Builtin.Math.fallingProduct (a : Int) ((k : Int)).toNat).natAbs.log2 < bitsLine := by
    rw [Int.toNat_natCast]
    exact lg (Nat.le_trans hb (Nat.pow_le_pow_right (by decide) (show 2000 * k ≤ 16000 by omega))) (by decide)
  have g := PySem.W.mc_run_perm (a : Int) t (k : Int) u (by omega) (by omega) (by omega) (by show ¬(k : Int) > 2 ^ 63 - 1; omega) (by show ¬(k : Int) > 20000; omega) hs
  rw [Int.toNat_natCast] at g
  exact call_function_meets PySem.W.MGF.kind_perm PySem.W.MGF.plain_perm PySem.W.MGF.entry_perm (PySem.W.MGF.args_perm _ _) g.meets ⟨.int _, H, I.tok _, ⟨_, rfl⟩, q⟩
def rIsqrt : List V → Hp → VK → Prop := fun vs H Q => ∃ a : Nat, vs = [.int (a : Int)] ∧ a < 2 ^ 2000 ∧ ∀ m : Nat, m * m ≤ a → a < (m + 1) * (m + 1) → Q (.int (m : Int)) H
theorem cr_isqrt : CallR X (.builtin "math.isqrt") rIsqrt := by
  intro pins s σ H vs us Q I r h
  obtain ⟨a, rfl, ha, q⟩ := h
  cases r with
  | cons r1 r2 =>
    cases r2
    obtain ⟨t, rfl⟩ := r1
    have hl : a.log2 ≤ 2000 := log_le ha
    have g := PySem.W.mg_run_isqrt (a : Int) t (by omega) (by rw [Int.toNat_natCast]; omega) (by rw [Int.toNat_natCast]; omega)
    rw [Int.toNat_natCast] at g
    obtain ⟨s1, s2⟩ := PySem.Float64.isqrt_spec a
    exact call_function_meets PySem.W.MGF.kind_isqrt PySem.W.MGF.plain_isqrt PySem.W.MGF.entry_isqrt (PySem.W.MGF.args_isqrt _) g.meets ⟨.int _, H, I.tok _, ⟨_, rfl⟩, q _ s1 s2⟩
/-- a number among a list's numbers -/
def rInI (K : PySem.W.Frag) : R2 := fun x y H Q => ∃ (p : Addr) (i : Int) (ns : List Int), x = .int i ∧ y = .ref p ∧ SqL K H p (ns.map V.int) ∧ Q (.bl (ns.any fun n => n == i)) H
theorem kIn {K : PySem.W.Frag} (h : X.K = K := by rfl) : OpR X (compareOp .In) (rInI K) := by
  subst h
  refine OpR.imp op_in_seq fun x y H Q ⟨p, i, ns, e1, e2, hs, q⟩ => ?_
  subst e1 e2
  refine ⟨p, ns.map V.int, rfl, .inl hs, rfl, by simp [List.all_map, flatV], ?_⟩
  have : inV (.int i) (ns.map V.int) = ns.any fun n => n == i := by
    unfold inV
    rw [List.any_map]
    congr 1
  rw [this]
  exact q
def rSrtN (K : PySem.W.Frag) : List V → Hp → VK → Prop := fun vs H Q => ∃ (a : Addr) (ns : List Int), vs = [V.ref a] ∧ SqL K H a (ns.map V.int) ∧ ∀ ns' : List Int, ns'.Perm ns → ns'.Pairwise (· ≤ ·) → New H (.lst (ns'.map V.int)) Q
theorem kSrt {K : PySem.W.Frag} (h : X.K = K := by rfl) : CallR X (.builtin "sorted") (rSrtN K) := by
  subst h
  exact CallR.imp cr_sortedI fun vs H Q ⟨a, ns, e, hs, q⟩ => ⟨a, ns, e, hs, fun ns' p h1 h2 np => (q ns' h1 h2).at p np⟩
def rReprB : List V → Hp → VK → Prop := fun vs H Q => ∃ b : Bool, vs = [.bl b] ∧ Q (.str (if b = true then "True" else "False")) H
theorem cr_reprB : CallR X (.builtin "repr") rReprB := by
  intro pins s σ H xs us Q I r h
  obtain ⟨b, rfl, q⟩ := h
  cases r with
  | cons r1 r2 =>
    cases r2
    cases r1
    exact PySem.P.repr_of_bool ⟨.str _, H, I.tok _, ⟨_, rfl⟩, q⟩
theorem r_aug {i : Nat} {te : TE} {ti : TIp} {D : Ends} {σ : L2.St} {H : Hp} : tAug i te ti D σ H = ∃ x, σ[i]? = some (some x) ∧ te σ H fun y H1 => ti x y H1 fun z H2 => D.nx (σ.set i (some z)) H2 := rfl
end

/-! perm beyond its number -/
section
variable {X : Cx}
def prmA (a k : Nat) : Int := if k ≤ a then prm a k else 0
def rPermA : List V → Hp → VK → Prop := fun vs H Q => ∃ a k : Nat, vs = [.int (a : Int), .int (k : Int)] ∧ k ≤ 8 ∧ a < 2 ^ 2000 ∧ Q (.int (prmA a k)) H
theorem cr_permA : CallR X (.builtin "math.perm") rPermA := by
  intro pins s σ H vs us Q I r h
  obtain ⟨a, k, rfl, h8, ha, q⟩ := h
  by_cases hk : k ≤ a
  · refine cr_perm pins s σ H _ us Q I r ⟨a, k, rfl, hk, h8, ha, ?_⟩
    unfold prmA at q
    rw [if_pos hk] at q
    exact q
  · obtain ⟨t, u, rfl⟩ := Vals.int2 r
    have g := PySem.W.mc_run_perm0 (a : Int) t (k : Int) u (by omega) (by omega) (by omega)
    unfold prmA at q
    rw [if_neg hk] at q
    exact call_function_meets PySem.W.MGF.kind_perm PySem.W.MGF.plain_perm PySem.W.MGF.entry_perm (PySem.W.MGF.args_perm _ _) g.meets ⟨.int _, H, I.tok _, ⟨_, rfl⟩, q⟩
end
/-! powers of great numbers -/
section
variable {X : Cx}
def CPowW (i j : Int) : Prop := 0 ≤ j ∧ j ≤ 1000 ∧ i.natAbs < 2 ^ 8000
theorem op_powW : OpR X (binaryOp .Pow) (rI CPowW fun i j => .int (i ^ j.toNat)) := opI fun i j _ _ _ _ _ hc q => pow_int hc.1 (by
  have hb : Builtin.Int.intBits i ≤ 8000 := intBits_le hc.2.2
  have h0 := hc.1
  have h1 := hc.2.1
  have h2 : (Builtin.Int.intBits i : Int) * j ≤ 8000 * j := Int.mul_le_mul_of_nonneg_right (by omega) h0
  omega) q
end
def b30 : Int := 1000000000000000000000000000000
theorem b30_eq : b30 = 1000000000000000000000000000000 := rfl
def b9 : Int := 1000000000
theorem b9_eq : b9 = 1000000000 := rfl

/-! texts -/
open PySem PySem.Spec PyProof.Rows L2 SX
open PySem.Builtin.Str (padded strSub subAt)
theorem zfill_S {a : List Nat} {n : Nat} (h0 : ∀ c, a.head? = some c → 48 ≤ c) (hn : a.length ≤ n) : Txt.zfill (S a) (n : Int) = S (List.replicate (n - a.length) 48 ++ a) := by
  unfold Txt.zfill
  rw [S_len]
  by_cases h : (n : Int) ≤ (a.length : Int)
  · rw [if_pos h, show n - a.length = 0 by omega]
    rfl
  · rw [if_neg h, Int.toNat_natCast]
    unfold zfilled
    have pe : padded (S a) (n - a.length) 0 48 = S (List.replicate (n - a.length) 48 ++ a) := by
      unfold padded
      refine TL.ext_tl ?_
      simp [TL.tl, S]
    have g : (S a).cps[0]? = a.head? := by
      cases a <;> simp [S]
    rw [g]
    split
    · rename_i e
      have := h0 _ e
      omega
    · rename_i e
      have := h0 _ e
      omega
    · exact pe
theorem drop_tw {p : Nat → Bool} : ∀ a : List Nat, a.drop (a.takeWhile p).length = a.dropWhile p
  | [] => rfl
  | c :: a => by
    by_cases h : p c = true
    · rw [List.takeWhile_cons_of_pos h, List.dropWhile_cons_of_pos h, List.length_cons, List.drop_succ_cons]
      exact drop_tw a
    · rw [List.takeWhile_cons_of_neg h, List.dropWhile_cons_of_neg h]
      rfl
theorem lstrip_S {a b : List Nat} : Txt.lstripChars (S a) (S b) = S (a.dropWhile b.contains) := by
  have hg : ((S b).cps.contains : Nat → Bool) = b.contains := by
    funext c
    simp [S]
  have lo : stripLo (S b).cps.contains true (S a) = (a.takeWhile b.contains).length := by
    unfold stripLo
    rw [if_pos rfl, hg]
  have hi : stripHi (S b).cps.contains false (S a) (stripLo (S b).cps.contains true (S a)) = a.length := by
    unfold stripHi
    rw [if_neg (by decide), S_len]
  unfold Txt.lstripChars Txt.stripBy stripSame stripped
  rw [hi, lo, S_len]
  by_cases h : (a.takeWhile b.contains).length = 0
  · rw [h]
    have := drop_tw (p := b.contains) a
    rw [h, List.drop_zero] at this
    rw [← this]
    simp
  · have hb : ((a.takeWhile b.contains).length == 0 && a.length == a.length) = false := by
      rw [beq_eq_false_iff_ne.mpr h]
      rfl
    rw [hb, if_neg (by decide)]
    refine TL.ext_tl ?_
    have := TL.tl_strSub (S a) (a.takeWhile b.contains).length a.length
    rw [this]
    show ((a.drop _).take _) = _
    have l1 := congrArg List.length (drop_tw (p := b.contains) a)
    rw [List.length_drop] at l1
    rw [drop_tw, List.take_of_length_le (by omega)]
theorem ascii_S {a : List Nat} (h : ∀ c ∈ a, c < 128) : Txt.isascii (S a) = true := by
  unfold Txt.isascii
  rw [← Array.all_toList]
  exact List.all_eq_true.mpr fun c hc => decide_eq_true (h c hc)
theorem isdig (c : Nat) (h : 48 ≤ c ∧ c ≤ 57) : Unicode.isDigit c = true := by
  have : ∀ c, c < 58 → 48 ≤ c → Unicode.isDigit c = true := by decide +kernel
  exact this c (by omega) h.1
theorem digit_S {a : List Nat} (h : ∀ c ∈ a, 48 ≤ c ∧ c ≤ 57) (hne : a ≠ []) : Txt.isdigit (S a) = true := by
  unfold Txt.isdigit
  rw [S_len, ← Array.all_toList, Bool.and_eq_true]
  refine ⟨decide_eq_true ?_, List.all_eq_true.mpr fun c hc => isdig c (h c hc)⟩
  exact List.length_pos_iff.mpr hne
theorem start_S {a b : List Nat} : Txt.startswith (S a) (S b) = (a.take b.length == b) := by
  unfold Txt.startswith subAt
  rw [S_len, S_len, Nat.zero_add]
  have e : ((S a).cps.extract 0 b.length == (S b).cps) = (a.take b.length == b) := by
    have : (S a).cps.extract 0 b.length = (a.take b.length).toArray := by simp [S]
    rw [this]
    have h2 : ((a.take b.length).toArray == b.toArray) = (a.take b.length == b) := by simp
    exact h2
  rw [e]
  by_cases h : b.length ≤ a.length
  · rw [decide_eq_true h, Bool.true_and]
  · rw [decide_eq_false h, Bool.false_and]
    symm
    refine beq_eq_false_iff_ne.mpr fun z => h ?_
    have := congrArg List.length z
    rw [List.length_take] at this
    omega
theorem num_head {n : Nat} (h : 0 < n) : ∃ c l, TL.numL n = c :: l ∧ c ≠ 48 := by
  induction n using Nat.strongRecOn with
  | ind n ih =>
    by_cases h10 : n < 10
    · exact ⟨48 + n, [], TL.numL_lt h10, by omega⟩
    · obtain ⟨c, l, e, hc⟩ := ih (n / 10) (by omega) (by omega)
      refine ⟨c, l ++ [48 + n % 10], ?_, hc⟩
      rw [TL.numL_step (by omega), e]
      rfl
theorem num_zero : TL.numL 0 = [48] := TL.numL_lt (by decide)
theorem drop_num (k n : Nat) : (List.replicate k 48 ++ TL.numL n).dropWhile ([48] : List Nat).contains = if n = 0 then [] else TL.numL n := by
  induction k with
  | zero =>
    rw [List.replicate_zero, List.nil_append]
    by_cases h : n = 0
    · subst h
      rw [if_pos rfl, num_zero]
      decide
    · rw [if_neg h]
      obtain ⟨c, l, e, hc⟩ := num_head (by omega : 0 < n)
      rw [e, List.dropWhile_cons_of_neg]
      simp
      omega
  | succ k ih =>
    rw [List.replicate_succ, List.cons_append, List.dropWhile_cons_of_pos (by decide)]
    exact ih
theorem val_zeros (k : Nat) (a : List Nat) : NumText.digitsVal (List.replicate k 48 ++ a) = NumText.digitsVal a := by
  unfold NumText.digitsVal
  rw [List.foldl_append]
  have : ∀ k : Nat, (List.replicate k 48).foldl (fun acc c => acc * 10 + (c - 48)) 0 = 0 := by
    intro k
    induction k with
    | zero => rfl
    | succ k ih =>
      rw [List.replicate_succ, List.foldl_cons]
      exact ih
  rw [this]
section
variable {X : Cx}
/-- int of a text of digits -/
def rIntT : List V → Hp → VK → Prop := fun vs H Q => ∃ a : List Nat, vs = [.str (S a)] ∧ NumText.AllDigits a ∧ a ≠ [] ∧ a.length ≤ 640 ∧ Q (.int ((NumText.digitsVal a : Nat) : Int)) H
theorem cr_intT : CallR X (.type "int") rIntT := by
  intro pins s σ H xs us Q I r h
  obtain ⟨a, rfl, hd, hn, hl, q⟩ := h
  obtain ⟨u, rfl, t, rfl⟩ := vals1 r
  have z := intText_digits (x := S a) hd hn (by rw [S_len]; omega)
  exact PySem.W.KIN.call_text z (by rw [S_len]; exact hl) ⟨.int _, H, I.tok _, ⟨_, rfl⟩, q⟩
end
section
variable {σ : L2.St} {H : Hp} {Q : VK} {to te : TE} {rr : V → List V → Hp → VK → Prop} {ts : List TE} {acc : Str} {Qs : Str → Hp → Prop} {t : TE}
theorem r_m0 : tM0 rr to σ H Q = to σ H fun x H1 => (∃ a, x = .str a) ∧ rr x [] H1 Q := rfl
theorem r_m1 : tM1 rr to te σ H Q = to σ H fun x H1 => (∃ a, x = .str a) ∧ te σ H1 fun y H2 => rr x [y] H2 Q := rfl
theorem r_js0 : tJs [] acc σ H Qs = Qs acc H := rfl
theorem r_js : tJs (t :: ts) acc σ H Qs = t σ H fun x H1 => ∃ y : Str, x = .str y ∧ (acc ++ y).length ≤ sizeLine ∧ tJs ts (acc ++ y) σ H1 Qs := rfl
theorem r_fmt : tFmt te σ H Q = te σ H fun x H1 => (∃ y : Str, x = .str y ∧ y.length ≤ sizeLine ∧ Q (.str y) H1) ∨ ∃ i : Int, x = .int i ∧ i.natAbs.log2 < 1920 ∧ Q (.str (toString i)) H1 := rfl
end
open PySem PySem.Spec PyProof.Rows L2 SX
theorem slice_zero (z : Str) (hi : Option Int) : Txt.slice z (some 0) hi = Txt.slice z none hi := by
  unfold Txt.slice
  have : Builtin.Str.strSliceIndices (some 0) hi 1 z.length = Builtin.Str.strSliceIndices none hi 1 z.length := by
    simp only [Builtin.Str.strSliceIndices]
    congr 1
  rw [this]
section
variable {X : Cx} {K : PySem.W.Frag}
def rJoin (K : PySem.W.Frag) : V → List V → Hp → VK → Prop := fun x xs H Q => ∃ a p, ∃ ys : List Str, x = .str a ∧ xs = [.ref p] ∧ (SqL K H p (ys.map V.str) ∨ SqT K H p (ys.map V.str)) ∧
    (ys.map (·.length)).sum + ys.length * a.length ≤ 16777216 ∧ Q (.str (Txt.join a ys)) H
theorem kJoin (h : X.K = K := by rfl) : MtR X "str.join" (rJoin K) := by
  subst h
  exact mt_join
end
open PySem PySem.Spec PyProof.Rows L2 SX
section
variable {X : Cx} {K : PySem.W.Frag}
def tRevN (K : PySem.W.Frag) (te : TE) : TE := fun σ H Q => te σ H fun x H1 => ∃ a xs, x = .ref a ∧ SqL K H1 a xs ∧ New H1 (.lst xs.reverse) Q
theorem kRevL {e : Expr} {te : TE} {k : Nat} {p1 p2 p3 pos : Pos} (he : PE X e te) (h : X.K = K := by rfl) : PE X (.Subscript e (.Slice none none (some (.UnaryOp .USub (.Constant (.int 1) k p1) p2)) p3) pos) (tRevN K te) := by
  subst h
  refine ⟨fun pins s σ H Q I q => (pe_revL (pos := pos) (p1 := p1) (p2 := p2) (p3 := p3) (k := k) (PE.mon he)).run pins s σ H Q I ?_⟩
  refine ⟨_, q, ?_⟩
  rintro x H1 ⟨a, xs, e1, h1, nw⟩
  exact ⟨a, xs, e1, h1, fun p hp => nw.at p hp⟩
theorem r_revN {te : TE} {σ : L2.St} {H : Hp} {Q : VK} : tRevN K te σ H Q = te σ H fun x H1 => ∃ a xs, x = .ref a ∧ SqL K H1 a xs ∧ New H1 (.lst xs.reverse) Q := rfl
theorem r_rng3 {ta : TA} {σ : L2.St} {H : Hp} {S : It → Hp → Prop} : iRng3 ta σ H S = ta σ H fun vs H1 => ∃ (i j c : Int) (n : Nat), vs = [.int i, .int j, .int c] ∧ RgC i j c n ∧ S (Itc i c n) H1 := rfl
end
section
variable {te : TE} {vs : List Nat} {σ : L2.St} {H1 : Hp} {Dd : Addr} {Q : VK} {j : Nat}
/-- a comprehension over a range with a step -/
theorem lcC {lo c : Int} {n : Nat} (R : Nat → V → Hp → Prop) (hR : ∀ i y H H', Kp H H' → R i y H → R i y H') (hD : H1 Dd = none) (hz : n ≤ 100000)
    (hw : ∀ x, wipe ((wipe σ vs).set j (some x)) vs = wipe σ vs)
    (hs : ∀ (i : Nat) H, i < n → Ex H1 H → tmE te ((wipe σ vs).set j (some (.int (lo + (i : Nat) * c)))) H fun y H4 => Ex H H4 ∧ R i y H4)
    (hd : LcEnd H1 Dd n R Q) : LcW (Itc lo c n) (gName j) tYes (tmE te) vs σ H1 Dd Q :=
  lc_it (Qd := fun H => Q (.ref Dd) H) walk_rangeC (LcJ H1 Dd R) (lcJ_start hD) (fun i H _ _ => trivial) (fun i v H H' hi p y => by
    obtain ⟨e1, e2⟩ := y
    subst e1 e2
    obtain ⟨acc, q1, q2, q3, q4⟩ := id p
    refine ⟨hw _, ?_⟩
    obtain ⟨R0, z1, z2⟩ := hs i _ hi q3
    exact ⟨R0, z1, fun y H4 r0 => lcJ_turn hR hD p (z2 y H4 r0).1 (z2 y H4 r0).2 (by omega)⟩)
    fun H ⟨acc, q1, q2, q3, q4⟩ => hd H acc q3 q1 q2 q4
end

/-! len, bool, str, repr by a class's own methods -/
open PySem.Builtin PySem.Builtin.Str
/-- C's own special method `name` is the def at f -/
def OwnSp (K : PySem.W.Frag) (C : Addr) (name : Str) (f : Addr) : Prop := ∃ (N : Addr) (of : Obj) (nm q : Str) (bs : List Value) (hdct : Bool) (sn : List Str) (sub : List Value) (ab : Bool) (col : Option Bool) (dd : Option Addr) (k0 k1 k2 k3 k5 : Option Value) (newId : String),
  K.lookup C = some (excClassObj nm q C N bs [.type "object"] hdct sn sub ab col dd k0 k1 k2 k3 k5 newId) ∧ PySem.W.nsOkIn K N = true ∧ PySem.W.nsIn K N name = some (some (.ref f)) ∧ K.lookup f = some of ∧ of.cls = .type "function"
/-- C has no special method `name` -/
def NoSp (K : PySem.W.Frag) (C : Addr) (name : Str) : Prop := ∃ (N : Addr) (nm q : Str) (bs : List Value) (hdct : Bool) (sn : List Str) (sub : List Value) (ab : Bool) (col : Option Bool) (dd : Option Addr) (k0 k1 k2 k3 k5 : Option Value) (newId : String),
  K.lookup C = some (excClassObj nm q C N bs [.type "object"] hdct sn sub ab col dd k0 k1 k2 k3 k5 newId) ∧ PySem.W.nsOkIn K N = true ∧ PySem.W.nsIn K N name = some none
theorem ns_some2 {K : PySem.W.Frag} {h : Heap} {N : Addr} {m : Str → Option Value} {n : Str} {v : Value} (X : K.In h) (G : h.Ns N m) (e : PySem.W.nsIn K N n = some (some v)) : m n = some v := by
  obtain ⟨o, es, ep, ho, hd, ok, hf⟩ := G
  unfold PySem.W.nsIn at e
  split at e
  · rename_i q
    have z := X _ _ q
    rw [ho] at z
    cases z
    cases hd
    split at e
    · rename_i en hen
      cases e
      rw [← hf]
      unfold nsFind findBy
      rw [← Array.find?_toList, hen]
      rfl
    · split at e <;> cases e
  · cases e
theorem OwnSp.at {K : PySem.W.Frag} {C f a : Addr} {name : Str} {hp : Heap} {o : Obj} {y : Option Value} (S : OwnSp K C name f) (KI : K.In hp) (ha : hp.get? a = some o) (hc : o.cls = .ref C) (hB : typeLookup (.type "object") name = pure y) : hp.OwnSpecial a C f "object" name := by
  obtain ⟨N, of, nm, q, bs, hdct, sn, sub, ab, col, dd, k0, k1, k2, k3, k5, newId, lC, okN, n1, lf, cf⟩ := S
  have hns : hp.Ns N (hp.nsMap N) := .of_isNs (PySem.W.isNs_of_in KI okN)
  exact ⟨o, of, nm, q, N, bs, _, hdct, sn, sub, ab, col, dd, k0, k1, k2, k3, k5, newId, _, y, ha, hc, KI _ _ lC, hns, ns_some2 KI hns n1, KI _ _ lf, cf, PySem.F.cmp_object.mro, hB⟩
theorem obj_len : typeLookup (.type "object") "__len__" = pure none := by rw [typeLookup_type, builtinLookup_eq_fast]; kernel_rfl
theorem obj_bool : typeLookup (.type "object") "__bool__" = pure none := by rw [typeLookup_type, builtinLookup_eq_fast]; kernel_rfl
theorem obj_str : typeLookup (.type "object") "__str__" = pure (some (.builtin "object.__str__")) := by rw [typeLookup_type, builtinLookup_eq_fast]; kernel_rfl
theorem obj_repr : typeLookup (.type "object") "__repr__" = pure (some (.builtin "object.__repr__")) := by rw [typeLookup_type, builtinLookup_eq_fast]; kernel_rfl
section
variable {prog : Program} {w : World} {A : Around} {E : Value → Shared → Prop} {h : Heap} {g : Array GenState} {d : Drawn} {t : Nat} {os : OsState} {C x f : Addr} {B : String}
theorem str_own {Q : Value → Shared → Prop} (X : h.OwnSpecial x C f B "__str__") (hu : A.in1.in1.units < cLine)
    (hcall : wpAny (model prog w) A.in1.in1 (call (.ref f) [.ref x]) (fun r s' => ∃ m tk, r = .str m tk ∧ Q (.str m tk) s') E ⟨h, g, d, t, os⟩) :
    wpAny (model prog w) A (call (.type "str") [.ref x]) Q E ⟨h, g, d, t, os⟩ := by
  refine callType_newIn (S := fun A' R s => wpAny (model prog w) A'.in1 (Builtin.Str.strOf (.ref x)) (fun r s' => R (.ok (.ret r)) s') (fun e s' => R (.error e) s') s) F.called_str (by decide) (F.typeCall_str_1 _) (F.newCall_str_1 _) (fun obj => F.args_object_init_2 obj _) F.entry_str_new ?_ ?_
  · intro A' R s hs
    rw [str_new_tree (.ref x)]
    refine wpAny_bind (wpAny_pure ?_)
    refine wpAny_bind (wpAny_of_eq isSubtype_str_str ?_)
    exact wpAny_bind (wpAny_mono hs (fun r s' h' => wpAny_pure h') fun _ _ e => e)
  · unfold Builtin.Str.strOf
    rw [if_neg (by simp [isExactStr])]
    refine wpAny_bind (wpAny_cRoomFor hu ?_)
    refine wpAny_bind (m := callSpecial? (.ref x) (Str.ofString "__str__")) (wpAny_callSpecial?_own X (wpAny_mono hcall (fun r s' hr => ?_) fun _ _ y => y))
    obtain ⟨m, tk, rfl, hq⟩ := hr
    refine wpAny_bind (wpAny_pure ?_)
    exact wpAny_pure ⟨typeIs_str _ _ _, hq⟩
theorem special_none {M : Model} {name : Str} {K : PySem.W.Frag} {o : Obj} {Q : Option Value → Shared → Prop} (S : NoSp K C name) (KI : K.In h) (ha : h.get? x = some o) (hc : o.cls = .ref C) (hB : typeLookup (.type "object") name = pure none) (hq : Q none ⟨h, g, d, t, os⟩) :
    wpAny M A (specialOf (.ref x) name) Q E ⟨h, g, d, t, os⟩ := by
  obtain ⟨N, nm, q, bs, hdct, sn, sub, ab, col, dd, k0, k1, k2, k3, k5, newId, lC, okN, n1⟩ := S
  have hns : h.Ns N (h.nsMap N) := .of_isNs (PySem.W.isNs_of_in KI okN)
  have hf := PySem.W.ns_none_of KI hns n1
  have hC := KI _ _ lC
  unfold specialOf
  repeat (first | (with_reducible refine wpAny_loadPart_at ha ?_; rw [hc]) | (with_reducible refine wpAny_typeLookup_exc hC hns PySem.F.cmp_object.mro hB ?_; rw [hf]) | wp_step)
  exact hq
theorem callSpecial_none {M : Model} {name : Str} {args : List Value} {K : PySem.W.Frag} {o : Obj} {Q : Option Value → Shared → Prop} (S : NoSp K C name) (KI : K.In h) (ha : h.get? x = some o) (hc : o.cls = .ref C) (hB : typeLookup (.type "object") name = pure none) (hq : Q none ⟨h, g, d, t, os⟩) :
    wpAny M A (callSpecial? (.ref x) name args) Q E ⟨h, g, d, t, os⟩ := by
  unfold callSpecial?
  refine wpAny_bind (special_none S KI ha hc hB ?_)
  exact wpAny_pure hq
theorem truthy_ownlen {K : PySem.W.Frag} {o : Obj} {Q : Bool → Shared → Prop} (S : NoSp K C "__bool__") (KI : K.In h) (ha : h.get? x = some o) (hc : o.cls = .ref C) (X : h.OwnSpecial x C f B "__len__")
    (hcall : wpAny (model prog w) A.in1 (call (.ref f) [.ref x]) (fun r s' => ∃ n u, r = .int n u ∧ 0 ≤ n ∧ n < 2 ^ 63 ∧ Q (n != 0) { s' with toks := s'.toks + 1 }) E ⟨h, g, d, t, os⟩) :
    wpAny (model prog w) A (truthy (.ref x)) Q E ⟨h, g, d, t, os⟩ := by
  have key : wpAny (model prog w) A (runValue (.builtin "len" ⟨[.ref x], []⟩)) (fun r s' => ∃ n u, r = .int n u ∧ Q (n != 0) s') E ⟨h, g, d, t, os⟩ := by
    refine wpAny_runValue (codeAny_builtin entry_len ?_)
    rw [Around.under_plainId plain_len _]
    unfold Builtin.«len»
    refine wpAny_bind (m := oneArg "len" _) (wpAny_pure ?_)
    refine wpAny_bind (m := callSpecial? (.ref x) (Str.ofString "__len__")) (wpAny_callSpecial?_own X (wpAny_mono hcall (fun r s' hr => ?_) fun _ _ y => y))
    obtain ⟨n, u, rfl, h0, h1, hq⟩ := hr
    refine wpAny_bind (wpAny_holding (wpAny_pure ?_))
    refine wpAny_bind (wpAny_letGo ?_)
    show wpAny _ _ (if n < 0 then _ else _) _ _ _
    rw [if_neg (by omega)]
    show wpAny _ _ (if n ≥ 2 ^ 63 then _ else _) _ _ _
    rw [if_neg (by omega)]
    exact wpAny_bind (wpAny_mkInt (wpAny_pure ⟨n, _, rfl, hq⟩))
  unfold truthy
  first
    | refine wpAny_bind (m := callSpecial? (.ref x) (Str.ofString "__bool__")) (callSpecial_none S KI ha hc obj_bool ?_)
    | (refine wpAny_bind (wpAny_pure ?_); refine wpAny_bind (m := callSpecial? (.ref x) (Str.ofString "__bool__")) (callSpecial_none S KI ha hc obj_bool ?_))
  first
    | refine wpAny_bind (wpAny_specialOf_own X ?_)
    | (refine wpAny_bind (wpAny_pure ?_); refine wpAny_bind (wpAny_specialOf_own X ?_))
  first
    | exact wpAny_bind (wpAny_mono key (fun r s' h' => by obtain ⟨n, u, rfl, hq⟩ := h'; exact wpAny_pure hq) fun _ _ e => e)
    | exact wpAny_bind (wpAny_pure (wpAny_bind (wpAny_mono key (fun r s' h' => by obtain ⟨n, u, rfl, hq⟩ := h'; exact wpAny_pure hq) fun _ _ e => e)))
theorem bool_own {Q : Value → Shared → Prop} (ht : wpAny (model prog w) A.in1.in1 (truthy (.ref x)) (fun b s' => Q (.bool b) s') E ⟨h, g, d, t, os⟩) :
    wpAny (model prog w) A (call (.type "bool") [.ref x]) Q E ⟨h, g, d, t, os⟩ := by
  refine callType_newIn (S := fun A' R s => wpAny (model prog w) A'.in1 (truthy (.ref x)) (fun b s' => R (.ok (.ret (.bool b))) s') (fun e s' => R (.error e) s') s) F.called_bool F.newNe_bool (F.typeCall_bool_1 _) (F.newCall_bool_1 _) (fun obj => F.args_object_init_2 obj _) F.entry_bool_new ?_ ?_
  · intro A' R s hs
    have f1 := F.conv_sub_bool
    unfold Builtin.«bool.__new__»
    refine wpAny_bind (wpAny_pure ?_)
    refine wpAny_bind (wpAny_of_eq f1 ?_)
    refine wpAny_bind (wpAny_pure ?_)
    exact wpAny_bind (wpAny_mono hs (fun b s' h' => wpAny_pure h') fun _ _ e => e)
  · exact wpAny_mono ht (fun b s' hq => ⟨PySem.typeIs_bool _ _, hq⟩) fun _ _ e => e
end

/-! == and != of an own instance and a value of another kind -/
open PySem.Builtin AutoSeq1 MeetsSeq
/-- x is an instance of the class whose object says: bases of its order bm -/
def InsAt (h : Heap) (x C : Addr) (bm : List Value) : Prop := ∃ (o : Obj) (nm q : Str) (N : Addr) (bs : List Value) (hdct : Bool) (sn : List Str) (sub : List Value) (ab : Bool) (col : Option Bool) (dd : Option Addr) (k0 k1 k2 k3 k5 : Option Value) (newId : String),
  h.get? x = some o ∧ o.cls = .ref C ∧ o.data = .plain ∧ h.get? C = some (excClassObj nm q C N bs bm hdct sn sub ab col dd k0 k1 k2 k3 k5 newId)
local macro_rules | `(tactic| walk_at "noins") => `(tactic| (
  intro prog w A R s h
  obtain ⟨hp, g, d, tk, os⟩ := s
  obtain ⟨⟨o, nm, q, N, bs, hdct, sn, sub, ab, col, dd, k0, k1, k2, k3, k5, newId, hx, hc, hd, hC⟩, h⟩ := h
  obtain ⟨oc, od, odt, osl⟩ := o
  cases hc
  cases hd
  wp_walk using wpAny_loadPart' hx, wpAny_load hx, wpAny_isSubtype_exc hC
  first | exact h | exact ⟨_, rfl, h⟩))
abbrev DeclI (B : Builtin) (v : Value) : Prop := ∀ (l C : Addr), Meets (B ⟨[v, .ref l], []⟩) (fun _ R s => InsAt s.heap l C [.type "object"] ∧ R (.ok (.ret .notImplemented)) s)
theorem str_eq_ins (x : Str) (t : Tok) : DeclI Builtin.«str.__eq__» (.str x t) := fun l C => by walk_at "noins"
theorem str_ne_ins (x : Str) (t : Tok) : DeclI Builtin.«str.__ne__» (.str x t) := fun l C => by walk_at "noins"
theorem int_eq_ins (i : Int) (t : Tok) : DeclI Builtin.«int.__eq__» (.int i t) := fun l C => by walk_at "noins"
theorem int_ne_ins (i : Int) (t : Tok) : DeclI Builtin.«int.__ne__» (.int i t) := fun l C => by walk_at "noins"
theorem bool_eq_ins (b : Bool) : DeclI Builtin.«int.__eq__» (.bool b) := fun l C => by walk_at "noins"
theorem bool_ne_ins (b : Bool) : DeclI Builtin.«int.__ne__» (.bool b) := fun l C => by walk_at "noins"
theorem none_eq_ins : DeclI Builtin.«NoneType.__eq__» .none := fun l C => by walk_at "noins"
theorem none_ne_ins : DeclI Builtin.«NoneType.__ne__» .none := fun l C => by walk_at "noins"
local macro_rules | `(tactic| walk_at "noins2") => `(tactic| (
  intro prog w A R s h
  obtain ⟨hp, g, d, tk, os⟩ := s
  obtain ⟨hl, ⟨o, nm, q, N, bs, hdct, sn, sub, ab, col, dd, k0, k1, k2, k3, k5, newId, hx, hc, hd, hC⟩, h⟩ := h
  obtain ⟨oc, od, odt, osl⟩ := o
  cases hc
  cases hd
  wp_walk using wpAny_loadPart' hl, wpAny_loadPart' hx, wpAny_load hx, wpAny_isSubtype_exc hC
  first | exact h | exact ⟨_, rfl, h⟩))
abbrev DeclS (B : Builtin) (T : String) : Prop := ∀ (a l C : Addr) (items : Array Value) (n : Nat) (dd : Option Addr) (sl : Array (Option Value)),
  Meets (B ⟨[.ref a, .ref l], []⟩) (fun _ R s => s.heap.get? a = some { cls := .type T, dict := dd, data := .seq items n, slots := sl } ∧ InsAt s.heap l C [.type "object"] ∧ R (.ok (.ret .notImplemented)) s)
theorem list_eq_ins : DeclS Builtin.«list.__eq__» "list" := fun a l C items n dd sl => by walk_at "noins2"
theorem list_ne_ins : DeclS Builtin.«list.__ne__» "list" := fun a l C items n dd sl => by walk_at "noins2"
theorem tuple_eq_ins : DeclS Builtin.«tuple.__eq__» "tuple" := fun a l C items n dd sl => by walk_at "noins2"
theorem tuple_ne_ins : DeclS Builtin.«tuple.__ne__» "tuple" := fun a l C items n dd sl => by walk_at "noins2"
abbrev DeclD (B : Builtin) : Prop := ∀ (a l C : Addr) (es : Array DictEntry) (n : Nat) (dd : Option Addr) (sl : Array (Option Value)),
  Meets (B ⟨[.ref a, .ref l], []⟩) (fun _ R s => s.heap.get? a = some { cls := .type "dict", dict := dd, data := .dict es n, slots := sl } ∧ InsAt s.heap l C [.type "object"] ∧ R (.ok (.ret .notImplemented)) s)
theorem dict_eq_ins : DeclD Builtin.«dict.__eq__» := fun a l C items n dd sl => by walk_at "noins2"
theorem dict_ne_ins : DeclD Builtin.«dict.__ne__» := fun a l C items n dd sl => by walk_at "noins2"

/-! == and != of an own instance and a value of another kind: the rule -/
open PySem.Builtin
/-- what a value of another kind gives when it is compared -/
structure OddC (s : Shared) (u : Value) (T : String) : Prop where
  ty : s.TypeIs u T
  sub : ∀ C : Addr, isSubtype (.type T) (.ref C) = pure false
  top : ([Value.type "object"] : List Value).contains (.type T) = false
  eq : ∀ (prog : Program) (w : World) (A : Around) (E : Value → Shared → Prop) (Q : Option Value → Shared → Prop) (x C : Addr), InsAt s.heap x C [.type "object"] → Q none s → wpAny (model prog w) A (tryCompare u "__eq__" (.ref x)) Q E s
  ne : ∀ (prog : Program) (w : World) (A : Around) (E : Value → Shared → Prop) (Q : Option Value → Shared → Prop) (x C : Addr), InsAt s.heap x C [.type "object"] → Q none s → wpAny (model prog w) A (tryCompare u "__ne__" (.ref x)) Q E s
theorem odd_str (s : Shared) (x : Str) (t : Tok) : OddC s (.str x t) "str" := ⟨typeIs_str s x t, fun C => by rw [isSubtype_type]; kernel_rfl, by decide +kernel,
  fun prog w A E Q l C h q => wpAny_tryCompare_declines (typeIs_str s x t) F.slot_str_eq (call_meets F.slot_str_eq (typeIs_str s x t) F.entry_str_eq (F.args_str_eq_2 _ _) (str_eq_ins x t l C) ⟨h, rfl, q⟩),
  fun prog w A E Q l C h q => wpAny_tryCompare_declines (typeIs_str s x t) F.slot_str_ne (call_meets F.slot_str_ne (typeIs_str s x t) F.entry_str_ne (F.args_str_ne_2 _ _) (str_ne_ins x t l C) ⟨h, rfl, q⟩)⟩
theorem odd_int (s : Shared) (x : Int) (t : Tok) : OddC s (.int x t) "int" := ⟨typeIs_int s x t, fun C => by rw [isSubtype_type]; kernel_rfl, by decide +kernel,
  fun prog w A E Q l C h q => wpAny_tryCompare_declines (typeIs_int s x t) F.slot_int_eq (call_meets F.slot_int_eq (typeIs_int s x t) F.entry_int_eq (F.args_int_eq_2 _ _) (int_eq_ins x t l C) ⟨h, rfl, q⟩),
  fun prog w A E Q l C h q => wpAny_tryCompare_declines (typeIs_int s x t) F.slot_int_ne (call_meets F.slot_int_ne (typeIs_int s x t) F.entry_int_ne (F.args_int_ne_2 _ _) (int_ne_ins x t l C) ⟨h, rfl, q⟩)⟩
theorem odd_bool (s : Shared) (b : Bool) : OddC s (.bool b) "bool" := ⟨rfl, fun C => by rw [isSubtype_type]; kernel_rfl, by decide +kernel,
  fun prog w A E Q l C h q => wpAny_tryCompare_declines rfl F.slot_bool_eq (call_meets F.slot_bool_eq rfl F.entry_int_eq (F.args_int_eq_2 _ _) (bool_eq_ins b l C) ⟨h, rfl, q⟩),
  fun prog w A E Q l C h q => wpAny_tryCompare_declines rfl F.slot_bool_ne (call_meets F.slot_bool_ne rfl F.entry_int_ne (F.args_int_ne_2 _ _) (bool_ne_ins b l C) ⟨h, rfl, q⟩)⟩
theorem odd_none (s : Shared) : OddC s .none "NoneType" := ⟨rfl, fun C => by rw [isSubtype_type]; kernel_rfl, by decide +kernel,
  fun prog w A E Q l C h q => wpAny_tryCompare_declines rfl F.slot_NoneType_eq (call_meets F.slot_NoneType_eq rfl F.entry_NoneType_eq (F.args_NoneType_eq_2 _ _) (none_eq_ins l C) ⟨h, rfl, q⟩),
  fun prog w A E Q l C h q => wpAny_tryCompare_declines rfl F.slot_NoneType_ne (call_meets F.slot_NoneType_ne rfl F.entry_NoneType_ne (F.args_NoneType_ne_2 _ _) (none_ne_ins l C) ⟨h, rfl, q⟩)⟩
theorem odd_list (s : Shared) (a : Addr) {dd : Option Addr} {its : Array Value} {n : Nat} {sl : Array (Option Value)} (ho : s.heap.get? a = some { cls := .type "list", dict := dd, data := .seq its n, slots := sl }) : OddC s (.ref a) "list" := by
  have ty : s.TypeIs (.ref a) "list" := ⟨_, ho, rfl⟩
  exact ⟨ty, fun C => by rw [isSubtype_type]; kernel_rfl, by decide +kernel,
    fun prog w A E Q l C h q => wpAny_tryCompare_declines ty F.slot_list_eq (call_meets F.slot_list_eq ty F.entry_list_eq (F.args_list_eq_2 _ _) (list_eq_ins a l C _ _ _ _) ⟨ho, h, rfl, q⟩),
    fun prog w A E Q l C h q => wpAny_tryCompare_declines ty F.slot_list_ne (call_meets F.slot_list_ne ty F.entry_list_ne (F.args_list_ne_2 _ _) (list_ne_ins a l C _ _ _ _) ⟨ho, h, rfl, q⟩)⟩
theorem odd_tuple (s : Shared) (a : Addr) {dd : Option Addr} {its : Array Value} {n : Nat} {sl : Array (Option Value)} (ho : s.heap.get? a = some { cls := .type "tuple", dict := dd, data := .seq its n, slots := sl }) : OddC s (.ref a) "tuple" := by
  have ty : s.TypeIs (.ref a) "tuple" := ⟨_, ho, rfl⟩
  exact ⟨ty, fun C => by rw [isSubtype_type]; kernel_rfl, by decide +kernel,
    fun prog w A E Q l C h q => wpAny_tryCompare_declines ty F.slot_tuple_eq (call_meets F.slot_tuple_eq ty F.entry_tuple_eq (F.args_tuple_eq_2 _ _) (tuple_eq_ins a l C _ _ _ _) ⟨ho, h, rfl, q⟩),
    fun prog w A E Q l C h q => wpAny_tryCompare_declines ty F.slot_tuple_ne (call_meets F.slot_tuple_ne ty F.entry_tuple_ne (F.args_tuple_ne_2 _ _) (tuple_ne_ins a l C _ _ _ _) ⟨ho, h, rfl, q⟩)⟩
theorem odd_dict (s : Shared) (a : Addr) {dd : Option Addr} {es : Array DictEntry} {n : Nat} {sl : Array (Option Value)} (ho : s.heap.get? a = some { cls := .type "dict", dict := dd, data := .dict es n, slots := sl }) : OddC s (.ref a) "dict" := by
  have ty : s.TypeIs (.ref a) "dict" := ⟨_, ho, rfl⟩
  exact ⟨ty, fun C => by rw [isSubtype_type]; kernel_rfl, by decide +kernel,
    fun prog w A E Q l C h q => wpAny_tryCompare_declines ty F.slot_dict_eq (call_meets F.slot_dict_eq ty F.entry_dict_eq (F.args_dict_eq_2 _ _) (dict_eq_ins a l C _ _ _ _) ⟨ho, h, rfl, q⟩),
    fun prog w A E Q l C h q => wpAny_tryCompare_declines ty F.slot_dict_ne (call_meets F.slot_dict_ne ty F.entry_dict_ne (F.args_dict_ne_2 _ _) (dict_ne_ins a l C _ _ _ _) ⟨ho, h, rfl, q⟩)⟩

/-! == and != of an own instance and a value of another kind, both ways round -/
open PySem.Builtin
section
variable {prog : Program} {w : World} {A : Around} {E : Value → Shared → Prop} {h : Heap} {g : Array GenState} {d : Drawn} {t : Nat} {os : OsState} {C x f : Addr} {v : Value} {T : String}
theorem try_eq_own {B : String} {Q : Option Value → Shared → Prop} (X : h.OwnSpecial x C f B "__eq__")
    (hc : wpAny (model prog w) A (call (.ref f) [.ref x, v]) (fun r s' => ∃ b, r = .bool b ∧ Q (some (.bool b)) s') E ⟨h, g, d, t, os⟩) : wpAny (model prog w) A (tryCompare (.ref x) "__eq__" v) Q E ⟨h, g, d, t, os⟩ := by
  unfold tryCompare
  refine wpAny_bind (wpAny_callSpecialIfBound?_own X (wpAny_mono hc (fun r s' hr => ?_) fun _ _ z => z))
  obtain ⟨b, rfl, q⟩ := hr
  exact wpAny_pure q
theorem obj_ne_own {B : String} {bm : List Value} (X : h.OwnEqNoNe x C f B bm) (hu : A.units < cLine) {Q : Fin → Shared → Prop}
    (hc : wpAny (model prog w) A (call (.ref f) [.ref x, v]) (fun u s' => ∃ b, u = .bool b ∧ Q (.done (.ret (.bool (!b)))) s') E ⟨h, g, d, t, os⟩) :
    wpAny (model prog w) A (Builtin.«object.__ne__» ⟨[.ref x, v], []⟩) Q E ⟨h, g, d, t, os⟩ := by
  unfold Builtin.«object.__ne__»
  repeat (first
    | with_reducible refine wpAny_cRoomFor hu ?_
    | (refine wpAny_bind (m := callSpecialIfBound? (.ref x) (Str.ofString "__eq__") [v]) (wpAny_callSpecialIfBound?_own X.ownEq (wpAny_mono hc (fun r s' hr => by
          obtain ⟨b, rfl, q⟩ := hr
          repeat (first | exact q | exact wpAny_pure q | exact wpAny_truthy_bool q | (refine wpAny_bind (m := truthy (.bool _)) (wpAny_truthy_bool ?_)) | wp_step)) fun _ _ z => z)))
    | wp_step)
theorem try_ne_own {B : String} {bm : List Value} (FB : CmpFacts B bm) (X : h.OwnEqNoNe x C f B bm) (hu : A.units + 1 < cLine) {Q : Option Value → Shared → Prop}
    (hc : wpAny (model prog w) A.in1 (call (.ref f) [.ref x, v]) (fun r s' => ∃ b, r = .bool b ∧ Q (some (.bool (!b))) s') E ⟨h, g, d, t, os⟩) : wpAny (model prog w) A (tryCompare (.ref x) "__ne__" v) Q E ⟨h, g, d, t, os⟩ := by
  obtain ⟨o, of, nm, q, N, bs, hdct, sn, sub, ab, col, dd, k0, k1, k2, k3, k5, newId, mN, yv, hx, ho, hC, hn, _, _, _, _, _, hne⟩ := id X
  unfold tryCompare
  have e0 : wpAny (model prog w) A.in1 (Builtin.«object.__ne__» ⟨[.ref x, v], []⟩) (fun fin s' => ∃ b, fin = .done (.ret (.bool b)) ∧ Q (some (.bool b)) s') E ⟨h, g, d, t, os⟩ :=
    obj_ne_own (A := A.in1) X hu (wpAny_mono hc (fun r s' hr => let ⟨b, e, q⟩ := hr; ⟨b, e, _, rfl, q⟩) fun _ _ z => z)
  refine wpAny_bind (wpAny_callSpecialIfBound?_inst hx ho hC hn hne FB.mro FB.ne ?_)
  refine wpAny_call (codeAny_call_builtin FB.ne.plain F.cmpEntry_ne ?_)
  refine wpAny_check_slot_inst F.cmpKind_ne F.cmpSplit_ne (F.cmpArgs_ne _ _) FB.hasObject hx ho hC ?_
  refine wpAny_mono e0 (fun fin s' hf => ?_) fun _ _ z => z
  obtain ⟨b, rfl, q⟩ := hf
  exact wpAny_pure q
theorem rich_row_odd {op : CmpOp} {sym : String} {n r : Str} {Q : Value → Shared → Prop} (hop : cmpInfo op = (sym, n, r)) (S : InsAt h x C [.type "object"]) (O : OddC ⟨h, g, d, t, os⟩ v T) (hu : A.units < cLine)
    (ht : wpAny (model prog w) A (tryCompare (.ref x) n v) (fun z s' => ∃ y, z = some y ∧ Q y s') E ⟨h, g, d, t, os⟩) : wpAny (model prog w) A (richCompare op (.ref x) v) Q E ⟨h, g, d, t, os⟩ := by
  obtain ⟨o, nm, q, N, bs, hdct, sn, sub, ab, col, dd, k0, k1, k2, k3, k5, newId, hx, hc, hd, hC⟩ := S
  unfold richCompare
  simp only [oneThing_ref]
  refine wpAny_holding (wpAny_bind (wpAny_cRoomFor hu ?_))
  rw [hop]
  dsimp only
  refine wpAny_bind (wpAny_typeOf_ref hx ?_)
  rw [hc]
  refine wpAny_bind (wpAny_typeOf O.ty ?_)
  rw [show (Value.ref C != Value.type T) = true by simp]
  simp only [if_true]
  refine wpAny_bind (wpAny_of_eq (O.sub C) ?_)
  simp only [Bool.false_eq_true, if_false]
  refine wpAny_bind (wpAny_mono ht (fun z s' hz => ?_) fun _ _ e => e)
  obtain ⟨y, rfl, q⟩ := hz
  exact wpAny_pure q
theorem rich_odd_row {op : CmpOp} {sym : String} {n r : Str} {Q : Value → Shared → Prop} (hop : cmpInfo op = (sym, n, r)) (S : InsAt h x C [.type "object"]) (O : OddC ⟨h, g, d, t, os⟩ v T) (hu : A.units < cLine)
    (hn : ∀ Q' : Option Value → Shared → Prop, Q' none ⟨h, g, d, t, os⟩ → wpAny (model prog w) A (tryCompare v n (.ref x)) Q' E ⟨h, g, d, t, os⟩)
    (ht : wpAny (model prog w) A (tryCompare (.ref x) r v) (fun z s' => ∃ y, z = some y ∧ Q y s') E ⟨h, g, d, t, os⟩) : wpAny (model prog w) A (richCompare op v (.ref x)) Q E ⟨h, g, d, t, os⟩ := by
  obtain ⟨o, nm, q, N, bs, hdct, sn, sub, ab, col, dd, k0, k1, k2, k3, k5, newId, hx, hc, hd, hC⟩ := S
  simp only [richCompare, hop, O.ty.oneThing_none]
  refine wpAny_holding (wpAny_bind (wpAny_cRoomFor hu ?_))
  refine wpAny_bind (wpAny_typeOf O.ty (wpAny_bind (wpAny_typeOf_ref hx ?_)))
  rw [hc, show (Value.type T != Value.ref C) = true by simp]
  simp only [if_true]
  refine wpAny_bind (wpAny_isSubtype_exc hC ?_)
  have e : ((Value.ref C :: [Value.type "object"]).contains (.type T)) = false := by
    rw [List.contains_cons, O.top, Bool.or_false]
    simp
  rw [e]
  simp only [Bool.false_eq_true, if_false, Bool.not_false, if_true]
  refine wpAny_bind (hn _ ?_)
  refine wpAny_bind (wpAny_mono ht (fun z s' hz => ?_) fun _ _ e => e)
  obtain ⟨y, rfl, q⟩ := hz
  exact wpAny_pure q
end
section
variable {X : Cx} {K : PySem.W.Frag}
/-- t + u of two tuples, an empty one among them too -/
def rCatTN (K : PySem.W.Frag) : R2 := fun x y H Q => ∃ a b xs ys, x = .ref a ∧ y = .ref b ∧ SqT K H a xs ∧ SqT K H b ys ∧ xs.length + ys.length ≤ sizeLine ∧
  ∀ p H', Ex H H' → SqT K H' p (xs ++ ys) → Q (.ref p) H'
theorem op_catTN (h : X.K = K := by rfl) : OpR X (binaryOp .Add) (rCatTN K) := by
  subst h
  exact OpR.imp op_catA fun x y H Q ⟨a, b, xs, ys, e1, e2, h1, h2, z, n⟩ => ⟨a, b, xs, ys, e1, e2, h1, h2, z,
    fun q => n b H (Ex.refl H) (by rw [q]; exact h2), fun _ q => n a H (Ex.refl H) (by rw [q, List.append_nil]; exact h1), fun _ _ p hp => n p _ (Ex.new hp) (.of upd_same)⟩
end

local macro_rules | `(tactic| walk_at "rd") => `(tactic| try simp only [r_seq, r_asg, r_name, r_ifS, r_next, r_ret, r_retN, r_drop, r_test, r_B, r_if, r_cons, r_nil, r_cb, r_tF, r_part, r_nopart, r_sl, r_par, r_chain, r_or, r_and, r_not, r_orV, r_andV, r_notV, r_op, r_un, r_var, r_c, r_yes, r_I0, r_I, r_U, r_eqI, r_neI, r_eqS, r_neS, r_lst, r_tup, r_for, r_lc, r_list, r_tupI, r_rng1, r_rng2, r_enumT, r_bm, r_fld, r_subT, r_gtup, r_gcons, r_gnil, r_K0, r_K, r_Kb, wipe, r_never, r_len, r_sfld,
  L2.start, List.map_cons, List.map_nil, List.length_cons, List.length_nil, Nat.reduceAdd, Nat.reduceSub, List.reduceReplicate, List.cons_append, List.nil_append, List.set_cons_zero, List.set_cons_succ, List.getElem?_cons_zero, List.getElem?_cons_succ, Option.some.injEq, exists_eq_left', exists_eq_left, exists_eq_right, exists_eq_right', V.int.injEq, V.ref.injEq, V.bl.injEq, V.str.injEq, List.cons.injEq, and_true, true_and, and_false, false_and, or_false, false_or, exists_false, exists_const, and_assoc, reduceCtorEq, if_true, if_false, Bool.false_eq_true, Bool.not_true, Bool.not_false, Bool.not_eq_true', decide_eq_true_eq, decide_eq_false_iff_not, exists_and_left, exists_and_right, exists_eq_or_imp])
section
variable {P : Program} {w : World} {K : PySem.W.Frag} {mg : Str → Option Value} {base : Heap}
def top (i : Nat) : Stmt := PySem.Challenge.pw_drawnmore_k05_rows_compared.main.body.getD i (.Pass ⟨0, 0, 0, 0⟩)
/-- the built-in names that the text does not bind -/
structure Bi (mg : Str → Option Value) : Prop where
  len : mg "len" = none
  abs : mg "abs" = none
  max : mg "max" = none
  min : mg "min" = none
  sum : mg "sum" = none
  range : mg "range" = none
  tuple : mg "tuple" = none
  int : mg "int" = none
  divmod : mg "divmod" = none
  all : mg "all" = none
  repr : mg "repr" = none
  isinstance : mg "isinstance" = none
  enumerate : mg "enumerate" = none
  bool : mg "bool" = none
  zip : mg "zip" = none
  str : mg "str" = none
  list : mg "list" = none
theorem Has.of {x : Str} {st : Stmt} {ps : List Str} {k : Nat} {sp : Sp} (D : Df K mg x st ps)
    (h : ∀ f fd, Fun K x x st f fd → FnOk P w K mg base CX0 k f fd ps sp) : Has P w K mg base x k ps sp := by
  obtain ⟨f, fd, F, hm, hb⟩ := D
  exact ⟨f, fd, h f fd F, hm, F.kp, hb⟩
theorem HasG.of {x : Str} {st : Stmt} {ps : List Str} {k : Nat} {sp : Sp} (D : Df K mg x st ps)
    (h : ∀ f fd, Fun K x x st f fd → FnG P w K mg base k f fd ps sp) : HasG P w K mg base x k ps sp := by
  obtain ⟨f, fd, F, hm, hb⟩ := D
  exact ⟨f, fd, h f fd F, hm, F.kp, hb⟩

def spVat (K : PySem.W.Frag) : Sp := fun vs H Q _ => ∃ (a : Addr) (ns : List Int) (i : Int), vs = [.ref a, .int i] ∧ SqL K H a (ns.map V.int) ∧ ns.length ≤ 63 ∧ 0 ≤ i ∧ i < 100 ∧
  ∀ v H', H v = none → Ex H H' → VatAt H' v → Q (.ref v) H'
theorem scVat : FnScope ["script", "at", "figure", "seed", "each"] ["script", "at"] (defScope (top 22)) := ⟨rfl, rfl, rfl, by decide +kernel, rfl, by decide +kernel, by decide +kernel⟩
theorem has_vat (B : Bi mg) (D : Df K mg "_law_vat" (top 22) ["script", "at"]) : Has P w K mg base "_law_vat" 1 ["script", "at"] (spVat K) := by
  have sc := scVat
  refine .of D fun f fd F => F.ok sc (fun vs H Q E h => ?_) (fun cdv A outer s H vs Q E hr h => ?_)
  · obtain ⟨a, ns, i, rfl, _⟩ := h
    rfl
  · obtain ⟨a, ns, i, rfl, hS, hl, h0, h1, k⟩ := h
    refine ⟨_, (pss_cons (ps_set (i := 2) sc.nd rfl (by first | exact Or.inl rfl | exact Or.inr rfl) (PE.mon (pe_ifExp (pt_cmpR op_lt (pv 1) (pe_callB (kLen (K := K)) (by rfl) B.len (by decide +kernel) (pa_cons (pv 0) pa_nil)) (nomark _)) (pe_ix (ixL (K := K)) (pv 0) (pv 1) (fun _ _ => rfl)) (pe_op op_add (pe_op op_mulS pe_int (pv 1)) pe_int))))
      (pss_cons (ps_set (i := 3) sc.nd rfl (by first | exact Or.inl rfl | exact Or.inr rfl) (pe_op op_add pe_int (pe_op op_mulS pe_int (pv 1))))
      (pss_cons (ps_for PassesOwn.never rfl (pi_list (pe_op op_catN (pe_lstN (pa_cons (pv 2) pa_nil)) (pe_slice (slL (K := K)) (pv 0) po_none (po_some pe_int)))) (pg_name (i := 4) sc.nd rfl (by first | exact Or.inl rfl | exact Or.inr rfl))
      (pss_one (ps_set (i := 3) sc.nd rfl (by first | exact Or.inl rfl | exact Or.inr rfl) (pe_op op_mod (pe_callTy call_intN (by rfl) B.int (by decide +kernel) (pa_cons (pe_op op_add (pe_op op_mulS (pv 3) pe_int) (pv 4)) pa_nil)) pe_int))))
      (pss_one (ps_ret (pe_lstN (pa_cons (PE.mon (pe_ifExp (pt_cmpR op_ge (pe_callB call_abs (by rfl) B.abs (by decide +kernel) (pa_cons (pv 2) pa_nil)) (pe_op op_pow pe_int pe_int) (nomark _)) (pe_callB call_abs (by rfl) B.abs (by decide +kernel) (pa_cons (pv 2) pa_nil)) pe_int)) (pa_cons (pv 3) (pa_cons pe_int pa_nil))))))))), ?_⟩
    walk_at "rd"
    obtain ⟨R0, hR⟩ : ∃ R : VK, R = fun v H' => (∃ z : Int, v = .int z) ∧ H' = H := ⟨_, rfl⟩
    refine ⟨R0, ?_, ?_⟩
    · walk_at "rd"
      refine ⟨_, .inl hS, ?_⟩
      rw [List.length_map]
      split
      · rename_i hi
        obtain ⟨z, _, e⟩ := at_int h0 hi
        refine q_ixL hS e ?_
        rw [hR]
        exact ⟨⟨z, rfl⟩, rfl⟩
      · refine ⟨cmulL, ?_⟩
        rw [hR]
        exact ⟨⟨_, rfl⟩, rfl⟩
    intro x H' hx
    rw [hR] at hx
    obtain ⟨⟨z, rfl⟩, rfl⟩ := hx
    walk_at "rd"
    refine ⟨cmulL, by decide, fun p H1 n1 e1 t1 => ⟨a, _, rfl, sqL_ex hS e1, fun p2 H2 n2 e2 t2 => ?_⟩⟩
    have lc := cutV_length (ns.map V.int) none (some 6)
    rw [List.length_map] at lc
    refine ⟨p, p2, _, _, rfl, rfl, e2 _ _ t1, t2, sizeLine_le (by simp only [List.length_cons, List.length_nil]; omega), fun p3 H3 n3 e3 t3 => ⟨p3, rfl, ⟨_, .of t3⟩, ?_⟩⟩
    have e13 := (e1.trans e2).trans e3
    obtain ⟨Pv, hP⟩ : ∃ P : Nat → L2.St → Hp → Prop, P = fun j σ' G => G = H3 ∧ ∃ (s : Int) (t : Option V), σ' = [some (.ref a), some (.int i), some (.int z), some (.int s), t] ∧ 0 ≤ s ∧ s < 2147483323 := ⟨_, rfl⟩
    refine loopL (xs := _) Pv (by rw [hP]; exact ⟨rfl, _, _, rfl, by omega, by omega⟩) (fun j σ' G _ h => by rw [hP] at h; rw [h.1]; exact .of t3) ?_ ?_
    · intro j x σ' G hx h
      rw [hP] at h
      obtain ⟨rfl, s, t, rfl, s0, s1⟩ := h
      have hm := List.mem_of_getElem? hx
      have hx2 : ∃ y, x = .int y := by
        rcases List.mem_append.mp hm with q | q
        · rw [List.mem_singleton] at q
          exact ⟨z, q⟩
        · exact ints_cut q
      obtain ⟨y, rfl⟩ := hx2
      walk_at "rd"
      refine ⟨cmulR, by decide, ?_⟩
      rw [hP]
      exact ⟨rfl, _, _, rfl, Int.emod_nonneg _ (by decide), Int.emod_lt_of_pos _ (by decide)⟩
    · intro σ' G h
      rw [hP] at h
      obtain ⟨rfl, s, t, rfl, s0, s1⟩ := h
      walk_at "rd"
      obtain ⟨R1, hR1⟩ : ∃ R : VK, R = fun v H' => (∃ q : Int, v = .int q ∧ 0 ≤ q) ∧ H' = G := ⟨_, rfl⟩
      refine ⟨R1, ?_, ?_⟩
      · walk_at "rd"
        refine ⟨⟨by decide, by decide, by decide⟩, ?_⟩
        generalize hq : (if z < 0 then -z else z) = q
        have q0 : 0 ≤ q := by
          rw [← hq]
          split <;> omega
        rw [hR1]
        split
        · exact ⟨⟨_, rfl, q0⟩, rfl⟩
        · exact ⟨⟨_, rfl, by decide⟩, rfl⟩
      · intro v H' h
        rw [hR1] at h
        obtain ⟨⟨q, rfl, q0⟩, rfl⟩ := h
        walk_at "rd"
        exact ⟨by decide, fun v H4 n4 e4 t4 => k v H4 (e13.free n4) (e13.trans e4) ⟨q, s, 0, t4, q0, s0, s1, by decide⟩⟩

def spDip : Sp := fun vs H Q _ => ∃ (v : Addr) (m : Int), vs = [.ref v, .int m] ∧ VatAt H v ∧ 0 < m ∧ m.natAbs.log2 < 9000 ∧
  ∀ r H', Gv v H H' → 0 ≤ r → r < m → Q (.int r) H'
theorem scDip : FnScope ["vat", "many", "digit"] ["vat", "many"] (defScope (top 23)) := ⟨rfl, rfl, rfl, by decide +kernel, rfl, by decide +kernel, by decide +kernel⟩
theorem has_dip (B : Bi mg) (D : Df K mg "_law_dip" (top 23) ["vat", "many"]) : Has P w K mg base "_law_dip" 1 ["vat", "many"] spDip := by
  have sc := scDip
  refine .of D fun f fd F => F.ok sc (fun vs H Q E h => ?_) (fun cdv A outer s H vs Q E hr h => ?_)
  · obtain ⟨v, m, rfl, _⟩ := h
    rfl
  · obtain ⟨v, m, rfl, hv, m0, m1, k⟩ := h
    obtain ⟨a, b, c, hl, a0, b0, b1, c0⟩ := id hv
    refine ⟨_, (pss_cons (ps_if (pt_cmpR op_gt (pe_ix (ixL (K := K)) (pv 0) pe_int (fun _ _ => rfl)) pe_int (nomark _)) (pss_cons (ps_asg (pe_callB call_divmodN (by rfl) B.divmod (by decide +kernel) (pa_cons (pe_ix (ixL (K := K)) (pv 0) pe_int (fun _ _ => rfl)) (pa_cons (pv 1) pa_nil))) (pg_tup rfl (pgs_cons (pg_sub (pv 0) pe_int set_list) (pgs_cons (pg_name (i := 2) sc.nd rfl (by first | exact Or.inl rfl | exact Or.inr rfl)) pgs_nil))))
      (pss_one (ps_ret (pv 2)))) pss_nil)
      (pss_cons (ps_asg (pe_op op_add (pe_ix (ixL (K := K)) (pv 0) pe_int (fun _ _ => rfl)) pe_int) (pg_sub (pv 0) pe_int set_list))
      (pss_cons (ps_asg (pe_op op_mod (pe_callTy call_intN (by rfl) B.int (by decide +kernel) (pa_cons (pe_op op_add (pe_op op_mulS (pe_ix (ixL (K := K)) (pv 0) pe_int (fun _ _ => rfl)) pe_int) (pe_op op_mulS pe_int (pe_ix (ixL (K := K)) (pv 0) pe_int (fun _ _ => rfl)))) pa_nil)) pe_int) (pg_sub (pv 0) pe_int set_list))
      (pss_one (ps_ret (pe_op op_mod (pe_callTy call_intN (by rfl) B.int (by decide +kernel) (pa_cons (pe_op op_fdivW (pe_ix (ixL (K := K)) (pv 0) pe_int (fun _ _ => rfl)) pe_int) pa_nil)) (pv 1))))))), ?_⟩
    walk_at "rd"
    refine q_ixL (.of hl) rfl ?_
    walk_at "rd"
    split
    · refine q_ixL (.of hl) rfl ?_
      refine ⟨_, _, rfl, m0, m1, fun p H1 n1 e1 t1 => ⟨p, rfl, _, .of t1, rfl, ?_⟩⟩
      have hv1 := e1 _ _ hl
      walk_at "rd"
      refine ⟨v, _, 0, 0, rfl, rfl, hv1, rfl, ?_⟩
      walk_at "rd"
      refine k _ _ ⟨hv, fun x o n ho => ?_, ⟨_, _, _, upd_same, Int.ediv_nonneg a0 (by omega), b0, b1, c0⟩⟩ (Int.emod_nonneg _ (by omega)) (Int.emod_lt_of_pos _ m0)
      rw [upd_ne n]
      exact e1 _ _ ho
    · refine q_ixL (.of hl) rfl ?_
      walk_at "rd"
      refine ⟨v, _, 2, 2, rfl, rfl, hl, rfl, ?_⟩
      walk_at "rd"
      have t1 : (upd H v (.lst [.int a, .int b, .int (c + 1)])) v = some (.lst [.int a, .int b, .int (c + 1)]) := upd_same
      refine q_ixL (.of t1) rfl ?_
      walk_at "rd"
      refine ⟨cmulR, ?_⟩
      refine q_ixL (.of t1) rfl ?_
      walk_at "rd"
      refine ⟨cmulL, by decide, v, _, 1, 1, rfl, rfl, t1, rfl, ?_⟩
      have g0 := Int.emod_nonneg (b * 45007 + 27017 * (c + 1)) (show (2147483323 : Int) ≠ 0 by decide)
      have g1 := Int.emod_lt_of_pos (b * 45007 + 27017 * (c + 1)) (show (0 : Int) < 2147483323 by decide)
      rw [upd_upd]
      refine q_ixL (.of upd_same) rfl ?_
      walk_at "rd"
      refine ⟨⟨by decide, by decide⟩, m0, k _ _ ⟨hv, fun x o n ho => by rw [upd_ne n]; exact ho, ⟨_, _, _, upd_same, a0, g0, g1, by omega⟩⟩ (Int.emod_nonneg _ (by omega)) (Int.emod_lt_of_pos _ m0)⟩

def spShared : Sp := fun vs H Q _ => ∃ a b : Int, vs = [.int a, .int b] ∧ Q (.int (Int.gcd a b : Nat)) H
theorem scShared : FnScope ["one", "two"] ["one", "two"] (defScope (top 24)) := ⟨rfl, rfl, rfl, by decide +kernel, rfl, by decide +kernel, by decide +kernel⟩
def shM : L2.St → Nat
  | [_, some (.int y)] => y.toNat
  | _ => 0
theorem has_shared (B : Bi mg) (D : Df K mg "_law_shared" (top 24) ["one", "two"]) : Has P w K mg base "_law_shared" 1 ["one", "two"] spShared := by
  have sc := scShared
  refine .of D fun f fd F => F.ok sc (fun vs H Q E h => ?_) (fun cdv A outer s H vs Q E hr h => ?_)
  · obtain ⟨a, b, rfl, _⟩ := h
    rfl
  · obtain ⟨a, b, rfl, k⟩ := h
    refine ⟨_, (pss_cons (ps_par (i := 0) (j := 1) (by rfl) sc.nd rfl rfl (by decide) rfl rfl (pa_cons (pe_callB call_abs (by rfl) B.abs (by decide +kernel) (pa_cons (pv 0) pa_nil)) (pa_cons (pe_callB call_abs (by rfl) B.abs (by decide +kernel) (pa_cons (pv 1) pa_nil)) pa_nil)) (by rfl))
      (pss_cons (ps_while PassesOwn.never (PT.mon (pt_cmpR op_gt (pv 1) pe_int (nomark _))) (pss_one (ps_par (i := 0) (j := 1) (by rfl) sc.nd rfl rfl (by decide) rfl rfl (pa_cons (pv 1) (pa_cons (pe_op op_mod (pe_callTy call_intN (by rfl) B.int (by decide +kernel) (pa_cons (pv 0) pa_nil)) (pv 1)) pa_nil)) (by rfl))))
      (pss_one (ps_ret (pv 0))))), ?_⟩
    walk_at "rd"
    have na : ∀ z : Int, (if z < 0 then -z else z) = ((z.natAbs : Nat) : Int) := fun z => by split <;> omega
    rw [na, na]
    obtain ⟨Pv, hP⟩ : ∃ P : L2.St → Hp → Prop, P = fun σ' G => G = H ∧ ∃ n m : Nat, σ' = [some (.int n), some (.int m)] ∧ Nat.gcd n m = Int.gcd a b := ⟨_, rfl⟩
    refine while_by Pv (fun σ' _ => shM σ') (by rw [hP]; exact ⟨rfl, _, _, rfl, rfl⟩) ?_ ?_
    · intro σ' G h
      rw [hP] at h
      obtain ⟨rfl, n, m, rfl, hg⟩ := h
      obtain ⟨R0, hR⟩ : ∃ R : Bool → Hp → Prop, R = fun b H' => b = decide (0 < m) ∧ H' = G := ⟨_, rfl⟩
      refine ⟨R0, ?_, ?_⟩
      · walk_at "rd"
        rw [hR]
        refine ⟨?_, rfl⟩
        rw [decide_eq_decide]
        omega
      · intro b' H' h
        rw [hR] at h
        obtain ⟨rfl, rfl⟩ := h
        by_cases hm : 0 < m
        · rw [decide_eq_true hm, if_pos rfl]
          walk_at "rd"
          refine ⟨by omega, ?_⟩
          rw [hP]
          refine ⟨⟨rfl, m, n % m, ?_, ?_⟩, ?_⟩
          · rw [Int.natCast_emod]
          · rw [← hg, Nat.gcd_comm n m]
            exact (Nat.gcd_comm _ _).trans (Nat.gcd_rec m n).symm
          · show (((n : Int) % (m : Int))).toNat < ((m : Int)).toNat
            have := Int.emod_lt_of_pos (n : Int) (show (0 : Int) < m by omega)
            have := Int.emod_nonneg (n : Int) (show (m : Int) ≠ 0 by omega)
            omega
        · rw [decide_eq_false hm, if_neg (by decide)]
          walk_at "rd"
          have : m = 0 := by omega
          subst this
          rw [Nat.gcd_zero_right] at hg
          rw [hg]
          exact k
    · intro σ' G R1 R2 h ⟨R0, h1, h2⟩
      exact ⟨R0, h1, fun b' H' h' => h _ _ (h2 _ _ h')⟩
/-- x tells the fraction r -/
def IsFr (K : PySem.W.Frag) (H : Hp) (x : V) (r : Rat) : Prop := ∃ p, x = .ref p ∧ SqT K H p (fr r)
theorem IsFr.kp {H H' : Hp} {x : V} {r : Rat} (h : IsFr K H x r) (e : Kp H H') : IsFr K H' x r := by
  obtain ⟨p, rfl, h⟩ := h
  exact ⟨p, rfl, sqT_kp h e⟩
theorem IsFr.dp {H : Hp} {x : V} {r : Rat} (h : IsFr K H x r) : Dp K H x (frD r) := by
  obtain ⟨p, rfl, h⟩ := h
  exact .tup h (.cons (.int _) (.cons (.int _) .nil))
def spPart (K : PySem.W.Frag) : Sp := fun vs H Q _ => ∃ t b : Int, vs = [.int t, .int b] ∧ 0 < b ∧ b.natAbs < 2 ^ 8990 ∧
  ∀ x H', Ex H H' → IsFr K H' x ((t : Rat) / (b : Rat)) → Q x H'
theorem log_lt {n : Nat} (h : n < 2 ^ 8990) : n.log2 < 9000 := Nat.lt_of_lt_of_le (PySem.Flt.log2_lt_of (k := 8990) (by decide) h) (show 8990 ≤ 9000 by decide)
theorem gcd_small {b t : Int} (hb : 0 < b) (h : b.natAbs < 2 ^ 8990) : 0 < ((Int.gcd b t : Nat) : Int) ∧ (((Int.gcd b t : Nat) : Int)).natAbs < 2 ^ 8990 := by
  have h1 : 0 < Int.gcd b t := Int.gcd_pos_of_ne_zero_left _ (by omega)
  have h2 : Int.gcd b t ≤ b.natAbs := Nat.le_of_dvd (by omega) (Nat.gcd_dvd_left _ _)
  have h3 : (((Int.gcd b t : Nat) : Int)).natAbs = Int.gcd b t := Int.natAbs_natCast _
  constructor
  · omega
  · omega
def IsInts (K : PySem.W.Frag) (H : Hp) (x : V) (cs : List Int) : Prop := ∃ p, x = .ref p ∧ SqT K H p (cs.map V.int)
theorem IsInts.kp {H H' : Hp} {x : V} {cs : List Int} (h : IsInts K H x cs) (e : Kp H H') : IsInts K H' x cs := by
  obtain ⟨p, rfl, h⟩ := h
  exact ⟨p, rfl, sqT_kp h e⟩
def intsD (cs : List Int) : PyData := .tuple (cs.map PyData.int)
theorem IsInts.dp {H : Hp} {x : V} {cs : List Int} (h : IsInts K H x cs) : Dp K H x (intsD cs) := by
  obtain ⟨p, rfl, h⟩ := h
  exact .tup h (dp_ints cs)
/-- a list of ints, told item by item -/
theorem ints_of {ys : List V} {n : Nat} {f : Nat → Int} (hl : ys.length = n) (h : ∀ (i : Nat) y, ys[i]? = some y → y = .int (f i)) : ys = ((List.range n).map f).map V.int := by
  apply List.ext_getElem?
  intro i
  by_cases hi : i < ys.length
  · have hy := List.getElem?_eq_getElem hi
    rw [hy, h i _ hy]
    simp [← hl, hi]
  · rw [List.getElem?_eq_none (by omega), List.getElem?_eq_none (by simp; omega)]
theorem ints_of_map {ys : List V} {cs : List Int} {f : Int → Int} (hl : ys.length = cs.length) (h : ∀ (i : Nat) y, ys[i]? = some y → ∃ c, cs[i]? = some c ∧ y = .int (f c)) : ys = (cs.map f).map V.int := by
  apply List.ext_getElem?
  intro i
  by_cases hi : i < ys.length
  · have hy := List.getElem?_eq_getElem hi
    obtain ⟨c, hc, e⟩ := h i _ hy
    rw [hy, e, List.getElem?_map, List.getElem?_map, hc]
    rfl
  · rw [List.getElem?_eq_none (by omega), List.getElem?_eq_none (by simp; omega)]
theorem map_int_get {cs : List Int} {i : Nat} {x : V} (h : (cs.map V.int)[i]? = some x) : ∃ c, cs[i]? = some c ∧ x = .int c := by
  rw [List.getElem?_map] at h
  cases e : cs[i]? with
  | none => rw [e] at h; cases h
  | some c => rw [e] at h; exact ⟨c, rfl, (Option.some.inj h).symm⟩
def spPlain (K : PySem.W.Frag) : Sp := fun vs H Q _ => ∃ (p : Addr) (cs : List Int), vs = [.ref p] ∧ (SqT K H p (cs.map V.int) ∨ SqL K H p (cs.map V.int)) ∧ cs.length ≤ 1000 ∧ 0 < gcdL cs ∧ gcdL cs < 2 ^ 8990 ∧
  ∀ x H', Ex H H' → IsInts K H' x (plainL cs) → Q x H'
theorem scPlain : FnScope ["some", "by", "count"] ["some"] (defScope (top 25)) := ⟨rfl, rfl, rfl, by decide +kernel, rfl, by decide +kernel, by decide +kernel⟩
theorem has_plain (B : Bi mg) (hs : Has P w K mg base "_law_shared" 1 ["one", "two"] spShared) (D : Df K mg "_law_plain" (top 25) ["some"]) : Has P w K mg base "_law_plain" 2 ["some"] (spPlain K) := by
  have sc := scPlain
  have h_law_shared := hs
  refine .of D fun f fd F => F.ok sc (fun vs H Q E h => ?_) (fun cdv A outer s H vs Q E hr h => ?_)
  · obtain ⟨p, cs, rfl, _⟩ := h
    rfl
  · obtain ⟨p, cs, rfl, hcs, hlen, g0, g1, k⟩ := h
    have gI : (0 : Int) < ((gcdL cs : Nat) : Int) := by omega
    have gL : (((gcdL cs : Nat) : Int)).natAbs.log2 < 9000 := by
      rw [Int.natAbs_natCast]
      exact log_lt g1
    obtain ⟨Pv, hP⟩ : ∃ P : Nat → L2.St → Hp → Prop, P = fun j σ' G => G = H ∧ ∃ t : Option V, σ' = [some (.ref p), some (.int ((gcdL (cs.take j) : Nat) : Int)), t] := ⟨_, rfl⟩
    rcases hcs with hcs | hcs
    · refine ⟨_, (pss_cons (ps_set (i := 1) sc.nd rfl (by first | exact Or.inl rfl | exact Or.inr rfl) pe_int)
      (pss_cons (ps_for PassesOwn.never rfl (pi_tup (pv 0)) (pg_name (i := 2) sc.nd rfl (by first | exact Or.inl rfl | exact Or.inr rfl))
      (pss_one (ps_set (i := 1) sc.nd rfl (by first | exact Or.inl rfl | exact Or.inr rfl) (pe_has h_law_shared (hr.mono (by decide)) (pa_cons (pv 1) (pa_cons (pv 2) pa_nil))))))
      (pss_one (ps_ret (pe_callTy (kTuple (K := K)) (by rfl) B.tuple (by decide +kernel) (pa_cons (pe_lc (own := [("count", 2)]) (g := gName 2) (tt := tYes) rfl sc.nd (pi_tup (pv 0)) (blkOk_by (N := (["some", "by", "count"] : List Str)) (sc := defScope (top 25)) (by decide +kernel)) (fun _ _ _ _ _ => (pg_name (i := 2) sc.nd rfl (by first | exact Or.inl rfl | exact Or.inr rfl))) (fun _ _ _ _ _ => pts_nil) (fun _ _ _ _ _ => (PE.mon (pe_op op_fdivW (pv 2) (pv 1))))) pa_nil)))))), ?_⟩
      walk_at "rd"
      refine ⟨⟨_, hcs⟩, loopT (xs := cs.map V.int) Pv (by rw [hP]; exact ⟨rfl, _, rfl⟩) (fun j σ' G _ h => by rw [hP] at h; rw [h.1]; exact hcs) ?_ ?_⟩
      · intro j x σ' G hx h
        rw [hP] at h
        obtain ⟨rfl, t, rfl⟩ := h
        obtain ⟨c, hc, rfl⟩ := map_int_get hx
        walk_at "rd"
        refine ⟨_, _, rfl, ?_⟩
        walk_at "rd"
        rw [hP]
        dsimp only
        rw [gcdL_take hc]
        exact ⟨rfl, _, rfl⟩
      · intro σ' G h
        rw [hP] at h
        obtain ⟨rfl, t, rfl⟩ := h
        rw [List.length_map, List.take_length]
        walk_at "rd"
        refine ⟨⟨_, hcs⟩, fun Dd hD => lcTn (fun i y _ => ∃ c, cs[i]? = some c ∧ y = .int (c / ((gcdL cs : Nat) : Int))) (fun _ _ _ _ _ h => h) hD hcs (by rw [List.length_map]; omega) (fun _ => rfl) ?_ ?_⟩
        · intro i x H2 hx e
          obtain ⟨c, hc, rfl⟩ := map_int_get hx
          obtain ⟨R0, hR⟩ : ∃ R : VK, R = fun v H' => v = .int (c / ((gcdL cs : Nat) : Int)) ∧ H' = H2 := ⟨_, rfl⟩
          refine ⟨R0, ?_, fun v H' h => by rw [hR] at h; obtain ⟨rfl, rfl⟩ := h; exact ⟨Ex.refl _, c, hc, rfl⟩⟩
          walk_at "rd"
          refine ⟨⟨gI, gL⟩, ?_⟩
          rw [hR]
          exact ⟨rfl, rfl⟩
        · intro H2 ys e hy hl hr2
          rw [List.length_map] at hl
          have ey := ints_of_map hl hr2
          refine ⟨Dd, _, rfl, .of hy, fun q H3 n3 e3 t3 => k _ _ (e.trans e3) ⟨q, rfl, ?_⟩⟩
          rw [ey] at t3
          exact .of t3
    · refine ⟨_, (pss_cons (ps_set (i := 1) sc.nd rfl (by first | exact Or.inl rfl | exact Or.inr rfl) pe_int)
      (pss_cons (ps_for PassesOwn.never rfl (pi_list (pv 0)) (pg_name (i := 2) sc.nd rfl (by first | exact Or.inl rfl | exact Or.inr rfl))
      (pss_one (ps_set (i := 1) sc.nd rfl (by first | exact Or.inl rfl | exact Or.inr rfl) (pe_has h_law_shared (hr.mono (by decide)) (pa_cons (pv 1) (pa_cons (pv 2) pa_nil))))))
      (pss_one (ps_ret (pe_callTy (kTuple (K := K)) (by rfl) B.tuple (by decide +kernel) (pa_cons (pe_lc (own := [("count", 2)]) (g := gName 2) (tt := tYes) rfl sc.nd (pi_list (pv 0)) (blkOk_by (N := (["some", "by", "count"] : List Str)) (sc := defScope (top 25)) (by decide +kernel)) (fun _ _ _ _ _ => (pg_name (i := 2) sc.nd rfl (by first | exact Or.inl rfl | exact Or.inr rfl))) (fun _ _ _ _ _ => pts_nil) (fun _ _ _ _ _ => (PE.mon (pe_op op_fdivW (pv 2) (pv 1))))) pa_nil)))))), ?_⟩
      walk_at "rd"
      refine ⟨⟨_, hcs⟩, loopL (xs := cs.map V.int) Pv (by rw [hP]; exact ⟨rfl, _, rfl⟩) (fun j σ' G _ h => by rw [hP] at h; rw [h.1]; exact hcs) ?_ ?_⟩
      · intro j x σ' G hx h
        rw [hP] at h
        obtain ⟨rfl, t, rfl⟩ := h
        obtain ⟨c, hc, rfl⟩ := map_int_get hx
        walk_at "rd"
        refine ⟨_, _, rfl, ?_⟩
        walk_at "rd"
        rw [hP]
        dsimp only
        rw [gcdL_take hc]
        exact ⟨rfl, _, rfl⟩
      · intro σ' G h
        rw [hP] at h
        obtain ⟨rfl, t, rfl⟩ := h
        rw [List.length_map, List.take_length]
        walk_at "rd"
        refine ⟨⟨_, hcs⟩, fun Dd hD => lcLn (fun i y _ => ∃ c, cs[i]? = some c ∧ y = .int (c / ((gcdL cs : Nat) : Int))) (fun _ _ _ _ _ h => h) hD hcs (by rw [List.length_map]; omega) (fun _ => rfl) ?_ ?_⟩
        · intro i x H2 hx e
          obtain ⟨c, hc, rfl⟩ := map_int_get hx
          obtain ⟨R0, hR⟩ : ∃ R : VK, R = fun v H' => v = .int (c / ((gcdL cs : Nat) : Int)) ∧ H' = H2 := ⟨_, rfl⟩
          refine ⟨R0, ?_, fun v H' h => by rw [hR] at h; obtain ⟨rfl, rfl⟩ := h; exact ⟨Ex.refl _, c, hc, rfl⟩⟩
          walk_at "rd"
          refine ⟨⟨gI, gL⟩, ?_⟩
          rw [hR]
          exact ⟨rfl, rfl⟩
        · intro H2 ys e hy hl hr2
          rw [List.length_map] at hl
          have ey := ints_of_map hl hr2
          refine ⟨Dd, _, rfl, .of hy, fun q H3 n3 e3 t3 => k _ _ (e.trans e3) ⟨q, rfl, ?_⟩⟩
          rw [ey] at t3
          exact .of t3

def CountsOk (cs : List Int) : Prop := 2 ≤ cs.length ∧ cs.length ≤ 6 ∧ (∀ c ∈ cs, 0 ≤ c ∧ c ≤ 10 ^ 30) ∧ 0 < cs.sum
theorem sum_ones : ∀ n : Nat, (List.replicate n (1 : Int)).sum = (n : Int)
  | 0 => rfl
  | n + 1 => by
    rw [List.replicate_succ, List.sum_cons, sum_ones n]
    omega
theorem VatAt.ne {H : Hp} {v p : Addr} (h : VatAt H v) (n : H p = none) : p ≠ v := by
  obtain ⟨a, b, c, e, _⟩ := h
  intro z
  rw [z, e] at n
  cases n
theorem Gv.free {v p : Addr} {H H' : Hp} (g : Gv v H H') (h : p ≠ v) (n : H' p = none) : H p = none := by
  cases q : H p with
  | none => rfl
  | some o =>
    rw [g.keep p o h q] at n
    cases n
theorem Gv.upd {v p : Addr} {H H' : Hp} {o : HO} (g : Gv v H H') (n : H p = none) (h : p ≠ v) : Gv v H (L2.upd H' p o) := by
  refine ⟨g.old, fun a u ha e => ?_, ?_⟩
  · rw [upd_ne (ne_of_none e n)]
    exact g.keep a u ha e
  · obtain ⟨a, b, c, e, r⟩ := g.new
    exact ⟨a, b, c, by rw [upd_ne (Ne.symm h)]; exact e, r⟩
def spCounts (K : PySem.W.Frag) : Sp := fun vs H Q _ => ∃ (v : Addr) (i : Int), vs = [.ref v, .int i] ∧ VatAt H v ∧
  ∀ x H' cs, Gv v H H' → IsInts K H' x cs → CountsOk cs → Q x H'
theorem scCounts : FnScope ["vat", "way", "size", "some", "k", "small"] ["vat", "way"] (defScope (top 26)) := ⟨rfl, rfl, rfl, by decide +kernel, rfl, by decide +kernel, by decide +kernel⟩
theorem has_counts (B : Bi mg) (hd : Has P w K mg base "_law_dip" 1 ["vat", "many"] spDip) (D : Df K mg "_law_counts" (top 26) ["vat", "way"]) : Has P w K mg base "_law_counts" 2 ["vat", "way"] (spCounts K) := by
  have sc := scCounts
  have h_law_dip := hd
  refine .of D fun f fd F => F.ok sc (fun vs H Q E h => ?_) (fun cdv A outer s H vs Q E hr h => ?_)
  · obtain ⟨v, i, rfl, _⟩ := h
    rfl
  · obtain ⟨v, i, rfl, hv, k⟩ := h
    refine ⟨_, (pss_cons (ps_set (i := 2) sc.nd rfl (by first | exact Or.inl rfl | exact Or.inr rfl) (pe_op op_add pe_int (pe_has h_law_dip (hr.mono (by decide)) (pa_cons (pv 0) (pa_cons pe_int pa_nil)))))
      (pss_cons (ps_set (i := 3) sc.nd rfl (by first | exact Or.inl rfl | exact Or.inr rfl) (pe_lstN pa_nil))
      (pss_cons (ps_for PassesOwn.never rfl (pi_range1 (by rfl) B.range (pa_cons (pv 2) pa_nil)) (pg_name (i := 4) sc.nd rfl (by first | exact Or.inl rfl | exact Or.inr rfl))
      (pss_cons (ps_set (i := 5) sc.nd rfl (by first | exact Or.inl rfl | exact Or.inr rfl) (pe_ix (ixL (K := K)) (pe_lstN (pa_cons pe_int (pa_cons pe_int (pa_cons pe_int (pa_cons pe_int (pa_cons pe_int (pa_cons pe_int (pa_cons pe_int pa_nil)))))))) (pe_has h_law_dip (hr.mono (by decide)) (pa_cons (pv 0) (pa_cons pe_int pa_nil))) (fun _ _ => rfl)))
      (pss_one (ps_expr (pe_bm PySem.F.plainAttrs_list PySem.F.slot_list_append PySem.F.type_list_append mt_append (pv 3) (pa_cons (PE.mon (pe_ifExp (pt_cmpR op_eq (pv 1) pe_int (nomark _)) (pv 5) (pe_ix (ixL (K := K)) (pe_lstN (pa_cons (pv 5) (pa_cons (pe_op op_add (pe_op op_pow pe_int pe_int) (pv 5)) (pa_cons (pe_op op_sub (pe_op op_pow pe_int pe_int) (pv 5)) pa_nil)))) (pe_has h_law_dip (hr.mono (by decide)) (pa_cons (pv 0) (pa_cons pe_int pa_nil))) (fun _ _ => rfl)))) pa_nil))))))
      (pss_one (ps_ret (PE.mon (pe_ifExp (pt_cmpR op_gt (pe_callB (kSum (K := K) rfl) (by rfl) B.sum (by decide +kernel) (pa_cons (pv 3) pa_nil)) pe_int (nomark _)) (pe_callTy (kTuple (K := K)) (by rfl) B.tuple (by decide +kernel) (pa_cons (pv 3) pa_nil)) (pe_callTy (kTuple (K := K)) (by rfl) B.tuple (by decide +kernel) (pa_cons (pe_op op_repN (pe_lstN (pa_cons pe_int pa_nil)) (pv 2)) pa_nil))))))))), ?_⟩
    walk_at "rd"
    refine ⟨v, 5, rfl, hv, by decide, by decide, fun d H1 g1 d0 d1 => ?_⟩
    walk_at "rd"
    refine ⟨by decide, fun p H2 n2 e2 t2 => ?_⟩
    walk_at "rd"
    refine ⟨by omega, by omega, ?_⟩
    have pv := g1.new.ne n2
    have hp0 : H p = none := g1.free pv n2
    obtain ⟨Pv, hP⟩ : ∃ P : Nat → L2.St → Hp → Prop, P = fun j σ' G => ∃ (cs : List Int) (s4 s5 : Option V), σ' = [some (.ref v), some (.int i), some (.int (2 + d)), some (.ref p), s4, s5] ∧ Gv v H G ∧ G p = some (.lst (cs.map V.int)) ∧ cs.length = j ∧ ∀ c ∈ cs, 0 ≤ c ∧ c ≤ 10 ^ 30 := ⟨_, rfl⟩
    refine loopR Pv (by rw [hP]; exact ⟨[], _, _, rfl, g1.ex e2, t2, rfl, fun c h => by simp at h⟩) ?_ ?_
    · intro j σ' G hj h
      rw [hP] at h
      obtain ⟨cs, s4, s5, rfl, gG, tG, lG, bG⟩ := h
      walk_at "rd"
      refine ⟨by decide, fun l G1 n1 e1 t1 => ?_⟩
      have lv := gG.new.ne n1
      walk_at "rd"
      refine ⟨v, 7, rfl, gG.new.ex e1, by decide, by decide, fun r G2 g2 r0 r1 => ?_⟩
      obtain ⟨z, hz, ez⟩ := at_int (ns := [0, 1, 2, 3, 4, 7, 12]) r0 (by simpa using r1)
      have zb : 0 ≤ z ∧ z ≤ 12 := by
        have := List.mem_of_getElem? hz
        simp only [List.mem_cons, List.not_mem_nil, or_false] at this
        omega
      refine q_ixL (.of (g2.lst lv t1)) ez ?_
      walk_at "rd"
      have tp : G2 p = some (.lst (cs.map V.int)) := g2.lst pv (e1 _ _ tG)
      refine ⟨.inl ⟨rfl, _, .of tp⟩, ?_⟩
      obtain ⟨R0, hR⟩ : ∃ R : VK, R = fun x G' => ∃ c, x = .int c ∧ 0 ≤ c ∧ c ≤ 10 ^ 30 ∧ Gv v G2 G' := ⟨_, rfl⟩
      refine ⟨R0, ?_, ?_⟩
      · walk_at "rd"
        split
        · rw [hR]
          exact ⟨z, rfl, by omega, by omega, .refl g2.new⟩
        · refine ⟨⟨by decide, by decide, by decide⟩, ⟨by decide, by decide, by decide⟩, by decide, fun l2 G3 n3 e3 t3 => ?_⟩
          have l2v := g2.new.ne n3
          walk_at "rd"
          refine ⟨v, 3, rfl, g2.new.ex e3, by decide, by decide, fun r2 G4 g4 r20 r21 => ?_⟩
          obtain ⟨y, hy, ey⟩ := at_int (ns := [z, 10 ^ Int.toNat 9 + z, 10 ^ Int.toNat 30 - z]) r20 (by simpa using r21)
          refine q_ixL (.of (g4.lst l2v t3)) ey ?_
          rw [hR]
          refine ⟨y, rfl, ?_, ?_, (Gv.of g2.new e3).trans g4⟩
          all_goals
            have := List.mem_of_getElem? hy
            simp only [List.mem_cons, List.not_mem_nil, or_false] at this
            have e9 : (10 : Int) ^ Int.toNat 9 = 1000000000 := by decide
            have e30 : (10 : Int) ^ Int.toNat 30 = 1000000000000000000000000000000 := by decide
            rw [e9, e30] at this
            omega
      · intro x G3 h
        rw [hR] at h
        obtain ⟨c, rfl, c0, c1, g3⟩ := h
        have tp3 := g3.lst pv tp
        refine ⟨p, _, _, rfl, rfl, tp3, Nat.lt_of_lt_of_le (show (cs.map V.int).length < 1000000 by rw [List.length_map]; omega) (by decide), ?_⟩
        walk_at "rd"
        rw [hP]
        refine ⟨cs ++ [c], _, _, rfl, (((gG.ex e1).trans g2).trans g3).upd hp0 pv, ?_, by simp [lG], ?_⟩
        · rw [List.map_append]
          exact upd_same
        · intro y hy
          rcases List.mem_append.mp hy with q | q
          · exact bG y q
          · rw [List.mem_singleton] at q
            rw [q]
            exact ⟨c0, c1⟩
    · intro σ' G h
      rw [hP] at h
      obtain ⟨cs, s4, s5, rfl, gG, tG, lG, bG⟩ := h
      walk_at "rd"
      obtain ⟨R0, hR⟩ : ∃ R : VK, R = fun x G' => ∃ cs', IsInts K G' x cs' ∧ CountsOk cs' ∧ Ex G G' := ⟨_, rfl⟩
      refine ⟨R0, ?_, ?_⟩
      · walk_at "rd"
        refine ⟨p, cs, rfl, .inl (.of tG), ?_⟩
        walk_at "rd"
        split
        · rename_i hpos
          refine ⟨p, _, rfl, .of tG, fun q G1 n1 e1 t1 => ?_⟩
          rw [hR]
          exact ⟨cs, ⟨q, rfl, .of t1⟩, ⟨by omega, by omega, bG, hpos⟩, e1⟩
        · refine ⟨by decide, fun l G1 n1 e1 t1 => ?_⟩
          walk_at "rd"
          refine ⟨l, _, _, rfl, rfl, t1, by omega, by omega, sizeLine_le (by simp only [List.length_cons, List.length_nil]; omega), fun l2 G2 n2 e2 t2 => ?_⟩
          refine ⟨l2, _, rfl, .of t2, fun q G3 n3 e3 t3 => ?_⟩
          rw [hR]
          have er : (List.replicate (2 + d).toNat [V.int 1]).flatten = (List.replicate (2 + d).toNat 1).map V.int := by
            rw [List.flatten_replicate_singleton, List.map_replicate]
          rw [er] at t3
          refine ⟨_, ⟨q, rfl, .of t3⟩, ⟨by simp; omega, by simp; omega, ?_, ?_⟩, (e1.trans e2).trans e3⟩
          · intro c hc
            rw [(List.mem_replicate.mp hc).2]
            decide
          · rw [sum_ones]
            omega
      · intro x G' h
        rw [hR] at h
        obtain ⟨cs', h1, h2, h3⟩ := h
        exact k _ _ _ (gG.ex h3) h1 h2
end

section
variable {P : Program} {w : World} {K : PySem.W.Frag} {mg : Str → Option Value} {base : Heap}
/-! ### is_whole, _check_counts -/
def spWhole : Sp := fun vs H Q _ => ∃ i : Int, vs = [.int i] ∧ Q (.bl true) H
theorem scWhole : FnScope ["value"] ["value"] (defScope (top 11)) := ⟨rfl, rfl, rfl, by decide +kernel, rfl, by decide +kernel, by decide +kernel⟩
theorem has_whole (B : Bi mg) (D : Df K mg "is_whole" (top 11) ["value"]) : Has P w K mg base "is_whole" 1 ["value"] spWhole := by
  have sc := scWhole
  refine .of D fun f fd F => F.ok sc (fun vs H Q E h => ?_) (fun cdv A outer s H vs Q E hr h => ?_)
  · obtain ⟨i, rfl, _⟩ := h
    rfl
  · obtain ⟨i, rfl, k⟩ := h
    refine ⟨_, (pss_one (ps_ret (pe_and (pe_callB (kIsi (K := K)) (by rfl) B.isinstance (by decide +kernel) (pa_cons (pv 0) (pa_cons (pe_bltn (v := .ty "int") (by rfl) B.int (by decide +kernel) rfl) pa_nil))) (pe_one (pe_not (pe_callB (kIsi (K := K)) (by rfl) B.isinstance (by decide +kernel) (pa_cons (pv 0) (pa_cons (pe_bltn (v := .ty "bool") (by rfl) B.bool (by decide +kernel) rfl) pa_nil)))))))), ?_⟩
    walk_at "rd"
    refine ⟨_, _, _, _, true, rfl, .ty "int", .base (.int i), kit_ty (by decide +kernel), ?_⟩
    walk_at "rd"
    refine ⟨_, _, _, _, false, rfl, .ty "bool", .base (.int i), kit_ty (by decide +kernel), ?_⟩
    walk_at "rd"
    exact k
theorem ty_tup {H : Hp} {a : Addr} {xs : List V} (h : SqT K H a xs) : TyX K H (.ref a) (.type "tuple") := by
  rcases h with (h | ⟨o, h⟩) | ⟨o, its, n, h, c, _⟩
  · exact .base (.tup h)
  · exact .fTuple h
  · exact .kTuple h c
/-- counts of a row -/
def RowOk (cs : List Int) : Prop := 2 ≤ cs.length ∧ cs.length ≤ 6 ∧ (∀ c ∈ cs, 0 ≤ c) ∧ 0 < gcdL cs ∧ gcdL cs < 2 ^ 8990
def spCheck (K : PySem.W.Frag) : Sp := fun vs H Q _ => ∃ (q : Addr) (cs : List Int), vs = [.ref q] ∧ SqT K H q (cs.map V.int) ∧ RowOk cs ∧ ∀ H', Ex H H' → Q .non H'
theorem scCheck : FnScope ["counts", "yes", "count"] ["counts"] (defScope (top 19)) := ⟨rfl, rfl, rfl, by decide +kernel, rfl, by decide +kernel, by decide +kernel⟩
theorem has_check {t : Tok} (B : Bi mg) (c_MOST_DRAWS : mg "MOST_DRAWS" = some (.int 5 t)) (his_whole : Has P w K mg base "is_whole" 1 ["value"] spWhole) (D : Df K mg "_check_counts" (top 19) ["counts"]) : Has P w K mg base "_check_counts" 2 ["counts"] (spCheck K) := by
  have sc := scCheck
  refine .of D fun f fd F => F.ok sc (fun vs H Q E h => ?_) (fun cdv A outer s H vs Q E hr h => ?_)
  · obtain ⟨q, cs, rfl, _⟩ := h
    rfl
  · obtain ⟨q, cs, rfl, hS, ⟨l0, l1, pos, g0, g1⟩, k⟩ := h
    refine ⟨_, (pss_cons (ps_if (PW.pt (pw_or (pt_not (pt_val (pe_callB (kIsi (K := K)) (by rfl) B.isinstance (by decide +kernel) (pa_cons (pv 0) (pa_cons (pe_bltn (v := .ty "tuple") (by rfl) B.tuple (by decide +kernel) rfl) pa_nil))))) (pw_or1 (pt_cmpR op_lt (pe_callB (kLen (K := K)) (by rfl) B.len (by decide +kernel) (pa_cons (pv 0) pa_nil)) pe_int (nomark _))))) (pss_one ps_never) pss_nil)
      (pss_one (ps_for PassesOwn.never rfl (pi_enumT (by rfl) B.enumerate (pa_cons (pv 0) pa_nil)) (pg_tup rfl (pgs_cons (pg_name (i := 1) sc.nd rfl (by first | exact Or.inl rfl | exact Or.inr rfl)) (pgs_cons (pg_name (i := 2) sc.nd rfl (by first | exact Or.inl rfl | exact Or.inr rfl)) pgs_nil)))
      (pss_one (ps_if (PW.pt (pw_or (pt_not (pt_val (pe_has his_whole (hr.mono (by decide)) (pa_cons (pv 2) pa_nil)))) (pw_or (pt_cmpR op_lt (pv 2) pe_int (nomark _)) (pw_or1 (pt_cmpR op_gt (pv 1) (pe_glob (v := .int 5) rfl c_MOST_DRAWS ⟨_, rfl⟩) (nomark _)))))) (pss_one ps_never) pss_nil))))), ?_⟩
    walk_at "rd"
    refine ⟨_, _, _, _, true, rfl, .ty "tuple", ty_tup hS, kit_ty (by decide +kernel), ?_⟩
    walk_at "rd"
    refine ⟨_, .inr hS, ?_⟩
    rw [List.length_map, if_neg (by omega)]
    obtain ⟨Pv, hP⟩ : ∃ P : Nat → L2.St → Hp → Prop, P = fun j σ' G => Ex H G ∧ ∃ s1 s2 : Option V, σ' = [some (.ref q), s1, s2] := ⟨_, rfl⟩
    refine ⟨⟨_, hS⟩, loopE (xs := cs.map V.int) Pv (by rw [hP]; exact ⟨.refl _, _, _, rfl⟩) (fun j σ' G _ h => by rw [hP] at h; exact sqT_kp hS h.1.kp) ?_ ?_⟩
    · intro j x σ' G T G' hx h e1 t1
      rw [hP] at h
      obtain ⟨e0, s1, s2, rfl⟩ := h
      obtain ⟨c, hc, rfl⟩ := map_int_get hx
      have c0 := pos c (List.mem_of_getElem? hc)
      have hj := (List.getElem?_eq_some_iff.mp hc).1
      walk_at "rd"
      refine ⟨_, .of t1, rfl, ?_⟩
      walk_at "rd"
      refine ⟨c, rfl, ?_⟩
      walk_at "rd"
      rw [if_neg (by omega), if_neg (by omega)]
      rw [hP]
      exact ⟨e0.trans e1, _, _, rfl⟩
    · intro σ' G h
      rw [hP] at h
      exact k _ h.1

/-! ### Row -/
/-- what the text's top says of the class -/
structure RowC (K : PySem.W.Frag) (mg : Str → Option Value) (C : Addr) : Prop where
  cl : Cls K C
  nC : NoAttr K C "_counts"
  mgC : mg "Row" = some (.ref C)
  ha : PySem.W.findIn K (.ref C) "__class__" = some (some (.builtin "object.__class__"))
  hn : PySem.W.specialIn K (.builtin "object.__class__") "__get__" = some (some (.builtin "getset_descriptor.__get__"))
  htk : PySem.W.takesIn K (.builtin "object.__class__") = some true
  hm : PySem.W.mroIn K C (.type "object") = some true
theorem RowC.ty {C a dx : Addr} {H : Hp} {fs : List (Str × V)} (R : RowC K mg C) (e : H a = some (.ins C dx fs)) : TyX K H (.ref a) (.ref C) := .base (.ins e R.cl R.ha R.hn R.htk R.hm)
/-- x is a row whose plain counts are ps -/
def IsRow (K : PySem.W.Frag) (C : Addr) (H : Hp) (x : V) (ps : List Int) : Prop :=
  ∃ a dx q, x = .ref a ∧ H a = some (.ins C dx [("_counts", .ref q)]) ∧ SqT K H q (ps.map V.int)
theorem IsRow.kp {C : Addr} {H H' : Hp} {x : V} {ps : List Int} (h : IsRow K C H x ps) (e : Kp H H') : IsRow K C H' x ps := by
  obtain ⟨a, dx, q, rfl, h1, h2⟩ := h
  exact ⟨a, dx, q, rfl, e _ _ h1 (fun _ z => nomatch z), sqT_kp h2 e⟩
def spInit (K : PySem.W.Frag) (C : Addr) : Sp := fun vs H Q _ => ∃ (a dx q : Addr) (cs : List Int), vs = [.ref a, .ref q] ∧ H a = some (.ins C dx []) ∧ SqT K H q (cs.map V.int) ∧ RowOk cs ∧
  ∀ H', (∀ b o, b ≠ a → H b = some o → H' b = some o) → IsRow K C H' (.ref a) (plainL cs) → Q .non H'
theorem scInit : FnScope ["self", "counts", "common", "count"] ["self", "counts"] (defScope (inClass (top 18) 0)) := ⟨rfl, rfl, rfl, by decide +kernel, rfl, by decide +kernel, by decide +kernel⟩
theorem ok_init {C f : Addr} {fd : FuncData} (F : Fun K "__init__" "Row.__init__" (inClass (top 18) 0) f fd) (B : Bi mg) (RC : RowC K mg C) (c_gcd : mg "gcd" = some (.builtin "math.gcd"))
    (h_check_counts : Has P w K mg base "_check_counts" 2 ["counts"] (spCheck K)) : FnOk P w K mg base CX0 3 f fd ["self", "counts"] (spInit K C) := by
  have sc := scInit
  refine F.ok sc (fun vs H Q E h => ?_) (fun cdv A outer s H vs Q E hr h => ?_)
  · obtain ⟨a, dx, q, cs, rfl, _⟩ := h
    rfl
  · obtain ⟨a, dx, q, cs, rfl, hA, hS, ok, k⟩ := h
    obtain ⟨l0, l1, pos, g0, g1⟩ := id ok
    refine ⟨_, (pss_cons (ps_expr (pe_has h_check_counts (hr.mono (by decide)) (pa_cons (pv 1) pa_nil)))
      (pss_cons (ps_set (i := 2) sc.nd rfl (by first | exact Or.inl rfl | exact Or.inr rfl) pe_int)
      (pss_cons (ps_for PassesOwn.never rfl (pi_tup (pv 1)) (pg_name (i := 3) sc.nd rfl (by first | exact Or.inl rfl | exact Or.inr rfl))
      (pss_one (ps_set (i := 2) sc.nd rfl (by first | exact Or.inl rfl | exact Or.inr rfl) (pe_callBfun cr_gcd (by rfl) c_gcd (pa_cons (pv 2) (pa_cons (pv 3) pa_nil))))))
      (pss_cons (ps_if (pt_cmpR op_eq (pv 2) pe_int (nomark _)) (pss_one ps_never) pss_nil)
      (pss_one (ps_fld (pv 0) (pe_callTy (kTuple (K := K)) (by rfl) B.tuple (by decide +kernel) (pa_cons (pe_lc (own := [("count", 3)]) (g := gName 3) (tt := tYes) rfl sc.nd (pi_tup (pv 1)) (blkOk_by (N := (["self", "counts", "common", "count"] : List Str)) (sc := defScope (inClass (top 18) 0)) (by decide +kernel)) (fun _ _ _ _ _ => (pg_name (i := 3) sc.nd rfl (by first | exact Or.inl rfl | exact Or.inr rfl))) (fun _ _ _ _ _ => pts_nil) (fun _ _ _ _ _ => (PE.mon (pe_op op_fdivW (pv 3) (pv 2))))) pa_nil)) rfl)))))), ?_⟩
    walk_at "rd"
    refine ⟨q, cs, rfl, hS, ok, fun H1 e1 => ?_⟩
    walk_at "rd"
    have hS1 := sqT_kp hS e1.kp
    obtain ⟨Pv, hP⟩ : ∃ P : Nat → L2.St → Hp → Prop, P = fun j σ' G => G = H1 ∧ ∃ t : Option V, σ' = [some (.ref a), some (.ref q), some (.int ((gcdL (cs.take j) : Nat) : Int)), t] := ⟨_, rfl⟩
    refine ⟨⟨_, hS1⟩, loopT (xs := cs.map V.int) Pv (by rw [hP]; exact ⟨rfl, _, rfl⟩) (fun j σ' G _ h => by rw [hP] at h; rw [h.1]; exact hS1) ?_ ?_⟩
    · intro j x σ' G hx h
      rw [hP] at h
      obtain ⟨rfl, t, rfl⟩ := h
      obtain ⟨c, hc, rfl⟩ := map_int_get hx
      walk_at "rd"
      refine ⟨_, _, rfl, ?_⟩
      walk_at "rd"
      rw [hP]
      dsimp only
      rw [gcdL_take hc]
      exact ⟨rfl, _, rfl⟩
    · intro σ' G h
      rw [hP] at h
      obtain ⟨rfl, t, rfl⟩ := h
      rw [List.length_map, List.take_length]
      have gI : (0 : Int) < ((gcdL cs : Nat) : Int) := by omega
      have gL : (((gcdL cs : Nat) : Int)).natAbs.log2 < 9000 := by
        rw [Int.natAbs_natCast]
        exact log_lt g1
      walk_at "rd"
      rw [if_neg (by omega)]
      refine ⟨⟨_, hS1⟩, fun Dd hD => lcTn (fun i y _ => ∃ c, cs[i]? = some c ∧ y = .int (c / ((gcdL cs : Nat) : Int))) (fun _ _ _ _ _ h => h) hD hS1 (by rw [List.length_map]; omega) (fun _ => rfl) ?_ ?_⟩
      · intro i x H2 hx e
        obtain ⟨c, hc, rfl⟩ := map_int_get hx
        obtain ⟨R0, hR⟩ : ∃ R : VK, R = fun v H' => v = .int (c / ((gcdL cs : Nat) : Int)) ∧ H' = H2 := ⟨_, rfl⟩
        refine ⟨R0, ?_, fun v H' h => by rw [hR] at h; obtain ⟨rfl, rfl⟩ := h; exact ⟨Ex.refl _, c, hc, rfl⟩⟩
        walk_at "rd"
        refine ⟨⟨gI, gL⟩, ?_⟩
        rw [hR]
        exact ⟨rfl, rfl⟩
      · intro H2 ys e hy hl hr2
        rw [List.length_map] at hl
        have ey := ints_of_map hl hr2
        refine ⟨Dd, _, rfl, .of hy, fun p H3 n3 e3 t3 => ?_⟩
        rw [ey] at t3
        have e13 := (e1.trans e).trans e3
        have hA3 := e13 _ _ hA
        walk_at "rd"
        refine ⟨_, _, _, hA3, RC.cl, RC.nC, by decide, k _ (fun b o n h => by rw [upd_ne n]; exact e13 _ _ h) ⟨a, dx, p, rfl, upd_same, ?_⟩⟩
        exact .of (by rw [upd_ne (ne_of t3 hA3 (fun z => nomatch z))]; exact t3)

/-! ### the properties -/
def spGet (K : PySem.W.Frag) (C : Addr) : Sp := fun vs H Q _ => ∃ (x : V) (ps : List Int), vs = [x] ∧ IsRow K C H x ps ∧ ∀ y, IsInts K H y ps → Q y H
theorem scGet : FnScope ["self"] ["self"] (defScope (inClass (top 18) 2)) := ⟨rfl, rfl, rfl, by decide +kernel, rfl, by decide +kernel, by decide +kernel⟩
theorem look_counts (q : Addr) : List.lookup ("_counts" : Str) [(("_counts" : Str), V.ref q)] = some (.ref q) := by simp [List.lookup]
theorem ok_get {C f : Addr} {fd : FuncData} (F : Fun K "counts" "Row.counts" (inClass (top 18) 2) f fd) (RC : RowC K mg C) : FnOk P w K mg base CX0 1 f fd ["self"] (spGet K C) := by
  have sc := scGet
  refine F.ok sc (fun vs H Q E h => ?_) (fun cdv A outer s H vs Q E hr h => ?_)
  · obtain ⟨x, ps, rfl, _⟩ := h
    rfl
  · obtain ⟨x, ps, rfl, ⟨a, dx, q, rfl, hA, hS⟩, k⟩ := h
    refine ⟨_, (pss_one (ps_ret (kFld (K := K) (pv 0) rfl))), ?_⟩
    walk_at "rd"
    exact ⟨_, _, _, hA, RC.cl, RC.nC, _, look_counts q, k _ ⟨q, rfl, hS⟩⟩
def spDraws (K : PySem.W.Frag) (C : Addr) : Sp := fun vs H Q _ => ∃ (x : V) (ps : List Int), vs = [x] ∧ IsRow K C H x ps ∧ Q (.int ((ps.length : Nat) - 1 : Int)) H
theorem scDraws : FnScope ["self"] ["self"] (defScope (inClass (top 18) 4)) := ⟨rfl, rfl, rfl, by decide +kernel, rfl, by decide +kernel, by decide +kernel⟩
theorem ok_draws {C f : Addr} {fd : FuncData} (F : Fun K "draws" "Row.draws" (inClass (top 18) 4) f fd) (B : Bi mg) (RC : RowC K mg C) : FnOk P w K mg base CX0 1 f fd ["self"] (spDraws K C) := by
  have sc := scDraws
  refine F.ok sc (fun vs H Q E h => ?_) (fun cdv A outer s H vs Q E hr h => ?_)
  · obtain ⟨x, ps, rfl, _⟩ := h
    rfl
  · obtain ⟨x, ps, rfl, ⟨a, dx, q, rfl, hA, hS⟩, k⟩ := h
    refine ⟨_, (pss_one (ps_ret (pe_op op_sub (pe_callB (kLen (K := K)) (by rfl) B.len (by decide +kernel) (pa_cons (kFld (K := K) (pv 0) rfl) pa_nil)) pe_int))), ?_⟩
    walk_at "rd"
    refine ⟨_, _, _, hA, RC.cl, RC.nC, _, look_counts q, ?_⟩
    walk_at "rd"
    refine ⟨_, .inr hS, ?_⟩
    rw [List.length_map]
    exact k
def spLowest (K : PySem.W.Frag) : Sp := fun vs H Q _ => ∃ t b : Int, vs = [.int t, .int b] ∧ 0 < b ∧ b.natAbs < 2 ^ 8990 ∧
  ∀ x H', Ex H H' → IsFr K H' x ((t : Rat) / (b : Rat)) → Q x H'
theorem scLowest : FnScope ["top", "bottom", "common"] ["top", "bottom"] (defScope (top 12)) := ⟨rfl, rfl, rfl, by decide +kernel, rfl, by decide +kernel, by decide +kernel⟩
theorem has_lowest (c_gcd : mg "gcd" = some (.builtin "math.gcd")) (D : Df K mg "lowest" (top 12) ["top", "bottom"]) : Has P w K mg base "lowest" 1 ["top", "bottom"] (spLowest K) := by
  have sc := scLowest
  refine .of D fun f fd F => F.ok sc (fun vs H Q E h => ?_) (fun cdv A outer s H vs Q E hr h => ?_)
  · obtain ⟨t, b, rfl, _⟩ := h
    rfl
  · obtain ⟨t, b, rfl, b0, b1, k⟩ := h
    obtain ⟨g0, g1⟩ := gcd_small (t := t) b0 b1
    refine ⟨_, (pss_cons (ps_set (i := 2) sc.nd rfl (by first | exact Or.inl rfl | exact Or.inr rfl) (pe_callBfun cr_gcd (by rfl) c_gcd (pa_cons (pv 0) (pa_cons (pv 1) pa_nil))))
      (pss_one (ps_ret (pe_tupN (pa_cons (pe_op op_fdivW (pv 0) (pv 2)) (pa_cons (pe_op op_fdivW (pv 1) (pv 2)) pa_nil)))))), ?_⟩
    walk_at "rd"
    refine ⟨_, _, rfl, ?_⟩
    have eg : ((Nat.gcd t.natAbs b.natAbs : Nat) : Int) = ((Int.gcd b t : Nat) : Int) := by
      rw [Nat.gcd_comm]
      rfl
    rw [eg]
    walk_at "rd"
    refine ⟨⟨g0, log_lt g1⟩, ⟨g0, log_lt g1⟩, by decide, fun p H1 n1 e1 t1 => k _ _ e1 ⟨p, rfl, ?_⟩⟩
    rw [← part_eq b0]
    exact .of t1
/-- a tuple whose items tell the fractions -/
def FrsAt (K : PySem.W.Frag) (H : Hp) (xs : List V) (rs : List Rat) : Prop := xs.length = rs.length ∧ ∀ (i : Nat) x, xs[i]? = some x → ∃ r, rs[i]? = some r ∧ IsFr K H x r
theorem FrsAt.kp {H H' : Hp} {xs : List V} {rs : List Rat} (h : FrsAt K H xs rs) (e : Kp H H') : FrsAt K H' xs rs :=
  ⟨h.1, fun i x hx => let ⟨r, h1, h2⟩ := h.2 i x hx; ⟨r, h1, h2.kp e⟩⟩
def IsFrs (K : PySem.W.Frag) (H : Hp) (x : V) (rs : List Rat) : Prop := ∃ p xs, x = .ref p ∧ SqT K H p xs ∧ FrsAt K H xs rs
theorem IsFrs.kp {H H' : Hp} {x : V} {rs : List Rat} (h : IsFrs K H x rs) (e : Kp H H') : IsFrs K H' x rs := by
  obtain ⟨p, xs, rfl, h1, h2⟩ := h
  exact ⟨p, xs, rfl, sqT_kp h1 e, h2.kp e⟩
theorem frs_dp {H : Hp} : ∀ {xs : List V} {rs : List Rat}, FrsAt K H xs rs → DpAll K H xs (rs.map frD)
  | [], [], _ => .nil
  | [], _ :: _, h => by cases h.1
  | _ :: _, [], h => by cases h.1
  | x :: xs, r :: rs, h => by
    refine .cons ?_ (frs_dp ⟨by simpa using h.1, fun i y hy => by simpa using h.2 (i + 1) y (by simpa using hy)⟩)
    obtain ⟨r', e, q⟩ := h.2 0 x rfl
    cases e
    exact q.dp
/-- rates of plain counts -/
def ratesL (ps : List Int) : List Rat := ps.map fun p => ((p : Int) : Rat) / ((ps.sum : Int) : Rat)
def spRates (K : PySem.W.Frag) (C : Addr) : Sp := fun vs H Q _ => ∃ (x : V) (ps : List Int), vs = [x] ∧ IsRow K C H x ps ∧ ps.length ≤ 1000 ∧ 0 < ps.sum ∧ ps.sum.natAbs < 2 ^ 8990 ∧ ∀ y H', Ex H H' → IsFrs K H' y (ratesL ps) → Q y H'
theorem scRates : FnScope ["self", "total", "count"] ["self"] (defScope (inClass (top 18) 3)) := ⟨rfl, rfl, rfl, by decide +kernel, rfl, by decide +kernel, by decide +kernel⟩
theorem ok_rates {C f : Addr} {fd : FuncData} (F : Fun K "rates" "Row.rates" (inClass (top 18) 3) f fd) (B : Bi mg) (RC : RowC K mg C) (hlowest : Has P w K mg base "lowest" 1 ["top", "bottom"] (spLowest K)) : FnOk P w K mg base CX0 2 f fd ["self"] (spRates K C) := by
  have sc := scRates
  refine F.ok sc (fun vs H Q E h => ?_) (fun cdv A outer s H vs Q E hr h => ?_)
  · obtain ⟨x, ps, rfl, _⟩ := h
    rfl
  · obtain ⟨x, ps, rfl, ⟨a, dx, q, rfl, hA, hS⟩, hlen, s0, s1, k⟩ := h
    refine ⟨_, (pss_cons (ps_set (i := 1) sc.nd rfl (by first | exact Or.inl rfl | exact Or.inr rfl) (pe_callB (kSum (K := K) rfl) (by rfl) B.sum (by decide +kernel) (pa_cons (kFld (K := K) (pv 0) rfl) pa_nil)))
      (pss_one (ps_ret (pe_callTy (kTuple (K := K)) (by rfl) B.tuple (by decide +kernel) (pa_cons (pe_lc (own := [("count", 2)]) (g := gName 2) (tt := tYes) rfl sc.nd (pi_tup (kFld (K := K) (pv 0) rfl)) (blkOk_by (N := (["self", "total", "count"] : List Str)) (sc := defScope (inClass (top 18) 3)) (by decide +kernel)) (fun _ _ _ _ _ => (pg_name (i := 2) sc.nd rfl (by first | exact Or.inl rfl | exact Or.inr rfl))) (fun _ _ _ _ _ => pts_nil) (fun _ _ _ _ _ => (PE.mon (pe_has hlowest (hr.mono (by decide)) (pa_cons (pv 2) (pa_cons (pv 1) pa_nil)))))) pa_nil))))), ?_⟩
    walk_at "rd"
    refine ⟨_, _, _, hA, RC.cl, RC.nC, _, look_counts q, ?_⟩
    refine ⟨q, ps, rfl, .inr hS, ?_⟩
    walk_at "rd"
    refine ⟨_, _, _, hA, RC.cl, RC.nC, _, look_counts q, q, rfl, ⟨_, hS⟩, fun Dd hD => ?_⟩
    refine lcTn (fun i y G => ∃ c, ps[i]? = some c ∧ IsFr K G y (((c : Int) : Rat) / ((ps.sum : Int) : Rat))) (fun i y G G' e ⟨c, h1, h2⟩ => ⟨c, h1, h2.kp e⟩) hD hS (by rw [List.length_map]; omega) (fun _ => rfl) ?_ ?_
    · intro i x H2 hx e
      obtain ⟨c, hc, rfl⟩ := map_int_get hx
      obtain ⟨R0, hR⟩ : ∃ R : VK, R = fun v H' => Ex H2 H' ∧ IsFr K H' v (((c : Int) : Rat) / ((ps.sum : Int) : Rat)) := ⟨_, rfl⟩
      refine ⟨R0, ?_, fun v H' h => by rw [hR] at h; exact ⟨h.1, c, hc, h.2⟩⟩
      walk_at "rd"
      refine ⟨c, ps.sum, rfl, s0, s1, fun y G e2 hy => ?_⟩
      rw [hR]
      exact ⟨e2, hy⟩
    · intro H2 ys e hy hl hr2
      rw [List.length_map] at hl
      refine ⟨Dd, _, rfl, .of hy, fun p H3 n3 e3 t3 => k _ _ (e.trans e3) ⟨p, ys, rfl, .of t3, ?_, fun i y hi => ?_⟩⟩
      · rw [hl]
        simp [ratesL]
      · obtain ⟨c, h1, h2⟩ := hr2 i y hi
        exact ⟨_, by simp [ratesL, h1], h2.kp e3.kp⟩
end

section
variable {P : Program} {w : World} {K : PySem.W.Frag} {mg : Str → Option Value} {base : Heap}
/-! ### rows compared, the rules of rows -/
def spEqR (K : PySem.W.Frag) (C : Addr) : Sp := fun vs H Q _ => ∃ (x y : V) (ps qs : List Int), vs = [x, y] ∧ IsRow K C H x ps ∧ IsRow K C H y qs ∧ Q (.bl (PyData.eqv (intsD ps) (intsD qs))) H
theorem scEq : FnScope ["self", "other"] ["self", "other"] (defScope (inClass (top 18) 7)) := ⟨rfl, rfl, rfl, by decide +kernel, rfl, by decide +kernel, by decide +kernel⟩
theorem shaped_ints (cs : List Int) : SeqAt.shaped (intsD cs) = true := by
  have h : ∀ cs : List Int, PyData.canLayAll0 (cs.map PyData.int) = true ∧ PyData.depthAll (cs.map PyData.int) = 0 := by
    intro cs
    induction cs with
    | nil => exact ⟨by simp [PyData.canLayAll0], by simp [PyData.depthAll]⟩
    | cons c cs ih => exact ⟨by simp [PyData.canLayAll0, PyData.canLay0, ih.1], by simp [PyData.depthAll, PyData.depth, ih.2]⟩
  unfold SeqAt.shaped intsD
  simp [PyData.canLay0, PyData.depth, (h cs).1, (h cs).2]
theorem ok_eq {C f : Addr} {fd : FuncData} (F : Fun K "__eq__" "Row.__eq__" (inClass (top 18) 7) f fd) (B : Bi mg) (RC : RowC K mg C) : FnOk P w K mg base CX0 1 f fd ["self", "other"] (spEqR K C) := by
  have sc := scEq
  refine F.ok sc (fun vs H Q E h => ?_) (fun cdv A outer s H vs Q E hr h => ?_)
  · obtain ⟨x, y, ps, qs, rfl, _⟩ := h
    rfl
  · obtain ⟨x, y, ps, qs, rfl, ⟨a, dx, p, rfl, hA, hS⟩, ⟨b, dy, q, rfl, hB, hT⟩, k⟩ := h
    refine ⟨_, (pss_one (ps_ret (pe_and (pe_callB (kIsi (K := K)) (by rfl) B.isinstance (by decide +kernel) (pa_cons (pv 1) (pa_cons (pe_glob (v := .ref C) rfl RC.mgC rfl) pa_nil))) (pe_one (pe_cmpR (op_eqD hr.units) (pe_fld (pv 0) rfl) (pe_fld (pv 1) rfl) (nomark _)))))), ?_⟩
    walk_at "rd"
    refine ⟨_, _, _, _, true, rfl, .own C, RC.ty hB, by simp [PySem.W.kitOne], ?_⟩
    walk_at "rd"
    refine ⟨_, _, _, hA, RC.cl, RC.nC, _, look_counts p, _, _, _, hB, RC.cl, RC.nC, _, look_counts q, ?_⟩
    exact ⟨intsD ps, intsD qs, .tup hS (dp_ints _), .tup hT (dp_ints _), shaped_ints _, shaped_ints _, k⟩

/-- the class Row as the text makes it: its parts keep what they promise -/
structure RowT (P : Program) (w : World) (K : PySem.W.Frag) (mg : Str → Option Value) (base : Heap) (C : Addr) : Prop where
  rc : RowC K mg C
  init : ∃ f fd, Mk K C f ∧ FnOk P w K mg base CX0 3 f fd ["self", "counts"] (spInit K C) ∧ Binds K fd ["self", "counts"] []
  counts : ∃ p g fd, PropOf K C "counts" p g ∧ FnOk P w K mg base CX0 1 g fd ["self"] (spGet K C) ∧ Binds K fd ["self"] []
  draws : ∃ p g fd, PropOf K C "draws" p g ∧ FnOk P w K mg base CX0 1 g fd ["self"] (spDraws K C) ∧ Binds K fd ["self"] []
  rates : ∃ p g fd, PropOf K C "rates" p g ∧ FnOk P w K mg base CX0 2 g fd ["self"] (spRates K C) ∧ Binds K fd ["self"] []
  eq : ∃ f fd, PySem.W.findIn K (.ref C) "__eq__" = some (some (.ref f)) ∧ PySem.W.isFn K (.ref f) = true ∧ FnOk P w K mg base CX0 1 f fd ["self", "other"] (spEqR K C) ∧ Binds K fd ["self", "other"] []
  ne : ∃ (f N : Addr) (of : Obj) (nm q : Str) (bs : List Value) (hdct : Bool) (sn : List Str) (sub : List Value) (ab : Bool) (col : Option Bool) (dd : Option Addr) (k0 k1 k2 k3 k5 : Option Value) (newId : String),
    PySem.W.findIn K (.ref C) "__eq__" = some (some (.ref f)) ∧ K.lookup C = some (excClassObj nm q C N bs [.type "object"] hdct sn sub ab col dd k0 k1 k2 k3 k5 newId) ∧ PySem.W.nsOkIn K N = true ∧
    PySem.W.nsIn K N "__eq__" = some (some (.ref f)) ∧ PySem.W.nsIn K N "__ne__" = some none ∧ K.lookup f = some of ∧ of.cls = .type "function"

theorem ns_some {h : Heap} {N : Addr} {m : Str → Option Value} {n : Str} {v : Value} (X : K.In h) (G : h.Ns N m) (e : PySem.W.nsIn K N n = some (some v)) : m n = some v := by
  obtain ⟨o, es, ep, ho, hd, ok, hf⟩ := G
  unfold PySem.W.nsIn at e
  split at e
  · rename_i q
    have z := X _ _ q
    rw [ho] at z
    cases z
    cases hd
    split at e
    · rename_i en hen
      cases e
      rw [← hf]
      unfold nsFind findBy
      rw [← Array.find?_toList, hen]
      rfl
    · split at e <;> cases e
  · cases e
section
variable {X : Cx} {C : Addr} {e : Expr} {es : List Expr} {te : TE} {t : TA} {p pos : Pos}
/-- Row(e) -/
def tRow (K : PySem.W.Frag) (C : Addr) (t : TA) : TE := fun σ H Q => t σ H fun vs H1 => ∃ (y : V) (cs : List Int), vs = [y] ∧ IsInts K H1 y cs ∧ RowOk cs ∧ ∀ x H2, Ex H1 H2 → IsRow K C H2 x (plainL cs) → Q x H2
theorem pe_row (T : RowT X.prog X.w X.K X.mg X.base C) (hr : Room 4 X.A) (ha : PA X (e :: es) t) (hg : Gl X "Row" := by rfl)
    (he : starEach (e :: es) X.env = (false, eval e X.env) :: starEach es X.env := by rfl) (hpl : (backTo pos (starEach es X.env)).any (·.1) = false := by rfl) :
    PE X (.Call (.Name "Row" p) (e :: es) [] pos) (tRow X.K C t) := by
  obtain ⟨f, fd, M, F, hb⟩ := T.init
  have q := pe_make (X := X) (p := p) (pos := pos) M F hr hg T.rc.mgC hb .nil (pass0 (X := X)) (PA.mon ha) (by decide) he hpl
  refine ⟨fun pins s σ H Q I hq => q.run pins s σ H Q I ⟨_, hq, ?_⟩⟩
  intro vs H1 ⟨y, cs, ev, ⟨qa, ey, hS⟩, ok, k⟩ x dx nx ndx nex
  subst ev ey
  have e1 : Ex H1 (upd (upd H1 dx (.own x)) x (.ins C dx [])) := fun b o h => by
    rw [upd_ne (ne_of_none h nx), upd_ne (ne_of_none h ndx)]
    exact h
  refine ⟨x, dx, qa, cs, rfl, upd_same, sqT_kp hS e1.kp, ok, fun H2 keep hrow => ⟨rfl, k _ _ (fun b o h => ?_) hrow⟩⟩
  exact keep b o (ne_of_none h nx) (e1 b o h)
/-- e.counts -/
def tCounts (K : PySem.W.Frag) (C : Addr) (te : TE) : TE := fun σ H Q => te σ H fun x H1 => ∃ ps, IsRow K C H1 x ps ∧ ∀ y, IsInts K H1 y ps → Q y H1
theorem pe_counts (T : RowT X.prog X.w X.K X.mg X.base C) (hr : Room 2 X.A) (he : PE X e te) (hab : attributeBase e "counts" X.env (eval e X.env) = eval e X.env := by rfl) : PE X (.Attribute e "counts" pos) (tCounts X.K C te) := by
  obtain ⟨pr, g, fd, hp, F, hb⟩ := T.counts
  have q := pe_prop (X := X) (pos := pos) (PE.mon he) T.rc.cl hp F hr hb .nil (pass0 (X := X.nox)) hab
  refine ⟨fun pins s σ H Q I hq => q.run pins s σ H Q I ⟨_, hq, ?_⟩⟩
  intro x H1 ⟨ps, hrow, k⟩
  obtain ⟨a, dx, qa, ex, hA, hS⟩ := id hrow
  exact ⟨a, dx, _, ex, hA, x, ps, by rw [ex], hrow, k⟩
def tDraws (K : PySem.W.Frag) (C : Addr) (te : TE) : TE := fun σ H Q => te σ H fun x H1 => ∃ ps : List Int, IsRow K C H1 x ps ∧ Q (.int ((ps.length : Nat) - 1 : Int)) H1
theorem pe_draws (T : RowT X.prog X.w X.K X.mg X.base C) (hr : Room 2 X.A) (he : PE X e te) (hab : attributeBase e "draws" X.env (eval e X.env) = eval e X.env := by rfl) : PE X (.Attribute e "draws" pos) (tDraws X.K C te) := by
  obtain ⟨pr, g, fd, hp, F, hb⟩ := T.draws
  have q := pe_prop (X := X) (pos := pos) (PE.mon he) T.rc.cl hp F hr hb .nil (pass0 (X := X.nox)) hab
  refine ⟨fun pins s σ H Q I hq => q.run pins s σ H Q I ⟨_, hq, ?_⟩⟩
  intro x H1 ⟨ps, hrow, k⟩
  obtain ⟨a, dx, qa, ex, hA, hS⟩ := id hrow
  exact ⟨a, dx, _, ex, hA, x, ps, by rw [ex], hrow, k⟩
def tRates (K : PySem.W.Frag) (C : Addr) (te : TE) : TE := fun σ H Q => te σ H fun x H1 => ∃ ps : List Int, IsRow K C H1 x ps ∧ ps.length ≤ 1000 ∧ 0 < ps.sum ∧ ps.sum.natAbs < 2 ^ 8990 ∧ ∀ y H', Ex H1 H' → IsFrs K H' y (ratesL ps) → Q y H'
theorem pe_rates (T : RowT X.prog X.w X.K X.mg X.base C) (hr : Room 3 X.A) (he : PE X e te) (hab : attributeBase e "rates" X.env (eval e X.env) = eval e X.env := by rfl) : PE X (.Attribute e "rates" pos) (tRates X.K C te) := by
  obtain ⟨pr, g, fd, hp, F, hb⟩ := T.rates
  have q := pe_prop (X := X) (pos := pos) (PE.mon he) T.rc.cl hp F hr hb .nil (pass0 (X := X.nox)) hab
  refine ⟨fun pins s σ H Q I hq => q.run pins s σ H Q I ⟨_, hq, ?_⟩⟩
  intro x H1 ⟨ps, hrow, k⟩
  obtain ⟨a, dx, qa, ex, hA, hS⟩ := id hrow
  exact ⟨a, dx, _, ex, hA, x, ps, by rw [ex], hrow, k⟩
/-- x != y, two rows -/
def rNeRow (K : PySem.W.Frag) (C : Addr) : R2 := fun x y H Q => ∃ ps qs, IsRow K C H x ps ∧ IsRow K C H y qs ∧ Q (.bl (!PyData.eqv (intsD ps) (intsD qs))) H
theorem op_neRow (T : RowT X.prog X.w X.K X.mg X.base C) (hr : Room 2 X.A) : OpR X (compareOp .NotEq) (rNeRow X.K C) := by
  intro pins s σ H x y v u Q I rx ry ⟨ps, qs, ⟨a, dx, p, ex, hA, hS⟩, ⟨b, dy, q, ey, hB, hT⟩, k⟩
  subst ex ey
  obtain rfl : v = Value.ref a := rx
  obtain rfl : u = Value.ref b := ry
  obtain ⟨f, fd, f1, f2, F, hb⟩ := T.eq
  obtain ⟨f', N, of, nm, qn, bs, hdct, sn, sub, ab, col, dd, k0, k1, k2, k3, k5, newId, f3, lC, okN, n1, n2, lf, cf⟩ := T.ne
  have ef : f' = f := by
    rw [f1] at f3
    cases f3
    rfl
  subst ef
  obtain ⟨mA, OA, _⟩ := ins_get I.hok hA
  obtain ⟨mB, OB, _⟩ := ins_get I.hok hB
  have KI := I.kIn
  obtain ⟨hp, g, d, tk, os⟩ := s
  have hns : hp.Ns N (hp.nsMap N) := .of_isNs (PySem.W.isNs_of_in KI okN)
  have nNe : hp.nsMap N "__ne__" = none := PySem.W.ns_none_of KI hns n2
  have nEq : hp.nsMap N "__eq__" = some (.ref f') := ns_some KI hns n1
  have OE : hp.OwnEqNoNe a C f' "object" [.type "object"] :=
    ⟨_, of, nm, qn, N, bs, hdct, sn, sub, ab, col, dd, k0, k1, k2, k3, k5, newId, _, _, OA.obj, rfl, KI _ _ lC, hns, nEq, KI _ _ lf, cf, PySem.F.cmp_object.mro, rfl, nNe⟩
  refine compareOp_ne_ownEq PySem.F.cmp_object OE OB.obj rfl (by have := hr.un; omega) ?_
  have hsp : spEqR X.K C [.ref a, .ref b] H (fun v H' => v = .bl (PyData.eqv (intsD ps) (intsD qs)) ∧ H' = H) E0 :=
    ⟨.ref a, .ref b, ps, qs, rfl, ⟨a, dx, p, rfl, hA, hS⟩, ⟨b, dy, q, rfl, hB, hT⟩, rfl, rfl⟩
  have hl := F.len _ _ _ _ hsp
  have r2 : Vals [V.ref a, V.ref b] [Value.ref a, Value.ref b] := .cons rfl (.cons rfl .nil)
  have bnd := hb ⟨hp, g, d, tk, os⟩ [.ref a, .ref b] KI (by simpa using hl)
  rw [List.append_nil] at bnd
  refine wpAny_call (codeAny_mono (F.run X.A.in1 X.stack ⟨hp, g, d, tk, os⟩ H ⟨[.ref a, .ref b], []⟩ [.ref a, .ref b] [.ref a, .ref b] _ E0 hr.in1 I.env0.in1 bnd r2 hsp) fun res s' hq => ?_)
  cases res with
  | error er => exact (pass0 (X := X)) pins σ H _ er s' I hq
  | ok fl =>
    cases fl with
    | next => exact hq.elim
    | brk => exact hq.elim
    | cont => exact hq.elim
    | ret z =>
      obtain ⟨y, H', I', rz, ez, eh⟩ := I.after hq
      subst ez eh
      obtain rfl : z = Value.bool _ := rz
      exact ⟨_, rfl, .bl (!PyData.eqv (intsD ps) (intsD qs)), _, I', rfl, k⟩
end
end
section
variable {X : Cx} {K : PySem.W.Frag}
section
variable {P : Program} {w : World} {mg : Str → Option Value} {base : Heap} {C : Addr} {e : Expr} {es : List Expr} {te : TE} {t : TA} {p pos : Pos}
/-- where the block stands -/
def At (X : Cx) (P : Program) (w : World) (K : PySem.W.Frag) (mg : Str → Option Value) (base : Heap) : Prop := X.prog = P ∧ X.w = w ∧ X.K = K ∧ X.mg = mg ∧ X.base = base
theorem kRow (T : RowT P w K mg base C) (hr : Room 4 X.A) (ha : PA X (e :: es) t) (hx : At X P w K mg base := by exact ⟨rfl, rfl, rfl, rfl, rfl⟩) (hg : Gl X "Row" := by rfl)
    (he : starEach (e :: es) X.env = (false, eval e X.env) :: starEach es X.env := by rfl) (hpl : (backTo pos (starEach es X.env)).any (·.1) = false := by rfl) :
    PE X (.Call (.Name "Row" p) (e :: es) [] pos) (tRow K C t) := by
  obtain ⟨h1, h2, h3, h4, h5⟩ := hx
  subst h1 h2 h3 h4 h5
  exact pe_row T hr ha hg he hpl
theorem kCounts (T : RowT P w K mg base C) (hr : Room 2 X.A) (he : PE X e te) (hx : At X P w K mg base := by exact ⟨rfl, rfl, rfl, rfl, rfl⟩) (hab : attributeBase e "counts" X.env (eval e X.env) = eval e X.env := by rfl) : PE X (.Attribute e "counts" pos) (tCounts K C te) := by
  obtain ⟨h1, h2, h3, h4, h5⟩ := hx
  subst h1 h2 h3 h4 h5
  exact pe_counts T hr he hab
theorem kDraws (T : RowT P w K mg base C) (hr : Room 2 X.A) (he : PE X e te) (hx : At X P w K mg base := by exact ⟨rfl, rfl, rfl, rfl, rfl⟩) (hab : attributeBase e "draws" X.env (eval e X.env) = eval e X.env := by rfl) : PE X (.Attribute e "draws" pos) (tDraws K C te) := by
  obtain ⟨h1, h2, h3, h4, h5⟩ := hx
  subst h1 h2 h3 h4 h5
  exact pe_draws T hr he hab
theorem kRates (T : RowT P w K mg base C) (hr : Room 3 X.A) (he : PE X e te) (hx : At X P w K mg base := by exact ⟨rfl, rfl, rfl, rfl, rfl⟩) (hab : attributeBase e "rates" X.env (eval e X.env) = eval e X.env := by rfl) : PE X (.Attribute e "rates" pos) (tRates K C te) := by
  obtain ⟨h1, h2, h3, h4, h5⟩ := hx
  subst h1 h2 h3 h4 h5
  exact pe_rates T hr he hab
theorem kNeRow (T : RowT P w K mg base C) (hr : Room 2 X.A) (hx : At X P w K mg base := by exact ⟨rfl, rfl, rfl, rfl, rfl⟩) : OpR X (compareOp .NotEq) (rNeRow K C) := by
  obtain ⟨h1, h2, h3, h4, h5⟩ := hx
  subst h1 h2 h3 h4 h5
  exact op_neRow T hr
end
section
variable {D : Ends} {σ : L2.St} {H : Hp} {te : TE} {tx : TA} {Q : VK} {C : Addr}
theorem r_counts : tCounts K C te σ H Q = te σ H fun x H1 => ∃ ps, IsRow K C H1 x ps ∧ ∀ y, IsInts K H1 y ps → Q y H1 := rfl
theorem r_draws : tDraws K C te σ H Q = te σ H fun x H1 => ∃ ps : List Int, IsRow K C H1 x ps ∧ Q (.int ((ps.length : Nat) - 1 : Int)) H1 := rfl
theorem r_rates : tRates K C te σ H Q = te σ H fun x H1 => ∃ ps : List Int, IsRow K C H1 x ps ∧ ps.length ≤ 1000 ∧ 0 < ps.sum ∧ ps.sum.natAbs < 2 ^ 8990 ∧ ∀ y H', Ex H1 H' → IsFrs K H' y (ratesL ps) → Q y H' := rfl
theorem r_row : tRow K C tx σ H Q = tx σ H fun vs H1 => ∃ (y : V) (cs : List Int), vs = [y] ∧ IsInts K H1 y cs ∧ RowOk cs ∧ ∀ x H2, Ex H1 H2 → IsRow K C H2 x (plainL cs) → Q x H2 := rfl
end
end

local macro_rules | `(tactic| walk_at "rd") => `(tactic| try simp only [r_seq, r_asg, r_name, r_ifS, r_next, r_ret, r_retN, r_drop, r_test, r_B, r_if, r_cons, r_nil, r_cb, r_tF, r_part, r_nopart, r_sl, r_par, r_chain, r_or, r_and, r_not, r_orV, r_andV, r_notV, r_op, r_un, r_var, r_c, r_yes, r_I0, r_I, r_U, r_eqI, r_neI, r_eqS, r_neS, r_lst, r_tup, r_for, r_lc, r_list, r_tupI, r_rng1, r_rng2, r_enumT, r_bm, r_fld, r_subT, r_gtup, r_gcons, r_gnil, r_K0, r_K, r_Kb, r_Kbb, wipe, r_never, not_true_eq_false, not_false_eq_true, Int.zero_add, r_counts, r_draws, r_rates, r_row, r_len, r_sfld, r_zipB, r_revT, r_tW, r_seqI, r_m0, r_m1, r_js0, r_js, r_fmt, r_revN, r_rng3, r_enumL,
  L2.start, List.map_cons, List.map_nil, List.length_cons, List.length_nil, Nat.reduceAdd, Nat.reduceSub, List.reduceReplicate, List.cons_append, List.nil_append, List.set_cons_zero, List.set_cons_succ, List.getElem?_cons_zero, List.getElem?_cons_succ, Option.some.injEq, exists_eq_left', exists_eq_left, exists_eq_right, exists_eq_right', V.int.injEq, V.ref.injEq, V.bl.injEq, V.str.injEq, List.cons.injEq, and_true, true_and, and_false, false_and, or_false, false_or, exists_false, exists_const, and_assoc, reduceCtorEq, if_true, if_false, Bool.false_eq_true, Bool.not_true, Bool.not_false, Bool.not_eq_true', decide_eq_true_eq, decide_eq_false_iff_not, exists_and_left, exists_and_right, exists_eq_or_imp])
section
variable {P : Program} {w : World} {K : PySem.W.Frag} {mg : Str → Option Value} {base : Heap}
/-! ### rows compared with values of other kinds -/
theorem ty_lst {H : Hp} {a : Addr} {xs : List V} (h : SqL K H a xs) : TyX K H (.ref a) (.type "list") := by
  rcases h with (h | ⟨o, h⟩) | ⟨o, its, n, h, c, _⟩
  · exact .base (.lst h)
  · exact .base (.frz h)
  · exact .kList h c
inductive OddK (K : PySem.W.Frag) (H : Hp) : V → String → Prop
  | non : OddK K H .non "NoneType"
  | bl (b : Bool) : OddK K H (.bl b) "bool"
  | int (i : Int) : OddK K H (.int i) "int"
  | str (x : Str) : OddK K H (.str x) "str"
  | lst {a : Addr} {xs : List V} (h : SqL K H a xs) : OddK K H (.ref a) "list"
  | tup {a : Addr} {xs : List V} (h : SqT K H a xs) : OddK K H (.ref a) "tuple"
  | dct {a : Addr} {kvs : List (Key × V)} (h : H a = some (.dK kvs)) : OddK K H (.ref a) "dict"
theorem OddK.ty {H : Hp} {v : V} {T : String} (h : OddK K H v T) : TyX K H v (.type T) := by
  cases h with
  | non => exact .base .non
  | bl b => exact .base (.bl b)
  | int i => exact .base (.int i)
  | str x => exact .base (.str x)
  | lst h => exact ty_lst h
  | tup h => exact ty_tup h
  | dct h => exact .base (.dK h)
def oddNames : List String := ["NoneType", "bool", "int", "str", "list", "tuple", "dict"]
theorem OddK.mem {H : Hp} {v : V} {T : String} (h : OddK K H v T) : T ∈ oddNames := by
  cases h <;> simp [oddNames]
theorem OddK.kp {H H' : Hp} {v : V} {T : String} (h : OddK K H v T) (e : Ex H H') : OddK K H' v T := by
  cases h with
  | non => exact .non
  | bl b => exact .bl b
  | int i => exact .int i
  | str x => exact .str x
  | lst h => exact .lst (sqL_ex h e)
  | tup h => exact .tup (sqT_kp h e.kp)
  | dct h => exact .dct (e _ _ h)
section
variable {X : Cx} {pins : List (Addr × Obj)} {σ : L2.St} {H : Hp} {s : Shared}
theorem OddK.odd {v : V} {u : Value} {T : String} (h : OddK X.K H v T) (I : Inv X pins σ H s) (r : RelV v u) : OddC s u T := by
  cases h with
  | non => cases (show u = Value.none from r); exact odd_none s
  | bl b => cases (show u = Value.bool b from r); exact odd_bool s b
  | int i => obtain ⟨t, q⟩ := (show ∃ t, u = Value.int i t from r); cases q; exact odd_int s i t
  | str x => obtain ⟨t, q⟩ := (show ∃ t, u = Value.str x t from r); cases q; exact odd_str s x t
  | @lst a xs h =>
    cases (show u = Value.ref a from r)
    obtain ⟨its, _, ⟨o, n, e, c, d, q⟩, _⟩ := I.list h
    obtain ⟨oc, od, dt, sl⟩ := o
    simp only at c q
    subst c q
    exact odd_list s a e
  | @tup a xs h =>
    cases (show u = Value.ref a from r)
    obtain ⟨its, _, ⟨o, e, c, n, q⟩, _⟩ := I.tuple h
    obtain ⟨oc, od, dt, sl⟩ := o
    simp only at c q
    subst c q
    exact odd_tuple s a e
  | @dct a kvs h =>
    cases (show u = Value.ref a from r)
    obtain ⟨_, _, vs, _, o, es, ep, e, x, q, _⟩ := (show ObjOk X.prog X.w H s.heap a (.dK kvs) from I.hok a _ h)
    obtain ⟨oc, od, dt, sl⟩ := o
    have c := x.1
    simp only at c q
    subst c q
    exact odd_dict s a e
end
/-- Row.__eq__ of a value of another kind -/
def spEqO (K : PySem.W.Frag) (C : Addr) : Sp := fun vs H Q _ => ∃ (x y : V) (ps : List Int) (T : String), vs = [x, y] ∧ IsRow K C H x ps ∧ OddK K H y T ∧ Q (.bl false) H
theorem ok_eqO {C f : Addr} {fd : FuncData} (F : Fun K "__eq__" "Row.__eq__" (inClass (top 18) 7) f fd) (B : Bi mg) (RC : RowC K mg C) (hodd : ∀ T ∈ oddNames, PySem.W.kitOne K (.type T) (.ref C) = some false) : FnOk P w K mg base CX0 1 f fd ["self", "other"] (spEqO K C) := by
  have sc := scEq
  refine F.ok sc (fun vs H Q E h => ?_) (fun cdv A outer s H vs Q E hr h => ?_)
  · obtain ⟨x, y, ps, T, rfl, _⟩ := h
    rfl
  · obtain ⟨x, y, ps, T, rfl, ⟨a, dx, p, rfl, hA, hS⟩, ho, k⟩ := h
    refine ⟨_, (pss_one (ps_ret (pe_and (pe_callB (kIsi (K := K)) (by rfl) B.isinstance (by decide +kernel) (pa_cons (pv 1) (pa_cons (pe_glob (v := .ref C) rfl RC.mgC rfl) pa_nil))) (pe_one (pe_cmpR (op_eqD hr.units) (pe_fld (pv 0) rfl) (pe_fld (pv 1) rfl) (nomark _)))))), ?_⟩
    walk_at "rd"
    refine ⟨_, _, _, _, false, rfl, .own C, ho.ty, hodd T ho.mem, ?_⟩
    walk_at "rd"
    exact k
end

section
variable {P : Program} {w : World} {K : PySem.W.Frag} {mg : Str → Option Value} {base : Heap}
/-! ### == and != of rows and other things, the rules -/
/-- C's own __eq__ is the def at f; it has no own __ne__ -/
def OwnEq (K : PySem.W.Frag) (C f : Addr) : Prop := ∃ (N : Addr) (of : Obj) (nm q : Str) (bs : List Value) (hdct : Bool) (sn : List Str) (sub : List Value) (ab : Bool) (col : Option Bool) (dd : Option Addr) (k0 k1 k2 k3 k5 : Option Value) (newId : String),
  K.lookup C = some (excClassObj nm q C N bs [.type "object"] hdct sn sub ab col dd k0 k1 k2 k3 k5 newId) ∧ PySem.W.nsOkIn K N = true ∧ PySem.W.nsIn K N "__eq__" = some (some (.ref f)) ∧ PySem.W.nsIn K N "__ne__" = some none ∧ K.lookup f = some of ∧ of.cls = .type "function"
structure RowQ (P : Program) (w : World) (K : PySem.W.Frag) (mg : Str → Option Value) (base : Heap) (C : Addr) : Prop where
  q : ∃ f fd, OwnEq K C f ∧ FnOk P w K mg base CX0 1 f fd ["self", "other"] (spEqR K C) ∧ FnOk P w K mg base CX0 1 f fd ["self", "other"] (spEqO K C) ∧ Binds K fd ["self", "other"] []
/-- what == says of two values, a row among them -/
def CmpQ (K : PySem.W.Frag) (C : Addr) (H : Hp) (x y : V) (b : Bool) : Prop :=
  (∃ ps qs, IsRow K C H x ps ∧ IsRow K C H y qs ∧ b = PyData.eqv (intsD ps) (intsD qs)) ∨ (∃ ps T, IsRow K C H x ps ∧ OddK K H y T ∧ b = false) ∨ (∃ ps T, OddK K H x T ∧ IsRow K C H y ps ∧ b = false)
def rEqQ (K : PySem.W.Frag) (C : Addr) : R2 := fun x y H Q => ∃ b, CmpQ K C H x y b ∧ Q (.bl b) H
def rNeQ (K : PySem.W.Frag) (C : Addr) : R2 := fun x y H Q => ∃ b, CmpQ K C H x y b ∧ Q (.bl (!b)) H
section
variable {X : Cx} {C : Addr}
theorem run_eqQ {f a : Addr} {y : V} {u : Value} {fd : FuncData} {b : Bool} {sp : Sp} {A : Around} {pins : List (Addr × Obj)} {s : Shared} {σ : L2.St} {H : Hp} (F : FnOk X.prog X.w X.K X.mg X.base CX0 1 f fd ["self", "other"] sp) (hb : Binds X.K fd ["self", "other"] []) (I : Inv X pins σ H s) (hr : Room 1 A) (he : Env0 X.prog X.w X.K X.mg X.base A X.stack s H) (ry : RelV y u)
    (h : sp [.ref a, y] H (fun v H' => v = .bl b ∧ H' = H) E0) {EE : Value → Shared → Prop} {QQ : Value → Shared → Prop} (hk : ∀ s', Inv X pins σ H s' → QQ (.bool b) s') : wpAny (model X.prog X.w) A (call (.ref f) [.ref a, u]) QQ EE s := by
  have bnd := hb s [.ref a, u] I.kIn rfl
  rw [List.append_nil] at bnd
  refine wpAny_call (codeAny_mono (F.run A X.stack s H ⟨[.ref a, u], []⟩ [.ref a, u] [.ref a, y] _ E0 hr he bnd (.cons rfl (.cons ry .nil)) h) fun res s' hq => ?_)
  cases res with
  | error er => exact (show False from hq).elim
  | ok fl =>
    cases fl with
    | next => exact hq.elim
    | brk => exact hq.elim
    | cont => exact hq.elim
    | ret z =>
      obtain ⟨v, H', I', rz, ez, eh⟩ := I.after hq
      subst ez eh
      obtain rfl : z = Value.bool b := rz
      exact hk _ I'
theorem OwnEq.ins {f a dx : Addr} {fs : List (Str × V)} {pins : List (Addr × Obj)} {s : Shared} {σ : L2.St} {H : Hp} (Y : OwnEq X.K C f) (I : Inv X pins σ H s) (e : H a = some (.ins C dx fs)) :
    InsAt s.heap a C [.type "object"] ∧ s.heap.OwnEqNoNe a C f "object" [.type "object"] := by
  obtain ⟨N, of, nm, q, bs, hdct, sn, sub, ab, col, dd, k0, k1, k2, k3, k5, newId, lC, okN, n1, n2, lf, cf⟩ := Y
  obtain ⟨mA, OA, _⟩ := ins_get I.hok e
  have KI := I.kIn
  have hns : s.heap.Ns N (s.heap.nsMap N) := .of_isNs (PySem.W.isNs_of_in KI okN)
  have nNe : s.heap.nsMap N "__ne__" = none := PySem.W.ns_none_of KI hns n2
  have nEq : s.heap.nsMap N "__eq__" = some (.ref f) := ns_some KI hns n1
  exact ⟨⟨_, nm, q, N, bs, hdct, sn, sub, ab, col, dd, k0, k1, k2, k3, k5, newId, OA.obj, rfl, rfl, KI _ _ lC⟩,
    ⟨_, of, nm, q, N, bs, hdct, sn, sub, ab, col, dd, k0, k1, k2, k3, k5, newId, _, _, OA.obj, rfl, KI _ _ lC, hns, nEq, KI _ _ lf, cf, PySem.F.cmp_object.mro, rfl, nNe⟩⟩
theorem op_eqQ (T : RowQ X.prog X.w X.K X.mg X.base C) (hr : Room 3 X.A) : OpR X (compareOp .Eq) (rEqQ X.K C) := by
  intro pins s σ H x y v u Q I rx ry ⟨b, h, k⟩
  obtain ⟨f, fd, Y, F1, F2, hb⟩ := T.q
  have J := I
  have hun := hr.un
  obtain ⟨hp, g, d, tk, os⟩ := s
  have h2 : Room 1 X.A := hr.mono (by decide)
  have fin : ∀ s', Inv X pins σ H s' → EP X pins σ Q (.bool b) s' := fun s' I' => ⟨.bl b, H, I', rfl, k⟩
  rcases h with ⟨ps, qs, r1, r2, eb⟩ | ⟨ps, T, r1, o2, eb⟩ | ⟨ps, T, o1, r2, eb⟩
  · obtain ⟨a, dx, p, rfl, hA, hS⟩ := id r1
    obtain ⟨c, dy, q, rfl, hB, hT⟩ := id r2
    obtain rfl : v = Value.ref a := rx
    obtain rfl : u = Value.ref c := ry
    obtain ⟨IA, OA⟩ := Y.ins J hA
    obtain ⟨mB, OB, _⟩ := ins_get J.hok hB
    subst eb
    refine compareOp_own_same (op := .Eq) rfl ⟨by simp, by simp, by simp, by simp⟩ OA.ownEq OB.obj rfl (by omega) ?_
    exact run_eqQ (y := .ref c) (u := .ref c) F1 hb J h2 J.env0 rfl ⟨_, _, ps, qs, rfl, r1, r2, rfl, rfl⟩ fun s' I' => ⟨_, rfl, fin _ I'⟩
  · obtain ⟨a, dx, p, rfl, hA, hS⟩ := id r1
    obtain rfl : v = Value.ref a := rx
    obtain ⟨IA, OA⟩ := Y.ins J hA
    subst eb
    refine rich_row_odd (op := .Eq) rfl IA (o2.odd J ry) (by omega) (try_eq_own OA.ownEq ?_)
    exact run_eqQ F2 hb J h2 J.env0 ry ⟨_, _, ps, T, rfl, r1, o2, rfl, rfl⟩ fun s' I' => ⟨_, rfl, _, rfl, fin _ I'⟩
  · obtain ⟨a, dx, p, rfl, hA, hS⟩ := id r2
    obtain rfl : u = Value.ref a := ry
    obtain ⟨IA, OA⟩ := Y.ins J hA
    subst eb
    have O := o1.odd J rx
    refine rich_odd_row (op := .Eq) rfl IA O (by omega) (fun Q' q' => O.eq _ _ _ _ _ _ _ IA q') (try_eq_own OA.ownEq ?_)
    exact run_eqQ F2 hb J h2 J.env0 rx ⟨_, _, ps, T, rfl, r2, o1, rfl, rfl⟩ fun s' I' => ⟨_, rfl, _, rfl, fin _ I'⟩
theorem op_neQ (T : RowQ X.prog X.w X.K X.mg X.base C) (hr : Room 3 X.A) : OpR X (compareOp .NotEq) (rNeQ X.K C) := by
  intro pins s σ H x y v u Q I rx ry ⟨b, h, k⟩
  obtain ⟨f, fd, Y, F1, F2, hb⟩ := T.q
  have J := I
  have hun := hr.un
  obtain ⟨hp, g, d, tk, os⟩ := s
  have h2 : Room 1 X.A.in1 := (hr.mono (by decide : 2 ≤ 3)).in1
  have fin : ∀ s', Inv X pins σ H s' → EP X pins σ Q (.bool (!b)) s' := fun s' I' => ⟨.bl (!b), H, I', rfl, k⟩
  rcases h with ⟨ps, qs, r1, r2, eb⟩ | ⟨ps, T, r1, o2, eb⟩ | ⟨ps, T, o1, r2, eb⟩
  · obtain ⟨a, dx, p, rfl, hA, hS⟩ := id r1
    obtain ⟨c, dy, q, rfl, hB, hT⟩ := id r2
    obtain rfl : v = Value.ref a := rx
    obtain rfl : u = Value.ref c := ry
    obtain ⟨IA, OA⟩ := Y.ins J hA
    obtain ⟨mB, OB, _⟩ := ins_get J.hok hB
    subst eb
    refine compareOp_ne_ownEq PySem.F.cmp_object OA OB.obj rfl (by omega) ?_
    exact run_eqQ (y := .ref c) (u := .ref c) F1 hb J h2 J.env0.in1 rfl ⟨_, _, ps, qs, rfl, r1, r2, rfl, rfl⟩ fun s' I' => ⟨_, rfl, fin _ I'⟩
  · obtain ⟨a, dx, p, rfl, hA, hS⟩ := id r1
    obtain rfl : v = Value.ref a := rx
    obtain ⟨IA, OA⟩ := Y.ins J hA
    subst eb
    refine rich_row_odd (op := .NotEq) rfl IA (o2.odd J ry) (by omega) (try_ne_own PySem.F.cmp_object OA (by omega) ?_)
    exact run_eqQ F2 hb J h2 J.env0.in1 ry ⟨_, _, ps, T, rfl, r1, o2, rfl, rfl⟩ fun s' I' => ⟨_, rfl, _, rfl, fin _ I'⟩
  · obtain ⟨a, dx, p, rfl, hA, hS⟩ := id r2
    obtain rfl : u = Value.ref a := ry
    obtain ⟨IA, OA⟩ := Y.ins J hA
    subst eb
    have O := o1.odd J rx
    refine rich_odd_row (op := .NotEq) rfl IA O (by omega) (fun Q' q' => O.ne _ _ _ _ _ _ _ IA q') (try_ne_own PySem.F.cmp_object OA (by omega) ?_)
    exact run_eqQ F2 hb J h2 J.env0.in1 rx ⟨_, _, ps, T, rfl, r2, o1, rfl, rfl⟩ fun s' I' => ⟨_, rfl, _, rfl, fin _ I'⟩
end
section
variable {X : Cx} {C : Addr}
theorem kEqQ (T : RowQ P w K mg base C) (hr : Room 3 X.A) (hx : At X P w K mg base := by exact ⟨rfl, rfl, rfl, rfl, rfl⟩) : OpR X (compareOp .Eq) (rEqQ K C) := by
  obtain ⟨h1, h2, h3, h4, h5⟩ := hx
  subst h1 h2 h3 h4 h5
  exact op_eqQ T hr
theorem kNeQ (T : RowQ P w K mg base C) (hr : Room 3 X.A) (hx : At X P w K mg base := by exact ⟨rfl, rfl, rfl, rfl, rfl⟩) : OpR X (compareOp .NotEq) (rNeQ K C) := by
  obtain ⟨h1, h2, h3, h4, h5⟩ := hx
  subst h1 h2 h3 h4 h5
  exact op_neQ T hr
end
end

section
variable {P : Program} {w : World} {K : PySem.W.Frag} {mg : Str → Option Value} {base : Heap}
open SX
/-! ### figures: is_decimal, read_decimal, write_decimal -/
abbrev numS (n : Nat) : Str := S (TL.numL n)
theorem num_range (n : Nat) : ∀ c ∈ TL.numL n, 48 ≤ c ∧ c ≤ 57 := TL.numL_digits n
theorem num_len60 {n : Nat} (h : n < 10 ^ 60) : (TL.numL n).length ≤ 60 := TL.numL_len (by decide) h
theorem num_len31 {n : Nat} (h : n < 10 ^ 31) : (TL.numL n).length ≤ 31 := TL.numL_len (by decide) h
def spDec : Sp := fun vs H Q _ => ∃ n : Nat, vs = [.str (numS n)] ∧ n < 10 ^ 60 ∧ Q (.bl true) H
theorem scDec : FnScope ["word"] ["word"] (defScope (top 13)) := ⟨rfl, rfl, rfl, by decide +kernel, rfl, by decide +kernel, by decide +kernel⟩
theorem has_dec (D : Df K mg "is_decimal" (top 13) ["word"]) : Has P w K mg base "is_decimal" 1 ["word"] spDec := by
  have sc := scDec
  refine .of D fun f fd F => F.ok sc (fun vs H Q E h => ?_) (fun cdv A outer s H vs Q E hr h => ?_)
  · obtain ⟨n, rfl, _⟩ := h
    rfl
  · obtain ⟨n, rfl, hn, k⟩ := h
    refine ⟨_, (pss_cons (ps_if (PW.pt (pw_or (pt_not (pt_truth (pe_m0 PySem.F.slot_str_isascii PySem.F.type_str_isascii mt_isascii (pv 0)) (by intro _; rfl))) (pw_or1 (pt_not (pt_truth (pe_m0 PySem.F.slot_str_isdigit PySem.F.type_str_isdigit mt_isdigit (pv 0)) (by intro _; rfl)))))) (pss_one (ps_ret pe_bl)) pss_nil)
      (pss_one (ps_ret (pe_or (pe_cmpR op_eq (pv 0) pe_str (nomark _)) (pe_one (pe_not (pe_m1 PySem.F.slot_str_startswith PySem.F.type_str_startswith mt_startswith (pv 0) pe_str))))))), ?_⟩
    walk_at "rd"
    have e0 : Str.ofString "0" = S [48] := by decide +kernel
    refine ⟨⟨_, rfl⟩, true, ascii_S (fun c hc => by have := num_range n c hc; omega) ▸ rfl, ?_⟩
    rw [if_neg (by decide)]
    refine ⟨⟨_, rfl⟩, true, digit_S (num_range n) (TL.numL_ne n) ▸ rfl, ?_⟩
    rw [if_neg (by decide), e0]
    by_cases h : n = 0
    · subst h
      rw [if_pos (by unfold numS; rw [num_zero])]
      exact k
    · obtain ⟨c, l, e, hc⟩ := num_head (by omega : 0 < n)
      rw [if_neg (by
        intro z
        have := S_inj z
        rw [e] at this
        cases this
        exact hc rfl)]
      refine ⟨⟨_, rfl⟩, ?_⟩
      have : Txt.startswith (numS n) (S [48]) = false := by
        rw [start_S, e]
        simp
        exact hc
      rw [this]
      exact k
def spRead : Sp := fun vs H Q _ => ∃ n : Nat, vs = [.str (numS n)] ∧ n < 10 ^ 60 ∧ ∀ H', Ex H H' → Q (.int (n : Int)) H'
theorem scRead : FnScope ["word", "pieces", "padded", "parts", "at", "step", "k"] ["word"] (defScope (top 14)) := ⟨rfl, rfl, rfl, by decide +kernel, rfl, by decide +kernel, by decide +kernel⟩
theorem has_read {t1 t2 : Tok} (B : Bi mg) (c__WIDTH : mg "_WIDTH" = some (.int 60 t1)) (c__STEP : mg "_STEP" = some (.int (10 ^ 60) t2)) (D : Df K mg "read_decimal" (top 14) ["word"]) : Has P w K mg base "read_decimal" 1 ["word"] spRead := by
  have sc := scRead
  refine .of D fun f fd F => F.ok sc (fun vs H Q E h => ?_) (fun cdv A outer s H vs Q E hr h => ?_)
  · obtain ⟨n, rfl, _⟩ := h
    rfl
  · obtain ⟨n, rfl, hn, k⟩ := h
    refine ⟨_, (pss_cons (ps_set (i := 1) sc.nd rfl (by first | exact Or.inl rfl | exact Or.inr rfl) (pe_op op_fdivW (pe_op op_sub (pe_op op_add (pe_callB call_len_str (by rfl) B.len (by decide +kernel) (pa_cons (pv 0) pa_nil)) (pe_glob (v := .int 60) rfl c__WIDTH ⟨_, rfl⟩)) pe_int) (pe_glob (v := .int 60) rfl c__WIDTH ⟨_, rfl⟩)))
      (pss_cons (ps_set (i := 2) sc.nd rfl (by first | exact Or.inl rfl | exact Or.inr rfl) (pe_m1 PySem.F.slot_str_zfill PySem.F.type_str_zfill mt_zfill (pv 0) (pe_op op_mulS (pv 1) (pe_glob (v := .int 60) rfl c__WIDTH ⟨_, rfl⟩))))
      (pss_cons (ps_set (i := 3) sc.nd rfl (by first | exact Or.inl rfl | exact Or.inr rfl) (pe_lc (own := [("at", 4)]) (g := gName 4) (tt := tYes) rfl sc.nd (pi_range3 (by rfl) B.range (pa_cons pe_int (pa_cons (pe_callB call_len_str (by rfl) B.len (by decide +kernel) (pa_cons (pv 2) pa_nil)) (pa_cons (pe_glob (v := .int 60) rfl c__WIDTH ⟨_, rfl⟩) pa_nil)))) (blkOk_by (N := (["word", "pieces", "padded", "parts", "at", "step", "k"] : List Str)) (sc := defScope (top 14)) (by decide +kernel)) (fun _ _ _ _ _ => (pg_name (i := 4) sc.nd rfl (by first | exact Or.inl rfl | exact Or.inr rfl))) (fun _ _ _ _ _ => pts_nil) (fun _ _ _ _ _ => (PE.mon (pe_callTy cr_intT (by rfl) B.int (by decide +kernel) (pa_cons (pe_slice C8.sl_txt (pv 2) (po_some (pv 4)) (po_some (pe_op op_add (pv 4) (pe_glob (v := .int 60) rfl c__WIDTH ⟨_, rfl⟩)))) pa_nil))))))
      (pss_cons (ps_set (i := 5) sc.nd rfl (by first | exact Or.inl rfl | exact Or.inr rfl) (pe_glob (v := .int (10 ^ 60)) rfl c__STEP ⟨_, rfl⟩))
      (pss_cons (ps_while PassesOwn.never (PT.mon (pt_cmpR op_gt (pe_callB (kLen (K := K)) (by rfl) B.len (by decide +kernel) (pa_cons (pv 3) pa_nil)) pe_int (nomark _))) (pss_cons ps_never (pss_cons ps_never (pss_one ps_never))))
      (pss_one (ps_ret (pe_ix (ixL (K := K)) (pv 3) pe_int (fun _ _ => rfl))))))))), ?_⟩
    walk_at "rd"
    have l1 : 1 ≤ (TL.numL n).length := List.length_pos_iff.mpr (TL.numL_ne n)
    have l60 := num_len60 hn
    have p60 : sizeLine = 16777216 := by rw [sizeLine_eq]
    have el : (numS n).length = (TL.numL n).length := S_len _
    have e1 : (((numS n).length : Int) + 60 - 1) / 60 = 1 := by omega
    rw [e1, show (1 : Int) * 60 = ((60 : Nat) : Int) by decide]
    refine ⟨by omega, ⟨by decide, by decide⟩, ⟨_, rfl⟩, cmulL, by decide, ?_⟩
    rw [zfill_S (fun c hc => (num_range n c (List.mem_of_mem_head? hc)).1) l60]
    obtain ⟨pad, hpad⟩ : ∃ pad : List Nat, pad = List.replicate (60 - (TL.numL n).length) 48 ++ TL.numL n := ⟨_, rfl⟩
    have pl : pad.length = 60 := by rw [hpad]; simp; omega
    rw [← hpad]
    walk_at "rd"
    refine ⟨by rw [S_len]; omega, ?_⟩
    rw [S_len, pl]
    refine ⟨1, ⟨by decide, by decide, by decide, by decide⟩, fun Dd hD => ?_⟩
    have hv : NumText.digitsVal pad = n := by rw [hpad, val_zeros, TL.numL_val]
    have hd : NumText.AllDigits pad := fun c hc => by
      rw [hpad] at hc
      rcases List.mem_append.mp hc with hc | hc
      · rw [(List.mem_replicate.mp hc).2]
        decide
      · exact num_range n c hc
    refine lcC (fun i y _ => y = .int ((fun _ => (n : Int)) i)) (fun _ _ _ _ _ h => h) hD (by decide) (fun _ => rfl) ?_ ?_
    · intro i G hi e
      have i0 : i = 0 := by omega
      subst i0
      obtain ⟨R0, hR⟩ : ∃ R : VK, R = fun y G' => G' = G ∧ y = .int (n : Int) := ⟨_, rfl⟩
      refine ⟨R0, ?_, fun y G' h => by rw [hR] at h; obtain ⟨rfl, h⟩ := h; exact ⟨Ex.refl _, h⟩⟩
      walk_at "rd"
      refine ⟨S pad, rfl, by rw [S_len]; omega, ?_⟩
      rw [show (((0 : Nat) : Int)) * 60 = 0 by decide, slice_zero, slice_to (by decide)]
      refine ⟨pad, by rw [show (0 + 60 : Int).toNat = 60 from rfl, List.take_of_length_le (by omega)], hd, by rw [← List.length_pos_iff]; omega, by omega, ?_⟩
      rw [hR, hv]
      exact ⟨rfl, rfl⟩
    · intro G ys e hy hly hr2
      rw [ints_of hly hr2] at hy
      refine ⟨fun _ σ' G' => G' = G ∧ σ' = [some (.str (numS n)), some (.int 1), some (.str (S pad)), some (.ref Dd), none, some (.int (10 ^ 60)), none], ⟨0, rfl, rfl⟩, ?_⟩
      rintro m σ' G' ⟨rfl, rfl⟩
      refine ⟨fun b G2 => b = false ∧ G2 = G', ?_, fun b G2 hb => ?_⟩
      · walk_at "rd"
        exact ⟨_, .inl (.of hy), by simp⟩
      · rw [hb.1, hb.2]
        show if false = true then _ else _
        rw [if_neg (by decide)]
        walk_at "rd"
        refine q_ixL (.of hy) (i := 0) rfl ?_
        exact k _ e
def spWrite : Sp := fun vs H Q _ => ∃ n : Nat, vs = [.int (n : Int)] ∧ n < 10 ^ 60 ∧ ∀ H', Ex H H' → Q (.str (numS n)) H'
theorem scWrite : FnScope ["number", "steps", "step", "parts", "size", "part", "piece", "digits"] ["number"] (defScope (top 15)) := ⟨rfl, rfl, rfl, by decide +kernel, rfl, by decide +kernel, by decide +kernel⟩
theorem has_write {t1 t2 : Tok} (B : Bi mg) (c__WIDTH : mg "_WIDTH" = some (.int 60 t1)) (c__STEP : mg "_STEP" = some (.int (10 ^ 60) t2)) (D : Df K mg "write_decimal" (top 15) ["number"]) : Has P w K mg base "write_decimal" 1 ["number"] spWrite := by
  have sc := scWrite
  refine .of D fun f fd F => F.ok sc (fun vs H Q E h => ?_) (fun cdv A outer s H vs Q E hr h => ?_)
  · obtain ⟨n, rfl, _⟩ := h
    rfl
  · obtain ⟨n, rfl, hn, k⟩ := h
    refine ⟨_, (pss_cons (ps_set (i := 1) sc.nd rfl (by first | exact Or.inl rfl | exact Or.inr rfl) (pe_lstN pa_nil))
      (pss_cons (ps_set (i := 2) sc.nd rfl (by first | exact Or.inl rfl | exact Or.inr rfl) (pe_glob (v := .int (10 ^ 60)) rfl c__STEP ⟨_, rfl⟩))
      (pss_cons (ps_while PassesOwn.never (PT.mon (pt_cmpR op_le (pv 2) (pv 0) (nomark _))) (pss_cons ps_never (pss_one ps_never)))
      (pss_cons (ps_set (i := 3) sc.nd rfl (by first | exact Or.inl rfl | exact Or.inr rfl) (pe_lstN (pa_cons (pv 0) pa_nil)))
      (pss_cons (ps_for PassesOwn.never rfl (pi_list (kRevL (K := K) (pv 1))) (pg_name (i := 4) sc.nd rfl (by first | exact Or.inl rfl | exact Or.inr rfl))
      (pss_one ps_never))
      (pss_cons (ps_set (i := 7) sc.nd rfl (by first | exact Or.inl rfl | exact Or.inr rfl) (pe_m1 PySem.F.slot_str_lstrip PySem.F.type_str_lstrip mt_lstripChars (pe_m1 PySem.F.slot_str_join PySem.F.type_str_join (kJoin (K := K)) pe_str (pe_lc (own := [("part", 5)]) (g := gName 5) (tt := tYes) rfl sc.nd (pi_list (pv 3)) (blkOk_by (N := (["number", "steps", "step", "parts", "size", "part", "piece", "digits"] : List Str)) (sc := defScope (top 15)) (by decide +kernel)) (fun _ _ _ _ _ => (pg_name (i := 5) sc.nd rfl (by first | exact Or.inl rfl | exact Or.inr rfl))) (fun _ _ _ _ _ => pts_nil) (fun _ _ _ _ _ => (PE.mon (pe_m1 PySem.F.slot_str_zfill PySem.F.type_str_zfill mt_zfill (pe_callTy call_str_int (by rfl) B.str (by decide +kernel) (pa_cons (pv 5) pa_nil)) (pe_glob (v := .int 60) rfl c__WIDTH ⟨_, rfl⟩)))))) pe_str))
      (pss_one (ps_ret (PE.mon (pe_ifExp (pt_truth (pv 7) (by intro _; rfl)) (pv 7) pe_str)))))))))), ?_⟩
    walk_at "rd"
    refine ⟨by decide, fun st G n0 e0 t0 => ?_⟩
    refine ⟨fun _ σ' G' => G' = G ∧ σ' = [some (.int (n : Int)), some (.ref st), some (.int (10 ^ 60)), none, none, none, none, none], ⟨0, rfl, rfl⟩, ?_⟩
    rintro m σ' G' ⟨rfl, rfl⟩
    refine ⟨fun b G2 => b = false ∧ G2 = G', ?_, fun b G2 hb => ?_⟩
    · walk_at "rd"
      intro h
      have : (10 ^ 60 : Int) = ((10 ^ 60 : Nat) : Int) := by decide
      omega
    · rw [hb.1, hb.2]
      show if false = true then _ else _
      rw [if_neg (by decide)]
      walk_at "rd"
      refine ⟨by decide, fun p1 G3 n1 e1 t1 => ?_⟩
      refine ⟨_, .of (e1 _ _ t0), fun p2 G4 n2 e2 t2 => ?_⟩
      have e4 := (e0.trans e1).trans e2
      refine ⟨p2, rfl, ⟨_, .of t2⟩, ?_⟩
      obtain ⟨Pv, hP⟩ : ∃ P : Nat → L2.St → Hp → Prop, P = fun i σ' G' => G' = G4 ∧ σ' = [some (.int (n : Int)), some (.ref st), some (.int (10 ^ 60)), some (.ref p1), none, none, none, none] := ⟨_, rfl⟩
      refine loopL (xs := []) Pv (by rw [hP]; exact ⟨rfl, rfl⟩) (fun i σ' G' _ h => by rw [hP] at h; rw [h.1]; exact .of t2) (fun i x σ' G' hx => by simp at hx) ?_
      intro σ' G' h
      rw [hP] at h
      obtain ⟨rfl, rfl⟩ := h
      walk_at "rd"
      have t1' := e2 _ _ t1
      have l1 : 1 ≤ (TL.numL n).length := List.length_pos_iff.mpr (TL.numL_ne n)
      have l60 := num_len60 hn
      have p60 : sizeLine = 16777216 := by rw [sizeLine_eq]
      obtain ⟨pad, hpad⟩ : ∃ pad : List Nat, pad = List.replicate (60 - (TL.numL n).length) 48 ++ TL.numL n := ⟨_, rfl⟩
      have pl : pad.length = 60 := by rw [hpad]; simp; omega
      refine ⟨⟨_, rfl⟩, ⟨_, .of t1'⟩, fun Dd hD => ?_⟩
      refine lcLn (fun i y _ => y = .str (S pad)) (fun _ _ _ _ _ h => h) hD (.of t1') (by simp) (fun _ => rfl) ?_ ?_
      · intro i x G5 hx e5
        have i0 : i = 0 ∧ x = .int (n : Int) := by
          match i, hx with
          | 0, hx => cases hx; exact ⟨rfl, rfl⟩
          | _ + 1, hx => simp at hx
        obtain ⟨rfl, rfl⟩ := i0
        obtain ⟨R0, hR⟩ : ∃ R : VK, R = fun y G' => G' = G5 ∧ y = .str (S pad) := ⟨_, rfl⟩
        refine ⟨R0, ?_, fun y G' h => by rw [hR] at h; obtain ⟨rfl, h⟩ := h; exact ⟨Ex.refl _, h⟩⟩
        walk_at "rd"
        refine ⟨log1920 (by rw [Int.natAbs_natCast]; exact Nat.lt_of_lt_of_le (show n < 2 ^ 200 from Nat.lt_of_lt_of_le hn (by decide)) (Nat.pow_le_pow_right (by decide) (by decide))), ⟨_, rfl⟩, by decide, ?_⟩
        rw [num_S, show (60 : Int) = ((60 : Nat) : Int) by rfl, zfill_S (fun c hc => (num_range n c (List.mem_of_mem_head? hc)).1) l60, ← hpad, hR]
        exact ⟨rfl, rfl⟩
      · intro G5 ys e5 hy hly hr2
        have ey : ys = ([S pad] : List Str).map V.str := by
          match ys, hly with
          | [y], _ => rw [hr2 0 y rfl]; rfl
          | [], h => simp at h
          | _ :: _ :: _, h => simp at h
        rw [ey] at hy
        have eb : Str.ofString "" = S [] := by decide +kernel
        have e0' : Str.ofString "0" = S [48] := by decide +kernel
        refine ⟨_, Dd, [S pad], rfl, rfl, .inl (.of hy), by rw [eb, S_len]; simp [Str.length]; omega, ?_⟩
        rw [TL.join_eq]
        show (∃ a, V.str (S pad) = V.str a) ∧ _
        refine ⟨⟨_, rfl⟩, S pad, rfl, by rw [S_len]; omega, ?_⟩
        rw [e0', lstrip_S, hpad, drop_num]
        obtain ⟨R0, hR⟩ : ∃ R : VK, R = fun y G' => G' = G5 ∧ y = .str (numS n) := ⟨_, rfl⟩
        refine ⟨R0, ?_, fun y G' h => by rw [hR] at h; obtain ⟨rfl, rfl⟩ := h; exact k _ (e4.trans e5)⟩
        walk_at "rd"
        by_cases hn0 : n = 0
        · subst hn0
          rw [if_pos rfl]
          refine ⟨false, ⟨by rw [S_len]; simp, by rw [S_len]; rfl⟩, ?_⟩
          rw [if_neg (by decide), hR]
          exact ⟨rfl, by unfold numS; rw [num_zero]⟩
        · rw [if_neg hn0]
          refine ⟨true, ⟨by rw [S_len]; omega, by rw [S_len]; symm; simp; exact TL.numL_ne n⟩, ?_⟩
          rw [if_pos rfl, hR]
          exact ⟨rfl, rfl⟩
end

section
variable {P : Program} {w : World} {K : PySem.W.Frag} {mg : Str → Option Value} {base : Heap}
open SX
/-! ### the text of a row -/
def drawsL : List Nat := [100, 114, 97, 119, 115, 32]
def yesL : List Nat := [121, 101, 115, 32]
def firstL (d : Nat) : List Nat := drawsL ++ TL.numL d
def startL (k : Nat) : List Nat := yesL ++ TL.numL k ++ [32]
def lineL (k c : Nat) : List Nat := startL k ++ TL.numL c
def linesL (cs : List Nat) : List (List Nat) := (List.range cs.length).map fun k => lineL k (cs.getD k 0)
def pageP (cs : List Nat) : List (List Nat) := firstL (cs.length - 1) :: linesL cs
def pageL (cs : List Nat) : List Nat := TL.joinL [10] (pageP cs)
abbrev pageS (cs : List Nat) : Str := S (pageL cs)
def natsI (cs : List Int) : List Nat := cs.map Int.toNat
/-- a row whose counts have at most 31 figures -/
def RowSm (cs : List Int) : Prop := 2 ≤ cs.length ∧ cs.length ≤ 6 ∧ ∀ c ∈ cs, 0 ≤ c ∧ c < 10 ^ 31
theorem eE : Str.empty = S [] := rfl
theorem eYes : Str.ofString "yes " = S yesL := by decide +kernel
theorem eDraws : Str.ofString "draws " = S drawsL := by decide +kernel
theorem eSp : Str.ofString " " = S [32] := by decide +kernel
theorem eNl : Str.ofString "\n" = S [10] := by decide +kernel
theorem sum_len {L : List (List Nat)} {b : Nat} (h : ∀ l ∈ L, l.length ≤ b) : (L.map List.length).sum ≤ L.length * b := by
  induction L with
  | nil => simp
  | cons l L ih =>
    have := ih fun x hx => h x (List.mem_cons_of_mem _ hx)
    have := h l List.mem_cons_self
    simp only [List.map_cons, List.sum_cons, List.length_cons, Nat.succ_mul]
    omega
theorem page_len {cs : List Nat} {l : List Nat} (h : l ∈ pageP cs) (h6 : cs.length ≤ 6) (hc : ∀ c ∈ cs, c < 10 ^ 31) : l.length ≤ 100 := by
  unfold pageP linesL at h
  rcases List.mem_cons.mp h with rfl | h
  · have := TL.numL_len (n := cs.length - 1) (k := 1) (by decide) (by omega)
    simp [firstL, drawsL]
    omega
  · obtain ⟨k, hk, rfl⟩ := List.mem_map.mp h
    have hk := List.mem_range.mp hk
    have l1 := TL.numL_len (n := k) (k := 1) (by decide) (by omega)
    have l2 : (TL.numL (cs.getD k 0)).length ≤ 31 := num_len31 (by
      rw [List.getD_eq_getElem?_getD, List.getElem?_eq_getElem hk]
      exact hc _ (List.getElem_mem hk))
    simp only [lineL, startL, yesL, List.length_append, List.length_cons, List.length_nil]
    omega
def spText (K : PySem.W.Frag) (C : Addr) : Sp := fun vs H Q _ => ∃ (x : V) (ps : List Int), vs = [x] ∧ IsRow K C H x ps ∧ RowSm ps ∧ ∀ H', Ex H H' → Q (.str (pageS (natsI ps))) H'
theorem scText : FnScope ["self", "lines", "yes", "count"] ["self"] (defScope (inClass (top 18) 5)) := ⟨rfl, rfl, rfl, by decide +kernel, rfl, by decide +kernel, by decide +kernel⟩
theorem ok_text {C f : Addr} {fd : FuncData} (F : Fun K "text" "Row.text" (inClass (top 18) 5) f fd) (B : Bi mg) (RC : RowC K mg C) (RT : RowT P w K mg base C) (hwrite_decimal : Has P w K mg base "write_decimal" 1 ["number"] spWrite) : FnOk P w K mg base CX0 3 f fd ["self"] (spText K C) := by
  have sc := scText
  refine F.ok sc (fun vs H Q E h => ?_) (fun cdv A outer s H vs Q E hr h => ?_)
  · obtain ⟨x, ps, rfl, _⟩ := h
    rfl
  · obtain ⟨x, ps, rfl, hrow, hsm, k⟩ := h
    refine ⟨_, (pss_cons (ps_setLc (i := 1) (own := [("yes", 2), ("count", 3)]) (g := gTup K 2 (gCons (gName 2) (gCons (gName 3) gNil))) (tt := tYes) rfl sc.nd rfl rfl (sw_true rfl rfl rfl (by decide +kernel)) (pi_enumT (by rfl) B.enumerate (pa_cons (kFld (K := K) (pv 0) rfl) pa_nil)) (blkOk_by (N := (["self", "lines", "yes", "count"] : List Str)) (sc := defScope (inClass (top 18) 5)) (by decide +kernel)) (fun _ _ _ _ _ => (pg_tup rfl (pgs_cons (pg_name (i := 2) sc.nd rfl (by first | exact Or.inl rfl | exact Or.inr rfl)) (pgs_cons (pg_name (i := 3) sc.nd rfl (by first | exact Or.inl rfl | exact Or.inr rfl)) pgs_nil)))) (fun _ _ _ _ _ => pts_nil) (fun _ _ _ _ _ => (PE.mon (pe_joined (PJ.cons pe_str (PJ.cons (pe_fmt (pv 2)) (PJ.cons pe_str (PJ.cons (pe_fmt (pe_has hwrite_decimal (hr.mono (by decide)) (pa_cons (pv 3) pa_nil))) PJ.nil))))))))
      (pss_one (ps_ret (pe_m1 PySem.F.slot_str_join PySem.F.type_str_join (kJoin (K := K)) pe_str (pe_lstN (pa_cons (pe_joined (PJ.cons pe_str (PJ.cons (pe_fmt (kDraws RT (hr.mono (by decide)) (pv 0))) PJ.nil))) (kStar (K := K) (pv 1) pa_nil))))))), ?_⟩
    walk_at "rd"
    have hrow0 := hrow
    obtain ⟨a, dx, p, ex, hA, hS⟩ := hrow
    subst ex
    obtain ⟨l2, l6, sm⟩ := hsm
    have p60 : sizeLine = 16777216 := by rw [sizeLine_eq]
    refine ⟨a, rfl, _, _, _, hA, RC.cl, RC.nC, _, look_counts p, ?_⟩
    walk_at "rd"
    refine ⟨⟨_, hS⟩, fun Dd hD => ?_⟩
    refine lcE (fun i y _ => y = .str (S (lineL i ((natsI ps).getD i 0)))) (fun _ _ _ _ _ h => h) hD hS (by rw [List.length_map]; omega) (gm_tup (gm_cons gm_name (gm_cons gm_name gm_nil))) ?_ ?_
    · intro i v T H2 hv e2 hT
      obtain ⟨c, hc, rfl⟩ := map_int_get hv
      have hi := (List.getElem?_eq_some_iff.mp hc).1
      obtain ⟨c0, c31⟩ := sm c (List.mem_of_getElem? hc)
      obtain ⟨n, rfl⟩ : ∃ n : Nat, c = (n : Int) := ⟨c.toNat, by omega⟩
      have en : (natsI ps).getD i 0 = n := by
        unfold natsI
        rw [List.getD_eq_getElem?_getD, List.getElem?_map, hc]
        rfl
      have p31 : (10 ^ 31 : Int) = ((10 ^ 31 : Nat) : Int) := by decide
      have n31 : n < 10 ^ 31 := by omega
      have li := TL.numL_len (n := i) (k := 1) (by decide) (by omega)
      have ln := num_len31 n31
      rw [en]
      walk_at "rd"
      refine ⟨_, .of hT, rfl, ?_⟩
      walk_at "rd"
      obtain ⟨R1, hR1⟩ : ∃ R : VK, R = fun v H' => Ex H2 H' ∧ v = .str (S (lineL i n)) := ⟨_, rfl⟩
      refine ⟨R1, ?_, fun v H' h => by rw [hR1] at h; exact h⟩
      walk_at "rd"
      rw [eYes, eSp, eE, num_S]
      simp only [S_cat, List.nil_append, S_len]
      refine ⟨by simp [yesL]; omega, log1920 (by rw [Int.natAbs_natCast]; exact Nat.lt_of_lt_of_le (show i < 2 ^ 3 by omega) (Nat.pow_le_pow_right (by decide) (by decide))), by simp [yesL]; omega, by simp [yesL]; omega, ?_⟩
      refine ⟨n, rfl, Nat.lt_of_lt_of_le n31 (by decide), fun H3 e3 => ?_⟩
      have ec : S (yesL ++ TL.numL i ++ [32]) ++ numS n = S (lineL i n) := S_cat _ _
      have el : (S (lineL i n)).length ≤ 100 := by rw [S_len]; simp [lineL, startL, yesL]; omega
      refine .inl ⟨_, rfl, by rw [S_len]; omega, ?_⟩
      rw [ec]
      refine ⟨by omega, ?_⟩
      rw [hR1]
      exact ⟨e3, rfl⟩
    · intro H2 ys e2 hy hl hr2
      rw [List.length_map] at hl
      have ey : ys = (linesL (natsI ps)).map (fun l => V.str (S l)) := by
        apply List.ext_getElem?
        intro i
        have ln : (natsI ps).length = ps.length := by simp [natsI]
        by_cases hi : i < ys.length
        · rw [List.getElem?_eq_getElem hi, hr2 i _ (List.getElem?_eq_getElem hi)]
          unfold linesL
          rw [List.map_map, List.getElem?_map, List.getElem?_range (by omega)]
          rfl
        · rw [List.getElem?_eq_none (by omega), List.getElem?_eq_none (by simp [linesL]; omega)]
      have en : (natsI ps).length = ps.length := by simp [natsI]
      have ln1 := TL.numL_len (n := ps.length - 1) (k := 1) (by decide) (by omega)
      have el : (ps.length : Int) - 1 = ((ps.length - 1 : Nat) : Int) := by omega
      rw [eDraws, eNl, eE]
      refine ⟨⟨_, rfl⟩, by simp only [S_cat, S_len]; simp [drawsL]; omega, ps, hrow0.kp e2.kp, ?_⟩
      rw [el, num_S]
      have ef : S [] ++ S drawsL ++ S (TL.numL (ps.length - 1)) = S (firstL (ps.length - 1)) := by
        rw [S_cat, S_cat]
        rfl
      rw [ef]
      refine ⟨log1920 (by rw [Int.natAbs_natCast]; exact Nat.lt_of_lt_of_le (show ps.length - 1 < 2 ^ 3 by omega) (Nat.pow_le_pow_right (by decide) (by decide))), by rw [S_len]; simp [firstL, drawsL]; omega, ?_⟩
      rw [r_star]
      walk_at "rd"
      refine ⟨_, .inr (.of hy), ?_⟩
      rw [ey]
      refine ⟨by simp [linesL]; omega, fun q H3 n3 e3 t3 => ?_⟩
      have ep : (V.str (S (firstL (ps.length - 1))) :: ((linesL (natsI ps)).map (fun l => V.str (S l)) ++ [])) = ((pageP (natsI ps)).map S).map V.str := by
        unfold pageP
        rw [en]
        simp
      have lp : ∀ l ∈ pageP (natsI ps), l.length ≤ 100 := fun l hl => page_len hl (by omega) fun c hc => by
        obtain ⟨z, hz, rfl⟩ := List.mem_map.mp hc
        have := sm z hz
        have p31 : (10 ^ 31 : Int) = ((10 ^ 31 : Nat) : Int) := by decide
        omega
      refine ⟨_, q, (pageP (natsI ps)).map S, rfl, rfl, .inl (.of (by rw [t3]; exact congrArg (fun z => some (HO.lst z)) ep)), ?_, ?_⟩
      · have := sum_len lp
        have l7 : (pageP (natsI ps)).length ≤ 7 := by simp [pageP, linesL]; omega
        rw [lens, List.length_map, S_len]
        have e1 : ((pageP (natsI ps)).map fun x => x.length) = (pageP (natsI ps)).map List.length := rfl
        rw [e1]
        simp only [List.length_cons, List.length_nil]
        omega
      · rw [join_S]
        exact k _ (e2.trans e3)
def spLenR (K : PySem.W.Frag) (C : Addr) : Sp := fun vs H Q _ => ∃ (x : V) (ps : List Int), vs = [x] ∧ IsRow K C H x ps ∧ RowSm ps ∧ ∀ H', Ex H H' → Q (.int ((ps.length : Nat) - 1 : Int)) H'
theorem scLenR : FnScope ["self"] ["self"] (defScope (inClass (top 18) 8)) := ⟨rfl, rfl, rfl, by decide +kernel, rfl, by decide +kernel, by decide +kernel⟩
theorem ok_lenR {C f : Addr} {fd : FuncData} (F : Fun K "__len__" "Row.__len__" (inClass (top 18) 8) f fd) (B : Bi mg) (RC : RowC K mg C) : FnOk P w K mg base CX0 1 f fd ["self"] (spLenR K C) := by
  have sc := scLenR
  refine F.ok sc (fun vs H Q E h => ?_) (fun cdv A outer s H vs Q E hr h => ?_)
  · obtain ⟨x, ps, rfl, _⟩ := h
    rfl
  · obtain ⟨x, ps, rfl, hrow, hsm, k⟩ := h
    obtain ⟨a, dx, p, ex, hA, hS⟩ := hrow
    subst ex
    refine ⟨_, (pss_one (ps_ret (pe_callB (kLen (K := K)) (by rfl) B.len (by decide +kernel) (pa_cons (pe_slice (sl_tupAN (K := K)) (kFld (K := K) (pv 0) rfl) (po_some pe_int) po_none) pa_nil)))), ?_⟩
    walk_at "rd"
    refine ⟨_, _, _, hA, RC.cl, RC.nC, _, look_counts p, ?_⟩
    refine ⟨p, _, rfl, hS, fun q H' e hq => ?_⟩
    refine ⟨q, rfl, _, .inr hq, ?_⟩
    rw [show (1 : Int) = ((1 : Nat) : Int) from rfl, cut_drop, List.length_drop, List.length_map]
    have := k H' e
    obtain ⟨l2, l6, sm⟩ := hsm
    rw [show ((ps.length - 1 : Nat) : Int) = (ps.length : Int) - 1 by omega]
    exact this
def spReprR (K : PySem.W.Frag) (C : Addr) : Sp := fun vs H Q _ => ∃ (x : V) (ps : List Int), vs = [x] ∧ IsRow K C H x ps ∧ RowSm ps ∧ Q (.str (S ([82, 111, 119, 32, 111, 102, 32] ++ TL.numL (ps.length - 1) ++ [32, 100, 114, 97, 119, 115]))) H
theorem scReprR : FnScope ["self"] ["self"] (defScope (inClass (top 18) 10)) := ⟨rfl, rfl, rfl, by decide +kernel, rfl, by decide +kernel, by decide +kernel⟩
theorem ok_reprR {C f : Addr} {fd : FuncData} (F : Fun K "__repr__" "Row.__repr__" (inClass (top 18) 10) f fd) (RT : RowT P w K mg base C) : FnOk P w K mg base CX0 3 f fd ["self"] (spReprR K C) := by
  have sc := scReprR
  refine F.ok sc (fun vs H Q E h => ?_) (fun cdv A outer s H vs Q E hr h => ?_)
  · obtain ⟨x, ps, rfl, _⟩ := h
    rfl
  · obtain ⟨x, ps, rfl, hrow, hsm, k⟩ := h
    refine ⟨_, (pss_one (ps_ret (pe_joined (PJ.cons pe_str (PJ.cons (pe_fmt (kDraws RT (hr.mono (by decide)) (pv 0))) (PJ.cons pe_str PJ.nil)))))), ?_⟩
    walk_at "rd"
    obtain ⟨l2, l6, sm⟩ := hsm
    have p60 : sizeLine = 16777216 := by rw [sizeLine_eq]
    have el : (ps.length : Int) - 1 = ((ps.length - 1 : Nat) : Int) := by omega
    have eRow : Str.ofString "Row of " = S [82, 111, 119, 32, 111, 102, 32] := by decide +kernel
    have eDr : Str.ofString " draws" = S [32, 100, 114, 97, 119, 115] := by decide +kernel
    have ln := TL.numL_len (n := ps.length - 1) (k := 1) (by decide) (by omega)
    rw [eRow, eDr, eE]
    refine ⟨by simp only [S_cat, S_len]; simp; omega, ps, hrow, ?_⟩
    rw [el, num_S]
    simp only [S_cat, List.nil_append, S_len]
    exact ⟨log1920 (by rw [Int.natAbs_natCast]; exact Nat.lt_of_lt_of_le (show ps.length - 1 < 2 ^ 3 by omega) (Nat.pow_le_pow_right (by decide) (by decide))), by simp; omega, by simp; omega, k⟩
end

section
variable {P : Program} {w : World} {K : PySem.W.Frag} {mg : Str → Option Value} {base : Heap}
open SX
/-! ### rows by their own len, str, repr, bool, text -/
structure RowS (P : Program) (w : World) (K : PySem.W.Frag) (mg : Str → Option Value) (base : Heap) (C : Addr) : Prop where
  rc : RowC K mg C
  text : ∃ p g fd, PropOf K C "text" p g ∧ FnOk P w K mg base CX0 3 g fd ["self"] (spText K C) ∧ Binds K fd ["self"] []
  len : ∃ f fd, OwnSp K C "__len__" f ∧ FnOk P w K mg base CX0 1 f fd ["self"] (spLenR K C) ∧ Binds K fd ["self"] []
  repr : ∃ f fd, OwnSp K C "__repr__" f ∧ FnOk P w K mg base CX0 3 f fd ["self"] (spReprR K C) ∧ Binds K fd ["self"] []
  nob : NoSp K C "__bool__"
section
variable {X : Cx} {C : Addr} {e : Expr} {te : TE} {pos : Pos}
def tText (K : PySem.W.Frag) (C : Addr) (te : TE) : TE := fun σ H Q => te σ H fun x H1 => ∃ ps, IsRow K C H1 x ps ∧ RowSm ps ∧ ∀ H', Ex H1 H' → Q (.str (pageS (natsI ps))) H'
theorem pe_text (T : RowS X.prog X.w X.K X.mg X.base C) (hr : Room 4 X.A) (he : PE X e te) (hab : attributeBase e "text" X.env (eval e X.env) = eval e X.env := by rfl) : PE X (.Attribute e "text" pos) (tText X.K C te) := by
  obtain ⟨pr, g, fd, hp, F, hb⟩ := T.text
  have q := pe_prop (X := X) (pos := pos) (PE.mon he) T.rc.cl hp F hr hb .nil (pass0 (X := X.nox)) hab
  refine ⟨fun pins s σ H Q I hq => q.run pins s σ H Q I ⟨_, hq, ?_⟩⟩
  intro x H1 ⟨ps, hrow, hsm, k⟩
  obtain ⟨a, dx, qa, ex, hA, hS⟩ := id hrow
  exact ⟨a, dx, _, ex, hA, x, ps, by rw [ex], hrow, hsm, k⟩
/-- a call of a def of one argument from a built-in -/
theorem own_run {f a : Addr} {fd : FuncData} {k : Nat} {sp : Sp} {A : Around} {pins : List (Addr × Obj)} {s : Shared} {σ : L2.St} {H : Hp} {Q : VK} (F : FnOk X.prog X.w X.K X.mg X.base CX0 k f fd ["self"] sp) (hb : Binds X.K fd ["self"] []) (I : Inv X pins σ H s) (hr : Room k A) (he : Env0 X.prog X.w X.K X.mg X.base A X.stack s H) (rx : RelV (V.ref a) (Value.ref a)) (h : sp [.ref a] H Q E0)
    {QQ : Value → Shared → Prop} {EE : Value → Shared → Prop} (hk : ∀ u s', EP X pins σ Q u s' → QQ u s') : wpAny (model X.prog X.w) A (call (.ref f) [.ref a]) QQ EE s := by
  have bnd := hb s [.ref a] I.kIn rfl
  rw [List.append_nil] at bnd
  refine wpAny_call (codeAny_mono (F.run A X.stack s H ⟨[.ref a], []⟩ [.ref a] [.ref a] Q E0 hr he bnd (.cons rx .nil) h) fun res s' hq => ?_)
  cases res with
  | error er => exact (show False from hq).elim
  | ok fl =>
    cases fl with
    | next => exact hq.elim
    | brk => exact hq.elim
    | cont => exact hq.elim
    | ret z => exact hk _ _ (I.after hq)
def rLenRow (K : PySem.W.Frag) (C : Addr) : List V → Hp → VK → Prop := fun vs H Q => ∃ (x : V) (ps : List Int), vs = [x] ∧ IsRow K C H x ps ∧ RowSm ps ∧ ∀ H', Ex H H' → Q (.int ((ps.length : Nat) - 1 : Int)) H'
theorem cr_lenRow (T : RowS X.prog X.w X.K X.mg X.base C) (hr : Room 2 X.A) : CallR X (.builtin "len") (rLenRow X.K C) := by
  intro pins s σ H xs us Q I r h
  obtain ⟨x, ps, rfl, hrow, hsm, k⟩ := h
  obtain ⟨a, dx, p, rfl, hA, hS⟩ := id hrow
  obtain ⟨u, rfl, ru⟩ := vals1 r
  obtain rfl : u = Value.ref a := ru
  obtain ⟨f, fd, S, F, hb⟩ := T.len
  obtain ⟨mA, OA, _⟩ := ins_get I.hok hA
  have KI := I.kIn
  have J := I
  obtain ⟨hp, g, d, tk, os⟩ := s
  refine len_own (S.at KI OA.obj rfl obj_len) ?_
  refine own_run F hb J hr.in1 J.env0.in1 rfl (Q := fun v H' => v = .int ((ps.length : Nat) - 1 : Int) ∧ Ex H H') ⟨_, ps, rfl, hrow, hsm, fun H' e => ⟨rfl, e⟩⟩ fun z s' hz => ?_
  obtain ⟨v, H', I', rz, ez, eh⟩ := hz
  subst ez
  obtain ⟨tt, rfl⟩ := rz
  have := hsm.1
  have := hsm.2.1
  exact ⟨_, _, rfl, by omega, by omega, .int _, H', I'.tok _, ⟨_, rfl⟩, k H' eh⟩
def rReprRow (K : PySem.W.Frag) (C : Addr) : List V → Hp → VK → Prop := fun vs H Q => ∃ (x : V) (ps : List Int), vs = [x] ∧ IsRow K C H x ps ∧ RowSm ps ∧ Q (.str (S ([82, 111, 119, 32, 111, 102, 32] ++ TL.numL (ps.length - 1) ++ [32, 100, 114, 97, 119, 115]))) H
theorem cr_reprRow (T : RowS X.prog X.w X.K X.mg X.base C) (hr : Room 4 X.A) : CallR X (.builtin "repr") (rReprRow X.K C) := by
  intro pins s σ H xs us Q I r h
  obtain ⟨x, ps, rfl, hrow, hsm, k⟩ := h
  obtain ⟨a, dx, p, rfl, hA, hS⟩ := id hrow
  obtain ⟨u, rfl, ru⟩ := vals1 r
  obtain rfl : u = Value.ref a := ru
  obtain ⟨f, fd, S, F, hb⟩ := T.repr
  obtain ⟨mA, OA, _⟩ := ins_get I.hok hA
  have KI := I.kIn
  have J := I
  have hun := hr.un
  obtain ⟨hp, g, d, tk, os⟩ := s
  refine repr_own (S.at KI OA.obj rfl obj_repr) (by show X.A.units + 1 < cLine; omega) ?_
  refine own_run F hb J hr.in1 J.env0.in1 rfl (Q := fun v H' => v = _ ∧ H' = H) ⟨_, ps, rfl, hrow, hsm, rfl, rfl⟩ fun z s' hz => ?_
  obtain ⟨v, H', I', rz, ez, eh⟩ := hz
  subst ez eh
  obtain ⟨tt, rfl⟩ := rz
  exact ⟨_, _, rfl, .str _, _, I', ⟨_, rfl⟩, k⟩
def rBoolRow (K : PySem.W.Frag) (C : Addr) : List V → Hp → VK → Prop := fun vs H Q => ∃ (x : V) (ps : List Int), vs = [x] ∧ IsRow K C H x ps ∧ RowSm ps ∧ ∀ H', Ex H H' → Q (.bl true) H'
theorem cr_boolRow (T : RowS X.prog X.w X.K X.mg X.base C) (hr : Room 4 X.A) : CallR X (.type "bool") (rBoolRow X.K C) := by
  intro pins s σ H xs us Q I r h
  obtain ⟨x, ps, rfl, hrow, hsm, k⟩ := h
  obtain ⟨a, dx, p, rfl, hA, hS⟩ := id hrow
  obtain ⟨u, rfl, ru⟩ := vals1 r
  obtain rfl : u = Value.ref a := ru
  obtain ⟨f, fd, S, F, hb⟩ := T.len
  obtain ⟨mA, OA, _⟩ := ins_get I.hok hA
  have KI := I.kIn
  have J := I
  obtain ⟨hp, g, d, tk, os⟩ := s
  refine bool_own (truthy_ownlen T.nob KI OA.obj rfl (S.at KI OA.obj rfl obj_len) ?_)
  have h3 := hr.in1.in1.in1
  refine own_run F hb J h3 J.env0.in1.in1.in1 rfl (Q := fun v H' => v = .int ((ps.length : Nat) - 1 : Int) ∧ Ex H H') ⟨_, ps, rfl, hrow, hsm, fun H' e => ⟨rfl, e⟩⟩ fun z s' hz => ?_
  obtain ⟨v, H', I', rz, ez, eh⟩ := hz
  subst ez
  obtain ⟨tt, rfl⟩ := rz
  have h2 := hsm.1
  have h6 := hsm.2.1
  have nz : (((ps.length : Nat) - 1 : Int) != 0) = true := by
    simp
    omega
  exact ⟨_, _, rfl, by omega, by omega, by rw [nz]; exact ⟨.bl true, H', I'.tok _, rfl, k H' eh⟩⟩
end
section
variable {X : Cx}
/-- a local name that holds the class, called -/
def tRowV (K : PySem.W.Frag) (C : Addr) (i : Nat) (t : TA) : TE := fun σ H Q => σ[i]? = some (some (.ref C)) ∧ tRow K C t σ H Q
theorem pe_rowV {C : Addr} {e : Expr} {es : List Expr} {t : TA} {p pos : Pos} {x : Str} {i : Nat} (T : RowT X.prog X.w X.K X.mg X.base C) (hr : Room 4 X.A) (ha : PA X (e :: es) t) (hN : X.N[i]? = some x) (hv : Vis X.env.scope x) (hd : (x == ("__debug__" : Str)) = false := by decide) (hcd : (x == ("__classdict__" : Str)) = false := by decide)
    (he : starEach (e :: es) X.env = (false, eval e X.env) :: starEach es X.env := by rfl) (hpl : (backTo pos (starEach es X.env)).any (·.1) = false := by rfl) :
    PE X (.Call (.Name x p) (e :: es) [] pos) (tRowV X.K C i t) := by
  obtain ⟨f, fd, M, F, hb⟩ := T.init
  refine ⟨fun pins s σ H Q I h => ?_⟩
  obtain ⟨h0, h⟩ := h
  refine wpAny_Call_Name_kw (thn ((pe_var (pos := p) hN hv hd hcd).run pins s σ H (fun v H1 => v = .ref C ∧ H1 = H) I ⟨.ref C, h0, rfl, rfl⟩) fun u s1 ⟨v, H1, I1, r1, q1⟩ => ?_)
  obtain ⟨rfl, rfl⟩ := q1
  obtain rfl : u = Value.ref C := r1
  have ha' := PA.mon ha
  refine PySem.W.callWith_K (h₀ := X.base) I1.ok.mod.kin M.kp (thn (ha'.run pos pins s1 σ H1 (fun vs H2 => ∃ (y : V) (cs : List Int), vs = [y] ∧ IsInts X.K H2 y cs ∧ RowOk cs ∧ ∀ x H3, Ex H2 H3 → IsRow X.K C H3 x (plainL cs) → Q x H3) I1 ⟨_, h, fun _ _ z => z⟩) fun us s2 ⟨vs, H2, I2, r2, q2⟩ => ⟨I2.kIn, ?_⟩) he hpl
  obtain ⟨y, cs, ev, ⟨qa, ey, hS⟩, ok, k⟩ := q2
  subst ev ey
  refine run_make M F hr hb .nil (pass0 (X := X)) I2 r2 ?_
  intro x dx nx ndx nex
  have e1 : Ex H2 (upd (upd H2 dx (.own x)) x (.ins C dx [])) := fun b o h => by
    rw [upd_ne (ne_of_none h nx), upd_ne (ne_of_none h ndx)]
    exact h
  refine ⟨x, dx, qa, cs, rfl, upd_same, sqT_kp hS e1.kp, ok, fun H3 keep hrow => ⟨rfl, k _ _ (fun b o h => ?_) hrow⟩⟩
  exact keep b o (ne_of_none h nx) (e1 b o h)
def rStrS : List V → Hp → VK → Prop := fun vs H Q => ∃ y : Str, vs = [.str y] ∧ Q (.str y) H
theorem cr_strS : CallR X (.type "str") rStrS := by
  intro pins s σ H xs us Q I r h
  obtain ⟨y, rfl, q⟩ := h
  obtain ⟨u, rfl, t, rfl⟩ := vals1 r
  exact PySem.P.str_of_str ⟨.str _, H, I, ⟨_, rfl⟩, q⟩
end
section
variable {X : Cx} {C : Addr} {e : Expr} {te : TE} {pos : Pos}
theorem kRowV {es : List Expr} {t : TA} {p : Pos} {x : Str} {i : Nat} (T : RowT P w K mg base C) (hr : Room 4 X.A) (ha : PA X (e :: es) t) (hN : X.N[i]? = some x) (hv : Vis X.env.scope x) (hx : At X P w K mg base := by exact ⟨rfl, rfl, rfl, rfl, rfl⟩) (hd : (x == ("__debug__" : Str)) = false := by decide) (hcd : (x == ("__classdict__" : Str)) = false := by decide)
    (he : starEach (e :: es) X.env = (false, eval e X.env) :: starEach es X.env := by rfl) (hpl : (backTo pos (starEach es X.env)).any (·.1) = false := by rfl) :
    PE X (.Call (.Name x p) (e :: es) [] pos) (tRowV K C i t) := by
  obtain ⟨h1, h2, h3, h4, h5⟩ := hx
  subst h1 h2 h3 h4 h5
  exact pe_rowV T hr ha hN hv hd hcd he hpl
theorem r_rowV {i : Nat} {t : TA} {σ : L2.St} {H : Hp} {Q : VK} : tRowV K C i t σ H Q = (σ[i]? = some (some (.ref C)) ∧ tRow K C t σ H Q) := rfl
theorem kText (T : RowS P w K mg base C) (hr : Room 4 X.A) (he : PE X e te) (hx : At X P w K mg base := by exact ⟨rfl, rfl, rfl, rfl, rfl⟩) (hab : attributeBase e "text" X.env (eval e X.env) = eval e X.env := by rfl) : PE X (.Attribute e "text" pos) (tText K C te) := by
  obtain ⟨h1, h2, h3, h4, h5⟩ := hx
  subst h1 h2 h3 h4 h5
  exact pe_text T hr he hab
theorem kLenRow (T : RowS P w K mg base C) (hr : Room 2 X.A) (hx : At X P w K mg base := by exact ⟨rfl, rfl, rfl, rfl, rfl⟩) : CallR X (.builtin "len") (rLenRow K C) := by
  obtain ⟨h1, h2, h3, h4, h5⟩ := hx
  subst h1 h2 h3 h4 h5
  exact cr_lenRow T hr
theorem kReprRow (T : RowS P w K mg base C) (hr : Room 4 X.A) (hx : At X P w K mg base := by exact ⟨rfl, rfl, rfl, rfl, rfl⟩) : CallR X (.builtin "repr") (rReprRow K C) := by
  obtain ⟨h1, h2, h3, h4, h5⟩ := hx
  subst h1 h2 h3 h4 h5
  exact cr_reprRow T hr
theorem kBoolRow (T : RowS P w K mg base C) (hr : Room 4 X.A) (hx : At X P w K mg base := by exact ⟨rfl, rfl, rfl, rfl, rfl⟩) : CallR X (.type "bool") (rBoolRow K C) := by
  obtain ⟨h1, h2, h3, h4, h5⟩ := hx
  subst h1 h2 h3 h4 h5
  exact cr_boolRow T hr
theorem r_text {te : TE} {σ : L2.St} {H : Hp} {Q : VK} : tText K C te σ H Q = te σ H fun x H1 => ∃ ps, IsRow K C H1 x ps ∧ RowSm ps ∧ ∀ H', Ex H1 H' → Q (.str (pageS (natsI ps))) H' := rfl
end
end

local macro_rules | `(tactic| walk_at "rd") => `(tactic| try simp only [r_seq, r_asg, r_name, r_ifS, r_next, r_ret, r_retN, r_drop, r_test, r_B, r_if, r_cons, r_nil, r_cb, r_tF, r_part, r_nopart, r_sl, r_par, r_chain, r_or, r_and, r_not, r_orV, r_andV, r_notV, r_op, r_un, r_var, r_c, r_yes, r_I0, r_I, r_U, r_eqI, r_neI, r_eqS, r_neS, r_lst, r_tup, r_for, r_lc, r_list, r_tupI, r_rng1, r_rng2, r_enumT, r_bm, r_fld, r_subT, r_gtup, r_gcons, r_gnil, r_K0, r_K, r_Kb, r_Kbb, wipe, r_never, not_true_eq_false, not_false_eq_true, Int.zero_add, r_counts, r_draws, r_rates, r_row, r_len, r_sfld, r_zipB, r_revT, r_tW, r_seqI, r_m0, r_m1, r_js0, r_js, r_fmt, r_revN, r_rng3, r_enumL, r_text, r_rowV,
  L2.start, List.map_cons, List.map_nil, List.length_cons, List.length_nil, Nat.reduceAdd, Nat.reduceSub, List.reduceReplicate, List.cons_append, List.nil_append, List.set_cons_zero, List.set_cons_succ, List.getElem?_cons_zero, List.getElem?_cons_succ, Option.some.injEq, exists_eq_left', exists_eq_left, exists_eq_right, exists_eq_right', V.int.injEq, V.ref.injEq, V.bl.injEq, V.str.injEq, List.cons.injEq, and_true, true_and, and_false, false_and, or_false, false_or, exists_false, exists_const, and_assoc, reduceCtorEq, if_true, if_false, Bool.false_eq_true, Bool.not_true, Bool.not_false, Bool.not_eq_true', decide_eq_true_eq, decide_eq_false_iff_not, exists_and_left, exists_and_right, exists_eq_or_imp])
section
variable {P : Program} {w : World} {K : PySem.W.Frag} {mg : Str → Option Value} {base : Heap}
open SX
/-! ### _told_counts -/
def PageOk (cs : List Nat) : Prop := 2 ≤ cs.length ∧ cs.length ≤ 6 ∧ (∀ c ∈ cs, c < 10 ^ 31) ∧ ∃ c ∈ cs, 0 < c
theorem page_free {cs : List Nat} : ∀ l ∈ pageP cs, 10 ∉ l := by
  intro l hl
  have nf : ∀ n, 10 ∉ TL.numL n := fun n => TL.numL_free (by decide)
  unfold pageP linesL at hl
  rcases List.mem_cons.mp hl with rfl | h
  · simp [firstL, drawsL, nf]
  · obtain ⟨k, hk, rfl⟩ := List.mem_map.mp h
    simp [lineL, startL, yesL, nf]
theorem join_len {L : List (List Nat)} {b : Nat} (h : ∀ l ∈ L, l.length ≤ b) : (TL.joinL [10] L).length ≤ L.length * (b + 1) := by
  induction L with
  | nil => simp [TL.joinL]
  | cons l L ih =>
    have i := ih fun x hx => h x (List.mem_cons_of_mem _ hx)
    have hl := h l List.mem_cons_self
    cases L with
    | nil =>
      simp only [TL.joinL, List.length_cons, List.length_nil]
      omega
    | cons l2 L =>
      simp only [TL.joinL, List.length_append, List.length_cons, List.length_nil, Nat.succ_mul] at i ⊢
      omega
def spTold (K : PySem.W.Frag) : Sp := fun vs H Q _ => ∃ cs : List Nat, vs = [.str (pageS cs)] ∧ PageOk cs ∧ ∀ x H', Ex H H' → IsInts K H' x (cs.map fun c : Nat => (c : Int)) → Q x H'
theorem scTold : FnScope ["text", "lines", "draws", "counts", "yes", "line", "start", "word"] ["text"] (defScope (top 20)) := ⟨rfl, rfl, rfl, by decide +kernel, rfl, by decide +kernel, by decide +kernel⟩
theorem has_told {t : Tok} (B : Bi mg) (c_MOST_DRAWS : mg "MOST_DRAWS" = some (.int 5 t)) (his_decimal : Has P w K mg base "is_decimal" 1 ["word"] spDec) (hread_decimal : Has P w K mg base "read_decimal" 1 ["word"] spRead) (D : Df K mg "_told_counts" (top 20) ["text"]) : Has P w K mg base "_told_counts" 2 ["text"] (spTold K) := by
  have sc := scTold
  refine .of D fun f fd F => F.ok sc (fun vs H Q E h => ?_) (fun cdv A outer s H vs Q E hr h => ?_)
  · obtain ⟨cs, rfl, _⟩ := h
    rfl
  · obtain ⟨cs, rfl, ⟨l2, l6, l31, ⟨c1, hc1, pc1⟩⟩, k⟩ := h
    refine ⟨_, (pss_cons (ps_if (pt_not (pt_val (pe_callB (kIsi (K := K)) (by rfl) B.isinstance (by decide +kernel) (pa_cons (pv 0) (pa_cons (pe_bltn (v := .ty "str") (by rfl) B.str (by decide +kernel) rfl) pa_nil))))) (pss_one (ps_ret pe_non)) pss_nil)
      (pss_cons (ps_set (i := 1) sc.nd rfl (by first | exact Or.inl rfl | exact Or.inr rfl) (pe_m1 PySem.F.slot_str_split PySem.F.type_str_split mt_split (pv 0) pe_str))
      (pss_cons (ps_set (i := 2) sc.nd rfl (by first | exact Or.inl rfl | exact Or.inr rfl) (pe_op op_sub (pe_callB (kLen (K := K)) (by rfl) B.len (by decide +kernel) (pa_cons (pv 1) pa_nil)) pe_int))
      (pss_cons (ps_if (PW.pt (pw_or (pt_cmpR op_lt (pv 2) pe_int (nomark _)) (pw_or (pt_cmpR op_gt (pv 2) (pe_glob (v := .int 5) rfl c_MOST_DRAWS ⟨_, rfl⟩) (nomark _)) (pw_or1 (pt_cmpR op_ne (pe_ix (ixL (K := K)) (pv 1) pe_int (fun _ _ => rfl)) (pe_joined (PJ.cons pe_str (PJ.cons (pe_fmt (pv 2)) PJ.nil))) (nomark _)))))) (pss_one (ps_ret pe_non)) pss_nil)
      (pss_cons (ps_set (i := 3) sc.nd rfl (by first | exact Or.inl rfl | exact Or.inr rfl) (pe_lstN pa_nil))
      (pss_cons (ps_for PassesOwn.never rfl (pi_enum (by rfl) B.enumerate (pa_cons (pe_slice (slL (K := K)) (pv 1) (po_some pe_int) po_none) pa_nil)) (pg_tup rfl (pgs_cons (pg_name (i := 4) sc.nd rfl (by first | exact Or.inl rfl | exact Or.inr rfl)) (pgs_cons (pg_name (i := 5) sc.nd rfl (by first | exact Or.inl rfl | exact Or.inr rfl)) pgs_nil)))
      (pss_cons (ps_set (i := 6) sc.nd rfl (by first | exact Or.inl rfl | exact Or.inr rfl) (pe_joined (PJ.cons pe_str (PJ.cons (pe_fmt (pv 4)) (PJ.cons pe_str PJ.nil)))))
      (pss_cons (ps_set (i := 7) sc.nd rfl (by first | exact Or.inl rfl | exact Or.inr rfl) (pe_slice C8.sl_txt (pv 5) (po_some (pe_callB call_len_str (by rfl) B.len (by decide +kernel) (pa_cons (pv 6) pa_nil))) po_none))
      (pss_cons (ps_if (PW.pt (pw_or (pt_not (pt_truth (pe_m1 PySem.F.slot_str_startswith PySem.F.type_str_startswith mt_startswith (pv 5) (pv 6)) (by intro _; rfl))) (pw_or1 (pt_not (pt_val (pe_has his_decimal (hr.mono (by decide)) (pa_cons (pv 7) pa_nil))))))) (pss_one (ps_ret pe_non)) pss_nil)
      (pss_one (ps_expr (pe_bm PySem.F.plainAttrs_list PySem.F.slot_list_append PySem.F.type_list_append mt_append (pv 3) (pa_cons (pe_has hread_decimal (hr.mono (by decide)) (pa_cons (pv 7) pa_nil)) pa_nil))))))))
      (pss_one (ps_ret (PE.mon (pe_ifExp (pt_cmpR op_gt (pe_callB (kMax (K := K) rfl) (by rfl) B.max (by decide +kernel) (pa_cons (pv 3) pa_nil)) pe_int (nomark _)) (pe_callTy (kTuple (K := K)) (by rfl) B.tuple (by decide +kernel) (pa_cons (pv 3) pa_nil)) pe_non)))))))))), ?_⟩
    walk_at "rd"
    have p60 : sizeLine = 16777216 := by rw [sizeLine_eq]
    have lp : ∀ l ∈ pageP cs, l.length ≤ 100 := fun l hl => page_len hl l6 l31
    have lpp : (pageP cs).length = cs.length + 1 := by simp [pageP, linesL]
    have free : ∀ l ∈ pageP cs, 10 ∉ l := page_free
    refine ⟨_, _, _, _, true, rfl, .ty "str", .base (.str _), kit_ty (by decide +kernel), ?_⟩
    refine ⟨true, rfl, ?_⟩
    rw [if_neg (by decide), eNl]
    have lpage : (pageL cs).length ≤ 800 := by
      have := join_len lp
      have : (pageP cs).length * 101 ≤ 7 * 101 := Nat.mul_le_mul_right _ (by omega)
      unfold pageL
      omega
    refine ⟨⟨_, rfl⟩, by decide, by rw [S_len]; omega, ?_⟩
    rw [split_S (by decide) (by decide)]
    have esp : TL.spl [10] 0 [] (pageL cs) = pageP cs := TL.spl_join (by simp [pageP]) free
    rw [esp]
    intro Ls hLs
    have e1 : Ex H (upd H Ls (.lst (((pageP cs).map S).map V.str))) := Ex.new hLs
    have t1 : (upd H Ls (.lst (((pageP cs).map S).map V.str))) Ls = some (.lst (((pageP cs).map S).map V.str)) := upd_same
    generalize upd H Ls (.lst (((pageP cs).map S).map V.str)) = G1 at e1 t1
    refine ⟨Ls, rfl, _, .inl (.of t1), ?_⟩
    rw [List.length_map, List.length_map, lpp]
    have ed : ((cs.length + 1 : Nat) : Int) - 2 = ((cs.length - 1 : Nat) : Int) := by omega
    rw [ed, if_neg (by omega), if_neg (by omega)]
    have ln1 := TL.numL_len (n := cs.length - 1) (k := 1) (by decide) (by omega)
    have g0 : atI (((pageP cs).map S).map V.str) 0 = some (.str (S (firstL (cs.length - 1)))) := by
      rw [show (((pageP cs).map S).map V.str) = V.str (S (firstL (cs.length - 1))) :: ((linesL cs).map S).map V.str from rfl]
      unfold atI
      simp
      rw [show ixN ((linesL cs).length + 1) 0 = some 0 by unfold ixN; simp]
      rfl
    refine q_ixL (.of t1) g0 ?_
    rw [eDraws, eE, num_S]
    have ef : S [] ++ S drawsL ++ S (TL.numL (cs.length - 1)) = S (firstL (cs.length - 1)) := by
      rw [S_cat, S_cat]
      rfl
    rw [ef]
    refine ⟨by rw [S_cat, S_len]; simp [drawsL]; omega, log1920 (by rw [Int.natAbs_natCast]; exact Nat.lt_of_lt_of_le (show cs.length - 1 < 2 ^ 3 by omega) (Nat.pow_le_pow_right (by decide) (by decide))), by rw [S_len]; simp [firstL, drawsL]; omega, ?_⟩
    refine ⟨rfl, _, rfl, ?_⟩
    rw [show (!decide (V.str (S (firstL (cs.length - 1))) = V.str (S (firstL (cs.length - 1))))) = false by simp, if_neg (by decide)]
    refine ⟨by omega, fun Cn G2 n2 e2 t2 => ?_⟩
    walk_at "rd"
    have t1' := e2 _ _ t1
    refine ⟨Ls, _, rfl, .of t1', fun Ds G3 n3 e3 t3 => ?_⟩
    rw [show (1 : Int) = ((1 : Nat) : Int) from rfl, cut_drop, show (((pageP cs).map S).map V.str).drop 1 = ((linesL cs).map S).map V.str from rfl] at t3
    have t2' := e3 _ _ t2
    have e03 := (e1.trans e2).trans e3
    have fresh : H Cn = none := by
      cases z : H Cn with
      | none => rfl
      | some o => rw [e1 _ _ z] at n2; cases n2
    refine ⟨Ds, rfl, ⟨_, .of t3⟩, ?_⟩
    have dc : Ds ≠ Cn := fun z => by
      rw [z] at n3
      rw [t2] at n3
      cases n3
    obtain ⟨Pv, hP⟩ : ∃ P : Nat → L2.St → Hp → Prop, P = fun i σ' G => Ex H G ∧ G Ds = some (.lst (((linesL cs).map S).map V.str)) ∧ G Cn = some (.lst (((cs.take i).map fun c : Nat => (c : Int)).map V.int)) ∧ ∃ z4 z5 z6 z7 : Option V, σ' = [some (.str (pageS cs)), some (.ref Ls), some (.int ((cs.length - 1 : Nat) : Int)), some (.ref Cn), z4, z5, z6, z7] := ⟨_, rfl⟩
    have ll : (linesL cs).length = cs.length := by simp [linesL]
    refine loopEl (xs := ((linesL cs).map S).map V.str) Pv (by rw [hP]; exact ⟨e03, t3, by rw [t2']; rfl, _, _, _, _, rfl⟩) (fun i σ' G _ h => by rw [hP] at h; exact .of h.2.1) ?_ ?_
    · intro i x σ' G T G4 hx h e4 hT
      rw [hP] at h
      obtain ⟨eG, hDs, hCn, z4, z5, z6, z7, rfl⟩ := h
      have hi : i < cs.length := by
        have := (List.getElem?_eq_some_iff.mp hx).1
        simpa [ll] using this
      have hc := List.getElem?_eq_getElem hi
      have ex : x = .str (S (lineL i cs[i])) := by
        rw [List.getElem?_map, List.getElem?_map] at hx
        unfold linesL at hx
        rw [List.getElem?_map, List.getElem?_range hi] at hx
        have eg : cs.getD i 0 = cs[i] := by rw [List.getD_eq_getElem?_getD, hc]; rfl
        have h2 : some (V.str (S (lineL i (cs.getD i 0)))) = some x := hx
        rw [eg] at h2
        exact (Option.some.inj h2).symm
      subst ex
      have n31 := l31 cs[i] (List.getElem_mem hi)
      have li := TL.numL_len (n := i) (k := 1) (by decide) (by omega)
      have ln := num_len31 n31
      walk_at "rd"
      refine ⟨_, .of hT, rfl, ?_⟩
      walk_at "rd"
      rw [eYes, eSp, num_S]
      have es : S [] ++ S yesL ++ S (TL.numL i) ++ S [32] = S (startL i) := by
        rw [S_cat, S_cat, S_cat]
        rfl
      rw [es]
      have lsi : (startL i).length ≤ 6 := by simp only [startL, yesL, List.length_append, List.length_cons, List.length_nil]; omega
      have lli : (lineL i cs[i]).length ≤ 100 := by simp only [lineL, List.length_append]; omega
      refine ⟨by rw [S_cat, S_len]; simp [yesL]; omega, log1920 (by rw [Int.natAbs_natCast]; exact Nat.lt_of_lt_of_le (show i < 2 ^ 3 by omega) (Nat.pow_le_pow_right (by decide) (by decide))), by rw [S_cat, S_cat, S_len]; simp [yesL]; omega, by rw [S_len]; omega, by rw [S_len]; omega, ?_⟩
      refine ⟨_, rfl, by rw [S_len]; omega, ?_⟩
      have esl : Txt.slice (S (lineL i cs[i])) (some ((S (startL i)).length : Int)) none = numS cs[i] := from_app (startL i) (TL.numL cs[i]) (by rw [S_len])
      rw [esl]
      have est : Txt.startswith (S (lineL i cs[i])) (S (startL i)) = true := by
        rw [start_S]
        simp [lineL]
      rw [est]
      refine ⟨⟨_, rfl⟩, true, rfl, ?_⟩
      rw [if_neg (by decide)]
      refine ⟨_, rfl, Nat.lt_of_lt_of_le n31 (by decide), true, rfl, ?_⟩
      rw [if_neg (by decide)]
      have hCn4 := e4 _ _ hCn
      refine ⟨.inl ⟨rfl, _, .of hCn4⟩, ?_⟩
      refine ⟨_, rfl, Nat.lt_of_lt_of_le n31 (by decide), fun G5 e5 => ?_⟩
      have hCn5 := e5 _ _ hCn4
      refine ⟨Cn, _, _, rfl, rfl, hCn5, Nat.lt_of_lt_of_le (show _ < 1000 by simp; omega) (by decide), ?_⟩
      rw [hP]
      refine ⟨fun b o hb => ?_, ?_, ?_, _, _, _, _, rfl⟩
      · rw [upd_ne (ne_of_none hb fresh)]
        exact e5 _ _ (e4 _ _ (eG _ _ hb))
      · rw [upd_ne dc]
        exact e5 _ _ (e4 _ _ hDs)
      · rw [upd_same, List.take_add_one, hc, List.map_append, List.map_append]
        rfl
    · intro σ' G h
      rw [hP] at h
      obtain ⟨eG, hDs, hCn, z4, z5, z6, z7, rfl⟩ := h
      rw [List.length_map, List.length_map, ll, List.take_length] at hCn
      walk_at "rd"
      obtain ⟨R0, hR⟩ : ∃ R : VK, R = fun y G' => Ex G G' ∧ IsInts K G' y (cs.map fun c : Nat => (c : Int)) := ⟨_, rfl⟩
      refine ⟨R0, ?_, fun y G' h => by rw [hR] at h; exact k _ _ (eG.trans h.1) h.2⟩
      walk_at "rd"
      refine ⟨Cn, _, rfl, .of hCn, by simp; omega, fun m hm hmx => ?_⟩
      have m0 : 0 < m := by
        have := hmx (c1 : Int) (List.mem_map.mpr ⟨c1, hc1, rfl⟩)
        omega
      walk_at "rd"
      rw [if_pos m0]
      refine ⟨Cn, _, rfl, .of hCn, fun T5 G5 n5 e5 t5 => ?_⟩
      rw [hR]
      exact ⟨e5, T5, rfl, .of t5⟩
/-! ### Row.__str__, Row.read -/
theorem page_rowok {cs : List Nat} (h : PageOk cs) : RowOk (cs.map fun c : Nat => (c : Int)) := by
  obtain ⟨l2, l6, l31, ⟨c1, hc1, pc1⟩⟩ := h
  have hm : (c1 : Int) ∈ cs.map fun c : Nat => (c : Int) := List.mem_map.mpr ⟨c1, hc1, rfl⟩
  refine ⟨by simpa using l2, by simpa using l6, fun c hc => ?_, gcdL_pos ⟨_, hm, by omega⟩, ?_⟩
  · obtain ⟨n, _, rfl⟩ := List.mem_map.mp hc
    omega
  · have h1 := gcdL_le hm (by omega)
    have h2 := l31 c1 hc1
    exact Nat.lt_of_lt_of_le (show gcdL _ < 10 ^ 31 by omega) (Nat.le_trans (show 10 ^ 31 ≤ 2 ^ 110 by decide) (Nat.pow_le_pow_right (by decide) (by decide)))
def spStrR (K : PySem.W.Frag) (C : Addr) : Sp := fun vs H Q _ => ∃ (x : V) (ps : List Int), vs = [x] ∧ IsRow K C H x ps ∧ RowSm ps ∧ ∀ H', Ex H H' → Q (.str (pageS (natsI ps))) H'
theorem scStrR : FnScope ["self"] ["self"] (defScope (inClass (top 18) 9)) := ⟨rfl, rfl, rfl, by decide +kernel, rfl, by decide +kernel, by decide +kernel⟩
theorem ok_strR {C f : Addr} {fd : FuncData} (F : Fun K "__str__" "Row.__str__" (inClass (top 18) 9) f fd) (B : Bi mg) (RS : RowS P w K mg base C) : FnOk P w K mg base CX0 5 f fd ["self"] (spStrR K C) := by
  have sc := scStrR
  refine F.ok sc (fun vs H Q E h => ?_) (fun cdv A outer s H vs Q E hr h => ?_)
  · obtain ⟨x, ps, rfl, _⟩ := h
    rfl
  · obtain ⟨x, ps, rfl, hrow, hsm, k⟩ := h
    refine ⟨_, (pss_one (ps_ret (pe_callTy cr_strS (by rfl) B.str (by decide +kernel) (pa_cons (kText RS (hr.mono (by decide)) (pv 0)) pa_nil)))), ?_⟩
    walk_at "rd"
    exact ⟨ps, hrow, hsm, fun H' e => ⟨_, rfl, k H' e⟩⟩
def spReadR (K : PySem.W.Frag) (C : Addr) : Sp := fun vs H Q _ => ∃ cs : List Nat, vs = [.ref C, .str (pageS cs)] ∧ PageOk cs ∧ ∀ x H', Ex H H' → IsRow K C H' x (plainL (cs.map fun c : Nat => (c : Int))) → Q x H'
theorem scReadR : FnScope ["cls", "text", "counts"] ["cls", "text"] (defScope (inClass (top 18) 1)) := ⟨rfl, rfl, rfl, by decide +kernel, rfl, by decide +kernel, by decide +kernel⟩
theorem ok_readR {C f : Addr} {fd : FuncData} (F : Fun K "read" "Row.read" (inClass (top 18) 1) f fd) (B : Bi mg) (RT : RowT P w K mg base C) (h_told_counts : Has P w K mg base "_told_counts" 2 ["text"] (spTold K)) : FnOk P w K mg base CX0 5 f fd ["cls", "text"] (spReadR K C) := by
  have sc := scReadR
  refine F.ok sc (fun vs H Q E h => ?_) (fun cdv A outer s H vs Q E hr h => ?_)
  · obtain ⟨cs, rfl, _⟩ := h
    rfl
  · obtain ⟨cs, rfl, hok, k⟩ := h
    refine ⟨_, (pss_cons (ps_set (i := 2) sc.nd rfl (by first | exact Or.inl rfl | exact Or.inr rfl) (pe_has h_told_counts (hr.mono (by decide)) (pa_cons (pv 1) pa_nil)))
      (pss_cons (ps_if (pt_cmpR op_isN (pv 2) pe_non (nomark _)) (pss_one ps_never) pss_nil)
      (pss_one (ps_ret (kRowV (i := 0) RT (hr.mono (by decide)) (pa_cons (pv 2) pa_nil) rfl (by first | exact Or.inl rfl | exact Or.inr (Or.inl rfl) | exact Or.inr (Or.inr rfl))))))), ?_⟩
    walk_at "rd"
    refine ⟨cs, rfl, hok, fun x H1 e hx => ?_⟩
    obtain ⟨q, rfl, hq⟩ := id hx
    show if V.ref q = V.non then False else _
    rw [if_neg (by simp)]
    exact ⟨_, hx, page_rowok hok, fun x H2 e2 hr2 => k x H2 (e.trans e2) hr2⟩
end

section
variable {P : Program} {w : World} {K : PySem.W.Frag} {mg : Str → Option Value} {base : Heap}
open SX
/-! ### the rules of rows that are read, made by name, shown -/
structure RowR (P : Program) (w : World) (K : PySem.W.Frag) (mg : Str → Option Value) (base : Heap) (C : Addr) : Prop where
  rt : RowT P w K mg base C
  str : ∃ f fd, OwnSp K C "__str__" f ∧ FnOk P w K mg base CX0 5 f fd ["self"] (spStrR K C) ∧ Binds K fd ["self"] []
  read : ∃ mc p g fd, ClX.CRead K C mc ∧ ClX.CMet K C mc "read" p g ∧ FnOk P w K mg base CX0 5 g fd ["cls", "text"] (spReadR K C) ∧ Binds K fd ["cls", "text"] [] ∧ ∀ (s : Shared) (c v : Value), BindsTo s fd ⟨[c], [("text", v)]⟩ [("cls", c), ("text", v)]
  initW : ∃ f fd, Mk K C f ∧ FnOk P w K mg base CX0 3 f fd ["self", "counts"] (spInit K C) ∧ ∀ (s : Shared) (c v : Value), BindsTo s fd ⟨[c], [("counts", v)]⟩ [("self", c), ("counts", v)]
section
variable {X : Cx} {C : Addr} {e : Expr} {es : List Expr} {te : TE} {t : TA} {p pos apos : Pos} {kws : List Keyword}
def rStrRow (K : PySem.W.Frag) (C : Addr) : List V → Hp → VK → Prop := fun vs H Q => ∃ (x : V) (ps : List Int), vs = [x] ∧ IsRow K C H x ps ∧ RowSm ps ∧ ∀ H', Ex H H' → Q (.str (pageS (natsI ps))) H'
theorem cr_strRow (T : RowR X.prog X.w X.K X.mg X.base C) (hr : Room 7 X.A) : CallR X (.type "str") (rStrRow X.K C) := by
  intro pins s σ H xs us Q I r h
  obtain ⟨x, ps, rfl, hrow, hsm, k⟩ := h
  obtain ⟨a, dx, p, rfl, hA, hS⟩ := id hrow
  obtain ⟨u, rfl, ru⟩ := vals1 r
  obtain rfl : u = Value.ref a := ru
  obtain ⟨f, fd, S, F, hb⟩ := T.str
  obtain ⟨mA, OA, _⟩ := ins_get I.hok hA
  have KI := I.kIn
  have J := I
  have hun := hr.un
  obtain ⟨hp, g, d, tk, os⟩ := s
  refine str_own (S.at KI OA.obj rfl obj_str) (by show X.A.units + 1 + 1 < cLine; omega) ?_
  have h2 := hr.in1.in1
  refine own_run F hb J h2 J.env0.in1.in1 rfl (Q := fun v H' => v = .str (pageS (natsI ps)) ∧ Ex H H') ⟨_, ps, rfl, hrow, hsm, fun H' e => ⟨rfl, e⟩⟩ fun z s' hz => ?_
  obtain ⟨v, H', I', rz, ez, eh⟩ := hz
  subst ez
  obtain ⟨tt, rfl⟩ := rz
  exact ⟨_, _, rfl, .str _, H', I', ⟨_, rfl⟩, k H' eh⟩
/-- Row.read(e) -/
def tReadR (K : PySem.W.Frag) (C : Addr) (t : TA) : TE := fun σ H Q => t σ H fun vs H1 => ∃ cs : List Nat, vs = [.str (pageS cs)] ∧ PageOk cs ∧ ∀ x H2, Ex H1 H2 → IsRow K C H2 x (plainL (cs.map fun c : Nat => (c : Int))) → Q x H2
theorem pe_readR {pl : Sem Bool} (T : RowR X.prog X.w X.K X.mg X.base C) (hr : Room 5 X.A) (ha : PA X (e :: es) t) (hg : Gl X "Row" := by rfl)
    (hst : starEach (e :: es) X.env = (false, eval e X.env) :: starEach es X.env := by rfl) (hpl : (backTo pos (starEach es X.env)).any (·.1) = false := by rfl)
    (ht : eval (.Call (.Attribute (.Name "Row" p) "read" apos) (e :: es) [] pos) X.env = (do
      let ov ← eval (.Name "Row" p) X.env
      standAt apos.atName
      let (f, first) ← holding [ov] (getMethod ov "read" pl)
      callWith pos f first (backTo pos (starEach (e :: es) X.env)) (backToKw pos (keywordEach [] X.env))) := by rfl) :
    PE X (.Call (.Attribute (.Name "Row" p) "read" apos) (e :: es) [] pos) (tReadR X.K C t) := by
  obtain ⟨mc, pp, g, fd, r, c, F, hb, _⟩ := T.read
  have F' : FnR X.prog X.w X.K X.mg X.base CX0 5 g (fun vs H Q E => vs.length = 2 ∧ spReadR X.K C vs H Q E) := fun A outer s H us vs Q E hr e0 rv ⟨l2, h⟩ => by
    have KI : X.K.In s.heap := e0.mod.kin.keeps fun b o e => (e0.bs b o e).1
    have bnd := hb s us KI (by rw [List.append_nil, ← rv.length]; exact l2)
    rw [List.append_nil] at bnd
    exact F.run A outer s H ⟨us, []⟩ us vs Q E hr e0 bnd rv h
  have q := ClX.pe_cmeth (pl := pl) (he := pe_glob (X := X) (x := "Row") (v := .ref C) (pos := p) hg T.rt.rc.mgC rfl) (r := r) (c := c) (F := F') (hr := hr) (hx := pass0 (X := X)) (ha := PA.mon ha) (hst := hst) (hpl := hpl) (ht := ht)
  refine ⟨fun pins s σ H Q I h => q.run pins s σ H Q I ?_⟩
  refine ⟨rfl, _, h, ?_⟩
  rintro vs H1 ⟨cs, rfl, ok, k⟩
  exact ⟨rfl, cs, rfl, ok, k⟩
/-- Row.read(text=e) -/
def tReadW (K : PySem.W.Frag) (C : Addr) (t : TA) : TE := fun σ H Q => t σ H fun vs H1 => ∃ cs : List Nat, vs = [.str (pageS cs)] ∧ PageOk cs ∧ ∀ x H2, Ex H1 H2 → IsRow K C H2 x (plainL (cs.map fun c : Nat => (c : Int))) → Q x H2
theorem pe_readW {pl : Sem Bool} (T : RowR X.prog X.w X.K X.mg X.base C) (hr : Room 5 X.A) (hkw : PK X kws t) (hg : Gl X "Row" := by rfl)
    (hall : (backToKw pos (keywordEach kws X.env)).all (·.1.isSome) = true := by rfl) (hks : (backToKw pos (keywordEach kws X.env)).filterMap (·.1) = (["text"] : List Str) := by rfl)
    (hpl : ((backTo pos (starEach [] X.env)).any (·.1) || (backToKw pos (keywordEach kws X.env)).any (·.1.isNone)) = false := by rfl)
    (ht : eval (.Call (.Attribute (.Name "Row" p) "read" apos) [] kws pos) X.env = (do
      let ov ← eval (.Name "Row" p) X.env
      standAt apos.atName
      let (f, first) ← holding [ov] (getMethod ov "read" pl)
      callWith pos f first (backTo pos (starEach [] X.env)) (backToKw pos (keywordEach kws X.env))) := by rfl) :
    PE X (.Call (.Attribute (.Name "Row" p) "read" apos) [] kws pos) (tReadW X.K C t) := by
  obtain ⟨mc, pp, g, fd, r, c, F, _, hb⟩ := T.read
  have he := pe_glob (X := X) (x := "Row") (v := .ref C) (pos := p) hg T.rt.rc.mgC rfl
  refine ⟨fun pins s σ H Q I h => ?_⟩
  refine PySem.W.methodCall_KW (pl := pl) (thn (he.run pins s σ H (fun v H1 => v = .ref C ∧ H1 = H) I ⟨rfl, rfl⟩) fun u s1 ⟨x, H1, I1, rx, ex⟩ => ?_) ht
  obtain ⟨ex, eh⟩ := ex
  subst ex eh
  obtain rfl : u = Value.ref C := rx
  refine ClX.getmethcm_ok I1 r c fun s2 I2 => ?_
  refine PySem.W.callWith_of (P := fun h => PySem.W.MethP X.K s1.heap.objs.size g (.ref C) h) hpl (PySem.W.keeps_M c.fi) (PyProof.Rows.evalArgs_kw2_nil hall ?_)
  refine thn (hkw.run pos _ s2 σ H1 _ I2 h) fun ws s3 ⟨zs, H2, I3, rz, q2⟩ => ⟨⟨ClX.pin_at I3, I3.kIn⟩, ?_⟩
  obtain ⟨cs, ez, ok, k⟩ := q2
  subst ez
  rw [hks]
  obtain ⟨w0, ew, r1⟩ := vals1 rz
  subst ew
  have hsp : spReadR X.K C [.ref C, .str (pageS cs)] H2 Q E0 := ⟨cs, rfl, ok, k⟩
  have z : wpAny (model X.prog X.w) X.A (call (.ref s1.heap.objs.size) ([] ++ []) ((["text"] : List Str).zip [w0])) (EP X ((s1.heap.objs.size, PySem.W.methodObj (.ref g) (.ref C)) :: pins) σ Q) X.xe s3 := by
    refine wpAny_call (PySem.W.method_call (ClX.pin_at I3) (codeAny_mono (F.run X.A X.stack s3 H2 ⟨[.ref C], [("text", w0)]⟩ [.ref C, w0] [.ref C, .str (pageS cs)] Q E0 hr I3.env0 (hb s3 (.ref C) w0) (.cons rfl (.cons r1 .nil)) hsp) fun res s' hq => ?_))
    cases res with
    | error er => exact (show False from hq).elim
    | ok fl =>
      cases fl with
      | next => exact hq.elim
      | brk => exact hq.elim
      | cont => exact hq.elim
      | ret z => exact I3.after hq
  exact thn z fun _ _ y => ClX.unpinE y
/-- Row(counts=e) -/
def tRowW (K : PySem.W.Frag) (C : Addr) (t : TA) : TE := fun σ H Q => t σ H fun vs H1 => ∃ (y : V) (cs : List Int), vs = [y] ∧ IsInts K H1 y cs ∧ RowOk cs ∧ ∀ x H2, Ex H1 H2 → IsRow K C H2 x (plainL cs) → Q x H2
theorem pe_rowW (T : RowR X.prog X.w X.K X.mg X.base C) (hr : Room 4 X.A) (hkw : PK X kws t) (hg : Gl X "Row" := by rfl)
    (hall : (backToKw pos (keywordEach kws X.env)).all (·.1.isSome) = true := by rfl) (hks : (backToKw pos (keywordEach kws X.env)).filterMap (·.1) = (["counts"] : List Str) := by rfl)
    (hpl : ((backTo pos (starEach [] X.env)).any (·.1) || (backToKw pos (keywordEach kws X.env)).any (·.1.isNone)) = false := by rfl) (hdb : ((("Row" : Str)) == ("__debug__" : Str)) = false := by decide) :
    PE X (.Call (.Name "Row" p) [] kws pos) (tRowW X.K C t) := by
  obtain ⟨f, fd, M, F, hb⟩ := T.initW
  have KB : KBn X.K fd ["self", "counts"] (0 + 1) ["counts"] (fun us ws => us ++ ws) (fun vs zs => vs ++ zs) := ⟨fun s us ws X1 l1 l2 => by
    match us, ws, l1, l2 with
    | [c], [v], _, _ => exact hb s c v, fun r1 r2 => r1.append r2⟩
  refine ⟨fun pins s σ H Q I h => ?_⟩
  refine wpAny_Call_Name_kw (ld_glob I hg T.rt.rc.mgC ?_ hdb)
  refine PySem.W.callWith_KW0 (h₀ := X.base) I.ok.mod.kin M.kp hall ?_ hpl
  refine thn (hkw.run pos pins s σ H _ I h) fun ws s2 ⟨zs, H2, I2, rz, q2⟩ => ⟨I2.kIn, ?_⟩
  obtain ⟨y, cs, ev, ⟨qa, ey, hS⟩, ok, k⟩ := q2
  subst ev ey
  rw [hks]
  refine run_makeN (us := []) (vs := []) (n := 0) M F hr KB (pass0 (X := X)) I2 .nil rz rfl rfl ?_
  intro x dx nx ndx nex
  have e1 : Ex H2 (upd (upd H2 dx (.own x)) x (.ins C dx [])) := fun b o h => by
    rw [upd_ne (ne_of_none h nx), upd_ne (ne_of_none h ndx)]
    exact h
  refine ⟨x, dx, qa, cs, rfl, upd_same, sqT_kp hS e1.kp, ok, fun H3 keep hrow => ⟨rfl, k _ _ (fun b o h => ?_) hrow⟩⟩
  exact keep b o (ne_of_none h nx) (e1 b o h)
end
section
variable {X : Cx} {C : Addr} {e : Expr} {es : List Expr} {te : TE} {t : TA} {p pos apos : Pos} {kws : List Keyword}
theorem kStrRow (T : RowR P w K mg base C) (hr : Room 7 X.A) (hx : At X P w K mg base := by exact ⟨rfl, rfl, rfl, rfl, rfl⟩) : CallR X (.type "str") (rStrRow K C) := by
  obtain ⟨h1, h2, h3, h4, h5⟩ := hx
  subst h1 h2 h3 h4 h5
  exact cr_strRow T hr
theorem kReadR {pl : Sem Bool} (T : RowR P w K mg base C) (hr : Room 5 X.A) (ha : PA X (e :: es) t) (hx : At X P w K mg base := by exact ⟨rfl, rfl, rfl, rfl, rfl⟩) (hg : Gl X "Row" := by rfl)
    (hst : starEach (e :: es) X.env = (false, eval e X.env) :: starEach es X.env := by rfl) (hpl : (backTo pos (starEach es X.env)).any (·.1) = false := by rfl)
    (ht : eval (.Call (.Attribute (.Name "Row" p) "read" apos) (e :: es) [] pos) X.env = (do
      let ov ← eval (.Name "Row" p) X.env
      standAt apos.atName
      let (f, first) ← holding [ov] (getMethod ov "read" pl)
      callWith pos f first (backTo pos (starEach (e :: es) X.env)) (backToKw pos (keywordEach [] X.env))) := by rfl) :
    PE X (.Call (.Attribute (.Name "Row" p) "read" apos) (e :: es) [] pos) (tReadR K C t) := by
  obtain ⟨h1, h2, h3, h4, h5⟩ := hx
  subst h1 h2 h3 h4 h5
  exact pe_readR (pl := pl) T hr ha hg hst hpl ht
theorem kReadW {pl : Sem Bool} (T : RowR P w K mg base C) (hr : Room 5 X.A) (hkw : PK X kws t) (hx : At X P w K mg base := by exact ⟨rfl, rfl, rfl, rfl, rfl⟩) (hg : Gl X "Row" := by rfl)
    (hall : (backToKw pos (keywordEach kws X.env)).all (·.1.isSome) = true := by rfl) (hks : (backToKw pos (keywordEach kws X.env)).filterMap (·.1) = (["text"] : List Str) := by rfl)
    (hpl : ((backTo pos (starEach [] X.env)).any (·.1) || (backToKw pos (keywordEach kws X.env)).any (·.1.isNone)) = false := by rfl)
    (ht : eval (.Call (.Attribute (.Name "Row" p) "read" apos) [] kws pos) X.env = (do
      let ov ← eval (.Name "Row" p) X.env
      standAt apos.atName
      let (f, first) ← holding [ov] (getMethod ov "read" pl)
      callWith pos f first (backTo pos (starEach [] X.env)) (backToKw pos (keywordEach kws X.env))) := by rfl) :
    PE X (.Call (.Attribute (.Name "Row" p) "read" apos) [] kws pos) (tReadW K C t) := by
  obtain ⟨h1, h2, h3, h4, h5⟩ := hx
  subst h1 h2 h3 h4 h5
  exact pe_readW (pl := pl) T hr hkw hg hall hks hpl ht
theorem kRowW (T : RowR P w K mg base C) (hr : Room 4 X.A) (hkw : PK X kws t) (hx : At X P w K mg base := by exact ⟨rfl, rfl, rfl, rfl, rfl⟩) (hg : Gl X "Row" := by rfl)
    (hall : (backToKw pos (keywordEach kws X.env)).all (·.1.isSome) = true := by rfl) (hks : (backToKw pos (keywordEach kws X.env)).filterMap (·.1) = (["counts"] : List Str) := by rfl)
    (hpl : ((backTo pos (starEach [] X.env)).any (·.1) || (backToKw pos (keywordEach kws X.env)).any (·.1.isNone)) = false := by rfl) :
    PE X (.Call (.Name "Row" p) [] kws pos) (tRowW K C t) := by
  obtain ⟨h1, h2, h3, h4, h5⟩ := hx
  subst h1 h2 h3 h4 h5
  exact pe_rowW T hr hkw hg hall hks hpl
theorem r_readR {σ : L2.St} {H : Hp} {Q : VK} : tReadR K C t σ H Q = t σ H fun vs H1 => ∃ cs : List Nat, vs = [.str (pageS cs)] ∧ PageOk cs ∧ ∀ x H2, Ex H1 H2 → IsRow K C H2 x (plainL (cs.map fun c : Nat => (c : Int))) → Q x H2 := rfl
theorem r_readW {σ : L2.St} {H : Hp} {Q : VK} : tReadW K C t σ H Q = t σ H fun vs H1 => ∃ cs : List Nat, vs = [.str (pageS cs)] ∧ PageOk cs ∧ ∀ x H2, Ex H1 H2 → IsRow K C H2 x (plainL (cs.map fun c : Nat => (c : Int))) → Q x H2 := rfl
theorem r_rowW {σ : L2.St} {H : Hp} {Q : VK} : tRowW K C t σ H Q = t σ H fun vs H1 => ∃ (y : V) (cs : List Int), vs = [y] ∧ IsInts K H1 y cs ∧ RowOk cs ∧ ∀ x H2, Ex H1 H2 → IsRow K C H2 x (plainL cs) → Q x H2 := rfl
end
end

local macro_rules | `(tactic| walk_at "rd") => `(tactic| try simp only [r_seq, r_asg, r_name, r_ifS, r_next, r_ret, r_retN, r_drop, r_test, r_B, r_if, r_cons, r_nil, r_cb, r_tF, r_part, r_nopart, r_sl, r_par, r_chain, r_or, r_and, r_not, r_orV, r_andV, r_notV, r_op, r_un, r_var, r_c, r_yes, r_I0, r_I, r_U, r_eqI, r_neI, r_eqS, r_neS, r_lst, r_tup, r_for, r_lc, r_list, r_tupI, r_rng1, r_rng2, r_enumT, r_bm, r_fld, r_subT, r_gtup, r_gcons, r_gnil, r_K0, r_K, r_Kb, r_Kbb, wipe, r_never, not_true_eq_false, not_false_eq_true, Int.zero_add, r_counts, r_draws, r_rates, r_row, r_len, r_sfld, r_zipB, r_revT, r_tW, r_seqI, r_m0, r_m1, r_js0, r_js, r_fmt, r_revN, r_rng3, r_enumL, r_text, r_rowV, r_readR, r_readW, r_rowW,
  L2.start, List.map_cons, List.map_nil, List.length_cons, List.length_nil, Nat.reduceAdd, Nat.reduceSub, List.reduceReplicate, List.cons_append, List.nil_append, List.set_cons_zero, List.set_cons_succ, List.getElem?_cons_zero, List.getElem?_cons_succ, Option.some.injEq, exists_eq_left', exists_eq_left, exists_eq_right, exists_eq_right', V.int.injEq, V.ref.injEq, V.bl.injEq, V.str.injEq, List.cons.injEq, and_true, true_and, and_false, false_and, or_false, false_or, exists_false, exists_const, and_assoc, reduceCtorEq, if_true, if_false, Bool.false_eq_true, Bool.not_true, Bool.not_false, Bool.not_eq_true', decide_eq_true_eq, decide_eq_false_iff_not, exists_and_left, exists_and_right, exists_eq_or_imp])
section
variable {P : Program} {w : World} {K : PySem.W.Frag} {mg : Str → Option Value} {base : Heap}
open SX
/-! ### _law_page -/
def spPage (K : PySem.W.Frag) : Sp := fun vs H Q _ => ∃ (p : Addr) (cs : List Int), vs = [.ref p] ∧ SqT K H p (cs.map V.int) ∧ RowSm cs ∧ ∀ H', Ex H H' → Q (.str (pageS (natsI cs))) H'
theorem scPage : FnScope ["some", "rows_here", "k"] ["some"] (defScope (top 27)) := ⟨rfl, rfl, rfl, by decide +kernel, rfl, by decide +kernel, by decide +kernel⟩
theorem has_page (B : Bi mg) (D : Df K mg "_law_page" (top 27) ["some"]) : Has P w K mg base "_law_page" 1 ["some"] (spPage K) := by
  have sc := scPage
  refine .of D fun f fd F => F.ok sc (fun vs H Q E h => ?_) (fun cdv A outer s H vs Q E hr h => ?_)
  · obtain ⟨p, cs, rfl, _⟩ := h
    rfl
  · obtain ⟨p, cs, rfl, hS, hsm, k⟩ := h
    refine ⟨_, (pss_cons (ps_set (i := 1) sc.nd rfl (by first | exact Or.inl rfl | exact Or.inr rfl) (pe_lstN (pa_cons (pe_op op_add_str pe_str (pe_callTy call_str_int (by rfl) B.str (by decide +kernel) (pa_cons (pe_op op_sub (pe_callB (kLen (K := K)) (by rfl) B.len (by decide +kernel) (pa_cons (pv 0) pa_nil)) pe_int) pa_nil))) pa_nil)))
      (pss_cons (ps_for PassesOwn.never rfl (pi_range1 (by rfl) B.range (pa_cons (pe_callB (kLen (K := K)) (by rfl) B.len (by decide +kernel) (pa_cons (pv 0) pa_nil)) pa_nil)) (pg_name (i := 2) sc.nd rfl (by first | exact Or.inl rfl | exact Or.inr rfl))
      (pss_one (ps_expr (pe_bm PySem.F.plainAttrs_list PySem.F.slot_list_append PySem.F.type_list_append mt_append (pv 1) (pa_cons (pe_op op_add_str (pe_op op_add_str (pe_op op_add_str pe_str (pe_callTy call_str_int (by rfl) B.str (by decide +kernel) (pa_cons (pv 2) pa_nil))) pe_str) (pe_callTy call_str_int (by rfl) B.str (by decide +kernel) (pa_cons (pe_ix (ixT (K := K)) (pv 0) (pv 2) (fun _ _ => rfl)) pa_nil))) pa_nil)))))
      (pss_one (ps_ret (pe_m1 PySem.F.slot_str_join PySem.F.type_str_join (kJoin (K := K)) pe_str (pv 1)))))), ?_⟩
    walk_at "rd"
    obtain ⟨l2, l6, sm⟩ := hsm
    have p60 : sizeLine = 16777216 := by rw [sizeLine_eq]
    have el : (cs.length : Int) - 1 = ((cs.length - 1 : Nat) : Int) := by omega
    have en : (natsI cs).length = cs.length := by simp [natsI]
    have ln1 := TL.numL_len (n := cs.length - 1) (k := 1) (by decide) (by omega)
    refine ⟨_, .inr hS, ?_⟩
    rw [List.length_map, el, eDraws, eSp, eYes, eNl, num_S]
    simp only [S_cat, S_len]
    refine ⟨log1920 (by rw [Int.natAbs_natCast]; exact Nat.lt_of_lt_of_le (show cs.length - 1 < 2 ^ 3 by omega) (Nat.pow_le_pow_right (by decide) (by decide))), by simp [drawsL]; omega, by omega, fun R G n0 e0 t0 => ?_⟩
    have eS : ∀ {G'}, Ex H G' → SqT K G' p (cs.map V.int) := fun e => sqT_kp hS e.kp
    refine ⟨_, .inr (eS e0), ?_⟩
    rw [List.length_map, Int.toNat_natCast]
    refine ⟨by omega, by omega, ?_⟩
    obtain ⟨Pv, hP⟩ : ∃ P : Nat → L2.St → Hp → Prop, P = fun i σ' G' => Ex H G' ∧ G' R = some (.lst (((firstL (cs.length - 1) :: (linesL (natsI cs)).take i).map S).map V.str)) ∧ ∃ z : Option V, σ' = [some (.ref p), some (.ref R), z] := ⟨_, rfl⟩
    have fresh : H R = none := n0
    refine loopR Pv (by rw [hP]; exact ⟨e0, t0, _, rfl⟩) ?_ ?_
    · intro i σ' G' hi h
      rw [hP] at h
      obtain ⟨e1, t1, z, rfl⟩ := h
      walk_at "rd"
      have hc := List.getElem?_eq_getElem hi
      obtain ⟨c0, c31⟩ := sm cs[i] (List.getElem_mem hi)
      have hg : atI (cs.map V.int) (i : Int) = some (.int cs[i]) := by
        obtain ⟨z, hz, e⟩ := at_int (ns := cs) (i := (i : Int)) (by omega) (by omega)
        rw [Int.toNat_natCast, hc] at hz
        cases hz
        exact e
      refine ⟨.inl ⟨rfl, _, .of t1⟩, ?_⟩
      obtain ⟨n, hn⟩ : ∃ n : Nat, cs[i] = (n : Int) := ⟨cs[i].toNat, by omega⟩
      have eg : (natsI cs).getD i 0 = n := by
        unfold natsI
        rw [List.getD_eq_getElem?_getD, List.getElem?_map, hc]
        show cs[i].toNat = n
        rw [hn]
        rfl
      have p31 : (10 ^ 31 : Int) = ((10 ^ 31 : Nat) : Int) := by decide
      have n31 : n < 10 ^ 31 := by omega
      have li := TL.numL_len (n := i) (k := 1) (by decide) (by omega)
      have ln := num_len31 n31
      have l200 : n < 2 ^ 1900 := Nat.lt_of_lt_of_le (show n < 2 ^ 200 from Nat.lt_of_lt_of_le n31 (by decide)) (Nat.pow_le_pow_right (by decide) (by decide))
      rw [num_S]
      simp only [S_cat, S_len]
      refine ⟨log1920 (by rw [Int.natAbs_natCast]; exact Nat.lt_of_lt_of_le (show i < 2 ^ 3 by omega) (Nat.pow_le_pow_right (by decide) (by decide))), by simp [yesL]; omega, by simp [yesL]; omega, ?_⟩
      refine q_ixT (eS e1) hg ?_
      refine ⟨_, rfl, log1920 (by rw [hn, Int.natAbs_natCast]; exact l200), ?_⟩
      rw [hn, num_S, S_len]
      refine ⟨by simp [yesL]; omega, ?_⟩
      rw [S_cat]
      refine ⟨R, _, _, rfl, rfl, t1, Nat.lt_of_lt_of_le (show _ < 1000 by simp [linesL]; omega) (by decide), ?_⟩
      rw [hP]
      refine ⟨fun b o hb => ?_, ?_, _, rfl⟩
      · rw [upd_ne (ne_of_none hb fresh)]
        exact e1 _ _ hb
      · rw [upd_same]
        have eL : (linesL (natsI cs)).take (i + 1) = (linesL (natsI cs)).take i ++ [lineL i n] := by
          rw [List.take_add_one]
          unfold linesL
          rw [List.getElem?_map, List.getElem?_range (by omega)]
          show _ ++ [lineL i ((natsI cs).getD i 0)] = _
          rw [eg]
        rw [eL]
        simp [lineL, startL]
    · intro σ' G' h
      rw [hP] at h
      obtain ⟨e1, t1, z, rfl⟩ := h
      walk_at "rd"
      have lp : ∀ l ∈ pageP (natsI cs), l.length ≤ 100 := fun l hl => page_len hl (by omega) fun c hc => by
        obtain ⟨z, hz, rfl⟩ := List.mem_map.mp hc
        have := sm z hz
        have p31 : (10 ^ 31 : Int) = ((10 ^ 31 : Nat) : Int) := by decide
        omega
      have l7 : (pageP (natsI cs)).length ≤ 7 := by simp [pageP, linesL]; omega
      have et : (firstL (cs.length - 1) :: (linesL (natsI cs)).take cs.length) = pageP (natsI cs) := by
        unfold pageP
        rw [en, List.take_of_length_le (by simp [linesL]; omega)]
      rw [et] at t1
      refine ⟨⟨_, rfl⟩, _, R, (pageP (natsI cs)).map S, rfl, rfl, .inl (.of t1), ?_, ?_⟩
      · have := sum_len lp
        rw [lens, List.length_map, S_len]
        have e1 : ((pageP (natsI cs)).map fun x => x.length) = (pageP (natsI cs)).map List.length := rfl
        rw [e1]
        simp only [List.length_cons, List.length_nil]
        omega
      · rw [join_S]
        exact k _ e1
end

/-! rates of plain counts -/
theorem sum_scale (k : Int) : ∀ cs : List Int, (cs.map (k * ·)).sum = k * cs.sum
  | [] => by simp
  | c :: cs => by
    rw [List.map_cons, List.sum_cons, List.sum_cons, sum_scale k cs, Int.mul_add]
theorem sum_nonneg : ∀ {cs : List Int}, (∀ c ∈ cs, 0 ≤ c) → 0 ≤ cs.sum
  | [], _ => by simp
  | c :: cs, h => by
    have h1 := h c List.mem_cons_self
    have h2 := sum_nonneg fun x hx => h x (List.mem_cons_of_mem c hx)
    rw [List.sum_cons]
    omega
theorem sum_le {b : Int} : ∀ {cs : List Int}, (∀ c ∈ cs, c ≤ b) → cs.sum ≤ (cs.length : Int) * b
  | [], _ => by simp
  | c :: cs, h => by
    have h1 := h c List.mem_cons_self
    have h2 := sum_le fun x hx => h x (List.mem_cons_of_mem c hx)
    rw [List.sum_cons, List.length_cons, Int.natCast_add, Int.add_mul]
    omega
theorem sum_pos_ex : ∀ {cs : List Int}, (∀ c ∈ cs, 0 ≤ c) → 0 < cs.sum → ∃ c ∈ cs, 0 < c
  | [], _, h => by simp at h
  | c :: cs, h, hs => by
    by_cases hc : 0 < c
    · exact ⟨c, List.mem_cons_self, hc⟩
    · have h1 := h c List.mem_cons_self
      rw [List.sum_cons] at hs
      obtain ⟨x, hx, h2⟩ := sum_pos_ex (fun x hx => h x (List.mem_cons_of_mem c hx)) (by omega)
      exact ⟨x, List.mem_cons_of_mem c hx, h2⟩
theorem mem_le_sum : ∀ {cs : List Int} {c : Int}, (∀ x ∈ cs, 0 ≤ x) → c ∈ cs → c ≤ cs.sum
  | x :: cs, c, h, hc => by
    rw [List.sum_cons]
    have h0 := h x List.mem_cons_self
    have h1 := sum_nonneg fun y hy => h y (List.mem_cons_of_mem x hy)
    rcases List.mem_cons.mp hc with rfl | hc
    · omega
    · have := mem_le_sum (fun y hy => h y (List.mem_cons_of_mem x hy)) hc
      omega
/-- top times the whole is the count times the bottom -/
theorem frac_mul {p S : Int} (hS : 0 < S) : ((p : Rat) / (S : Rat)).num * S = p * (((((p : Rat) / (S : Rat)).den : Nat)) : Int) := by
  rw [div_num hS, div_den hS]
  have d1 : ((Int.gcd S p : Nat) : Int) ∣ p := Int.gcd_dvd_right ..
  have d2 : ((Int.gcd S p : Nat) : Int) ∣ S := Int.gcd_dvd_left ..
  obtain ⟨u, hu⟩ := d1
  obtain ⟨v, hv⟩ := d2
  have g0 : ((Int.gcd S p : Nat) : Int) ≠ 0 := by
    intro z
    rw [z, Int.zero_mul] at hv
    omega
  generalize ((Int.gcd S p : Nat) : Int) = g at *
  subst hu hv
  rw [Int.mul_ediv_cancel_left _ g0, Int.mul_ediv_cancel_left _ g0]
  grind
theorem frac_nonneg {p S : Int} (hp : 0 ≤ p) (hS : 0 < S) : 0 ≤ ((p : Rat) / (S : Rat)).num := by
  rw [div_num hS]
  exact Int.ediv_nonneg hp (by omega)
theorem frac_le_one {p S : Int} (hp : p ≤ S) (hS : 0 < S) : ((p : Rat) / (S : Rat)).num ≤ (((((p : Rat) / (S : Rat)).den : Nat)) : Int) := by
  have e := frac_mul (p := p) hS
  have h2 := den_pos ((p : Rat) / (S : Rat))
  generalize (((((p : Rat) / (S : Rat)).den : Nat)) : Int) = d at *
  generalize ((p : Rat) / (S : Rat)).num = t at *
  have h3 : p * d ≤ S * d := Int.mul_le_mul_of_nonneg_right hp (by omega)
  rw [← e, Int.mul_comm S d] at h3
  exact Int.le_of_mul_le_mul_right h3 hS
theorem sumR_div (S : Rat) : ∀ (ps : List Int) (acc : Rat), (ps.map fun p => ((p : Int) : Rat) / S).foldl (· + ·) acc = acc + ((ps.sum : Int) : Rat) / S
  | [], acc => by
    simp only [List.map_nil, List.foldl_nil, List.sum_nil]
    have : (((0 : Int)) : Rat) = 0 := rfl
    rw [this]
    grind
  | p :: ps, acc => by
    rw [List.map_cons, List.foldl_cons, sumR_div S ps, List.sum_cons, Rat.intCast_add]
    grind
theorem cast_ne {S : Int} (h : S ≠ 0) : ((S : Int) : Rat) ≠ 0 := fun z => h (by
  have := congrArg Rat.num z
  simpa using this)
theorem sumR_rates {ps : List Int} (h : 0 < ps.sum) : sumR (ratesL ps) = 1 := by
  unfold sumR ratesL
  rw [sumR_div]
  have := cast_ne (S := ps.sum) (by omega)
  grind
theorem rates_sz {ps : List Int} {n : Nat} (h : 0 < ps.sum) (hs : ps.sum.natAbs < 2 ^ n) (h0 : ∀ p ∈ ps, 0 ≤ p) : ∀ r ∈ ratesL ps, sz r n := by
  intro r hr
  obtain ⟨p, hp, rfl⟩ := List.mem_map.mp hr
  refine sz_div h ?_ hs
  have h1 := mem_le_sum h0 hp
  have h2 := h0 p hp
  omega

section
variable {P : Program} {w : World} {K : PySem.W.Frag} {mg : Str → Option Value} {base : Heap}
theorem gcdL_lt {cs : List Int} {c : Int} {m : Nat} (hc : c ∈ cs) (h0 : c ≠ 0) (h : c.natAbs < 2 ^ m) : gcdL cs < 2 ^ m := by
  have h1 := Int.natAbs_dvd_natAbs.mpr (gcdL_dvd hc)
  have h2 := Nat.le_of_dvd (by omega) h1
  rw [Int.natAbs_natCast] at h2
  omega
structure RowFacts (cs : List Int) : Prop where
  ok : RowOk cs
  ok_scale : ∀ {k : Int}, 0 < k → k ≤ 1000000 → RowOk (cs.map (k * ·))
  len : (plainL cs).length ≤ 1000
  spos : 0 < (plainL cs).sum
  slt : (plainL cs).sum.natAbs < 2 ^ 110
  ok_plain : RowOk (plainL cs)
  nn : ∀ p ∈ plainL cs, 0 ≤ p
  gd : Gd (intsD (plainL cs)) 1 (6 * 1932 + 3)
  one : gcdL (plainL cs) = 1
  twice : plainL (plainL cs) = plainL cs
theorem row_facts {cs : List Int} (h : CountsOk cs) : RowFacts cs := by
  obtain ⟨l0, l1, hb, hs⟩ := h
  have nn : ∀ c ∈ cs, 0 ≤ c := fun c hc => (hb c hc).1
  obtain ⟨c, hc, c0⟩ := sum_pos_ex nn hs
  have cb := (hb c hc).2
  have b30 : (10 : Int) ^ 30 < 2 ^ 100 := by decide
  have g0 : 0 < gcdL cs := gcdL_pos ⟨c, hc, by omega⟩
  have gI : (0 : Int) < ((gcdL cs : Nat) : Int) := by omega
  have glt : gcdL cs < 2 ^ 100 := gcdL_lt hc (by omega) (by omega)
  have pn : ∀ p ∈ plainL cs, 0 ≤ p := by
    intro p hp
    obtain ⟨x, hx, rfl⟩ := List.mem_map.mp hp
    exact Int.ediv_nonneg (nn x hx) (by omega)
  have e : ((gcdL cs : Nat) : Int) * (plainL cs).sum = cs.sum := by
    rw [← sum_scale, plainL_mul]
  have sp : 0 < (plainL cs).sum := by
    rcases Int.lt_or_le 0 (plainL cs).sum with h | h
    · exact h
    · have := Int.mul_le_mul_of_nonneg_left h (Int.le_of_lt gI)
      rw [e, Int.mul_zero] at this
      omega
  have sl : (plainL cs).sum ≤ cs.sum := by
    rw [← e]
    have := Int.mul_le_mul_of_nonneg_right (show (1 : Int) ≤ ((gcdL cs : Nat) : Int) by omega) (Int.le_of_lt sp)
    omega
  have sb := sum_le (b := 10 ^ 30) (cs := cs) fun c hc => (hb c hc).2
  have sb2 : cs.sum ≤ 6 * 10 ^ 30 := by
    have := Int.mul_le_mul_of_nonneg_right (show (cs.length : Int) ≤ 6 by omega) (show (0 : Int) ≤ 10 ^ 30 by decide)
    omega
  have b110 : (6 : Int) * 10 ^ 30 < 2 ^ 110 := by decide
  have one := plainL_plain cs g0
  have lt : (2 : Nat) ^ 100 ≤ 2 ^ 8990 := Nat.pow_le_pow_right (by decide) (by decide)
  refine ⟨⟨l0, l1, nn, g0, Nat.lt_of_lt_of_le glt lt⟩, fun {k} k0 k1 => ⟨by simpa using l0, by simpa using l1, ?_, ?_, ?_⟩, by rw [plainL_len]; omega, sp, ?_, ⟨by rw [plainL_len]; omega, by rw [plainL_len]; omega, pn, by omega, by rw [one]; exact Nat.lt_of_lt_of_le (by decide) lt⟩, pn, ?_, one, plainL_twice cs g0⟩
  · intro x hx
    obtain ⟨y, hy, rfl⟩ := List.mem_map.mp hx
    exact Int.mul_nonneg (by omega) (nn y hy)
  · have := gcdL_scale cs k0
    have := Int.mul_pos k0 gI
    omega
  · refine gcdL_lt (c := k * c) (List.mem_map.mpr ⟨c, hc, rfl⟩) (by have := Int.mul_pos k0 c0; omega) ?_
    exact lt2_mono (wide_lt (a := 40) (b := 100) (by omega) (by omega)) (by decide)
  · omega
  · refine gd_ints (by rw [plainL_len]; exact l1) fun p hp => ?_
    have h1 := mem_le_sum pn hp
    have h2 := pn p hp
    exact lt2_mono (n := 110) (by omega) (by decide)
theorem rates_ne {ps : List Int} (h0 : ∀ p ∈ ps, 0 ≤ p) (h : 0 < ps.sum) : ∃ r ∈ ratesL ps, r ≠ 0 := by
  obtain ⟨p, hp, p0⟩ := sum_pos_ex h0 h
  refine ⟨_, List.mem_map.mpr ⟨p, hp, rfl⟩, fun z => ?_⟩
  have e := frac_mul (p := p) h
  rw [z] at e
  have e2 : (0 : Rat).num * ps.sum = p * (((0 : Rat).den : Nat) : Int) := e
  rw [Rat.zero_num, Rat.zero_den] at e2
  omega
theorem shaped_listI (cs : List Int) : SeqAt.shaped (.list (cs.map PyData.int)) = true := by
  have h := shaped_ints cs
  unfold SeqAt.shaped intsD at *
  simpa [PyData.canLay0, PyData.depth] using h
theorem IsInts.ref {H : Hp} {x : V} {cs : List Int} (h : IsInts K H x cs) : ∃ a, x = .ref a := by
  obtain ⟨p, rfl, _⟩ := h
  exact ⟨p, rfl⟩
end

section
variable {P : Program} {w : World} {K : PySem.W.Frag} {mg : Str → Option Value} {base : Heap}
open SX
/-! ### facts of the counts -/
theorem nats_back {cs : List Int} (nn : ∀ c ∈ cs, 0 ≤ c) : (natsI cs).map (fun c : Nat => (c : Int)) = cs := by
  unfold natsI
  rw [List.map_map]
  conv => rhs; rw [← List.map_id cs]
  apply List.map_congr_left
  intro c hc
  have := nn c hc
  show ((c.toNat : Nat) : Int) = c
  omega
theorem sm_of {cs : List Int} (h : CountsOk cs) : RowSm cs :=
  ⟨h.1, h.2.1, fun c hc => ⟨(h.2.2.1 c hc).1, by
    have h1 := (h.2.2.1 c hc).2
    have : (10 : Int) ^ 30 < 10 ^ 31 := by decide
    omega⟩⟩
theorem sm_plain {cs : List Int} (h : CountsOk cs) : RowSm (plainL cs) := by
  have F := row_facts h
  refine ⟨F.ok_plain.1, F.ok_plain.2.1, fun p hp => ⟨F.nn p hp, ?_⟩⟩
  have g0 := F.ok.2.2.2.1
  obtain ⟨c, hc, rfl⟩ := List.mem_map.mp hp
  have ⟨c0, c1⟩ := (sm_of h).2.2 c hc
  exact Int.lt_of_le_of_lt (Int.ediv_le_self _ c0) c1
theorem page_ok {cs : List Int} (h : RowSm cs) (s0 : 0 < cs.sum) : PageOk (natsI cs) := by
  obtain ⟨l2, l6, b⟩ := h
  obtain ⟨c, hc, c0⟩ := sum_pos_ex (fun c hc => (b c hc).1) s0
  refine ⟨by simpa [natsI] using l2, by simpa [natsI] using l6, fun n hn => ?_, c.toNat, List.mem_map.mpr ⟨c, hc, rfl⟩, by omega⟩
  obtain ⟨z, hz, rfl⟩ := List.mem_map.mp hn
  have := b z hz
  have p31 : (10 ^ 31 : Int) = ((10 ^ 31 : Nat) : Int) := by decide
  omega
theorem page_len2 {cs : List Nat} (l6 : cs.length ≤ 6) (l31 : ∀ c ∈ cs, c < 10 ^ 31) : (pageL cs).length ≤ 800 := by
  have lp : ∀ l ∈ pageP cs, l.length ≤ 100 := fun l hl => page_len hl l6 l31
  have lpp : (pageP cs).length = cs.length + 1 := by simp [pageP, linesL]
  have := join_len lp
  have : (pageP cs).length * 101 ≤ 7 * 101 := Nat.mul_le_mul_right _ (by omega)
  unfold pageL
  omega
theorem num_small (n : Nat) : ∀ c ∈ TL.numL n, c < 1114112 := fun c hc => by
  have := num_range n c hc
  omega
theorem join_small {L : List (List Nat)} (h : ∀ l ∈ L, ∀ c ∈ l, c < 1114112) : ∀ c ∈ TL.joinL [10] L, c < 1114112 := by
  induction L with
  | nil => simp [TL.joinL]
  | cons l L ih =>
    have i := ih fun x hx => h x (List.mem_cons_of_mem _ hx)
    have hl := h l List.mem_cons_self
    cases L with
    | nil => simpa [TL.joinL] using hl
    | cons l2 L =>
      intro c hc
      simp only [TL.joinL, List.mem_append, List.mem_singleton] at hc
      rcases hc with hc | rfl | hc
      · exact hl c hc
      · decide
      · exact i c hc
theorem page_small (cs : List Nat) : ∀ c ∈ pageL cs, c < 1114112 := by
  refine join_small fun l hl c hc => ?_
  unfold pageP linesL at hl
  rcases List.mem_cons.mp hl with rfl | h
  · rcases List.mem_append.mp hc with q | q
    · simp [drawsL] at q
      omega
    · exact num_small _ c q
  · obtain ⟨k, hk, rfl⟩ := List.mem_map.mp h
    simp only [lineL, startL, List.mem_append] at hc
    rcases hc with ((q | q) | q) | q
    · simp [yesL] at q
      omega
    · exact num_small _ c q
    · simp at q
      omega
    · exact num_small _ c q
theorem gd_page {cs : List Nat} (l6 : cs.length ≤ 6) (l31 : ∀ c ∈ cs, c < 10 ^ 31) : Gd (.str (pageS cs)) 0 9000 := by
  have small : ∀ c ∈ (pageS cs).cps.toList, c < 1114112 := fun c hc => page_small cs c (by simpa using hc)
  refine ⟨?_, by simp [PyData.showable], by simp [PyData.hasDict], Nat.le_of_eq (by simp [PyData.depth]), ?_⟩
  · simp only [PyData.canLay0, PyData.strOk]
    rw [Array.all_eq_true_iff_forall_mem]
    intro c hc
    exact decide_eq_true (small c (Array.mem_toList_iff.mpr hc))
  have h := PySem.StrLaws.reprText_len (pageS cs) (fun c hc => Nat.lt_trans (small c hc) (by decide))
  have l := page_len2 l6 l31
  simp only [costD]
  have : (pageS cs).length = (pageL cs).length := S_len _
  omega
end

section
variable {P : Program} {w : World} {K : PySem.W.Frag} {mg : Str → Option Value} {base : Heap}
open SX
/-! ### _law_pair_right -/
def spPair (K : PySem.W.Frag) (C : Addr) : Sp := fun vs H Q _ => ∃ (x y : V) (b : Bool), vs = [x, y, .bl b] ∧ CmpQ K C H x y b ∧ CmpQ K C H y x b ∧ ∀ H', Ex H H' → Q (.bl true) H'
theorem scPair : FnScope ["mine", "mate", "due"] ["mine", "mate", "due"] (defScope (top 28)) := ⟨rfl, rfl, rfl, by decide +kernel, rfl, by decide +kernel, by decide +kernel⟩
theorem has_pair {C : Addr} (B : Bi mg) (RQ : RowQ P w K mg base C) (D : Df K mg "_law_pair_right" (top 28) ["mine", "mate", "due"]) : HasG P w K mg base "_law_pair_right" 6 ["mine", "mate", "due"] (spPair K C) := by
  have sc := scPair
  refine .of D fun f fd F => okG F sc (fun vs H Q E h => ?_) (fun cdv A outer s H vs Q E hgd hr h => ?_)
  · obtain ⟨x, y, b, rfl, _⟩ := h
    rfl
  · obtain ⟨x, y, b, rfl, h1, h2, k⟩ := h
    refine ⟨_, (pss_one (ps_ret (pe_cmpR op_eq (pe_callB (kRepr (K := K) hgd hr.units) (by rfl) B.repr (by decide +kernel) (pa_cons (pe_lstN (pa_cons (pe_cmpR (kEqQ RQ (hr.mono (by decide))) (pv 0) (pv 1) (nomark _)) (pa_cons (pe_cmpR (kEqQ RQ (hr.mono (by decide))) (pv 1) (pv 0) (nomark _)) (pa_cons (pe_cmpR (kNeQ RQ (hr.mono (by decide))) (pv 0) (pv 1) (nomark _)) (pa_cons (pe_cmpR (kNeQ RQ (hr.mono (by decide))) (pv 1) (pv 0) (nomark _)) pa_nil))))) pa_nil)) (pe_callB (kRepr (K := K) hgd hr.units) (by rfl) B.repr (by decide +kernel) (pa_cons (pe_lstN (pa_cons (pv 2) (pa_cons (pv 2) (pa_cons (pe_not (pv 2)) (pa_cons (pe_not (pv 2)) pa_nil))))) pa_nil)) (nomark _)))), ?_⟩
    walk_at "rd"
    refine ⟨b, h1, b, h2, b, h1, b, h2, by decide, fun T1 G1 n1 e1 t1 => ?_⟩
    obtain ⟨dd, hdd⟩ : ∃ dd : PyData, dd = .list [.bool b, .bool b, .bool (!b), .bool (!b)] := ⟨_, rfl⟩
    have gdd : Gd dd 1 (4 * 1932 + 3) := by
      rw [hdd]
      refine Gd.list (k := 0) (c := 1930) (n := 4) (fun z hz => ?_) (by simp)
      simp only [List.mem_cons, List.not_mem_nil, or_false] at hz
      rcases hz with rfl | rfl | rfl | rfl <;> exact Gd.bool _
    have dp : ∀ {G : Hp} {T : Addr}, G T = some (.lst [.bl b, .bl b, .bl (!b), .bl (!b)]) → Dp K G (.ref T) dd := fun t => by
      rw [hdd]
      exact .lst (.of t) (.cons (.bl _) (.cons (.bl _) (.cons (.bl _) (.cons (.bl _) .nil))))
    refine ⟨_, dd, _, _, rfl, dp t1, ⟨_, rfl⟩, gdd, by decide, by decide, ?_⟩
    refine ⟨by decide, fun T2 G2 n2 e2 t2 => ⟨_, dd, _, _, rfl, dp t2, ⟨_, rfl⟩, gdd, by decide, by decide, ?_⟩⟩
    refine ⟨rfl, ?_⟩
    rw [show decide (V.str dd.shown = V.str dd.shown) = true by simp]
    exact k _ (e1.trans e2)
end

section
variable {P : Program} {w : World} {K : PySem.W.Frag} {mg : Str → Option Value} {base : Heap}
open SX
def nDict : TE := fun _ H Q => New H (.dK []) Q
theorem pe_dnewN {X : Cx} {pos : Pos} : PE X (.Dict [] [] pos) nDict := ⟨fun pins s σ H Q I h => pe_dnewK.run pins s σ H Q I h.at⟩
theorem r_dict {σ : L2.St} {H : Hp} {Q : VK} : nDict σ H Q = New H (.dK []) Q := rfl
theorem eqv_ints : ∀ a b : List Int, PyData.eqvAll (a.map PyData.int) (b.map PyData.int) = decide (a = b)
  | [], [] => by simp [PyData.eqvAll]
  | [], _ :: _ => by simp [PyData.eqvAll]
  | _ :: _, [] => by simp [PyData.eqvAll]
  | x :: a, y :: b => by
    simp only [List.map_cons, PyData.eqvAll, PyData.eqv, eqv_ints a b, List.cons.injEq]
    by_cases h : x = y <;> simp [h]
theorem eqv_D (a b : List Int) : PyData.eqv (intsD a) (intsD b) = decide (a = b) := by
  unfold intsD
  simp only [PyData.eqv, eqv_ints]
/-- x is a tuple of counts of which a row can be made -/
def Oth (K : PySem.W.Frag) (H : Hp) (x : V) : Prop := ∃ o : List Int, IsInts K H x o ∧ RowOk o
theorem Oth.kp {H H' : Hp} {x : V} (h : Oth K H x) (e : Ex H H') : Oth K H' x := by
  obtain ⟨o, h1, h2⟩ := h
  exact ⟨o, h1.kp e.kp, h2⟩
theorem row_ok_of {o : List Int} (l2 : 2 ≤ o.length) (l6 : o.length ≤ 6) (b : ∀ c ∈ o, 0 ≤ c ∧ c ≤ 10 ^ 40) (p : ∃ c ∈ o, 0 < c) : RowOk o := by
  obtain ⟨c, hc, c0⟩ := p
  have h1 := gcdL_le hc c0
  have h2 := (b c hc).2
  have p40 : (10 ^ 40 : Int) = ((10 ^ 40 : Nat) : Int) := by decide
  exact ⟨l2, l6, fun c hc => (b c hc).1, gcdL_pos ⟨c, hc, by omega⟩, Nat.lt_of_le_of_lt (show gcdL o ≤ 10 ^ 40 by omega) (Nat.lt_of_lt_of_le (show 10 ^ 40 < 2 ^ 140 by decide) (Nat.pow_le_pow_right (by decide) (by decide)))⟩
theorem cut_one (xs : List V) : cutV xs none (some 1) = xs.take 1 := cut_take xs 1
theorem cut_from1 (xs : List V) : cutV xs (some 1) none = xs.drop 1 := cut_drop xs 1
end

local macro_rules | `(tactic| walk_at "rd") => `(tactic| try simp only [r_seq, r_asg, r_name, r_ifS, r_next, r_ret, r_retN, r_drop, r_test, r_B, r_if, r_cons, r_nil, r_cb, r_tF, r_part, r_nopart, r_sl, r_par, r_chain, r_or, r_and, r_not, r_orV, r_andV, r_notV, r_op, r_un, r_var, r_c, r_yes, r_I0, r_I, r_U, r_eqI, r_neI, r_eqS, r_neS, r_lst, r_tup, r_for, r_lc, r_list, r_tupI, r_rng1, r_rng2, r_enumT, r_bm, r_fld, r_subT, r_gtup, r_gcons, r_gnil, r_K0, r_K, r_Kb, r_Kbb, wipe, r_never, not_true_eq_false, not_false_eq_true, Int.zero_add, r_counts, r_draws, r_rates, r_row, r_len, r_sfld, r_zipB, r_revT, r_tW, r_seqI, r_m0, r_m1, r_js0, r_js, r_fmt, r_revN, r_rng3, r_enumL, r_text, r_rowV, r_readR, r_readW, r_rowW, r_dict,
  L2.start, List.map_cons, List.map_nil, List.length_cons, List.length_nil, Nat.reduceAdd, Nat.reduceSub, List.reduceReplicate, List.cons_append, List.nil_append, List.set_cons_zero, List.set_cons_succ, List.getElem?_cons_zero, List.getElem?_cons_succ, Option.some.injEq, exists_eq_left', exists_eq_left, exists_eq_right, exists_eq_right', V.int.injEq, V.ref.injEq, V.bl.injEq, V.str.injEq, List.cons.injEq, and_true, true_and, and_false, false_and, or_false, false_or, exists_false, exists_const, and_assoc, reduceCtorEq, if_true, if_false, Bool.false_eq_true, Bool.not_true, Bool.not_false, Bool.not_eq_true', decide_eq_true_eq, decide_eq_false_iff_not, exists_and_left, exists_and_right, exists_eq_or_imp])
section
variable {P : Program} {w : World} {K : PySem.W.Frag} {mg : Str → Option Value} {base : Heap}
open SX
def spRight : Sp := fun vs H Q _ => ∃ v, vs = [.ref v] ∧ VatAt H v ∧ ∀ H', Gv v H H' → Q (.bl true) H'
theorem scRight : FnScope ["vat", "again", "some", "mine", "page", "by", "at", "others", "count", "other", "thing"] ["vat"] (defScope (top 29)) := ⟨rfl, rfl, rfl, by decide +kernel, rfl, by decide +kernel, by decide +kernel⟩
theorem has_right {C : Addr} (B : Bi mg) (RT : RowT P w K mg base C) (RS : RowS P w K mg base C) (RR : RowR P w K mg base C) (h_law_dip : Has P w K mg base "_law_dip" 1 ["vat", "many"] spDip)
    (h_law_counts : Has P w K mg base "_law_counts" 2 ["vat", "way"] (spCounts K)) (h_law_plain : Has P w K mg base "_law_plain" 2 ["some"] (spPlain K)) (h_law_page : Has P w K mg base "_law_page" 1 ["some"] (spPage K)) (h_law_pair_right : HasG P w K mg base "_law_pair_right" 6 ["mine", "mate", "due"] (spPair K C))
    (D : Df K mg "_law_right" (top 29) ["vat"]) : HasG P w K mg base "_law_right" 10 ["vat"] spRight := by
  have sc := scRight
  refine .of D fun f fd F => okG F sc (fun vs H Q E h => ?_) (fun cdv A outer s H vs Q E hgd hr h => ?_)
  · obtain ⟨v, rfl, _⟩ := h
    rfl
  · obtain ⟨v, rfl, hv, k⟩ := h
    refine ⟨_, (pss_cons (ps_for PassesOwn.never rfl (pi_range1 (by rfl) B.range (pa_cons pe_int pa_nil)) (pg_name (i := 1) sc.nd rfl (by first | exact Or.inl rfl | exact Or.inr rfl))
      (pss_cons (ps_set (i := 2) sc.nd rfl (by first | exact Or.inl rfl | exact Or.inr rfl) (pe_has h_law_counts (hr.mono (by decide)) (pa_cons (pv 0) (pa_cons (pe_has h_law_dip (hr.mono (by decide)) (pa_cons (pv 0) (pa_cons pe_int pa_nil))) pa_nil))))
      (pss_cons (ps_par (i := 3) (j := 4) (by rfl) sc.nd rfl rfl (by decide) rfl rfl (pa_cons (kRow RT (hr.mono (by decide)) (pa_cons (pv 2) pa_nil)) (pa_cons (pe_has h_law_page (hr.mono (by decide)) (pa_cons (pe_has h_law_plain (hr.mono (by decide)) (pa_cons (pv 2) pa_nil)) pa_nil)) pa_nil)) (by rfl))
      (pss_cons (ps_set (i := 5) sc.nd rfl (by first | exact Or.inl rfl | exact Or.inr rfl) (pe_op op_add pe_int (pe_has h_law_dip (hr.mono (by decide)) (pa_cons (pv 0) (pa_cons pe_int pa_nil)))))
      (pss_cons (ps_set (i := 6) sc.nd rfl (by first | exact Or.inl rfl | exact Or.inr rfl) (pe_has h_law_dip (hr.mono (by decide)) (pa_cons (pv 0) (pa_cons (pe_callB (kLen (K := K)) (by rfl) B.len (by decide +kernel) (pa_cons (pv 2) pa_nil)) pa_nil))))
      (pss_cons (ps_set (i := 7) sc.nd rfl (by first | exact Or.inl rfl | exact Or.inr rfl) (pe_lstN (pa_cons (pv 2) (pa_cons (pe_callTy (kTuple (K := K)) (by rfl) B.tuple (by decide +kernel) (pa_cons (pe_lc (own := [("count", 8)]) (g := gName 8) (tt := tYes) rfl sc.nd (pi_tup (pv 2)) (blkOk_by (N := (["vat", "again", "some", "mine", "page", "by", "at", "others", "count", "other", "thing"] : List Str)) (sc := defScope (top 29)) (by decide +kernel)) (fun _ _ _ _ _ => (pg_name (i := 8) sc.nd rfl (by first | exact Or.inl rfl | exact Or.inr rfl))) (fun _ _ _ _ _ => pts_nil) (fun _ _ _ _ _ => (PE.mon (pe_op op_mulS (pv 5) (pv 8))))) pa_nil)) (pa_cons (pe_op (op_catTN (K := K)) (pe_op (op_catTN (K := K)) (pe_slice (sl_tupAN (K := K)) (pv 2) po_none (po_some (pv 6))) (pe_tupN (pa_cons (pe_op op_add (pe_ix (ixT (K := K)) (pv 2) (pv 6) (fun _ _ => rfl)) pe_int) pa_nil))) (pe_slice (sl_tupAN (K := K)) (pv 2) (po_some (pe_op op_add (pv 6) pe_int)) po_none)) (pa_cons (kRevT (K := K) (pv 2)) pa_nil))))))
      (pss_cons (ps_set (i := 7) sc.nd rfl (by first | exact Or.inl rfl | exact Or.inr rfl) (pe_op op_catN (pe_op op_catN (pv 7) (pe_lstN (pa_cons (pe_op (op_catTN (K := K)) (pe_slice (sl_tupAN (K := K)) (pv 2) (po_some pe_int) po_none) (pe_slice (sl_tupAN (K := K)) (pv 2) po_none (po_some pe_int))) pa_nil))) (PE.mon (pe_ifExp (pt_cmpR op_lt (pe_callB (kLen (K := K)) (by rfl) B.len (by decide +kernel) (pa_cons (pv 2) pa_nil)) pe_int (nomark _)) (pe_lstN (pa_cons (pe_op (op_catTN (K := K)) (pv 2) (pe_tupN (pa_cons pe_int pa_nil))) (pa_cons (pe_op (op_catTN (K := K)) (pe_tupN (pa_cons pe_int pa_nil)) (pv 2)) pa_nil))) (pe_lstN pa_nil)))))
      (pss_cons (ps_for PassesOwn.never rfl (pi_list (pv 7)) (pg_name (i := 9) sc.nd rfl (by first | exact Or.inl rfl | exact Or.inr rfl))
      (pss_one (ps_if (pt_not (pt_val (pe_hasG h_law_pair_right hgd (hr.mono (by decide)) (pa_cons (pv 3) (pa_cons (kRow RT (hr.mono (by decide)) (pa_cons (pv 9) pa_nil)) (pa_cons (pe_cmpR (op_eqB (K := K) hr.units) (pe_has h_law_plain (hr.mono (by decide)) (pa_cons (pv 9) pa_nil)) (pe_has h_law_plain (hr.mono (by decide)) (pa_cons (pv 2) pa_nil)) (nomark _)) pa_nil)))))) (pss_one (ps_ret pe_bl)) pss_nil)))
      (pss_cons (ps_if (PW.pt (pw_or (pt_not (pt_val (pe_hasG h_law_pair_right hgd (hr.mono (by decide)) (pa_cons (pv 3) (pa_cons (kReadR RR (hr.mono (by decide)) (pa_cons (pe_has h_law_page (hr.mono (by decide)) (pa_cons (pv 2) pa_nil)) pa_nil)) (pa_cons pe_bl pa_nil)))))) (pw_or1 (pt_cmpR op_ne (pe_callTy (kStrRow RR (hr.mono (by decide))) (by rfl) B.str (by decide +kernel) (pa_cons (pv 3) pa_nil)) (pv 4) (nomark _))))) (pss_one (ps_ret pe_bl)) pss_nil)
      (pss_one (ps_for PassesOwn.never rfl (pi_list (pe_lstN (pa_cons (pv 4) (pa_cons (pv 2) (pa_cons (kRates RT (hr.mono (by decide)) (pv 3)) (pa_cons pe_non (pa_cons pe_bl (pa_cons (pe_callB (kLen (K := K)) (by rfl) B.len (by decide +kernel) (pa_cons (pv 2) pa_nil)) (pa_cons pe_dnewN (pa_cons (pe_lstN (pa_cons (pv 3) pa_nil)) (pa_cons (pe_tupN (pa_cons (pv 3) pa_nil)) (pa_cons pe_str pa_nil)))))))))))) (pg_name (i := 10) sc.nd rfl (by first | exact Or.inl rfl | exact Or.inr rfl))
      (pss_one (ps_if (pt_not (pt_val (pe_hasG h_law_pair_right hgd (hr.mono (by decide)) (pa_cons (pv 3) (pa_cons (pv 10) (pa_cons pe_bl pa_nil)))))) (pss_one (ps_ret pe_bl)) pss_nil)))))))))))))
      (pss_one (ps_ret pe_bl))), ?_⟩
    walk_at "rd"
    refine ⟨by decide, by decide, ?_⟩
    obtain ⟨Pv, hP⟩ : ∃ P : Nat → L2.St → Hp → Prop, P = fun j σ' G => ∃ s1 s2 s3 s4 s5 s6 s7 s8 s9 s10 : Option V, σ' = [some (.ref v), s1, s2, s3, s4, s5, s6, s7, s8, s9, s10] ∧ Gv v H G := ⟨_, rfl⟩
    refine loopR Pv (by rw [hP]; exact ⟨_, _, _, _, _, _, _, _, _, _, rfl, .refl hv⟩) ?_ ?_
    · intro j σ' G hj h
      rw [hP] at h
      obtain ⟨s1, s2, s3, s4, s5, s6, s7, s8, s9, s10, rfl, gG⟩ := h
      walk_at "rd"
      refine ⟨v, 2, rfl, gG.new, by decide, by decide, fun d G1 g1 d0 d1 => ⟨v, d, rfl, g1.new, fun x G2 cs g2 hx hc => ?_⟩⟩
      obtain ⟨q, rfl, hq⟩ := hx
      have F := row_facts hc
      have gG2 := (gG.trans g1).trans g2
      obtain ⟨c0, c1, c2, c3, c4⟩ := id F.ok
      walk_at "rd"
      refine ⟨cs, ⟨q, rfl, hq⟩, F.ok, fun mine G3 e3 m3 => ?_⟩
      have hq3 := sqT_kp hq e3.kp
      refine ⟨q, cs, rfl, .inl hq3, by omega, c3, c4, fun xp G4 e4 hp => ?_⟩
      obtain ⟨qp, rfl, hqp⟩ := hp
      refine ⟨qp, _, rfl, hqp, sm_plain hc, fun G5 e5 => ?_⟩
      have hq5 := sqT_kp (sqT_kp hq3 e4.kp) e5.kp
      have m5 := (m3.kp e4.kp).kp e5.kp
      have gG5 := ((gG2.ex e3).ex e4).ex e5
      refine ⟨v, 9, rfl, gG5.new, by decide, by decide, fun r G6 g6 r0 r1 => ?_⟩
      walk_at "rd"
      have hq6 := sqT_kp hq5 g6.kp
      refine ⟨_, .inr hq6, ?_⟩
      rw [List.length_map]
      refine ⟨v, _, rfl, g6.new, by omega, Nat.lt_of_le_of_lt (Nat.log2_le_self _) (by omega), fun at1 G7 g7 a0 a1 => ?_⟩
      have hq7 := sqT_kp hq6 g7.kp
      have m7 := m5.kp (g6.kp.trans g7.kp)
      have gG7 := (gG5.trans g6).trans g7
      walk_at "rd"
      have nn : ∀ c ∈ cs, 0 ≤ c := fun c hc1 => (hc.2.2.1 c hc1).1
      obtain ⟨cp, hcp, cp0⟩ := sum_pos_ex nn hc.2.2.2
      have p30 : (10 : Int) ^ 30 + 1 ≤ 10 ^ 40 := by decide
      have p60 : sizeLine = 16777216 := by rw [sizeLine_eq]
      obtain ⟨n, rfl⟩ : ∃ n : Nat, at1 = (n : Int) := ⟨at1.toNat, by omega⟩
      have hn : n < cs.length := by omega
      have hcn := List.getElem?_eq_getElem hn
      have cn0 := hc.2.2.1 cs[n] (List.getElem_mem hn)
      refine ⟨⟨_, hq7⟩, fun Dd hD => lcTn (fun i y _ => ∃ c, cs[i]? = some c ∧ y = .int ((2 + r) * c)) (fun _ _ _ _ _ h => h) hD hq7 (by rw [List.length_map]; omega) (fun _ => rfl) ?_ ?_⟩
      · intro i x H2 hx e
        obtain ⟨c, hc1, rfl⟩ := map_int_get hx
        obtain ⟨R0, hR⟩ : ∃ R : VK, R = fun v H' => v = .int ((2 + r) * c) ∧ H' = H2 := ⟨_, rfl⟩
        refine ⟨R0, ?_, fun v H' h => by rw [hR] at h; obtain ⟨rfl, rfl⟩ := h; exact ⟨Ex.refl _, c, hc1, rfl⟩⟩
        walk_at "rd"
        refine ⟨cmulL, ?_⟩
        rw [hR]
        exact ⟨rfl, rfl⟩
      intro G8 ys e8 hy hl hr2
      rw [List.length_map] at hl
      have ey := ints_of_map hl hr2
      rw [ey] at hy
      refine ⟨Dd, _, rfl, .of hy, fun t1 G9 n9 e9 h9 => ?_⟩
      have o1 : Oth K G9 (.ref t1) := ⟨_, ⟨t1, rfl, .of h9⟩, F.ok_scale (by omega) (by omega)⟩
      have hq9 := sqT_kp hq7 (e8.trans e9).kp
      refine ⟨q, _, rfl, hq9, fun p1 G10 e10 h10 => ?_⟩
      rw [cut_take] at h10
      have hq10 := sqT_kp hq9 e10.kp
      have hat : atI (cs.map V.int) (n : Int) = some (.int cs[n]) := by
        obtain ⟨z, hz, e⟩ := at_int (ns := cs) (i := (n : Int)) (by omega) (by omega)
        rw [Int.toNat_natCast, hcn] at hz
        cases hz
        exact e
      refine q_ixT hq10 hat ?_
      refine ⟨_, _, rfl, rfl, ?_⟩
      refine ⟨by decide, fun T1 G11 n11 e11 t11 => ?_⟩
      refine ⟨p1, T1, _, _, rfl, rfl, sqT_kp h10 e11.kp, .of t11, by rw [List.length_take, List.length_map]; simp only [List.length_cons, List.length_nil]; omega, fun p2 G12 e12 h12 => ?_⟩
      have hq12 := sqT_kp hq10 (e11.trans e12).kp
      refine ⟨q, _, rfl, hq12, fun p3 G13 e13 h13 => ?_⟩
      rw [show ((n : Int) + 1) = ((n + 1 : Nat) : Int) by omega, cut_drop] at h13
      refine ⟨p2, p3, _, _, rfl, rfl, sqT_kp h12 e13.kp, h13, by simp only [List.length_append, List.length_take, List.length_drop, List.length_map, List.length_cons, List.length_nil]; omega, fun p4 G14 e14 h14 => ?_⟩
      have o2 : Oth K G14 (.ref p4) := by
        refine ⟨cs.take n ++ [cs[n] + 1] ++ cs.drop (n + 1), ⟨p4, rfl, ?_⟩, row_ok_of ?_ ?_ ?_ ⟨cs[n] + 1, by simp, by omega⟩⟩
        · rw [List.map_append, List.map_append, List.map_take, List.map_drop]
          exact h14
        · simp only [List.length_append, List.length_take, List.length_drop, List.length_cons, List.length_nil]
          omega
        · simp only [List.length_append, List.length_take, List.length_drop, List.length_cons, List.length_nil]
          omega
        · intro c hm
          rcases List.mem_append.mp hm with hm | hm
          · rcases List.mem_append.mp hm with hm | hm
            · have := hc.2.2.1 c (List.mem_of_mem_take hm)
              omega
            · rw [List.mem_singleton.mp hm]
              omega
          · have := hc.2.2.1 c (List.mem_of_mem_drop hm)
            omega
      have hq14 := sqT_kp hq12 (e13.trans e14).kp
      refine ⟨_, hq14, fun T2 G15 n15 e15 t15 => ?_⟩
      have o3 : Oth K G15 (.ref T2) := by
        refine ⟨cs.reverse, ⟨T2, rfl, .of (by rw [List.map_reverse]; exact t15)⟩, row_ok_of (by simpa using hc.1) (by simpa using hc.2.1) (fun c hm => ?_) ⟨cp, List.mem_reverse.mpr hcp, cp0⟩⟩
        have := hc.2.2.1 c (List.mem_reverse.mp hm)
        omega
      refine ⟨by decide, fun L1 G16 n16 e16 t16 => ?_⟩
      have hq16 := sqT_kp hq14 (e15.trans e16).kp
      refine ⟨q, _, rfl, hq16, fun p5 G17 e17 h17 => ⟨q, _, rfl, sqT_kp hq16 e17.kp, fun p6 G18 e18 h18 => ?_⟩⟩
      rw [cut_from1] at h17
      rw [cut_one] at h18
      refine ⟨p5, p6, _, _, rfl, rfl, sqT_kp h17 e18.kp, h18, by simp only [List.length_take, List.length_drop, List.length_map]; omega, fun p7 G19 e19 h19 => ⟨by decide, fun Lb G20 n20 e20 t20 => ?_⟩⟩
      have o4 : Oth K G19 (.ref p7) := by
        refine ⟨cs.drop 1 ++ cs.take 1, ⟨p7, rfl, by rw [List.map_append, List.map_take, List.map_drop]; exact h19⟩, row_ok_of ?_ ?_ ?_ ⟨cp, ?_, cp0⟩⟩
        · simp only [List.length_append, List.length_take, List.length_drop]
          omega
        · simp only [List.length_append, List.length_take, List.length_drop]
          omega
        · intro c hm
          rcases List.mem_append.mp hm with hm | hm
          · have := hc.2.2.1 c (List.mem_of_mem_drop hm)
            omega
          · have := hc.2.2.1 c (List.mem_of_mem_take hm)
            omega
        · rw [List.mem_append]
          have : cp ∈ cs.take 1 ++ cs.drop 1 := by rw [List.take_append_drop]; exact hcp
          rcases List.mem_append.mp this with h | h
          · exact .inr h
          · exact .inl h
      have e1620 := ((e17.trans e18).trans e19).trans e20
      refine ⟨L1, Lb, _, _, rfl, rfl, e1620 _ _ t16, t20, by simp only [List.length_cons, List.length_nil]; omega, fun L3 G21 n21 e21 t21 => ?_⟩
      have hq21 := sqT_kp hq16 (e1620.trans e21).kp
      obtain ⟨R0, hR⟩ : ∃ R : VK, R = fun y G' => Ex G21 G' ∧ ∃ b zs, y = .ref b ∧ G' b = some (.lst zs) ∧ zs.length ≤ 2 ∧ ∀ z ∈ zs, Oth K G' z := ⟨_, rfl⟩
      refine ⟨R0, ?_, fun y G22 h => ?_⟩
      · walk_at "rd"
        refine ⟨_, .inr hq21, ?_⟩
        rw [List.length_map]
        split
        · rename_i hlt
          refine ⟨by omega, fun T3 Ga na ea ta => ?_⟩
          refine ⟨q, T3, _, _, rfl, rfl, sqT_kp hq21 ea.kp, .of ta, by rw [List.length_map]; simp only [List.length_cons, List.length_nil]; omega, fun p8 Gb eb h8 => ⟨by omega, fun T4 Gc nc ec tc => ?_⟩⟩
          refine ⟨T4, q, _, _, rfl, rfl, .of tc, sqT_kp (sqT_kp hq21 ea.kp) (eb.trans ec).kp, by rw [List.length_map]; simp only [List.length_cons, List.length_nil]; omega, fun p9 Gd2 ed h9 => ⟨by omega, fun L5 Ge ne ee te => ?_⟩⟩
          rw [hR]
          refine ⟨(((ea.trans eb).trans ec).trans ed).trans ee, L5, _, rfl, te, by simp, fun z hz => ?_⟩
          have b0 : ∀ c ∈ cs, 0 ≤ c ∧ c ≤ 10 ^ 40 := fun c hm => by have := hc.2.2.1 c hm; omega
          simp only [List.mem_cons, List.not_mem_nil, or_false] at hz
          rcases hz with rfl | rfl
          · refine ⟨cs ++ [0], ⟨p8, rfl, sqT_kp (by rw [List.map_append]; exact h8) ((ec.trans ed).trans ee).kp⟩, row_ok_of (by simp; omega) (by simp; omega) (fun c hm => ?_) ⟨cp, List.mem_append.mpr (.inl hcp), cp0⟩⟩
            rcases List.mem_append.mp hm with hm | hm
            · exact b0 c hm
            · rw [List.mem_singleton.mp hm]
              exact ⟨by decide, by decide⟩
          · refine ⟨[0] ++ cs, ⟨p9, rfl, sqT_kp (by rw [List.map_append]; exact h9) ee.kp⟩, row_ok_of (by simp; omega) (by simp; omega) (fun c hm => ?_) ⟨cp, List.mem_append.mpr (.inr hcp), cp0⟩⟩
            rcases List.mem_append.mp hm with hm | hm
            · rw [List.mem_singleton.mp hm]
              exact ⟨by decide, by decide⟩
            · exact b0 c hm
        · refine ⟨by omega, fun L5 Ge ne ee te => ?_⟩
          rw [hR]
          exact ⟨ee, L5, [], rfl, te, by simp, by simp⟩
      rw [hR] at h
      obtain ⟨e22, b, zs, rfl, hb, lz, oz⟩ := h
      refine ⟨L3, b, _, _, rfl, rfl, e22 _ _ t21, hb, by simp only [List.length_append, List.length_cons, List.length_nil]; omega, fun L4 G23 n23 e23 t23 => ?_⟩
      have e923 : Ex G9 G23 := by
        have e1 := ((((e10.trans e11).trans e12).trans e13).trans e14).trans e15
        exact ((((e1.trans e16).trans e1620).trans e21).trans e22).trans e23
      have e723 : Ex G7 G23 := (e8.trans e9).trans e923
      have hq23 := sqT_kp hq7 e723.kp
      have m23 := m7.kp e723.kp
      have gG23 := gG7.ex e723
      have all : ∀ x ∈ (([V.ref q, .ref t1, .ref p4, .ref T2] ++ [V.ref p7]) ++ zs), Oth K G23 x := by
        have e2023 := (e21.trans e22).trans e23
        have e1623 := e1620.trans e2023
        intro x hx
        rcases List.mem_append.mp hx with hx | hx
        · simp only [List.cons_append, List.nil_append, List.mem_cons, List.not_mem_nil, or_false] at hx
          rcases hx with rfl | rfl | rfl | rfl | rfl
          · exact ⟨cs, ⟨q, rfl, hq23⟩, F.ok⟩
          · exact o1.kp e923
          · exact o2.kp ((e15.trans e16).trans e1623)
          · exact o3.kp (e16.trans e1623)
          · exact o4.kp (e20.trans e2023)
        · exact (oz x hx).kp e23
      refine ⟨L4, rfl, ⟨_, .of t23⟩, ?_⟩
      clear e10 e11 e12 e13 e14 e15 e16 e17 e18 e19 e20 e21 e22 e23 e8 e9 o1 o2 o3 o4 hq9 hq10 hq12 hq14 hq16 hq21 e923 e723 e1620 hq3 hq5 hq6 hq7 m3 m5 m7 gG5 gG7 gG2
      generalize (([V.ref q, .ref t1, .ref p4, .ref T2] ++ [V.ref p7]) ++ zs) = os at t23 all
      obtain ⟨Pk, hPk⟩ : ∃ P : Nat → L2.St → Hp → Prop, P = fun i σ' G => ∃ z : Option V, σ' = [some (.ref v), some (.int j), some (.ref q), some mine, some (.str (pageS (natsI (plainL cs)))), some (.int (2 + r)), some (.int n), some (.ref L4), s8, z, s10] ∧ Ex G23 G := ⟨_, rfl⟩
      refine loopL (xs := os) Pk (by rw [hPk]; exact ⟨_, rfl, .refl _⟩) (fun i σ' G _ h => by rw [hPk] at h; obtain ⟨_, _, e⟩ := h; exact .of (e _ _ t23)) ?_ ?_
      · intro i x σ' G hx h
        rw [hPk] at h
        obtain ⟨z, rfl, eG⟩ := h
        obtain ⟨o, ⟨po, rfl, hpo⟩, ok⟩ := (all x (List.mem_of_getElem? hx)).kp eG
        have ⟨ol2, ol6, _, og0, og1⟩ := id ok
        walk_at "rd"
        refine ⟨o, ⟨po, rfl, hpo⟩, ok, fun mate Ga ea ma => ?_⟩
        refine ⟨po, o, rfl, .inl (sqT_kp hpo ea.kp), by omega, og0, og1, fun xo Gb eb ho => ?_⟩
        refine ⟨q, cs, rfl, .inl (sqT_kp hq23 ((eG.trans ea).trans eb).kp), by omega, c3, c4, fun xs Gc ec hs => ?_⟩
        refine ⟨intsD (plainL o), intsD (plainL cs), (ho.kp ec.kp).dp, hs.dp, shaped_ints _, shaped_ints _, ?_⟩
        have mc := m23.kp (((eG.trans ea).trans eb).trans ec).kp
        have mac := ma.kp (eb.trans ec).kp
        refine ⟨mine, mate, _, rfl, .inl ⟨_, _, mc, mac, ?_⟩, .inl ⟨_, _, mac, mc, rfl⟩, fun Gd2 ed => ?_⟩
        · rw [eqv_D, eqv_D]
          exact decide_eq_decide.mpr eq_comm
        walk_at "rd"
        rw [hPk]
        exact ⟨_, rfl, (((eG.trans ea).trans eb).trans ec).trans ed⟩
      intro σ' G h
      rw [hPk] at h
      obtain ⟨z9, rfl, eG⟩ := h
      have hqG := sqT_kp hq23 eG.kp
      have mG := m23.kp eG.kp
      have gG24 := gG23.ex eG
      walk_at "rd"
      have same : ∀ ps : List Int, PyData.eqv (intsD ps) (intsD ps) = true := fun ps => SeqAt.eqv_refl _ (SeqAt.canLay_of_shaped (shaped_ints _))
      have ne_same : ∀ {z : Str} {H' : Hp} {QQ : VK}, QQ (.bl false) H' → rNe (.str z) (.str z) H' QQ := fun {z H' QQ} h => by
        refine ⟨rfl, ?_⟩
        rw [show (!decide (V.str z = V.str z)) = false by simp]
        exact h
      refine ⟨q, cs, rfl, hqG, sm_of hc, fun Ga ea => ⟨natsI cs, rfl, page_ok (sm_of hc) hc.2.2.2, fun mt Gb eb mt1 => ?_⟩⟩
      rw [nats_back nn] at mt1
      have mB := mG.kp (ea.trans eb).kp
      refine ⟨mine, mt, true, rfl, .inl ⟨_, _, mB, mt1, (same _).symm⟩, .inl ⟨_, _, mt1, mB, (same _).symm⟩, fun Gc ec => ⟨true, rfl, ?_⟩⟩
      rw [if_neg (by decide)]
      have mC := mB.kp ec.kp
      refine ⟨_, _, rfl, mC, sm_plain hc, fun Gd2 ed => ne_same ⟨false, rfl, ?_⟩⟩
      rw [if_neg (by decide)]
      have mD := mC.kp ed.kp
      refine ⟨_, mD, F.len, F.spos, lt2_mono F.slt (by decide), fun y Ge ee hy => ?_⟩
      have eGe := (((ea.trans eb).trans ec).trans ed).trans ee
      have hqe := sqT_kp hqG eGe.kp
      refine ⟨_, .inr hqe, fun Dk Gf nf ef df => ⟨by omega, fun Lm Gg ng eg tg => ⟨by omega, fun Tm Gh nh eh th => ⟨by omega, fun Lt Gi ni ei ti => ?_⟩⟩⟩⟩
      have eei := ((ef.trans eg).trans eh).trans ei
      have mI := mD.kp (ee.trans eei).kp
      have gGi := gG24.ex (eGe.trans eei)
      have odd : ∀ x ∈ [V.str (pageS (natsI (plainL cs))), V.ref q, y, V.non, V.bl true, V.int ((cs.map V.int).length : Nat), V.ref Dk, V.ref Lm, V.ref Tm, V.str (Str.ofString "")], ∃ T, OddK K Gi x T := by
        intro x hx
        simp only [List.mem_cons, List.not_mem_nil, or_false] at hx
        rcases hx with rfl | rfl | rfl | rfl | rfl | rfl | rfl | rfl | rfl | rfl
        · exact ⟨_, .str _⟩
        · exact ⟨_, .tup (sqT_kp hqe eei.kp)⟩
        · obtain ⟨p, xs, rfl, h1, _⟩ := hy
          exact ⟨_, .tup (sqT_kp h1 eei.kp)⟩
        · exact ⟨_, .non⟩
        · exact ⟨_, .bl _⟩
        · exact ⟨_, .int _⟩
        · exact ⟨_, .dct (((eg.trans eh).trans ei) _ _ df)⟩
        · exact ⟨_, .lst (.of ((eh.trans ei) _ _ tg))⟩
        · exact ⟨_, .tup (.of (ei _ _ th))⟩
        · exact ⟨_, .str _⟩
      refine ⟨Lt, rfl, ⟨_, .of ti⟩, ?_⟩
      generalize [V.str (pageS (natsI (plainL cs))), V.ref q, y, V.non, V.bl true, V.int ((cs.map V.int).length : Nat), V.ref Dk, V.ref Lm, V.ref Tm, V.str (Str.ofString "")] = ts at ti odd
      clear all m23 mG mB mC mD hy hqe hqG ne_same
      obtain ⟨Pt, hPt⟩ : ∃ P : Nat → L2.St → Hp → Prop, P = fun i σ' G => ∃ z : Option V, σ' = [some (.ref v), some (.int j), some (.ref q), some mine, some (.str (pageS (natsI (plainL cs)))), some (.int (2 + r)), some (.int n), some (.ref L4), s8, z9, z] ∧ Ex Gi G := ⟨_, rfl⟩
      refine loopL (xs := ts) Pt (by rw [hPt]; exact ⟨_, rfl, .refl _⟩) (fun i σ' G _ h => by rw [hPt] at h; obtain ⟨_, _, e⟩ := h; exact .of (e _ _ ti)) ?_ ?_
      · intro i x σ' G' hx h
        rw [hPt] at h
        obtain ⟨z, rfl, e'⟩ := h
        obtain ⟨T, ho⟩ := odd x (List.mem_of_getElem? hx)
        have ho' := ho.kp e'
        have m' := mI.kp e'.kp
        walk_at "rd"
        refine ⟨mine, x, false, rfl, .inr (.inl ⟨_, T, m', ho', rfl⟩), .inr (.inr ⟨_, T, ho', m', rfl⟩), fun Gj ej => ?_⟩
        walk_at "rd"
        rw [hPt]
        exact ⟨_, rfl, e'.trans ej⟩
      · intro σ' G' h
        rw [hPt] at h
        obtain ⟨z, rfl, e'⟩ := h
        rw [hP]
        exact ⟨_, _, _, _, _, _, _, _, _, _, rfl, gGi.ex e'⟩
    · intro σ' G h
      rw [hP] at h
      obtain ⟨s1, s2, s3, s4, s5, s6, s7, s8, s9, s10, rfl, gG⟩ := h
      walk_at "rd"
      exact k _ gG
end

section
variable {P : Program} {w : World} {K : PySem.W.Frag} {mg : Str → Option Value} {base : Heap}
/-! ### _law_quiet, law -/
theorem scQuiet : FnScope ["vat", "is_right"] ["vat"] (defScope (top 30)) := ⟨rfl, rfl, rfl, by decide +kernel, rfl, by decide +kernel, by decide +kernel⟩
theorem has_quiet (h_law_right : HasG P w K mg base "_law_right" 10 ["vat"] spRight) (D : Df K mg "_law_quiet" (top 30) ["vat"]) : HasG P w K mg base "_law_quiet" 11 ["vat"] spRight := by
  have sc := scQuiet
  refine .of D fun f fd F => okG F sc (fun vs H Q E h => ?_) (fun cdv A outer s H vs Q E hgd hr h => ?_)
  · obtain ⟨v, rfl, _⟩ := h
    rfl
  · obtain ⟨v, rfl, hv, k⟩ := h
    refine ⟨_, (pss_cons (ps_try_thru0 (pss_one (ps_set (i := 1) sc.nd rfl (by first | exact Or.inl rfl | exact Or.inr rfl) (pe_hasG h_law_right hgd (hr.mono (by decide)) (pa_cons (pv 0) pa_nil)))))
      (pss_one (ps_ret (pv 1)))), ?_⟩
    walk_at "rd"
    refine ⟨v, rfl, hv, fun H' g => ?_⟩
    walk_at "rd"
    exact k _ g
def spLaw (K : PySem.W.Frag) : Sp := fun vs H Q _ => ∃ (a : Addr) (ns : List Int), vs = [.ref a] ∧ SqL K H a (ns.map V.int) ∧ ns.length ≤ 63 ∧ ∀ H', Q (.bl true) H'
theorem scLaw : FnScope ["script", "at"] ["script"] (defScope (top 31)) := ⟨rfl, rfl, rfl, by decide +kernel, rfl, by decide +kernel, by decide +kernel⟩
theorem ok_law (B : Bi mg) (h_law_vat : Has P w K mg base "_law_vat" 1 ["script", "at"] (spVat K)) (h_law_quiet : HasG P w K mg base "_law_quiet" 11 ["vat"] spRight) {f : Addr} {fd : FuncData} (F : Fun K "law" "law" (top 31) f fd) : FnG P w K mg base 12 f fd ["script"] (spLaw K) := by
  have sc := scLaw
  refine okG F sc (fun vs H Q E h => ?_) (fun cdv A outer s H vs Q E hgd hr h => ?_)
  · obtain ⟨a, ns, rfl, _⟩ := h
    rfl
  · obtain ⟨a, ns, rfl, hS, hlen, k⟩ := h
    refine ⟨_, (pss_one (ps_ret (pe_callB (kAll (K := K) rfl) (by rfl) B.all (by decide +kernel) (pa_cons (pe_lc (own := [("at", 1)]) (g := gName 1) (tt := tYes) rfl sc.nd (pi_range1 (by rfl) B.range (pa_cons (pe_callB (call_max2 rfl) (by rfl) B.max (by decide +kernel) (pa_cons pe_int (pa_cons (pe_callB (call_min2 rfl) (by rfl) B.min (by decide +kernel) (pa_cons (pe_callB (kLen (K := K)) (by rfl) B.len (by decide +kernel) (pa_cons (pv 0) pa_nil)) (pa_cons pe_int pa_nil))) pa_nil))) pa_nil)) (blkOk_by (N := (["script", "at"] : List Str)) (sc := defScope (top 31)) (by decide +kernel)) (fun _ _ _ _ _ => (pg_name (i := 1) sc.nd rfl (by first | exact Or.inl rfl | exact Or.inr rfl))) (fun _ _ _ _ _ => pts_nil) (fun _ _ _ _ _ => (PE.mon (pe_hasG h_law_quiet hgd (hr.mono (by decide)) (pa_cons (pe_has h_law_vat (hr.mono (by decide)) (pa_cons (pv 0) (pa_cons (pv 1) pa_nil))) pa_nil))))) pa_nil)))), ?_⟩
    walk_at "rd"
    refine ⟨_, .inl hS, ?_⟩
    rw [List.length_map]
    generalize hm : (if (if _ < ((ns.length : Nat) : Int) then _ else ((ns.length : Nat) : Int)) > 2 then (if _ < ((ns.length : Nat) : Int) then _ else ((ns.length : Nat) : Int)) else (2 : Int)) = m
    have m5 : 0 ≤ m ∧ m ≤ 5 := by
      rw [← hm]
      repeat' split
      all_goals omega
    refine ⟨by omega, by omega, fun Dd hD => lcR (fun _ y _ => y = .bl true) (fun _ _ _ _ _ h => h) hD (by omega) (fun _ => rfl) ?_ ?_⟩
    · intro i G hi e
      obtain ⟨R0, hR⟩ : ∃ R : VK, R = fun y G' => Ex G G' ∧ y = .bl true := ⟨_, rfl⟩
      refine ⟨R0, ?_, fun y G' h => by rw [hR] at h; exact h⟩
      walk_at "rd"
      refine ⟨a, ns, _, rfl, sqL_ex hS e, hlen, by omega, by omega, fun v G2 n2 e2 hv => ⟨v, rfl, hv, fun G3 g => ?_⟩⟩
      rw [hR]
      exact ⟨Gv.out n2 e2 g, rfl⟩
    · intro G ys e hy hl hr2
      have ey : ys = (List.replicate m.toNat true).map V.bl := by
        apply List.ext_getElem?
        intro i
        by_cases hi : i < ys.length
        · rw [List.getElem?_eq_getElem hi, hr2 i _ (List.getElem?_eq_getElem hi)]
          simp [List.getElem?_replicate, show i < m.toNat by omega]
        · rw [List.getElem?_eq_none (by omega), List.getElem?_eq_none (by simp; omega)]
      rw [ey] at hy
      refine ⟨Dd, _, rfl, .of hy, ?_⟩
      have : (List.replicate m.toNat true).all id = true := by simp
      rw [this]
      exact k _
end

/-! ### the end -/
theorem all_mk {l : PySem.W.OpenLaw} {w : World} {K : PySem.W.Frag} {h : Heap} {mg : Str → Option Value} {fa : Addr} (X : K.In h) (G : h.Ns mainGlobals mg) (hfa : mg "law" = some (.ref fa))
    {f1 : Addr} {od1 an1 : Option Addr} {sl1 : Array (Option Value)} {oc1 kV1 dc1 pm1 cd1 ct1 : Value}
    {f2 : Addr} {od2 an2 : Option Addr} {sl2 : Array (Option Value)} {oc2 kV2 dc2 pm2 cd2 ct2 : Value}
    {f3 : Addr} {od3 an3 : Option Addr} {sl3 : Array (Option Value)} {oc3 kV3 dc3 pm3 cd3 ct3 : Value}
    {f4 : Addr} {od4 an4 : Option Addr} {sl4 : Array (Option Value)} {oc4 kV4 dc4 pm4 cd4 ct4 : Value}
    {f5 : Addr} {od5 an5 : Option Addr} {sl5 : Array (Option Value)} {oc5 kV5 dc5 pm5 cd5 ct5 : Value}
    {f6 : Addr} {od6 an6 : Option Addr} {sl6 : Array (Option Value)} {oc6 kV6 dc6 pm6 cd6 ct6 : Value}
    {f7 : Addr} {od7 an7 : Option Addr} {sl7 : Array (Option Value)} {oc7 kV7 dc7 pm7 cd7 ct7 : Value}
    {f8 : Addr} {od8 an8 : Option Addr} {sl8 : Array (Option Value)} {oc8 kV8 dc8 pm8 cd8 ct8 : Value}
    {f9 : Addr} {od9 an9 : Option Addr} {sl9 : Array (Option Value)} {oc9 kV9 dc9 pm9 cd9 ct9 : Value}
    {f10 : Addr} {od10 an10 : Option Addr} {sl10 : Array (Option Value)} {oc10 kV10 dc10 pm10 cd10 ct10 : Value}
    {f11 : Addr} {od11 an11 : Option Addr} {sl11 : Array (Option Value)} {oc11 kV11 dc11 pm11 cd11 ct11 : Value}
    {f12 : Addr} {od12 an12 : Option Addr} {sl12 : Array (Option Value)} {oc12 kV12 dc12 pm12 cd12 ct12 : Value}
    {f13 : Addr} {od13 an13 : Option Addr} {sl13 : Array (Option Value)} {oc13 kV13 dc13 pm13 cd13 ct13 : Value}
    {f14 : Addr} {od14 an14 : Option Addr} {sl14 : Array (Option Value)} {oc14 kV14 dc14 pm14 cd14 ct14 : Value}
    {f15 : Addr} {od15 an15 : Option Addr} {sl15 : Array (Option Value)} {oc15 kV15 dc15 pm15 cd15 ct15 : Value}
    {f16 : Addr} {od16 an16 : Option Addr} {sl16 : Array (Option Value)} {oc16 kV16 dc16 pm16 cd16 ct16 : Value}
    {f17 : Addr} {od17 an17 : Option Addr} {sl17 : Array (Option Value)} {oc17 kV17 dc17 pm17 cd17 ct17 : Value}
    {C : Addr}
    {f18 : Addr} {od18 an18 : Option Addr} {sl18 : Array (Option Value)} {oc18 kV18 dc18 pm18 cd18 ct18 : Value}
    {f19 : Addr} {od19 an19 : Option Addr} {sl19 : Array (Option Value)} {oc19 kV19 dc19 pm19 cd19 ct19 : Value}
    {f20 p20 : Addr} {r20 : List Value} {od20 an20 : Option Addr} {sl20 : Array (Option Value)} {oc20 kV20 dc20 pm20 cd20 ct20 : Value}
    {f21 p21 : Addr} {r21 : List Value} {od21 an21 : Option Addr} {sl21 : Array (Option Value)} {oc21 kV21 dc21 pm21 cd21 ct21 : Value}
    {f22 p22 : Addr} {r22 : List Value} {od22 an22 : Option Addr} {sl22 : Array (Option Value)} {oc22 kV22 dc22 pm22 cd22 ct22 : Value}
    {f23 p23 : Addr} {r23 : List Value} {od23 an23 : Option Addr} {sl23 : Array (Option Value)} {oc23 kV23 dc23 pm23 cd23 ct23 : Value}
    {N : Addr} {nm qn : Str} {bs : List Value} {hdct : Bool} {sn : List Str} {sub : List Value} {ab : Bool} {col : Option Bool} {dd : Option Addr} {q0 q1 q2 q3 q5 : Option Value} {newId : String}
    {f24 : Addr} {od24 an24 : Option Addr} {sl24 : Array (Option Value)} {oc24 kV24 dc24 pm24 cd24 ct24 : Value}
    {f25 : Addr} {od25 an25 : Option Addr} {sl25 : Array (Option Value)} {oc25 kV25 dc25 pm25 cd25 ct25 : Value}
    {f26 : Addr} {od26 an26 : Option Addr} {sl26 : Array (Option Value)} {oc26 kV26 dc26 pm26 cd26 ct26 : Value}
    {f27 p27 : Addr} {r27 : List Value} {od27 an27 : Option Addr} {sl27 : Array (Option Value)} {oc27 kV27 dc27 pm27 cd27 ct27 : Value}
    {tk tk2 tk3 : Tok}
    (a1 : PySem.W.nsIn K mainGlobals "is_whole" = some (some (.ref f1)))
    (l1 : K.lookup f1 = some ⟨oc1, od1, .func (PySem.W.fnOf "is_whole" "is_whole" (defArgs (top 11)) (defBody (top 11)) (defScope (top 11)) .none kV1 dc1 pm1 an1 cd1 ct1), sl1⟩)
    (c1 : PySem.W.codeIn K cd1 "is_whole" = true)
    (k1 : PySem.W.keepIn K (.ref f1) = true)
    (a2 : PySem.W.nsIn K mainGlobals "lowest" = some (some (.ref f2)))
    (l2 : K.lookup f2 = some ⟨oc2, od2, .func (PySem.W.fnOf "lowest" "lowest" (defArgs (top 12)) (defBody (top 12)) (defScope (top 12)) .none kV2 dc2 pm2 an2 cd2 ct2), sl2⟩)
    (c2 : PySem.W.codeIn K cd2 "lowest" = true)
    (k2 : PySem.W.keepIn K (.ref f2) = true)
    (a3 : PySem.W.nsIn K mainGlobals "is_decimal" = some (some (.ref f3)))
    (l3 : K.lookup f3 = some ⟨oc3, od3, .func (PySem.W.fnOf "is_decimal" "is_decimal" (defArgs (top 13)) (defBody (top 13)) (defScope (top 13)) .none kV3 dc3 pm3 an3 cd3 ct3), sl3⟩)
    (c3 : PySem.W.codeIn K cd3 "is_decimal" = true)
    (k3 : PySem.W.keepIn K (.ref f3) = true)
    (a4 : PySem.W.nsIn K mainGlobals "read_decimal" = some (some (.ref f4)))
    (l4 : K.lookup f4 = some ⟨oc4, od4, .func (PySem.W.fnOf "read_decimal" "read_decimal" (defArgs (top 14)) (defBody (top 14)) (defScope (top 14)) .none kV4 dc4 pm4 an4 cd4 ct4), sl4⟩)
    (c4 : PySem.W.codeIn K cd4 "read_decimal" = true)
    (k4 : PySem.W.keepIn K (.ref f4) = true)
    (a5 : PySem.W.nsIn K mainGlobals "write_decimal" = some (some (.ref f5)))
    (l5 : K.lookup f5 = some ⟨oc5, od5, .func (PySem.W.fnOf "write_decimal" "write_decimal" (defArgs (top 15)) (defBody (top 15)) (defScope (top 15)) .none kV5 dc5 pm5 an5 cd5 ct5), sl5⟩)
    (c5 : PySem.W.codeIn K cd5 "write_decimal" = true)
    (k5 : PySem.W.keepIn K (.ref f5) = true)
    (a6 : PySem.W.nsIn K mainGlobals "_check_counts" = some (some (.ref f6)))
    (l6 : K.lookup f6 = some ⟨oc6, od6, .func (PySem.W.fnOf "_check_counts" "_check_counts" (defArgs (top 19)) (defBody (top 19)) (defScope (top 19)) .none kV6 dc6 pm6 an6 cd6 ct6), sl6⟩)
    (c6 : PySem.W.codeIn K cd6 "_check_counts" = true)
    (k6 : PySem.W.keepIn K (.ref f6) = true)
    (a7 : PySem.W.nsIn K mainGlobals "_told_counts" = some (some (.ref f7)))
    (l7 : K.lookup f7 = some ⟨oc7, od7, .func (PySem.W.fnOf "_told_counts" "_told_counts" (defArgs (top 20)) (defBody (top 20)) (defScope (top 20)) .none kV7 dc7 pm7 an7 cd7 ct7), sl7⟩)
    (c7 : PySem.W.codeIn K cd7 "_told_counts" = true)
    (k7 : PySem.W.keepIn K (.ref f7) = true)
    (a8 : PySem.W.nsIn K mainGlobals "_law_vat" = some (some (.ref f8)))
    (l8 : K.lookup f8 = some ⟨oc8, od8, .func (PySem.W.fnOf "_law_vat" "_law_vat" (defArgs (top 22)) (defBody (top 22)) (defScope (top 22)) .none kV8 dc8 pm8 an8 cd8 ct8), sl8⟩)
    (c8 : PySem.W.codeIn K cd8 "_law_vat" = true)
    (k8 : PySem.W.keepIn K (.ref f8) = true)
    (a9 : PySem.W.nsIn K mainGlobals "_law_dip" = some (some (.ref f9)))
    (l9 : K.lookup f9 = some ⟨oc9, od9, .func (PySem.W.fnOf "_law_dip" "_law_dip" (defArgs (top 23)) (defBody (top 23)) (defScope (top 23)) .none kV9 dc9 pm9 an9 cd9 ct9), sl9⟩)
    (c9 : PySem.W.codeIn K cd9 "_law_dip" = true)
    (k9 : PySem.W.keepIn K (.ref f9) = true)
    (a10 : PySem.W.nsIn K mainGlobals "_law_shared" = some (some (.ref f10)))
    (l10 : K.lookup f10 = some ⟨oc10, od10, .func (PySem.W.fnOf "_law_shared" "_law_shared" (defArgs (top 24)) (defBody (top 24)) (defScope (top 24)) .none kV10 dc10 pm10 an10 cd10 ct10), sl10⟩)
    (c10 : PySem.W.codeIn K cd10 "_law_shared" = true)
    (k10 : PySem.W.keepIn K (.ref f10) = true)
    (a11 : PySem.W.nsIn K mainGlobals "_law_plain" = some (some (.ref f11)))
    (l11 : K.lookup f11 = some ⟨oc11, od11, .func (PySem.W.fnOf "_law_plain" "_law_plain" (defArgs (top 25)) (defBody (top 25)) (defScope (top 25)) .none kV11 dc11 pm11 an11 cd11 ct11), sl11⟩)
    (c11 : PySem.W.codeIn K cd11 "_law_plain" = true)
    (k11 : PySem.W.keepIn K (.ref f11) = true)
    (a12 : PySem.W.nsIn K mainGlobals "_law_counts" = some (some (.ref f12)))
    (l12 : K.lookup f12 = some ⟨oc12, od12, .func (PySem.W.fnOf "_law_counts" "_law_counts" (defArgs (top 26)) (defBody (top 26)) (defScope (top 26)) .none kV12 dc12 pm12 an12 cd12 ct12), sl12⟩)
    (c12 : PySem.W.codeIn K cd12 "_law_counts" = true)
    (k12 : PySem.W.keepIn K (.ref f12) = true)
    (a13 : PySem.W.nsIn K mainGlobals "_law_page" = some (some (.ref f13)))
    (l13 : K.lookup f13 = some ⟨oc13, od13, .func (PySem.W.fnOf "_law_page" "_law_page" (defArgs (top 27)) (defBody (top 27)) (defScope (top 27)) .none kV13 dc13 pm13 an13 cd13 ct13), sl13⟩)
    (c13 : PySem.W.codeIn K cd13 "_law_page" = true)
    (k13 : PySem.W.keepIn K (.ref f13) = true)
    (a14 : PySem.W.nsIn K mainGlobals "_law_pair_right" = some (some (.ref f14)))
    (l14 : K.lookup f14 = some ⟨oc14, od14, .func (PySem.W.fnOf "_law_pair_right" "_law_pair_right" (defArgs (top 28)) (defBody (top 28)) (defScope (top 28)) .none kV14 dc14 pm14 an14 cd14 ct14), sl14⟩)
    (c14 : PySem.W.codeIn K cd14 "_law_pair_right" = true)
    (k14 : PySem.W.keepIn K (.ref f14) = true)
    (a15 : PySem.W.nsIn K mainGlobals "_law_right" = some (some (.ref f15)))
    (l15 : K.lookup f15 = some ⟨oc15, od15, .func (PySem.W.fnOf "_law_right" "_law_right" (defArgs (top 29)) (defBody (top 29)) (defScope (top 29)) .none kV15 dc15 pm15 an15 cd15 ct15), sl15⟩)
    (c15 : PySem.W.codeIn K cd15 "_law_right" = true)
    (k15 : PySem.W.keepIn K (.ref f15) = true)
    (a16 : PySem.W.nsIn K mainGlobals "_law_quiet" = some (some (.ref f16)))
    (l16 : K.lookup f16 = some ⟨oc16, od16, .func (PySem.W.fnOf "_law_quiet" "_law_quiet" (defArgs (top 30)) (defBody (top 30)) (defScope (top 30)) .none kV16 dc16 pm16 an16 cd16 ct16), sl16⟩)
    (c16 : PySem.W.codeIn K cd16 "_law_quiet" = true)
    (k16 : PySem.W.keepIn K (.ref f16) = true)
    (a17 : PySem.W.nsIn K mainGlobals "law" = some (some (.ref f17)))
    (l17 : K.lookup f17 = some ⟨oc17, od17, .func (PySem.W.fnOf "law" "law" (defArgs (top 31)) (defBody (top 31)) (defScope (top 31)) .none kV17 dc17 pm17 an17 cd17 ct17), sl17⟩)
    (c17 : PySem.W.codeIn K cd17 "law" = true)
    (k17 : PySem.W.keepIn K (.ref f17) = true)
    (aC : PySem.W.nsIn K mainGlobals "Row" = some (some (.ref C)))
    (pg : PySem.W.plainGet K C Str.empty = true)
    (hd : PySem.W.hasDictIn K C = true)
    (po : PySem.W.plainOver K C = true)
    (sa : PySem.W.findIn K (.ref C) "__setattr__" = some (some (.builtin "object.__setattr__")))
    (mk : PySem.W.makesIn K C = true)
    (kc : PySem.W.keepIn K (.ref C) = true)
    (nC : PySem.W.findIn K (.ref C) "_counts" = some none)
    (xa : PySem.W.findIn K (.ref C) "__class__" = some (some (.builtin "object.__class__")))
    (xn : PySem.W.specialIn K (.builtin "object.__class__") "__get__" = some (some (.builtin "getset_descriptor.__get__")))
    (xt : PySem.W.takesIn K (.builtin "object.__class__") = some true)
    (xm : PySem.W.mroIn K C (.type "object") = some true)
    (a18 : PySem.W.findIn K (.ref C) "__init__" = some (some (.ref f18)))
    (i18 : PySem.W.isFn K (.ref f18) = true)
    (l18 : K.lookup f18 = some ⟨oc18, od18, .func (PySem.W.fnOf "__init__" "Row.__init__" (defArgs (inClass (top 18) 0)) (defBody (inClass (top 18) 0)) (defScope (inClass (top 18) 0)) .none kV18 dc18 pm18 an18 cd18 ct18), sl18⟩)
    (c18 : PySem.W.codeIn K cd18 "Row.__init__" = true)
    (k18 : PySem.W.keepIn K (.ref f18) = true)
    (a19 : PySem.W.findIn K (.ref C) "__eq__" = some (some (.ref f19)))
    (i19 : PySem.W.isFn K (.ref f19) = true)
    (l19 : K.lookup f19 = some ⟨oc19, od19, .func (PySem.W.fnOf "__eq__" "Row.__eq__" (defArgs (inClass (top 18) 7)) (defBody (inClass (top 18) 7)) (defScope (inClass (top 18) 7)) .none kV19 dc19 pm19 an19 cd19 ct19), sl19⟩)
    (c19 : PySem.W.codeIn K cd19 "Row.__eq__" = true)
    (k19 : PySem.W.keepIn K (.ref f19) = true)
    (a20 : PySem.W.findIn K (.ref C) "counts" = some (some (.ref p20)))
    (g20 : PySem.W.specialIn K (.ref p20) "__get__" = some (some (.builtin "property.__get__")))
    (t20 : PySem.W.takesIn K (.ref p20) = some true)
    (r20r : PySem.W.recIn K p20 "property" = some (.ref f20 :: r20))
    (l20 : K.lookup f20 = some ⟨oc20, od20, .func (PySem.W.fnOf "counts" "Row.counts" (defArgs (inClass (top 18) 2)) (defBody (inClass (top 18) 2)) (defScope (inClass (top 18) 2)) .none kV20 dc20 pm20 an20 cd20 ct20), sl20⟩)
    (c20 : PySem.W.codeIn K cd20 "Row.counts" = true)
    (k20 : PySem.W.keepIn K (.ref f20) = true)
    (a21 : PySem.W.findIn K (.ref C) "rates" = some (some (.ref p21)))
    (g21 : PySem.W.specialIn K (.ref p21) "__get__" = some (some (.builtin "property.__get__")))
    (t21 : PySem.W.takesIn K (.ref p21) = some true)
    (r21r : PySem.W.recIn K p21 "property" = some (.ref f21 :: r21))
    (l21 : K.lookup f21 = some ⟨oc21, od21, .func (PySem.W.fnOf "rates" "Row.rates" (defArgs (inClass (top 18) 3)) (defBody (inClass (top 18) 3)) (defScope (inClass (top 18) 3)) .none kV21 dc21 pm21 an21 cd21 ct21), sl21⟩)
    (c21 : PySem.W.codeIn K cd21 "Row.rates" = true)
    (k21 : PySem.W.keepIn K (.ref f21) = true)
    (a22 : PySem.W.findIn K (.ref C) "draws" = some (some (.ref p22)))
    (g22 : PySem.W.specialIn K (.ref p22) "__get__" = some (some (.builtin "property.__get__")))
    (t22 : PySem.W.takesIn K (.ref p22) = some true)
    (r22r : PySem.W.recIn K p22 "property" = some (.ref f22 :: r22))
    (l22 : K.lookup f22 = some ⟨oc22, od22, .func (PySem.W.fnOf "draws" "Row.draws" (defArgs (inClass (top 18) 4)) (defBody (inClass (top 18) 4)) (defScope (inClass (top 18) 4)) .none kV22 dc22 pm22 an22 cd22 ct22), sl22⟩)
    (c22 : PySem.W.codeIn K cd22 "Row.draws" = true)
    (k22 : PySem.W.keepIn K (.ref f22) = true)
    (a23 : PySem.W.findIn K (.ref C) "text" = some (some (.ref p23)))
    (g23 : PySem.W.specialIn K (.ref p23) "__get__" = some (some (.builtin "property.__get__")))
    (t23 : PySem.W.takesIn K (.ref p23) = some true)
    (r23r : PySem.W.recIn K p23 "property" = some (.ref f23 :: r23))
    (l23 : K.lookup f23 = some ⟨oc23, od23, .func (PySem.W.fnOf "text" "Row.text" (defArgs (inClass (top 18) 5)) (defBody (inClass (top 18) 5)) (defScope (inClass (top 18) 5)) .none kV23 dc23 pm23 an23 cd23 ct23), sl23⟩)
    (c23 : PySem.W.codeIn K cd23 "Row.text" = true)
    (k23 : PySem.W.keepIn K (.ref f23) = true)
    (lC : K.lookup C = some (excClassObj nm qn C N bs [.type "object"] hdct sn sub ab col dd q0 q1 q2 q3 q5 newId))
    (okN : PySem.W.nsOkIn K N = true)
    (n1 : PySem.W.nsIn K N "__eq__" = some (some (.ref f19)))
    (n2 : PySem.W.nsIn K N "__ne__" = some none)
    (ocf : oc19 = .type "function")
    (oddC : ∀ T ∈ oddNames, PySem.W.kitOne K (.type T) (.ref C) = some false)
    (n24w : PySem.W.nsIn K N "__len__" = some (some (.ref f24)))
    (l24 : K.lookup f24 = some ⟨oc24, od24, .func (PySem.W.fnOf "__len__" "Row.__len__" (defArgs (inClass (top 18) 8)) (defBody (inClass (top 18) 8)) (defScope (inClass (top 18) 8)) .none kV24 dc24 pm24 an24 cd24 ct24), sl24⟩)
    (c24 : PySem.W.codeIn K cd24 "Row.__len__" = true)
    (k24 : PySem.W.keepIn K (.ref f24) = true)
    (oc24w : oc24 = .type "function")
    (n25w : PySem.W.nsIn K N "__str__" = some (some (.ref f25)))
    (l25 : K.lookup f25 = some ⟨oc25, od25, .func (PySem.W.fnOf "__str__" "Row.__str__" (defArgs (inClass (top 18) 9)) (defBody (inClass (top 18) 9)) (defScope (inClass (top 18) 9)) .none kV25 dc25 pm25 an25 cd25 ct25), sl25⟩)
    (c25 : PySem.W.codeIn K cd25 "Row.__str__" = true)
    (k25 : PySem.W.keepIn K (.ref f25) = true)
    (oc25w : oc25 = .type "function")
    (n26w : PySem.W.nsIn K N "__repr__" = some (some (.ref f26)))
    (l26 : K.lookup f26 = some ⟨oc26, od26, .func (PySem.W.fnOf "__repr__" "Row.__repr__" (defArgs (inClass (top 18) 10)) (defBody (inClass (top 18) 10)) (defScope (inClass (top 18) 10)) .none kV26 dc26 pm26 an26 cd26 ct26), sl26⟩)
    (c26 : PySem.W.codeIn K cd26 "Row.__repr__" = true)
    (k26 : PySem.W.keepIn K (.ref f26) = true)
    (oc26w : oc26 = .type "function")
    (no__bool__ : PySem.W.nsIn K N "__bool__" = some none)
    (rdC : PySem.W.readsIn K C (.type "type") = true)
    (gaC : PySem.W.specialIn K (.ref C) "__getattribute__" = some (some (.builtin "type.__getattribute__")))
    (a27w : PySem.W.findIn K (.ref C) "read" = some (some (.ref p27)))
    (r27r : PySem.W.recIn K p27 "classmethod" = some (.ref f27 :: r27))
    (a27 : PySem.W.findCls K (.ref C) (.type "type") "read" = some (.get (.builtin "classmethod.__get__") (.ref p27) .none (.ref C)))
    (fi27 : PySem.W.fnIn K f27 = true)
    (l27 : K.lookup f27 = some ⟨oc27, od27, .func (PySem.W.fnOf "read" "Row.read" (defArgs (inClass (top 18) 1)) (defBody (inClass (top 18) 1)) (defScope (inClass (top 18) 1)) .none kV27 dc27 pm27 an27 cd27 ct27), sl27⟩)
    (c27 : PySem.W.codeIn K cd27 "Row.read" = true)
    (k27 : PySem.W.keepIn K (.ref f27) = true)
    (c_gcd : PySem.W.nsIn K mainGlobals "gcd" = some (some (.builtin "math.gcd")))
    (c_MOST_DRAWS : PySem.W.nsIn K mainGlobals "MOST_DRAWS" = some (some (.int 5 tk)))
    (c__WIDTH : PySem.W.nsIn K mainGlobals "_WIDTH" = some (some (.int 60 tk2)))
    (c__STEP : PySem.W.nsIn K mainGlobals "_STEP" = some (some (.int (10 ^ 60) tk3)))
    (z_len : PySem.W.nsIn K mainGlobals "len" = some none)
    (z_abs : PySem.W.nsIn K mainGlobals "abs" = some none)
    (z_max : PySem.W.nsIn K mainGlobals "max" = some none)
    (z_min : PySem.W.nsIn K mainGlobals "min" = some none)
    (z_sum : PySem.W.nsIn K mainGlobals "sum" = some none)
    (z_range : PySem.W.nsIn K mainGlobals "range" = some none)
    (z_tuple : PySem.W.nsIn K mainGlobals "tuple" = some none)
    (z_int : PySem.W.nsIn K mainGlobals "int" = some none)
    (z_divmod : PySem.W.nsIn K mainGlobals "divmod" = some none)
    (z_all : PySem.W.nsIn K mainGlobals "all" = some none)
    (z_repr : PySem.W.nsIn K mainGlobals "repr" = some none)
    (z_isinstance : PySem.W.nsIn K mainGlobals "isinstance" = some none)
    (z_enumerate : PySem.W.nsIn K mainGlobals "enumerate" = some none)
    (z_bool : PySem.W.nsIn K mainGlobals "bool" = some none)
    (z_zip : PySem.W.nsIn K mainGlobals "zip" = some none)
    (z_str : PySem.W.nsIn K mainGlobals "str" = some none)
    (z_list : PySem.W.nsIn K mainGlobals "list" = some none)
    : ∃ fd : FuncData, (∀ (s : Shared) (u : Value), BindsTo s fd ⟨[u], []⟩ [("script", u)]) ∧ ∀ base : Heap, K.In base → base.Ns mainGlobals mg → FnG l.prog w K mg base 12 fa fd ["script"] (spLaw K) := by
  have e := hfa.symm.trans (PySem.W.mg_of X G a17)
  cases e
  have Dis_whole : Df K mg "is_whole" (top 11) ["value"] := ⟨f1, _, fun_mk (st := (top 11)) l1 c1 k1, PySem.W.mg_of X G a1, (fun_mk (st := (top 11)) l1 c1 k1).binds (ps := ["value"]) fun _ _ _ _ _ _ us hl => match us, hl with | [_], _ => rfl⟩
  have Dlowest : Df K mg "lowest" (top 12) ["top", "bottom"] := ⟨f2, _, fun_mk (st := (top 12)) l2 c2 k2, PySem.W.mg_of X G a2, (fun_mk (st := (top 12)) l2 c2 k2).binds (ps := ["top", "bottom"]) fun _ _ _ _ _ _ us hl => match us, hl with | [_, _], _ => rfl⟩
  have Dis_decimal : Df K mg "is_decimal" (top 13) ["word"] := ⟨f3, _, fun_mk (st := (top 13)) l3 c3 k3, PySem.W.mg_of X G a3, (fun_mk (st := (top 13)) l3 c3 k3).binds (ps := ["word"]) fun _ _ _ _ _ _ us hl => match us, hl with | [_], _ => rfl⟩
  have Dread_decimal : Df K mg "read_decimal" (top 14) ["word"] := ⟨f4, _, fun_mk (st := (top 14)) l4 c4 k4, PySem.W.mg_of X G a4, (fun_mk (st := (top 14)) l4 c4 k4).binds (ps := ["word"]) fun _ _ _ _ _ _ us hl => match us, hl with | [_], _ => rfl⟩
  have Dwrite_decimal : Df K mg "write_decimal" (top 15) ["number"] := ⟨f5, _, fun_mk (st := (top 15)) l5 c5 k5, PySem.W.mg_of X G a5, (fun_mk (st := (top 15)) l5 c5 k5).binds (ps := ["number"]) fun _ _ _ _ _ _ us hl => match us, hl with | [_], _ => rfl⟩
  have D_check_counts : Df K mg "_check_counts" (top 19) ["counts"] := ⟨f6, _, fun_mk (st := (top 19)) l6 c6 k6, PySem.W.mg_of X G a6, (fun_mk (st := (top 19)) l6 c6 k6).binds (ps := ["counts"]) fun _ _ _ _ _ _ us hl => match us, hl with | [_], _ => rfl⟩
  have D_told_counts : Df K mg "_told_counts" (top 20) ["text"] := ⟨f7, _, fun_mk (st := (top 20)) l7 c7 k7, PySem.W.mg_of X G a7, (fun_mk (st := (top 20)) l7 c7 k7).binds (ps := ["text"]) fun _ _ _ _ _ _ us hl => match us, hl with | [_], _ => rfl⟩
  have D_law_vat : Df K mg "_law_vat" (top 22) ["script", "at"] := ⟨f8, _, fun_mk (st := (top 22)) l8 c8 k8, PySem.W.mg_of X G a8, (fun_mk (st := (top 22)) l8 c8 k8).binds (ps := ["script", "at"]) fun _ _ _ _ _ _ us hl => match us, hl with | [_, _], _ => rfl⟩
  have D_law_dip : Df K mg "_law_dip" (top 23) ["vat", "many"] := ⟨f9, _, fun_mk (st := (top 23)) l9 c9 k9, PySem.W.mg_of X G a9, (fun_mk (st := (top 23)) l9 c9 k9).binds (ps := ["vat", "many"]) fun _ _ _ _ _ _ us hl => match us, hl with | [_, _], _ => rfl⟩
  have D_law_shared : Df K mg "_law_shared" (top 24) ["one", "two"] := ⟨f10, _, fun_mk (st := (top 24)) l10 c10 k10, PySem.W.mg_of X G a10, (fun_mk (st := (top 24)) l10 c10 k10).binds (ps := ["one", "two"]) fun _ _ _ _ _ _ us hl => match us, hl with | [_, _], _ => rfl⟩
  have D_law_plain : Df K mg "_law_plain" (top 25) ["some"] := ⟨f11, _, fun_mk (st := (top 25)) l11 c11 k11, PySem.W.mg_of X G a11, (fun_mk (st := (top 25)) l11 c11 k11).binds (ps := ["some"]) fun _ _ _ _ _ _ us hl => match us, hl with | [_], _ => rfl⟩
  have D_law_counts : Df K mg "_law_counts" (top 26) ["vat", "way"] := ⟨f12, _, fun_mk (st := (top 26)) l12 c12 k12, PySem.W.mg_of X G a12, (fun_mk (st := (top 26)) l12 c12 k12).binds (ps := ["vat", "way"]) fun _ _ _ _ _ _ us hl => match us, hl with | [_, _], _ => rfl⟩
  have D_law_page : Df K mg "_law_page" (top 27) ["some"] := ⟨f13, _, fun_mk (st := (top 27)) l13 c13 k13, PySem.W.mg_of X G a13, (fun_mk (st := (top 27)) l13 c13 k13).binds (ps := ["some"]) fun _ _ _ _ _ _ us hl => match us, hl with | [_], _ => rfl⟩
  have D_law_pair_right : Df K mg "_law_pair_right" (top 28) ["mine", "mate", "due"] := ⟨f14, _, fun_mk (st := (top 28)) l14 c14 k14, PySem.W.mg_of X G a14, (fun_mk (st := (top 28)) l14 c14 k14).binds (ps := ["mine", "mate", "due"]) fun _ _ _ _ _ _ us hl => match us, hl with | [_, _, _], _ => rfl⟩
  have D_law_right : Df K mg "_law_right" (top 29) ["vat"] := ⟨f15, _, fun_mk (st := (top 29)) l15 c15 k15, PySem.W.mg_of X G a15, (fun_mk (st := (top 29)) l15 c15 k15).binds (ps := ["vat"]) fun _ _ _ _ _ _ us hl => match us, hl with | [_], _ => rfl⟩
  have D_law_quiet : Df K mg "_law_quiet" (top 30) ["vat"] := ⟨f16, _, fun_mk (st := (top 30)) l16 c16 k16, PySem.W.mg_of X G a16, (fun_mk (st := (top 30)) l16 c16 k16).binds (ps := ["vat"]) fun _ _ _ _ _ _ us hl => match us, hl with | [_], _ => rfl⟩
  have F__init__ := fun_mk (st := (inClass (top 18) 0)) l18 c18 k18
  have b__init__ := F__init__.binds (ps := ["self", "counts"]) fun _ _ _ _ _ _ us hl => match us, hl with | [_, _], _ => rfl
  have F__eq__ := fun_mk (st := (inClass (top 18) 7)) l19 c19 k19
  have b__eq__ := F__eq__.binds (ps := ["self", "other"]) fun _ _ _ _ _ _ us hl => match us, hl with | [_, _], _ => rfl
  have Fcounts := fun_mk (st := (inClass (top 18) 2)) l20 c20 k20
  have bcounts := Fcounts.binds (ps := ["self"]) fun _ _ _ _ _ _ us hl => match us, hl with | [_], _ => rfl
  have Pcounts : PropOf K C "counts" p20 f20 := ⟨a20, g20, t20, _, r20r⟩
  have Frates := fun_mk (st := (inClass (top 18) 3)) l21 c21 k21
  have brates := Frates.binds (ps := ["self"]) fun _ _ _ _ _ _ us hl => match us, hl with | [_], _ => rfl
  have Prates : PropOf K C "rates" p21 f21 := ⟨a21, g21, t21, _, r21r⟩
  have Fdraws := fun_mk (st := (inClass (top 18) 4)) l22 c22 k22
  have bdraws := Fdraws.binds (ps := ["self"]) fun _ _ _ _ _ _ us hl => match us, hl with | [_], _ => rfl
  have Pdraws : PropOf K C "draws" p22 f22 := ⟨a22, g22, t22, _, r22r⟩
  have Ftext := fun_mk (st := (inClass (top 18) 5)) l23 c23 k23
  have btext := Ftext.binds (ps := ["self"]) fun _ _ _ _ _ _ us hl => match us, hl with | [_], _ => rfl
  have Ptext : PropOf K C "text" p23 f23 := ⟨a23, g23, t23, _, r23r⟩
  have OEQ : OwnEq K C f19 := ⟨N, _, nm, qn, bs, hdct, sn, sub, ab, col, dd, q0, q1, q2, q3, q5, newId, lC, okN, n1, n2, l19, ocf⟩
  have F__len__ := fun_mk (st := (inClass (top 18) 8)) l24 c24 k24
  have b__len__ := F__len__.binds (ps := ["self"]) fun _ _ _ _ _ _ us hl => match us, hl with | [_], _ => rfl
  have O__len__ : OwnSp K C "__len__" f24 := ⟨N, _, nm, qn, bs, hdct, sn, sub, ab, col, dd, q0, q1, q2, q3, q5, newId, lC, okN, n24w, l24, oc24w⟩
  have F__str__ := fun_mk (st := (inClass (top 18) 9)) l25 c25 k25
  have b__str__ := F__str__.binds (ps := ["self"]) fun _ _ _ _ _ _ us hl => match us, hl with | [_], _ => rfl
  have O__str__ : OwnSp K C "__str__" f25 := ⟨N, _, nm, qn, bs, hdct, sn, sub, ab, col, dd, q0, q1, q2, q3, q5, newId, lC, okN, n25w, l25, oc25w⟩
  have F__repr__ := fun_mk (st := (inClass (top 18) 10)) l26 c26 k26
  have b__repr__ := F__repr__.binds (ps := ["self"]) fun _ _ _ _ _ _ us hl => match us, hl with | [_], _ => rfl
  have O__repr__ : OwnSp K C "__repr__" f26 := ⟨N, _, nm, qn, bs, hdct, sn, sub, ab, col, dd, q0, q1, q2, q3, q5, newId, lC, okN, n26w, l26, oc26w⟩
  have NO__bool__ : NoSp K C "__bool__" := ⟨N, nm, qn, bs, hdct, sn, sub, ab, col, dd, q0, q1, q2, q3, q5, newId, lC, okN, no__bool__⟩
  have CR : ClX.CRead K C (.type "type") := ⟨rdC, gaC⟩
  have Fread := fun_mk (st := (inClass (top 18) 1)) l27 c27 k27
  have bread := Fread.binds (ps := ["cls", "text"]) fun _ _ _ _ _ _ us hl => match us, hl with | [_, _], _ => rfl
  have Mread : ClX.CMet K C (.type "type") "read" p27 f27 := ⟨a27, ⟨_, r27r⟩, fi27⟩
  have c_gcd := PySem.W.mg_of X G c_gcd
  have c_MOST_DRAWS := PySem.W.mg_of X G c_MOST_DRAWS
  have c__WIDTH := PySem.W.mg_of X G c__WIDTH
  have c__STEP := PySem.W.mg_of X G c__STEP
  have B : Bi mg := ⟨PySem.W.mg_none_of X G z_len, PySem.W.mg_none_of X G z_abs, PySem.W.mg_none_of X G z_max, PySem.W.mg_none_of X G z_min, PySem.W.mg_none_of X G z_sum, PySem.W.mg_none_of X G z_range, PySem.W.mg_none_of X G z_tuple, PySem.W.mg_none_of X G z_int, PySem.W.mg_none_of X G z_divmod, PySem.W.mg_none_of X G z_all, PySem.W.mg_none_of X G z_repr, PySem.W.mg_none_of X G z_isinstance, PySem.W.mg_none_of X G z_enumerate, PySem.W.mg_none_of X G z_bool, PySem.W.mg_none_of X G z_zip, PySem.W.mg_none_of X G z_str, PySem.W.mg_none_of X G z_list⟩
  have RC : RowC K mg C := ⟨⟨pg, hd, po, sa⟩, nC, PySem.W.mg_of X G aC, xa, xn, xt, xm⟩
  have NE := (⟨f19, N, _, nm, qn, bs, hdct, sn, sub, ab, col, dd, q0, q1, q2, q3, q5, newId, a19, lC, okN, n1, n2, l19, ocf⟩ : ∃ (f N : Addr) (of : Obj) (nm q : Str) (bs : List Value) (hdct : Bool) (sn : List Str) (sub : List Value) (ab : Bool) (col : Option Bool) (dd : Option Addr) (k0 k1 k2 k3 k5 : Option Value) (newId : String), PySem.W.findIn K (.ref C) "__eq__" = some (some (.ref f)) ∧ K.lookup C = some (excClassObj nm q C N bs [.type "object"] hdct sn sub ab col dd k0 k1 k2 k3 k5 newId) ∧ PySem.W.nsOkIn K N = true ∧ PySem.W.nsIn K N "__eq__" = some (some (.ref f)) ∧ PySem.W.nsIn K N "__ne__" = some none ∧ K.lookup f = some of ∧ of.cls = .type "function")
  have MK : Mk K C f18 := ⟨mk, a18, i18, kc⟩
  have EQ1 := a19
  have EQ2 := i19
  refine ⟨PySem.W.fnOf "law" "law" (defArgs (top 31)) (defBody (top 31)) (defScope (top 31)) .none kV17 dc17 pm17 an17 cd17 ct17, fun s u => BindsTo.of_eq (by first | rfl | with_unfolding_all rfl), fun base _ _ => ?_⟩
  have h_law_vat := has_vat (P := l.prog) (w := w) (base := base) B D_law_vat
  have h_law_dip := has_dip (P := l.prog) (w := w) (base := base) B D_law_dip
  have h_law_shared := has_shared (P := l.prog) (w := w) (base := base) B D_law_shared
  have h_law_plain := has_plain B h_law_shared D_law_plain
  have h_law_counts := has_counts B h_law_dip D_law_counts
  have his_whole := has_whole (P := l.prog) (w := w) (base := base) B Dis_whole
  have h_check_counts := has_check B c_MOST_DRAWS his_whole D_check_counts
  have hlowest := has_lowest (P := l.prog) (w := w) (base := base) c_gcd Dlowest
  have RT : RowT l.prog w K mg base C := ⟨RC, ⟨_, _, MK, ok_init F__init__ B RC c_gcd h_check_counts, b__init__⟩, ⟨_, _, _, Pcounts, ok_get Fcounts RC, bcounts⟩, ⟨_, _, _, Pdraws, ok_draws Fdraws B RC, bdraws⟩, ⟨_, _, _, Prates, ok_rates Frates B RC hlowest, brates⟩, ⟨_, _, EQ1, EQ2, ok_eq F__eq__ B RC, b__eq__⟩, NE⟩
  have RQ : RowQ l.prog w K mg base C := ⟨_, _, OEQ, ok_eq F__eq__ B RC, ok_eqO F__eq__ B RC oddC, b__eq__⟩
  have his_decimal := has_dec (P := l.prog) (w := w) (base := base) Dis_decimal
  have hread_decimal := has_read (P := l.prog) (w := w) (base := base) B c__WIDTH c__STEP Dread_decimal
  have hwrite_decimal := has_write (P := l.prog) (w := w) (base := base) B c__WIDTH c__STEP Dwrite_decimal
  have RS : RowS l.prog w K mg base C := ⟨RC, ⟨_, _, _, Ptext, ok_text Ftext B RC RT hwrite_decimal, btext⟩, ⟨_, _, O__len__, ok_lenR F__len__ B RC, b__len__⟩, ⟨_, _, O__repr__, ok_reprR F__repr__ RT, b__repr__⟩, NO__bool__⟩
  have h_told_counts := has_told B c_MOST_DRAWS his_decimal hread_decimal D_told_counts
  have RR : RowR l.prog w K mg base C := ⟨RT, ⟨_, _, O__str__, ok_strR F__str__ B RS, b__str__⟩, ⟨_, _, _, _, CR, Mread, ok_readR Fread B RT h_told_counts, bread, fun s c v => BindsTo.of_eq (by first | rfl | with_unfolding_all rfl)⟩, ⟨_, _, MK, ok_init F__init__ B RC c_gcd h_check_counts, fun s c v => BindsTo.of_eq (by first | rfl | with_unfolding_all rfl)⟩⟩
  have h_law_page := has_page (P := l.prog) (w := w) (base := base) B D_law_page
  have h_law_pair_right := has_pair B RQ D_law_pair_right
  have h_law_right := has_right B RT RS RR h_law_dip h_law_counts h_law_plain h_law_page h_law_pair_right D_law_right
  have h_law_quiet := has_quiet h_law_right D_law_quiet
  exact ok_law B h_law_vat h_law_quiet (fun_mk l17 c17 k17)
end Dm
open PySem PySem.W PyProof.Rows in
set_option maxRecDepth 100000 in
set_option maxHeartbeats 0 in
theorem PySem.Challenge.cw_drawnmore_k05_rows_compared_holds : PySem.Challenge.rw_drawnmore_k05_rows_compared.Holds := by
  w_on; o_law; k_head; (case hw => w_witness2)
  k_fill
  refine Dm.walkG (l := PySem.Challenge.rw_drawnmore_k05_rows_compared) (n := 63) (k := 12) (x := "script") (sp := Dm.spLaw) rfl (by decide) rfl ⟨rfl, by decide, by decide⟩ (fun w h Y => PySem.W.kIn_of Y) ?F (fun K H a ns hl hS => ⟨a, ns, rfl, hS, hl, fun _ => rfl⟩)
  case F =>
    intro w mg fa h KX G hmg
    refine' Dm.all_mk KX G hmg ?a1 ?l1 ?c1 ?k1 ?a2 ?l2 ?c2 ?k2 ?a3 ?l3 ?c3 ?k3 ?a4 ?l4 ?c4 ?k4 ?a5 ?l5 ?c5 ?k5 ?a6 ?l6 ?c6 ?k6 ?a7 ?l7 ?c7 ?k7 ?a8 ?l8 ?c8 ?k8 ?a9 ?l9 ?c9 ?k9 ?a10 ?l10 ?c10 ?k10 ?a11 ?l11 ?c11 ?k11 ?a12 ?l12 ?c12 ?k12 ?a13 ?l13 ?c13 ?k13 ?a14 ?l14 ?c14 ?k14 ?a15 ?l15 ?c15 ?k15 ?a16 ?l16 ?c16 ?k16 ?a17 ?l17 ?c17 ?k17 ?aC ?pg ?hd ?po ?sa ?mk ?kc ?nC ?xa ?xn ?xt ?xm ?a18 ?i18 ?l18 ?c18 ?k18 ?a19 ?i19 ?l19 ?c19 ?k19 ?a20 ?g20 ?t20 ?r20r ?l20 ?c20 ?k20 ?a21 ?g21 ?t21 ?r21r ?l21 ?c21 ?k21 ?a22 ?g22 ?t22 ?r22r ?l22 ?c22 ?k22 ?a23 ?g23 ?t23 ?r23r ?l23 ?c23 ?k23 ?lC ?okN ?n1 ?n2 ?ocf ?oddC ?n24w ?l24 ?c24 ?k24 ?oc24w ?n25w ?l25 ?c25 ?k25 ?oc25w ?n26w ?l26 ?c26 ?k26 ?oc26w ?no__bool__ ?rdC ?gaC ?a27w ?r27r ?a27 ?fi27 ?l27 ?c27 ?k27 ?c_gcd ?c_MOST_DRAWS ?c__WIDTH ?c__STEP ?z_len ?z_abs ?z_max ?z_min ?z_sum ?z_range ?z_tuple ?z_int ?z_divmod ?z_all ?z_repr ?z_isinstance ?z_enumerate ?z_bool ?z_zip ?z_str ?z_list
    (case a1 => k_is)
    (case l1 => k_is)
    (case c1 => k_is)
    (case k1 => k_is)
    (case a2 => k_is)
    (case l2 => k_is)
    (case c2 => k_is)
    (case k2 => k_is)
    (case a3 => k_is)
    (case l3 => k_is)
    (case c3 => k_is)
    (case k3 => k_is)
    (case a4 => k_is)
    (case l4 => k_is)
    (case c4 => k_is)
    (case k4 => k_is)
    (case a5 => k_is)
    (case l5 => k_is)
    (case c5 => k_is)
    (case k5 => k_is)
    (case a6 => k_is)
    (case l6 => k_is)
    (case c6 => k_is)
    (case k6 => k_is)
    (case a7 => k_is)
    (case l7 => k_is)
    (case c7 => k_is)
    (case k7 => k_is)
    (case a8 => k_is)
    (case l8 => k_is)
    (case c8 => k_is)
    (case k8 => k_is)
    (case a9 => k_is)
    (case l9 => k_is)
    (case c9 => k_is)
    (case k9 => k_is)
    (case a10 => k_is)
    (case l10 => k_is)
    (case c10 => k_is)
    (case k10 => k_is)
    (case a11 => k_is)
    (case l11 => k_is)
    (case c11 => k_is)
    (case k11 => k_is)
    (case a12 => k_is)
    (case l12 => k_is)
    (case c12 => k_is)
    (case k12 => k_is)
    (case a13 => k_is)
    (case l13 => k_is)
    (case c13 => k_is)
    (case k13 => k_is)
    (case a14 => k_is)
    (case l14 => k_is)
    (case c14 => k_is)
    (case k14 => k_is)
    (case a15 => k_is)
    (case l15 => k_is)
    (case c15 => k_is)
    (case k15 => k_is)
    (case a16 => k_is)
    (case l16 => k_is)
    (case c16 => k_is)
    (case k16 => k_is)
    (case a17 => k_is)
    (case l17 => k_is)
    (case c17 => k_is)
    (case k17 => k_is)
    (case aC => k_is)
    (case pg => k_is)
    (case hd => k_is)
    (case po => k_is)
    (case sa => k_is)
    (case mk => k_is)
    (case kc => k_is)
    (case nC => k_is)
    (case xa => k_is)
    (case xn => k_is)
    (case xt => k_is)
    (case xm => k_is)
    (case a18 => k_is)
    (case i18 => k_is)
    (case l18 => k_is)
    (case c18 => k_is)
    (case k18 => k_is)
    (case a19 => k_is)
    (case i19 => k_is)
    (case l19 => k_is)
    (case c19 => k_is)
    (case k19 => k_is)
    (case a20 => k_is)
    (case g20 => k_is)
    (case t20 => k_is)
    (case r20r => k_is)
    (case l20 => k_is)
    (case c20 => k_is)
    (case k20 => k_is)
    (case a21 => k_is)
    (case g21 => k_is)
    (case t21 => k_is)
    (case r21r => k_is)
    (case l21 => k_is)
    (case c21 => k_is)
    (case k21 => k_is)
    (case a22 => k_is)
    (case g22 => k_is)
    (case t22 => k_is)
    (case r22r => k_is)
    (case l22 => k_is)
    (case c22 => k_is)
    (case k22 => k_is)
    (case a23 => k_is)
    (case g23 => k_is)
    (case t23 => k_is)
    (case r23r => k_is)
    (case l23 => k_is)
    (case c23 => k_is)
    (case k23 => k_is)
    (case lC => k_is)
    (case okN => kernel_rfl)
    (case n1 => k_is)
    (case n2 => k_is)
    (case ocf => rfl)
    (case oddC => intro T hT; simp only [Dm.oddNames, List.mem_cons, List.not_mem_nil, or_false] at hT; rcases hT with rfl | rfl | rfl | rfl | rfl | rfl | rfl <;> kernel_rfl)
    (case n24w => k_is)
    (case l24 => k_is)
    (case c24 => k_is)
    (case k24 => k_is)
    (case oc24w => rfl)
    (case n25w => k_is)
    (case l25 => k_is)
    (case c25 => k_is)
    (case k25 => k_is)
    (case oc25w => rfl)
    (case n26w => k_is)
    (case l26 => k_is)
    (case c26 => k_is)
    (case k26 => k_is)
    (case oc26w => rfl)
    (case no__bool__ => k_is)
    (case rdC => kernel_rfl)
    (case gaC => k_is)
    (case a27w => k_is)
    (case r27r => k_is)
    (case a27 => with_unfolding_all kernel_rfl)
    (case fi27 => kernel_rfl)
    (case l27 => k_is)
    (case c27 => k_is)
    (case k27 => k_is)
    (case c_gcd => k_is)
    (case c_MOST_DRAWS => k_is)
    (case c__WIDTH => k_is)
    (case c__STEP => k_is)
    (case z_len => k_is)
    (case z_abs => k_is)
    (case z_max => k_is)
    (case z_min => k_is)
    (case z_sum => k_is)
    (case z_range => k_is)
    (case z_tuple => k_is)
    (case z_int => k_is)
    (case z_divmod => k_is)
    (case z_all => k_is)
    (case z_repr => k_is)
    (case z_isinstance => k_is)
    (case z_enumerate => k_is)
    (case z_bool => k_is)
    (case z_zip => k_is)
    (case z_str => k_is)
    (case z_list => k_is)
