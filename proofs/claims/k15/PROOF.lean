import PyProof.Rows.All
import Wide.All
import OpenK.AllK
import Wide.FinOn
import PySem.Challenge.RW_drawnmore_k15_whole_rows_behind
import HandS.ForMost
import HandS.ForExc
import HandS.Property
import HandS.IsInst
import HandS.Gcd
import HandS.Wide
import HandS.WideBits
import PyProof.ReprRoads
import PyProof.InstNe
import KE.GoesEnum
import KE.KTupSum
import HandS.Walk
import KE.GoesMore
import KE.GoesZip
import KE.KMathGC
import HandS.Zip
import HandS.Style
import HandS.TupAny
import HandS.Lambda
import HandS.EndTab
import HandS.WordsExc
import HandS.ExcOwn
import HandS.More
import KE.KNestM
import PyProof.ExcBaseAll.ArithmeticError
set_option Elab.async false
set_option linter.all false
set_option maxRecDepth 100000
set_option maxHeartbeats 8000000
namespace Dm
open PySem PySem.Spec PyProof.Rows L2

/-! ## promises that hold where no guard is under way -/
structure FnG (P : Program) (w : World) (K : PySem.W.Frag) (mg : Str → Option Value) (base : Heap) (k : Nat)
    (f : Addr) (fd : FuncData) (ps : List Str) (sp : Sp) : Prop where
  len : ∀ vs H Q E, sp vs H Q E → vs.length = ps.length
  run : ∀ (A : Around) (outer : List Env) (s : Shared) (H : Hp) (args : Args) (us : List Value) (vs : List V) (Q : VK) (E : XK),
    A.guards = some [] → Room k A → Env0 P w K mg base A outer s H → BindsTo s fd args (ps.zip us) → Vals vs us → sp vs H Q E →
    codeAny (model P w) A (.call (.ref f) args) (CR CX0 outer P w H s Q E) s

section
variable {P : Program} {w : World} {K : PySem.W.Frag} {mg : Str → Option Value} {base : Heap}

/-- a def by its body, its caller's stack free of guards -/
theorem okG {x qual : Str} {st : Stmt} {f : Addr} {fd : FuncData} {N ps : List Str} {k : Nat} {sp : Sp}
    (F : Fun K x qual st f fd) (S : FnScope N ps (defScope st))
    (hlen : ∀ vs H Q E, sp vs H Q E → vs.length = ps.length)
    (hb : ∀ (cdv : Value) (A : Around) (outer : List Env) (s : Shared) (H : Hp) (vs : List V) (Q : VK) (E : XK),
      A.guards = some [] → Room k (A.deeper (envOfC qual (defScope st) s.heap.objs.size f cdv)) → sp vs H Q E →
      ∃ t, PSs (cxOf CX0 P w K mg base N qual (defScope st) f cdv A outer s H E).nox (defBody st) t ∧
        t { nx := fun _ H' => Q .non H', rt := Q } (start N vs) H) :
    FnG P w K mg base (k + 1) f fd ps sp := by
  obtain ⟨oc, od, kV, doc, pm, an, cdv, ct, osl, rfl, look, hcode⟩ := F.ex
  constructor
  · exact hlen
  intro A outer s H args us vs Q E hgd hrm env0 hbinds rel hsp
  have hl := hlen _ _ _ _ hsp
  have inK : K.In s.heap := env0.mod.kin.keeps fun a o h => (env0.bs a o h).1
  have nolim : s.heap.NoLimit := env0.mod.nolimit.keeps fun a o h => (env0.bs a o h).1
  have kinds : ∀ y ∈ ps.zip us, (defScope st).names.lookup y.1 = some .local ∨
      ((defScope st).names.lookup y.1 = some .cell ∧ ((cellsFrom (s.heap.objs.size + 1) (defScope st).names []).lookup y.1).isSome = true) := by
    intro ⟨n, v⟩ hy
    cases S.par n (List.of_mem_zip hy).1 with
    | inl q => exact .inl q
    | inr q => exact .inr ⟨q, PySem.W.cellsFrom_some _ _ _ (.inl q)⟩
  apply codeAny_call_function hrm.depth (inK _ _ look) rfl S.co S.gen rfl
    (PySem.W.codeRec_of inK hcode) (hbinds _ _ _ _ ?_)
  refine wpAny_newFunctionEnv_cells S.kind kinds fun env henv s1 ic => ?_
  subst henv
  refine ⟨nolim.keeps ic.toInCall.keep, codeAny_func ?_⟩
  obtain ⟨t, ht, hq⟩ := hb cdv A outer s H vs Q E hgd (hrm.deeper _) hsp
  have I := inv_start (CX := CX0) (E := E) S hrm.hd env0 hl rel ic
  refine wpAny_mono (ht.nox.run [] s1 (start N vs) H _ I hq) (fun fl s' hs => ?_) fun _ _ hs => hs
  have done : ∀ {σ' : L2.St} {H' : Hp} {v : V} {u : Value},
      Inv (cxOf CX0 P w K mg base N qual (defScope st) f cdv A outer s H E) [] σ' H' s' → RelV v u → Q v H' →
      CE outer P w H s Q u s' := fun J rv q => ⟨_, _, J.os, J.bare, J.base, J.hok, rv, q⟩
  cases fl with
  | ret u =>
    obtain ⟨v, σ', H', J, rv, q⟩ := hs
    exact done J rv q
  | next =>
    obtain ⟨σ', H', J, q⟩ := hs
    exact done (v := V.non) (u := Value.none) J rfl q
  | brk =>
    obtain ⟨_, _, _, q⟩ := hs
    exact q.elim
  | cont =>
    obtain ⟨_, _, _, q⟩ := hs
    exact q.elim

theorem FnG.of {k : Nat} {f : Addr} {fd : FuncData} {ps : List Str} {sp : Sp} (F : FnOk P w K mg base CX0 k f fd ps sp) :
    FnG P w K mg base k f fd ps sp := ⟨F.len, fun A o s H a us vs Q E _ => F.run A o s H a us vs Q E⟩

/-- the global x is a def that keeps sp -/
def Has (P : Program) (w : World) (K : PySem.W.Frag) (mg : Str → Option Value) (base : Heap) (x : Str) (k : Nat) (ps : List Str) (sp : Sp) : Prop :=
  ∃ f fd, FnOk P w K mg base CX0 k f fd ps sp ∧ mg x = some (.ref f) ∧ PySem.W.keepIn K (.ref f) = true ∧ Binds K fd ps []
def HasG (P : Program) (w : World) (K : PySem.W.Frag) (mg : Str → Option Value) (base : Heap) (x : Str) (k : Nat) (ps : List Str) (sp : Sp) : Prop :=
  ∃ f fd, FnG P w K mg base k f fd ps sp ∧ mg x = some (.ref f) ∧ PySem.W.keepIn K (.ref f) = true ∧ Binds K fd ps []
/-- the def st of the text stands under its name -/
def Df (K : PySem.W.Frag) (mg : Str → Option Value) (x : Str) (st : Stmt) (ps : List Str) : Prop :=
  ∃ f fd, Fun K x x st f fd ∧ mg x = some (.ref f) ∧ Binds K fd ps []
end

section
variable {X : Cx}
def tF (sp : Sp) (t : TA) : TE := fun σ H Q => t σ H fun vs H1 => sp vs H1 Q E0
theorem pe_has {x : Str} {k : Nat} {ps : List Str} {sp : Sp} {p pos : Pos} {e : Expr} {es : List Expr} {t : TA}
    (h : Has X.prog X.w X.K X.mg X.base x k ps sp) (hr : Room k X.A) (ha : PA X (e :: es) t) (hg : Gl X x := by rfl)
    (hdb : (x == ("__debug__" : Str)) = false := by decide)
    (he : starEach (e :: es) X.env = (false, eval e X.env) :: starEach es X.env := by rfl)
    (hpl : (backTo pos (starEach es X.env)).any (·.1) = false := by rfl) :
    PE X (.Call (.Name x p) (e :: es) [] pos) (tF sp t) := by
  obtain ⟨f, fd, F, hm, hk, hb⟩ := h
  have q := pe_call (X := X) (p := p) (pos := pos) F hr hg hm hk hb .nil (pass0 (X := X)) ha hdb he hpl
  refine ⟨fun pins s σ H Q I hq => q.run pins s σ H Q I ?_⟩
  show t σ H fun vs H1 => sp (vs ++ []) H1 Q E0
  simp only [List.append_nil]
  exact hq
theorem pe_hasG {x : Str} {k : Nat} {ps : List Str} {sp : Sp} {p pos : Pos} {e : Expr} {es : List Expr} {t : TA}
    (h : HasG X.prog X.w X.K X.mg X.base x k ps sp) (hgd : X.A.guards = some []) (hr : Room k X.A) (ha : PA X (e :: es) t) (hg : Gl X x := by rfl)
    (hdb : (x == ("__debug__" : Str)) = false := by decide)
    (he : starEach (e :: es) X.env = (false, eval e X.env) :: starEach es X.env := by rfl)
    (hpl : (backTo pos (starEach es X.env)).any (·.1) = false := by rfl) :
    PE X (.Call (.Name x p) (e :: es) [] pos) (tF sp t) := by
  obtain ⟨f, fd, F, hm, hk, hb⟩ := h
  refine ⟨fun pins s σ H Q I hq => ?_⟩
  apply wpAny_Call_Name_kw (ld_glob I hg hm ?_ hdb)
  apply PySem.W.callWith_K (h₀ := X.base) I.ok.mod.kin hk ?_ he hpl
  refine thn (ha.run pos pins s σ H _ I hq) fun us s1 ⟨vs, H1, I1, rel, hsp⟩ => ⟨I1.kIn, ?_⟩
  have hl : us.length = ps.length := by rw [← rel.length]; exact F.len _ _ _ _ hsp
  have bnd := hb s1 us I1.kIn (by rw [List.append_nil]; exact hl)
  rw [List.append_nil] at bnd
  refine wpAny_call (codeAny_mono (F.run X.A X.stack s1 H1 ⟨us, []⟩ us vs Q E0 hgd hr I1.env0 bnd rel hsp) fun r s' hc => ?_)
  cases r with
  | error er => exact ((pass0 (X := X)) pins σ H1 s1 er s' I1 hc)
  | ok fl =>
    cases fl with
    | ret u => exact I1.after hc
    | next => exact hc.elim
    | brk => exact hc.elim
    | cont => exact hc.elim

theorem PE.imp {e : Expr} {t t' : TE} (h : PE X e t) (hi : ∀ σ H Q, t' σ H Q → t σ H Q) : PE X e t' :=
  ⟨fun pins s σ H Q I hq => h.run pins s σ H Q I (hi σ H Q hq)⟩
theorem PT.imp {e : Expr} {t t' : TT} (h : PT X e t) (hi : ∀ σ H Q, t' σ H Q → t σ H Q) : PT X e t' :=
  ⟨fun pins s σ H Q I hq => h.run pins s σ H Q I (hi σ H Q hq)⟩
end


/-- the law's call, its def kept where no guard is under way -/
theorem law_callG {P : Program} {w : World} {K : PySem.W.Frag} {mg mb : Str → Option Value} {k : Nat} {fa a : Addr} {fd : FuncData} {x : Str} {sp : Sp} {s : Shared} {vs : List Value} {ns : List Int}
    (inK : K.In s.heap) (gl : s.heap.Ns mainGlobals mg) (bl : s.heap.Ns builtinsNs mb)
    (bb : ∀ y : Str, y ≠ "__name__" → mb y = bootBuiltins y) (nolim : s.heap.NoLimit) (gens : s.gens = #[])
    (obj : s.heap.get? a = some { cls := .type "list", data := .seq vs.toArray }) (ia : IntsAre vs ns) (short : ns.length ≤ sizeLine) (hrm : Room k callerA)
    (F : ∀ base : Heap, K.In base → base.Ns mainGlobals mg → FnG P w K mg base k fa fd [x] sp)
    (bind : ∀ (s : Shared) (u : Value), BindsTo s fd ⟨[u], []⟩ [(x, u)])
    (hsp : ∀ H : Hp, SqL K H a (ns.map V.int) → sp [.ref a] H (fun v _ => v = .bl true) fun _ _ _ => False) :
    codeAny (model P w) callerA (.call (.ref fa) ⟨[.ref a], []⟩)
      (fun r s' => r = .ok (.ret (.bool true)) ∧ OldK s.heap s'.heap ∧ s'.os = s.os ∧ AllBare s'.gens) s := by
  have vals := vals_ints ia
  have many := ia.length
  have main : ∀ H : Hp, Only H → SqL K H a (ns.map V.int) → HOk P w H s.heap → (∀ b, H b ≠ none → b = a) → (H a ≠ none → K.lookup a = none) →
      codeAny (model P w) callerA (.call (.ref fa) ⟨[.ref a], []⟩)
        (fun r s' => r = .ok (.ret (.bool true)) ∧ OldK s.heap s'.heap ∧ s'.os = s.os ∧ AllBare s'.gens) s := by
    intro H only script hok alone notK
    have dictFree : ∀ {b : Addr} {o : Obj} {es : Array DictEntry} {ep : Nat},
        s.heap.get? b = some o → o.data = .dict es ep → H b = none := by
      intro b o es ep e d
      cases q : H b with
      | none => rfl
      | some u =>
        have eb := alone b (by rw [q]; simp)
        subst eb
        rw [obj] at e
        cases e
        have d2 : Data.seq vs.toArray _ = Data.dict es ep := d
        cases d2
    have nsOf : ∀ {b : Addr} {m : Str → Option Value}, s.heap.Ns b m → (hidT s.heap H).Ns b m := by
      intro b m ⟨o, es, ep, e, d, r⟩
      exact ⟨o, es, ep, hidT_get e (dictFree e d), d, r⟩
    have inB : K.In (hidT s.heap H) := by
      intro b o e
      refine hidT_get (inK b o e) ?_
      cases q : H b with
      | none => rfl
      | some u =>
        have eb := alone b (by rw [q]; simp)
        subst eb
        have z := notK (by rw [q]; simp)
        rw [z] at e
        cases e
    have md : Mod K mg (hidT s.heap H) := by
      obtain ⟨mc, h1, h2⟩ := nolim
      exact ⟨inB, nsOf gl, ⟨mb, nsOf bl, bb⟩, ⟨mc, nsOf h1, h2⟩⟩
    have env0 : Env0 P w K mg (hidT s.heap H) callerA [] s H :=
      ⟨rfl, md, fun b o e => of_hidT e, Nat.le_of_eq (hidT_size _ _), trivial, fun b z => absurd (show b ∈ ([] : List Addr) from z) (by simp), hok, .of_eq gens⟩
    have run := (F _ inB (nsOf gl)).run callerA [] s H ⟨[.ref a], []⟩ [.ref a] [.ref a] _ _ rfl hrm env0 (bind s (.ref a)) (.cons rfl .nil) (hsp H script)
    refine codeAny_mono run fun r s' h => ?_
    cases r with
    | error e => exact h.elim
    | ok fl =>
      cases fl with
      | next => exact h.elim
      | brk => exact h.elim
      | cont => exact h.elim
      | ret u =>
        obtain ⟨v, H', os, bare, un, hok2, rel, q⟩ := h
        have q2 : v = .bl true := q
        subst q2
        obtain rfl : u = Value.bool true := rel
        refine ⟨rfl, OldK.of_keep fun b o e => ?_, os, bare⟩
        cases q : H b with
        | none =>
          have nn : b ∉ frs ([] : List Env) := fun z => absurd (show b ∈ ([] : List Addr) from z) (by simp)
          exact un.keep b o e q nn (by simp)
        | some u =>
          rcases only b with z | ⟨ob, xs, z⟩
          · rw [q] at z
            cases z
          · obtain ⟨e1, _⟩ := hok b _ z
            obtain ⟨e2, _⟩ := hok2 b _ (un.frzs b ob _ z)
            rw [e] at e1
            cases e1
            exact e2
  cases hk : K.lookup a with
  | some o =>
    have e := inK a o hk
    rw [obj] at e
    cases e
    refine main (fun _ => none) (fun _ => .inl rfl) (.inr ⟨_, vs.toArray, _, hk, rfl, rfl, rfl, ?_, ?_⟩) (fun b u z => ?_) (fun b z => absurd rfl z) fun z => absurd rfl z
    · rw [List.size_toArray, many]
      exact short
    · simpa using vals
    · have z2 : (none : Option HO) = some u := z
      cases z2
  | none =>
    refine main (fun b => if b = a then some (.frz { cls := .type "list", data := .seq vs.toArray } (.lst (ns.map V.int))) else none)
      (fun b => ?_) (.inl (.inr ⟨{ cls := .type "list", data := .seq vs.toArray }, if_pos rfl⟩)) (fun b u z => ?_) (fun b z => ?_) fun _ => hk
    · by_cases eb : b = a
      · exact .inr ⟨_, _, if_pos eb⟩
      · exact .inl (if_neg eb)
    · by_cases eb : b = a
      · have z2 := (if_pos eb).symm.trans z
        cases z2
        subst eb
        exact ⟨obj, by rw [List.length_map]; exact short, vs, _, vals, obj⟩
      · have z2 := (if_neg eb).symm.trans z
        cases z2
    · by_cases eb : b = a
      · exact eb
      · exact absurd (if_neg eb) z

/-- the goal behind the head -/
theorem walkG {l : PySem.W.OpenLaw} {n k : Nat} {q : Program} {loose : List Str} {XP : (Str → Option Value) → Heap → Prop} {YP : World → Heap → Prop} {d : DefRec} {K : Params → PySem.W.Frag} {sp : PySem.W.Frag → Sp} {x : Str}
    (hn : l.most = some n) (hn2 : n ≤ sizeLine) (hdf : d.params.defaults = []) (hrm : Room k callerA)
    (hY : ∀ (w : World) (h : Heap), YP w h → (K w.params).In h)
    (F : ∀ (w : World) (mg : Str → Option Value) (fa : Addr) (h : Heap), (K w.params).In h → h.Ns mainGlobals mg → mg d.name = some (.ref fa) →
      ∃ fd : FuncData, (∀ (s : Shared) (u : Value), BindsTo s fd ⟨[u], []⟩ [(x, u)]) ∧
        ∀ base : Heap, (K w.params).In base → base.Ns mainGlobals mg → FnG l.prog w (K w.params) mg base k fa fd [x] (sp (K w.params)))
    (hsp : ∀ (K : PySem.W.Frag) (H : Hp) (a : Addr) (ns : List Int), ns.length ≤ n → SqL K H a (ns.map V.int) → sp K [.ref a] H (fun v _ => v = .bl true) fun _ _ _ => False) :
    PySem.W.WalkO q loose XP YP l.row.toRowW d [] (fun f vs => PySem.call f vs) := by
  refine Att.attach_call hn hdf fun w s₀ s₁ mg mb fa o pm cd doc a vs ns G Y ho hd hcd hmg hobj hints hlen hg => ?_
  obtain ⟨fd, hb, hF⟩ := F w mg fa _ (hY w _ Y) G.T.g hmg
  exact law_callG (hY w _ Y) G.T.g G.T.b G.T.builtins G.T.nolimit hg hobj hints (Nat.le_trans hlen hn2) hrm hF hb fun H hS => hsp _ H a ns hlen hS

/-! enumerate of a tuple, sum of a tuple -/

/-- behind enumerate(t): the tuple's iterator, the enumerate object -/
def enumSt (s : Shared) (t : Addr) : Shared :=
  { s with heap := Heap.push (s.heap.push { cls := .type "tuple_iterator", data := .fields #[.ref t, .int 0 0] }) { cls := .type "enumerate", data := .fields #[.none, .bool false, .ref s.heap.objs.size, rawInt 0, .none, .none] } }
theorem meets_enumT (t : Addr) (items : Array Value) :
    Meets (Builtin.«enumerate.__new__» ⟨[.type "enumerate", .ref t], []⟩) (fun _ R s => s.heap.IsTuple t items ∧
      R (.ok (.ret (.ref (s.heap.push { cls := .type "tuple_iterator", data := .fields #[.ref t, .int 0 0] }).objs.size)))
        (enumSt s t)) :=
  .of_wp fun prog w A R s h => by
    obtain ⟨hp, g, d, tk, os⟩ := s
    obtain ⟨ht, h⟩ := h
    have sub := sub_enumerate
    have q1 : ∀ {A' : Around} {E : Value → Shared → Prop} {Q : Value → Shared → Prop},
        Q (.ref hp.objs.size) ⟨hp.push { cls := .type "tuple_iterator", data := .fields #[.ref t, .int 0 0] }, g, d, tk, os⟩ →
        wpAny (model prog w) A' (pyIter (.ref t)) Q E ⟨hp, g, d, tk, os⟩ :=
      fun q => wpAny_pyIter_tuple (s := ⟨hp, g, d, tk, os⟩) ht q
    wp_walk using q1
    refine wpAny_stack_any fun st => wpAny_pure ?_
    split
    · rename_i c _ _ _ _ _
      cases (c == Value.type "enumerate") <;> (wp_walk using q1; exact ⟨_, rfl, h⟩)
    · wp_walk using q1
      exact ⟨_, rfl, h⟩

section
variable {prog : Program} {w : World} {A : Around} {E : Value → Shared → Prop} {s : Shared}
theorem call_enumT {l : Addr} {items : Array Value} {Q : Value → Shared → Prop} (hL : s.heap.IsTuple l items)
    (h : ∀ h', IsEnum h' (s.heap.objs.size + 1) s.heap.objs.size 0 .none → h'.IsTupleIter s.heap.objs.size l 0 →
      (∀ b o, s.heap.get? b = some o → h'.get? b = some o) → Q (.ref (s.heap.objs.size + 1)) { s with heap := h' }) :
    wpAny (model prog w) A (call (.type "enumerate") [.ref l]) Q E s := by
  refine callType_new F.called_enumerate (by decide) (F.typeCall_enumerate_1 _) (F.newCall_enumerate_1 _)
    (fun obj => F.args_object_init_2 obj _) F.entry_enumerate_new (meets_enumT l items) ⟨hL, ?_⟩
  have sz : (s.heap.push { cls := .type "tuple_iterator", data := .fields #[.ref l, .int 0 0] }).objs.size = s.heap.objs.size + 1 := Heap.size_push ..
  show _ ∧ _
  rw [sz]
  have got := Heap.get?_push_size (s.heap.push { cls := .type "tuple_iterator", data := .fields #[.ref l, .int 0 0] })
    (o := { cls := .type "enumerate", data := .fields #[.none, .bool false, .ref s.heap.objs.size, rawInt 0, .none, .none] }) rfl
  rw [sz] at got
  have en : IsEnum ((s.heap.push { cls := .type "tuple_iterator", data := .fields #[.ref l, .int 0 0] }).push
      { cls := .type "enumerate", data := .fields #[.none, .bool false, .ref s.heap.objs.size, rawInt 0, .none, .none] })
      (s.heap.objs.size + 1) s.heap.objs.size 0 .none := got
  have itr : Heap.IsTupleIter ((s.heap.push { cls := .type "tuple_iterator", data := .fields #[.ref l, .int 0 0] }).push
      { cls := .type "enumerate", data := .fields #[.none, .bool false, .ref s.heap.objs.size, rawInt 0, .none, .none] }) s.heap.objs.size l 0 :=
    ⟨_, Heap.get?_push_of_some _ (Heap.get?_push_size _ rfl), rfl, rfl⟩
  exact ⟨⟨_, got, rfl⟩, h _ en itr fun b o x => Heap.get?_push_of_some _ (Heap.get?_push_of_some _ x)⟩
end

/-- the tuple at a, each item in a new pair with its place -/
def Iet (K : PySem.W.Frag) (a : Addr) : It :=
  ⟨fun i H => ∃ (xs : List V) (x : V), SqT K H a xs ∧ xs[i]? = some x,
   fun i H v H' => ∃ T x, v = .ref T ∧ H T = none ∧ H' = upd H T (.tup [.int (i : Nat), x]) ∧ ∀ xs, SqT K H a xs → xs[i]? = some x,
   fun i H => ∃ xs : List V, SqT K H a xs ∧ xs.length ≤ i⟩

theorem turn_enumT {P : Program} {w : World} {K : PySem.W.Frag} {elts : List Expr} {kk : Nat} {tpos : Pos} (a e it : Addr) :
    Turn P w K (.Tuple elts kk tpos) (Iet K a) [e, it] e (fun i h => (∃ old, IsEnum h e it ((i : Nat) : Int) old) ∧ h.IsTupleIter it a i ∧ e ≠ it) where
  mem := by simp
  obj := by
    intro i h st b hb
    obtain ⟨⟨old, he⟩, ⟨o, ho, hc, hd⟩, _⟩ := st
    have eb : b = e ∨ b = it := by simpa using hb
    cases eb with
    | inl z =>
      rw [z]
      exact ⟨_, he, fun v q => nomatch q⟩
    | inr z =>
      rw [z]
      refine ⟨o, ho, fun v q => ?_⟩
      rw [hd] at q
      cases q
  keep := fun i h h' st k =>
    let ⟨⟨old, he⟩, hi, hne⟩ := st
    ⟨⟨old, k e (by simp) _ he⟩, hi.at fun o q => k it (by simp) o q, hne⟩
  item := by
    intro X hP hw hK hc i pins s σ H E I hf st hg
    subst hP hw hK
    obtain ⟨⟨old, he⟩, hit, hne⟩ := st
    obtain ⟨xs, x, hq, hx⟩ := hg
    obtain ⟨its, rv, p, hz⟩ := I.tuple hq
    obtain ⟨u, hu, ru⟩ := rv.get hx
    have hel : e < s.heap.objs.size := Heap.lt_size he
    have hil : it < s.heap.objs.size := by
      obtain ⟨_, q, _⟩ := hit
      exact Heap.lt_size q
    have isT : s.heap.IsTuple a its.toArray := p
    have ane : a ≠ it := by
      intro z
      obtain ⟨o1, h1, c1, _⟩ := isT
      obtain ⟨o2, h2, c2, _⟩ := hit
      rw [z, h2] at h1
      cases h1
      rw [c1] at c2
      exact absurd c2 (by decide)
    have aee : e ≠ a := by
      intro z
      obtain ⟨o1, h1, c1, _⟩ := isT
      have h2 : s.heap.get? e = _ := he
      rw [z, h1] at h2
      have c2 : Value.type "tuple" = Value.type "enumerate" := c1.symm.trans (congrArg Obj.cls (Option.some.inj h2))
      exact absurd c2 (by decide)
    have D := Draws.tuple (prog := X.prog) (w := X.w) (A := X.A.in1) (I.ok.hd hc) it a ane its.toArray
    have hlt : i < its.toArray.size := by
      have := (List.getElem?_eq_some_iff.mp hu).1
      simpa using this
    refine wpAny_pyNext_enum_itemD D he ⟨hit, isT⟩ hlt hne (by simp [hne, aee]) fun x' h' tk hP ho hst' hT hsz hk => ?_
    have ex : x' = u := by
      have z : its.toArray[i]? = some x' := hP
      rw [List.getElem?_toArray, hu] at z
      cases z
      rfl
    subst ex
    refine ⟨_, rfl, wpAny_letOwnedTupleGo_enum (s := { s with heap := h', toks := tk + 1 }) ho fun h'' he' sb => ?_⟩
    have hT2 : h''.get? s.heap.objs.size = some { cls := .type "tuple", data := .seq #[.int i tk, x'] } := (sb.2 _ (Nat.ne_of_gt hel)).trans hT
    have new : ObjOk X.prog X.w (upd H s.heap.objs.size (.tup [.int (i : Nat), x])) h'' s.heap.objs.size (.tup [.int (i : Nat), x]) := by
      refine ⟨by show 2 ≤ sizeLine; decide, [.int i tk, x'], ?_, ⟨_, hT2, rfl, _, rfl⟩⟩
      exact .cons ⟨_, rfl⟩ (.cons ru .nil)
    have I1 : Inv X pins σ (upd H s.heap.objs.size (.tup [.int (i : Nat), x])) { s with heap := h'', toks := tk + 1 } := by
      refine I.turnedNew (ch := [e, it]) (fun b ob hb q => ?_) hf (Nat.le_refl _) new
      have b1 : b ≠ e := fun z => hb (by simp [z])
      have b2 : b ≠ it := fun z => hb (by simp [z])
      exact (sb.2 b b1).trans (hk b ob b1 b2 q)
    refine ⟨.ref s.heap.objs.size, _, I1, rfl, ⟨_, x, rfl, I.hok.fresh (Nat.le_refl _), rfl, fun ys hy => ?_⟩, ⟨⟨x', ?_⟩, ?_, hne⟩, fun b hb => ?_⟩
    · rw [I.tuple_inj hy hq]
      exact hx
    · have e1 : ((i + 1 : Nat) : Int) = (i : Int) + 1 := by omega
      rw [e1]
      exact he'
    · exact hst'.1.at fun o q => (sb.2 it (Ne.symm hne)).trans q
    · have small : b < s.heap.objs.size := by
        have eb : b = e ∨ b = it := by simpa using hb
        cases eb with
        | inl z => rw [z]; exact hel
        | inr z => rw [z]; exact hil
      rw [upd_ne (Nat.ne_of_lt small)]
      exact (hf b hb).1
  done := by
    intro X hP hw hK hc i pins s σ H E I hf st hg
    subst hP hw hK
    obtain ⟨⟨old, he⟩, hit, hne⟩ := st
    obtain ⟨xs, hq, hx⟩ := hg
    obtain ⟨its, rv, p, hz⟩ := I.tuple hq
    obtain ⟨f0, f1, f2, f3, f4, f5⟩ := hf it (by simp)
    have isT : s.heap.IsTuple a its.toArray := p
    have hl := rv.length
    -- past the end the iterator's place does not matter: i is at least the length
    have hd : wpAny (model X.prog X.w) X.A (pyNext (.ref e)) (fun r s1 => r = none ∧ Inv X pins σ H s1) E s := by
      have hT : s.TypeIs (.ref e) "enumerate" := ⟨_, he, rfl⟩
      unfold pyNext
      refine wpAny_bind (wpAny_attempt (wpAny_callSpecial?_slot (name := Str.ofString "__next__") hT F.slot_enumerate_next
        (wpAny_call_entry F.slot_enumerate_next hT F.entry_enumerate_next ?_ (F.args_enumerate_next_1 _))))
      show wpAny _ _ (field (.ref e) 2 >>= _) _ _ _
      refine wpAny_bind (wpAny_field he rfl (x := .ref it) rfl ?_)
      refine wpAny_bind (wpAny_nextOf_tuple_end (I.ok.hd hc) hit isT (by simp; omega) fun h' x eb hx' => ?_)
      obtain ⟨o, ho, hcl⟩ := hx'
      refine wpAny_bind (wpAny_isInstance (T := "StopIteration") (b := true) ⟨o, ho, hcl⟩ isSubtype_stop ?_)
      exact wpAny_pure ⟨rfl, I.turned (t' := s.toks) (fun b o hb q => eb b o hb q) f0 f1 f3 f4 f5⟩
    exact hd
  self := fun A i s Q E st h => let ⟨⟨_, he⟩, _⟩ := st; wpAny_pyIter_enum he h

def iEnumT (K : PySem.W.Frag) (ta : TA) : TI := fun σ H R => ta σ H fun vs H1 => ∃ a xs, vs = [.ref a] ∧ SqT K H1 a xs ∧ R (Iet K a) H1
theorem pi_enumT {X : Cx} {e : Expr} {ta : TA} {p pos tpos : Pos} {elts : List Expr} {kk : Nat} (hg : Gl X "enumerate") (hm : X.mg "enumerate" = none) (ha : PA X [e] ta)
    (hs : starEach [e] X.env = [(false, eval e X.env)] := by rfl) :
    PI X (.Tuple elts kk tpos) (.Call (.Name "enumerate" p) [e] [] pos) (iEnumT X.K ta) := by
  refine ⟨fun pins s σ H R I h => ?_⟩
  refine Call_ (ld_blt I hg hm boot_enumerate ?_)
  refine PyProof.Rows.callWith_type1 (thn (ha.run pos pins s σ H _ I h) fun us s1 ⟨vs, H1, I1, r1, q1⟩ => ?_) hs rfl
  obtain ⟨a, xs, ex, hq, q⟩ := q1
  subst ex
  have eu := Vals.ref1 r1
  subst eu
  obtain ⟨its, rv, p', hz⟩ := I1.tuple hq
  refine call_enumT (show s1.heap.IsTuple a its.toArray from p') fun h' he hit hk => wpAny_pyIter_enum he ?_
  have I2 : Inv X pins σ H1 { s1 with heap := h' } := I1.kept (t' := s1.toks) hk
  refine ⟨s1.heap.objs.size + 1, [s1.heap.objs.size + 1, s1.heap.objs.size], _, _, H1, rfl, I2,
    turn_enumT a (s1.heap.objs.size + 1) s1.heap.objs.size, ⟨⟨.none, he⟩, hit, Nat.succ_ne_self _⟩, fun b hb => ?_, q⟩
  have eb : b = s1.heap.objs.size + 1 ∨ b = s1.heap.objs.size := by simpa using hb
  have hle : s1.heap.objs.size ≤ b := by
    cases eb with
    | inl z => rw [z]; exact Nat.le_add_right _ _
    | inr z => rw [z]; exact Nat.le_refl _
  exact I1.fpOk hle (I1.hok.fresh hle)
theorem walk_enumT {K : PySem.W.Frag} {a : Addr} {xs : List V} :
    Walk (Iet K a) xs.length (fun H => SqT K H a xs) (YPair (fun i => some (.int (i : Nat))) (fun i => xs[i]?)) := by
  refine ⟨fun i _ hi q => ⟨xs, xs[i], q, by simp [hi]⟩, fun _ q => ⟨xs, q, Nat.le_refl _⟩, fun i H v H' _ q y => ?_⟩
  obtain ⟨T, x, h1, h2, h3, h4⟩ := y
  exact ⟨T, .int (i : Nat), x, h1, h2, h3, rfl, h4 xs q⟩

section
variable {X : Cx}
def rSumN (K : PySem.W.Frag) : List V → Hp → VK → Prop := fun vs H Q => ∃ (a : Addr) (ns : List Int), vs = [V.ref a] ∧ (SqL K H a (ns.map V.int) ∨ SqT K H a (ns.map V.int)) ∧ Q (.int ns.sum) H
theorem cr_sumN (hc : X.calm = true) : CallR X (.builtin "sum") (rSumN X.K) := by
  intro pins s σ H vs us Q I r h
  obtain ⟨a, ns, rfl, hs, q⟩ := h
  cases hs with
  | inl hs => exact cr_sum hc pins s σ H _ us Q I r ⟨a, ns, rfl, hs, q⟩
  | inr hs =>
    obtain ⟨its, rv, hl, _⟩ := I.tuple hs
    have isT : s.heap.IsTuple a its.toArray := hl
    rw [Vals.ref1 r]
    have hi := rv.ints
    obtain ⟨xs, e⟩ := hi.allInts.items
    have hn : numsOf (intItems xs).toList = ns := by
      rw [← e]
      exact hi.numsOf
    rw [nums_intItems] at hn
    rw [e] at isT
    refine PySem.W.ktm_sumG (I.ok.hd hc) isT fun h' tk t' hk => ⟨.int ns.sum, H, I.kept hk, ?_, q⟩
    refine ⟨t', ?_⟩
    rw [preSum_eq, List.take_of_length_le (by simp), hn]
end

/-! heaps that grow; rules whose readings say it -/

/-! ### relations of heaps -/
def Ex (H H' : Hp) : Prop := ∀ a o, H a = some o → H' a = some o
/-- all but lists are kept -/
def Kp (H H' : Hp) : Prop := ∀ a o, H a = some o → (∀ xs, o ≠ .lst xs) → H' a = some o
theorem Ex.refl (H : Hp) : Ex H H := fun _ _ h => h
theorem Ex.trans {H H1 H2 : Hp} (a : Ex H H1) (b : Ex H1 H2) : Ex H H2 := fun x o h => b x o (a x o h)
theorem Ex.new {H : Hp} {p : Addr} {o : HO} (h : H p = none) : Ex H (upd H p o) := fun a u e => by
  rw [upd_ne (ne_of_none e h)]
  exact e
theorem Ex.kp {H H' : Hp} (e : Ex H H') : Kp H H' := fun a o h _ => e a o h
theorem Ex.free {H H' : Hp} (e : Ex H H') {l : Addr} (h : H' l = none) : H l = none := by
  cases q : H l with
  | none => rfl
  | some o =>
    rw [e l o q] at h
    cases h
theorem Kp.refl (H : Hp) : Kp H H := fun _ _ h _ => h
theorem Kp.trans {H H1 H2 : Hp} (a : Kp H H1) (b : Kp H1 H2) : Kp H H2 := fun x o h n => b x o (a x o h n) n

/-- the draws' list: a figure, a seed, a counter -/
def VatAt (H : Hp) (v : Addr) : Prop := ∃ a b c : Int, H v = some (.lst [.int a, .int b, .int c]) ∧ 0 ≤ a ∧ 0 ≤ b ∧ b < 2147483323 ∧ 0 ≤ c
/-- what calls that draw leave -/
structure Gv (v : Addr) (H H' : Hp) : Prop where
  old : VatAt H v
  keep : ∀ a o, a ≠ v → H a = some o → H' a = some o
  new : VatAt H' v
theorem VatAt.ex {H H' : Hp} {v : Addr} (h : VatAt H v) (e : Ex H H') : VatAt H' v := by
  obtain ⟨a, b, c, h1, h2⟩ := h
  exact ⟨a, b, c, e _ _ h1, h2⟩
theorem Gv.kp {v : Addr} {H H' : Hp} (g : Gv v H H') : Kp H H' := fun a o h n => by
  refine g.keep a o (fun z => ?_) h
  obtain ⟨x, y, w, h1, _⟩ := g.old
  rw [z, h1] at h
  exact n _ (Option.some.inj h).symm
theorem Gv.of {v : Addr} {H H' : Hp} (h : VatAt H v) (e : Ex H H') : Gv v H H' := ⟨h, fun a o _ q => e a o q, h.ex e⟩
theorem Gv.refl {v : Addr} {H : Hp} (h : VatAt H v) : Gv v H H := Gv.of h (Ex.refl H)
theorem Gv.trans {v : Addr} {H H1 H2 : Hp} (a : Gv v H H1) (b : Gv v H1 H2) : Gv v H H2 :=
  ⟨a.old, fun x o n h => b.keep x o n (a.keep x o n h), b.new⟩
theorem Gv.ex {v : Addr} {H H1 H2 : Hp} (a : Gv v H H1) (b : Ex H1 H2) : Gv v H H2 := a.trans (Gv.of a.new b)
/-- where the list is new nothing old is changed -/
theorem Gv.out {v : Addr} {H H1 H2 : Hp} (n : H v = none) (e : Ex H H1) (g : Gv v H1 H2) : Ex H H2 := fun a o h =>
  g.keep a o (fun z => by rw [z, n] at h; cases h) (e a o h)
theorem Gv.lst {v l : Addr} {H H' : Hp} {xs : List V} (g : Gv v H H') (n : l ≠ v) (h : H l = some (.lst xs)) : H' l = some (.lst xs) := g.keep l _ n h

theorem sqT_kp {K : PySem.W.Frag} {H H' : Hp} {a : Addr} {xs : List V} (h : SqT K H a xs) (e : Kp H H') : SqT K H' a xs := by
  rcases h with (h | ⟨o, h⟩) | h
  · exact .inl (.inl (e _ _ h (fun _ z => nomatch z)))
  · exact .inl (.inr ⟨o, e _ _ h (fun _ z => nomatch z)⟩)
  · exact .inr h
theorem sqL_ex {K : PySem.W.Frag} {H H' : Hp} {a : Addr} {xs : List V} (h : SqL K H a xs) (e : Ex H H') : SqL K H' a xs := by
  rcases h with (h | ⟨o, h⟩) | h
  · exact .inl (.inl (e _ _ h))
  · exact .inl (.inr ⟨o, e _ _ h⟩)
  · exact .inr h

/-! ### new objects, told by what they hold -/
section
variable {X : Cx} {f : Value} {g : Value → Value → Sem Value}
theorem CallR.imp {r r' : List V → Hp → VK → Prop} (h : CallR X f r) (hi : ∀ vs H Q, r' vs H Q → r vs H Q) : CallR X f r' :=
  fun pins s σ H xs us Q I rel q => h pins s σ H xs us Q I rel (hi _ _ _ q)
theorem OpR.imp {r r' : R2} (h : OpR X g r) (hi : ∀ x y H Q, r' x y H Q → r x y H Q) : OpR X g r' :=
  fun pins s σ H x y v u Q I rx ry q => h pins s σ H x y v u Q I rx ry (hi _ _ _ _ q)
theorem SlR.imp {r r' : V → Option Int → Option Int → Hp → VK → Prop} (h : SlR X r) (hi : ∀ x lo hi H Q, r' x lo hi H Q → r x lo hi H Q) : SlR X r' :=
  fun pins s σ H x v vl vu lo hi' sl Q I rx hs pl pu q => h pins s σ H x v vl vu lo hi' sl Q I rx hs pl pu (hi _ _ _ _ _ q)

/-- a new object o, all else as it was -/
def New (H : Hp) (o : HO) (Q : VK) : Prop := ∀ p H', H p = none → Ex H H' → H' p = some o → Q (.ref p) H'
theorem New.at {H : Hp} {o : HO} {Q : VK} (h : New H o Q) : ∀ p, H p = none → Q (.ref p) (upd H p o) :=
  fun p n => h p _ n (Ex.new n) upd_same

def nLst (t : TA) : TE := fun σ H Q => t σ H fun xs H1 => xs.length ≤ sizeLine ∧ New H1 (.lst xs) Q
def nTup (t : TA) : TE := fun σ H Q => t σ H fun xs H1 => xs.length ≤ sizeLine ∧ New H1 (.tup xs) Q
end
section
variable {X : Cx} {es : List Expr} {t : TA} {pos : Pos}
/-- a reading closed under what follows from the wanted -/
def tm (t : TA) : TA := fun σ H R => ∃ R0 : List V → Hp → Prop, t σ H R0 ∧ ∀ vs H', R0 vs H' → R vs H'
theorem PA.mon (h : PA X es t) : PA X es (tm t) := by
  refine ⟨fun pos pins s σ H R I ⟨R0, h0, hi⟩ => thn (h.run pos pins s σ H R0 I h0) fun us s' q => ?_⟩
  obtain ⟨vs, H', I', rel, z⟩ := q
  exact ⟨vs, H', I', rel, hi vs H' z⟩
theorem pe_lstN (h : PA X es t) : PE X (.List es pos) (nLst t) :=
  ⟨fun pins s σ H Q I hq => (pe_lst (PA.mon h)).run pins s σ H Q I ⟨_, hq, fun vs H' ⟨z, n⟩ => ⟨z, n.at⟩⟩⟩
theorem pe_tupN {k : Nat} (h : PA X es t) : PE X (.Tuple es k pos) (nTup t) :=
  ⟨fun pins s σ H Q I hq => (pe_tup (PA.mon h)).run pins s σ H Q I ⟨_, hq, fun vs H' ⟨z, n⟩ => ⟨z, n.at⟩⟩⟩

/-- tuple(x) of a list, of a tuple -/
def rTupleN (K : PySem.W.Frag) : List V → Hp → VK → Prop := fun vs H Q => ∃ p ys, vs = [.ref p] ∧ SqL K H p ys ∧ New H (.tup ys) Q
theorem call_tupleN : CallR X (.type "tuple") (rTupleN X.K) :=
  CallR.imp call_tuple_of fun vs H Q ⟨p, ys, e, h, n⟩ => ⟨p, ys, e, .inl ⟨h, n.at⟩⟩
def rListN (K : PySem.W.Frag) : List V → Hp → VK → Prop := fun vs H Q => ∃ p ys, vs = [.ref p] ∧ (SqL K H p ys ∨ SqT K H p ys) ∧ New H (.lst ys) Q
theorem call_list_ofN : CallR X (.type "list") (rListN X.K) :=
  CallR.imp call_list_of fun vs H Q ⟨p, ys, e, h, n⟩ => ⟨p, ys, e, h, n.at⟩
/-- divmod by a positive number below 2 ^ 9000 -/
def rDivmodN : List V → Hp → VK → Prop := fun vs H Q => ∃ i j, vs = [.int i, .int j] ∧ 0 < j ∧ j.natAbs.log2 < 9000 ∧ New H (.tup [.int (i / j), .int (i % j)]) Q
theorem call_divmodN : CallR X (.builtin "divmod") rDivmodN :=
  CallR.imp call_divmodW fun vs H Q ⟨i, j, e, h0, h1, n⟩ => ⟨i, j, e, ⟨h0, PyProof.noPylong_of_log2 h1⟩, n.at⟩
/-- xs + ys, two lists that may be written -/
def rCatN : R2 := fun x y H Q => ∃ l b xs zs, x = .ref l ∧ y = .ref b ∧ H l = some (.lst xs) ∧ H b = some (.lst zs) ∧ xs.length + zs.length ≤ sizeLine ∧ New H (.lst (xs ++ zs)) Q
theorem op_catN : OpR X (binaryOp .Add) rCatN :=
  OpR.imp op_cat fun x y H Q ⟨l, b, xs, zs, e1, e2, h1, h2, z, n⟩ => ⟨l, b, xs, zs, e1, e2, h1, h2, z, n.at⟩
def rRepN : R2 := fun x y H Q => ∃ l k xs, x = .ref l ∧ y = .int k ∧ H l = some (.lst xs) ∧ 0 ≤ k ∧ k < 2 ^ 63 ∧ xs.length * k.toNat ≤ sizeLine ∧ New H (.lst (List.replicate k.toNat xs).flatten) Q
theorem op_repN : OpR X (binaryOp .Mult) rRepN :=
  OpR.imp op_rep fun x y H Q ⟨l, k, xs, e1, e2, h1, h2, h3, z, n⟩ => ⟨l, k, xs, e1, e2, h1, by omega, h3, z, n.at⟩
def rSlN (K : PySem.W.Frag) : V → Option Int → Option Int → Hp → VK → Prop := fun x lo hi H Q => ∃ a xs, x = .ref a ∧ SqL K H a xs ∧ New H (.lst (cutV xs lo hi)) Q
theorem sl_listN : SlR X (rSlN X.K) := SlR.imp sl_list fun x lo hi H Q ⟨a, xs, e, h, n⟩ => ⟨a, xs, e, h, n.at⟩
end

/-! ### data -/
/-- v tells d in H -/
abbrev Is (K : PySem.W.Frag) (H : Hp) (v : V) (d : PyData) : Prop := Dp K H v d
mutual
theorem dp_kp {K : PySem.W.Frag} {H H' : Hp} (e : Ex H H') : ∀ (d : PyData) (v : V), Dp K H v d → Dp K H' v d
  | .none, _, h => by cases h; exact .non
  | .bool _, _, h => by cases h; exact .bl _
  | .int _, _, h => by cases h; exact .int _
  | .str _, _, h => by cases h; exact .str _
  | .list ds, _, h => by
    cases h with
    | lst hs ha => exact .lst (sqL_ex hs e) (dpAll_kp e ds _ ha)
  | .tuple ds, _, h => by
    cases h with
    | tup hs ha => exact .tup (sqT_kp hs e.kp) (dpAll_kp e ds _ ha)
  | .dict _, _, h => by cases h
theorem dpAll_kp {K : PySem.W.Frag} {H H' : Hp} (e : Ex H H') : ∀ (ds : List PyData) (vs : List V), DpAll K H vs ds → DpAll K H' vs ds
  | [], _, h => by cases h; exact .nil
  | d :: ds, _, h => by
    cases h with
    | cons h1 h2 => exact .cons (dp_kp e d _ h1) (dpAll_kp e ds _ h2)
end
theorem dp_ints {K : PySem.W.Frag} {H : Hp} : ∀ ns : List Int, DpAll K H (ns.map V.int) (ns.map PyData.int)
  | [] => .nil
  | _ :: ns => .cons (.int _) (dp_ints ns)
/-- data without lists is kept by all that keeps tuples -/
def noList : PyData → Bool
  | .list _ => false
  | .tuple ds => noLists ds
  | _ => true
where noLists : List PyData → Bool
  | [] => true
  | d :: ds => noList d && noLists ds
mutual
theorem dp_keep {K : PySem.W.Frag} {H H' : Hp} (e : Kp H H') : ∀ (d : PyData) (v : V), noList d = true → Dp K H v d → Dp K H' v d
  | .none, _, _, h => by cases h; exact .non
  | .bool _, _, _, h => by cases h; exact .bl _
  | .int _, _, _, h => by cases h; exact .int _
  | .str _, _, _, h => by cases h; exact .str _
  | .list ds, _, n, _ => by simp [noList] at n
  | .tuple ds, _, n, h => by
    cases h with
    | tup hs ha => exact .tup (sqT_kp hs e) (dpAll_keep e ds _ (by simpa [noList] using n) ha)
  | .dict _, _, _, h => by cases h
theorem dpAll_keep {K : PySem.W.Frag} {H H' : Hp} (e : Kp H H') : ∀ (ds : List PyData) (vs : List V), noList.noLists ds = true → DpAll K H vs ds → DpAll K H' vs ds
  | [], _, _, h => by cases h; exact .nil
  | d :: ds, _, n, h => by
    cases h with
    | cons h1 h2 =>
      simp only [noList.noLists, Bool.and_eq_true] at n
      exact .cons (dp_keep e d _ n.1 h1) (dpAll_keep e ds _ n.2 h2)
end

section
variable {X : Cx}
/-- != of two that tell one and the same -/
def rNeN (K : PySem.W.Frag) : R2 := fun x y H Q => ∃ d, Dp K H x d ∧ Dp K H y d ∧ SeqAt.shaped d = true ∧ Q (.bl false) H
theorem op_neDN (hu : X.A.units + 64 < cLine) : OpR X (compareOp .NotEq) (rNeN X.K) :=
  OpR.imp (op_neD hu) fun x y H Q ⟨d, h1, h2, z, q⟩ => ⟨d, d, h1, h2, z, z, by rw [SeqAt.eqv_refl _ (SeqAt.canLay_of_shaped z)]; exact q⟩
def rEqN (K : PySem.W.Frag) : R2 := fun x y H Q => ∃ d, Dp K H x d ∧ Dp K H y d ∧ SeqAt.shaped d = true ∧ Q (.bl true) H
theorem op_eqDN (hu : X.A.units + 64 < cLine) : OpR X (compareOp .Eq) (rEqN X.K) :=
  OpR.imp (op_eqD hu) fun x y H Q ⟨d, h1, h2, z, q⟩ => ⟨d, d, h1, h2, z, z, by rw [SeqAt.eqv_refl _ (SeqAt.canLay_of_shaped z)]; exact q⟩
end

/-! ### repr -/
mutual
def costD : PyData → Nat
  | .none => 4
  | .bool _ => 5
  | .int _ => 1930
  | .str x => (reprText x).length
  | .list ds => costs ds + 3
  | .tuple ds => costs ds + 3
  | .dict _ => 0
def costs : List PyData → Nat
  | [] => 0
  | d :: ds => costD d + 2 + costs ds
end
theorem listText_len : ∀ ts : List Str, (listText ts).length ≤ piled ts + 2
  | [] => by decide +kernel
  | t :: r => by
    have e1 : ("[" : Str).length = 1 := rfl
    have e2 : ("]" : Str).length = 1 := rfl
    have e3 : ("" : Str).length = 0 := rfl
    unfold listText
    rw [strLen_append]
    show (textFrom (0 + 1) (("[" : Str) ++ (if (0 : Nat) > 0 then ", " else "" : String) ++ t) r).length + _ ≤ _
    rw [textFrom_length_pos _ _ _ (Nat.succ_pos 0), if_neg (by decide), strLen_append, strLen_append, e1, e2, piled_cons]
    show 1 + ("" : Str).length + t.length + piled r + 1 ≤ _
    rw [e3]
    omega
theorem tupleText_len (ts : List Str) : (tupleText ts).length ≤ piled ts + 3 := by
  have e3 : (((if ts.length == 1 then ",)" else ")" : String) : Str)).length ≤ 2 := by split <;> decide +kernel
  have e1 : ("(" : Str).length = 1 := rfl
  unfold tupleText
  rw [strLen_append, strLen_append, e1]
  by_cases h : ts = []
  · subst h
    decide +kernel
  · have := join_length_add ts h
    omega
mutual
theorem shown_cost : ∀ d : PyData, d.showable = true → d.hasDict = false → d.shown.length ≤ costD d
  | .none, _, _ => by decide +kernel
  | .bool b, _, _ => by cases b <;> decide +kernel
  | .int i, h, _ => by
    have h1 : i.natAbs.log2 < 1920 := by simpa [PyData.showable] using h
    have h2 := int_text_length_le (k := 1920) (by decide) h1
    show (Str.ofString (toString i)).length ≤ 1930
    rw [PySem.ofString_length]
    omega
  | .str x, _, _ => Nat.le_refl _
  | .list ds, h, n => by
    have q := showns_cost ds (by simpa [PyData.showable] using h) (by simpa [PyData.hasDict] using n)
    have q2 := listText_len (PyData.shownAll ds)
    show (listText (PyData.shownAll ds)).length ≤ costs ds + 3
    omega
  | .tuple ds, h, n => by
    have q := showns_cost ds (by simpa [PyData.showable] using h) (by simpa [PyData.hasDict] using n)
    have q2 := tupleText_len (PyData.shownAll ds)
    show (tupleText (PyData.shownAll ds)).length ≤ costs ds + 3
    omega
  | .dict _, _, n => by simp [PyData.hasDict] at n
theorem showns_cost : ∀ ds : List PyData, PyData.showableAll ds = true → PyData.hasDictAll ds = false → piled (PyData.shownAll ds) ≤ costs ds
  | [], _, _ => Nat.le_refl _
  | d :: ds, h, n => by
    simp only [PyData.showableAll, Bool.and_eq_true] at h
    simp only [PyData.hasDictAll, Bool.or_eq_false_iff] at n
    have q1 := shown_cost d h.1 n.1
    have q2 := showns_cost ds h.2 n.2
    show piled (d.shown :: PyData.shownAll ds) ≤ costD d + 2 + costs ds
    rw [piled_cons]
    omega
end
section
variable {X : Cx}
/-- repr of data that is a list or a tuple -/
def rRepr (K : PySem.W.Frag) : List V → Hp → VK → Prop := fun vs H Q => ∃ a d, vs = [V.ref a] ∧ Dp K H (.ref a) d ∧ d.showable = true ∧ d.hasDict = false ∧ d.depth ≤ 20 ∧ costD d ≤ sizeLine ∧ Q (.str d.shown) H
theorem cr_repr (hg : X.A.guards = some []) (hu : X.A.units + 64 < cLine) : CallR X (.builtin "repr") (rRepr X.K) := by
  intro pins s σ H vs us Q I r h
  obtain ⟨a, d, rfl, hd, h1, h2, h3, h4, q⟩ := h
  obtain ⟨as, rd⟩ := Dp.reads I d (.ref a) (.ref a) hd rfl
  rw [Vals.ref1 r]
  have sz := shown_cost d h1 h2
  refine repr_of_reads' rd h1 (fun z => ?_) hg (by omega) (fun _ _ e => e) (fun h' u tk hk => ⟨.str d.shown, H, I.kept hk, ⟨u, rfl⟩, q⟩) (by omega)
  rw [h2] at z
  cases z
end

/-! readings run by rewriting -/

def LoopW (J : It) (g : TG) (tb : TS) (D : Ends) (σ : L2.St) (H1 : Hp) : Prop :=
  ∃ W : Nat → Nat → L2.St → Hp → Prop, (∃ m, W 0 m σ H1) ∧ ∀ (i m : Nat) (σ : L2.St) (H : Hp), W i m σ H →
    (J.stop i H ∧ D.nx σ H) ∨ (J.go i H ∧ ∃ N : L2.St → Hp → Prop, (∀ (σ' : L2.St) (H' : Hp), N σ' H' → ∃ m', m' < m ∧ W (i + 1) m' σ' H') ∧
      ∀ (x : V) (H' : Hp), J.yld i H x H' → g x σ H' fun σ2 H2 => tb { nx := N, rt := D.rt, bk := D.nx, ct := N } σ2 H2)
def LcW (J : It) (g : TG) (tt : TT) (te : TE) (vs : List Nat) (σ : L2.St) (H1 : Hp) (D : Addr) (Q : VK) : Prop :=
  ∃ W : Nat → Nat → Hp → Prop, (∃ m, W 0 m (upd H1 D (.lst []))) ∧ ∀ (i m : Nat) (H : Hp), W i m H →
    (J.stop i H ∧ Q (V.ref D) H) ∨ (J.go i H ∧ ∃ Nx : Hp → Prop, (∀ (H' : Hp), Nx H' → ∃ m', m' < m ∧ W (i + 1) m' H') ∧
      ∀ (x : V) (H' : Hp), J.yld i H x H' → g x (wipe σ vs) H' fun σ2 H2 => wipe σ2 vs = wipe σ vs ∧ tt σ2 H2 fun b H3 =>
        if b = true then te σ2 H3 fun y H4 => ∃ acc, H4 D = some (.lst acc) ∧ acc.length < sizeLine ∧ Nx (upd H4 D (.lst (acc ++ [y]))) else Nx H3)
section
variable {X : Cx}
def tmE (t : TE) : TE := fun σ H R => ∃ R0 : VK, t σ H R0 ∧ ∀ v H', R0 v H' → R v H'
theorem PE.mon {e : Expr} {t : TE} (h : PE X e t) : PE X e (tmE t) := by
  refine ⟨fun pins s σ H R I ⟨R0, h0, hi⟩ => thn (h.run pins s σ H R0 I h0) fun u s' q => ?_⟩
  obtain ⟨v, H', I', rel, z⟩ := q
  exact ⟨v, H', I', rel, hi v H' z⟩
def tmT (t : TT) : TT := fun σ H R => ∃ R0 : Bool → Hp → Prop, t σ H R0 ∧ ∀ v H', R0 v H' → R v H'
theorem PT.mon {e : Expr} {t : TT} (h : PT X e t) : PT X e (tmT t) := by
  refine ⟨fun pins s σ H R I ⟨R0, h0, hi⟩ => thn (h.run pins s σ H R0 I h0) fun u s' q => ?_⟩
  obtain ⟨H', I', z⟩ := q
  exact ⟨H', I', hi u H' z⟩
def tCut (t u : TS) : TS := fun D σ H => ∃ Mid : L2.St → Hp → Prop, t { nx := Mid, rt := D.rt, bk := D.bk, ct := D.ct } σ H ∧ ∀ σ' H', Mid σ' H' → u D σ' H'
theorem pss_cut {st : Stmt} {rest : List Stmt} {t u : TS} (h1 : PS X st t) (h2 : PSs X rest u) : PSs X (st :: rest) (tCut t u) := by
  refine ⟨fun pins s σ H D I ⟨Mid, hm, hu⟩ => ?_⟩
  refine wpAny_execs_cons (thn (h1.run pins s σ H { nx := Mid, rt := D.rt, bk := D.bk, ct := D.ct } I hm) fun fl s1 q => ?_)
  cases fl with
  | next =>
    obtain ⟨σ', H', I', z⟩ := q
    exact h2.run pins s1 σ' H' D I' (hu σ' H' z)
  | ret v => exact q
  | brk => exact q
  | cont => exact q
end
section
variable {t u : TS} {D : Ends} {σ : L2.St} {H : Hp} {te ta tb tc : TE} {g : TG} {Q : VK} {tt tu : TT} {K : PySem.W.Frag} {wi : TI} {tx tr : TA} {to th : TO} {R : Bool → Hp → Prop}
theorem r_seq : tSeq t u D σ H = t { nx := u D, rt := D.rt, bk := D.bk, ct := D.ct } σ H := rfl
theorem r_asg : tAsg te g D σ H = te σ H fun x H1 => g x σ H1 D.nx := rfl
theorem r_name {i : Nat} {v : V} {S : L2.St → Hp → Prop} : gName i v σ H S = S (σ.set i (some v)) H := rfl
theorem r_ifS : tIfS tt t u D σ H = tt σ H fun b H1 => if b = true then t D σ H1 else u D σ H1 := rfl
theorem r_next : tNext D σ H = D.nx σ H := rfl
theorem r_ret : tRet te D σ H = te σ H D.rt := rfl
theorem r_retN : tRetN D σ H = D.rt V.non H := rfl
theorem r_drop : tDrop te D σ H = te σ H fun _ H1 => D.nx σ H1 := rfl
theorem r_test : tTest te σ H R = te σ H fun x H1 => ∃ k, x = V.bl k ∧ R k H1 := rfl
theorem r_B : tB te σ H R = te σ H fun x H1 => ∃ k, x = V.bl k ∧ R k H1 := rfl
theorem r_if : tIf tt ta tb σ H Q = tt σ H fun c H1 => if c = true then ta σ H1 Q else tb σ H1 Q := rfl
theorem r_cons {S : List V → Hp → Prop} : tCons ta tx σ H S = ta σ H fun x H1 => tx σ H1 fun xs H2 => S (x :: xs) H2 := rfl
theorem r_nil {S : List V → Hp → Prop} : tNil σ H S = S [] H := rfl
theorem r_cb {r : List V → Hp → VK → Prop} : tCB r tx σ H Q = tx σ H fun vs H1 => r vs H1 Q := rfl
theorem r_tF {sp : Sp} : tF sp tx σ H Q = tx σ H fun vs H1 => sp vs H1 Q E0 := rfl
theorem r_part {S : Option Int → Hp → Prop} : tPart te σ H S = te σ H fun x H1 => ∃ i, x = V.int i ∧ S (some i) H1 := rfl
theorem r_nopart {S : Option Int → Hp → Prop} : tNoPart σ H S = S none H := rfl
theorem r_sl {r : V → Option Int → Option Int → Hp → VK → Prop} : L2.tSl r te to th σ H Q = te σ H fun x H1 => to σ H1 fun l H2 => th σ H2 fun u H3 => r x l u H3 Q := rfl
theorem r_par {i j : Nat} : tPar i j tx D σ H = tx σ H fun vs H1 => ∃ v w, vs = [v, w] ∧ D.nx ((σ.set i (some v)).set j (some w)) H1 := rfl
theorem r_chain {r r' : R2} : tChain r r' ta tb tc σ H Q = ta σ H fun x H1 => tb σ H1 fun y H2 => r x y H2 fun z H3 => ∃ k, z = V.bl k ∧ if k = true then tc σ H3 fun w' H4 => r' y w' H4 Q else Q (V.bl false) H3 := rfl
theorem r_or : tOr tt tu σ H R = tt σ H fun c H1 => if c = true then R true H1 else tu σ H1 R := rfl
theorem r_and : tAnd tt tu σ H R = tt σ H fun c H1 => if c = true then tu σ H1 R else R false H1 := rfl
theorem r_not : tNot tt σ H R = tt σ H fun c H1 => R (!c) H1 := rfl
theorem r_orV : tOrV ta tb σ H Q = ta σ H fun x H1 => ∃ c, x = V.bl c ∧ if c = true then Q (.bl true) H1 else tb σ H1 Q := rfl
theorem r_andV : tAndV ta tb σ H Q = ta σ H fun x H1 => ∃ c, x = V.bl c ∧ if c = true then tb σ H1 Q else Q (.bl false) H1 := rfl
theorem r_notV : tNotV ta σ H Q = ta σ H fun x H1 => ∃ c, x = V.bl c ∧ Q (.bl (!c)) H1 := rfl
theorem r_op {r : R2} : tOp r ta tb σ H Q = ta σ H fun x H1 => tb σ H1 fun y H2 => r x y H2 Q := rfl
theorem r_un {r : V → Hp → VK → Prop} : tUn r ta σ H Q = ta σ H fun x H1 => r x H1 Q := rfl
theorem r_var {i : Nat} : tVar i σ H Q = ∃ v, σ[i]? = some (some v) ∧ Q v H := rfl
theorem r_c {v : V} : tC v σ H Q = Q v H := rfl
theorem r_yes {R : Bool → Hp → Prop} : tYes σ H R = R true H := rfl
theorem r_sfld {tv : TE} {f : Str} : sFld K ta tv f D σ H = tv σ H fun y H1 => ta σ H1 fun x H2 => ∃ a C dx fs, x = V.ref a ∧ H2 a = some (HO.ins C dx fs) ∧ Cls K C ∧ NoAttr K C f ∧ fs.length < 1000 ∧ D.nx σ (upd H2 a (HO.ins C dx (putF f y fs))) := rfl
theorem r_never : tNever D σ H ↔ False := Iff.rfl
theorem r_I0 {f : Int → Int → V} {i j : Int} : rI0 f (.int i) (.int j) H Q ↔ Q (f i j) H := by simp [rI0]
theorem r_I {C : Int → Int → Prop} {f : Int → Int → V} {i j : Int} : rI C f (.int i) (.int j) H Q ↔ C i j ∧ Q (f i j) H := by simp [rI]
theorem r_U {f : Int → V} {i : Int} : rU f (.int i) H Q ↔ Q (f i) H := by simp [rU]
theorem r_eqI {i j : Int} : rEq (.int i) (.int j) H Q ↔ Q (.bl (decide (i = j))) H := by simp [rEq, scal]
theorem r_neI {i j : Int} : rNe (.int i) (.int j) H Q ↔ Q (.bl (!decide (i = j))) H := by simp [rNe, scal]
theorem r_eqS {x y : Str} : rEq (.str x) (.str y) H Q ↔ Q (.bl (decide (x = y))) H := by simp [rEq, scal]
theorem r_neS {x y : Str} : rNe (.str x) (.str y) H Q ↔ Q (.bl (!decide (x = y))) H := by simp [rNe, scal]
theorem r_lst {es : TA} : nLst es σ H Q = es σ H fun xs H1 => xs.length ≤ sizeLine ∧ New H1 (.lst xs) Q := rfl
theorem r_tup {es : TA} : nTup es σ H Q = es σ H fun xs H1 => xs.length ≤ sizeLine ∧ New H1 (.tup xs) Q := rfl
theorem r_for {D : Ends} : tFor wi g t D σ H = wi σ H fun J H1 => LoopW J g t D σ H1 := rfl
theorem r_lc {vs : List Nat} : tLc wi g tt te vs σ H Q = wi σ H fun J H1 => ∀ Dd, H1 Dd = none → LcW J g tt te vs σ H1 Dd Q := rfl
theorem r_list {S : It → Hp → Prop} : iList K te σ H S = te σ H fun x H1 => ∃ a, x = V.ref a ∧ (∃ xs, SqL K H1 a xs) ∧ S (Itl K a) H1 := rfl
theorem r_tupI {S : It → Hp → Prop} : iTup K te σ H S = te σ H fun x H1 => ∃ a, x = V.ref a ∧ (∃ xs, SqT K H1 a xs) ∧ S (Itt K a) H1 := rfl
theorem r_rng1 {S : It → Hp → Prop} : iRng1 tx σ H S = tx σ H fun vs H1 => ∃ j, vs = [V.int j] ∧ -2 ^ 62 ≤ j ∧ j < 2 ^ 62 ∧ S (Itr 0 j.toNat) H1 := rfl
theorem r_rng2 {S : It → Hp → Prop} : iRng2 tx σ H S = tx σ H fun vs H1 => ∃ i j : Int, vs = [.int i, .int j] ∧ (-(2 ^ 62) ≤ i ∧ i < 2 ^ 62 ∧ -(2 ^ 62) ≤ j ∧ j < 2 ^ 62) ∧ S (Itr i (j - i).toNat) H1 := rfl
theorem r_enumT {S : It → Hp → Prop} : iEnumT K tx σ H S = tx σ H fun vs H1 => ∃ a xs, vs = [.ref a] ∧ SqT K H1 a xs ∧ S (Iet K a) H1 := rfl
theorem r_bm {T : String} {r : V → List V → Hp → VK → Prop} : tBM K T r te tx σ H Q = te σ H fun x H1 => tyV K T x H1 ∧ tx σ H1 fun xs H2 => r x xs H2 Q := rfl
theorem r_fld {f : Str} : tFld K ta f σ H Q = ta σ H fun x H1 => ∃ a C dx fs v, x = V.ref a ∧ H1 a = some (HO.ins C dx fs) ∧ Cls K C ∧ NoAttr K C f ∧ List.lookup f fs = some v ∧ Q v H1 := rfl
theorem r_subT {o i : TE} {s : TSet} {v : V} {S : L2.St → Hp → Prop} : gSub o i s v σ H S = o σ H fun x H1 => i σ H1 fun y H2 => s x y v H2 fun H3 => S σ H3 := rfl
theorem r_gtup {n : Nat} {ts : TGs} {v : V} {S : L2.St → Hp → Prop} : gTup K n ts v σ H S = ∃ a xs, v = .ref a ∧ SqT K H a xs ∧ xs.length = n ∧ ts xs σ H S := rfl
theorem r_gcons {ts : TGs} {v : V} {xs : List V} {S : L2.St → Hp → Prop} : gCons g ts (v :: xs) σ H S ↔ g v σ H fun σ' H' => ts xs σ' H' S := by
  constructor
  · rintro ⟨w, r, e, h⟩
    cases e
    exact h
  · exact fun h => ⟨v, xs, rfl, h⟩
theorem r_gnil {S : L2.St → Hp → Prop} : gNil [] σ H S ↔ S σ H := by
  simp [gNil]
section
variable {P : Program} {w : World} {mg : Str → Option Value} {base : Heap} {N : List Str} {q : Str} {sc : Scope} {f : Addr} {cd : Value} {A : Around} {outer : List Env} {s : Shared} {E : XK}
theorem r_K0 : (cxOf CX0 P w K mg base N q sc f cd A outer s H E).K = K := rfl
theorem r_K : (cxOf CX0 P w K mg base N q sc f cd A outer s H E).nox.K = K := rfl
theorem r_Kb {s' : Shared} {H' : Hp} {sc' : Scope} {ce : Env} {fp : List Addr} : (((cxOf CX0 P w K mg base N q sc f cd A outer s H E).nox).blk s' H' sc' ce fp).K = K := rfl
end
/-- loops -/
theorem loopL {a : Addr} {xs : List V} {tb : TS} (Pv : Nat → L2.St → Hp → Prop) (h0 : Pv 0 σ H) (hl : ∀ i σ H, i ≤ xs.length → Pv i σ H → SqL K H a xs)
    (hs : ∀ i x σ H, xs[i]? = some x → Pv i σ H → g x σ H fun σ2 H2 => tb { nx := Pv (i + 1), rt := D.rt, bk := D.nx, ct := Pv (i + 1) } σ2 H2) (hd : ∀ σ H, Pv xs.length σ H → D.nx σ H) : LoopW (Itl K a) g tb D σ H := for_list Pv h0 hl hs hd
theorem loopT {a : Addr} {xs : List V} {tb : TS} (Pv : Nat → L2.St → Hp → Prop) (h0 : Pv 0 σ H) (hl : ∀ i σ H, i ≤ xs.length → Pv i σ H → SqT K H a xs)
    (hs : ∀ i x σ H, xs[i]? = some x → Pv i σ H → g x σ H fun σ2 H2 => tb { nx := Pv (i + 1), rt := D.rt, bk := D.nx, ct := Pv (i + 1) } σ2 H2) (hd : ∀ σ H, Pv xs.length σ H → D.nx σ H) : LoopW (Itt K a) g tb D σ H := for_tup Pv h0 hl hs hd
theorem loopR {lo : Int} {n : Nat} {tb : TS} (Pv : Nat → L2.St → Hp → Prop) (h0 : Pv 0 σ H)
    (hs : ∀ i σ H, i < n → Pv i σ H → g (.int (lo + i)) σ H fun σ2 H2 => tb { nx := Pv (i + 1), rt := D.rt, bk := D.nx, ct := Pv (i + 1) } σ2 H2) (hd : ∀ σ H, Pv n σ H → D.nx σ H) : LoopW (Itr lo n) g tb D σ H := for_range Pv h0 hs hd
theorem loopE {a : Addr} {xs : List V} {tb : TS} (Pv : Nat → L2.St → Hp → Prop) (h0 : Pv 0 σ H) (hl : ∀ i σ H, i ≤ xs.length → Pv i σ H → SqT K H a xs)
    (hs : ∀ i x σ H T H', xs[i]? = some x → Pv i σ H → Ex H H' → H' T = some (.tup [.int (i : Nat), x]) → g (.ref T) σ H' fun σ2 H2 => tb { nx := Pv (i + 1), rt := D.rt, bk := D.nx, ct := Pv (i + 1) } σ2 H2) (hd : ∀ σ H, Pv xs.length σ H → D.nx σ H) : LoopW (Iet K a) g tb D σ H :=
  for_it (walk_enumT (K := K) (a := a) (xs := xs)) Pv h0 hl (fun i v σ H H' hi hp y => by
    obtain ⟨T, x, z, rfl, hn, rfl, h1, h2⟩ := y
    cases h1
    exact hs i z σ H T _ h2 hp (Ex.new hn) upd_same) hd
end

/-! comprehensions; small rules of values -/
section
variable {g : TG} {te : TE} {vs : List Nat} {σ : L2.St} {H1 : Hp} {Dd : Addr} {Q : VK} {K : PySem.W.Frag} {a : Addr} {xs : List V}
/-- the state of a comprehension: what is made so far tells R -/
def LcJ (H1 : Hp) (Dd : Addr) (R : Nat → V → Hp → Prop) (i : Nat) (H : Hp) : Prop :=
  ∃ acc : List V, H Dd = some (.lst acc) ∧ acc.length = i ∧ Ex H1 H ∧ ∀ (j : Nat) y, acc[j]? = some y → R j y H
theorem lcJ_turn {R : Nat → V → Hp → Prop} (hR : ∀ i y H H', Kp H H' → R i y H → R i y H') (hD : H1 Dd = none) {i : Nat} {H H4 : Hp} {y : V}
    (p : LcJ H1 Dd R i H) (e : Ex H H4) (r : R i y H4) (hi : i < 1000000) :
    ∃ acc, H4 Dd = some (.lst acc) ∧ acc.length < sizeLine ∧ LcJ H1 Dd R (i + 1) (upd H4 Dd (.lst (acc ++ [y]))) := by
  obtain ⟨acc, h1, h2, h3, h4⟩ := p
  have k : Kp H4 (upd H4 Dd (.lst (acc ++ [y]))) := fun b o hb n => by
    rw [upd_ne]
    · exact hb
    · intro z
      rw [z, e _ _ h1] at hb
      exact n _ (Option.some.inj hb).symm
  refine ⟨acc, e _ _ h1, Nat.lt_of_lt_of_le (show acc.length < 1000000 by omega) (by decide), acc ++ [y], upd_same, by simp [h2], fun b o hb => ?_, fun j z hz => ?_⟩
  · rw [upd_ne (ne_of_none hb hD)]
    exact e _ _ (h3 _ _ hb)
  · by_cases hj : j < acc.length
    · rw [List.getElem?_append_left hj] at hz
      exact hR _ _ _ _ (e.kp.trans k) (h4 j z hz)
    · have hj2 : j = acc.length := by
        have := (List.getElem?_eq_some_iff.mp hz).1
        rw [List.length_append, List.length_singleton] at this
        omega
      subst hj2
      rw [List.getElem?_append_right (Nat.le_refl _), Nat.sub_self] at hz
      cases hz
      rw [h2]
      exact hR _ _ _ _ k r
theorem lcJ_start {R : Nat → V → Hp → Prop} (hD : H1 Dd = none) : LcJ H1 Dd R 0 (upd H1 Dd (.lst [])) :=
  ⟨[], upd_same, rfl, Ex.new hD, fun j y h => by simp at h⟩
/-- what is wanted behind a comprehension -/
def LcEnd (H1 : Hp) (Dd : Addr) (n : Nat) (R : Nat → V → Hp → Prop) (Q : VK) : Prop :=
  ∀ H ys, Ex H1 H → H Dd = some (.lst ys) → ys.length = n → (∀ (i : Nat) y, ys[i]? = some y → R i y H) → Q (.ref Dd) H
theorem lcL {J0 : Prop} (R : Nat → V → Hp → Prop) (hR : ∀ i y H H', Kp H H' → R i y H → R i y H') (hD : H1 Dd = none) (hx : SqL K H1 a xs) (hz : xs.length ≤ 100000)
    (hs : ∀ (i : Nat) x H, xs[i]? = some x → Ex H1 H → g x (wipe σ vs) H fun σ2 H2 => wipe σ2 vs = wipe σ vs ∧ tmE te σ2 H2 fun y H4 => Ex H H4 ∧ R i y H4)
    (hg : ∀ (i : Nat) x H S S', xs[i]? = some x → (∀ σ2 H2, S σ2 H2 → S' σ2 H2) → g x (wipe σ vs) H S → g x (wipe σ vs) H S')
    (hd : LcEnd H1 Dd xs.length R Q) : LcW (Itl K a) g tYes (tmE te) vs σ H1 Dd Q :=
  lc_list (xs := xs) (LcJ H1 Dd R) (lcJ_start hD) (fun i H _ ⟨_, _, _, e, _⟩ => sqL_ex hx e) (fun i x H hi p => by
    obtain ⟨acc, q1, q2, q3, q4⟩ := id p
    refine hg i x H _ _ hi (fun σ2 H2 ⟨w, z⟩ => ⟨w, ?_⟩) (hs i x H hi q3)
    show tmE te σ2 H2 _
    obtain ⟨R0, z1, z2⟩ := z
    exact ⟨R0, z1, fun y H4 r0 => lcJ_turn hR hD p (z2 y H4 r0).1 (z2 y H4 r0).2 (by have := (List.getElem?_eq_some_iff.mp hi).1; omega)⟩)
    fun H ⟨acc, q1, q2, q3, q4⟩ => hd H acc q3 q1 q2 q4
theorem lcT (R : Nat → V → Hp → Prop) (hR : ∀ i y H H', Kp H H' → R i y H → R i y H') (hD : H1 Dd = none) (hx : SqT K H1 a xs) (hz : xs.length ≤ 100000)
    (hs : ∀ (i : Nat) x H, xs[i]? = some x → Ex H1 H → g x (wipe σ vs) H fun σ2 H2 => wipe σ2 vs = wipe σ vs ∧ tmE te σ2 H2 fun y H4 => Ex H H4 ∧ R i y H4)
    (hg : ∀ (i : Nat) x H S S', xs[i]? = some x → (∀ σ2 H2, S σ2 H2 → S' σ2 H2) → g x (wipe σ vs) H S → g x (wipe σ vs) H S')
    (hd : LcEnd H1 Dd xs.length R Q) : LcW (Itt K a) g tYes (tmE te) vs σ H1 Dd Q :=
  lc_tup (xs := xs) (LcJ H1 Dd R) (lcJ_start hD) (fun i H _ ⟨_, _, _, e, _⟩ => sqT_kp hx e.kp) (fun i x H hi p => by
    obtain ⟨acc, q1, q2, q3, q4⟩ := id p
    refine hg i x H _ _ hi (fun σ2 H2 ⟨w, z⟩ => ⟨w, ?_⟩) (hs i x H hi q3)
    show tmE te σ2 H2 _
    obtain ⟨R0, z1, z2⟩ := z
    exact ⟨R0, z1, fun y H4 r0 => lcJ_turn hR hD p (z2 y H4 r0).1 (z2 y H4 r0).2 (by have := (List.getElem?_eq_some_iff.mp hi).1; omega)⟩)
    fun H ⟨acc, q1, q2, q3, q4⟩ => hd H acc q3 q1 q2 q4
theorem lcR {lo : Int} {n : Nat} {j : Nat} (R : Nat → V → Hp → Prop) (hR : ∀ i y H H', Kp H H' → R i y H → R i y H') (hD : H1 Dd = none) (hz : n ≤ 100000)
    (hw : ∀ x, wipe ((wipe σ vs).set j (some x)) vs = wipe σ vs)
    (hs : ∀ (i : Nat) H, i < n → Ex H1 H → tmE te ((wipe σ vs).set j (some (.int (lo + i)))) H fun y H4 => Ex H H4 ∧ R i y H4)
    (hd : LcEnd H1 Dd n R Q) : LcW (Itr lo n) (gName j) tYes (tmE te) vs σ H1 Dd Q :=
  lc_range (LcJ H1 Dd R) (lcJ_start hD) (fun i H hi p => by
    obtain ⟨acc, q1, q2, q3, q4⟩ := id p
    refine ⟨hw _, ?_⟩
    obtain ⟨R0, z1, z2⟩ := hs i H hi q3
    exact ⟨R0, z1, fun y H4 r0 => lcJ_turn hR hD p (z2 y H4 r0).1 (z2 y H4 r0).2 (by omega)⟩)
    fun H ⟨acc, q1, q2, q3, q4⟩ => hd H acc q3 q1 q2 q4
/-- a name as the target -/
theorem lcLn {j : Nat} (R : Nat → V → Hp → Prop) (hR : ∀ i y H H', Kp H H' → R i y H → R i y H') (hD : H1 Dd = none) (hx : SqL K H1 a xs) (hz : xs.length ≤ 100000)
    (hw : ∀ x, wipe ((wipe σ vs).set j (some x)) vs = wipe σ vs)
    (hs : ∀ (i : Nat) x H, xs[i]? = some x → Ex H1 H → tmE te ((wipe σ vs).set j (some x)) H fun y H4 => Ex H H4 ∧ R i y H4)
    (hd : LcEnd H1 Dd xs.length R Q) : LcW (Itl K a) (gName j) tYes (tmE te) vs σ H1 Dd Q :=
  lcL (J0 := True) R hR hD hx hz (fun i x H hi e => ⟨hw x, hs i x H hi e⟩) (fun _ _ _ _ _ _ h q => h _ _ q) hd
theorem lcTn {j : Nat} (R : Nat → V → Hp → Prop) (hR : ∀ i y H H', Kp H H' → R i y H → R i y H') (hD : H1 Dd = none) (hx : SqT K H1 a xs) (hz : xs.length ≤ 100000)
    (hw : ∀ x, wipe ((wipe σ vs).set j (some x)) vs = wipe σ vs)
    (hs : ∀ (i : Nat) x H, xs[i]? = some x → Ex H1 H → tmE te ((wipe σ vs).set j (some x)) H fun y H4 => Ex H H4 ∧ R i y H4)
    (hd : LcEnd H1 Dd xs.length R Q) : LcW (Itt K a) (gName j) tYes (tmE te) vs σ H1 Dd Q :=
  lcT R hR hD hx hz (fun i x H hi e => ⟨hw x, hs i x H hi e⟩) (fun _ _ _ _ _ _ h q => h _ _ q) hd
end
section
variable {K : PySem.W.Frag} {H : Hp} {Q : VK} {p : Addr} {xs : List V} {i : Int} {v : V}
theorem q_ixL (h : SqL K H p xs) (e : atI xs i = some v) (q : Q v H) : rIxL K (.ref p) (.int i) H Q := ⟨p, xs, i, v, rfl, rfl, h, e, q⟩
theorem q_ixT (h : SqT K H p xs) (e : atI xs i = some v) (q : Q v H) : rIxT K (.ref p) (.int i) H Q := ⟨p, xs, i, v, rfl, rfl, h, e, q⟩
theorem at_int {ns : List Int} {i : Int} (h0 : 0 ≤ i) (h : i < ns.length) : ∃ z, ns[i.toNat]? = some z ∧ atI (ns.map V.int) i = some (.int z) := by
  obtain ⟨n, rfl⟩ := Int.eq_ofNat_of_zero_le h0
  have hn : n < ns.length := by omega
  refine ⟨ns[n], by simp [hn], at_of (j := n) rfl ?_⟩
  simp [hn]
/-- products: both together short, or one of them small -/
def CMulS (i j : Int) : Prop := CMulX i j ∨ CMul i j
theorem op_mulS {X : Cx} : OpR X (binaryOp .Mult) (rI CMulS fun i j => .int (i * j)) := fun pins s σ H x y v u Q I rx ry ⟨i, j, e1, e2, c, q⟩ =>
  c.elim (fun c => op_mulX pins s σ H x y v u Q I rx ry ⟨i, j, e1, e2, c, q⟩) fun c => op_mul pins s σ H x y v u Q I rx ry ⟨i, j, e1, e2, c, q⟩
theorem cmul {i j : Int} (a b : Nat) (ha : i.natAbs < 2 ^ a) (hb : j.natAbs < 2 ^ b) (h : a + b ≤ 134217728 := by decide) : CMulS i j := .inl (mulx_ok ha hb h)
theorem cmulL {i j : Int} (h1 : -(2 ^ 64) < i := by first | decide | omega) (h2 : i < 2 ^ 64 := by first | decide | omega) : CMulS i j := .inr (.inl ⟨h1, h2⟩)
theorem cmulR {i j : Int} (h1 : -(2 ^ 64) < j := by first | decide | omega) (h2 : j < 2 ^ 64 := by first | decide | omega) : CMulS i j := .inr (.inr ⟨h1, h2⟩)
theorem ints_cut {ns : List Int} {lo hi : Option Int} {x : V} (h : x ∈ cutV (ns.map V.int) lo hi) : ∃ z, x = .int z := by
  unfold cutV at h
  have h2 := List.mem_of_mem_drop (List.mem_of_mem_take h)
  obtain ⟨z, _, e⟩ := List.mem_map.mp h2
  exact ⟨z, e.symm⟩
theorem call_intN {X : Cx} : CallR X (.type "int") (fun xs H Q => ∃ i, xs = [V.int i] ∧ Q (.int i) H) :=
  CallR.imp call_int1 fun _ _ _ h => .inl h
theorem r_set {o i v : V} {S : Hp → Prop} : rSetL o i v H S = ∃ p xs k j, o = .ref p ∧ i = .int k ∧ H p = some (.lst xs) ∧ ixN xs.length k = some j ∧ S (upd H p (.lst (xs.set j v))) := rfl
theorem sizeLine_le {n : Nat} (h : n ≤ 1000000) : n ≤ sizeLine := Nat.le_trans h (by decide)
end

/-! fractions in lowest terms are rational numbers; plain counts -/

/-- a fraction as a tuple's items -/
def fr (r : Rat) : List V := [.int r.num, .int ((r.den : Nat) : Int)]
def frD (r : Rat) : PyData := .tuple [.int r.num, .int ((r.den : Nat) : Int)]
/-- both parts below 2 ^ n -/
def sz (r : Rat) (n : Nat) : Prop := r.num.natAbs < 2 ^ n ∧ r.den < 2 ^ n

theorem nac {k : Int} (hk : 0 < k) : ((k.natAbs : Nat) : Int) = k := by omega
theorem div_num {t b : Int} (hb : 0 < b) : ((t : Rat) / (b : Rat)).num = t / ((Int.gcd b t : Nat) : Int) := by
  rw [← Rat.divInt_eq_div, Rat.num_divInt, Int.sign_eq_one_of_pos hb, Int.one_mul]
theorem div_den {t b : Int} (hb : 0 < b) : ((((t : Rat) / (b : Rat)).den : Nat) : Int) = b / ((Int.gcd b t : Nat) : Int) := by
  rw [← Rat.divInt_eq_div, Rat.den_divInt, if_neg (by omega), Int.natCast_ediv, nac hb]
theorem part_eq {t b : Int} (hb : 0 < b) : [V.int (t / ((Int.gcd b t : Nat) : Int)), V.int (b / ((Int.gcd b t : Nat) : Int))] = fr ((t : Rat) / (b : Rat)) := by
  unfold fr
  rw [div_num hb, div_den hb]
theorem natAbs_div_le (t : Int) (g : Nat) : (t / (g : Int)).natAbs ≤ t.natAbs ∨ g = 0 := by
  by_cases h : g = 0
  · exact .inr h
  · left
    have := Int.natAbs_ediv_le_natAbs t (g : Int)
    omega
theorem sz_div {t b : Int} {n : Nat} (hb : 0 < b) (h1 : t.natAbs < 2 ^ n) (h2 : b.natAbs < 2 ^ n) : sz ((t : Rat) / (b : Rat)) n := by
  have q1 := Int.natAbs_ediv_le_natAbs t ((Int.gcd b t : Nat) : Int)
  have q2 := Int.natAbs_ediv_le_natAbs b ((Int.gcd b t : Nat) : Int)
  have e1 := div_num (t := t) hb
  have e2 := div_den (t := t) hb
  constructor
  · rw [e1]
    omega
  · have : (((t : Rat) / (b : Rat)).den) = (b / ((Int.gcd b t : Nat) : Int)).natAbs := by
      rw [← e2]
      simp
    omega
theorem sz_mono {r : Rat} {n m : Nat} (h : sz r n) (e : n ≤ m) : sz r m :=
  ⟨Nat.lt_of_lt_of_le h.1 (Nat.pow_le_pow_right (by decide) e), Nat.lt_of_lt_of_le h.2 (Nat.pow_le_pow_right (by decide) e)⟩
theorem den_pos (r : Rat) : (0 : Int) < ((r.den : Nat) : Int) := by
  have := r.den_pos
  omega
theorem add_parts (s r : Rat) : (((s.num * ((r.den : Nat) : Int) + r.num * ((s.den : Nat) : Int) : Int) : Rat)) / (((((s.den : Nat) : Int) * ((r.den : Nat) : Int) : Int)) : Rat) = s + r := by
  rw [Rat.add_def', Rat.mkRat_eq_div]
  congr 1
theorem mul_parts (s r : Rat) : (((s.num * r.num : Int) : Rat)) / (((((s.den : Nat) : Int) * ((r.den : Nat) : Int) : Int)) : Rat) = s * r := by
  rw [Rat.mul_def', Rat.mkRat_eq_div]
  congr 1
theorem add_lt2 {a b : Int} {n : Nat} (h1 : a.natAbs < 2 ^ n) (h2 : b.natAbs < 2 ^ n) : (a + b).natAbs < 2 ^ (n + 1) := by
  have : (2 : Nat) ^ (n + 1) = 2 ^ n + 2 ^ n := by rw [Nat.pow_succ]; omega
  omega
theorem lt2_mono {a : Int} {n m : Nat} (h : a.natAbs < 2 ^ n) (e : n ≤ m) : a.natAbs < 2 ^ m := Nat.lt_of_lt_of_le h (Nat.pow_le_pow_right (by decide) e)
theorem den_lt {r : Rat} {n : Nat} (h : sz r n) : (((r.den : Nat) : Int)).natAbs < 2 ^ n := by
  have := h.2
  simpa using this
theorem sz_add {s r : Rat} {n m : Nat} (h1 : sz s n) (h2 : sz r m) : sz (s + r) (n + m + 1) := by
  rw [← add_parts]
  refine sz_div (Int.mul_pos (den_pos s) (den_pos r)) ?_ ?_
  · refine add_lt2 (wide_lt h1.1 (den_lt h2)) ?_
    rw [Nat.add_comm]
    exact wide_lt h2.1 (den_lt h1)
  · exact lt2_mono (wide_lt (den_lt h1) (den_lt h2)) (by omega)
theorem sz_mul {s r : Rat} {n m : Nat} (h1 : sz s n) (h2 : sz r m) : sz (s * r) (n + m) := by
  rw [← mul_parts]
  exact sz_div (Int.mul_pos (den_pos s) (den_pos r)) (wide_lt h1.1 h2.1) (wide_lt (den_lt h1) (den_lt h2))
/-- the sum, from the left -/
def sumR (rs : List Rat) : Rat := rs.foldl (· + ·) 0
theorem sumR_take {rs : List Rat} {i : Nat} {r : Rat} (h : rs[i]? = some r) : sumR (rs.take (i + 1)) = sumR (rs.take i) + r := by
  unfold sumR
  rw [List.take_add_one, h]
  simp
theorem sz_sum {n : Nat} : ∀ (rs : List Rat) (i : Nat), (∀ r ∈ rs, sz r n) → i ≤ rs.length → sz (sumR (rs.take i)) (i * (n + 1) + 1)
  | rs, 0, _, _ => by
    have e : 2 ^ (0 * (n + 1) + 1) = 2 := by rw [Nat.zero_mul]
    simp only [List.take_zero]
    unfold sz
    rw [e]
    constructor <;> decide
  | rs, i + 1, h, hi => by
    have hr : rs[i]? = some rs[i] := List.getElem?_eq_getElem (by omega)
    rw [sumR_take hr]
    refine sz_mono (sz_add (sz_sum rs i h (by omega)) (h _ (List.getElem_mem _))) ?_
    rw [Nat.add_mul]
    omega

/-! ### plain counts -/
def gcdL (cs : List Int) : Nat := cs.foldl (fun (g : Nat) c => Int.gcd (g : Int) c) 0
def plainL (cs : List Int) : List Int := cs.map fun c => c / ((gcdL cs : Nat) : Int)
theorem gcdL_take {cs : List Int} {i : Nat} {c : Int} (h : cs[i]? = some c) : gcdL (cs.take (i + 1)) = Int.gcd ((gcdL (cs.take i) : Nat) : Int) c := by
  unfold gcdL
  rw [List.take_add_one, h]
  simp
theorem gcdF_dvd : ∀ (cs : List Int) (g : Nat), cs.foldl (fun (g : Nat) c => Int.gcd (g : Int) c) g ∣ g ∧ ∀ c ∈ cs, ((cs.foldl (fun (g : Nat) c => Int.gcd (g : Int) c) g : Nat) : Int) ∣ c
  | [], g => ⟨Nat.dvd_refl _, fun _ h => by simp at h⟩
  | c :: cs, g => by
    obtain ⟨h1, h2⟩ := gcdF_dvd cs (Int.gcd (g : Int) c)
    have d1 : Int.gcd (g : Int) c ∣ g := by
      have := Int.gcd_dvd_left (a := (g : Int)) (b := c)
      exact Int.ofNat_dvd.mp this
    have d2 : ((Int.gcd (g : Int) c : Nat) : Int) ∣ c := Int.gcd_dvd_right ..
    refine ⟨Nat.dvd_trans h1 d1, fun x hx => ?_⟩
    rcases List.mem_cons.mp hx with rfl | hx
    · exact Int.dvd_trans (Int.ofNat_dvd.mpr h1) d2
    · exact h2 x hx
theorem gcdL_dvd {cs : List Int} {c : Int} (h : c ∈ cs) : ((gcdL cs : Nat) : Int) ∣ c := (gcdF_dvd cs 0).2 c h
theorem dvd_gcdF : ∀ (cs : List Int) (g d : Nat), d ∣ g → (∀ c ∈ cs, (d : Int) ∣ c) → d ∣ cs.foldl (fun (g : Nat) c => Int.gcd (g : Int) c) g
  | [], g, d, h, _ => h
  | c :: cs, g, d, h, hc => by
    refine dvd_gcdF cs _ d ?_ fun x hx => hc x (List.mem_cons_of_mem _ hx)
    exact Int.dvd_gcd (Int.ofNat_dvd.mpr h) (hc c List.mem_cons_self)
theorem dvd_gcdL {cs : List Int} {d : Nat} (h : ∀ c ∈ cs, (d : Int) ∣ c) : d ∣ gcdL cs := dvd_gcdF cs 0 d (Nat.dvd_zero d) h
/-- the common divisor is told by its divisors -/
theorem gcdL_eq {cs : List Int} {g : Nat} (h1 : ∀ c ∈ cs, (g : Int) ∣ c) (h2 : ∀ d : Nat, (∀ c ∈ cs, (d : Int) ∣ c) → d ∣ g) : gcdL cs = g :=
  Nat.dvd_antisymm (h2 _ fun _ hc => gcdL_dvd hc) (dvd_gcdL h1)
theorem gcdL_pos {cs : List Int} (h : ∃ c ∈ cs, c ≠ 0) : 0 < gcdL cs := by
  obtain ⟨c, hc, hn⟩ := h
  apply Nat.pos_of_ne_zero
  intro z
  have := gcdL_dvd hc
  rw [z] at this
  exact hn (Int.zero_dvd.mp this)
theorem gcdL_le {cs : List Int} {c : Int} (hc : c ∈ cs) (h : 0 < c) : ((gcdL cs : Nat) : Int) ≤ c := Int.le_of_dvd h (gcdL_dvd hc)
/-- so many times as great -/
theorem gcdL_scale (cs : List Int) {k : Int} (hk : 0 < k) : ((gcdL (cs.map (k * ·)) : Nat) : Int) = k * ((gcdL cs : Nat) : Int) := by
  have key : gcdL (cs.map (k * ·)) = k.natAbs * gcdL cs := by
    apply gcdL_eq
    · intro c hc
      obtain ⟨x, hx, rfl⟩ := List.mem_map.mp hc
      rw [Int.natCast_mul, nac hk]
      exact Int.mul_dvd_mul_left k (gcdL_dvd hx)
    · intro d hd
      have kd : k.natAbs ∣ gcdL (cs.map (k * ·)) := by
        apply dvd_gcdL
        intro c hc
        obtain ⟨x, hx, rfl⟩ := List.mem_map.mp hc
        rw [nac hk]
        exact Int.dvd_mul_right k x
      obtain ⟨m, hm⟩ := kd
      have hm2 : m ∣ gcdL cs := by
        apply dvd_gcdL
        intro c hc
        have h1 := gcdL_dvd (cs := cs.map (k * ·)) (c := k * c) (List.mem_map.mpr ⟨c, hc, rfl⟩)
        rw [hm, Int.natCast_mul, nac hk] at h1
        exact Int.dvd_of_mul_dvd_mul_left (by omega) h1
      have h3 : d ∣ gcdL (cs.map (k * ·)) := dvd_gcdL hd
      rw [hm] at h3
      exact Nat.dvd_trans h3 (Nat.mul_dvd_mul_left _ hm2)
  rw [key, Int.natCast_mul, nac hk]
theorem plainL_scale (cs : List Int) {k : Int} (hk : 0 < k) : plainL (cs.map (k * ·)) = plainL cs := by
  unfold plainL
  rw [List.map_map, gcdL_scale cs hk]
  apply List.map_congr_left
  intro c _
  exact Int.mul_ediv_mul_of_pos _ _ hk
theorem plainL_len (cs : List Int) : (plainL cs).length = cs.length := List.length_map _
/-- the counts are so many times the plain ones -/
theorem plainL_mul (cs : List Int) : (plainL cs).map (((gcdL cs : Nat) : Int) * ·) = cs := by
  unfold plainL
  rw [List.map_map]
  conv => rhs; rw [← List.map_id cs]
  apply List.map_congr_left
  intro c hc
  exact Int.mul_ediv_cancel' (gcdL_dvd hc)
theorem plainL_plain (cs : List Int) (h : 0 < gcdL cs) : gcdL (plainL cs) = 1 := by
  have e := gcdL_scale (plainL cs) (k := ((gcdL cs : Nat) : Int)) (by omega)
  rw [plainL_mul] at e
  have hp : (0 : Int) < ((gcdL cs : Nat) : Int) := by omega
  have : ((gcdL cs : Nat) : Int) * 1 = ((gcdL cs : Nat) : Int) * ((gcdL (plainL cs) : Nat) : Int) := by rw [Int.mul_one]; exact e
  have := Int.eq_of_mul_eq_mul_left (by omega) this
  omega
theorem plainL_twice (cs : List Int) (h : 0 < gcdL cs) : plainL (plainL cs) = plainL cs := by
  have e := plainL_plain cs h
  conv => lhs; unfold plainL
  rw [show gcdL (List.map (fun c => c / ((gcdL cs : Nat) : Int)) cs) = 1 from e]
  simp [plainL]
/-- counts in one proportion are alike -/
theorem plainL_prop {cs ds : List Int} {a b : Int} (ha : 0 < a) (hb : 0 < b) (h : cs.map (a * ·) = ds.map (b * ·)) : plainL cs = plainL ds := by
  rw [← plainL_scale cs ha, h, plainL_scale ds hb]

/-! data that can be shown and compared -/
/-- d can be laid, shown within c signs, compared; k deep -/
structure Gd (d : PyData) (k c : Nat) : Prop where
  lay : d.canLay0 = true
  sh : d.showable = true
  nd : d.hasDict = false
  dp : d.depth ≤ k
  co : costD d ≤ c
theorem Gd.int {i : Int} (h : i.natAbs.log2 < 1920) : Gd (.int i) 0 1930 :=
  ⟨by simp [PyData.canLay0], by simp [PyData.showable, h], by simp [PyData.hasDict], Nat.le_of_eq (by simp [PyData.depth]), Nat.le_of_eq (by simp [costD])⟩
theorem Gd.bool (b : Bool) : Gd (.bool b) 0 1930 :=
  ⟨by simp [PyData.canLay0], by simp [PyData.showable], by simp [PyData.hasDict], Nat.le_of_eq (by simp [PyData.depth]), by simp [costD]⟩
theorem gds {k c : Nat} : ∀ {ds : List PyData}, (∀ d ∈ ds, Gd d k c) → PyData.canLayAll0 ds = true ∧ PyData.showableAll ds = true ∧ PyData.hasDictAll ds = false ∧ PyData.depthAll ds ≤ k ∧ costs ds ≤ ds.length * (c + 2)
  | [], _ => ⟨by simp [PyData.canLayAll0], by simp [PyData.showableAll], by simp [PyData.hasDictAll], by simp [PyData.depthAll], by simp [costs]⟩
  | d :: ds, h => by
    obtain ⟨h1, h2, h3, h4, h5⟩ := gds fun x hx => h x (List.mem_cons_of_mem _ hx)
    obtain ⟨g1, g2, g3, g4, g5⟩ := h d List.mem_cons_self
    refine ⟨by simp [PyData.canLayAll0, g1, h1], by simp [PyData.showableAll, g2, h2], by simp [PyData.hasDictAll, g3, h3], ?_, ?_⟩
    · simp only [PyData.depthAll]
      omega
    · simp only [costs, List.length_cons]
      rw [Nat.add_mul]
      omega
theorem Gd.tuple {k c n : Nat} {ds : List PyData} (h : ∀ d ∈ ds, Gd d k c) (hn : ds.length ≤ n) : Gd (.tuple ds) (k + 1) (n * (c + 2) + 3) := by
  obtain ⟨h1, h2, h3, h4, h5⟩ := gds h
  refine ⟨by simpa [PyData.canLay0] using h1, by simpa [PyData.showable] using h2, by simpa [PyData.hasDict] using h3, ?_, ?_⟩
  · simp only [PyData.depth]
    omega
  · simp only [costD]
    have := Nat.mul_le_mul_right (c + 2) hn
    omega
theorem Gd.list {k c n : Nat} {ds : List PyData} (h : ∀ d ∈ ds, Gd d k c) (hn : ds.length ≤ n) : Gd (.list ds) (k + 1) (n * (c + 2) + 3) := by
  obtain ⟨h1, h2, h3, h4, h5⟩ := gds h
  refine ⟨by simpa [PyData.canLay0] using h1, by simpa [PyData.showable] using h2, by simpa [PyData.hasDict] using h3, ?_, ?_⟩
  · simp only [PyData.depth]
    omega
  · simp only [costD]
    have := Nat.mul_le_mul_right (c + 2) hn
    omega
theorem Gd.mono {d : PyData} {k c k' c' : Nat} (h : Gd d k c) (hk : k ≤ k') (hc : c ≤ c') : Gd d k' c' := ⟨h.lay, h.sh, h.nd, Nat.le_trans h.dp hk, Nat.le_trans h.co hc⟩
theorem Gd.shaped {d : PyData} {k c : Nat} (h : Gd d k c) (hk : k ≤ 64) : SeqAt.shaped d = true := by
  unfold SeqAt.shaped
  rw [h.lay]
  simp only [Bool.true_and, decide_eq_true_eq]
  exact Nat.le_trans h.dp hk
theorem log1920 {i : Int} (h : i.natAbs < 2 ^ 1900) : i.natAbs.log2 < 1920 := Nat.lt_of_lt_of_le (PySem.Flt.log2_lt_of (k := 1900) (by decide) h) (show 1900 ≤ 1920 by decide)
theorem gd_ints {cs : List Int} {n : Nat} (hn : cs.length ≤ n) (h : ∀ c ∈ cs, c.natAbs < 2 ^ 1900) : Gd (.tuple (cs.map PyData.int)) 1 (n * 1932 + 3) :=
  Gd.tuple (k := 0) (c := 1930) (fun d hd => by
    obtain ⟨c, hc, rfl⟩ := List.mem_map.mp hd
    exact .int (log1920 (h c hc))) (by rw [List.length_map]; exact hn)
theorem gd_fr {r : Rat} (h : sz r 1900) : Gd (frD r) 1 4000 := by
  have g : Gd (.tuple [.int r.num, .int ((r.den : Nat) : Int)]) 1 (2 * (1930 + 2) + 3) :=
    Gd.tuple (k := 0) (c := 1930) (n := 2) (fun d hd => by
      simp only [List.mem_cons, List.not_mem_nil, or_false] at hd
      rcases hd with rfl | rfl
      · exact .int (log1920 h.1)
      · exact .int (log1920 (den_lt h))) (Nat.le_refl 2)
  exact g.mono (Nat.le_refl 1) (by decide)
section
variable {X : Cx}
def rReprG (K : PySem.W.Frag) : List V → Hp → VK → Prop := fun vs H Q => ∃ v d k c, vs = [v] ∧ Dp K H v d ∧ (∃ a, v = V.ref a) ∧ Gd d k c ∧ k ≤ 20 ∧ c ≤ 10000000 ∧ Q (.str d.shown) H
theorem cr_reprG (hg : X.A.guards = some []) (hu : X.A.units + 64 < cLine) : CallR X (.builtin "repr") (rReprG X.K) :=
  CallR.imp (cr_repr hg hu) fun vs H Q ⟨v, d, k, c, e, h, ⟨a, ea⟩, g, hk, hc, q⟩ =>
    ⟨a, d, by rw [e, ea], by rw [← ea]; exact h, g.sh, g.nd, Nat.le_trans g.dp hk, Nat.le_trans g.co (Nat.le_trans hc (by decide)), q⟩
end

/-! ### the rules with the written part named: their readings do not hang on a block -/
section
variable {X : Cx} {K : PySem.W.Frag}
theorem ixL (h : X.K = K := by rfl) : IxR X (rIxL K) := by
  subst h
  exact ix_list
theorem ixT (h : X.K = K := by rfl) : IxR X (rIxT K) := by
  subst h
  exact ix_tup
def rLen (K : PySem.W.Frag) : List V → Hp → VK → Prop := fun xs H Q => ∃ p ys, xs = [.ref p] ∧ (SqL K H p ys ∨ SqT K H p ys) ∧ Q (.int ys.length) H
theorem kLen (h : X.K = K := by rfl) : CallR X (.builtin "len") (rLen K) := by
  subst h
  exact call_len_seq
theorem kSum (hc : X.calm = true) (h : X.K = K := by rfl) : CallR X (.builtin "sum") (rSumN K) := by
  subst h
  exact cr_sumN hc
theorem kAll (hc : X.calm = true) (h : X.K = K := by rfl) : CallR X (.builtin "all") (rAll K) := by
  subst h
  exact cr_all hc
theorem kTuple (h : X.K = K := by rfl) : CallR X (.type "tuple") (rTupleN K) := by
  subst h
  exact call_tupleN
theorem kList (h : X.K = K := by rfl) : CallR X (.type "list") (rListN K) := by
  subst h
  exact call_list_ofN
theorem kRepr (hg : X.A.guards = some []) (hu : X.A.units + 64 < cLine) (h : X.K = K := by rfl) : CallR X (.builtin "repr") (rReprG K) := by
  subst h
  exact cr_reprG hg hu
theorem kIsi (h : X.K = K := by rfl) : CallR X (.builtin "isinstance") (rIsi K) := by
  subst h
  exact call_isi
theorem kNe (hu : X.A.units + 64 < cLine) (h : X.K = K := by rfl) : OpR X (compareOp .NotEq) (rNeN K) := by
  subst h
  exact op_neDN hu
theorem kEq (hu : X.A.units + 64 < cLine) (h : X.K = K := by rfl) : OpR X (compareOp .Eq) (rEqN K) := by
  subst h
  exact op_eqDN hu
theorem slL (h : X.K = K := by rfl) : L2.SlR X (rSlN K) := by
  subst h
  exact sl_listN
theorem kFld {e : Expr} {f : Str} {pos : Pos} {ta : TE} (he : PE X e ta) (hb : attributeBase e f X.env (eval e X.env) = eval e X.env) (h : X.K = K := by rfl) : PE X (.Attribute e f pos) (tFld K ta f) := by
  subst h
  exact pe_fld he hb
theorem r_len {xs : List V} {H : Hp} {Q : VK} : rLen K xs H Q = ∃ p ys, xs = [.ref p] ∧ (SqL K H p ys ∨ SqT K H p ys) ∧ Q (.int ys.length) H := rfl
end

/-! zip of lists and tuples in any order; comb, lcm; words alone; a tuple turned about -/

/-- a list (true) or a tuple -/
def SqB (K : PySem.W.Frag) : Bool → Hp → Addr → List V → Prop
  | true => SqL K
  | false => SqT K
def IsB : Bool → Heap → Addr → Array Value → Prop
  | true => Heap.IsList
  | false => Heap.IsTuple
def ItB : Bool → Heap → Addr → Addr → Nat → Prop
  | true => Heap.IsListIter
  | false => Heap.IsTupleIter
def oB : Bool → Addr → Obj
  | true, l => { cls := .type "list_iterator", data := .fields #[.ref l, .int 0 0] }
  | false, l => { cls := .type "tuple_iterator", data := .fields #[.ref l, .int 0 0] }
theorem sqB_kp {K : PySem.W.Frag} {k : Bool} {H H' : Hp} {a : Addr} {xs : List V} (h : SqB K k H a xs) (e : Ex H H') : SqB K k H' a xs := by
  cases k
  · exact sqT_kp h e.kp
  · exact sqL_ex h e
theorem side {X : Cx} {pins : List (Addr × Obj)} {σ : L2.St} {H : Hp} {s : Shared} {k : Bool} {a : Addr} {xs : List V} (I : Inv X pins σ H s) (h : SqB X.K k H a xs) :
    ∃ its : List Value, Vals xs its ∧ IsB k s.heap a its.toArray ∧ a < s.heap.objs.size := by
  cases k
  · obtain ⟨its, rv, p, _⟩ := I.tuple h
    have p' : s.heap.IsTuple a its.toArray := p
    obtain ⟨_, e, _⟩ := id p'
    exact ⟨its, rv, p', Heap.lt_size e⟩
  · obtain ⟨its, rv, p, _⟩ := I.list h
    exact ⟨its, rv, p.isList, p.lt⟩
theorem sqB_inj {X : Cx} {pins : List (Addr × Obj)} {σ : L2.St} {H : Hp} {s : Shared} {k : Bool} {a : Addr} {xs ys : List V} (I : Inv X pins σ H s) (h : SqB X.K k H a xs) (h2 : SqB X.K k H a ys) : xs = ys := by
  cases k
  · exact I.tuple_inj h h2
  · exact I.list_inj h h2
theorem drawsB {prog : Program} {w : World} {A : Around} (k : Bool) (hh : A.handled = none) (it l : Addr) (hne : l ≠ it) (items : Array Value) :
    Draws prog w A it [it, l] items.size (fun i v => items[i]? = some v) (fun i h => ItB k h it l i ∧ IsB k h l items) := by
  cases k
  · exact Draws.tuple hh it l hne items
  · exact Draws.list hh it l hne items
theorem beginsB (k : Bool) (l : Addr) (items : Array Value) : Begins (.ref l) (oB k l) (fun h => IsB k h l items) := by
  cases k
  · exact begins_tuple l items
  · exact begins_list l items
theorem itB_new {k : Bool} {h : Heap} {it l : Addr} (e : h.get? it = some (oB k l)) : ItB k h it l 0 := by
  cases k
  · exact ⟨_, e, rfl, rfl⟩
  · exact ⟨_, e, rfl, rfl⟩
theorem itB_at {k : Bool} {h h' : Heap} {it l : Addr} {i : Nat} (x : ItB k h it l i) (e : ∀ o, h.get? it = some o → h'.get? it = some o) : ItB k h' it l i := by
  cases k
  · exact Heap.IsTupleIter.at x e
  · exact Heap.IsListIter.at x e
theorem itB_obj {k : Bool} {h : Heap} {it l : Addr} {i : Nat} (x : ItB k h it l i) : ∃ o, h.get? it = some o ∧ ∃ fs, o.data = .fields fs := by
  cases k
  · obtain ⟨o, e, _, d⟩ := x
    exact ⟨o, e, _, d⟩
  · obtain ⟨o, e, _, d⟩ := x
    exact ⟨o, e, _, d⟩
theorem isB_ne {k k2 : Bool} {h : Heap} {a it l : Addr} {i : Nat} {xs : Array Value} (x : IsB k h a xs) (y : ItB k2 h it l i) : a ≠ it := by
  intro z
  subst z
  obtain ⟨o, e, fs, d⟩ := itB_obj y
  cases k
  · obtain ⟨o2, e2, _, _, d2⟩ := x
    rw [e2] at e
    cases e
    rw [d2] at d
    cases d
  · obtain ⟨o2, e2, _, _, d2⟩ := x
    rw [e2] at e
    cases e
    rw [d2] at d
    cases d

/-- both as they stand at each turn, the items in new pairs -/
def ItzB (K : PySem.W.Frag) (k1 k2 : Bool) (a b : Addr) : It :=
  ⟨fun i H => ∃ (xs ys : List V) (x y : V), (SqB K k1 H a xs ∧ SqB K k2 H b ys) ∧ xs[i]? = some x ∧ ys[i]? = some y,
    fun i H v H' => ∃ T x y, v = .ref T ∧ H T = none ∧ H' = upd H T (.tup [x, y]) ∧ (∀ xs, SqB K k1 H a xs → xs[i]? = some x) ∧ ∀ ys, SqB K k2 H b ys → ys[i]? = some y,
    fun i H => ∃ xs ys : List V, (SqB K k1 H a xs ∧ SqB K k2 H b ys) ∧ i = min xs.length ys.length⟩
def zSt (k1 k2 : Bool) (a b z TI TO i1 i2 : Addr) (i : Nat) (h : Heap) : Prop :=
  (IsZip h z TI TO .none ∧ IsTupOf2 h TI (.ref i1) (.ref i2)) ∧ (∃ x y, IsTupOf2 h TO x y) ∧ ItB k1 h i1 a i ∧ ItB k2 h i2 b i
theorem five {c z TI TO i1 i2 : Addr} (h : c ∈ [z, TI, TO, i1, i2]) : c = z ∨ c = TI ∨ c = TO ∨ c = i1 ∨ c = i2 := by
  simpa using h
theorem turn_zipB {P : Program} {w : World} {K : PySem.W.Frag} {elts : List Expr} {kk : Nat} {tpos : Pos} {k1 k2 : Bool} {a b z TI TO i1 i2 : Addr} (S : ZipSep2 z TI TO i1 i2 [i1, a] [i2, b]) :
    Turn P w K (.Tuple elts kk tpos) (ItzB K k1 k2 a b) [z, TI, TO, i1, i2] z (zSt k1 k2 a b z TI TO i1 i2) where
  mem := List.mem_cons_self ..
  obj := by
    intro i h st c hc
    obtain ⟨⟨hz, hTI⟩, ⟨x, y, hTO⟩, h1, h2⟩ := st
    obtain ⟨o1, e1, f1, d1⟩ := itB_obj h1
    obtain ⟨o2, e2, f2, d2⟩ := itB_obj h2
    rcases five hc with q | q | q | q | q <;> subst q
    · exact ⟨_, hz, fun v q => nomatch q⟩
    · exact ⟨_, hTI, fun v q => nomatch q⟩
    · exact ⟨_, hTO, fun v q => nomatch q⟩
    · refine ⟨o1, e1, fun v q => ?_⟩
      rw [d1] at q
      cases q
    · refine ⟨o2, e2, fun v q => ?_⟩
      rw [d2] at q
      cases q
  keep := by
    intro i h h' st k
    obtain ⟨⟨hz, hTI⟩, ⟨x, y, hTO⟩, h1, h2⟩ := st
    exact ⟨⟨k _ (by simp) _ hz, k _ (by simp) _ hTI⟩, ⟨x, y, k _ (by simp) _ hTO⟩, itB_at h1 fun o q => k _ (by simp) o q, itB_at h2 fun o q => k _ (by simp) o q⟩
  item := by
    intro X hP hw hK hc i pins s σ H E I hf st hg
    subst hP hw hK
    obtain ⟨⟨hz, hTI⟩, ⟨x0, y0, hTO⟩, h1, h2⟩ := st
    obtain ⟨xs, ys, x, y, ⟨qx, qy⟩, hx, hy⟩ := hg
    obtain ⟨us, rx, px, _⟩ := side I qx
    obtain ⟨vs, ry, py, _⟩ := side I qy
    have hzl : z < s.heap.objs.size := Heap.lt_size hz
    have lx : i < us.toArray.size := by
      have := (List.getElem?_eq_some_iff.mp hx).1
      have := rx.length
      simp
      omega
    have ly : i < vs.toArray.size := by
      have := (List.getElem?_eq_some_iff.mp hy).1
      have := ry.length
      simp
      omega
    have hh : X.A.in1.handled = none := I.ok.hd hc
    have D1 := drawsB (prog := X.prog) (w := X.w) k1 hh i1 a (isB_ne px h1) us.toArray
    have D2 := drawsB (prog := X.prog) (w := X.w) k2 hh i2 b (isB_ne py h2) vs.toArray
    refine wpAny_pyNext_zipD2_item S D1 D2 hz hTI hTO (show _ ∧ _ from ⟨h1, px⟩) (show _ ∧ _ from ⟨h2, py⟩) lx ly
      fun u v h' tk pu pv z' TO' s1' s2' hT hsz hk => ?_
    obtain ⟨u', eu, ru⟩ := rx.get hx
    obtain ⟨v', ev, rv⟩ := ry.get hy
    have eu2 : us.toArray[i]? = some u := pu
    have ev2 : vs.toArray[i]? = some v := pv
    rw [List.getElem?_toArray, eu] at eu2
    rw [List.getElem?_toArray, ev] at ev2
    cases eu2
    cases ev2
    refine ⟨_, rfl, wpAny_letOwnedTupleGo_zip (s := { s with heap := h', toks := tk }) z' fun h'' z'' sb => ?_⟩
    have away : ∀ c, c ≠ z → ∀ o, h'.get? c = some o → h''.get? c = some o := fun c n o q => (sb.2 c n).trans q
    have nT : s.heap.objs.size ≠ z := Nat.ne_of_gt hzl
    have new : ObjOk X.prog X.w (upd H s.heap.objs.size (.tup [x, y])) h'' s.heap.objs.size (.tup [x, y]) := by
      refine ⟨show 2 ≤ sizeLine by decide, [u, v], ?_, ⟨_, away _ nT _ hT, rfl, _, rfl⟩⟩
      exact .cons ru (.cons rv .nil)
    have I1 : Inv X pins σ (upd H s.heap.objs.size (.tup [x, y])) { s with heap := h'', toks := tk } := by
      refine I.turnedNew (t' := tk) (ch := [z, TI, TO, i1, i2]) (fun c o hb q => ?_) hf (Nat.le_refl _) new
      have nz : c ≠ z := fun e => hb (by simp [e])
      refine away c nz o (hk c o nz ?_ ?_ ?_ q)
      · exact fun e => hb (by simp [e])
      · exact fun e => hb (by simp [e])
      · exact fun e => hb (by simp [e])
    refine ⟨.ref s.heap.objs.size, _, I1, rfl, ⟨_, x, y, rfl, I.hok.fresh (Nat.le_refl _), rfl, fun l hl => ?_, fun l hl => ?_⟩, ⟨⟨z'', ?_⟩, ⟨u, v, away _ S.TOz _ TO'⟩, ?_, ?_⟩, fun c hcm => ?_⟩
    · rw [sqB_inj I hl qx]
      exact hx
    · rw [sqB_inj I hl qy]
      exact hy
    · exact away _ S.TIz _ (hk _ _ S.TIz S.TITO S.TIi1 S.TIi2 hTI)
    · exact itB_at s1'.1 fun o q => away _ (Ne.symm S.zi1) o q
    · exact itB_at s2'.1 fun o q => away _ (Ne.symm S.zi2) o q
    · have hlt : c < s.heap.objs.size := by
        obtain ⟨o1, e1, _⟩ := itB_obj h1
        obtain ⟨o2, e2, _⟩ := itB_obj h2
        rcases five hcm with q | q | q | q | q <;> subst q
        · exact hzl
        · exact Heap.lt_size hTI
        · exact Heap.lt_size hTO
        · exact Heap.lt_size e1
        · exact Heap.lt_size e2
      rw [upd_ne (Nat.ne_of_lt hlt)]
      exact (hf c hcm).1
  done := by
    intro X hP hw hK hc i pins s σ H E I hf st hg
    subst hP hw hK
    obtain ⟨⟨hz, hTI⟩, ⟨x0, y0, hTO⟩, h1, h2⟩ := st
    obtain ⟨xs, ys, ⟨qx, qy⟩, hi⟩ := hg
    obtain ⟨us, rx, px, _⟩ := side I qx
    obtain ⟨vs, ry, py, _⟩ := side I qy
    have lx : xs.length = us.toArray.size := by rw [List.size_toArray]; exact rx.length
    have ly : ys.length = vs.toArray.size := by rw [List.size_toArray]; exact ry.length
    have hh : X.A.in1.handled = none := I.ok.hd hc
    have D1 := drawsB (prog := X.prog) (w := X.w) k1 hh i1 a (isB_ne px h1) us.toArray
    have D2 := drawsB (prog := X.prog) (w := X.w) k2 hh i2 b (isB_ne py h2) vs.toArray
    refine wpAny_pyNext_zipD2_end (i := i) S D1 D2 hz hTI hTO (show _ ∧ _ from ⟨h1, px⟩) (show _ ∧ _ from ⟨h2, py⟩) (by omega) (by omega) (by omega)
      fun h' tk hk => ⟨rfl, ?_⟩
    refine I.turnedL (t' := tk) (ch := [z, TI, TO, i1, i2]) (fun c o hb q => hk c o ?_ ?_ ?_ ?_ q) hf
    · exact fun e => hb (by simp [e])
    · exact fun e => hb (by simp [e])
    · exact fun e => hb (by simp [e])
    · exact fun e => hb (by simp [e])
  self := fun A i s Q E st h => wpAny_pyIter_zip st.1.1 h

def iZipB (K : PySem.W.Frag) (ta : TA) : TI := fun σ H R => ta σ H fun vs H1 => ∃ k1 k2 a b xs ys, vs = [.ref a, .ref b] ∧ SqB K k1 H1 a xs ∧ SqB K k2 H1 b ys ∧ R (ItzB K k1 k2 a b) H1
theorem pi_zipB {X : Cx} {e e2 : Expr} {ta : TA} {p pos tpos : Pos} {elts : List Expr} {kk : Nat} (hg : Gl X "zip") (hm : X.mg "zip" = none) (ha : PA X [e, e2] ta)
    (hs : starEach [e, e2] X.env = (false, eval e X.env) :: starEach [e2] X.env := by rfl) (hpl : (backTo pos (starEach [e2] X.env)).any (·.1) = false := by rfl) :
    PI X (.Tuple elts kk tpos) (.Call (.Name "zip" p) [e, e2] [] pos) (iZipB X.K ta) := by
  refine ⟨fun pins s σ H R I h => ?_⟩
  refine Call_ (ld_blt I hg hm PyProof.Rows.boot_zip ?_)
  refine PyProof.Rows.callWith_type1 (thn (ha.run pos pins s σ H _ I h) fun us s1 ⟨vs, H1, I1, r1, q1⟩ => ?_) hs hpl
  obtain ⟨k1, k2, a, b, xs, ys, ex, qx, qy, q⟩ := q1
  subst ex
  cases r1 with
  | cons r rr =>
    cases rr with
    | cons r' rr =>
      cases rr
      cases r
      cases r'
      obtain ⟨ws, rx, px, la⟩ := side I1 qx
      obtain ⟨zs, ry, py, lb⟩ := side I1 qy
      refine zip_begins2 (beginsB k1 a ws.toArray) (beginsB k2 b zs.toArray) px py fun h' hz hTI hTO o1 o2 hsz hk => wpAny_pyIter_zip hz ?_
      have I2 : Inv X pins σ H1 { s1 with heap := h' } := I1.kept (t' := s1.toks) hk
      have S := zip_sep2 (N := s1.heap.objs.size) (fp1 := [a]) (fp2 := [b]) (by simpa using la) (by simpa using lb)
      refine ⟨_, _, _, _, H1, rfl, I2, turn_zipB (k1 := k1) (k2 := k2) S, ⟨⟨hz, hTI⟩, ⟨_, _, hTO⟩, itB_new o1, itB_new o2⟩, fun c hcm => ?_, q⟩
      have hle : s1.heap.objs.size ≤ c := by
        rcases five hcm with e | e | e | e | e <;> subst e
        · exact Nat.le_add_right _ _
        · exact Nat.le_add_right _ _
        · exact Nat.le_add_right _ _
        · exact Nat.le_refl _
        · exact Nat.le_add_right _ _
      exact I1.fpOk hle (I1.hok.fresh hle)
theorem walk_zipB {K : PySem.W.Frag} {k1 k2 : Bool} {a b : Addr} {xs ys : List V} {n : Nat} (hn : n = min xs.length ys.length) :
    Walk (ItzB K k1 k2 a b) n (fun H => SqB K k1 H a xs ∧ SqB K k2 H b ys) (YPair (fun i => xs[i]?) (fun i => ys[i]?)) := by
  subst hn
  refine ⟨fun i _ hi q => ?_, fun _ q => ⟨xs, ys, q, rfl⟩, fun i H v H' _ q y => ?_⟩
  · have h1 : i < xs.length := by omega
    have h2 : i < ys.length := by omega
    exact ⟨xs, ys, xs[i], ys[i], q, by simp [h1], by simp [h2]⟩
  · obtain ⟨T, x, z, h1, h2, h3, h4, h5⟩ := y
    exact ⟨T, x, z, h1, h2, h3, h4 xs q.1, h5 ys q.2⟩
theorem kZip {X : Cx} {K : PySem.W.Frag} {e e2 : Expr} {ta : TA} {p pos tpos : Pos} {elts : List Expr} {kk : Nat} (hg : Gl X "zip") (hm : X.mg "zip" = none) (ha : PA X [e, e2] ta) (h : X.K = K := by rfl)
    (hs : starEach [e, e2] X.env = (false, eval e X.env) :: starEach [e2] X.env := by rfl) (hpl : (backTo pos (starEach [e2] X.env)).any (·.1) = false := by rfl) :
    PI X (.Tuple elts kk tpos) (.Call (.Name "zip" p) [e, e2] [] pos) (iZipB K ta) := by
  subst h
  exact pi_zipB hg hm ha hs hpl
theorem kEnumT {X : Cx} {K : PySem.W.Frag} {e : Expr} {ta : TA} {p pos tpos : Pos} {elts : List Expr} {kk : Nat} (hg : Gl X "enumerate") (hm : X.mg "enumerate" = none) (ha : PA X [e] ta) (h : X.K = K := by rfl)
    (hs : starEach [e] X.env = [(false, eval e X.env)] := by rfl) :
    PI X (.Tuple elts kk tpos) (.Call (.Name "enumerate" p) [e] [] pos) (iEnumT K ta) := by
  subst h
  exact pi_enumT hg hm ha hs

section
variable {g : TG} {te : TE} {vs : List Nat} {σ : L2.St} {H H1 : Hp} {Dd : Addr} {Q : VK} {K : PySem.W.Frag} {D : Ends}
/-! ### targets pass what is wanted on -/
def GMono (g : TG) : Prop := ∀ v σ H S S', (∀ σ2 H2, S σ2 H2 → S' σ2 H2) → g v σ H S → g v σ H S'
def GsMono (g : TGs) : Prop := ∀ v σ H S S', (∀ σ2 H2, S σ2 H2 → S' σ2 H2) → g v σ H S → g v σ H S'
theorem gm_name {i : Nat} : GMono (gName i) := fun _ _ _ _ _ h q => h _ _ q
theorem gm_nil : GsMono gNil := fun _ _ _ _ _ h q => ⟨q.1, h _ _ q.2⟩
theorem gm_cons {t : TG} {u : TGs} (a : GMono t) (b : GsMono u) : GsMono (gCons t u) := fun _ σ H S S' h ⟨v, r, e, q⟩ =>
  ⟨v, r, e, a _ _ _ _ _ (fun σ2 H2 z => b _ _ _ _ _ h z) q⟩
theorem gm_tup {n : Nat} {t : TGs} (a : GsMono t) : GMono (gTup K n t) := fun _ σ H S S' h ⟨p, xs, e, q, l, z⟩ => ⟨p, xs, e, q, l, a _ _ _ _ _ h z⟩
/-! ### loops and comprehensions over pairs -/
theorem loopZ {k1 k2 : Bool} {a b : Addr} {xs ys : List V} {n : Nat} {tb : TS} (hn : n = min xs.length ys.length) (Pv : Nat → L2.St → Hp → Prop) (h0 : Pv 0 σ H) (hl : ∀ i σ H, i ≤ n → Pv i σ H → SqB K k1 H a xs ∧ SqB K k2 H b ys)
    (hs : ∀ i x y σ H T H', xs[i]? = some x → ys[i]? = some y → Pv i σ H → Ex H H' → H' T = some (.tup [x, y]) → g (.ref T) σ H' fun σ2 H2 => tb { nx := Pv (i + 1), rt := D.rt, bk := D.nx, ct := Pv (i + 1) } σ2 H2)
    (hd : ∀ σ H, Pv n σ H → D.nx σ H) : LoopW (ItzB K k1 k2 a b) g tb D σ H :=
  for_it (walk_zipB hn) Pv h0 hl (fun i v σ H H' hi hp y => by
    obtain ⟨T, x, z, rfl, hn, rfl, h1, h2⟩ := y
    exact hs i x z σ H T _ h1 h2 hp (Ex.new hn) upd_same) hd
theorem lcP {J : It} {n : Nat} {G : Hp → Prop} {fx fy : Nat → Option V} (w : Walk J n G (YPair fx fy)) (R : Nat → V → Hp → Prop) (hR : ∀ i y H H', Kp H H' → R i y H → R i y H') (hD : H1 Dd = none) (hG : ∀ H, Ex H1 H → G H) (hz : n ≤ 100000)
    (hm : GMono g)
    (hs : ∀ (i : Nat) x y T H, i < n → fx i = some x → fy i = some y → Ex H1 H → H T = some (.tup [x, y]) → g (.ref T) (wipe σ vs) H fun σ2 H2 => wipe σ2 vs = wipe σ vs ∧ tmE te σ2 H2 fun y H4 => Ex H H4 ∧ R i y H4)
    (hd : LcEnd H1 Dd n R Q) : LcW J g tYes (tmE te) vs σ H1 Dd Q :=
  lc_it (Qd := fun H => Q (.ref Dd) H) w (LcJ H1 Dd R) (lcJ_start hD) (fun i H _ ⟨_, _, _, e, _⟩ => hG H e) (fun i v H H' hi p y => by
    obtain ⟨T, x, z, rfl, hn, rfl, h1, h2⟩ := y
    obtain ⟨acc, q1, q2, q3, q4⟩ := id p
    have e : Ex H (upd H T (.tup [x, z])) := Ex.new hn
    refine hm _ _ _ _ _ (fun σ2 H2 ⟨w, u⟩ => ⟨w, ?_⟩) (hs i x z T _ hi h1 h2 (q3.trans e) upd_same)
    show tmE te σ2 H2 _
    obtain ⟨R0, z1, z2⟩ := u
    exact ⟨R0, z1, fun y H4 r0 => lcJ_turn hR hD p (e.trans (z2 y H4 r0).1) (z2 y H4 r0).2 (by omega)⟩)
    fun H ⟨acc, q1, q2, q3, q4⟩ => hd H acc q3 q1 q2 q4
/-- over enumerate of a tuple -/
theorem lcE {a : Addr} {xs : List V} (R : Nat → V → Hp → Prop) (hR : ∀ i y H H', Kp H H' → R i y H → R i y H') (hD : H1 Dd = none) (hx : SqT K H1 a xs) (hz : xs.length ≤ 100000) (hm : GMono g)
    (hs : ∀ (i : Nat) y T H, xs[i]? = some y → Ex H1 H → H T = some (.tup [.int (i : Nat), y]) → g (.ref T) (wipe σ vs) H fun σ2 H2 => wipe σ2 vs = wipe σ vs ∧ tmE te σ2 H2 fun y H4 => Ex H H4 ∧ R i y H4)
    (hd : LcEnd H1 Dd xs.length R Q) : LcW (Iet K a) g tYes (tmE te) vs σ H1 Dd Q :=
  lcP (walk_enumT (K := K) (a := a) (xs := xs)) R hR hD (fun H e => sqT_kp hx e.kp) hz hm (fun i x y T H _ h1 h2 e t => by
    cases h1
    exact hs i y T H h2 e t) hd
theorem lcZ {k1 k2 : Bool} {a b : Addr} {xs ys : List V} {n : Nat} (hn : n = min xs.length ys.length) (R : Nat → V → Hp → Prop) (hR : ∀ i y H H', Kp H H' → R i y H → R i y H') (hD : H1 Dd = none)
    (hx : SqB K k1 H1 a xs) (hy : SqB K k2 H1 b ys) (hz : n ≤ 100000) (hm : GMono g)
    (hs : ∀ (i : Nat) x y T H, xs[i]? = some x → ys[i]? = some y → Ex H1 H → H T = some (.tup [x, y]) → g (.ref T) (wipe σ vs) H fun σ2 H2 => wipe σ2 vs = wipe σ vs ∧ tmE te σ2 H2 fun y H4 => Ex H H4 ∧ R i y H4)
    (hd : LcEnd H1 Dd n R Q) : LcW (ItzB K k1 k2 a b) g tYes (tmE te) vs σ H1 Dd Q :=
  lcP (walk_zipB hn) R hR hD (fun H e => ⟨sqB_kp hx e, sqB_kp hy e⟩) hz hm (fun i x y T H _ h1 h2 e t => hs i x y T H h1 h2 e t) hd
theorem r_zipB {tx : TA} {S : It → Hp → Prop} : iZipB K tx σ H S = tx σ H fun vs H1 => ∃ k1 k2 a b xs ys, vs = [.ref a, .ref b] ∧ SqB K k1 H1 a xs ∧ SqB K k2 H1 b ys ∧ S (ItzB K k1 k2 a b) H1 := rfl
end

/-! ### comb, lcm -/
theorem fp_abs {n : Int} {c : Nat} (h0 : 0 ≤ n) (hn : n.natAbs ≤ 2 ^ c) (k : Nat) : (k : Int) ≤ n → (Builtin.Math.fallingProduct n k).natAbs ≤ 2 ^ (c * k) := by
  induction k with
  | zero =>
    intro _
    rw [PySem.W.mc_fp_zero]
    simp
  | succ k ih =>
    intro h
    rw [PySem.W.mc_fp_succ, Int.natAbs_mul, Nat.mul_succ, Nat.pow_add]
    have h1 := ih (by omega)
    have h2 : (n - (k : Int)).natAbs ≤ 2 ^ c := by omega
    exact Nat.mul_le_mul h1 h2
theorem lg {m c : Nat} (h : m ≤ 2 ^ c) (hc : c < 100000000) : m.log2 < bitsLine := by
  have p : 0 < 2 ^ c := Nat.two_pow_pos c
  have h2 : m < 2 ^ (c + 1) := by
    rw [Nat.pow_succ]
    omega
  by_cases h0 : m = 0
  · subst h0
    show (0 : Nat).log2 < 2 ^ 27
    decide +kernel
  have := (Nat.log2_lt h0).mpr h2
  show m.log2 < 2 ^ 27
  omega
/-- the numbers that comb is asked for -/
def CombOk (a b : Int) : Prop := 0 ≤ a ∧ 0 ≤ b ∧ b ≤ 8 ∧ a < 2 ^ 300
theorem gives_comb {a b : Int} (t u : Tok) (h : CombOk a b) : Gives (Builtin.«math.comb» ⟨[.int a t, .int b u], []⟩) (.int (PySem.W.mcComb a b)) := by
  obtain ⟨ha, hb, hs, hl⟩ := h
  by_cases h : b > a
  · rw [PySem.W.mcComb_above h]
    exact PySem.W.mc_run_comb0 a t b u (by omega) (by omega) h
  · have hm : min b (a - b) ≤ 8 := by omega
    have hm0 : 0 ≤ min b (a - b) := by omega
    have hq : PySem.W.mcComb a b = Builtin.Math.fallingProduct a (min b (a - b)).toNat / Builtin.Math.fallingProduct (min b (a - b)) (min b (a - b)).toNat := PySem.W.mcComb_at hb (by omega) rfl
    have h1 : (Builtin.Math.fallingProduct a (min b (a - b)).toNat).natAbs ≤ 2 ^ (300 * (min b (a - b)).toNat) := fp_abs ha (by omega) _ (by omega)
    have h2 : (PySem.W.mcComb a b).natAbs ≤ (Builtin.Math.fallingProduct a (min b (a - b)).toNat).natAbs := by
      rw [hq]
      exact Int.natAbs_ediv_le_natAbs _ _
    have hs : (PySem.W.mcComb a b).natAbs.log2 < bitsLine := lg (Nat.le_trans h2 h1) (by omega)
    have h3 : ¬min b (a - b) > Builtin.Math.maxSsize := by show ¬min b (a - b) > 2 ^ 63 - 1; omega
    have h4 : ¬min b (a - b) > Builtin.Math.manyFactors := by show ¬min b (a - b) > 20000; omega
    rw [hq] at hs ⊢
    exact PySem.W.mc_run_comb a t b u (by omega) (by omega) h h3 h4 (by omega) hs
section
variable {X : Cx}
def rComb : List V → Hp → VK → Prop := fun vs H Q => ∃ a b : Int, vs = [.int a, .int b] ∧ CombOk a b ∧ Q (.int (PySem.W.mcComb a b)) H
theorem cr_comb : CallR X (.builtin "math.comb") rComb := by
  intro pins s σ H vs us Q I r h
  obtain ⟨a, b, rfl, ok, q⟩ := h
  obtain ⟨t, u, rfl⟩ := Vals.int2 r
  exact call_function_meets PySem.W.MGF.kind_comb PySem.W.MGF.plain_comb PySem.W.MGF.entry_comb (PySem.W.MGF.args_comb _ _) (gives_comb t u ok).meets ⟨.int _, H, I.tok _, ⟨_, rfl⟩, q⟩
def rLcm : List V → Hp → VK → Prop := fun vs H Q => ∃ a b : Int, vs = [.int a, .int b] ∧ a.natAbs < 2 ^ 13000 ∧ b.natAbs < 2 ^ 13000 ∧ Q (.int ((Nat.lcm a.natAbs b.natAbs : Nat) : Int)) H
theorem log_le {m c : Nat} (h : m < 2 ^ c) : m.log2 ≤ c := by
  by_cases h0 : m = 0
  · subst h0
    exact Nat.zero_le _
  exact Nat.le_of_lt ((Nat.log2_lt h0).mpr h)
theorem lcm_le (m n : Nat) : m.lcm n ≤ m * n := Nat.div_le_self _ _
theorem cr_lcm : CallR X (.builtin "math.lcm") rLcm := by
  intro pins s σ H vs us Q I r h
  obtain ⟨a, b, rfl, la, lb, q⟩ := h
  obtain ⟨t, u, rfl⟩ := Vals.int2 r
  have hl : (Nat.lcm a.natAbs b.natAbs) ≤ 2 ^ 26000 := by
    have h1 := lcm_le a.natAbs b.natAbs
    have h2 := Nat.mul_le_mul (Nat.le_of_lt la) (Nat.le_of_lt lb)
    rw [← Nat.pow_add] at h2
    exact Nat.le_trans h1 h2
  have h1 : (max 1 a.natAbs).log2 ≤ 13000 := log_le (by
    have : 1 < 2 ^ 13000 := Nat.one_lt_two_pow (by decide)
    omega)
  have h2 : (max a.natAbs b.natAbs).log2 ≤ 13000 := log_le (by omega)
  have e : Nat.lcm 1 a.natAbs = a.natAbs := PySem.W.mc_lcm_one _
  have g := PySem.W.mg_run_lcm a t b u (by omega) (by omega) (by rw [e]; exact lg hl (by decide))
  rw [e] at g
  exact call_function_meets PySem.W.MGF.kind_lcm PySem.W.MGF.plain_lcm PySem.W.MGF.entry_lcm (PySem.W.MGF.args_lcm _ _) g.meets ⟨.int _, H, I.tok _, ⟨_, rfl⟩, q⟩

/-! ### words alone -/
/-- the written values put in the parameters' order: ix tells for each parameter which of them -/
def arr {α : Type} (ix : List Nat) (ws : List α) : List α := ix.filterMap (ws[·]?)
theorem arr_vals {zs : List V} {ws : List Value} (r : Vals zs ws) : ∀ ix : List Nat, Vals (arr ix zs) (arr ix ws)
  | [] => .nil
  | i :: ix => by
    have ih := arr_vals r ix
    unfold arr at ih ⊢
    have hl := r.length
    cases h : zs[i]? with
    | none =>
      have h2 : ws[i]? = none := by
        rw [List.getElem?_eq_none_iff] at h ⊢
        omega
      rw [List.filterMap_cons, List.filterMap_cons, h, h2]
      exact ih
    | some z =>
      obtain ⟨u, hu, ru⟩ := r.get h
      rw [List.filterMap_cons, List.filterMap_cons, h, hu]
      exact .cons ru ih
def KwOk (fd : FuncData) (ps ks : List Str) (ix : List Nat) : Prop := ∀ (s : Shared) (ws : List Value), ws.length = ks.length → BindsTo s fd ⟨[], ks.zip ws⟩ (ps.zip (arr ix ws))
def HasW (P : Program) (w : World) (K : PySem.W.Frag) (mg : Str → Option Value) (base : Heap) (x : Str) (k : Nat) (ps : List Str) (sp : Sp) (ks : List Str) (ix : List Nat) : Prop :=
  ∃ f fd, FnOk P w K mg base CX0 k f fd ps sp ∧ mg x = some (.ref f) ∧ PySem.W.keepIn K (.ref f) = true ∧ KwOk fd ps ks ix
/-- the def st of the text, called by words -/
def DfW (K : PySem.W.Frag) (mg : Str → Option Value) (x : Str) (st : Stmt) (ps ks : List Str) (ix : List Nat) : Prop :=
  ∃ f fd, Fun K x x st f fd ∧ mg x = some (.ref f) ∧ KwOk fd ps ks ix
theorem HasW.of {P : Program} {w : World} {K : PySem.W.Frag} {mg : Str → Option Value} {base : Heap} {x : Str} {st : Stmt} {ps ks : List Str} {ix : List Nat} {k : Nat} {sp : Sp} (D : DfW K mg x st ps ks ix)
    (h : ∀ f fd, Fun K x x st f fd → FnOk P w K mg base CX0 k f fd ps sp) : HasW P w K mg base x k ps sp ks ix := by
  obtain ⟨f, fd, F, hm, hb⟩ := D
  exact ⟨f, fd, h f fd F, hm, F.kp, hb⟩
def tW (sp : Sp) (m : Nat) (ix : List Nat) (tk : TA) : TE := fun σ H Q => tk σ H fun zs H1 => zs.length = m ∧ sp (arr ix zs) H1 Q E0
theorem pe_hasW {x : Str} {k : Nat} {ps ks : List Str} {ix : List Nat} {sp : Sp} {p pos : Pos} {kws : List Keyword} {tk : TA}
    (h : HasW X.prog X.w X.K X.mg X.base x k ps sp ks ix) (hr : Room k X.A) (hkw : PK X kws tk) (hg : Gl X x := by rfl)
    (hdb : (x == ("__debug__" : Str)) = false := by decide)
    (hall : (backToKw pos (keywordEach kws X.env)).all (·.1.isSome) = true := by rfl) (hks : (backToKw pos (keywordEach kws X.env)).filterMap (·.1) = ks := by rfl)
    (hpl : ((backTo pos (starEach [] X.env)).any (·.1) || (backToKw pos (keywordEach kws X.env)).any (·.1.isNone)) = false := by rfl) :
    PE X (.Call (.Name x p) [] kws pos) (tW sp ks.length ix tk) := by
  obtain ⟨f, fd, F, hm, hk, hb⟩ := h
  refine ⟨fun pins s σ H Q I h => ?_⟩
  apply wpAny_Call_Name_kw (ld_glob I hg hm ?_ hdb)
  apply PySem.W.callWith_KW0 (h₀ := X.base) I.ok.mod.kin hk hall ?_ hpl
  refine thn (hkw.run pos pins s σ H _ I h) fun ws s2 ⟨zs, H2, I2, rz, l, hsp⟩ => ⟨I2.kIn, ?_⟩
  rw [hks]
  have r2 := arr_vals rz ix
  have bnd := hb s2 ws (by rw [← rz.length]; exact l)
  refine wpAny_call (codeAny_mono (F.run X.A X.stack s2 H2 ⟨[], ks.zip ws⟩ (arr ix ws) (arr ix zs) Q E0 hr I2.env0 bnd r2 hsp) fun r s' hc => ?_)
  cases r with
  | error er => exact ((pass0 (X := X)) pins σ H2 s2 er s' I2 hc)
  | ok fl =>
    cases fl with
    | ret u => exact I2.after hc
    | next => exact hc.elim
    | brk => exact hc.elim
    | cont => exact hc.elim
theorem r_tW {sp : Sp} {m : Nat} {ix : List Nat} {tk : TA} {σ : L2.St} {H : Hp} {Q : VK} : tW sp m ix tk σ H Q = tk σ H fun zs H1 => zs.length = m ∧ sp (arr ix zs) H1 Q E0 := rfl
end

/-! ### a tuple turned about -/
theorem fm_congr {α β : Type} {f g : α → Option β} : ∀ {l : List α}, (∀ x ∈ l, f x = g x) → l.filterMap f = l.filterMap g
  | [], _ => rfl
  | a :: l, h => by
    rw [List.filterMap_cons, List.filterMap_cons, h a (List.mem_cons_self ..), fm_congr fun x hx => h x (List.mem_cons_of_mem _ hx)]
theorem rev_pick (xs : Array Value) : ((List.range xs.size).filterMap fun (m : Nat) => xs[(((xs.size : Int) - 1) + (m : Int) * (-1)).toNat]?).toArray = xs.toList.reverse.toArray := by
  congr 1
  apply List.ext_getElem?
  intro i
  have e : (List.range xs.size).filterMap (fun (m : Nat) => xs[(((xs.size : Int) - 1) + (m : Int) * (-1)).toNat]?) = (List.range xs.size).filterMap (fun m => xs.toList.reverse[m]?) := by
    apply fm_congr
    intro m hm
    replace hm := List.mem_range.mp hm
    have z : (((xs.size : Int) - 1) + (m : Int) * (-1)).toNat = xs.size - 1 - m := by omega
    rw [z, List.getElem?_reverse (by simpa using hm)]
    simp
  rw [e]
  have : (List.range xs.size).filterMap (fun m => xs.toList.reverse[m]?) = xs.toList.reverse := by
    have h : ∀ (l : List Value), (List.range l.length).filterMap (fun m => l[m]?) = l := by
      intro l
      induction l with
      | nil => rfl
      | cons a l ih =>
        rw [List.length_cons, List.range_succ_eq_map, List.filterMap_cons]
        simp only [List.getElem?_cons_zero, List.filterMap_map]
        congr 1
    have h2 := h xs.toList.reverse
    rw [List.length_reverse, Array.length_toList] at h2
    exact h2
  rw [this]
section
variable {prog : Program} {w : World} {A : Around} {E : Value → Shared → Prop} {s : Shared}
theorem adjust_rev (n : Nat) : Builtin.Slice.sliceAdjust none none (-1) (n : Int) = ((n : Int) - 1, -1) := by
  unfold Builtin.Slice.sliceAdjust
  simp
theorem places_rev (n : Nat) : Builtin.Slice.slicePlaces ((n : Int) - 1) (-1) (-1) = n := by
  unfold Builtin.Slice.slicePlaces
  have h1 : ¬ ((-1 : Int) > 0) := by omega
  rw [if_neg h1]
  split
  · have : ((n : Int) - 1 - -1 - 1) / (- -1) = (n : Int) - 1 := by
      rw [show (- -1 : Int) = 1 by decide, Int.ediv_one]
      omega
    rw [this]
    omega
  · omega
theorem item_rev {t sl : Addr} {items : Array Value} {vl vu vs : Value} {Q : Value → Shared → Prop} (ht : IsTup s.heap t items) (hs : s.heap.IsSliceOf sl vl vu vs) (pl : IsPart vl none) (pu : IsPart vu none) (ps : IsPart vs (some (-1)))
    (h : Q (.ref s.heap.objs.size) { s with heap := s.heap.push { cls := .type "tuple", data := .seq items.toList.reverse.toArray } })
    (hsz : items.size ≤ sizeLine) : wpAny (model prog w) A (getItem (.ref t) (.ref sl)) Q E s := by
  have hok : sizeOk (.seq items.toList.reverse.toArray) := by
    show items.toList.reverse.toArray.size ≤ sizeLine
    simpa using hsz
  obtain ⟨os, hos, hcs, hds⟩ := id hs
  have hTs : s.TypeIs (.ref sl) "slice" := ⟨os, hos, hcs⟩
  have hTt : s.TypeIs (.ref t) "tuple" := let ⟨o, ho, hc, _⟩ := ht; ⟨o, ho, hc⟩
  unfold getItem
  try with_reducible refine wpAny_holding ?_
  first | refine wpAny_bind (wpAny_pure ?_) | skip
  refine wpAny_bind (wpAny_sequenceKey hTt (by decide) ?_)
  apply wpAny_bind
  apply wpAny_callSpecial?_slot (name := Str.ofString "__getitem__") hTt PyProof.Rows.slot_tuple_getitem
  apply wpAny_call_entry PyProof.Rows.slot_tuple_getitem hTt PyProof.Rows.entry_tuple_getitem ?_ (PyProof.Rows.args_tuple_getitem _ _)
  show wpAny _ _ (Builtin.Tuple.tupleItemsOf (.ref t) >>= _) _ _ s
  refine wpAny_bind (tupleItemsOf_ ht ?_)
  refine wpAny_bind (wpAny_typeOf hTs ?_)
  rw [if_pos (by decide)]
  apply wpAny_bind
  unfold Builtin.Slice.sliceApplied Builtin.Slice.sliceFields
  apply wpAny_bind
  refine wpAny_bind (wpAny_field hos hds (x := vl) rfl ?_)
  refine wpAny_bind (wpAny_field hos hds (x := vu) rfl ?_)
  refine wpAny_bind (wpAny_field hos hds (x := vs) rfl (wpAny_pure ?_))
  refine wpAny_bind (HT.slicePart_ ps ?_)
  show wpAny _ _ (if ((-1 : Int) == 0) = true then _ else _) _ _ s
  rw [if_neg (by decide)]
  refine wpAny_bind (HT.slicePart_ pl ?_)
  refine wpAny_bind (HT.slicePart_ pu ?_)
  refine wpAny_bind (wpAny_pure ?_)
  show wpAny _ _ (match Builtin.Slice.sliceAdjust none none (-1) (items.size : Int) with | (lo, hi) => pure (lo, (-1 : Int), Builtin.Slice.slicePlaces lo hi (-1))) _ _ s
  rw [adjust_rev]
  show wpAny _ _ (pure ((items.size : Int) - 1, (-1 : Int), Builtin.Slice.slicePlaces ((items.size : Int) - 1) (-1) (-1))) _ _ s
  rw [places_rev]
  refine wpAny_pure ?_
  have no : ¬ ((((items.size : Int) - 1 == 0) && ((-1 : Int) == 1) && (items.size == items.size)) = true) := by
    intro q
    rw [Bool.and_eq_true, Bool.and_eq_true] at q
    exact absurd q.1.2 (by decide)
  show wpAny _ _ (if (((items.size : Int) - 1 == 0) && ((-1 : Int) == 1) && (items.size == items.size)) = true then _ else _) _ _ s
  rw [if_neg no, rev_pick]
  first
    | exact wpAny_bind (m := Builtin.Tuple.tupleExact _) (wpAny_newObj_type (wpAny_pure ⟨_, rfl, wpAny_pure h⟩) hok)
    | exact wpAny_bind (m := Builtin.Tuple.tupleExact _) (wpAny_newObj_type (wpAny_bind (wpAny_pure (wpAny_pure ⟨_, rfl, wpAny_pure h⟩))) hok)
    | exact wpAny_bind (wpAny_bind (m := Builtin.Tuple.tupleExact _) (wpAny_newObj_type (wpAny_pure (wpAny_pure ⟨_, rfl, wpAny_pure h⟩)) hok))
    | exact wpAny_bind (wpAny_bind (m := Builtin.Tuple.tupleExact _) (wpAny_newObj_type (wpAny_pure ⟨_, rfl, wpAny_pure h⟩) hok))
end
section
variable {X : Cx}
def tRevT (K : PySem.W.Frag) (te : TE) : TE := fun σ H Q => te σ H fun x H1 => ∃ a xs, x = .ref a ∧ SqT K H1 a xs ∧ New H1 (.tup xs.reverse) Q
theorem pe_revT {e : Expr} {te : TE} {k : Nat} {p1 p2 p3 pos : Pos} (he : PE X e te) : PE X (.Subscript e (.Slice none none (some (.UnaryOp .USub (.Constant (.int 1) k p1) p2)) p3) pos) (tRevT X.K te) := by
  refine ⟨fun pins s σ H Q I h => ?_⟩
  refine Subscript_ (thn (he.run pins s σ H _ I h) fun v s1 ⟨x, H1, I1, r1, q1⟩ => ?_)
  obtain ⟨a, xs, ex, hx, q⟩ := q1
  subst ex
  cases r1
  have hst : PO X (some (.UnaryOp .USub (.Constant (.int 1) k p1) p2)) (tPart (tUn (rU fun i => .int (-i)) (tC (.int 1)))) := po_some (pe_un un_neg pe_int)
  apply wpAny_Slice
  refine thn (po_none.run pins s1 σ H1 (fun o H2 => o = none ∧ H2 = H1) I1 ⟨rfl, rfl⟩) fun vl s2 ⟨l, H2, I2, pl, el, e2⟩ => ?_
  cases el
  cases e2
  refine thn (po_none.run pins s2 σ H1 (fun o H2 => o = none ∧ H2 = H1) I2 ⟨rfl, rfl⟩) fun vu s3 ⟨u, H3, I3, pu, eu, e3⟩ => ?_
  cases eu
  cases e3
  refine thn (hst.run pins s3 σ H1 (fun o H2 => o = some (-1) ∧ H2 = H1) I3 ⟨1, rfl, -1, rfl, rfl, rfl⟩) fun vs s4 ⟨o, H4, I4, ps, eo, e4⟩ => ?_
  cases eo
  cases e4
  let so : Obj := { cls := .type "slice", data := .fields #[vl, vu, vs] }
  have I5 : Inv X pins σ H1 { s4 with heap := s4.heap.push so } := I4.kept (t' := s4.toks) fun b ob q => Heap.get?_push_of_some _ q
  obtain ⟨its, r, ht, hz⟩ := I5.tuple hx
  have hlen := r.length
  have hT : ({ s4 with heap := s4.heap.push so } : Shared).TypeIs (.ref a) "tuple" := let ⟨o, ho, hc, _⟩ := ht; ⟨o, ho, hc⟩
  show wpAny (model X.prog X.w) X.A (subscriptTail e (.Slice none none (some (.UnaryOp .USub (.Constant (.int 1) k p1) p2)) p3) (.ref a) (.ref s4.heap.objs.size)) (EP X pins σ Q) X.xe { s4 with heap := s4.heap.push so }
  refine tail_any (ops := [.ref a, .ref s4.heap.objs.size]) hT PyProof.Rows.slot_tuple_getitem.lookup ?_ (by with_unfolding_all rfl)
  refine item_rev ht (Heap.IsSliceOf.new _ vl vu vs) pl pu ps ?_ (by rw [List.size_toArray]; omega)
  refine ⟨.ref _, _, I5.laid (t' := s4.toks) (o := .tup xs.reverse) (fun b ob q => Heap.get?_push_of_some _ q) (Nat.le_refl _) ?_, rfl, ?_⟩
  · exact ⟨by rw [List.length_reverse]; omega, _, by simpa using r.reverse, IsTup.new _ _⟩
  · exact q.at _ (I5.hok.fresh (Nat.le_refl _))
theorem kRevT {K : PySem.W.Frag} {e : Expr} {te : TE} {k : Nat} {p1 p2 p3 pos : Pos} (he : PE X e te) (h : X.K = K := by rfl) : PE X (.Subscript e (.Slice none none (some (.UnaryOp .USub (.Constant (.int 1) k p1) p2)) p3) pos) (tRevT K te) := by
  subst h
  exact pe_revT he
theorem r_revT {K : PySem.W.Frag} {te : TE} {σ : L2.St} {H : Hp} {Q : VK} : tRevT K te σ H Q = te σ H fun x H1 => ∃ a xs, x = .ref a ∧ SqT K H1 a xs ∧ New H1 (.tup xs.reverse) Q := rfl
end
section
variable {P : Program} {w : World} {K : PySem.W.Frag} {mg : Str → Option Value} {base : Heap} {N : List Str} {q : Str} {sc : Scope} {f : Addr} {cd : Value} {A : Around} {outer : List Env} {s : Shared} {H : Hp} {E : XK}
theorem r_Kbb {s' s2 : Shared} {H' H2 : Hp} {sc' sc2 : Scope} {ce ce2 : Env} {fp fp2 : List Addr} : ((((cxOf CX0 P w K mg base N q sc f cd A outer s H E).nox).blk s' H' sc' ce fp).blk s2 H2 sc2 ce2 fp2).K = K := rfl
end

/-! ### ways to choose, small -/
def chs : Nat → Nat → Nat
  | _, 0 => 1
  | 0, _ + 1 => 0
  | n + 1, k + 1 => chs n k + chs n (k + 1)
theorem comb_chs {a b : Nat} (ha : a < 6) (hb : b < 6) : PySem.W.mcComb (a : Int) (b : Int) = ((chs a b : Nat) : Int) := by
  have h : ∀ a < 6, ∀ b < 6, PySem.W.mcComb ((a : Nat) : Int) ((b : Nat) : Int) = ((chs a b : Nat) : Int) := by decide +kernel
  exact h a ha b hb
theorem chs_le {a b : Nat} (ha : a < 6) (hb : b < 6) : chs a b ≤ 10 := by
  have h : ∀ a < 6, ∀ b < 6, chs a b ≤ 10 := by decide +kernel
  exact h a ha b hb
theorem chs_pos {a b : Nat} (ha : a < 6) (hb : b ≤ a) : 0 < chs a b := by
  have h : ∀ a < 6, ∀ b < a + 1, 0 < chs a b := by decide +kernel
  exact h a ha b (by omega)
theorem comb_ok {a b : Nat} (ha : a < 6) (hb : b < 6) : CombOk (a : Int) (b : Int) := ⟨by omega, by omega, by omega, by omega⟩
/-! ### all-yes chances -/
def hitsL (ps : List Int) (j : Nat) : List Int := ps.mapIdx fun k c => c * ((chs k j : Nat) : Int)
def ay (ps : List Int) (j : Nat) : Rat := (((hitsL ps j).sum : Int) : Rat) / ((ps.sum * ((chs (ps.length - 1) j : Nat) : Int) : Int) : Rat)
/-! ### blending -/
abbrev Zs := List (List Int × Rat)
def denW (z : List Int × Rat) : Int := z.1.sum * ((z.2.den : Nat) : Int)
def botF (zs : Zs) : Nat := zs.foldl (fun B z => Nat.lcm B (denW z).natAbs) 1
def wgt (B : Nat) (z : List Int × Rat) : Int := z.2.num * ((B : Int) / denW z)
def colW (B : Nat) (k : Nat) (zs : Zs) : List Int := zs.map fun z => wgt B z * z.1.getD k 0
def blendL (m : Nat) (zs : Zs) : List Int := (List.range m).map fun k => (colW (botF zs) k zs).sum
theorem botF_take {zs : Zs} {i : Nat} {z : List Int × Rat} (h : zs[i]? = some z) : botF (zs.take (i + 1)) = Nat.lcm (botF (zs.take i)) (denW z).natAbs := by
  unfold botF
  rw [List.take_add_one, h]
  simp
theorem lcm0 {a b : Nat} (ha : 0 < a) (hb : 0 < b) : 0 < Nat.lcm a b := Nat.lcm_pos ha hb
theorem botG (zs : Zs) : ∀ (B : Nat), 0 < B → (∀ z ∈ zs, 0 < denW z) → 0 < zs.foldl (fun B z => Nat.lcm B (denW z).natAbs) B ∧ B ∣ zs.foldl (fun B z => Nat.lcm B (denW z).natAbs) B ∧ ∀ z ∈ zs, (denW z).natAbs ∣ zs.foldl (fun B z => Nat.lcm B (denW z).natAbs) B := by
  induction zs with
  | nil => exact fun B h _ => ⟨h, Nat.dvd_refl _, fun r h => by simp at h⟩
  | cons z zs ih =>
    intro B hB hz
    have hd := hz z (List.mem_cons_self ..)
    obtain ⟨h1, h2, h3⟩ := ih (Nat.lcm B (denW z).natAbs) (lcm0 hB (by omega)) fun x hx => hz x (List.mem_cons_of_mem _ hx)
    refine ⟨h1, Nat.dvd_trans (Nat.dvd_lcm_left _ _) h2, fun x hx => ?_⟩
    rcases List.mem_cons.mp hx with rfl | hx
    · exact Nat.dvd_trans (Nat.dvd_lcm_right _ _) h2
    · exact h3 x hx
structure BlendOk (zs : Zs) (N m : Nat) (cs : List Int) (S : Int) : Prop where
  n0 : 0 < zs.length
  n1 : zs.length ≤ 8
  nN : N ≤ 800
  m0 : 2 ≤ m
  m1 : m ≤ 6
  len : ∀ z ∈ zs, z.1.length = m
  tp : ∀ z ∈ zs, 0 < z.1.sum
  ds : ∀ z ∈ zs, (denW z).natAbs < 2 ^ N
  tn : ∀ z ∈ zs, ∀ t ∈ z.1, 0 ≤ t ∧ t.natAbs < 2 ^ N
  rn : ∀ z ∈ zs, 0 ≤ z.2.num ∧ z.2.num.natAbs < 2 ^ N
  cl : cs.length = m
  S0 : 0 < S
  pr : ∀ k < m, (zs.map fun z => z.2 * ((z.1.getD k 0 : Int) : Rat) / ((z.1.sum : Int) : Rat)).sum = ((cs.getD k 0 : Int) : Rat) / (S : Rat)
  cp : ∃ c ∈ cs, c ≠ 0
theorem denW_pos {z : List Int × Rat} (h : 0 < z.1.sum) : 0 < denW z := Int.mul_pos h (den_pos _)
theorem botF_lt {N : Nat} : ∀ (zs : Zs) (i : Nat), (∀ z ∈ zs, (denW z).natAbs < 2 ^ N) → i ≤ zs.length → botF (zs.take i) < 2 ^ (i * N + 1)
  | zs, 0, _, _ => by
    rw [Nat.zero_mul, List.take_zero]
    show 1 < 2 ^ (0 + 1)
    decide
  | zs, i + 1, h, hi => by
    have hr : zs[i]? = some zs[i] := List.getElem?_eq_getElem (by omega)
    rw [botF_take hr]
    have h1 := botF_lt zs i h (by omega)
    have h2 := h _ (List.getElem_mem (h := show i < zs.length by omega))
    have e : (i + 1) * N + 1 = (i * N + 1) + N := by rw [Nat.add_mul]; omega
    rw [e, Nat.pow_add]
    exact Nat.lt_of_le_of_lt (lcm_le _ _) (Nat.mul_lt_mul'' h1 h2)
theorem botF_pos {zs : Zs} (h : ∀ z ∈ zs, 0 < z.1.sum) : 0 < botF zs := (botG zs 1 Nat.one_pos fun z hz => denW_pos (h z hz)).1
theorem botF_dvd {zs : Zs} (h : ∀ z ∈ zs, 0 < z.1.sum) {z : List Int × Rat} (hz : z ∈ zs) : denW z ∣ ((botF zs : Nat) : Int) :=
  Int.natAbs_dvd.mp (Int.ofNat_dvd.mpr ((botG zs 1 Nat.one_pos fun z hz => denW_pos (h z hz)).2.2 z hz))
theorem wgt_rat {B : Nat} {z : List Int × Rat} (h : 0 < z.1.sum) (hd : denW z ∣ (B : Int)) (t : Int) :
    ((wgt B z * t : Int) : Rat) = ((B : Int) : Rat) * (z.2 * (t : Rat) / ((z.1.sum : Int) : Rat)) := by
  obtain ⟨q, hq⟩ := hd
  have d0 := denW_pos h
  have e : (B : Int) / denW z = q := by rw [hq]; exact Int.mul_ediv_cancel_left _ (by omega)
  unfold wgt
  rw [e]
  have eB : ((B : Int) : Rat) = ((z.1.sum : Int) : Rat) * (((z.2.den : Nat) : Int) : Rat) * (q : Rat) := by
    rw [hq]
    unfold denW
    rw [Rat.intCast_mul, Rat.intCast_mul]
  rw [eB, Rat.intCast_mul, Rat.intCast_mul]
  have en : ((z.2.num : Int) : Rat) = z.2 * (((z.2.den : Nat) : Int) : Rat) := by
    have := Rat.num_divInt_den z.2
    rw [Rat.divInt_eq_div] at this
    have hn : (((z.2.den : Nat) : Int) : Rat) ≠ 0 := fun x => by
      have := congrArg Rat.num x
      have := den_pos z.2
      simp at *
      omega
    have h2 : ((z.2.num : Int) : Rat) / (((z.2.den : Nat) : Int) : Rat) = z.2 := this
    grind
  have hs : ((z.1.sum : Int) : Rat) ≠ 0 := fun x => by
    have := congrArg Rat.num x
    simp at this
    omega
  rw [en]
  grind
theorem col_rat {B : Nat} (k : Nat) : ∀ (zs : Zs), (∀ z ∈ zs, 0 < z.1.sum ∧ denW z ∣ (B : Int)) →
    (((colW B k zs).sum : Int) : Rat) = ((B : Int) : Rat) * (zs.map fun z => z.2 * ((z.1.getD k 0 : Int) : Rat) / ((z.1.sum : Int) : Rat)).sum
  | [], _ => by
    simp [colW]
  | z :: zs, h => by
    have ih := col_rat (B := B) k zs fun x hx => h x (List.mem_cons_of_mem _ hx)
    obtain ⟨h1, h2⟩ := h z (List.mem_cons_self ..)
    have e : colW B k (z :: zs) = wgt B z * z.1.getD k 0 :: colW B k zs := rfl
    rw [e, List.sum_cons, Rat.intCast_add, ih, wgt_rat h1 h2, List.map_cons, List.sum_cons]
    grind
theorem blend_col {zs : Zs} {N m : Nat} {cs : List Int} {S : Int} (h : BlendOk zs N m cs S) {k : Nat} (hk : k < m) : S * (colW (botF zs) k zs).sum = ((botF zs : Nat) : Int) * cs.getD k 0 := by
  have e := col_rat (B := botF zs) k zs fun z hz => ⟨h.tp z hz, botF_dvd h.tp hz⟩
  rw [h.pr k hk] at e
  have hS : ((S : Int) : Rat) ≠ 0 := fun x => by
    have := congrArg Rat.num x
    have := h.S0
    simp at *
    omega
  have e2 : ((S * (colW (botF zs) k zs).sum : Int) : Rat) = ((((botF zs : Nat) : Int) * cs.getD k 0 : Int) : Rat) := by
    rw [Rat.intCast_mul, Rat.intCast_mul, e]
    grind
  exact Rat.intCast_inj.mp e2
theorem blend_plain {zs : Zs} {N m : Nat} {cs : List Int} {S : Int} (h : BlendOk zs N m cs S) : (blendL m zs).map (S * ·) = cs.map (((botF zs : Nat) : Int) * ·) := by
  apply List.ext_getElem?
  intro k
  by_cases hk : k < m
  · have hc : cs[k]? = some (cs.getD k 0) := by
      have hl : k < cs.length := by rw [h.cl]; exact hk
      rw [List.getD_eq_getElem?_getD, List.getElem?_eq_getElem hl]
      rfl
    have e := blend_col h hk
    rw [List.getElem?_map, List.getElem?_map, hc]
    simp only [blendL, List.getElem?_map, List.getElem?_range hk, Option.map_some]
    rw [e]
  · rw [List.getElem?_eq_none (by simp [blendL]; omega), List.getElem?_eq_none (by simp [h.cl]; omega)]
theorem sum_abs_lt {n : Nat} : ∀ (xs : List Int) (a : Nat), (∀ x ∈ xs, x.natAbs < 2 ^ n) → xs.length ≤ a → xs.sum.natAbs ≤ a * 2 ^ n
  | [], a, _, _ => by simp
  | x :: xs, 0, _, h => by simp at h
  | x :: xs, a + 1, h, hl => by
    have ih := sum_abs_lt xs a (fun y hy => h y (List.mem_cons_of_mem _ hy)) (by simpa using hl)
    have h1 := h x (List.mem_cons_self ..)
    rw [List.sum_cons, Nat.add_mul]
    omega
theorem mc_abs {a b : Int} {c : Nat} (h0 : 0 ≤ a) (ha : a.natAbs ≤ 2 ^ c) (hb : 0 ≤ b) (hb8 : b ≤ 8) : (PySem.W.mcComb a b).natAbs < 2 ^ (c * 8 + 1) := by
  by_cases h : b > a
  · rw [PySem.W.mcComb_above h]
    exact Nat.two_pow_pos _
  · have hm : min b (a - b) ≤ 8 := by omega
    have hq : PySem.W.mcComb a b = PySem.Builtin.Math.fallingProduct a (min b (a - b)).toNat / PySem.Builtin.Math.fallingProduct (min b (a - b)) (min b (a - b)).toNat := PySem.W.mcComb_at hb (by omega) rfl
    have h1 : (PySem.Builtin.Math.fallingProduct a (min b (a - b)).toNat).natAbs ≤ 2 ^ (c * (min b (a - b)).toNat) := fp_abs h0 ha _ (by omega)
    have h2 : (PySem.W.mcComb a b).natAbs ≤ (PySem.Builtin.Math.fallingProduct a (min b (a - b)).toNat).natAbs := by
      rw [hq]
      exact Int.natAbs_ediv_le_natAbs _ _
    have h3 : c * (min b (a - b)).toNat ≤ c * 8 := Nat.mul_le_mul_left _ (by omega)
    have h4 := Nat.pow_le_pow_right (show 0 < 2 by decide) h3
    have h5 : 2 ^ (c * 8 + 1) = 2 ^ (c * 8) + 2 ^ (c * 8) := by rw [Nat.pow_succ]; omega
    have := Nat.two_pow_pos (c * 8)
    omega
theorem BlendOk.sl {zs : Zs} {N m : Nat} {cs : List Int} {S : Int} (h : BlendOk zs N m cs S) {z : List Int × Rat} (hz : z ∈ zs) : z.1.sum.natAbs < 2 ^ N := by
  have h1 := h.ds z hz
  unfold denW at h1
  rw [Int.natAbs_mul] at h1
  have h2 : 1 ≤ (((z.2.den : Nat) : Int)).natAbs := by have := den_pos z.2; omega
  have h3 := Nat.mul_le_mul_left z.1.sum.natAbs h2
  omega
theorem BlendOk.dl {zs : Zs} {N m : Nat} {cs : List Int} {S : Int} (h : BlendOk zs N m cs S) {z : List Int × Rat} (hz : z ∈ zs) : (((z.2.den : Nat) : Int)).natAbs < 2 ^ N := by
  have h1 := h.ds z hz
  unfold denW at h1
  rw [Int.natAbs_mul] at h1
  have h2 : 1 ≤ z.1.sum.natAbs := by have := h.tp z hz; omega
  have h3 := Nat.mul_le_mul_right (((z.2.den : Nat) : Int)).natAbs h2
  omega

theorem kMax {X : Cx} {K : PySem.W.Frag} (hc : X.calm = true) (h : X.K = K := by rfl) : CallR X (.builtin "max") (rMax K) := by
  subst h
  exact cr_max hc
/-- a power that is written out, as one value -/
theorem pe_pow {X : Cx} {a b : Expr} {i j c : Int} {pos : Pos} (ha : PE X a (tC (.int i))) (hb : PE X b (tC (.int j))) (h : CPow i j) (e : i ^ j.toNat = c) : PE X (.BinOp a .Pow b pos) (tC (.int c)) :=
  PE.imp (pe_op op_pow ha hb) fun σ H Q q => ⟨i, j, rfl, rfl, h, by
    have q2 : Q (.int c) H := q
    rw [← e] at q2
    exact q2⟩
theorem pe_less {X : Cx} {a b : Expr} {i j c : Int} {pos : Pos} (ha : PE X a (tC (.int i))) (hb : PE X b (tC (.int j))) (e : i - j = c) : PE X (.BinOp a .Sub b pos) (tC (.int c)) :=
  PE.imp (pe_op op_sub ha hb) fun σ H Q q => ⟨i, j, rfl, rfl, by
    have q2 : Q (.int c) H := q
    rw [← e] at q2
    exact q2⟩

/-! comprehensions that draw; a list or a tuple walked, indexed -/
section
variable {g : TG} {te : TE} {vs : List Nat} {σ : L2.St} {H1 : Hp} {Dd v : Addr} {Q : VK} {K : PySem.W.Frag} {a : Addr} {xs : List V} {D : Ends} {H : Hp}
def LcV (v : Addr) (H1 : Hp) (Dd : Addr) (R : Nat → V → Hp → Prop) (i : Nat) (H : Hp) : Prop :=
  ∃ acc : List V, H Dd = some (.lst acc) ∧ acc.length = i ∧ Gv v H1 H ∧ ∀ (j : Nat) y, acc[j]? = some y → R j y H
theorem vat_ne (hD : H1 Dd = none) (hv : VatAt H1 v) : Dd ≠ v := fun z => by
  obtain ⟨x, y, w, h1, _⟩ := hv
  rw [← z, hD] at h1
  cases h1
theorem lcV_turn {R : Nat → V → Hp → Prop} (hR : ∀ i y H H', Kp H H' → R i y H → R i y H') (hD : H1 Dd = none) (hv : VatAt H1 v) {i : Nat} {H H4 : Hp} {y : V}
    (p : LcV v H1 Dd R i H) (e : Gv v H H4) (r : R i y H4) (hi : i < 1000000) :
    ∃ acc, H4 Dd = some (.lst acc) ∧ acc.length < sizeLine ∧ LcV v H1 Dd R (i + 1) (upd H4 Dd (.lst (acc ++ [y]))) := by
  obtain ⟨acc, h1, h2, h3, h4⟩ := p
  have dv := vat_ne hD hv
  have h5 := e.lst dv h1
  have k : Kp H4 (upd H4 Dd (.lst (acc ++ [y]))) := fun b o hb n => by
    rw [upd_ne]
    · exact hb
    · intro z
      rw [z, h5] at hb
      exact n _ (Option.some.inj hb).symm
  refine ⟨acc, h5, Nat.lt_of_lt_of_le (show acc.length < 1000000 by omega) (by decide), acc ++ [y], upd_same, by simp [h2], ⟨hv, fun b o n hb => ?_, ?_⟩, fun j z hz => ?_⟩
  · rw [upd_ne (ne_of_none hb hD)]
    exact (h3.trans e).keep _ _ n hb
  · obtain ⟨x, y, w, q1, q2⟩ := e.new
    exact ⟨x, y, w, by rw [upd_ne (Ne.symm dv)]; exact q1, q2⟩
  · by_cases hj : j < acc.length
    · rw [List.getElem?_append_left hj] at hz
      exact hR _ _ _ _ (e.kp.trans k) (h4 j z hz)
    · have hj2 : j = acc.length := by
        have := (List.getElem?_eq_some_iff.mp hz).1
        rw [List.length_append, List.length_singleton] at this
        omega
      subst hj2
      rw [List.getElem?_append_right (Nat.le_refl _), Nat.sub_self] at hz
      cases hz
      rw [h2]
      exact hR _ _ _ _ k r
theorem lcV_start {R : Nat → V → Hp → Prop} (hD : H1 Dd = none) (hv : VatAt H1 v) : LcV v H1 Dd R 0 (upd H1 Dd (.lst [])) :=
  ⟨[], upd_same, rfl, .of hv (Ex.new hD), fun j y h => by simp at h⟩
/-- what is wanted behind a comprehension that draws -/
def LcEndV (v : Addr) (H1 : Hp) (Dd : Addr) (n : Nat) (R : Nat → V → Hp → Prop) (Q : VK) : Prop :=
  ∀ H ys, Gv v H1 H → H Dd = some (.lst ys) → ys.length = n → (∀ (i : Nat) y, ys[i]? = some y → R i y H) → Q (.ref Dd) H
theorem lcRv {lo : Int} {n : Nat} {j : Nat} (R : Nat → V → Hp → Prop) (hR : ∀ i y H H', Kp H H' → R i y H → R i y H') (hD : H1 Dd = none) (hv : VatAt H1 v) (hz : n ≤ 100000)
    (hw : ∀ x, wipe ((wipe σ vs).set j (some x)) vs = wipe σ vs)
    (hs : ∀ (i : Nat) H, i < n → Gv v H1 H → tmE te ((wipe σ vs).set j (some (.int (lo + i)))) H fun y H4 => Gv v H H4 ∧ R i y H4)
    (hd : LcEndV v H1 Dd n R Q) : LcW (Itr lo n) (gName j) tYes (tmE te) vs σ H1 Dd Q :=
  lc_range (LcV v H1 Dd R) (lcV_start hD hv) (fun i H hi p => by
    obtain ⟨acc, q1, q2, q3, q4⟩ := id p
    refine ⟨hw _, ?_⟩
    obtain ⟨R0, z1, z2⟩ := hs i H hi q3
    exact ⟨R0, z1, fun y H4 r0 => lcV_turn hR hD hv p (z2 y H4 r0).1 (z2 y H4 r0).2 (by omega)⟩)
    fun H ⟨acc, q1, q2, q3, q4⟩ => hd H acc q3 q1 q2 q4
/-! ### a list or a tuple -/
def ItS (K : PySem.W.Frag) : Bool → Addr → It
  | true => Itl K
  | false => Itt K
def iSeq (K : PySem.W.Frag) (tl : TE) : TI := fun σ H R => tl σ H fun x H1 => ∃ a k, x = .ref a ∧ (∃ xs, SqB K k H1 a xs) ∧ R (ItS K k a) H1
theorem r_seqI {tl : TE} {S : It → Hp → Prop} : iSeq K tl σ H S = tl σ H fun x H1 => ∃ a k, x = .ref a ∧ (∃ xs, SqB K k H1 a xs) ∧ S (ItS K k a) H1 := rfl
theorem loopB {k : Bool} {a : Addr} {xs : List V} {tb : TS} (Pv : Nat → L2.St → Hp → Prop) (h0 : Pv 0 σ H) (hl : ∀ i σ H, i ≤ xs.length → Pv i σ H → SqB K k H a xs)
    (hs : ∀ i x σ H, xs[i]? = some x → Pv i σ H → g x σ H fun σ2 H2 => tb { nx := Pv (i + 1), rt := D.rt, bk := D.nx, ct := Pv (i + 1) } σ2 H2) (hd : ∀ σ H, Pv xs.length σ H → D.nx σ H) : LoopW (ItS K k a) g tb D σ H := by
  cases k
  · exact for_tup Pv h0 hl hs hd
  · exact for_list Pv h0 hl hs hd
theorem lcB {k : Bool} (R : Nat → V → Hp → Prop) (hR : ∀ i y H H', Kp H H' → R i y H → R i y H') (hD : H1 Dd = none) (hx : SqB K k H1 a xs) (hz : xs.length ≤ 100000)
    (hs : ∀ (i : Nat) x H, xs[i]? = some x → Ex H1 H → g x (wipe σ vs) H fun σ2 H2 => wipe σ2 vs = wipe σ vs ∧ tmE te σ2 H2 fun y H4 => Ex H H4 ∧ R i y H4)
    (hg : GMono g)
    (hd : LcEnd H1 Dd xs.length R Q) : LcW (ItS K k a) g tYes (tmE te) vs σ H1 Dd Q := by
  cases k
  · exact lcT R hR hD hx hz hs (fun i x H S S' _ h q => hg _ _ _ _ _ h q) hd
  · exact lcL (J0 := True) R hR hD hx hz hs (fun i x H S S' _ h q => hg _ _ _ _ _ h q) hd
theorem sqB_or {k : Bool} {a : Addr} {xs : List V} (h : SqB K k H a xs) : SqL K H a xs ∨ SqT K H a xs := by
  cases k
  · exact .inr h
  · exact .inl h
theorem q_ixB {k : Bool} {p : Addr} {xs : List V} {i : Int} {v : V} (h : SqB K k H p xs) (e : atI xs i = some v) (q : Q v H) : rIxL K (.ref p) (.int i) H Q ∨ rIxT K (.ref p) (.int i) H Q := by
  cases k
  · exact .inr (q_ixT h e q)
  · exact .inl (q_ixL h e q)
end
section
variable {X : Cx} {tg : Expr} {K : PySem.W.Frag}
theorem pi_seq {l : Expr} {tl : TE} (hl : PE X l tl) (h : X.K = K := by rfl) : PI X tg l (iSeq K tl) := by
  subst h
  refine ⟨fun pins s σ H R I h => ?_⟩
  refine thn (hl.run pins s σ H _ I h) fun v s1 ⟨x, H1, I1, r1, q1⟩ => ?_
  obtain ⟨a, k, e, ⟨xs, hq⟩, q⟩ := q1
  subst e
  cases r1
  cases k
  · obtain ⟨its, rv, p, hz⟩ := I1.tuple hq
    refine wpAny_pyIter_tuple (show s1.heap.IsTuple a its.toArray from p) ?_
    refine ⟨s1.heap.objs.size, [s1.heap.objs.size], _, _, H1, rfl, I1.kept (t' := s1.toks) fun b o e => Heap.get?_push_of_some _ e, turn_tuple a _, ⟨_, Heap.get?_push_size _ rfl, rfl, rfl⟩, fun b hb => ?_, q⟩
    have e : b = s1.heap.objs.size := by simpa using hb
    subst e
    exact I1.fpOk (Nat.le_refl _) (I1.hok.fresh (Nat.le_refl _))
  · obtain ⟨its, rv, p, hz⟩ := I1.list hq
    refine wpAny_pyIter_list p.isList ?_
    refine ⟨s1.heap.objs.size, [s1.heap.objs.size], _, _, H1, rfl, I1.kept (t' := s1.toks) fun b o e => Heap.get?_push_of_some _ e, turn_list a _, ⟨_, Heap.get?_push_size _ rfl, rfl, rfl⟩, fun b hb => ?_, q⟩
    have e : b = s1.heap.objs.size := by simpa using hb
    subst e
    exact I1.fpOk (Nat.le_refl _) (I1.hok.fresh (Nat.le_refl _))
def rIxB (K : PySem.W.Frag) : R2 := fun x y H Q => rIxL K x y H Q ∨ rIxT K x y H Q
theorem ixB (h : X.K = K := by rfl) : IxR X (rIxB K) := by
  subst h
  exact ix_list.or ix_tup
theorem call_intB : CallR X (.type "int") (fun xs H Q => (∃ i, xs = [.int i] ∧ Q (.int i) H) ∨ ∃ k, xs = [.bl k] ∧ Q (.int (if k then 1 else 0)) H) := call_int1
end

/-! comprehensions whose items may be lists -/
/-- all but the list d stays -/
def But (d : Addr) (H H' : Hp) : Prop := ∀ a o, (a ≠ d ∨ ∀ xs, o ≠ .lst xs) → H a = some o → H' a = some o
theorem Ex.but {d : Addr} {H H' : Hp} (e : Ex H H') : But d H H' := fun a o _ h => e a o h
theorem But.kp {d : Addr} {H H' : Hp} (b : But d H H') : Kp H H' := fun a o h n => b a o (.inr n) h
theorem But.trans {d : Addr} {H H1 H2 : Hp} (a : But d H H1) (b : But d H1 H2) : But d H H2 := fun x o n h => b x o n (a x o n h)
section
variable {g : TG} {te : TE} {vs : List Nat} {σ : L2.St} {H1 : Hp} {Dd v : Addr} {Q : VK} {K : PySem.W.Frag} {a : Addr} {xs : List V} {D : Ends} {H : Hp}
theorem lcB_turn {R : Nat → V → Hp → Prop} (hR : ∀ i y H H', But Dd H H' → R i y H → R i y H') (hD : H1 Dd = none) {i : Nat} {H H4 : Hp} {y : V}
    (p : LcJ H1 Dd R i H) (e : Ex H H4) (r : R i y H4) (hi : i < 1000000) :
    ∃ acc, H4 Dd = some (.lst acc) ∧ acc.length < sizeLine ∧ LcJ H1 Dd R (i + 1) (upd H4 Dd (.lst (acc ++ [y]))) := by
  obtain ⟨acc, h1, h2, h3, h4⟩ := p
  have k : But Dd H4 (upd H4 Dd (.lst (acc ++ [y]))) := fun b o n hb => by
    rw [upd_ne]
    · exact hb
    · intro z
      rw [z, e _ _ h1] at hb
      rcases n with n | n
      · exact n z
      · exact n _ (Option.some.inj hb).symm
  refine ⟨acc, e _ _ h1, Nat.lt_of_lt_of_le (show acc.length < 1000000 by omega) (by decide), acc ++ [y], upd_same, by simp [h2], fun b o hb => ?_, fun j z hz => ?_⟩
  · rw [upd_ne (ne_of_none hb hD)]
    exact e _ _ (h3 _ _ hb)
  · by_cases hj : j < acc.length
    · rw [List.getElem?_append_left hj] at hz
      exact hR _ _ _ _ (e.but.trans k) (h4 j z hz)
    · have hj2 : j = acc.length := by
        have := (List.getElem?_eq_some_iff.mp hz).1
        rw [List.length_append, List.length_singleton] at this
        omega
      subst hj2
      rw [List.getElem?_append_right (Nat.le_refl _), Nat.sub_self] at hz
      cases hz
      rw [h2]
      exact hR _ _ _ _ k r
/-- over a tuple, by a name -/
theorem lcTb {j : Nat} (R : Nat → V → Hp → Prop) (hR : ∀ i y H H', But Dd H H' → R i y H → R i y H') (hD : H1 Dd = none) (hx : SqT K H1 a xs) (hz : xs.length ≤ 100000)
    (hw : ∀ x, wipe ((wipe σ vs).set j (some x)) vs = wipe σ vs)
    (hs : ∀ (i : Nat) x H, xs[i]? = some x → Ex H1 H → (∃ acc, H Dd = some (.lst acc)) → tmE te ((wipe σ vs).set j (some x)) H fun y H4 => Ex H H4 ∧ R i y H4)
    (hd : LcEnd H1 Dd xs.length R Q) : LcW (Itt K a) (gName j) tYes (tmE te) vs σ H1 Dd Q :=
  lc_tup (xs := xs) (LcJ H1 Dd R) (lcJ_start hD) (fun i H _ ⟨_, _, _, e, _⟩ => sqT_kp hx e.kp) (fun i x H hi p => by
    obtain ⟨acc, q1, q2, q3, q4⟩ := id p
    refine ⟨hw _, ?_⟩
    obtain ⟨R0, z1, z2⟩ := hs i x H hi q3 ⟨_, q1⟩
    exact ⟨R0, z1, fun y H4 r0 => lcB_turn hR hD p (z2 y H4 r0).1 (z2 y H4 r0).2 (by have := (List.getElem?_eq_some_iff.mp hi).1; omega)⟩)
    fun H ⟨acc, q1, q2, q3, q4⟩ => hd H acc q3 q1 q2 q4
/-- over a list, by a name -/
theorem lcLb {j : Nat} (R : Nat → V → Hp → Prop) (hR : ∀ i y H H', But Dd H H' → R i y H → R i y H') (hD : H1 Dd = none) (hx : SqL K H1 a xs) (hz : xs.length ≤ 100000)
    (hw : ∀ x, wipe ((wipe σ vs).set j (some x)) vs = wipe σ vs)
    (hs : ∀ (i : Nat) x H, xs[i]? = some x → Ex H1 H → (∃ acc, H Dd = some (.lst acc)) → tmE te ((wipe σ vs).set j (some x)) H fun y H4 => Ex H H4 ∧ R i y H4)
    (hd : LcEnd H1 Dd xs.length R Q) : LcW (Itl K a) (gName j) tYes (tmE te) vs σ H1 Dd Q :=
  lc_list (xs := xs) (LcJ H1 Dd R) (lcJ_start hD) (fun i H _ ⟨_, _, _, e, _⟩ => sqL_ex hx e) (fun i x H hi p => by
    obtain ⟨acc, q1, q2, q3, q4⟩ := id p
    refine ⟨hw _, ?_⟩
    obtain ⟨R0, z1, z2⟩ := hs i x H hi q3 ⟨_, q1⟩
    exact ⟨R0, z1, fun y H4 r0 => lcB_turn hR hD p (z2 y H4 r0).1 (z2 y H4 r0).2 (by have := (List.getElem?_eq_some_iff.mp hi).1; omega)⟩)
    fun H ⟨acc, q1, q2, q3, q4⟩ => hd H acc q3 q1 q2 q4
/-- over a range -/
theorem lcRb {lo : Int} {n : Nat} {j : Nat} (R : Nat → V → Hp → Prop) (hR : ∀ i y H H', But Dd H H' → R i y H → R i y H') (hD : H1 Dd = none) (hz : n ≤ 100000)
    (hw : ∀ x, wipe ((wipe σ vs).set j (some x)) vs = wipe σ vs)
    (hs : ∀ (i : Nat) H, i < n → Ex H1 H → (∃ acc, H Dd = some (.lst acc)) → tmE te ((wipe σ vs).set j (some (.int (lo + i)))) H fun y H4 => Ex H H4 ∧ R i y H4)
    (hd : LcEnd H1 Dd n R Q) : LcW (Itr lo n) (gName j) tYes (tmE te) vs σ H1 Dd Q :=
  lc_range (LcJ H1 Dd R) (lcJ_start hD) (fun i H hi p => by
    obtain ⟨acc, q1, q2, q3, q4⟩ := id p
    refine ⟨hw _, ?_⟩
    obtain ⟨R0, z1, z2⟩ := hs i H hi q3 ⟨_, q1⟩
    exact ⟨R0, z1, fun y H4 r0 => lcB_turn hR hD p (z2 y H4 r0).1 (z2 y H4 r0).2 (by omega)⟩)
    fun H ⟨acc, q1, q2, q3, q4⟩ => hd H acc q3 q1 q2 q4
theorem sqL_but {d a : Addr} {H H' : Hp} {xs : List V} (h : SqL K H a xs) (n : a ≠ d) (e : But d H H') : SqL K H' a xs := by
  rcases h with (h | ⟨o, h⟩) | h
  · exact .inl (.inl (e _ _ (.inl n) h))
  · exact .inl (.inr ⟨o, e _ _ (.inl n) h⟩)
  · exact .inr h
end

/-! tuples added, data that differ, comprehensions with a test, ways to choose of great numbers -/
section
variable {X : Cx} {K : PySem.W.Frag}
/-- t + u, u not empty -/
def rCatAN (K : PySem.W.Frag) : R2 := fun x y H Q => ∃ a b xs ys, x = .ref a ∧ y = .ref b ∧ SqT K H a xs ∧ SqT K H b ys ∧ ys ≠ [] ∧ xs.length + ys.length ≤ sizeLine ∧
  ∀ p H', Ex H H' → SqT K H' p (xs ++ ys) → Q (.ref p) H'
theorem op_catAN (h : X.K = K := by rfl) : OpR X (binaryOp .Add) (rCatAN K) := by
  subst h
  exact OpR.imp op_catA fun x y H Q ⟨a, b, xs, ys, e1, e2, h1, h2, hy, z, n⟩ => ⟨a, b, xs, ys, e1, e2, h1, h2, z,
    fun q => n b H (Ex.refl H) (by rw [q]; exact h2), fun _ q => absurd q hy, fun _ _ p hp => n p _ (Ex.new hp) (.of upd_same)⟩
theorem op_neB (hu : X.A.units + 64 < cLine) (h : X.K = K := by rfl) : OpR X (compareOp .NotEq) (rNeD K) := by
  subst h
  exact op_neD hu
theorem op_eqB (hu : X.A.units + 64 < cLine) (h : X.K = K := by rfl) : OpR X (compareOp .Eq) (rEqD K) := by
  subst h
  exact op_eqD hu
end
section
variable {g : TG} {te : TE} {tt : TT} {vs : List Nat} {σ : L2.St} {H1 : Hp} {Dd : Addr} {Q : VK} {K : PySem.W.Frag} {a : Addr}
/-- the ints of a tuple for which a test holds -/
theorem lcTf {j : Nat} (p : Int → Bool) {ts : List Int} (hD : H1 Dd = none) (hx : SqT K H1 a (ts.map V.int)) (hz : ts.length ≤ 100000)
    (hw : ∀ x, wipe ((wipe σ vs).set j (some x)) vs = wipe σ vs)
    (hs : ∀ c H (S : Bool → Hp → Prop), S (p c) H → tt ((wipe σ vs).set j (some (.int c))) H S)
    (hv : ∀ c H (S : VK), S (.int c) H → te ((wipe σ vs).set j (some (.int c))) H S)
    (hd : ∀ H, Ex H1 H → H Dd = some (.lst ((ts.filter p).map V.int)) → Q (.ref Dd) H) : LcW (Itt K a) (gName j) tt (tmE te) vs σ H1 Dd Q :=
  lc_tup (xs := ts.map V.int) (fun i H => H Dd = some (.lst (((ts.take i).filter p).map V.int)) ∧ Ex H1 H) ⟨by simp [upd_same], Ex.new hD⟩ (fun i H _ h => sqT_kp hx h.2.kp) (fun i x H hi h => by
    obtain ⟨hl, he⟩ := h
    rw [List.getElem?_map] at hi
    cases hc : ts[i]? with
    | none => rw [hc] at hi; cases hi
    | some c =>
      rw [hc] at hi
      cases hi
      have et : ts.take (i + 1) = ts.take i ++ [c] := by
        rw [List.take_add_one, hc]
        rfl
      refine ⟨hw _, hs c H _ ?_⟩
      cases hp : p c with
      | false =>
        rw [if_neg (by decide)]
        refine ⟨?_, he⟩
        rw [et, List.filter_append, List.filter_cons, hp]
        simpa using hl
      | true =>
        rw [if_pos rfl]
        refine ⟨fun y H' => y = .int c ∧ H' = H, hv c H _ ⟨rfl, rfl⟩, ?_⟩
        rintro y H' ⟨rfl, rfl⟩
        refine ⟨_, hl, ?_, ?_, ?_⟩
        · have h1 := List.length_filter_le p (ts.take i)
          have h2 := List.length_take_le i ts
          rw [List.length_map]
          refine Nat.lt_of_lt_of_le (show _ < 1000000 from ?_) (by decide)
          have h3 : (ts.take i).length ≤ ts.length := by rw [List.length_take]; omega
          omega
        · rw [et, List.filter_append, List.filter_cons, hp]
          simp [upd_same]
        · exact fun b o hb => by
            rw [upd_ne (ne_of_none hb hD)]
            exact he _ _ hb)
    fun H h => by
      rw [List.length_map, List.take_length] at h
      exact hd H h.2 h.1
end
/-! ### ways to choose -/
theorem chs_zero (a : Nat) : chs a 0 = 1 := by cases a <;> rfl
theorem chs_big : ∀ (a k : Nat), a < k → chs a k = 0
  | _, 0, h => by omega
  | 0, k + 1, _ => rfl
  | a + 1, k + 1, h => by
    show chs a k + chs a (k + 1) = 0
    rw [chs_big a k (by omega), chs_big a (k + 1) (by omega)]
theorem chs_self : ∀ a : Nat, chs a a = 1
  | 0 => rfl
  | a + 1 => by
    show chs a a + chs a (a + 1) = 1
    rw [chs_self a, chs_big a (a + 1) (by omega)]
theorem chs_step : ∀ (a k : Nat), ((k : Int) + 1) * ((chs a (k + 1) : Nat) : Int) = ((a : Int) - (k : Int)) * ((chs a k : Nat) : Int)
  | 0, 0 => by decide
  | 0, k + 1 => by
    have h1 : chs 0 (k + 1) = 0 := rfl
    have h2 : chs 0 (k + 1 + 1) = 0 := rfl
    rw [h1, h2]
    simp
  | a + 1, 0 => by
    have ih := chs_step a 0
    have h1 : chs (a + 1) (0 + 1) = chs a 0 + chs a (0 + 1) := rfl
    rw [h1, chs_zero, chs_zero] at *
    push_cast at *
    omega
  | a + 1, k + 1 => by
    have ih := chs_step a (k + 1)
    have ih2 := chs_step a k
    have h1 : chs (a + 1) (k + 1 + 1) = chs a (k + 1) + chs a (k + 1 + 1) := rfl
    have h2 : chs (a + 1) (k + 1) = chs a k + chs a (k + 1) := rfl
    rw [h1, h2]
    generalize chs a (k + 1 + 1) = z at *
    generalize chs a (k + 1) = y at *
    generalize chs a k = x at *
    push_cast at *
    grind
def fct : Nat → Int
  | 0 => 1
  | k + 1 => fct k * ((k : Int) + 1)
theorem fct_pos : ∀ k : Nat, 0 < fct k
  | 0 => by decide
  | k + 1 => Int.mul_pos (fct_pos k) (by omega)
theorem fall_chs (a : Nat) : ∀ k : Nat, Builtin.Math.fallingProduct (a : Int) k = ((chs a k : Nat) : Int) * fct k
  | 0 => by
    rw [PySem.W.mc_fp_zero, chs_zero]
    rfl
  | k + 1 => by
    rw [PySem.W.mc_fp_succ, fall_chs a k]
    have := chs_step a k
    show _ = _ * (fct k * ((k : Int) + 1))
    grind
theorem comb_big {a k : Nat} (hk : k < 6) : PySem.W.mcComb (a : Int) (k : Int) = ((chs a k : Nat) : Int) := by
  by_cases h : k ≤ a
  · by_cases h2 : a < 12
    · have g : ∀ a < 12, ∀ k < 6, PySem.W.mcComb ((a : Nat) : Int) ((k : Nat) : Int) = ((chs a k : Nat) : Int) := by decide +kernel
      exact g a h2 k hk
    · have e := PySem.W.mcComb_at (a := (a : Int)) (b := (k : Int)) (by omega) (by omega) (m := (k : Int)) (by omega)
      rw [e]
      have t : ((k : Int)).toNat = k := by omega
      rw [t, fall_chs a k, fall_chs k k, chs_self]
      have := fct_pos k
      rw [show (((1 : Nat)) : Int) = 1 from rfl, Int.one_mul]
      exact Int.mul_ediv_cancel _ (by omega)
  · rw [PySem.W.mcComb_above (by omega), chs_big a k (by omega)]
    rfl
theorem chs_pow : ∀ (a k : Nat), chs a k ≤ a ^ k
  | a, 0 => by rw [chs_zero]; simp
  | a, k + 1 => by
    by_cases h : a < k
    · rw [chs_big a (k + 1) (by omega)]
      exact Nat.zero_le _
    have ih := chs_pow a k
    have e := chs_step a k
    have h1 : ((a : Int) - (k : Int)) = ((a - k : Nat) : Int) := by omega
    rw [h1] at e
    have e2 : (k + 1) * chs a (k + 1) = (a - k) * chs a k := by
      have : (((k + 1) * chs a (k + 1) : Nat) : Int) = (((a - k) * chs a k : Nat) : Int) := by
        push_cast
        push_cast at e
        exact e
      exact Int.ofNat_inj.mp this
    have h2 : (a - k) * chs a k ≤ a * a ^ k := Nat.mul_le_mul (by omega) ih
    have h3 : 1 * chs a (k + 1) ≤ (k + 1) * chs a (k + 1) := Nat.mul_le_mul_right _ (by omega)
    rw [Nat.pow_succ, Nat.mul_comm]
    omega
theorem chs_lt {a k n : Nat} (ha : a < 2 ^ n) (hk : k ≤ 5) : chs a k < 2 ^ (n * 5 + 1) := by
  have h1 := chs_pow a k
  have h2 : a ^ k ≤ (2 ^ n) ^ k := Nat.pow_le_pow_left (by omega) k
  rw [← Nat.pow_mul] at h2
  have h3 := Nat.pow_le_pow_right (show 0 < 2 by decide) (Nat.mul_le_mul_left n hk)
  have h4 : 2 ^ (n * 5 + 1) = 2 ^ (n * 5) + 2 ^ (n * 5) := by rw [Nat.pow_succ]; omega
  have := Nat.two_pow_pos (n * 5)
  omega
theorem chs_posG {a k : Nat} (h : k ≤ a) : 0 < chs a k := by
  have g : ∀ (a k : Nat), k ≤ a → 0 < chs a k := by
    intro a
    induction a with
    | zero =>
      intro k h
      have : k = 0 := by omega
      subst this
      decide
    | succ a ih =>
      intro k h
      cases k with
      | zero => rw [chs_zero]; decide
      | succ k =>
        have := ih k (by omega)
        show 0 < chs a k + chs a (k + 1)
        omega
  exact g a k h

/-! sums of products of ways to choose -/
/-- f 0 + .. + f (m - 1) -/
def Zs' (m : Nat) (f : Nat → Int) : Int := ((List.range m).map f).sum
theorem Zs_zero (f : Nat → Int) : Zs' 0 f = 0 := rfl
theorem Zs_succ (m : Nat) (f : Nat → Int) : Zs' (m + 1) f = Zs' m f + f m := by
  unfold Zs'
  rw [List.range_succ, List.map_append, List.sum_append]
  simp only [List.map_cons, List.map_nil, List.sum_cons, List.sum_nil]
  omega
theorem Zs_first : ∀ (m : Nat) (f : Nat → Int), Zs' (m + 1) f = f 0 + Zs' m fun k => f (k + 1)
  | 0, f => by rw [Zs_succ, Zs_zero, Zs_zero]; omega
  | m + 1, f => by rw [Zs_succ, Zs_first m f, Zs_succ m]; omega
theorem Zs_congr {m : Nat} {f g : Nat → Int} (h : ∀ k < m, f k = g k) : Zs' m f = Zs' m g := by
  induction m with
  | zero => rfl
  | succ m ih => rw [Zs_succ, Zs_succ, ih fun k hk => h k (by omega), h m (by omega)]
theorem Zs_add (f g : Nat → Int) : ∀ m : Nat, Zs' m (fun k => f k + g k) = Zs' m f + Zs' m g
  | 0 => rfl
  | m + 1 => by rw [Zs_succ, Zs_succ, Zs_succ, Zs_add f g m]; omega
theorem Zs_mul (c : Int) (f : Nat → Int) : ∀ m : Nat, Zs' m (fun k => c * f k) = c * Zs' m f
  | 0 => by rw [Zs_zero, Zs_zero, Int.mul_zero]
  | m + 1 => by rw [Zs_succ, Zs_succ, Zs_mul c f m, Int.mul_add]
/-- the ways to choose d of y and r things, by how many are of the y -/
def vd (y r d : Nat) : Int := Zs' (d + 1) fun k => ((chs y k : Nat) : Int) * ((chs r (d - k) : Nat) : Int)
theorem vd_zero (y r : Nat) : vd y r 0 = 1 := by
  unfold vd
  rw [Zs_succ, Zs_zero, chs_zero, chs_zero]
  rfl
theorem vd_none (r d : Nat) : vd 0 r d = ((chs r d : Nat) : Int) := by
  unfold vd
  rw [Zs_first]
  have e : Zs' d (fun k => ((chs 0 (k + 1) : Nat) : Int) * ((chs r (d - (k + 1)) : Nat) : Int)) = Zs' d (fun k => 0 * ((chs r (d - (k + 1)) : Nat) : Int)) := Zs_congr fun k _ => rfl
  rw [e, Zs_mul, chs_zero]
  simp
theorem vd_step (y r d : Nat) : vd (y + 1) r (d + 1) = vd y r (d + 1) + vd y r d := by
  unfold vd
  rw [Zs_first, Zs_first (d + 1) fun k => ((chs y k : Nat) : Int) * ((chs r (d + 1 - k) : Nat) : Int)]
  have e : Zs' (d + 1) (fun k => ((chs (y + 1) (k + 1) : Nat) : Int) * ((chs r (d + 1 - (k + 1)) : Nat) : Int)) =
      Zs' (d + 1) (fun k => ((chs y (k + 1) : Nat) : Int) * ((chs r (d + 1 - (k + 1)) : Nat) : Int) + ((chs y k : Nat) : Int) * ((chs r (d - k) : Nat) : Int)) := by
    apply Zs_congr
    intro k _
    have h1 : chs (y + 1) (k + 1) = chs y k + chs y (k + 1) := rfl
    have h2 : d + 1 - (k + 1) = d - k := by omega
    rw [h1, h2, Int.natCast_add, Int.add_mul]
    omega
  rw [e, Zs_add, chs_zero, chs_zero]
  omega
theorem vandermonde : ∀ (y r d : Nat), vd y r d = ((chs (y + r) d : Nat) : Int)
  | 0, r, d => by rw [vd_none, Nat.zero_add]
  | y + 1, r, 0 => by rw [vd_zero, chs_zero]; rfl
  | y + 1, r, d + 1 => by
    rw [vd_step, vandermonde y r (d + 1), vandermonde y r d]
    have e : y + 1 + r = y + r + 1 := by omega
    have h1 : chs (y + r + 1) (d + 1) = chs (y + r) d + chs (y + r) (d + 1) := rfl
    rw [e, h1, Int.natCast_add]
    omega
theorem fall_add (a : Int) (j : Nat) : ∀ i : Nat, Builtin.Math.fallingProduct a (j + i) = Builtin.Math.fallingProduct a j * Builtin.Math.fallingProduct (a - (j : Int)) i
  | 0 => by rw [PySem.W.mc_fp_zero, Nat.add_zero, Int.mul_one]
  | i + 1 => by
    rw [show j + (i + 1) = (j + i) + 1 from rfl, PySem.W.mc_fp_succ, PySem.W.mc_fp_succ, fall_add a j i, Int.mul_assoc]
    congr 2
    omega
/-- choosing k of a, then j of these: choosing j of a, then the others -/
theorem revise {a k j : Nat} (hj : j ≤ k) : ((chs a k : Nat) : Int) * ((chs k j : Nat) : Int) = ((chs a j : Nat) : Int) * ((chs (a - j) (k - j) : Nat) : Int) := by
  by_cases ha : j ≤ a
  · have e1 := fall_chs a k
    have e2 := fall_chs a j
    have e3 := fall_chs (a - j) (k - j)
    have e4 := fall_chs k j
    have e5 := fall_chs (k - j) (k - j)
    have e6 := fall_chs k k
    rw [chs_self] at e5 e6
    have s1 := fall_add (a : Int) j (k - j)
    have s2 := fall_add (k : Int) j (k - j)
    rw [show j + (k - j) = k by omega] at s1 s2
    have c1 : (a : Int) - (j : Int) = ((a - j : Nat) : Int) := by omega
    have c2 : (k : Int) - (j : Int) = ((k - j : Nat) : Int) := by omega
    rw [c1] at s1
    rw [c2] at s2
    rw [e1, e2, e3] at s1
    rw [e6, e4, e5] at s2
    have p1 := fct_pos j
    have p2 := fct_pos (k - j)
    have one : (((1 : Nat)) : Int) = 1 := rfl
    rw [one] at s2
    generalize ((chs a k : Nat) : Int) = x at *
    generalize ((chs k j : Nat) : Int) = y at *
    generalize ((chs a j : Nat) : Int) = z at *
    generalize ((chs (a - j) (k - j) : Nat) : Int) = u at *
    generalize fct k = f at *
    generalize fct j = g at *
    generalize fct (k - j) = h at *
    have key : x * y * (g * h) = z * u * (g * h) := by
      have a1 : x * y * (g * h) = x * (y * g * (1 * h)) := by grind
      rw [a1, ← s2]
      have a2 : x * (1 * f) = x * f := by rw [Int.one_mul]
      rw [a2, s1]
      grind
    exact Int.eq_of_mul_eq_mul_right (Int.ne_of_gt (Int.mul_pos p1 p2)) key
  · rw [chs_big a k (by omega), chs_big a j (by omega)]
    simp
/-- the mean of the ways to choose j of the yes among d draws -/
theorem moment {y r d j : Nat} (hj : j ≤ d) : (Zs' (d + 1) fun k => ((chs y k : Nat) : Int) * ((chs r (d - k) : Nat) : Int) * ((chs k j : Nat) : Int)) = ((chs y j : Nat) : Int) * (if j ≤ y then ((chs (y - j + r) (d - j) : Nat) : Int) else 0) := by
  obtain ⟨e, rfl⟩ : ∃ e, d = j + e := ⟨d - j, by omega⟩
  have split : ∀ (j : Nat) (f : Nat → Int), Zs' (j + e + 1) f = Zs' j f + Zs' (e + 1) fun k => f (j + k) := by
    intro j f
    clear hj
    induction e with
    | zero => rw [Zs_succ, Zs_succ, Zs_zero]; simp
    | succ e ih => rw [show j + (e + 1) + 1 = (j + e + 1) + 1 from rfl, Zs_succ, ih, Zs_succ (e + 1)]; simp only [Nat.add_assoc]; omega
  rw [split]
  have z : Zs' j (fun k => ((chs y k : Nat) : Int) * ((chs r (j + e - k) : Nat) : Int) * ((chs k j : Nat) : Int)) = Zs' j (fun k => 0 * ((chs y k : Nat) : Int)) := by
    apply Zs_congr
    intro k hk
    rw [chs_big k j hk]
    simp
  rw [z, Zs_mul, Int.zero_mul, Int.zero_add]
  have t : Zs' (e + 1) (fun k => ((chs y (j + k) : Nat) : Int) * ((chs r (j + e - (j + k)) : Nat) : Int) * ((chs (j + k) j : Nat) : Int)) =
      Zs' (e + 1) (fun k => ((chs y j : Nat) : Int) * (((chs (y - j) k : Nat) : Int) * ((chs r (e - k) : Nat) : Int))) := by
    apply Zs_congr
    intro k _
    have h := revise (a := y) (k := j + k) (j := j) (by omega)
    have e1 : j + k - j = k := by omega
    have e2 : j + e - (j + k) = e - k := by omega
    rw [e1] at h
    rw [e2]
    calc _ = ((chs y (j + k) : Nat) : Int) * ((chs (j + k) j : Nat) : Int) * ((chs r (e - k) : Nat) : Int) := by grind
      _ = _ := by rw [h]; grind
  rw [t, Zs_mul]
  have e3 : j + e - j = e := by omega
  rw [e3]
  by_cases hy : j ≤ y
  · rw [if_pos hy]
    have := vandermonde (y - j) r e
    unfold vd at this
    rw [this]
  · rw [if_neg hy, chs_big y j (by omega)]
    simp

/-! slices of tuples; lists told by an own notion under changes of one list -/
def rSlAN (K : PySem.W.Frag) : V → Option Int → Option Int → Hp → VK → Prop := fun x lo hi H Q => ∃ a xs, x = .ref a ∧ SqT K H a xs ∧ ∀ p H', Ex H H' → SqT K H' p (cutV xs lo hi) → Q (.ref p) H'
theorem sl_tupAN {X : Cx} {K : PySem.W.Frag} (h : X.K = K := by rfl) : L2.SlR X (rSlAN K) := by
  subst h
  refine SlR.imp sl_tupA fun x lo hi H Q ⟨a, xs, e, hS, n⟩ => ⟨a, xs, e, hS, fun w => ?_, fun _ p hp => n p _ (Ex.new hp) (.of upd_same)⟩
  refine n a H (Ex.refl H) ?_
  unfold cutV
  rw [w.1, w.2]
  simpa using hS
theorem cut_take (xs : List V) (n : Nat) : cutV xs none (some (n : Int)) = xs.take n := by
  unfold cutV
  rw [HT.sIx_none, HT.sIx_nat, List.drop_zero, Nat.sub_zero]
  by_cases h : n ≤ xs.length
  · rw [Nat.min_eq_left h]
  · rw [Nat.min_eq_right (by omega), List.take_length, List.take_of_length_le (by omega)]
theorem cut_drop (xs : List V) (n : Nat) : cutV xs (some (n : Int)) none = xs.drop n := by
  unfold cutV
  rw [HT.sIx_none, HT.sIx_nat]
  by_cases h : n ≤ xs.length
  · rw [Nat.min_eq_left h, List.take_of_length_le (by rw [List.length_drop]; omega)]
  · rw [Nat.min_eq_right (by omega), List.drop_eq_nil_of_le (Nat.le_refl _), List.drop_eq_nil_of_le (by omega)]
    simp

/-! ## exceptions of own classes, defs that let them out, a lambda tried -/
section
variable {X : Cx}
/-- an own class of exceptions called without anything -/
theorem pmk_own0 {C : Addr} {bmB : List Value} {B nId iId : String} {x : Str} {p pos : Pos}
    (facts : ExcBaseFacts B nId iId bmB) (cls : PySem.W.excIn X.K C bmB nId = true) (raisable : Raises X (.ref C))
    (kept : PySem.W.keepIn X.K (.ref C) = true) (isC : X.mg x = some (.ref C)) (gl : Gl X x := by rfl) (nd : (x == ("__debug__" : Str)) = false := by decide) :
    PMk X (.Call (.Name x p) [] [] pos) (fun _ H Q => Q (.ref C) none H) := by
  intro pins s σ H Q I q
  refine wpAny_Call_Name_kw (ld_glob I gl isC ?_ nd)
  refine PySem.W.callWith_K0 I.kIn kept ?_
  obtain ⟨_, _, _, _, _, _, _, _, _, _, _, _, _, _, _, _, _, hC, hN, hni, T⟩ := exc_obj I.kIn cls
  refine wpAny_call_exc_subT facts T hC hN hni (fun h' e made => ?_) (Nat.zero_le _)
  exact mk_of I made raisable q (I.hok.gone made.new)
end
/-- what is known of an own class over ArithmeticError that has no __init__ of its own -/
structure ExcA (K : PySem.W.Frag) (C : Addr) : Prop where
  cls : PySem.W.excIn K C [.type "ArithmeticError", .type "Exception", .type "BaseException", .type "object"] "ArithmeticError.__new__" = true
  sub : PySem.W.subIn K (.ref C) (.type "BaseException") = some true
  typ : PySem.W.typeIn K (.ref C) = some (.type "type")
  kept : PySem.W.keepIn K (.ref C) = true
  own : PySem.W.exmOne K (.ref C) (.ref C) = some true
/-- raise X() -/
theorem ps_raise0 {X : Cx} {W : WX} {C : Addr} {x : Str} {p pos pos' : Pos} (calm : X.calm = true) (tk : Takes X W) (F : ExcA X.K C) (isC : X.mg x = some (.ref C)) (gl : Gl X x := by rfl) (nd : (x == ("__debug__" : Str)) = false := by decide) :
    PS X (.Raise (some (.Call (.Name x p) [] [] pos)) none pos') (fun _ σ H => W (.ref C) none σ H) :=
  ps_raise calm tk (pmk_own0 PySem.F.excBase_ArithmeticError F.cls (raises_own F.sub F.typ) F.kept isC gl nd)
/-- the global x is a def that keeps sp, and may raise -/
def HasX (P : Program) (w : World) (K : PySem.W.Frag) (mg : Str → Option Value) (base : Heap) (x : Str) (k : Nat) (ps : List Str) (sp : Sp) : Prop :=
  ∃ f fd, FnOk P w K mg base (L2.CX P w) k f fd ps sp ∧ mg x = some (.ref f) ∧ PySem.W.keepIn K (.ref f) = true ∧ Binds K fd ps []
def HasXW (P : Program) (w : World) (K : PySem.W.Frag) (mg : Str → Option Value) (base : Heap) (x : Str) (k : Nat) (ps : List Str) (sp : Sp) (ks : List Str) (ix : List Nat) : Prop :=
  ∃ f fd, FnOk P w K mg base (L2.CX P w) k f fd ps sp ∧ mg x = some (.ref f) ∧ PySem.W.keepIn K (.ref f) = true ∧ KwOk fd ps ks ix
theorem HasX.of {P : Program} {w : World} {K : PySem.W.Frag} {mg : Str → Option Value} {base : Heap} {x : Str} {st : Stmt} {ps : List Str} {k : Nat} {sp : Sp} (D : Df K mg x st ps)
    (h : ∀ f fd, Fun K x x st f fd → FnOk P w K mg base (L2.CX P w) k f fd ps sp) : HasX P w K mg base x k ps sp := by
  obtain ⟨f, fd, F, hm, hb⟩ := D
  exact ⟨f, fd, h f fd F, hm, F.kp, hb⟩
theorem HasXW.of {P : Program} {w : World} {K : PySem.W.Frag} {mg : Str → Option Value} {base : Heap} {x : Str} {st : Stmt} {ps ks : List Str} {ix : List Nat} {k : Nat} {sp : Sp} (D : DfW K mg x st ps ks ix)
    (h : ∀ f fd, Fun K x x st f fd → FnOk P w K mg base (L2.CX P w) k f fd ps sp) : HasXW P w K mg base x k ps sp ks ix := by
  obtain ⟨f, fd, F, hm, hb⟩ := D
  exact ⟨f, fd, h f fd F, hm, F.kp, hb⟩
section
variable {X : Cx}
def tFX (sp : Sp) (E : XK) (t : TA) : TE := fun σ H Q => t σ H fun vs H1 => sp vs H1 Q E
def tWX (sp : Sp) (E : XK) (m : Nat) (ix : List Nat) (tk : TA) : TE := fun σ H Q => tk σ H fun zs H1 => zs.length = m ∧ sp (arr ix zs) H1 Q E
abbrev offE (E : XK) : WX := fun cls d _ H => E cls d H
theorem pe_hasX {x : Str} {k : Nat} {ps : List Str} {sp : Sp} {E : XK} {p pos : Pos} {e : Expr} {es : List Expr} {t : TA}
    (h : HasX X.prog X.w X.K X.mg X.base x k ps sp) (tk : Takes X (offE E)) (hr : Room k X.A) (ha : PA X (e :: es) t) (hg : Gl X x := by rfl)
    (hdb : (x == ("__debug__" : Str)) = false := by decide)
    (he : starEach (e :: es) X.env = (false, eval e X.env) :: starEach es X.env := by rfl)
    (hpl : (backTo pos (starEach es X.env)).any (·.1) = false := by rfl) :
    PE X (.Call (.Name x p) (e :: es) [] pos) (tFX sp E t) := by
  obtain ⟨f, fd, F, hm, hk, hb⟩ := h
  have q := pe_call (X := X) (p := p) (pos := pos) F hr hg hm hk hb .nil (passes_call tk fun _ _ _ _ z => z) ha hdb he hpl
  refine ⟨fun pins s σ H Q I hq => q.run pins s σ H Q I ?_⟩
  show t σ H fun vs H1 => sp (vs ++ []) H1 Q E
  simp only [List.append_nil]
  exact hq
theorem pe_hasXW {x : Str} {k : Nat} {ps ks : List Str} {ix : List Nat} {sp : Sp} {E : XK} {p pos : Pos} {kws : List Keyword} {ta : TA}
    (h : HasXW X.prog X.w X.K X.mg X.base x k ps sp ks ix) (tk : Takes X (offE E)) (hr : Room k X.A) (hkw : PK X kws ta) (hg : Gl X x := by rfl)
    (hdb : (x == ("__debug__" : Str)) = false := by decide)
    (hall : (backToKw pos (keywordEach kws X.env)).all (·.1.isSome) = true := by rfl) (hks : (backToKw pos (keywordEach kws X.env)).filterMap (·.1) = ks := by rfl)
    (hpl : ((backTo pos (starEach [] X.env)).any (·.1) || (backToKw pos (keywordEach kws X.env)).any (·.1.isNone)) = false := by rfl) :
    PE X (.Call (.Name x p) [] kws pos) (tWX sp E ks.length ix ta) := by
  obtain ⟨f, fd, F, hm, hk, hb⟩ := h
  refine ⟨fun pins s σ H Q I h => ?_⟩
  apply wpAny_Call_Name_kw (ld_glob I hg hm ?_ hdb)
  apply PySem.W.callWith_KW0 (h₀ := X.base) I.ok.mod.kin hk hall ?_ hpl
  refine thn (hkw.run pos pins s σ H _ I h) fun ws s2 ⟨zs, H2, I2, rz, l, hsp⟩ => ⟨I2.kIn, ?_⟩
  rw [hks]
  have r2 := arr_vals rz ix
  have bnd := hb s2 ws (by rw [← rz.length]; exact l)
  refine wpAny_call (codeAny_mono (F.run X.A X.stack s2 H2 ⟨[], ks.zip ws⟩ (arr ix ws) (arr ix zs) Q E hr I2.env0 bnd r2 hsp) fun r s' hc => ?_)
  cases r with
  | error er => exact passes_call tk (fun _ _ _ _ z => z) pins σ H2 s2 er s' I2 hc
  | ok fl =>
    cases fl with
    | ret u => exact I2.after hc
    | next => exact hc.elim
    | brk => exact hc.elim
    | cont => exact hc.elim
/-- what leaves a def's body -/
theorem takes_def {P : Program} {w : World} {K : PySem.W.Frag} {mg : Str → Option Value} {base : Heap} {N : List Str} {q : Str} {sc : Scope} {f : Addr} {cd : Value} {A : Around} {outer : List Env} {s : Shared} {H : Hp} {E : XK} :
    Takes (cxOf (L2.CX P w) P w K mg base N q sc f cd A outer s H E) (offE E) :=
  takes_of rfl rfl rfl rfl
theorem takes_lam {A : Around} {outer : List Env} {s : Shared} {H : Hp} {E : XK} {scope : Scope} {f c' : Addr} :
    Takes (LamX.lamCx X A outer s H E scope f c') (offE E) :=
  takes_of rfl rfl rfl rfl
end
/-! ### a lambda tried by a def of the law -/
/-- what such a def makes of the lambda: its value, or None where it raises an exception of the class -/
def TTnone (K : PySem.W.Frag) (CN : Addr) : (XK → Hp → VK → Prop) → Hp → VK → Prop := fun tl H Q =>
  tl (fun cls _ H' => PySem.W.exmOne K cls (.ref CN) = some true ∧ Q .non H') H Q
/-- the def x: try: return a() / except e: return None -/
structure Trier (K : PySem.W.Frag) (mg : Str → Option Value) (x a e : Str) (CN : Addr) (N : List Str) (st : Stmt) : Prop where
  df : Df K mg x st [a]
  sc : FnScope N [a] (defScope st)
  nm : N[0]? = some a
  start : ∀ f : Addr, (L2.start N [V.ref f])[0]? = some (some (V.ref f))
  vis : Vis (defScope st) a
  gl : (defScope st).names.lookup e = some .globalImplicit
  cls : mg e = some (.ref CN)
  ne : (e == ("__debug__" : Str)) = false
  na : (a == ("__debug__" : Str)) = false
  nc : (a == ("__classdict__" : Str)) = false
  body : ∃ (p1 p2 p3 p4 p5 p6 p7 p8 : Pos) (j : Nat), defBody st = [.Try [.Return (some (.Call (.Name a p1) [] [] p2)) p3] [.ExceptHandler (some (.Name e p4)) none [.Return (some (.Constant .none j p5)) p6] p7] [] [] p8]
theorem told_none {X : Cx} {N : List Str} {x a e q : Str} {sg : Scope} {g CN : Addr} {cdg : Value} {j : Nat} {p1 p2 p3 p4 p5 p6 p7 p8 : Pos}
    (start0 : ∀ f : Addr, (L2.start N [V.ref f])[0]? = some (some (V.ref f))) (isGl : sg.names.lookup e = some .globalImplicit) (isC : X.mg e = some (.ref CN)) (nd : (e == ("__debug__" : Str)) = false) :
    LamX.GivesTo X N x sg g cdg [.Try [.Return (some (.Call (.Name a p1) [] [] p2)) p3] [.ExceptHandler (some (.Name e p4)) none [.Return (some (.Constant .none j p5)) p6] p7] [] [] p8] a q (TTnone X.K CN) := by
  intro f c' s H Q tl run code goal
  have glob : Gl (cxOf C8.CX0 X.prog X.w X.K X.mg X.base N x sg g cdg X.A X.stack s H C8.E0).nox e := isGl
  let tbody : WX → TS := fun W D σ G => ∃ Er : XK, (∀ cls d σ' G', Er cls d G' → W cls d σ' G') ∧ σ[0]? = some (some (.ref f)) ∧ G c' = some (LamX.CodeO c' q) ∧ tl Er G D.rt
  have first : ∀ (W : WX) (pn : List (Addr × Obj)) (xe : Value → Shared → Prop), Takes ((cxOf C8.CX0 X.prog X.w X.K X.mg X.base N x sg g cdg X.A X.stack s H C8.E0).nox.tr pn xe) W →
      PSs ((cxOf C8.CX0 X.prog X.w X.K X.mg X.base N x sg g cdg X.A X.stack s H C8.E0).nox.tr pn xe) [.Return (some (.Call (.Name a p1) [] [] p2)) p3] (tbody W) := by
    intro W pn xe tk
    refine ⟨fun pins s' σ G D I ⟨Er, h0, h1, h2, h3⟩ => ?_⟩
    exact (pss_one (ps_ret (pos := p3) (run W pn xe Er p1 p2 tk h0))).run pins s' σ G D I ⟨h1, h2, h3⟩
  refine ⟨_, pss_one (ps_try_only (X := (cxOf C8.CX0 X.prog X.w X.K X.mg X.base N x sg g cdg X.A X.stack s H C8.E0).nox) (c := .ref CN) (tb := tbody)
    rfl rfl ⟨glob, nd, .inl isC⟩ LamX.takes0 (fun W pn xe tk _ => first W pn xe tk) (fun _ _ _ _ _ _ _ => pss_one (ps_ret pe_non))), ?_⟩
  refine ⟨fun cls _ G => PySem.W.exmOne X.K cls (.ref CN) = some true ∧ Q .non G, ?_, start0 f, code, goal⟩
  rintro cls d σ' G ⟨h1, h2⟩
  exact ⟨true, h1, fun _ _ _ => h2, fun z => nomatch z⟩
theorem pe_told {X : Cx} {x a e : Str} {CN c P : Addr} {N : List Str} {st : Stmt} {k : Nat} {params : Arguments} {body : Expr} {scope : Scope} {t : XK → TE} {p lpos pos : Pos}
    (Tr : Trier X.K X.mg x a e CN N st) (TB : LamX.TabB X.base X.mg c P) (hcode : X.env.code = .ref c) (hr : Room (k + 2) X.A)
    (hbody : ∀ (A : Around) (outer : List Env) (s : Shared) (H : Hp) (E : XK) (f c' : Addr), Room k (A.deeper (LamX.lamEnv X scope s.heap.objs.size f c')) → PE (LamX.lamCx X A outer s H E scope f c') body (t E))
    (hg : Gl X x := by rfl) (L : LamX.LamS X.env.scope scope := by exact LamX.lamS_by rfl) (hdef : defaultsOf params X.env = ([], []) := by rfl)
    (hbind : ∀ (q : Str) (cl : List (Str × Addr)) (pm cv ctv : Value), bindArgs (PySem.W.kla_fn "<lambda>" q params body scope cl pm cv ctv) ⟨[], []⟩ = pure [] := by intros; rfl)
    (hdb : (x == ("__debug__" : Str)) = false := by decide) :
    PE X (.Call (.Name x p) [.Lambda params body scope lpos] [] pos) (LamX.tLam [(P, X.env.qual ++ "<lambda>")] (TTnone X.K CN) t) := by
  obtain ⟨g, fd, F, hm, hb⟩ := Tr.df
  obtain ⟨oc, od, kV, doc, pm, an, cdv, ct, osl, rfl, look, hcd⟩ := F.ex
  obtain ⟨p1, p2, p3, p4, p5, p6, p7, p8, j, eb⟩ := Tr.body
  have gives := told_none (X := X) (N := N) (x := x) (a := a) (q := X.env.qual ++ "<lambda>") (g := g) (cdg := cdv) (j := j) (p1 := p1) (p2 := p2) (p3 := p3) (p4 := p4) (p5 := p5) (p6 := p6) (p7 := p7) (p8 := p8) Tr.start Tr.gl Tr.cls Tr.ne
  rw [← eb] at gives
  refine LamX.pe_lamcall (k := k) hg hm F.kp look hcd hb Tr.sc Tr.nm Tr.vis gives TB hcode (List.mem_singleton.mpr rfl) ?_ hr L hdef hbind hbody hdb Tr.na Tr.nc
  intro y hy _
  rw [List.mem_singleton.mp hy]

/-! ## the law's call where one def of the text makes lambdas -/
/-- the code object c of a maker, its table Pt empty at the start -/
structure Maker (K : PySem.W.Frag) (h : Heap) (c Pt : Addr) : Prop where
  code : PySem.W.CodeHd h c Pt
  none : K.lookup Pt = none
  empty : h.get? Pt = some { cls := .none, data := .fields #[] }
theorem law_callGT {P : Program} {w : World} {K : PySem.W.Frag} {mg mb : Str → Option Value} {k : Nat} {fa a c Pt : Addr} {fd : FuncData} {x : Str} {sp : Sp} {s : Shared} {vs : List Value} {ns : List Int}
    (inK : K.In s.heap) (gl : s.heap.Ns mainGlobals mg) (bl : s.heap.Ns builtinsNs mb)
    (bb : ∀ y : Str, y ≠ "__name__" → mb y = bootBuiltins y) (nolim : s.heap.NoLimit) (gens : s.gens = #[]) (M : Maker K s.heap c Pt)
    (mods : ∃ (bm : Addr) (ob : Obj), mg "__builtins__" = some (.ref bm) ∧ bm ≠ builtinsNs ∧ s.heap.get? bm = some ob ∧ ob.cls = .type "module" ∧ ob.dict = some builtinsNs ∧ ob.data = .plain)
    (obj : s.heap.get? a = some { cls := .type "list", data := .seq vs.toArray }) (ia : IntsAre vs ns) (short : ns.length ≤ sizeLine) (hrm : Room k callerA)
    (F : ∀ base : Heap, K.In base → base.Ns mainGlobals mg → LamX.TabB base mg c Pt → FnG P w K mg base k fa fd [x] sp)
    (bind : ∀ (s : Shared) (u : Value), BindsTo s fd ⟨[u], []⟩ [(x, u)])
    (hsp : ∀ H : Hp, H Pt = some (.tbl #[]) → SqL K H a (ns.map V.int) → sp [.ref a] H (fun v _ => v = .bl true) fun _ _ _ => False) :
    codeAny (model P w) callerA (.call (.ref fa) ⟨[.ref a], []⟩)
      (fun r s' => r = .ok (.ret (.bool true)) ∧ OldK s.heap s'.heap ∧ s'.os = s.os ∧ AllBare s'.gens) s := by
  have vals := vals_ints ia
  have many := ia.length
  have aP : a ≠ Pt := fun z => by
    have q := M.empty
    rw [← z, obj] at q
    have d2 : Data.seq vs.toArray _ = Data.fields #[] := congrArg Obj.data (Option.some.inj q)
    cases d2
  have main : ∀ H : Hp, H Pt = some (.tbl #[]) → (∀ b, H b = none ∨ b = Pt ∨ ∃ o xs, H b = some (.frz o (.lst xs))) → SqL K H a (ns.map V.int) → HOk P w H s.heap → (∀ b, H b ≠ none → b = a ∨ b = Pt) → (H a ≠ none → K.lookup a = none) →
      codeAny (model P w) callerA (.call (.ref fa) ⟨[.ref a], []⟩)
        (fun r s' => r = .ok (.ret (.bool true)) ∧ OldK s.heap s'.heap ∧ s'.os = s.os ∧ AllBare s'.gens) s := by
    intro H tab only script hok alone notK
    have untracked : ∀ {b : Addr} {o : Obj}, s.heap.get? b = some o → (∀ us n, o.data ≠ .seq us n) → o.data ≠ .fields #[] → H b = none := by
      intro b o e d1 d2
      cases q : H b with
      | none => rfl
      | some u =>
        rcases alone b (by rw [q]; simp) with rfl | rfl
        · rw [obj] at e
          cases e
          exact (d1 _ _ rfl).elim
        · rw [M.empty] at e
          cases e
          exact (d2 rfl).elim
    have nsOf : ∀ {b : Addr} {m : Str → Option Value}, s.heap.Ns b m → (hidT s.heap H).Ns b m := by
      intro b m ⟨o, es, ep, e, d, r⟩
      exact ⟨o, es, ep, hidT_get e (untracked e (fun us n z => by rw [d] at z; cases z) fun z => by rw [d] at z; cases z), d, r⟩
    have inB : K.In (hidT s.heap H) := by
      intro b o e
      refine hidT_get (inK b o e) ?_
      cases q : H b with
      | none => rfl
      | some u =>
        rcases alone b (by rw [q]; simp) with rfl | rfl
        · have z := notK (by rw [q]; simp)
          rw [z] at e
          cases e
        · rw [M.none] at e
          cases e
    have md : Mod K mg (hidT s.heap H) := by
      obtain ⟨mc, h1, h2⟩ := nolim
      exact ⟨inB, nsOf gl, ⟨mb, nsOf bl, bb⟩, ⟨mc, nsOf h1, h2⟩⟩
    have env0 : Env0 P w K mg (hidT s.heap H) callerA [] s H :=
      ⟨rfl, md, fun b o e => of_hidT e, Nat.le_of_eq (hidT_size _ _), trivial, fun b z => absurd (show b ∈ ([] : List Addr) from z) (by simp), hok, .of_eq gens⟩
    have tb : LamX.TabB (hidT s.heap H) mg c Pt := by
      refine ⟨?_, ?_, fun z => ?_⟩
      · obtain ⟨o, us, f1, f2, f3, f4, f5, f6, f7, e1, r1, r2, r3, rest⟩ := M.code
        refine ⟨o, us, f1, f2, f3, f4, f5, f6, f7, hidT_get e1 (untracked e1 (fun zs n z => ?_) fun z => ?_), r1, r2, r3, rest⟩
        · rw [r2] at z
          cases z
        · rw [r2] at z
          cases z
          simp at r3
      · obtain ⟨bm, ob, b1, b2, b3, b4, b5, b6⟩ := mods
        have ng : bm ≠ mainGlobals := by
          rintro rfl
          obtain ⟨o, es, ep, e, d, _⟩ := gl
          rw [e] at b3
          cases b3
          rw [d] at b6
          cases b6
        have np : bm ≠ Pt := by
          rintro rfl
          rw [M.empty] at b3
          cases b3
          cases b6
        exact ⟨bm, ob, b1, b2, ng, np, hidT_get b3 (untracked b3 (fun zs n z => by rw [b6] at z; cases z) fun z => by rw [b6] at z; cases z), b4, b5, b6⟩
      · obtain ⟨o, es, ep, e, d, _⟩ := gl
        rw [z, M.empty] at e
        cases e
        cases d
    have run := (F _ inB (nsOf gl) tb).run callerA [] s H ⟨[.ref a], []⟩ [.ref a] [.ref a] _ _ rfl hrm env0 (bind s (.ref a)) (.cons rfl .nil) (hsp H tab script)
    refine codeAny_mono run fun r s' h => ?_
    cases r with
    | error e => exact h.elim
    | ok fl =>
      cases fl with
      | next => exact h.elim
      | brk => exact h.elim
      | cont => exact h.elim
      | ret u =>
        obtain ⟨v, H', os, bare, un, hok2, rel, q⟩ := h
        have q2 : v = .bl true := q
        subst q2
        obtain rfl : u = Value.bool true := rel
        have stays : ∀ b o, b ≠ Pt → s.heap.get? b = some o → s'.heap.get? b = some o := by
          intro b o nb e
          cases q : H b with
          | none =>
            have nn : b ∉ frs ([] : List Env) := fun z => absurd (show b ∈ ([] : List Addr) from z) (by simp)
            exact un.keep b o e q nn (by simp)
          | some u =>
            rcases only b with z | z | ⟨ob, xs, z⟩
            · rw [q] at z
              cases z
            · exact absurd z nb
            · obtain ⟨e1, _⟩ := hok b _ z
              obtain ⟨e2, _⟩ := hok2 b _ (un.frzs b ob _ z)
              rw [e] at e1
              cases e1
              exact e2
        obtain ⟨more, ht⟩ := un.tbls Pt #[] tab
        have grown : s'.heap.get? Pt = some { cls := .none, data := .fields (#[] ++ more) } := hok2 Pt _ ht
        refine ⟨rfl, ⟨fun b o e => ?_, fun b o e => ?_⟩, os, bare⟩
        · by_cases nb : b = Pt
          · subst nb
            have e0 := M.empty
            rw [e0] at e
            cases e
            exact .inr (.inl ⟨(M.code.tab M.empty).isCodeTable, rfl, #[], more, rfl, grown⟩)
          · exact .inl (stays b o nb e)
        · by_cases nb : b = Pt
          · subst nb
            exact ⟨_, grown⟩
          · exact ⟨o, stays b o nb e⟩
  cases hk : K.lookup a with
  | some o =>
    have e := inK a o hk
    rw [obj] at e
    cases e
    refine main (fun b => if b = Pt then some (.tbl #[]) else none) (if_pos rfl) (fun b => ?_) (.inr ⟨_, vs.toArray, _, hk, rfl, rfl, rfl, ?_, ?_⟩) (fun b u z => ?_) (fun b z => ?_) fun z => absurd (if_neg aP) z
    · by_cases eb : b = Pt
      · exact .inr (.inl eb)
      · exact .inl (if_neg eb)
    · rw [List.size_toArray, many]
      exact short
    · simpa using vals
    · by_cases eb : b = Pt
      · have z2 := (if_pos eb).symm.trans z
        cases z2
        subst eb
        exact M.empty
      · have z2 := (if_neg eb).symm.trans z
        cases z2
    · by_cases eb : b = Pt
      · exact .inr eb
      · exact absurd (if_neg eb) z
  | none =>
    refine main (fun b => if b = a then some (.frz { cls := .type "list", data := .seq vs.toArray } (.lst (ns.map V.int))) else if b = Pt then some (.tbl #[]) else none)
      ((if_neg aP.symm).trans (if_pos rfl)) (fun b => ?_) (.inl (.inr ⟨{ cls := .type "list", data := .seq vs.toArray }, if_pos rfl⟩)) (fun b u z => ?_) (fun b z => ?_) fun _ => hk
    · by_cases eb : b = a
      · exact .inr (.inr ⟨_, _, if_pos eb⟩)
      · by_cases ec : b = Pt
        · exact .inr (.inl ec)
        · exact .inl ((if_neg eb).trans (if_neg ec))
    · by_cases eb : b = a
      · have z2 := (if_pos eb).symm.trans z
        cases z2
        subst eb
        exact ⟨obj, by rw [List.length_map]; exact short, vs, _, vals, obj⟩
      · have z2 := (if_neg eb).symm.trans z
        by_cases ec : b = Pt
        · have z3 := (if_pos ec).symm.trans z2
          cases z3
          subst ec
          exact M.empty
        · have z3 := (if_neg ec).symm.trans z2
          cases z3
    · by_cases eb : b = a
      · exact .inl eb
      · by_cases ec : b = Pt
        · exact .inr ec
        · exact absurd ((if_neg eb).trans (if_neg ec)) z
/-- the goal behind such a head -/
theorem walkGT {l : PySem.W.OpenLaw} {n k : Nat} {q : Program} {loose : List Str} {XP : (Str → Option Value) → Heap → Prop} {YP : World → Heap → Prop} {d : DefRec} {K : Params → PySem.W.Frag} {sp : PySem.W.Frag → Addr → Addr → Sp} {x : Str}
    (hn : l.most = some n) (hn2 : n ≤ sizeLine) (hdf : d.params.defaults = []) (hrm : Room k callerA)
    (hY : ∀ (w : World) (h : Heap), YP w h → (K w.params).In h)
    (F : ∀ (w : World) (mg : Str → Option Value) (fa : Addr) (h : Heap), YP w h → (K w.params).In h → h.Ns mainGlobals mg → mg d.name = some (.ref fa) →
      ∃ (c Pt : Addr) (fd : FuncData), Maker (K w.params) h c Pt ∧ (∀ (s : Shared) (u : Value), BindsTo s fd ⟨[u], []⟩ [(x, u)]) ∧
        ∀ base : Heap, (K w.params).In base → base.Ns mainGlobals mg → LamX.TabB base mg c Pt → FnG l.prog w (K w.params) mg base k fa fd [x] (sp (K w.params) c Pt))
    (hsp : ∀ (K : PySem.W.Frag) (c Pt : Addr) (H : Hp) (a : Addr) (ns : List Int), ns.length ≤ n → H Pt = some (.tbl #[]) → SqL K H a (ns.map V.int) → sp K c Pt [.ref a] H (fun v _ => v = .bl true) fun _ _ _ => False) :
    PySem.W.WalkO q loose XP YP l.row.toRowW d [] (fun f vs => PySem.call f vs) := by
  refine Att.attach_call hn hdf fun w s₀ s₁ mg mb fa o pm cd doc a vs ns G Y ho hd hcd hmg hobj hints hlen hg => ?_
  obtain ⟨c, Pt, fd, M, hb, hF⟩ := F w mg fa _ Y (hY w _ Y) G.T.g hmg
  exact law_callGT (hY w _ Y) G.T.g G.T.b G.T.builtins G.T.nolimit hg M G.T.bmain hobj hints (Nat.le_trans hlen hn2) hrm hF hb fun H hT hS => hsp _ _ _ H a ns hlen hT hS

/-! ## a def of the law that makes lambdas: its own code object is c -/
structure FunC (K : PySem.W.Frag) (x qual : Str) (st : Stmt) (f : Addr) (fd : FuncData) (c : Addr) : Prop where
  ex : ∃ (oc : Value) (od : Option Addr) (kV doc pm : Value) (an : Option Addr) (ct : Value) (osl : Array (Option Value)),
    fd = PySem.W.fnOf x qual (defArgs st) (defBody st) (defScope st) .none kV doc pm an (.ref c) ct ∧ K.lookup f = some ⟨oc, od, .func fd, osl⟩ ∧ PySem.W.codeIn K (.ref c) qual = true
  kp : PySem.W.keepIn K (.ref f) = true
def DfC (K : PySem.W.Frag) (mg : Str → Option Value) (x : Str) (st : Stmt) (ps : List Str) (c : Addr) : Prop :=
  ∃ f fd, FunC K x x st f fd c ∧ mg x = some (.ref f) ∧ Binds K fd ps []
section
variable {P : Program} {w : World} {K : PySem.W.Frag} {mg : Str → Option Value} {base : Heap}
theorem okGc {x qual : Str} {st : Stmt} {f c : Addr} {fd : FuncData} {N ps : List Str} {k : Nat} {sp : Sp}
    (F : FunC K x qual st f fd c) (S : FnScope N ps (defScope st))
    (hlen : ∀ vs H Q E, sp vs H Q E → vs.length = ps.length)
    (hb : ∀ (A : Around) (outer : List Env) (s : Shared) (H : Hp) (vs : List V) (Q : VK) (E : XK),
      A.guards = some [] → Room k (A.deeper (envOfC qual (defScope st) s.heap.objs.size f (.ref c))) → sp vs H Q E →
      ∃ t, PSs (cxOf CX0 P w K mg base N qual (defScope st) f (.ref c) A outer s H E).nox (defBody st) t ∧
        t { nx := fun _ H' => Q .non H', rt := Q } (start N vs) H) :
    FnG P w K mg base (k + 1) f fd ps sp := by
  obtain ⟨oc, od, kV, doc, pm, an, ct, osl, rfl, look, hcode⟩ := F.ex
  constructor
  · exact hlen
  intro A outer s H args us vs Q E hgd hrm env0 hbinds rel hsp
  have hl := hlen _ _ _ _ hsp
  have inK : K.In s.heap := env0.mod.kin.keeps fun a o h => (env0.bs a o h).1
  have nolim : s.heap.NoLimit := env0.mod.nolimit.keeps fun a o h => (env0.bs a o h).1
  have kinds : ∀ y ∈ ps.zip us, (defScope st).names.lookup y.1 = some .local ∨
      ((defScope st).names.lookup y.1 = some .cell ∧ ((cellsFrom (s.heap.objs.size + 1) (defScope st).names []).lookup y.1).isSome = true) := by
    intro ⟨n, v⟩ hy
    cases S.par n (List.of_mem_zip hy).1 with
    | inl q => exact .inl q
    | inr q => exact .inr ⟨q, PySem.W.cellsFrom_some _ _ _ (.inl q)⟩
  apply codeAny_call_function hrm.depth (inK _ _ look) rfl S.co S.gen rfl
    (PySem.W.codeRec_of inK hcode) (hbinds _ _ _ _ ?_)
  refine wpAny_newFunctionEnv_cells S.kind kinds fun env henv s1 ic => ?_
  subst henv
  refine ⟨nolim.keeps ic.toInCall.keep, codeAny_func ?_⟩
  obtain ⟨t, ht, hq⟩ := hb A outer s H vs Q E hgd (hrm.deeper _) hsp
  have I := inv_start (CX := CX0) (E := E) S hrm.hd env0 hl rel ic
  refine wpAny_mono (ht.nox.run [] s1 (start N vs) H _ I hq) (fun fl s' hs => ?_) fun _ _ hs => hs
  have done : ∀ {σ' : L2.St} {H' : Hp} {v : V} {u : Value},
      Inv (cxOf CX0 P w K mg base N qual (defScope st) f (.ref c) A outer s H E) [] σ' H' s' → RelV v u → Q v H' →
      CE outer P w H s Q u s' := fun J rv q => ⟨_, _, J.os, J.bare, J.base, J.hok, rv, q⟩
  cases fl with
  | ret u =>
    obtain ⟨v, σ', H', J, rv, q⟩ := hs
    exact done J rv q
  | next =>
    obtain ⟨σ', H', J, q⟩ := hs
    exact done (v := V.non) (u := Value.none) J rfl q
  | brk =>
    obtain ⟨_, _, _, q⟩ := hs
    exact q.elim
  | cont =>
    obtain ⟨_, _, _, q⟩ := hs
    exact q.elim
theorem HasG.ofC {x : Str} {st : Stmt} {ps : List Str} {c : Addr} {k : Nat} {sp : Sp} (D : DfC K mg x st ps c)
    (h : ∀ f fd, FunC K x x st f fd c → FnG P w K mg base k f fd ps sp) : HasG P w K mg base x k ps sp := by
  obtain ⟨f, fd, F, hm, hb⟩ := D
  exact ⟨f, fd, h f fd F, hm, F.kp, hb⟩
end
/-- one reading or the other -/
theorem OpR.either {X : Cx} {g : Value → Value → Sem Value} {r1 r2 : R2} (h1 : OpR X g r1) (h2 : OpR X g r2) : OpR X g (fun x y H Q => r1 x y H Q ∨ r2 x y H Q) :=
  fun pins s σ H x y v u Q I rx ry q => q.elim (h1 pins s σ H x y v u Q I rx ry) (h2 pins s σ H x y v u Q I rx ry)
/-! ### heaps whose tables may have grown -/
abbrev ExN (H H' : Hp) : Prop := LamX.ExtN H H'
theorem Ex.n {H H' : Hp} (e : Ex H H') : ExN H H' := LamX.ExtN.of e
theorem ExN.trans {H H1 H2 : Hp} (a : ExN H H1) (b : ExN H1 H2) : ExN H H2 := LamX.ExtN.trans a b
theorem ExN.refl (H : Hp) : ExN H H := LamX.ExtN.refl H
/-- all but lists and tables -/
def KpN (H H' : Hp) : Prop := ∀ a o, H a = some o → (∀ xs, o ≠ .lst xs) → (∀ ps, o ≠ .tbl ps) → H' a = some o
theorem Kp.n {H H' : Hp} (e : Kp H H') : KpN H H' := fun a o h n _ => e a o h n
theorem ExN.kn {H H' : Hp} (e : ExN H H') : KpN H H' := fun a o h _ n => e a o h n
theorem KpN.trans {H H1 H2 : Hp} (a : KpN H H1) (b : KpN H1 H2) : KpN H H2 := fun x o h n m => b x o (a x o h n m) n m
theorem KpN.refl (H : Hp) : KpN H H := fun _ _ h _ _ => h
theorem sqT_kn {K : PySem.W.Frag} {H H' : Hp} {a : Addr} {xs : List V} (h : SqT K H a xs) (e : KpN H H') : SqT K H' a xs := by
  rcases h with (h | ⟨o, h⟩) | h
  · exact .inl (.inl (e _ _ h (fun _ z => nomatch z) (fun _ z => nomatch z)))
  · exact .inl (.inr ⟨o, e _ _ h (fun _ z => nomatch z) (fun _ z => nomatch z)⟩)
  · exact .inr h
theorem sqL_en {K : PySem.W.Frag} {H H' : Hp} {a : Addr} {xs : List V} (h : SqL K H a xs) (e : ExN H H') : SqL K H' a xs := by
  rcases h with (h | ⟨o, h⟩) | h
  · exact .inl (.inl (e _ _ h (fun _ z => nomatch z)))
  · exact .inl (.inr ⟨o, e _ _ h (fun _ z => nomatch z)⟩)
  · exact .inr h
theorem ExN.lst {H H' : Hp} (e : ExN H H') {a : Addr} {xs : List V} (h : H a = some (.lst xs)) : H' a = some (.lst xs) := e _ _ h (fun _ z => nomatch z)
/-- all but the vat and the tables -/
structure Gn (v : Addr) (H H' : Hp) : Prop where
  old : VatAt H v
  keep : ∀ a o, a ≠ v → H a = some o → (∀ ps, o ≠ .tbl ps) → H' a = some o
  new : VatAt H' v
theorem VatAt.en {H H' : Hp} {v : Addr} (h : VatAt H v) (e : ExN H H') : VatAt H' v := by
  obtain ⟨a, b, c, h1, h2⟩ := h
  exact ⟨a, b, c, e.lst h1, h2⟩
theorem Gv.n {v : Addr} {H H' : Hp} (g : Gv v H H') : Gn v H H' := ⟨g.old, fun a o n h _ => g.keep a o n h, g.new⟩
theorem Gn.refl {v : Addr} {H : Hp} (h : VatAt H v) : Gn v H H := (Gv.refl h).n
theorem Gn.trans {v : Addr} {H H1 H2 : Hp} (a : Gn v H H1) (b : Gn v H1 H2) : Gn v H H2 :=
  ⟨a.old, fun x o n h m => b.keep x o n (a.keep x o n h m) m, b.new⟩
theorem Gn.en {v : Addr} {H H1 H2 : Hp} (a : Gn v H H1) (b : ExN H1 H2) : Gn v H H2 :=
  a.trans ⟨a.new, fun _ _ _ h m => b _ _ h m, a.new.en b⟩
theorem Gn.out {v : Addr} {H H1 H2 : Hp} (n : H v = none) (e : Ex H H1) (g : Gn v H1 H2) : ExN H H2 := fun a o h m =>
  g.keep a o (fun z => by rw [z, n] at h; cases h) (e a o h) m
theorem Gn.kn {v : Addr} {H H' : Hp} (g : Gn v H H') : KpN H H' := fun a o h n m => by
  refine g.keep a o (fun z => ?_) h m
  obtain ⟨x, y, w, h1, _⟩ := g.old
  rw [z, h1] at h
  exact n _ (Option.some.inj h).symm
/-- the list p is written, else nothing -/
theorem Gn.set {v p : Addr} {H H1 : Hp} {o : HO} (g : Gn v H H1) (n : H p = none) (pv : p ≠ v) : Gn v H (L2.upd H1 p o) := by
  refine ⟨g.old, fun a u ha h m => ?_, ?_⟩
  · rw [upd_ne (ne_of_none h n)]
    exact g.keep a u ha h m
  · obtain ⟨x, y, z, h1, h2⟩ := g.new
    exact ⟨x, y, z, by rw [upd_ne (Ne.symm pv)]; exact h1, h2⟩
/-! ### the table of lambdas, kept -/
abbrev Tb (Pt : Addr) (q : Str) (H : Hp) : Prop := LamX.Tabs [(Pt, q)] H
theorem Tb.ex {Pt : Addr} {q : Str} {H H' : Hp} (t : Tb Pt q H) (e : Ex H H') : Tb Pt q H' := LamX.Tabs.ext t e
/-- what keeps all but lists keeps the table -/
theorem Tb.kp {Pt : Addr} {q : Str} {H H' : Hp} (t : Tb Pt q H) (e : Kp H H') : Tb Pt q H' := by
  intro y hy
  obtain ⟨ps, h1, h2, h3⟩ := t y hy
  refine ⟨ps, e _ _ h1 (fun _ z => nomatch z), h2, fun pos cv hc => ?_⟩
  obtain ⟨c, e1, e2⟩ := h3 pos cv hc
  exact ⟨c, e1, e _ _ e2 (fun _ z => by unfold LamX.CodeO at z; cases z)⟩
theorem Tb.start {Pt : Addr} {q : Str} {H : Hp} (h : H Pt = some (.tbl #[])) : Tb Pt q H := by
  intro y hy
  rw [List.mem_singleton.mp hy]
  exact LamX.TabS.nil h

/-! ## a comprehension of truths whose items make lambdas -/
section
variable {te : TE} {vs : List Nat} {σ : L2.St} {H1 : Hp} {Dd Pt : Addr} {q : Str} {Q : VK}
def LcN (Pt : Addr) (q : Str) (H1 : Hp) (Dd : Addr) (i : Nat) (H : Hp) : Prop :=
  ∃ acc : List V, H Dd = some (.lst acc) ∧ acc.length = i ∧ ExN H1 H ∧ Tb Pt q H ∧ ∀ y ∈ acc, y = .bl true
theorem lcN_turn (hD : H1 Dd = none) {i : Nat} {H H4 : Hp} {y : V} (p : LcN Pt q H1 Dd i H) (e : ExN H H4) (t : Tb Pt q H4) (r : y = .bl true) (hi : i < 1000000) :
    ∃ acc, H4 Dd = some (.lst acc) ∧ acc.length < sizeLine ∧ LcN Pt q H1 Dd (i + 1) (upd H4 Dd (.lst (acc ++ [y]))) := by
  obtain ⟨acc, h1, h2, h3, h4, h5⟩ := p
  have d4 : H4 Dd = some (.lst acc) := e _ _ h1 (fun _ z => nomatch z)
  have k : Kp H4 (upd H4 Dd (.lst (acc ++ [y]))) := fun b o hb n => by
    rw [upd_ne]
    · exact hb
    · intro z
      rw [z, d4] at hb
      exact n _ (Option.some.inj hb).symm
  refine ⟨acc, d4, Nat.lt_of_lt_of_le (show acc.length < 1000000 by omega) (by decide), acc ++ [y], upd_same, by simp [h2], fun b o hb m => ?_, t.kp k, fun z hz => ?_⟩
  · rw [upd_ne (ne_of_none hb hD)]
    exact e _ _ (h3 _ _ hb m) m
  · rcases List.mem_append.mp hz with hz | hz
    · exact h5 z hz
    · rw [List.mem_singleton.mp hz]
      exact r
theorem lcRn {lo : Int} {n : Nat} {j : Nat} (hD : H1 Dd = none) (ht : Tb Pt q H1) (hz : n ≤ 100000)
    (hw : ∀ x, wipe ((wipe σ vs).set j (some x)) vs = wipe σ vs)
    (hs : ∀ (i : Nat) H, i < n → ExN H1 H → Tb Pt q H → tmE te ((wipe σ vs).set j (some (.int (lo + i)))) H fun y H4 => ExN H H4 ∧ Tb Pt q H4 ∧ y = .bl true)
    (hd : ∀ H, ExN H1 H → Tb Pt q H → H Dd = some (.lst (List.replicate n (.bl true))) → Q (.ref Dd) H) : LcW (Itr lo n) (gName j) tYes (tmE te) vs σ H1 Dd Q :=
  lc_range (LcN Pt q H1 Dd) ⟨[], upd_same, rfl, (Ex.new hD).n, ht.ex (Ex.new hD), fun y h => by simp at h⟩ (fun i H hi p => by
    obtain ⟨acc, q1, q2, q3, q4, q5⟩ := id p
    refine ⟨hw _, ?_⟩
    obtain ⟨R0, z1, z2⟩ := hs i H hi q3 q4
    exact ⟨R0, z1, fun y H4 r0 => lcN_turn hD p (z2 y H4 r0).1 (z2 y H4 r0).2.1 (z2 y H4 r0).2.2 (by omega)⟩)
    fun H ⟨acc, q1, q2, q3, q4, q5⟩ => hd H q3 q4 (by rw [q1, List.eq_replicate_of_mem (a := V.bl true) q5, q2])
end

local macro_rules | `(tactic| walk_at "rd") => `(tactic| try simp only [r_seq, r_asg, r_name, r_ifS, r_next, r_ret, r_retN, r_drop, r_test, r_B, r_if, r_cons, r_nil, r_cb, r_tF, r_part, r_nopart, r_sl, r_par, r_chain, r_or, r_and, r_not, r_orV, r_andV, r_notV, r_op, r_un, r_var, r_c, r_yes, r_I0, r_I, r_U, r_eqI, r_neI, r_eqS, r_neS, r_lst, r_tup, r_for, r_lc, r_list, r_tupI, r_rng1, r_rng2, r_enumT, r_bm, r_fld, r_subT, r_gtup, r_gcons, r_gnil, r_K0, r_K, r_Kb, wipe, r_never, r_len, r_sfld,
  L2.start, List.map_cons, List.map_nil, List.length_cons, List.length_nil, Nat.reduceAdd, Nat.reduceSub, List.reduceReplicate, List.cons_append, List.nil_append, List.set_cons_zero, List.set_cons_succ, List.getElem?_cons_zero, List.getElem?_cons_succ, Option.some.injEq, exists_eq_left', exists_eq_left, exists_eq_right, exists_eq_right', V.int.injEq, V.ref.injEq, V.bl.injEq, V.str.injEq, List.cons.injEq, and_true, true_and, and_false, false_and, or_false, false_or, exists_false, exists_const, and_assoc, reduceCtorEq, if_true, if_false, Bool.false_eq_true, Bool.not_true, Bool.not_false, Bool.not_eq_true', decide_eq_true_eq, decide_eq_false_iff_not, exists_and_left, exists_and_right, exists_eq_or_imp])
def top (i : Nat) : Stmt := PySem.Challenge.pw_drawnmore_k15_whole_rows_behind.main.body.getD i (.Pass ⟨0, 0, 0, 0⟩)
/-- the built-in names that the text does not bind -/
structure Bi (mg : Str → Option Value) : Prop where
  len : mg "len" = none
  abs : mg "abs" = none
  max : mg "max" = none
  min : mg "min" = none
  sum : mg "sum" = none
  range : mg "range" = none
  tuple : mg "tuple" = none
  int : mg "int" = none
  divmod : mg "divmod" = none
  all : mg "all" = none
  repr : mg "repr" = none
  isinstance : mg "isinstance" = none
  enumerate : mg "enumerate" = none
  bool : mg "bool" = none
  zip : mg "zip" = none
  str : mg "str" = none
  list : mg "list" = none
section
variable {P : Program} {w : World} {K : PySem.W.Frag} {mg : Str → Option Value} {base : Heap}
theorem Has.of {x : Str} {st : Stmt} {ps : List Str} {k : Nat} {sp : Sp} (D : Df K mg x st ps)
    (h : ∀ f fd, Fun K x x st f fd → FnOk P w K mg base CX0 k f fd ps sp) : Has P w K mg base x k ps sp := by
  obtain ⟨f, fd, F, hm, hb⟩ := D
  exact ⟨f, fd, h f fd F, hm, F.kp, hb⟩
theorem HasG.of {x : Str} {st : Stmt} {ps : List Str} {k : Nat} {sp : Sp} (D : Df K mg x st ps)
    (h : ∀ f fd, Fun K x x st f fd → FnG P w K mg base k f fd ps sp) : HasG P w K mg base x k ps sp := by
  obtain ⟨f, fd, F, hm, hb⟩ := D
  exact ⟨f, fd, h f fd F, hm, F.kp, hb⟩

/-! ### _law_vat -/
def spVat (K : PySem.W.Frag) : Sp := fun vs H Q _ => ∃ (a : Addr) (ns : List Int) (i : Int), vs = [.ref a, .int i] ∧ SqL K H a (ns.map V.int) ∧ ns.length ≤ 63 ∧ 0 ≤ i ∧ i < 100 ∧
  ∀ v H', H v = none → Ex H H' → VatAt H' v → Q (.ref v) H'
theorem scVat : FnScope ["script", "at", "figure", "seed", "each"] ["script", "at"] (defScope (top 41)) := ⟨rfl, rfl, rfl, by decide +kernel, rfl, by decide +kernel, by decide +kernel⟩
theorem has_vat (B : Bi mg) (D : Df K mg "_law_vat" (top 41) ["script", "at"]) : Has P w K mg base "_law_vat" 1 ["script", "at"] (spVat K) := by
  have sc := scVat
  refine .of D fun f fd F => F.ok sc (fun vs H Q E h => ?_) (fun cdv A outer s H vs Q E hr h => ?_)
  · obtain ⟨a, ns, i, rfl, _⟩ := h
    rfl
  · obtain ⟨a, ns, i, rfl, hS, hl, h0, h1, k⟩ := h
    refine ⟨_, (pss_cons (ps_set (i := 2) sc.nd rfl (by first | exact Or.inl rfl | exact Or.inr rfl) (PE.mon (pe_ifExp (pt_cmpR op_lt (pv 1) (pe_callB (kLen (K := K)) (by rfl) B.len (by decide +kernel) (pa_cons (pv 0) pa_nil)) (nomark _)) (pe_ix (ixL (K := K)) (pv 0) (pv 1) (fun _ _ => rfl)) (pe_op op_add (pe_op op_mulS pe_int (pv 1)) pe_int))))
      (pss_cons (ps_set (i := 3) sc.nd rfl (by first | exact Or.inl rfl | exact Or.inr rfl) (pe_op op_add pe_int (pe_op op_mulS pe_int (pv 1))))
      (pss_cons (ps_for PassesOwn.never rfl (pi_list (pe_op op_catN (pe_lstN (pa_cons (pv 2) pa_nil)) (pe_slice (slL (K := K)) (pv 0) po_none (po_some pe_int)))) (pg_name (i := 4) sc.nd rfl (by first | exact Or.inl rfl | exact Or.inr rfl))
      (pss_one (ps_set (i := 3) sc.nd rfl (by first | exact Or.inl rfl | exact Or.inr rfl) (pe_op op_mod (pe_callTy call_intN (by rfl) B.int (by decide +kernel) (pa_cons (pe_op op_add (pe_op op_mulS (pv 3) pe_int) (pv 4)) pa_nil)) pe_int))))
      (pss_one (ps_ret (pe_lstN (pa_cons (PE.mon (pe_ifExp (pt_cmpR op_ge (pe_callB call_abs (by rfl) B.abs (by decide +kernel) (pa_cons (pv 2) pa_nil)) (pe_op op_pow pe_int pe_int) (nomark _)) (pe_callB call_abs (by rfl) B.abs (by decide +kernel) (pa_cons (pv 2) pa_nil)) pe_int)) (pa_cons (pv 3) (pa_cons pe_int pa_nil))))))))), ?_⟩
    walk_at "rd"
    obtain ⟨R0, hR⟩ : ∃ R : VK, R = fun v H' => (∃ z : Int, v = .int z) ∧ H' = H := ⟨_, rfl⟩
    refine ⟨R0, ?_, ?_⟩
    · walk_at "rd"
      refine ⟨_, .inl hS, ?_⟩
      rw [List.length_map]
      split
      · rename_i hi
        obtain ⟨z, _, e⟩ := at_int h0 hi
        refine q_ixL hS e ?_
        rw [hR]
        exact ⟨⟨z, rfl⟩, rfl⟩
      · refine ⟨cmulL, ?_⟩
        rw [hR]
        exact ⟨⟨_, rfl⟩, rfl⟩
    intro x H' hx
    rw [hR] at hx
    obtain ⟨⟨z, rfl⟩, rfl⟩ := hx
    walk_at "rd"
    refine ⟨cmulL, by decide, fun p H1 n1 e1 t1 => ⟨a, _, rfl, sqL_ex hS e1, fun p2 H2 n2 e2 t2 => ?_⟩⟩
    have lc := cutV_length (ns.map V.int) none (some 6)
    rw [List.length_map] at lc
    refine ⟨p, p2, _, _, rfl, rfl, e2 _ _ t1, t2, sizeLine_le (by simp only [List.length_cons, List.length_nil]; omega), fun p3 H3 n3 e3 t3 => ⟨p3, rfl, ⟨_, .of t3⟩, ?_⟩⟩
    have e13 := (e1.trans e2).trans e3
    obtain ⟨Pv, hP⟩ : ∃ P : Nat → L2.St → Hp → Prop, P = fun j σ' G => G = H3 ∧ ∃ (s : Int) (t : Option V), σ' = [some (.ref a), some (.int i), some (.int z), some (.int s), t] ∧ 0 ≤ s ∧ s < 2147483323 := ⟨_, rfl⟩
    refine loopL (xs := _) Pv (by rw [hP]; exact ⟨rfl, _, _, rfl, by omega, by omega⟩) (fun j σ' G _ h => by rw [hP] at h; rw [h.1]; exact .of t3) ?_ ?_
    · intro j x σ' G hx h
      rw [hP] at h
      obtain ⟨rfl, s, t, rfl, s0, s1⟩ := h
      have hm := List.mem_of_getElem? hx
      have hx2 : ∃ y, x = .int y := by
        rcases List.mem_append.mp hm with q | q
        · rw [List.mem_singleton] at q
          exact ⟨z, q⟩
        · exact ints_cut q
      obtain ⟨y, rfl⟩ := hx2
      walk_at "rd"
      refine ⟨cmulR, by decide, ?_⟩
      rw [hP]
      exact ⟨rfl, _, _, rfl, Int.emod_nonneg _ (by decide), Int.emod_lt_of_pos _ (by decide)⟩
    · intro σ' G h
      rw [hP] at h
      obtain ⟨rfl, s, t, rfl, s0, s1⟩ := h
      walk_at "rd"
      obtain ⟨R1, hR1⟩ : ∃ R : VK, R = fun v H' => (∃ q : Int, v = .int q ∧ 0 ≤ q) ∧ H' = G := ⟨_, rfl⟩
      refine ⟨R1, ?_, ?_⟩
      · walk_at "rd"
        refine ⟨⟨by decide, by decide, by decide⟩, ?_⟩
        generalize hq : (if z < 0 then -z else z) = q
        have q0 : 0 ≤ q := by
          rw [← hq]
          split <;> omega
        rw [hR1]
        split
        · exact ⟨⟨_, rfl, q0⟩, rfl⟩
        · exact ⟨⟨_, rfl, by decide⟩, rfl⟩
      · intro v H' h
        rw [hR1] at h
        obtain ⟨⟨q, rfl, q0⟩, rfl⟩ := h
        walk_at "rd"
        exact ⟨by decide, fun v H4 n4 e4 t4 => k v H4 (e13.free n4) (e13.trans e4) ⟨q, s, 0, t4, q0, s0, s1, by decide⟩⟩

/-! ### _law_dip -/
def spDip : Sp := fun vs H Q _ => ∃ (v : Addr) (m : Int), vs = [.ref v, .int m] ∧ VatAt H v ∧ 0 < m ∧ m.natAbs.log2 < 9000 ∧
  ∀ r H', Gv v H H' → 0 ≤ r → r < m → Q (.int r) H'
theorem scDip : FnScope ["vat", "many", "digit"] ["vat", "many"] (defScope (top 42)) := ⟨rfl, rfl, rfl, by decide +kernel, rfl, by decide +kernel, by decide +kernel⟩
theorem has_dip (B : Bi mg) (D : Df K mg "_law_dip" (top 42) ["vat", "many"]) : Has P w K mg base "_law_dip" 1 ["vat", "many"] spDip := by
  have sc := scDip
  refine .of D fun f fd F => F.ok sc (fun vs H Q E h => ?_) (fun cdv A outer s H vs Q E hr h => ?_)
  · obtain ⟨v, m, rfl, _⟩ := h
    rfl
  · obtain ⟨v, m, rfl, hv, m0, m1, k⟩ := h
    obtain ⟨a, b, c, hl, a0, b0, b1, c0⟩ := id hv
    refine ⟨_, (pss_cons (ps_if (pt_cmpR op_gt (pe_ix (ixL (K := K)) (pv 0) pe_int (fun _ _ => rfl)) pe_int (nomark _)) (pss_cons (ps_asg (pe_callB call_divmodN (by rfl) B.divmod (by decide +kernel) (pa_cons (pe_ix (ixL (K := K)) (pv 0) pe_int (fun _ _ => rfl)) (pa_cons (pv 1) pa_nil))) (pg_tup rfl (pgs_cons (pg_sub (pv 0) pe_int set_list) (pgs_cons (pg_name (i := 2) sc.nd rfl (by first | exact Or.inl rfl | exact Or.inr rfl)) pgs_nil))))
      (pss_one (ps_ret (pv 2)))) pss_nil)
      (pss_cons (ps_asg (pe_op op_add (pe_ix (ixL (K := K)) (pv 0) pe_int (fun _ _ => rfl)) pe_int) (pg_sub (pv 0) pe_int set_list))
      (pss_cons (ps_asg (pe_op op_mod (pe_callTy call_intN (by rfl) B.int (by decide +kernel) (pa_cons (pe_op op_add (pe_op op_mulS (pe_ix (ixL (K := K)) (pv 0) pe_int (fun _ _ => rfl)) pe_int) (pe_op op_mulS pe_int (pe_ix (ixL (K := K)) (pv 0) pe_int (fun _ _ => rfl)))) pa_nil)) pe_int) (pg_sub (pv 0) pe_int set_list))
      (pss_one (ps_ret (pe_op op_mod (pe_callTy call_intN (by rfl) B.int (by decide +kernel) (pa_cons (pe_op op_fdivW (pe_ix (ixL (K := K)) (pv 0) pe_int (fun _ _ => rfl)) pe_int) pa_nil)) (pv 1))))))), ?_⟩
    walk_at "rd"
    refine q_ixL (.of hl) rfl ?_
    walk_at "rd"
    split
    · refine q_ixL (.of hl) rfl ?_
      refine ⟨_, _, rfl, m0, m1, fun p H1 n1 e1 t1 => ⟨p, rfl, _, .of t1, rfl, ?_⟩⟩
      have hv1 := e1 _ _ hl
      walk_at "rd"
      refine ⟨v, _, 0, 0, rfl, rfl, hv1, rfl, ?_⟩
      walk_at "rd"
      refine k _ _ ⟨hv, fun x o n ho => ?_, ⟨_, _, _, upd_same, Int.ediv_nonneg a0 (by omega), b0, b1, c0⟩⟩ (Int.emod_nonneg _ (by omega)) (Int.emod_lt_of_pos _ m0)
      rw [upd_ne n]
      exact e1 _ _ ho
    · refine q_ixL (.of hl) rfl ?_
      walk_at "rd"
      refine ⟨v, _, 2, 2, rfl, rfl, hl, rfl, ?_⟩
      walk_at "rd"
      have t1 : (upd H v (.lst [.int a, .int b, .int (c + 1)])) v = some (.lst [.int a, .int b, .int (c + 1)]) := upd_same
      refine q_ixL (.of t1) rfl ?_
      walk_at "rd"
      refine ⟨cmulR, ?_⟩
      refine q_ixL (.of t1) rfl ?_
      walk_at "rd"
      refine ⟨cmulL, by decide, v, _, 1, 1, rfl, rfl, t1, rfl, ?_⟩
      have g0 := Int.emod_nonneg (b * 45007 + 27017 * (c + 1)) (show (2147483323 : Int) ≠ 0 by decide)
      have g1 := Int.emod_lt_of_pos (b * 45007 + 27017 * (c + 1)) (show (0 : Int) < 2147483323 by decide)
      rw [upd_upd]
      refine q_ixL (.of upd_same) rfl ?_
      walk_at "rd"
      refine ⟨⟨by decide, by decide⟩, m0, k _ _ ⟨hv, fun x o n ho => by rw [upd_ne n]; exact ho, ⟨_, _, _, upd_same, a0, g0, g1, by omega⟩⟩ (Int.emod_nonneg _ (by omega)) (Int.emod_lt_of_pos _ m0)⟩

/-! ### _law_shared -/
def spShared : Sp := fun vs H Q _ => ∃ a b : Int, vs = [.int a, .int b] ∧ Q (.int (Int.gcd a b : Nat)) H
theorem scShared : FnScope ["one", "two"] ["one", "two"] (defScope (top 43)) := ⟨rfl, rfl, rfl, by decide +kernel, rfl, by decide +kernel, by decide +kernel⟩
def shM : L2.St → Nat
  | [_, some (.int y)] => y.toNat
  | _ => 0
theorem has_shared (B : Bi mg) (D : Df K mg "_law_shared" (top 43) ["one", "two"]) : Has P w K mg base "_law_shared" 1 ["one", "two"] spShared := by
  have sc := scShared
  refine .of D fun f fd F => F.ok sc (fun vs H Q E h => ?_) (fun cdv A outer s H vs Q E hr h => ?_)
  · obtain ⟨a, b, rfl, _⟩ := h
    rfl
  · obtain ⟨a, b, rfl, k⟩ := h
    refine ⟨_, (pss_cons (ps_par (i := 0) (j := 1) (by rfl) sc.nd rfl rfl (by decide) rfl rfl (pa_cons (pe_callB call_abs (by rfl) B.abs (by decide +kernel) (pa_cons (pv 0) pa_nil)) (pa_cons (pe_callB call_abs (by rfl) B.abs (by decide +kernel) (pa_cons (pv 1) pa_nil)) pa_nil)) (by rfl))
      (pss_cons (ps_while PassesOwn.never (PT.mon (pt_cmpR op_gt (pv 1) pe_int (nomark _))) (pss_one (ps_par (i := 0) (j := 1) (by rfl) sc.nd rfl rfl (by decide) rfl rfl (pa_cons (pv 1) (pa_cons (pe_op op_mod (pe_callTy call_intN (by rfl) B.int (by decide +kernel) (pa_cons (pv 0) pa_nil)) (pv 1)) pa_nil)) (by rfl))))
      (pss_one (ps_ret (pv 0))))), ?_⟩
    walk_at "rd"
    have na : ∀ z : Int, (if z < 0 then -z else z) = ((z.natAbs : Nat) : Int) := fun z => by split <;> omega
    rw [na, na]
    obtain ⟨Pv, hP⟩ : ∃ P : L2.St → Hp → Prop, P = fun σ' G => G = H ∧ ∃ n m : Nat, σ' = [some (.int n), some (.int m)] ∧ Nat.gcd n m = Int.gcd a b := ⟨_, rfl⟩
    refine while_by Pv (fun σ' _ => shM σ') (by rw [hP]; exact ⟨rfl, _, _, rfl, rfl⟩) ?_ ?_
    · intro σ' G h
      rw [hP] at h
      obtain ⟨rfl, n, m, rfl, hg⟩ := h
      obtain ⟨R0, hR⟩ : ∃ R : Bool → Hp → Prop, R = fun b H' => b = decide (0 < m) ∧ H' = G := ⟨_, rfl⟩
      refine ⟨R0, ?_, ?_⟩
      · walk_at "rd"
        rw [hR]
        refine ⟨?_, rfl⟩
        rw [decide_eq_decide]
        omega
      · intro b' H' h
        rw [hR] at h
        obtain ⟨rfl, rfl⟩ := h
        by_cases hm : 0 < m
        · rw [decide_eq_true hm, if_pos rfl]
          walk_at "rd"
          refine ⟨by omega, ?_⟩
          rw [hP]
          refine ⟨⟨rfl, m, n % m, ?_, ?_⟩, ?_⟩
          · rw [Int.natCast_emod]
          · rw [← hg, Nat.gcd_comm n m]
            exact (Nat.gcd_comm _ _).trans (Nat.gcd_rec m n).symm
          · show (((n : Int) % (m : Int))).toNat < ((m : Int)).toNat
            have := Int.emod_lt_of_pos (n : Int) (show (0 : Int) < m by omega)
            have := Int.emod_nonneg (n : Int) (show (m : Int) ≠ 0 by omega)
            omega
        · rw [decide_eq_false hm, if_neg (by decide)]
          walk_at "rd"
          have : m = 0 := by omega
          subst this
          rw [Nat.gcd_zero_right] at hg
          rw [hg]
          exact k
    · intro σ' G R1 R2 h ⟨R0, h1, h2⟩
      exact ⟨R0, h1, fun b' H' h' => h _ _ (h2 _ _ h')⟩
end

section
variable {P : Program} {w : World} {K : PySem.W.Frag} {mg : Str → Option Value} {base : Heap}
/-! ### _law_part -/
/-- x tells the fraction r -/
def IsFr (K : PySem.W.Frag) (H : Hp) (x : V) (r : Rat) : Prop := ∃ p, x = .ref p ∧ SqT K H p (fr r)
theorem IsFr.kp {H H' : Hp} {x : V} {r : Rat} (h : IsFr K H x r) (e : Kp H H') : IsFr K H' x r := by
  obtain ⟨p, rfl, h⟩ := h
  exact ⟨p, rfl, sqT_kp h e⟩
theorem IsFr.dp {H : Hp} {x : V} {r : Rat} (h : IsFr K H x r) : Dp K H x (frD r) := by
  obtain ⟨p, rfl, h⟩ := h
  exact .tup h (.cons (.int _) (.cons (.int _) .nil))
def spPart (K : PySem.W.Frag) : Sp := fun vs H Q _ => ∃ t b : Int, vs = [.int t, .int b] ∧ 0 < b ∧ b.natAbs < 2 ^ 8990 ∧
  ∀ x H', Ex H H' → IsFr K H' x ((t : Rat) / (b : Rat)) → Q x H'
theorem scPart : FnScope ["top", "bottom", "by"] ["top", "bottom"] (defScope (top 44)) := ⟨rfl, rfl, rfl, by decide +kernel, rfl, by decide +kernel, by decide +kernel⟩
theorem log_lt {n : Nat} (h : n < 2 ^ 8990) : n.log2 < 9000 := Nat.lt_of_lt_of_le (PySem.Flt.log2_lt_of (k := 8990) (by decide) h) (show 8990 ≤ 9000 by decide)
theorem gcd_small {b t : Int} (hb : 0 < b) (h : b.natAbs < 2 ^ 8990) : 0 < ((Int.gcd b t : Nat) : Int) ∧ (((Int.gcd b t : Nat) : Int)).natAbs < 2 ^ 8990 := by
  have h1 : 0 < Int.gcd b t := Int.gcd_pos_of_ne_zero_left _ (by omega)
  have h2 : Int.gcd b t ≤ b.natAbs := Nat.le_of_dvd (by omega) (Nat.gcd_dvd_left _ _)
  have h3 : (((Int.gcd b t : Nat) : Int)).natAbs = Int.gcd b t := Int.natAbs_natCast _
  constructor
  · omega
  · omega
theorem has_part (hs : Has P w K mg base "_law_shared" 1 ["one", "two"] spShared) (D : Df K mg "_law_part" (top 44) ["top", "bottom"]) : Has P w K mg base "_law_part" 2 ["top", "bottom"] (spPart K) := by
  have sc := scPart
  have h_law_shared := hs
  refine .of D fun f fd F => F.ok sc (fun vs H Q E h => ?_) (fun cdv A outer s H vs Q E hr h => ?_)
  · obtain ⟨t, b, rfl, _⟩ := h
    rfl
  · obtain ⟨t, b, rfl, b0, b1, k⟩ := h
    obtain ⟨g0, g1⟩ := gcd_small (t := t) b0 b1
    refine ⟨_, (pss_cons (ps_set (i := 2) sc.nd rfl (by first | exact Or.inl rfl | exact Or.inr rfl) (pe_has h_law_shared (hr.mono (by decide)) (pa_cons (pv 1) (pa_cons (pv 0) pa_nil))))
      (pss_one (ps_ret (pe_tupN (pa_cons (pe_op op_fdivW (pv 0) (pv 2)) (pa_cons (pe_op op_fdivW (pv 1) (pv 2)) pa_nil)))))), ?_⟩
    walk_at "rd"
    refine ⟨b, t, rfl, ?_⟩
    walk_at "rd"
    refine ⟨⟨g0, log_lt g1⟩, ⟨g0, log_lt g1⟩, by decide, fun p H1 n1 e1 t1 => k _ _ e1 ⟨p, rfl, ?_⟩⟩
    rw [← part_eq b0]
    exact .of t1

def IsInts (K : PySem.W.Frag) (H : Hp) (x : V) (cs : List Int) : Prop := ∃ p, x = .ref p ∧ SqT K H p (cs.map V.int)
theorem IsInts.kp {H H' : Hp} {x : V} {cs : List Int} (h : IsInts K H x cs) (e : Kp H H') : IsInts K H' x cs := by
  obtain ⟨p, rfl, h⟩ := h
  exact ⟨p, rfl, sqT_kp h e⟩
def intsD (cs : List Int) : PyData := .tuple (cs.map PyData.int)
theorem IsInts.dp {H : Hp} {x : V} {cs : List Int} (h : IsInts K H x cs) : Dp K H x (intsD cs) := by
  obtain ⟨p, rfl, h⟩ := h
  exact .tup h (dp_ints cs)
/-- a list of ints, told item by item -/
theorem ints_of {ys : List V} {n : Nat} {f : Nat → Int} (hl : ys.length = n) (h : ∀ (i : Nat) y, ys[i]? = some y → y = .int (f i)) : ys = ((List.range n).map f).map V.int := by
  apply List.ext_getElem?
  intro i
  by_cases hi : i < ys.length
  · have hy := List.getElem?_eq_getElem hi
    rw [hy, h i _ hy]
    simp [← hl, hi]
  · rw [List.getElem?_eq_none (by omega), List.getElem?_eq_none (by simp; omega)]
theorem ints_of_map {ys : List V} {cs : List Int} {f : Int → Int} (hl : ys.length = cs.length) (h : ∀ (i : Nat) y, ys[i]? = some y → ∃ c, cs[i]? = some c ∧ y = .int (f c)) : ys = (cs.map f).map V.int := by
  apply List.ext_getElem?
  intro i
  by_cases hi : i < ys.length
  · have hy := List.getElem?_eq_getElem hi
    obtain ⟨c, hc, e⟩ := h i _ hy
    rw [hy, e, List.getElem?_map, List.getElem?_map, hc]
    rfl
  · rw [List.getElem?_eq_none (by omega), List.getElem?_eq_none (by simp; omega)]
theorem map_int_get {cs : List Int} {i : Nat} {x : V} (h : (cs.map V.int)[i]? = some x) : ∃ c, cs[i]? = some c ∧ x = .int c := by
  rw [List.getElem?_map] at h
  cases e : cs[i]? with
  | none => rw [e] at h; cases h
  | some c => rw [e] at h; exact ⟨c, rfl, (Option.some.inj h).symm⟩
end

section
variable {P : Program} {w : World} {K : PySem.W.Frag} {mg : Str → Option Value} {base : Heap}
def spPlain (K : PySem.W.Frag) : Sp := fun vs H Q _ => ∃ (p : Addr) (cs : List Int), vs = [.ref p] ∧ (SqT K H p (cs.map V.int) ∨ SqL K H p (cs.map V.int)) ∧ cs.length ≤ 1000 ∧ 0 < gcdL cs ∧ gcdL cs < 2 ^ 8990 ∧
  ∀ x H', Ex H H' → IsInts K H' x (plainL cs) → Q x H'
theorem scPlain : FnScope ["some", "by", "count"] ["some"] (defScope (top 48)) := ⟨rfl, rfl, rfl, by decide +kernel, rfl, by decide +kernel, by decide +kernel⟩
theorem has_plain (B : Bi mg) (hs : Has P w K mg base "_law_shared" 1 ["one", "two"] spShared) (D : Df K mg "_law_plain" (top 48) ["some"]) : Has P w K mg base "_law_plain" 2 ["some"] (spPlain K) := by
  have sc := scPlain
  have h_law_shared := hs
  refine .of D fun f fd F => F.ok sc (fun vs H Q E h => ?_) (fun cdv A outer s H vs Q E hr h => ?_)
  · obtain ⟨p, cs, rfl, _⟩ := h
    rfl
  · obtain ⟨p, cs, rfl, hcs, hlen, g0, g1, k⟩ := h
    have gI : (0 : Int) < ((gcdL cs : Nat) : Int) := by omega
    have gL : (((gcdL cs : Nat) : Int)).natAbs.log2 < 9000 := by
      rw [Int.natAbs_natCast]
      exact log_lt g1
    obtain ⟨Pv, hP⟩ : ∃ P : Nat → L2.St → Hp → Prop, P = fun j σ' G => G = H ∧ ∃ t : Option V, σ' = [some (.ref p), some (.int ((gcdL (cs.take j) : Nat) : Int)), t] := ⟨_, rfl⟩
    rcases hcs with hcs | hcs
    · refine ⟨_, (pss_cons (ps_set (i := 1) sc.nd rfl (by first | exact Or.inl rfl | exact Or.inr rfl) pe_int)
      (pss_cons (ps_for PassesOwn.never rfl (pi_tup (pv 0)) (pg_name (i := 2) sc.nd rfl (by first | exact Or.inl rfl | exact Or.inr rfl))
      (pss_one (ps_set (i := 1) sc.nd rfl (by first | exact Or.inl rfl | exact Or.inr rfl) (pe_has h_law_shared (hr.mono (by decide)) (pa_cons (pv 1) (pa_cons (pv 2) pa_nil))))))
      (pss_one (ps_ret (pe_callTy (kTuple (K := K)) (by rfl) B.tuple (by decide +kernel) (pa_cons (pe_lc (own := [("count", 2)]) (g := gName 2) (tt := tYes) rfl sc.nd (pi_tup (pv 0)) (blkOk_by (N := (["some", "by", "count"] : List Str)) (sc := defScope (top 48)) (by decide +kernel)) (fun _ _ _ _ _ => (pg_name (i := 2) sc.nd rfl (by first | exact Or.inl rfl | exact Or.inr rfl))) (fun _ _ _ _ _ => pts_nil) (fun _ _ _ _ _ => (PE.mon (pe_op op_fdivW (pv 2) (pv 1))))) pa_nil)))))), ?_⟩
      walk_at "rd"
      refine ⟨⟨_, hcs⟩, loopT (xs := cs.map V.int) Pv (by rw [hP]; exact ⟨rfl, _, rfl⟩) (fun j σ' G _ h => by rw [hP] at h; rw [h.1]; exact hcs) ?_ ?_⟩
      · intro j x σ' G hx h
        rw [hP] at h
        obtain ⟨rfl, t, rfl⟩ := h
        obtain ⟨c, hc, rfl⟩ := map_int_get hx
        walk_at "rd"
        refine ⟨_, _, rfl, ?_⟩
        walk_at "rd"
        rw [hP]
        dsimp only
        rw [gcdL_take hc]
        exact ⟨rfl, _, rfl⟩
      · intro σ' G h
        rw [hP] at h
        obtain ⟨rfl, t, rfl⟩ := h
        rw [List.length_map, List.take_length]
        walk_at "rd"
        refine ⟨⟨_, hcs⟩, fun Dd hD => lcTn (fun i y _ => ∃ c, cs[i]? = some c ∧ y = .int (c / ((gcdL cs : Nat) : Int))) (fun _ _ _ _ _ h => h) hD hcs (by rw [List.length_map]; omega) (fun _ => rfl) ?_ ?_⟩
        · intro i x H2 hx e
          obtain ⟨c, hc, rfl⟩ := map_int_get hx
          obtain ⟨R0, hR⟩ : ∃ R : VK, R = fun v H' => v = .int (c / ((gcdL cs : Nat) : Int)) ∧ H' = H2 := ⟨_, rfl⟩
          refine ⟨R0, ?_, fun v H' h => by rw [hR] at h; obtain ⟨rfl, rfl⟩ := h; exact ⟨Ex.refl _, c, hc, rfl⟩⟩
          walk_at "rd"
          refine ⟨⟨gI, gL⟩, ?_⟩
          rw [hR]
          exact ⟨rfl, rfl⟩
        · intro H2 ys e hy hl hr2
          rw [List.length_map] at hl
          have ey := ints_of_map hl hr2
          refine ⟨Dd, _, rfl, .of hy, fun q H3 n3 e3 t3 => k _ _ (e.trans e3) ⟨q, rfl, ?_⟩⟩
          rw [ey] at t3
          exact .of t3
    · refine ⟨_, (pss_cons (ps_set (i := 1) sc.nd rfl (by first | exact Or.inl rfl | exact Or.inr rfl) pe_int)
      (pss_cons (ps_for PassesOwn.never rfl (pi_list (pv 0)) (pg_name (i := 2) sc.nd rfl (by first | exact Or.inl rfl | exact Or.inr rfl))
      (pss_one (ps_set (i := 1) sc.nd rfl (by first | exact Or.inl rfl | exact Or.inr rfl) (pe_has h_law_shared (hr.mono (by decide)) (pa_cons (pv 1) (pa_cons (pv 2) pa_nil))))))
      (pss_one (ps_ret (pe_callTy (kTuple (K := K)) (by rfl) B.tuple (by decide +kernel) (pa_cons (pe_lc (own := [("count", 2)]) (g := gName 2) (tt := tYes) rfl sc.nd (pi_list (pv 0)) (blkOk_by (N := (["some", "by", "count"] : List Str)) (sc := defScope (top 48)) (by decide +kernel)) (fun _ _ _ _ _ => (pg_name (i := 2) sc.nd rfl (by first | exact Or.inl rfl | exact Or.inr rfl))) (fun _ _ _ _ _ => pts_nil) (fun _ _ _ _ _ => (PE.mon (pe_op op_fdivW (pv 2) (pv 1))))) pa_nil)))))), ?_⟩
      walk_at "rd"
      refine ⟨⟨_, hcs⟩, loopL (xs := cs.map V.int) Pv (by rw [hP]; exact ⟨rfl, _, rfl⟩) (fun j σ' G _ h => by rw [hP] at h; rw [h.1]; exact hcs) ?_ ?_⟩
      · intro j x σ' G hx h
        rw [hP] at h
        obtain ⟨rfl, t, rfl⟩ := h
        obtain ⟨c, hc, rfl⟩ := map_int_get hx
        walk_at "rd"
        refine ⟨_, _, rfl, ?_⟩
        walk_at "rd"
        rw [hP]
        dsimp only
        rw [gcdL_take hc]
        exact ⟨rfl, _, rfl⟩
      · intro σ' G h
        rw [hP] at h
        obtain ⟨rfl, t, rfl⟩ := h
        rw [List.length_map, List.take_length]
        walk_at "rd"
        refine ⟨⟨_, hcs⟩, fun Dd hD => lcLn (fun i y _ => ∃ c, cs[i]? = some c ∧ y = .int (c / ((gcdL cs : Nat) : Int))) (fun _ _ _ _ _ h => h) hD hcs (by rw [List.length_map]; omega) (fun _ => rfl) ?_ ?_⟩
        · intro i x H2 hx e
          obtain ⟨c, hc, rfl⟩ := map_int_get hx
          obtain ⟨R0, hR⟩ : ∃ R : VK, R = fun v H' => v = .int (c / ((gcdL cs : Nat) : Int)) ∧ H' = H2 := ⟨_, rfl⟩
          refine ⟨R0, ?_, fun v H' h => by rw [hR] at h; obtain ⟨rfl, rfl⟩ := h; exact ⟨Ex.refl _, c, hc, rfl⟩⟩
          walk_at "rd"
          refine ⟨⟨gI, gL⟩, ?_⟩
          rw [hR]
          exact ⟨rfl, rfl⟩
        · intro H2 ys e hy hl hr2
          rw [List.length_map] at hl
          have ey := ints_of_map hl hr2
          refine ⟨Dd, _, rfl, .of hy, fun q H3 n3 e3 t3 => k _ _ (e.trans e3) ⟨q, rfl, ?_⟩⟩
          rw [ey] at t3
          exact .of t3

end

section
variable {P : Program} {w : World} {K : PySem.W.Frag} {mg : Str → Option Value} {base : Heap}
/-! ### _law_counts -/
def CountsOk (cs : List Int) : Prop := 2 ≤ cs.length ∧ cs.length ≤ 6 ∧ (∀ c ∈ cs, 0 ≤ c ∧ c ≤ 10 ^ 30) ∧ 0 < cs.sum
theorem sum_ones : ∀ n : Nat, (List.replicate n (1 : Int)).sum = (n : Int)
  | 0 => rfl
  | n + 1 => by
    rw [List.replicate_succ, List.sum_cons, sum_ones n]
    omega
theorem VatAt.ne {H : Hp} {v p : Addr} (h : VatAt H v) (n : H p = none) : p ≠ v := by
  obtain ⟨a, b, c, e, _⟩ := h
  intro z
  rw [z, e] at n
  cases n
theorem Gv.free {v p : Addr} {H H' : Hp} (g : Gv v H H') (h : p ≠ v) (n : H' p = none) : H p = none := by
  cases q : H p with
  | none => rfl
  | some o =>
    rw [g.keep p o h q] at n
    cases n
theorem Gv.upd {v p : Addr} {H H' : Hp} {o : HO} (g : Gv v H H') (n : H p = none) (h : p ≠ v) : Gv v H (L2.upd H' p o) := by
  refine ⟨g.old, fun a u ha e => ?_, ?_⟩
  · rw [upd_ne (ne_of_none e n)]
    exact g.keep a u ha e
  · obtain ⟨a, b, c, e, r⟩ := g.new
    exact ⟨a, b, c, by rw [upd_ne (Ne.symm h)]; exact e, r⟩
def spCounts (K : PySem.W.Frag) : Sp := fun vs H Q _ => ∃ (v : Addr) (i : Int), vs = [.ref v, .int i] ∧ VatAt H v ∧
  ∀ x H' cs, Gv v H H' → IsInts K H' x cs → CountsOk cs → Q x H'
theorem scCounts : FnScope ["vat", "way", "size", "some", "k", "small"] ["vat", "way"] (defScope (top 49)) := ⟨rfl, rfl, rfl, by decide +kernel, rfl, by decide +kernel, by decide +kernel⟩
theorem has_counts (B : Bi mg) (hd : Has P w K mg base "_law_dip" 1 ["vat", "many"] spDip) (D : Df K mg "_law_counts" (top 49) ["vat", "way"]) : Has P w K mg base "_law_counts" 2 ["vat", "way"] (spCounts K) := by
  have sc := scCounts
  have h_law_dip := hd
  refine .of D fun f fd F => F.ok sc (fun vs H Q E h => ?_) (fun cdv A outer s H vs Q E hr h => ?_)
  · obtain ⟨v, i, rfl, _⟩ := h
    rfl
  · obtain ⟨v, i, rfl, hv, k⟩ := h
    refine ⟨_, (pss_cons (ps_set (i := 2) sc.nd rfl (by first | exact Or.inl rfl | exact Or.inr rfl) (pe_op op_add pe_int (pe_has h_law_dip (hr.mono (by decide)) (pa_cons (pv 0) (pa_cons pe_int pa_nil)))))
      (pss_cons (ps_set (i := 3) sc.nd rfl (by first | exact Or.inl rfl | exact Or.inr rfl) (pe_lstN pa_nil))
      (pss_cons (ps_for PassesOwn.never rfl (pi_range1 (by rfl) B.range (pa_cons (pv 2) pa_nil)) (pg_name (i := 4) sc.nd rfl (by first | exact Or.inl rfl | exact Or.inr rfl))
      (pss_cons (ps_set (i := 5) sc.nd rfl (by first | exact Or.inl rfl | exact Or.inr rfl) (pe_ix (ixL (K := K)) (pe_lstN (pa_cons pe_int (pa_cons pe_int (pa_cons pe_int (pa_cons pe_int (pa_cons pe_int (pa_cons pe_int (pa_cons pe_int pa_nil)))))))) (pe_has h_law_dip (hr.mono (by decide)) (pa_cons (pv 0) (pa_cons pe_int pa_nil))) (fun _ _ => rfl)))
      (pss_one (ps_expr (pe_bm PySem.F.plainAttrs_list PySem.F.slot_list_append PySem.F.type_list_append mt_append (pv 3) (pa_cons (PE.mon (pe_ifExp (pt_cmpR op_eq (pv 1) pe_int (nomark _)) (pv 5) (pe_ix (ixL (K := K)) (pe_lstN (pa_cons (pv 5) (pa_cons (pe_op op_add (pe_op op_pow pe_int pe_int) (pv 5)) (pa_cons (pe_op op_sub (pe_op op_pow pe_int pe_int) (pv 5)) pa_nil)))) (pe_has h_law_dip (hr.mono (by decide)) (pa_cons (pv 0) (pa_cons pe_int pa_nil))) (fun _ _ => rfl)))) pa_nil))))))
      (pss_one (ps_ret (PE.mon (pe_ifExp (pt_cmpR op_gt (pe_callB (kSum (K := K) rfl) (by rfl) B.sum (by decide +kernel) (pa_cons (pv 3) pa_nil)) pe_int (nomark _)) (pe_callTy (kTuple (K := K)) (by rfl) B.tuple (by decide +kernel) (pa_cons (pv 3) pa_nil)) (pe_callTy (kTuple (K := K)) (by rfl) B.tuple (by decide +kernel) (pa_cons (pe_op op_repN (pe_lstN (pa_cons pe_int pa_nil)) (pv 2)) pa_nil))))))))), ?_⟩
    walk_at "rd"
    refine ⟨v, 5, rfl, hv, by decide, by decide, fun d H1 g1 d0 d1 => ?_⟩
    walk_at "rd"
    refine ⟨by decide, fun p H2 n2 e2 t2 => ?_⟩
    walk_at "rd"
    refine ⟨by omega, by omega, ?_⟩
    have pv := g1.new.ne n2
    have hp0 : H p = none := g1.free pv n2
    obtain ⟨Pv, hP⟩ : ∃ P : Nat → L2.St → Hp → Prop, P = fun j σ' G => ∃ (cs : List Int) (s4 s5 : Option V), σ' = [some (.ref v), some (.int i), some (.int (2 + d)), some (.ref p), s4, s5] ∧ Gv v H G ∧ G p = some (.lst (cs.map V.int)) ∧ cs.length = j ∧ ∀ c ∈ cs, 0 ≤ c ∧ c ≤ 10 ^ 30 := ⟨_, rfl⟩
    refine loopR Pv (by rw [hP]; exact ⟨[], _, _, rfl, g1.ex e2, t2, rfl, fun c h => by simp at h⟩) ?_ ?_
    · intro j σ' G hj h
      rw [hP] at h
      obtain ⟨cs, s4, s5, rfl, gG, tG, lG, bG⟩ := h
      walk_at "rd"
      refine ⟨by decide, fun l G1 n1 e1 t1 => ?_⟩
      have lv := gG.new.ne n1
      walk_at "rd"
      refine ⟨v, 7, rfl, gG.new.ex e1, by decide, by decide, fun r G2 g2 r0 r1 => ?_⟩
      obtain ⟨z, hz, ez⟩ := at_int (ns := [0, 1, 2, 3, 4, 7, 12]) r0 (by simpa using r1)
      have zb : 0 ≤ z ∧ z ≤ 12 := by
        have := List.mem_of_getElem? hz
        simp only [List.mem_cons, List.not_mem_nil, or_false] at this
        omega
      refine q_ixL (.of (g2.lst lv t1)) ez ?_
      walk_at "rd"
      have tp : G2 p = some (.lst (cs.map V.int)) := g2.lst pv (e1 _ _ tG)
      refine ⟨.inl ⟨rfl, _, .of tp⟩, ?_⟩
      obtain ⟨R0, hR⟩ : ∃ R : VK, R = fun x G' => ∃ c, x = .int c ∧ 0 ≤ c ∧ c ≤ 10 ^ 30 ∧ Gv v G2 G' := ⟨_, rfl⟩
      refine ⟨R0, ?_, ?_⟩
      · walk_at "rd"
        split
        · rw [hR]
          exact ⟨z, rfl, by omega, by omega, .refl g2.new⟩
        · refine ⟨⟨by decide, by decide, by decide⟩, ⟨by decide, by decide, by decide⟩, by decide, fun l2 G3 n3 e3 t3 => ?_⟩
          have l2v := g2.new.ne n3
          walk_at "rd"
          refine ⟨v, 3, rfl, g2.new.ex e3, by decide, by decide, fun r2 G4 g4 r20 r21 => ?_⟩
          obtain ⟨y, hy, ey⟩ := at_int (ns := [z, 10 ^ Int.toNat 9 + z, 10 ^ Int.toNat 30 - z]) r20 (by simpa using r21)
          refine q_ixL (.of (g4.lst l2v t3)) ey ?_
          rw [hR]
          refine ⟨y, rfl, ?_, ?_, (Gv.of g2.new e3).trans g4⟩
          all_goals
            have := List.mem_of_getElem? hy
            simp only [List.mem_cons, List.not_mem_nil, or_false] at this
            have e9 : (10 : Int) ^ Int.toNat 9 = 1000000000 := by decide
            have e30 : (10 : Int) ^ Int.toNat 30 = 1000000000000000000000000000000 := by decide
            rw [e9, e30] at this
            omega
      · intro x G3 h
        rw [hR] at h
        obtain ⟨c, rfl, c0, c1, g3⟩ := h
        have tp3 := g3.lst pv tp
        refine ⟨p, _, _, rfl, rfl, tp3, Nat.lt_of_lt_of_le (show (cs.map V.int).length < 1000000 by rw [List.length_map]; omega) (by decide), ?_⟩
        walk_at "rd"
        rw [hP]
        refine ⟨cs ++ [c], _, _, rfl, (((gG.ex e1).trans g2).trans g3).upd hp0 pv, ?_, by simp [lG], ?_⟩
        · rw [List.map_append]
          exact upd_same
        · intro y hy
          rcases List.mem_append.mp hy with q | q
          · exact bG y q
          · rw [List.mem_singleton] at q
            rw [q]
            exact ⟨c0, c1⟩
    · intro σ' G h
      rw [hP] at h
      obtain ⟨cs, s4, s5, rfl, gG, tG, lG, bG⟩ := h
      walk_at "rd"
      obtain ⟨R0, hR⟩ : ∃ R : VK, R = fun x G' => ∃ cs', IsInts K G' x cs' ∧ CountsOk cs' ∧ Ex G G' := ⟨_, rfl⟩
      refine ⟨R0, ?_, ?_⟩
      · walk_at "rd"
        refine ⟨p, cs, rfl, .inl (.of tG), ?_⟩
        walk_at "rd"
        split
        · rename_i hpos
          refine ⟨p, _, rfl, .of tG, fun q G1 n1 e1 t1 => ?_⟩
          rw [hR]
          exact ⟨cs, ⟨q, rfl, .of t1⟩, ⟨by omega, by omega, bG, hpos⟩, e1⟩
        · refine ⟨by decide, fun l G1 n1 e1 t1 => ?_⟩
          walk_at "rd"
          refine ⟨l, _, _, rfl, rfl, t1, by omega, by omega, sizeLine_le (by simp only [List.length_cons, List.length_nil]; omega), fun l2 G2 n2 e2 t2 => ?_⟩
          refine ⟨l2, _, rfl, .of t2, fun q G3 n3 e3 t3 => ?_⟩
          rw [hR]
          have er : (List.replicate (2 + d).toNat [V.int 1]).flatten = (List.replicate (2 + d).toNat 1).map V.int := by
            rw [List.flatten_replicate_singleton, List.map_replicate]
          rw [er] at t3
          refine ⟨_, ⟨q, rfl, .of t3⟩, ⟨by simp; omega, by simp; omega, ?_, ?_⟩, (e1.trans e2).trans e3⟩
          · intro c hc
            rw [(List.mem_replicate.mp hc).2]
            decide
          · rw [sum_ones]
            omega
      · intro x G' h
        rw [hR] at h
        obtain ⟨cs', h1, h2, h3⟩ := h
        exact k _ _ _ (gG.ex h3) h1 h2
end

section
variable {P : Program} {w : World} {K : PySem.W.Frag} {mg : Str → Option Value} {base : Heap}
/-! ### is_whole, _check_counts -/
def spWhole : Sp := fun vs H Q _ => ∃ i : Int, vs = [.int i] ∧ Q (.bl true) H
theorem scWhole : FnScope ["value"] ["value"] (defScope (top 16)) := ⟨rfl, rfl, rfl, by decide +kernel, rfl, by decide +kernel, by decide +kernel⟩
theorem has_whole (B : Bi mg) (D : Df K mg "is_whole" (top 16) ["value"]) : Has P w K mg base "is_whole" 1 ["value"] spWhole := by
  have sc := scWhole
  refine .of D fun f fd F => F.ok sc (fun vs H Q E h => ?_) (fun cdv A outer s H vs Q E hr h => ?_)
  · obtain ⟨i, rfl, _⟩ := h
    rfl
  · obtain ⟨i, rfl, k⟩ := h
    refine ⟨_, (pss_one (ps_ret (pe_and (pe_callB (kIsi (K := K)) (by rfl) B.isinstance (by decide +kernel) (pa_cons (pv 0) (pa_cons (pe_bltn (v := .ty "int") (by rfl) B.int (by decide +kernel) rfl) pa_nil))) (pe_one (pe_not (pe_callB (kIsi (K := K)) (by rfl) B.isinstance (by decide +kernel) (pa_cons (pv 0) (pa_cons (pe_bltn (v := .ty "bool") (by rfl) B.bool (by decide +kernel) rfl) pa_nil)))))))), ?_⟩
    walk_at "rd"
    refine ⟨_, _, _, _, true, rfl, .ty "int", .base (.int i), kit_ty (by decide +kernel), ?_⟩
    walk_at "rd"
    refine ⟨_, _, _, _, false, rfl, .ty "bool", .base (.int i), kit_ty (by decide +kernel), ?_⟩
    walk_at "rd"
    exact k
theorem ty_tup {H : Hp} {a : Addr} {xs : List V} (h : SqT K H a xs) : TyX K H (.ref a) (.type "tuple") := by
  rcases h with (h | ⟨o, h⟩) | ⟨o, its, n, h, c, _⟩
  · exact .base (.tup h)
  · exact .fTuple h
  · exact .kTuple h c
/-- counts of a row -/
def RowOk (cs : List Int) : Prop := 2 ≤ cs.length ∧ cs.length ≤ 6 ∧ (∀ c ∈ cs, 0 ≤ c) ∧ 0 < gcdL cs ∧ gcdL cs < 2 ^ 8990
def spCheck (K : PySem.W.Frag) : Sp := fun vs H Q _ => ∃ (q : Addr) (cs : List Int), vs = [.ref q] ∧ SqT K H q (cs.map V.int) ∧ RowOk cs ∧ ∀ H', Ex H H' → Q .non H'
theorem scCheck : FnScope ["counts", "yes", "count"] ["counts"] (defScope (top 30)) := ⟨rfl, rfl, rfl, by decide +kernel, rfl, by decide +kernel, by decide +kernel⟩
theorem has_check {t : Tok} (B : Bi mg) (c_MOST_DRAWS : mg "MOST_DRAWS" = some (.int 5 t)) (his_whole : Has P w K mg base "is_whole" 1 ["value"] spWhole) (D : Df K mg "_check_counts" (top 30) ["counts"]) : Has P w K mg base "_check_counts" 2 ["counts"] (spCheck K) := by
  have sc := scCheck
  refine .of D fun f fd F => F.ok sc (fun vs H Q E h => ?_) (fun cdv A outer s H vs Q E hr h => ?_)
  · obtain ⟨q, cs, rfl, _⟩ := h
    rfl
  · obtain ⟨q, cs, rfl, hS, ⟨l0, l1, pos, g0, g1⟩, k⟩ := h
    refine ⟨_, (pss_cons (ps_if (PW.pt (pw_or (pt_not (pt_val (pe_callB (kIsi (K := K)) (by rfl) B.isinstance (by decide +kernel) (pa_cons (pv 0) (pa_cons (pe_bltn (v := .ty "tuple") (by rfl) B.tuple (by decide +kernel) rfl) pa_nil))))) (pw_or1 (pt_cmpR op_lt (pe_callB (kLen (K := K)) (by rfl) B.len (by decide +kernel) (pa_cons (pv 0) pa_nil)) pe_int (nomark _))))) (pss_one ps_never) pss_nil)
      (pss_one (ps_for PassesOwn.never rfl (pi_enumT (by rfl) B.enumerate (pa_cons (pv 0) pa_nil)) (pg_tup rfl (pgs_cons (pg_name (i := 1) sc.nd rfl (by first | exact Or.inl rfl | exact Or.inr rfl)) (pgs_cons (pg_name (i := 2) sc.nd rfl (by first | exact Or.inl rfl | exact Or.inr rfl)) pgs_nil)))
      (pss_one (ps_if (PW.pt (pw_or (pt_not (pt_val (pe_has his_whole (hr.mono (by decide)) (pa_cons (pv 2) pa_nil)))) (pw_or (pt_cmpR op_lt (pv 2) pe_int (nomark _)) (pw_or1 (pt_cmpR op_gt (pv 1) (pe_glob (v := .int 5) rfl c_MOST_DRAWS ⟨_, rfl⟩) (nomark _)))))) (pss_one ps_never) pss_nil))))), ?_⟩
    walk_at "rd"
    refine ⟨_, _, _, _, true, rfl, .ty "tuple", ty_tup hS, kit_ty (by decide +kernel), ?_⟩
    walk_at "rd"
    refine ⟨_, .inr hS, ?_⟩
    rw [List.length_map, if_neg (by omega)]
    obtain ⟨Pv, hP⟩ : ∃ P : Nat → L2.St → Hp → Prop, P = fun j σ' G => Ex H G ∧ ∃ s1 s2 : Option V, σ' = [some (.ref q), s1, s2] := ⟨_, rfl⟩
    refine ⟨⟨_, hS⟩, loopE (xs := cs.map V.int) Pv (by rw [hP]; exact ⟨.refl _, _, _, rfl⟩) (fun j σ' G _ h => by rw [hP] at h; exact sqT_kp hS h.1.kp) ?_ ?_⟩
    · intro j x σ' G T G' hx h e1 t1
      rw [hP] at h
      obtain ⟨e0, s1, s2, rfl⟩ := h
      obtain ⟨c, hc, rfl⟩ := map_int_get hx
      have c0 := pos c (List.mem_of_getElem? hc)
      have hj := (List.getElem?_eq_some_iff.mp hc).1
      walk_at "rd"
      refine ⟨_, .of t1, rfl, ?_⟩
      walk_at "rd"
      refine ⟨c, rfl, ?_⟩
      walk_at "rd"
      rw [if_neg (by omega), if_neg (by omega)]
      rw [hP]
      exact ⟨e0.trans e1, _, _, rfl⟩
    · intro σ' G h
      rw [hP] at h
      exact k _ h.1

/-! ### Row -/
/-- what the text's top says of the class -/
structure RowC (K : PySem.W.Frag) (mg : Str → Option Value) (C : Addr) : Prop where
  cl : Cls K C
  nC : NoAttr K C "_counts"
  mgC : mg "Row" = some (.ref C)
  ha : PySem.W.findIn K (.ref C) "__class__" = some (some (.builtin "object.__class__"))
  hn : PySem.W.specialIn K (.builtin "object.__class__") "__get__" = some (some (.builtin "getset_descriptor.__get__"))
  htk : PySem.W.takesIn K (.builtin "object.__class__") = some true
  hm : PySem.W.mroIn K C (.type "object") = some true
theorem RowC.ty {C a dx : Addr} {H : Hp} {fs : List (Str × V)} (R : RowC K mg C) (e : H a = some (.ins C dx fs)) : TyX K H (.ref a) (.ref C) := .base (.ins e R.cl R.ha R.hn R.htk R.hm)
/-- x is a row whose plain counts are ps -/
def IsRow (K : PySem.W.Frag) (C : Addr) (H : Hp) (x : V) (ps : List Int) : Prop :=
  ∃ a dx q, x = .ref a ∧ H a = some (.ins C dx [("_counts", .ref q)]) ∧ SqT K H q (ps.map V.int)
theorem IsRow.kp {C : Addr} {H H' : Hp} {x : V} {ps : List Int} (h : IsRow K C H x ps) (e : Kp H H') : IsRow K C H' x ps := by
  obtain ⟨a, dx, q, rfl, h1, h2⟩ := h
  exact ⟨a, dx, q, rfl, e _ _ h1 (fun _ z => nomatch z), sqT_kp h2 e⟩
def spInit (K : PySem.W.Frag) (C : Addr) : Sp := fun vs H Q _ => ∃ (a dx q : Addr) (cs : List Int), vs = [.ref a, .ref q] ∧ H a = some (.ins C dx []) ∧ SqT K H q (cs.map V.int) ∧ RowOk cs ∧
  ∀ H', (∀ b o, b ≠ a → H b = some o → H' b = some o) → IsRow K C H' (.ref a) (plainL cs) → Q .non H'
theorem scInit : FnScope ["self", "counts", "common", "count"] ["self", "counts"] (defScope (inClass (top 28) 0)) := ⟨rfl, rfl, rfl, by decide +kernel, rfl, by decide +kernel, by decide +kernel⟩
theorem ok_init {C f : Addr} {fd : FuncData} (F : Fun K "__init__" "Row.__init__" (inClass (top 28) 0) f fd) (B : Bi mg) (RC : RowC K mg C) (c_gcd : mg "gcd" = some (.builtin "math.gcd"))
    (h_check_counts : Has P w K mg base "_check_counts" 2 ["counts"] (spCheck K)) : FnOk P w K mg base CX0 3 f fd ["self", "counts"] (spInit K C) := by
  have sc := scInit
  refine F.ok sc (fun vs H Q E h => ?_) (fun cdv A outer s H vs Q E hr h => ?_)
  · obtain ⟨a, dx, q, cs, rfl, _⟩ := h
    rfl
  · obtain ⟨a, dx, q, cs, rfl, hA, hS, ok, k⟩ := h
    obtain ⟨l0, l1, pos, g0, g1⟩ := id ok
    refine ⟨_, (pss_cons (ps_expr (pe_has h_check_counts (hr.mono (by decide)) (pa_cons (pv 1) pa_nil)))
      (pss_cons (ps_set (i := 2) sc.nd rfl (by first | exact Or.inl rfl | exact Or.inr rfl) pe_int)
      (pss_cons (ps_for PassesOwn.never rfl (pi_tup (pv 1)) (pg_name (i := 3) sc.nd rfl (by first | exact Or.inl rfl | exact Or.inr rfl))
      (pss_one (ps_set (i := 2) sc.nd rfl (by first | exact Or.inl rfl | exact Or.inr rfl) (pe_callBfun cr_gcd (by rfl) c_gcd (pa_cons (pv 2) (pa_cons (pv 3) pa_nil))))))
      (pss_cons (ps_if (pt_cmpR op_eq (pv 2) pe_int (nomark _)) (pss_one ps_never) pss_nil)
      (pss_one (ps_fld (pv 0) (pe_callTy (kTuple (K := K)) (by rfl) B.tuple (by decide +kernel) (pa_cons (pe_lc (own := [("count", 3)]) (g := gName 3) (tt := tYes) rfl sc.nd (pi_tup (pv 1)) (blkOk_by (N := (["self", "counts", "common", "count"] : List Str)) (sc := defScope (inClass (top 28) 0)) (by decide +kernel)) (fun _ _ _ _ _ => (pg_name (i := 3) sc.nd rfl (by first | exact Or.inl rfl | exact Or.inr rfl))) (fun _ _ _ _ _ => pts_nil) (fun _ _ _ _ _ => (PE.mon (pe_op op_fdivW (pv 3) (pv 2))))) pa_nil)) rfl)))))), ?_⟩
    walk_at "rd"
    refine ⟨q, cs, rfl, hS, ok, fun H1 e1 => ?_⟩
    walk_at "rd"
    have hS1 := sqT_kp hS e1.kp
    obtain ⟨Pv, hP⟩ : ∃ P : Nat → L2.St → Hp → Prop, P = fun j σ' G => G = H1 ∧ ∃ t : Option V, σ' = [some (.ref a), some (.ref q), some (.int ((gcdL (cs.take j) : Nat) : Int)), t] := ⟨_, rfl⟩
    refine ⟨⟨_, hS1⟩, loopT (xs := cs.map V.int) Pv (by rw [hP]; exact ⟨rfl, _, rfl⟩) (fun j σ' G _ h => by rw [hP] at h; rw [h.1]; exact hS1) ?_ ?_⟩
    · intro j x σ' G hx h
      rw [hP] at h
      obtain ⟨rfl, t, rfl⟩ := h
      obtain ⟨c, hc, rfl⟩ := map_int_get hx
      walk_at "rd"
      refine ⟨_, _, rfl, ?_⟩
      walk_at "rd"
      rw [hP]
      dsimp only
      rw [gcdL_take hc]
      exact ⟨rfl, _, rfl⟩
    · intro σ' G h
      rw [hP] at h
      obtain ⟨rfl, t, rfl⟩ := h
      rw [List.length_map, List.take_length]
      have gI : (0 : Int) < ((gcdL cs : Nat) : Int) := by omega
      have gL : (((gcdL cs : Nat) : Int)).natAbs.log2 < 9000 := by
        rw [Int.natAbs_natCast]
        exact log_lt g1
      walk_at "rd"
      rw [if_neg (by omega)]
      refine ⟨⟨_, hS1⟩, fun Dd hD => lcTn (fun i y _ => ∃ c, cs[i]? = some c ∧ y = .int (c / ((gcdL cs : Nat) : Int))) (fun _ _ _ _ _ h => h) hD hS1 (by rw [List.length_map]; omega) (fun _ => rfl) ?_ ?_⟩
      · intro i x H2 hx e
        obtain ⟨c, hc, rfl⟩ := map_int_get hx
        obtain ⟨R0, hR⟩ : ∃ R : VK, R = fun v H' => v = .int (c / ((gcdL cs : Nat) : Int)) ∧ H' = H2 := ⟨_, rfl⟩
        refine ⟨R0, ?_, fun v H' h => by rw [hR] at h; obtain ⟨rfl, rfl⟩ := h; exact ⟨Ex.refl _, c, hc, rfl⟩⟩
        walk_at "rd"
        refine ⟨⟨gI, gL⟩, ?_⟩
        rw [hR]
        exact ⟨rfl, rfl⟩
      · intro H2 ys e hy hl hr2
        rw [List.length_map] at hl
        have ey := ints_of_map hl hr2
        refine ⟨Dd, _, rfl, .of hy, fun p H3 n3 e3 t3 => ?_⟩
        rw [ey] at t3
        have e13 := (e1.trans e).trans e3
        have hA3 := e13 _ _ hA
        walk_at "rd"
        refine ⟨_, _, _, hA3, RC.cl, RC.nC, by decide, k _ (fun b o n h => by rw [upd_ne n]; exact e13 _ _ h) ⟨a, dx, p, rfl, upd_same, ?_⟩⟩
        exact .of (by rw [upd_ne (ne_of t3 hA3 (fun z => nomatch z))]; exact t3)

/-! ### the properties -/
def spGet (K : PySem.W.Frag) (C : Addr) : Sp := fun vs H Q _ => ∃ (x : V) (ps : List Int), vs = [x] ∧ IsRow K C H x ps ∧ ∀ y, IsInts K H y ps → Q y H
theorem scGet : FnScope ["self"] ["self"] (defScope (inClass (top 28) 2)) := ⟨rfl, rfl, rfl, by decide +kernel, rfl, by decide +kernel, by decide +kernel⟩
theorem look_counts (q : Addr) : List.lookup ("_counts" : Str) [(("_counts" : Str), V.ref q)] = some (.ref q) := by simp [List.lookup]
theorem ok_get {C f : Addr} {fd : FuncData} (F : Fun K "counts" "Row.counts" (inClass (top 28) 2) f fd) (RC : RowC K mg C) : FnOk P w K mg base CX0 1 f fd ["self"] (spGet K C) := by
  have sc := scGet
  refine F.ok sc (fun vs H Q E h => ?_) (fun cdv A outer s H vs Q E hr h => ?_)
  · obtain ⟨x, ps, rfl, _⟩ := h
    rfl
  · obtain ⟨x, ps, rfl, ⟨a, dx, q, rfl, hA, hS⟩, k⟩ := h
    refine ⟨_, (pss_one (ps_ret (kFld (K := K) (pv 0) rfl))), ?_⟩
    walk_at "rd"
    exact ⟨_, _, _, hA, RC.cl, RC.nC, _, look_counts q, k _ ⟨q, rfl, hS⟩⟩
def spDraws (K : PySem.W.Frag) (C : Addr) : Sp := fun vs H Q _ => ∃ (x : V) (ps : List Int), vs = [x] ∧ IsRow K C H x ps ∧ Q (.int ((ps.length : Nat) - 1 : Int)) H
theorem scDraws : FnScope ["self"] ["self"] (defScope (inClass (top 28) 4)) := ⟨rfl, rfl, rfl, by decide +kernel, rfl, by decide +kernel, by decide +kernel⟩
theorem ok_draws {C f : Addr} {fd : FuncData} (F : Fun K "draws" "Row.draws" (inClass (top 28) 4) f fd) (B : Bi mg) (RC : RowC K mg C) : FnOk P w K mg base CX0 1 f fd ["self"] (spDraws K C) := by
  have sc := scDraws
  refine F.ok sc (fun vs H Q E h => ?_) (fun cdv A outer s H vs Q E hr h => ?_)
  · obtain ⟨x, ps, rfl, _⟩ := h
    rfl
  · obtain ⟨x, ps, rfl, ⟨a, dx, q, rfl, hA, hS⟩, k⟩ := h
    refine ⟨_, (pss_one (ps_ret (pe_op op_sub (pe_callB (kLen (K := K)) (by rfl) B.len (by decide +kernel) (pa_cons (kFld (K := K) (pv 0) rfl) pa_nil)) pe_int))), ?_⟩
    walk_at "rd"
    refine ⟨_, _, _, hA, RC.cl, RC.nC, _, look_counts q, ?_⟩
    walk_at "rd"
    refine ⟨_, .inr hS, ?_⟩
    rw [List.length_map]
    exact k
def spLowest (K : PySem.W.Frag) : Sp := fun vs H Q _ => ∃ t b : Int, vs = [.int t, .int b] ∧ 0 < b ∧ b.natAbs < 2 ^ 8990 ∧
  ∀ x H', Ex H H' → IsFr K H' x ((t : Rat) / (b : Rat)) → Q x H'
theorem scLowest : FnScope ["top", "bottom", "common"] ["top", "bottom"] (defScope (top 20)) := ⟨rfl, rfl, rfl, by decide +kernel, rfl, by decide +kernel, by decide +kernel⟩
theorem has_lowest (c_gcd : mg "gcd" = some (.builtin "math.gcd")) (D : Df K mg "lowest" (top 20) ["top", "bottom"]) : Has P w K mg base "lowest" 1 ["top", "bottom"] (spLowest K) := by
  have sc := scLowest
  refine .of D fun f fd F => F.ok sc (fun vs H Q E h => ?_) (fun cdv A outer s H vs Q E hr h => ?_)
  · obtain ⟨t, b, rfl, _⟩ := h
    rfl
  · obtain ⟨t, b, rfl, b0, b1, k⟩ := h
    obtain ⟨g0, g1⟩ := gcd_small (t := t) b0 b1
    refine ⟨_, (pss_cons (ps_set (i := 2) sc.nd rfl (by first | exact Or.inl rfl | exact Or.inr rfl) (pe_callBfun cr_gcd (by rfl) c_gcd (pa_cons (pv 0) (pa_cons (pv 1) pa_nil))))
      (pss_one (ps_ret (pe_tupN (pa_cons (pe_op op_fdivW (pv 0) (pv 2)) (pa_cons (pe_op op_fdivW (pv 1) (pv 2)) pa_nil)))))), ?_⟩
    walk_at "rd"
    refine ⟨_, _, rfl, ?_⟩
    have eg : ((Nat.gcd t.natAbs b.natAbs : Nat) : Int) = ((Int.gcd b t : Nat) : Int) := by
      rw [Nat.gcd_comm]
      rfl
    rw [eg]
    walk_at "rd"
    refine ⟨⟨g0, log_lt g1⟩, ⟨g0, log_lt g1⟩, by decide, fun p H1 n1 e1 t1 => k _ _ e1 ⟨p, rfl, ?_⟩⟩
    rw [← part_eq b0]
    exact .of t1
/-- a tuple whose items tell the fractions -/
def FrsAt (K : PySem.W.Frag) (H : Hp) (xs : List V) (rs : List Rat) : Prop := xs.length = rs.length ∧ ∀ (i : Nat) x, xs[i]? = some x → ∃ r, rs[i]? = some r ∧ IsFr K H x r
theorem FrsAt.kp {H H' : Hp} {xs : List V} {rs : List Rat} (h : FrsAt K H xs rs) (e : Kp H H') : FrsAt K H' xs rs :=
  ⟨h.1, fun i x hx => let ⟨r, h1, h2⟩ := h.2 i x hx; ⟨r, h1, h2.kp e⟩⟩
def IsFrs (K : PySem.W.Frag) (H : Hp) (x : V) (rs : List Rat) : Prop := ∃ p xs, x = .ref p ∧ SqT K H p xs ∧ FrsAt K H xs rs
theorem IsFrs.kp {H H' : Hp} {x : V} {rs : List Rat} (h : IsFrs K H x rs) (e : Kp H H') : IsFrs K H' x rs := by
  obtain ⟨p, xs, rfl, h1, h2⟩ := h
  exact ⟨p, xs, rfl, sqT_kp h1 e, h2.kp e⟩
theorem frs_dp {H : Hp} : ∀ {xs : List V} {rs : List Rat}, FrsAt K H xs rs → DpAll K H xs (rs.map frD)
  | [], [], _ => .nil
  | [], _ :: _, h => by cases h.1
  | _ :: _, [], h => by cases h.1
  | x :: xs, r :: rs, h => by
    refine .cons ?_ (frs_dp ⟨by simpa using h.1, fun i y hy => by simpa using h.2 (i + 1) y (by simpa using hy)⟩)
    obtain ⟨r', e, q⟩ := h.2 0 x rfl
    cases e
    exact q.dp
/-- rates of plain counts -/
def ratesL (ps : List Int) : List Rat := ps.map fun p => ((p : Int) : Rat) / ((ps.sum : Int) : Rat)
def spRates (K : PySem.W.Frag) (C : Addr) : Sp := fun vs H Q _ => ∃ (x : V) (ps : List Int), vs = [x] ∧ IsRow K C H x ps ∧ ps.length ≤ 1000 ∧ 0 < ps.sum ∧ ps.sum.natAbs < 2 ^ 8990 ∧ ∀ y H', Ex H H' → IsFrs K H' y (ratesL ps) → Q y H'
theorem scRates : FnScope ["self", "total", "count"] ["self"] (defScope (inClass (top 28) 3)) := ⟨rfl, rfl, rfl, by decide +kernel, rfl, by decide +kernel, by decide +kernel⟩
theorem ok_rates {C f : Addr} {fd : FuncData} (F : Fun K "rates" "Row.rates" (inClass (top 28) 3) f fd) (B : Bi mg) (RC : RowC K mg C) (hlowest : Has P w K mg base "lowest" 1 ["top", "bottom"] (spLowest K)) : FnOk P w K mg base CX0 2 f fd ["self"] (spRates K C) := by
  have sc := scRates
  refine F.ok sc (fun vs H Q E h => ?_) (fun cdv A outer s H vs Q E hr h => ?_)
  · obtain ⟨x, ps, rfl, _⟩ := h
    rfl
  · obtain ⟨x, ps, rfl, ⟨a, dx, q, rfl, hA, hS⟩, hlen, s0, s1, k⟩ := h
    refine ⟨_, (pss_cons (ps_set (i := 1) sc.nd rfl (by first | exact Or.inl rfl | exact Or.inr rfl) (pe_callB (kSum (K := K) rfl) (by rfl) B.sum (by decide +kernel) (pa_cons (kFld (K := K) (pv 0) rfl) pa_nil)))
      (pss_one (ps_ret (pe_callTy (kTuple (K := K)) (by rfl) B.tuple (by decide +kernel) (pa_cons (pe_lc (own := [("count", 2)]) (g := gName 2) (tt := tYes) rfl sc.nd (pi_tup (kFld (K := K) (pv 0) rfl)) (blkOk_by (N := (["self", "total", "count"] : List Str)) (sc := defScope (inClass (top 28) 3)) (by decide +kernel)) (fun _ _ _ _ _ => (pg_name (i := 2) sc.nd rfl (by first | exact Or.inl rfl | exact Or.inr rfl))) (fun _ _ _ _ _ => pts_nil) (fun _ _ _ _ _ => (PE.mon (pe_has hlowest (hr.mono (by decide)) (pa_cons (pv 2) (pa_cons (pv 1) pa_nil)))))) pa_nil))))), ?_⟩
    walk_at "rd"
    refine ⟨_, _, _, hA, RC.cl, RC.nC, _, look_counts q, ?_⟩
    refine ⟨q, ps, rfl, .inr hS, ?_⟩
    walk_at "rd"
    refine ⟨_, _, _, hA, RC.cl, RC.nC, _, look_counts q, q, rfl, ⟨_, hS⟩, fun Dd hD => ?_⟩
    refine lcTn (fun i y G => ∃ c, ps[i]? = some c ∧ IsFr K G y (((c : Int) : Rat) / ((ps.sum : Int) : Rat))) (fun i y G G' e ⟨c, h1, h2⟩ => ⟨c, h1, h2.kp e⟩) hD hS (by rw [List.length_map]; omega) (fun _ => rfl) ?_ ?_
    · intro i x H2 hx e
      obtain ⟨c, hc, rfl⟩ := map_int_get hx
      obtain ⟨R0, hR⟩ : ∃ R : VK, R = fun v H' => Ex H2 H' ∧ IsFr K H' v (((c : Int) : Rat) / ((ps.sum : Int) : Rat)) := ⟨_, rfl⟩
      refine ⟨R0, ?_, fun v H' h => by rw [hR] at h; exact ⟨h.1, c, hc, h.2⟩⟩
      walk_at "rd"
      refine ⟨c, ps.sum, rfl, s0, s1, fun y G e2 hy => ?_⟩
      rw [hR]
      exact ⟨e2, hy⟩
    · intro H2 ys e hy hl hr2
      rw [List.length_map] at hl
      refine ⟨Dd, _, rfl, .of hy, fun p H3 n3 e3 t3 => k _ _ (e.trans e3) ⟨p, ys, rfl, .of t3, ?_, fun i y hi => ?_⟩⟩
      · rw [hl]
        simp [ratesL]
      · obtain ⟨c, h1, h2⟩ := hr2 i y hi
        exact ⟨_, by simp [ratesL, h1], h2.kp e3.kp⟩
end

section
variable {P : Program} {w : World} {K : PySem.W.Frag} {mg : Str → Option Value} {base : Heap}
/-! ### rows compared, the rules of rows -/
def spEqR (K : PySem.W.Frag) (C : Addr) : Sp := fun vs H Q _ => ∃ (x y : V) (ps qs : List Int), vs = [x, y] ∧ IsRow K C H x ps ∧ IsRow K C H y qs ∧ Q (.bl (PyData.eqv (intsD ps) (intsD qs))) H
theorem scEq : FnScope ["self", "other"] ["self", "other"] (defScope (inClass (top 28) 7)) := ⟨rfl, rfl, rfl, by decide +kernel, rfl, by decide +kernel, by decide +kernel⟩
theorem shaped_ints (cs : List Int) : SeqAt.shaped (intsD cs) = true := by
  have h : ∀ cs : List Int, PyData.canLayAll0 (cs.map PyData.int) = true ∧ PyData.depthAll (cs.map PyData.int) = 0 := by
    intro cs
    induction cs with
    | nil => exact ⟨by simp [PyData.canLayAll0], by simp [PyData.depthAll]⟩
    | cons c cs ih => exact ⟨by simp [PyData.canLayAll0, PyData.canLay0, ih.1], by simp [PyData.depthAll, PyData.depth, ih.2]⟩
  unfold SeqAt.shaped intsD
  simp [PyData.canLay0, PyData.depth, (h cs).1, (h cs).2]
theorem ok_eq {C f : Addr} {fd : FuncData} (F : Fun K "__eq__" "Row.__eq__" (inClass (top 28) 7) f fd) (B : Bi mg) (RC : RowC K mg C) : FnOk P w K mg base CX0 1 f fd ["self", "other"] (spEqR K C) := by
  have sc := scEq
  refine F.ok sc (fun vs H Q E h => ?_) (fun cdv A outer s H vs Q E hr h => ?_)
  · obtain ⟨x, y, ps, qs, rfl, _⟩ := h
    rfl
  · obtain ⟨x, y, ps, qs, rfl, ⟨a, dx, p, rfl, hA, hS⟩, ⟨b, dy, q, rfl, hB, hT⟩, k⟩ := h
    refine ⟨_, (pss_one (ps_ret (pe_and (pe_callB (kIsi (K := K)) (by rfl) B.isinstance (by decide +kernel) (pa_cons (pv 1) (pa_cons (pe_glob (v := .ref C) rfl RC.mgC rfl) pa_nil))) (pe_one (pe_cmpR (op_eqD hr.units) (pe_fld (pv 0) rfl) (pe_fld (pv 1) rfl) (nomark _)))))), ?_⟩
    walk_at "rd"
    refine ⟨_, _, _, _, true, rfl, .own C, RC.ty hB, by simp [PySem.W.kitOne], ?_⟩
    walk_at "rd"
    refine ⟨_, _, _, hA, RC.cl, RC.nC, _, look_counts p, _, _, _, hB, RC.cl, RC.nC, _, look_counts q, ?_⟩
    exact ⟨intsD ps, intsD qs, .tup hS (dp_ints _), .tup hT (dp_ints _), shaped_ints _, shaped_ints _, k⟩

/-- the class Row as the text makes it: its parts keep what they promise -/
structure RowT (P : Program) (w : World) (K : PySem.W.Frag) (mg : Str → Option Value) (base : Heap) (C : Addr) : Prop where
  rc : RowC K mg C
  init : ∃ f fd, Mk K C f ∧ FnOk P w K mg base CX0 3 f fd ["self", "counts"] (spInit K C) ∧ Binds K fd ["self", "counts"] []
  counts : ∃ p g fd, PropOf K C "counts" p g ∧ FnOk P w K mg base CX0 1 g fd ["self"] (spGet K C) ∧ Binds K fd ["self"] []
  draws : ∃ p g fd, PropOf K C "draws" p g ∧ FnOk P w K mg base CX0 1 g fd ["self"] (spDraws K C) ∧ Binds K fd ["self"] []
  rates : ∃ p g fd, PropOf K C "rates" p g ∧ FnOk P w K mg base CX0 2 g fd ["self"] (spRates K C) ∧ Binds K fd ["self"] []
  eq : ∃ f fd, PySem.W.findIn K (.ref C) "__eq__" = some (some (.ref f)) ∧ PySem.W.isFn K (.ref f) = true ∧ FnOk P w K mg base CX0 1 f fd ["self", "other"] (spEqR K C) ∧ Binds K fd ["self", "other"] []
  ne : ∃ (f N : Addr) (of : Obj) (nm q : Str) (bs : List Value) (hdct : Bool) (sn : List Str) (sub : List Value) (ab : Bool) (col : Option Bool) (dd : Option Addr) (k0 k1 k2 k3 k5 : Option Value) (newId : String),
    PySem.W.findIn K (.ref C) "__eq__" = some (some (.ref f)) ∧ K.lookup C = some (excClassObj nm q C N bs [.type "object"] hdct sn sub ab col dd k0 k1 k2 k3 k5 newId) ∧ PySem.W.nsOkIn K N = true ∧
    PySem.W.nsIn K N "__eq__" = some (some (.ref f)) ∧ PySem.W.nsIn K N "__ne__" = some none ∧ K.lookup f = some of ∧ of.cls = .type "function"

theorem ns_some {h : Heap} {N : Addr} {m : Str → Option Value} {n : Str} {v : Value} (X : K.In h) (G : h.Ns N m) (e : PySem.W.nsIn K N n = some (some v)) : m n = some v := by
  obtain ⟨o, es, ep, ho, hd, ok, hf⟩ := G
  unfold PySem.W.nsIn at e
  split at e
  · rename_i q
    have z := X _ _ q
    rw [ho] at z
    cases z
    cases hd
    split at e
    · rename_i en hen
      cases e
      rw [← hf]
      unfold nsFind findBy
      rw [← Array.find?_toList, hen]
      rfl
    · split at e <;> cases e
  · cases e
section
variable {X : Cx} {C : Addr} {e : Expr} {es : List Expr} {te : TE} {t : TA} {p pos : Pos}
/-- Row(e) -/
def tRow (K : PySem.W.Frag) (C : Addr) (t : TA) : TE := fun σ H Q => t σ H fun vs H1 => ∃ (y : V) (cs : List Int), vs = [y] ∧ IsInts K H1 y cs ∧ RowOk cs ∧ ∀ x H2, Ex H1 H2 → IsRow K C H2 x (plainL cs) → Q x H2
theorem pe_row (T : RowT X.prog X.w X.K X.mg X.base C) (hr : Room 4 X.A) (ha : PA X (e :: es) t) (hg : Gl X "Row" := by rfl)
    (he : starEach (e :: es) X.env = (false, eval e X.env) :: starEach es X.env := by rfl) (hpl : (backTo pos (starEach es X.env)).any (·.1) = false := by rfl) :
    PE X (.Call (.Name "Row" p) (e :: es) [] pos) (tRow X.K C t) := by
  obtain ⟨f, fd, M, F, hb⟩ := T.init
  have q := pe_make (X := X) (p := p) (pos := pos) M F hr hg T.rc.mgC hb .nil (pass0 (X := X)) (PA.mon ha) (by decide) he hpl
  refine ⟨fun pins s σ H Q I hq => q.run pins s σ H Q I ⟨_, hq, ?_⟩⟩
  intro vs H1 ⟨y, cs, ev, ⟨qa, ey, hS⟩, ok, k⟩ x dx nx ndx nex
  subst ev ey
  have e1 : Ex H1 (upd (upd H1 dx (.own x)) x (.ins C dx [])) := fun b o h => by
    rw [upd_ne (ne_of_none h nx), upd_ne (ne_of_none h ndx)]
    exact h
  refine ⟨x, dx, qa, cs, rfl, upd_same, sqT_kp hS e1.kp, ok, fun H2 keep hrow => ⟨rfl, k _ _ (fun b o h => ?_) hrow⟩⟩
  exact keep b o (ne_of_none h nx) (e1 b o h)
/-- e.counts -/
def tCounts (K : PySem.W.Frag) (C : Addr) (te : TE) : TE := fun σ H Q => te σ H fun x H1 => ∃ ps, IsRow K C H1 x ps ∧ ∀ y, IsInts K H1 y ps → Q y H1
theorem pe_counts (T : RowT X.prog X.w X.K X.mg X.base C) (hr : Room 2 X.A) (he : PE X e te) (hab : attributeBase e "counts" X.env (eval e X.env) = eval e X.env := by rfl) : PE X (.Attribute e "counts" pos) (tCounts X.K C te) := by
  obtain ⟨pr, g, fd, hp, F, hb⟩ := T.counts
  have q := pe_prop (X := X) (pos := pos) (PE.mon he) T.rc.cl hp F hr hb .nil (pass0 (X := X.nox)) hab
  refine ⟨fun pins s σ H Q I hq => q.run pins s σ H Q I ⟨_, hq, ?_⟩⟩
  intro x H1 ⟨ps, hrow, k⟩
  obtain ⟨a, dx, qa, ex, hA, hS⟩ := id hrow
  exact ⟨a, dx, _, ex, hA, x, ps, by rw [ex], hrow, k⟩
def tDraws (K : PySem.W.Frag) (C : Addr) (te : TE) : TE := fun σ H Q => te σ H fun x H1 => ∃ ps : List Int, IsRow K C H1 x ps ∧ Q (.int ((ps.length : Nat) - 1 : Int)) H1
theorem pe_draws (T : RowT X.prog X.w X.K X.mg X.base C) (hr : Room 2 X.A) (he : PE X e te) (hab : attributeBase e "draws" X.env (eval e X.env) = eval e X.env := by rfl) : PE X (.Attribute e "draws" pos) (tDraws X.K C te) := by
  obtain ⟨pr, g, fd, hp, F, hb⟩ := T.draws
  have q := pe_prop (X := X) (pos := pos) (PE.mon he) T.rc.cl hp F hr hb .nil (pass0 (X := X.nox)) hab
  refine ⟨fun pins s σ H Q I hq => q.run pins s σ H Q I ⟨_, hq, ?_⟩⟩
  intro x H1 ⟨ps, hrow, k⟩
  obtain ⟨a, dx, qa, ex, hA, hS⟩ := id hrow
  exact ⟨a, dx, _, ex, hA, x, ps, by rw [ex], hrow, k⟩
def tRates (K : PySem.W.Frag) (C : Addr) (te : TE) : TE := fun σ H Q => te σ H fun x H1 => ∃ ps : List Int, IsRow K C H1 x ps ∧ ps.length ≤ 1000 ∧ 0 < ps.sum ∧ ps.sum.natAbs < 2 ^ 8990 ∧ ∀ y H', Ex H1 H' → IsFrs K H' y (ratesL ps) → Q y H'
theorem pe_rates (T : RowT X.prog X.w X.K X.mg X.base C) (hr : Room 3 X.A) (he : PE X e te) (hab : attributeBase e "rates" X.env (eval e X.env) = eval e X.env := by rfl) : PE X (.Attribute e "rates" pos) (tRates X.K C te) := by
  obtain ⟨pr, g, fd, hp, F, hb⟩ := T.rates
  have q := pe_prop (X := X) (pos := pos) (PE.mon he) T.rc.cl hp F hr hb .nil (pass0 (X := X.nox)) hab
  refine ⟨fun pins s σ H Q I hq => q.run pins s σ H Q I ⟨_, hq, ?_⟩⟩
  intro x H1 ⟨ps, hrow, k⟩
  obtain ⟨a, dx, qa, ex, hA, hS⟩ := id hrow
  exact ⟨a, dx, _, ex, hA, x, ps, by rw [ex], hrow, k⟩
/-- x != y, two rows -/
def rNeRow (K : PySem.W.Frag) (C : Addr) : R2 := fun x y H Q => ∃ ps qs, IsRow K C H x ps ∧ IsRow K C H y qs ∧ Q (.bl (!PyData.eqv (intsD ps) (intsD qs))) H
theorem op_neRow (T : RowT X.prog X.w X.K X.mg X.base C) (hr : Room 2 X.A) : OpR X (compareOp .NotEq) (rNeRow X.K C) := by
  intro pins s σ H x y v u Q I rx ry ⟨ps, qs, ⟨a, dx, p, ex, hA, hS⟩, ⟨b, dy, q, ey, hB, hT⟩, k⟩
  subst ex ey
  obtain rfl : v = Value.ref a := rx
  obtain rfl : u = Value.ref b := ry
  obtain ⟨f, fd, f1, f2, F, hb⟩ := T.eq
  obtain ⟨f', N, of, nm, qn, bs, hdct, sn, sub, ab, col, dd, k0, k1, k2, k3, k5, newId, f3, lC, okN, n1, n2, lf, cf⟩ := T.ne
  have ef : f' = f := by
    rw [f1] at f3
    cases f3
    rfl
  subst ef
  obtain ⟨mA, OA, _⟩ := ins_get I.hok hA
  obtain ⟨mB, OB, _⟩ := ins_get I.hok hB
  have KI := I.kIn
  obtain ⟨hp, g, d, tk, os⟩ := s
  have hns : hp.Ns N (hp.nsMap N) := .of_isNs (PySem.W.isNs_of_in KI okN)
  have nNe : hp.nsMap N "__ne__" = none := PySem.W.ns_none_of KI hns n2
  have nEq : hp.nsMap N "__eq__" = some (.ref f') := ns_some KI hns n1
  have OE : hp.OwnEqNoNe a C f' "object" [.type "object"] :=
    ⟨_, of, nm, qn, N, bs, hdct, sn, sub, ab, col, dd, k0, k1, k2, k3, k5, newId, _, _, OA.obj, rfl, KI _ _ lC, hns, nEq, KI _ _ lf, cf, PySem.F.cmp_object.mro, rfl, nNe⟩
  refine compareOp_ne_ownEq PySem.F.cmp_object OE OB.obj rfl (by have := hr.un; omega) ?_
  have hsp : spEqR X.K C [.ref a, .ref b] H (fun v H' => v = .bl (PyData.eqv (intsD ps) (intsD qs)) ∧ H' = H) E0 :=
    ⟨.ref a, .ref b, ps, qs, rfl, ⟨a, dx, p, rfl, hA, hS⟩, ⟨b, dy, q, rfl, hB, hT⟩, rfl, rfl⟩
  have hl := F.len _ _ _ _ hsp
  have r2 : Vals [V.ref a, V.ref b] [Value.ref a, Value.ref b] := .cons rfl (.cons rfl .nil)
  have bnd := hb ⟨hp, g, d, tk, os⟩ [.ref a, .ref b] KI (by simpa using hl)
  rw [List.append_nil] at bnd
  refine wpAny_call (codeAny_mono (F.run X.A.in1 X.stack ⟨hp, g, d, tk, os⟩ H ⟨[.ref a, .ref b], []⟩ [.ref a, .ref b] [.ref a, .ref b] _ E0 hr.in1 I.env0.in1 bnd r2 hsp) fun res s' hq => ?_)
  cases res with
  | error er => exact (pass0 (X := X)) pins σ H _ er s' I hq
  | ok fl =>
    cases fl with
    | next => exact hq.elim
    | brk => exact hq.elim
    | cont => exact hq.elim
    | ret z =>
      obtain ⟨y, H', I', rz, ez, eh⟩ := I.after hq
      subst ez eh
      obtain rfl : z = Value.bool _ := rz
      exact ⟨_, rfl, .bl (!PyData.eqv (intsD ps) (intsD qs)), _, I', rfl, k⟩
end
end
section
variable {X : Cx} {K : PySem.W.Frag}
section
variable {P : Program} {w : World} {mg : Str → Option Value} {base : Heap} {C : Addr} {e : Expr} {es : List Expr} {te : TE} {t : TA} {p pos : Pos}
/-- where the block stands -/
def At (X : Cx) (P : Program) (w : World) (K : PySem.W.Frag) (mg : Str → Option Value) (base : Heap) : Prop := X.prog = P ∧ X.w = w ∧ X.K = K ∧ X.mg = mg ∧ X.base = base
theorem kRow (T : RowT P w K mg base C) (hr : Room 4 X.A) (ha : PA X (e :: es) t) (hx : At X P w K mg base := by exact ⟨rfl, rfl, rfl, rfl, rfl⟩) (hg : Gl X "Row" := by rfl)
    (he : starEach (e :: es) X.env = (false, eval e X.env) :: starEach es X.env := by rfl) (hpl : (backTo pos (starEach es X.env)).any (·.1) = false := by rfl) :
    PE X (.Call (.Name "Row" p) (e :: es) [] pos) (tRow K C t) := by
  obtain ⟨h1, h2, h3, h4, h5⟩ := hx
  subst h1 h2 h3 h4 h5
  exact pe_row T hr ha hg he hpl
theorem kCounts (T : RowT P w K mg base C) (hr : Room 2 X.A) (he : PE X e te) (hx : At X P w K mg base := by exact ⟨rfl, rfl, rfl, rfl, rfl⟩) (hab : attributeBase e "counts" X.env (eval e X.env) = eval e X.env := by rfl) : PE X (.Attribute e "counts" pos) (tCounts K C te) := by
  obtain ⟨h1, h2, h3, h4, h5⟩ := hx
  subst h1 h2 h3 h4 h5
  exact pe_counts T hr he hab
theorem kDraws (T : RowT P w K mg base C) (hr : Room 2 X.A) (he : PE X e te) (hx : At X P w K mg base := by exact ⟨rfl, rfl, rfl, rfl, rfl⟩) (hab : attributeBase e "draws" X.env (eval e X.env) = eval e X.env := by rfl) : PE X (.Attribute e "draws" pos) (tDraws K C te) := by
  obtain ⟨h1, h2, h3, h4, h5⟩ := hx
  subst h1 h2 h3 h4 h5
  exact pe_draws T hr he hab
theorem kRates (T : RowT P w K mg base C) (hr : Room 3 X.A) (he : PE X e te) (hx : At X P w K mg base := by exact ⟨rfl, rfl, rfl, rfl, rfl⟩) (hab : attributeBase e "rates" X.env (eval e X.env) = eval e X.env := by rfl) : PE X (.Attribute e "rates" pos) (tRates K C te) := by
  obtain ⟨h1, h2, h3, h4, h5⟩ := hx
  subst h1 h2 h3 h4 h5
  exact pe_rates T hr he hab
theorem kNeRow (T : RowT P w K mg base C) (hr : Room 2 X.A) (hx : At X P w K mg base := by exact ⟨rfl, rfl, rfl, rfl, rfl⟩) : OpR X (compareOp .NotEq) (rNeRow K C) := by
  obtain ⟨h1, h2, h3, h4, h5⟩ := hx
  subst h1 h2 h3 h4 h5
  exact op_neRow T hr
end
section
variable {D : Ends} {σ : L2.St} {H : Hp} {te : TE} {tx : TA} {Q : VK} {C : Addr}
theorem r_counts : tCounts K C te σ H Q = te σ H fun x H1 => ∃ ps, IsRow K C H1 x ps ∧ ∀ y, IsInts K H1 y ps → Q y H1 := rfl
theorem r_draws : tDraws K C te σ H Q = te σ H fun x H1 => ∃ ps : List Int, IsRow K C H1 x ps ∧ Q (.int ((ps.length : Nat) - 1 : Int)) H1 := rfl
theorem r_rates : tRates K C te σ H Q = te σ H fun x H1 => ∃ ps : List Int, IsRow K C H1 x ps ∧ ps.length ≤ 1000 ∧ 0 < ps.sum ∧ ps.sum.natAbs < 2 ^ 8990 ∧ ∀ y H', Ex H1 H' → IsFrs K H' y (ratesL ps) → Q y H' := rfl
theorem r_row : tRow K C tx σ H Q = tx σ H fun vs H1 => ∃ (y : V) (cs : List Int), vs = [y] ∧ IsInts K H1 y cs ∧ RowOk cs ∧ ∀ x H2, Ex H1 H2 → IsRow K C H2 x (plainL cs) → Q x H2 := rfl
end
end

section
variable {P : Program} {w : World} {K : PySem.W.Frag} {mg : Str → Option Value} {base : Heap}
/-! ### _law_sum -/
def SeqFrs (K : PySem.W.Frag) (H : Hp) (x : V) (rs : List Rat) : Prop := ∃ p xs, x = .ref p ∧ (SqT K H p xs ∨ SqL K H p xs) ∧ FrsAt K H xs rs
theorem IsFrs.seq {H : Hp} {x : V} {rs : List Rat} (h : IsFrs K H x rs) : SeqFrs K H x rs := by
  obtain ⟨p, xs, rfl, h1, h2⟩ := h
  exact ⟨p, xs, rfl, .inl h1, h2⟩
def spSum (K : PySem.W.Frag) : Sp := fun vs H Q _ => ∃ (x : V) (rs : List Rat) (n : Nat), vs = [x] ∧ SeqFrs K H x rs ∧ (∀ r ∈ rs, sz r n) ∧ rs.length * (n + 1) + n + 2 ≤ 8900 ∧
  ∀ y H', Ex H H' → IsFr K H' y (sumR rs) → Q y H'
theorem scSum : FnScope ["parts_here", "found", "top", "bottom"] ["parts_here"] (defScope (top 45)) := ⟨rfl, rfl, rfl, by decide +kernel, rfl, by decide +kernel, by decide +kernel⟩
theorem at0 {r : Rat} : atI (fr r) 0 = some (.int r.num) := rfl
theorem at1 {r : Rat} : atI (fr r) 1 = some (.int ((r.den : Nat) : Int)) := rfl
theorem has_sum (h_law_part : Has P w K mg base "_law_part" 2 ["top", "bottom"] (spPart K)) (D : Df K mg "_law_sum" (top 45) ["parts_here"]) : Has P w K mg base "_law_sum" 3 ["parts_here"] (spSum K) := by
  have sc := scSum
  refine .of D fun f fd F => F.ok sc (fun vs H Q E h => ?_) (fun cdv A outer s H vs Q E hr h => ?_)
  · obtain ⟨x, rs, n, rfl, _⟩ := h
    rfl
  · obtain ⟨_, rs, n, rfl, ⟨p, xs, rfl, hS, hF⟩, hz, hn, k⟩ := h
    obtain ⟨Pv, hP⟩ : ∃ P : Nat → L2.St → Hp → Prop, P = fun j σ' G => Ex H G ∧ ∃ (y : V) (s2 s3 : Option V), σ' = [some (.ref p), some y, s2, s3] ∧ IsFr K G y (sumR (rs.take j)) := ⟨_, rfl⟩
    have step : ∀ (i : Nat) (r : Rat), rs[i]? = some r → sz (sumR (rs.take i)) (i * (n + 1) + 1) ∧ sz r n ∧ (i + 1) * (n + 1) + n + 2 ≤ 8900 := by
      intro i r hr
      have hi := (List.getElem?_eq_some_iff.mp hr).1
      refine ⟨sz_sum rs i hz (by omega), hz r (List.mem_of_getElem? hr), ?_⟩
      have := Nat.mul_le_mul_right (n + 1) (show i + 1 ≤ rs.length by omega)
      omega
    rcases hS with hS | hS
    · refine ⟨_, (pss_cons (ps_set (i := 1) sc.nd rfl (by first | exact Or.inl rfl | exact Or.inr rfl) (pe_tupN (pa_cons pe_int (pa_cons pe_int pa_nil))))
      (pss_cons (ps_for PassesOwn.never rfl (pi_tup (pv 0)) (pg_tup rfl (pgs_cons (pg_name (i := 2) sc.nd rfl (by first | exact Or.inl rfl | exact Or.inr rfl)) (pgs_cons (pg_name (i := 3) sc.nd rfl (by first | exact Or.inl rfl | exact Or.inr rfl)) pgs_nil)))
      (pss_one (ps_set (i := 1) sc.nd rfl (by first | exact Or.inl rfl | exact Or.inr rfl) (pe_has h_law_part (hr.mono (by decide)) (pa_cons (pe_op op_add (pe_op op_mulS (pe_ix (ixT (K := K)) (pv 1) pe_int (fun _ _ => rfl)) (pv 3)) (pe_op op_mulS (pv 2) (pe_ix (ixT (K := K)) (pv 1) pe_int (fun _ _ => rfl)))) (pa_cons (pe_op op_mulS (pe_ix (ixT (K := K)) (pv 1) pe_int (fun _ _ => rfl)) (pv 3)) pa_nil))))))
      (pss_one (ps_ret (pv 1))))), ?_⟩
      walk_at "rd"
      refine ⟨by decide, fun q H1 n1 e1 t1 => ?_⟩
      have hF1 := hF.kp e1.kp
      walk_at "rd"
      refine ⟨⟨_, sqT_kp hS e1.kp⟩, loopT (xs := xs) Pv (by rw [hP]; exact ⟨e1, _, _, _, rfl, q, rfl, .of t1⟩) (fun j σ' G _ h => by rw [hP] at h; exact sqT_kp hS h.1.kp) ?_ ?_⟩
      · intro j x σ' G hx h
        rw [hP] at h
        obtain ⟨e, _, s2, s3, rfl, ⟨y, rfl, hy⟩⟩ := h
        obtain ⟨r, hr1, a, rfl, ha⟩ := (hF.kp e.kp).2 j x hx
        obtain ⟨z1, z2, z3⟩ := step j r hr1
        rw [Nat.add_mul] at z3
        walk_at "rd"
        refine ⟨_, ha, rfl, ?_⟩
        unfold fr
        walk_at "rd"
        refine q_ixT hy at0 ?_
        walk_at "rd"
        refine ⟨cmul 9000 9000 (lt2_mono z1.1 (by omega)) (lt2_mono (den_lt z2) (by omega)), ?_⟩
        refine q_ixT hy at1 ?_
        walk_at "rd"
        refine ⟨cmul 9000 9000 (lt2_mono z2.1 (by omega)) (lt2_mono (den_lt z1) (by omega)), ?_⟩
        refine q_ixT hy at1 ?_
        walk_at "rd"
        refine ⟨cmul 9000 9000 (lt2_mono (den_lt z1) (by omega)) (lt2_mono (den_lt z2) (by omega)), ?_⟩
        refine ⟨_, _, rfl, Int.mul_pos (den_pos _) (den_pos _), lt2_mono (wide_lt (den_lt z1) (den_lt z2)) (by omega), fun y2 H2 e2 h2 => ?_⟩
        rw [add_parts] at h2
        rw [hP]
        refine ⟨e.trans e2, _, _, _, rfl, ?_⟩
        rw [sumR_take hr1]
        exact h2
      · intro σ' G h
        rw [hP] at h
        obtain ⟨e, y, s2, s3, rfl, hy⟩ := h
        rw [hF.1, List.take_length] at hy
        walk_at "rd"
        exact k _ _ e hy
    · refine ⟨_, (pss_cons (ps_set (i := 1) sc.nd rfl (by first | exact Or.inl rfl | exact Or.inr rfl) (pe_tupN (pa_cons pe_int (pa_cons pe_int pa_nil))))
      (pss_cons (ps_for PassesOwn.never rfl (pi_list (pv 0)) (pg_tup rfl (pgs_cons (pg_name (i := 2) sc.nd rfl (by first | exact Or.inl rfl | exact Or.inr rfl)) (pgs_cons (pg_name (i := 3) sc.nd rfl (by first | exact Or.inl rfl | exact Or.inr rfl)) pgs_nil)))
      (pss_one (ps_set (i := 1) sc.nd rfl (by first | exact Or.inl rfl | exact Or.inr rfl) (pe_has h_law_part (hr.mono (by decide)) (pa_cons (pe_op op_add (pe_op op_mulS (pe_ix (ixT (K := K)) (pv 1) pe_int (fun _ _ => rfl)) (pv 3)) (pe_op op_mulS (pv 2) (pe_ix (ixT (K := K)) (pv 1) pe_int (fun _ _ => rfl)))) (pa_cons (pe_op op_mulS (pe_ix (ixT (K := K)) (pv 1) pe_int (fun _ _ => rfl)) (pv 3)) pa_nil))))))
      (pss_one (ps_ret (pv 1))))), ?_⟩
      walk_at "rd"
      refine ⟨by decide, fun q H1 n1 e1 t1 => ?_⟩
      have hF1 := hF.kp e1.kp
      walk_at "rd"
      refine ⟨⟨_, sqL_ex hS e1⟩, loopL (xs := xs) Pv (by rw [hP]; exact ⟨e1, _, _, _, rfl, q, rfl, .of t1⟩) (fun j σ' G _ h => by rw [hP] at h; exact sqL_ex hS h.1) ?_ ?_⟩
      · intro j x σ' G hx h
        rw [hP] at h
        obtain ⟨e, _, s2, s3, rfl, ⟨y, rfl, hy⟩⟩ := h
        obtain ⟨r, hr1, a, rfl, ha⟩ := (hF.kp e.kp).2 j x hx
        obtain ⟨z1, z2, z3⟩ := step j r hr1
        rw [Nat.add_mul] at z3
        walk_at "rd"
        refine ⟨_, ha, rfl, ?_⟩
        unfold fr
        walk_at "rd"
        refine q_ixT hy at0 ?_
        walk_at "rd"
        refine ⟨cmul 9000 9000 (lt2_mono z1.1 (by omega)) (lt2_mono (den_lt z2) (by omega)), ?_⟩
        refine q_ixT hy at1 ?_
        walk_at "rd"
        refine ⟨cmul 9000 9000 (lt2_mono z2.1 (by omega)) (lt2_mono (den_lt z1) (by omega)), ?_⟩
        refine q_ixT hy at1 ?_
        walk_at "rd"
        refine ⟨cmul 9000 9000 (lt2_mono (den_lt z1) (by omega)) (lt2_mono (den_lt z2) (by omega)), ?_⟩
        refine ⟨_, _, rfl, Int.mul_pos (den_pos _) (den_pos _), lt2_mono (wide_lt (den_lt z1) (den_lt z2)) (by omega), fun y2 H2 e2 h2 => ?_⟩
        rw [add_parts] at h2
        rw [hP]
        refine ⟨e.trans e2, _, _, _, rfl, ?_⟩
        rw [sumR_take hr1]
        exact h2
      · intro σ' G h
        rw [hP] at h
        obtain ⟨e, y, s2, s3, rfl, hy⟩ := h
        rw [hF.1, List.take_length] at hy
        walk_at "rd"
        exact k _ _ e hy

end

section
variable {P : Program} {w : World} {K : PySem.W.Frag} {mg : Str → Option Value} {base : Heap}
/-! ### _law_whole -/
def lcmL (rs : List Rat) : Nat := rs.foldl (fun B r => B * (r.den / Nat.gcd B r.den)) 1
def wholeW (rs : List Rat) : List Int := rs.map fun r => r.num * (((lcmL rs : Nat) : Int) / ((r.den : Nat) : Int))
theorem lcmL_take {rs : List Rat} {i : Nat} {r : Rat} (h : rs[i]? = some r) : lcmL (rs.take (i + 1)) = lcmL (rs.take i) * (r.den / Nat.gcd (lcmL (rs.take i)) r.den) := by
  unfold lcmL
  rw [List.take_add_one, h]
  simp
theorem lcmF (rs : List Rat) : ∀ (B : Nat), 0 < B → 0 < rs.foldl (fun B r => B * (r.den / Nat.gcd B r.den)) B ∧ B ∣ rs.foldl (fun B r => B * (r.den / Nat.gcd B r.den)) B ∧ ∀ r ∈ rs, r.den ∣ rs.foldl (fun B r => B * (r.den / Nat.gcd B r.den)) B := by
  induction rs with
  | nil => exact fun B h => ⟨h, Nat.dvd_refl _, fun r h => by simp at h⟩
  | cons r rs ih =>
    intro B hB
    have hd := r.den_pos
    have g0 : 0 < Nat.gcd B r.den := Nat.gcd_pos_of_pos_left _ hB
    have q0 : 0 < r.den / Nat.gcd B r.den := Nat.div_pos (Nat.le_of_dvd hd (Nat.gcd_dvd_right _ _)) g0
    obtain ⟨h1, h2, h3⟩ := ih (B * (r.den / Nat.gcd B r.den)) (Nat.mul_pos hB q0)
    refine ⟨h1, Nat.dvd_trans (Nat.dvd_mul_right _ _) h2, fun x hx => ?_⟩
    rcases List.mem_cons.mp hx with rfl | hx
    · refine Nat.dvd_trans ?_ h2
      obtain ⟨u, hu⟩ := Nat.gcd_dvd_left B x.den
      obtain ⟨v, hv⟩ := Nat.gcd_dvd_right B x.den
      have e : x.den / Nat.gcd B x.den = v := by
        conv => lhs; lhs; rw [hv]
        exact Nat.mul_div_cancel_left _ g0
      rw [e]
      refine ⟨u, ?_⟩
      conv => lhs; lhs; rw [hu]
      conv => rhs; lhs; rw [hv]
      rw [Nat.mul_assoc, Nat.mul_assoc, Nat.mul_comm u v]
    · exact h3 x hx
theorem lcmL_pos (rs : List Rat) : 0 < lcmL rs := (lcmF rs 1 Nat.one_pos).1
theorem lcmL_dvd {rs : List Rat} {r : Rat} (h : r ∈ rs) : r.den ∣ lcmL rs := (lcmF rs 1 Nat.one_pos).2.2 r h
theorem lcmL_lt {n : Nat} : ∀ (rs : List Rat) (i : Nat), (∀ r ∈ rs, sz r n) → i ≤ rs.length → lcmL (rs.take i) < 2 ^ (i * n + 1)
  | rs, 0, _, _ => by
    rw [Nat.zero_mul, List.take_zero]
    show 1 < 2 ^ (0 + 1)
    decide
  | rs, i + 1, h, hi => by
    have hr : rs[i]? = some rs[i] := List.getElem?_eq_getElem (by omega)
    rw [lcmL_take hr]
    have h1 := lcmL_lt rs i h (by omega)
    have h2 : rs[i].den < 2 ^ n := (h _ (List.getElem_mem _)).2
    have h3 : rs[i].den / Nat.gcd (lcmL (rs.take i)) rs[i].den ≤ rs[i].den := Nat.div_le_self _ _
    have e : (i + 1) * n + 1 = (i * n + 1) + n := by rw [Nat.add_mul]; omega
    rw [e, Nat.pow_add]
    exact Nat.mul_lt_mul'' h1 (Nat.lt_of_le_of_lt h3 h2)
theorem gcdL_lt {cs : List Int} {c : Int} {m : Nat} (hc : c ∈ cs) (h0 : c ≠ 0) (h : c.natAbs < 2 ^ m) : gcdL cs < 2 ^ m := by
  have h1 := Int.natAbs_dvd_natAbs.mpr (gcdL_dvd hc)
  have h2 := Nat.le_of_dvd (by omega) h1
  rw [Int.natAbs_natCast] at h2
  omega
def spWholeL (K : PySem.W.Frag) : Sp := fun vs H Q _ => ∃ (x : V) (rs : List Rat) (n : Nat), vs = [x] ∧ SeqFrs K H x rs ∧ (∀ r ∈ rs, sz r n) ∧ rs.length * n + n + n + 10 ≤ 8900 ∧ rs.length ≤ 900 ∧ (∃ r ∈ rs, r ≠ 0) ∧
  ∀ y H', Ex H H' → IsInts K H' y (plainL (wholeW rs)) → Q y H'
theorem scWholeL : FnScope ["parts_here", "bottom", "top", "below"] ["parts_here"] (defScope (top 47)) := ⟨rfl, rfl, rfl, by decide +kernel, rfl, by decide +kernel, by decide +kernel⟩
theorem gtup2 {i j n : Nat} {x : V} {σ : L2.St} {H : Hp} {S S' : L2.St → Hp → Prop} (h : ∀ σ2 H2, S σ2 H2 → S' σ2 H2) (q : gTup K n (gCons (gName i) (gCons (gName j) gNil)) x σ H S) :
    gTup K n (gCons (gName i) (gCons (gName j) gNil)) x σ H S' := by
  obtain ⟨a, xs, e, h1, h2, u, us, e2, u', us', e3, e4, q⟩ := q
  exact ⟨a, xs, e, h1, h2, u, us, e2, u', us', e3, e4, h _ _ q⟩
theorem wholeW_ok {rs : List Rat} {n : Nat} (hz : ∀ r ∈ rs, sz r n) (hn : rs.length * n + n + n + 10 ≤ 8900) (h0 : ∃ r ∈ rs, r ≠ 0) : 0 < gcdL (wholeW rs) ∧ gcdL (wholeW rs) < 2 ^ 8990 := by
  obtain ⟨r, hr, hr0⟩ := h0
  have hL := lcmL_lt rs rs.length hz (Nat.le_refl _)
  rw [List.take_length] at hL
  have hB := lcmL_pos rs
  have q0 : (0 : Int) < ((lcmL rs : Nat) : Int) / ((r.den : Nat) : Int) := by
    have := Nat.div_pos (Nat.le_of_dvd hB (lcmL_dvd hr)) r.den_pos
    have e : ((lcmL rs : Nat) : Int) / ((r.den : Nat) : Int) = ((lcmL rs / r.den : Nat) : Int) := by simp
    omega
  have hc : r.num * (((lcmL rs : Nat) : Int) / ((r.den : Nat) : Int)) ∈ wholeW rs := List.mem_map.mpr ⟨r, hr, rfl⟩
  have hne : r.num * (((lcmL rs : Nat) : Int) / ((r.den : Nat) : Int)) ≠ 0 := Int.mul_ne_zero (fun z => hr0 (Rat.num_eq_zero.mp z)) (by omega)
  refine ⟨gcdL_pos ⟨_, hc, hne⟩, gcdL_lt hc hne ?_⟩
  refine lt2_mono (wide_lt (hz r hr).1 (b := rs.length * n + 1) ?_) (by omega)
  have := Int.natAbs_ediv_le_natAbs ((lcmL rs : Nat) : Int) ((r.den : Nat) : Int)
  rw [Int.natAbs_natCast] at this
  omega
theorem has_whole_l (h_law_shared : Has P w K mg base "_law_shared" 1 ["one", "two"] spShared) (h_law_plain : Has P w K mg base "_law_plain" 2 ["some"] (spPlain K)) (D : Df K mg "_law_whole" (top 47) ["parts_here"]) : Has P w K mg base "_law_whole" 3 ["parts_here"] (spWholeL K) := by
  have sc := scWholeL
  refine .of D fun f fd F => F.ok sc (fun vs H Q E h => ?_) (fun cdv A outer s H vs Q E hr h => ?_)
  · obtain ⟨x, rs, n, rfl, _⟩ := h
    rfl
  · obtain ⟨_, rs, n, rfl, ⟨p, xs, rfl, hS, hF⟩, hz, hn, hlen, h0, k⟩ := h
    obtain ⟨w0, w1⟩ := wholeW_ok hz hn h0
    obtain ⟨Pv, hP⟩ : ∃ P : Nat → L2.St → Hp → Prop, P = fun j σ' G => G = H ∧ ∃ (s2 s3 : Option V), σ' = [some (.ref p), some (.int ((lcmL (rs.take j) : Nat) : Int)), s2, s3] := ⟨_, rfl⟩
    have step : ∀ (i : Nat) (r : Rat), rs[i]? = some r → lcmL (rs.take i) < 2 ^ (i * n + 1) ∧ sz r n ∧ (i + 1) * n + n + n + 10 ≤ 8900 := by
      intro i r hr
      have hi := (List.getElem?_eq_some_iff.mp hr).1
      refine ⟨lcmL_lt rs i hz (by omega), hz r (List.mem_of_getElem? hr), ?_⟩
      have := Nat.mul_le_mul_right n (show i + 1 ≤ rs.length by omega)
      omega
    rcases hS with hS | hS
    · refine ⟨_, (pss_cons (ps_set (i := 1) sc.nd rfl (by first | exact Or.inl rfl | exact Or.inr rfl) pe_int)
      (pss_cons (ps_for PassesOwn.never rfl (pi_tup (pv 0)) (pg_tup rfl (pgs_cons (pg_name (i := 2) sc.nd rfl (by first | exact Or.inl rfl | exact Or.inr rfl)) (pgs_cons (pg_name (i := 3) sc.nd rfl (by first | exact Or.inl rfl | exact Or.inr rfl)) pgs_nil)))
      (pss_one (ps_set (i := 1) sc.nd rfl (by first | exact Or.inl rfl | exact Or.inr rfl) (pe_op op_mulS (pv 1) (pe_op op_fdivW (pv 3) (pe_has h_law_shared (hr.mono (by decide)) (pa_cons (pv 1) (pa_cons (pv 3) pa_nil))))))))
      (pss_one (ps_ret (pe_has h_law_plain (hr.mono (by decide)) (pa_cons (pe_lc (own := [("top", 2), ("below", 3)]) (g := gTup K 2 (gCons (gName 2) (gCons (gName 3) gNil))) (tt := tYes) rfl sc.nd (pi_tup (pv 0)) (blkOk_by (N := (["parts_here", "bottom", "top", "below"] : List Str)) (sc := defScope (top 47)) (by decide +kernel)) (fun _ _ _ _ _ => (pg_tup rfl (pgs_cons (pg_name (i := 2) sc.nd rfl (by first | exact Or.inl rfl | exact Or.inr rfl)) (pgs_cons (pg_name (i := 3) sc.nd rfl (by first | exact Or.inl rfl | exact Or.inr rfl)) pgs_nil)))) (fun _ _ _ _ _ => pts_nil) (fun _ _ _ _ _ => (PE.mon (pe_op op_mulS (pv 2) (pe_op op_fdivW (pv 1) (pv 3)))))) pa_nil)))))), ?_⟩
      walk_at "rd"
      refine ⟨⟨_, hS⟩, loopT (xs := xs) Pv (by rw [hP]; exact ⟨rfl, _, _, rfl⟩) (fun j σ' G _ h => by rw [hP] at h; rw [h.1]; exact hS) ?_ ?_⟩
      · intro j x σ' G hx h
        rw [hP] at h
        obtain ⟨rfl, s2, s3, rfl⟩ := h
        obtain ⟨r, hr1, a, rfl, ha⟩ := hF.2 j x hx
        obtain ⟨z1, z2, z3⟩ := step j r hr1
        rw [Nat.add_mul] at z3
        walk_at "rd"
        refine ⟨_, ha, rfl, ?_⟩
        unfold fr
        walk_at "rd"
        refine ⟨_, _, rfl, ?_⟩
        walk_at "rd"
        have eg : Int.gcd ((lcmL (rs.take j) : Nat) : Int) ((r.den : Nat) : Int) = Nat.gcd (lcmL (rs.take j)) r.den := rfl
        have g0 : 0 < Nat.gcd (lcmL (rs.take j)) r.den := Nat.gcd_pos_of_pos_right _ r.den_pos
        have g1 : Nat.gcd (lcmL (rs.take j)) r.den ≤ r.den := Nat.le_of_dvd r.den_pos (Nat.gcd_dvd_right _ _)
        have g2 : Nat.gcd (lcmL (rs.take j)) r.den < 2 ^ 8990 := Nat.lt_of_le_of_lt g1 (Nat.lt_of_lt_of_le z2.2 (Nat.pow_le_pow_right (by decide) (by omega)))
        rw [eg]
        have d1 := Int.natAbs_ediv_le_natAbs ((r.den : Nat) : Int) ((Nat.gcd (lcmL (rs.take j)) r.den : Nat) : Int)
        rw [Int.natAbs_natCast] at d1
        refine ⟨⟨by omega, by rw [Int.natAbs_natCast]; exact log_lt g2⟩, cmul 9000 9000 ?_ ?_, ?_⟩
        · rw [Int.natAbs_natCast]
          exact Nat.lt_of_lt_of_le z1 (Nat.pow_le_pow_right (by decide) (by omega))
        · exact Nat.lt_of_le_of_lt d1 (Nat.lt_of_lt_of_le z2.2 (Nat.pow_le_pow_right (by decide) (by omega)))
        · rw [hP]
          dsimp only
          rw [lcmL_take hr1, Int.natCast_mul, Int.natCast_ediv]
          exact ⟨rfl, _, _, rfl⟩
      · intro σ' G h
        rw [hP] at h
        obtain ⟨rfl, s2, s3, rfl⟩ := h
        rw [hF.1, List.take_length]
        have hL := lcmL_lt rs rs.length hz (Nat.le_refl _)
        rw [List.take_length] at hL
        walk_at "rd"
        refine ⟨⟨_, hS⟩, fun Dd hD => lcT (fun i y _ => ∃ r, rs[i]? = some r ∧ y = .int (r.num * (((lcmL rs : Nat) : Int) / ((r.den : Nat) : Int)))) (fun _ _ _ _ _ h => h) hD hS (by rw [hF.1]; omega) ?_ (fun i x H2 S S' _ h q => gtup2 h q) ?_⟩
        · intro i x H2 hx e
          obtain ⟨r, hr1, a, rfl, ha⟩ := hF.2 i x hx
          have zr := hz r (List.mem_of_getElem? hr1)
          refine ⟨a, fr r, rfl, sqT_kp ha e.kp, rfl, ?_⟩
          unfold fr
          walk_at "rd"
          obtain ⟨R0, hR⟩ : ∃ R : VK, R = fun v H' => v = .int (r.num * (((lcmL rs : Nat) : Int) / ((r.den : Nat) : Int))) ∧ H' = H2 := ⟨_, rfl⟩
          refine ⟨R0, ?_, fun v H' h => by rw [hR] at h; obtain ⟨rfl, rfl⟩ := h; exact ⟨Ex.refl _, r, hr1, rfl⟩⟩
          walk_at "rd"
          have d1 := Int.natAbs_ediv_le_natAbs ((lcmL rs : Nat) : Int) ((r.den : Nat) : Int)
          rw [Int.natAbs_natCast] at d1
          refine ⟨⟨den_pos r, by rw [Int.natAbs_natCast]; exact log_lt (Nat.lt_of_lt_of_le zr.2 (Nat.pow_le_pow_right (by decide) (by omega)))⟩, cmul 9000 9000 (lt2_mono zr.1 (by omega)) (Nat.lt_of_le_of_lt d1 (Nat.lt_of_lt_of_le hL (Nat.pow_le_pow_right (by decide) (by omega)))), ?_⟩
          rw [hR]
          exact ⟨rfl, rfl⟩
        · intro H2 ys e hy hl hr2
          rw [hF.1] at hl
          have ey : ys = (wholeW rs).map V.int := by
            apply List.ext_getElem?
            intro i
            by_cases hi : i < ys.length
            · obtain ⟨r, h1, h2⟩ := hr2 i _ (List.getElem?_eq_getElem hi)
              rw [List.getElem?_eq_getElem hi, h2]
              simp [wholeW, h1]
            · rw [List.getElem?_eq_none (by omega), List.getElem?_eq_none (by simp [wholeW]; omega)]
          rw [ey] at hy
          exact ⟨Dd, wholeW rs, rfl, .inr (.of hy), by simp [wholeW]; omega, w0, w1, fun y H3 e3 h3 => k y H3 (e.trans e3) h3⟩
    · refine ⟨_, (pss_cons (ps_set (i := 1) sc.nd rfl (by first | exact Or.inl rfl | exact Or.inr rfl) pe_int)
      (pss_cons (ps_for PassesOwn.never rfl (pi_list (pv 0)) (pg_tup rfl (pgs_cons (pg_name (i := 2) sc.nd rfl (by first | exact Or.inl rfl | exact Or.inr rfl)) (pgs_cons (pg_name (i := 3) sc.nd rfl (by first | exact Or.inl rfl | exact Or.inr rfl)) pgs_nil)))
      (pss_one (ps_set (i := 1) sc.nd rfl (by first | exact Or.inl rfl | exact Or.inr rfl) (pe_op op_mulS (pv 1) (pe_op op_fdivW (pv 3) (pe_has h_law_shared (hr.mono (by decide)) (pa_cons (pv 1) (pa_cons (pv 3) pa_nil))))))))
      (pss_one (ps_ret (pe_has h_law_plain (hr.mono (by decide)) (pa_cons (pe_lc (own := [("top", 2), ("below", 3)]) (g := gTup K 2 (gCons (gName 2) (gCons (gName 3) gNil))) (tt := tYes) rfl sc.nd (pi_list (pv 0)) (blkOk_by (N := (["parts_here", "bottom", "top", "below"] : List Str)) (sc := defScope (top 47)) (by decide +kernel)) (fun _ _ _ _ _ => (pg_tup rfl (pgs_cons (pg_name (i := 2) sc.nd rfl (by first | exact Or.inl rfl | exact Or.inr rfl)) (pgs_cons (pg_name (i := 3) sc.nd rfl (by first | exact Or.inl rfl | exact Or.inr rfl)) pgs_nil)))) (fun _ _ _ _ _ => pts_nil) (fun _ _ _ _ _ => (PE.mon (pe_op op_mulS (pv 2) (pe_op op_fdivW (pv 1) (pv 3)))))) pa_nil)))))), ?_⟩
      walk_at "rd"
      refine ⟨⟨_, hS⟩, loopL (xs := xs) Pv (by rw [hP]; exact ⟨rfl, _, _, rfl⟩) (fun j σ' G _ h => by rw [hP] at h; rw [h.1]; exact hS) ?_ ?_⟩
      · intro j x σ' G hx h
        rw [hP] at h
        obtain ⟨rfl, s2, s3, rfl⟩ := h
        obtain ⟨r, hr1, a, rfl, ha⟩ := hF.2 j x hx
        obtain ⟨z1, z2, z3⟩ := step j r hr1
        rw [Nat.add_mul] at z3
        walk_at "rd"
        refine ⟨_, ha, rfl, ?_⟩
        unfold fr
        walk_at "rd"
        refine ⟨_, _, rfl, ?_⟩
        walk_at "rd"
        have eg : Int.gcd ((lcmL (rs.take j) : Nat) : Int) ((r.den : Nat) : Int) = Nat.gcd (lcmL (rs.take j)) r.den := rfl
        have g0 : 0 < Nat.gcd (lcmL (rs.take j)) r.den := Nat.gcd_pos_of_pos_right _ r.den_pos
        have g1 : Nat.gcd (lcmL (rs.take j)) r.den ≤ r.den := Nat.le_of_dvd r.den_pos (Nat.gcd_dvd_right _ _)
        have g2 : Nat.gcd (lcmL (rs.take j)) r.den < 2 ^ 8990 := Nat.lt_of_le_of_lt g1 (Nat.lt_of_lt_of_le z2.2 (Nat.pow_le_pow_right (by decide) (by omega)))
        rw [eg]
        have d1 := Int.natAbs_ediv_le_natAbs ((r.den : Nat) : Int) ((Nat.gcd (lcmL (rs.take j)) r.den : Nat) : Int)
        rw [Int.natAbs_natCast] at d1
        refine ⟨⟨by omega, by rw [Int.natAbs_natCast]; exact log_lt g2⟩, cmul 9000 9000 ?_ ?_, ?_⟩
        · rw [Int.natAbs_natCast]
          exact Nat.lt_of_lt_of_le z1 (Nat.pow_le_pow_right (by decide) (by omega))
        · exact Nat.lt_of_le_of_lt d1 (Nat.lt_of_lt_of_le z2.2 (Nat.pow_le_pow_right (by decide) (by omega)))
        · rw [hP]
          dsimp only
          rw [lcmL_take hr1, Int.natCast_mul, Int.natCast_ediv]
          exact ⟨rfl, _, _, rfl⟩
      · intro σ' G h
        rw [hP] at h
        obtain ⟨rfl, s2, s3, rfl⟩ := h
        rw [hF.1, List.take_length]
        have hL := lcmL_lt rs rs.length hz (Nat.le_refl _)
        rw [List.take_length] at hL
        walk_at "rd"
        refine ⟨⟨_, hS⟩, fun Dd hD => lcL (J0 := True) (fun i y _ => ∃ r, rs[i]? = some r ∧ y = .int (r.num * (((lcmL rs : Nat) : Int) / ((r.den : Nat) : Int)))) (fun _ _ _ _ _ h => h) hD hS (by rw [hF.1]; omega) ?_ (fun i x H2 S S' _ h q => gtup2 h q) ?_⟩
        · intro i x H2 hx e
          obtain ⟨r, hr1, a, rfl, ha⟩ := hF.2 i x hx
          have zr := hz r (List.mem_of_getElem? hr1)
          refine ⟨a, fr r, rfl, sqT_kp ha e.kp, rfl, ?_⟩
          unfold fr
          walk_at "rd"
          obtain ⟨R0, hR⟩ : ∃ R : VK, R = fun v H' => v = .int (r.num * (((lcmL rs : Nat) : Int) / ((r.den : Nat) : Int))) ∧ H' = H2 := ⟨_, rfl⟩
          refine ⟨R0, ?_, fun v H' h => by rw [hR] at h; obtain ⟨rfl, rfl⟩ := h; exact ⟨Ex.refl _, r, hr1, rfl⟩⟩
          walk_at "rd"
          have d1 := Int.natAbs_ediv_le_natAbs ((lcmL rs : Nat) : Int) ((r.den : Nat) : Int)
          rw [Int.natAbs_natCast] at d1
          refine ⟨⟨den_pos r, by rw [Int.natAbs_natCast]; exact log_lt (Nat.lt_of_lt_of_le zr.2 (Nat.pow_le_pow_right (by decide) (by omega)))⟩, cmul 9000 9000 (lt2_mono zr.1 (by omega)) (Nat.lt_of_le_of_lt d1 (Nat.lt_of_lt_of_le hL (Nat.pow_le_pow_right (by decide) (by omega)))), ?_⟩
          rw [hR]
          exact ⟨rfl, rfl⟩
        · intro H2 ys e hy hl hr2
          rw [hF.1] at hl
          have ey : ys = (wholeW rs).map V.int := by
            apply List.ext_getElem?
            intro i
            by_cases hi : i < ys.length
            · obtain ⟨r, h1, h2⟩ := hr2 i _ (List.getElem?_eq_getElem hi)
              rw [List.getElem?_eq_getElem hi, h2]
              simp [wholeW, h1]
            · rw [List.getElem?_eq_none (by omega), List.getElem?_eq_none (by simp [wholeW]; omega)]
          rw [ey] at hy
          exact ⟨Dd, wholeW rs, rfl, .inr (.of hy), by simp [wholeW]; omega, w0, w1, fun y H3 e3 h3 => k y H3 (e.trans e3) h3⟩
end

/-! rates of plain counts -/
theorem sum_scale (k : Int) : ∀ cs : List Int, (cs.map (k * ·)).sum = k * cs.sum
  | [] => by simp
  | c :: cs => by
    rw [List.map_cons, List.sum_cons, List.sum_cons, sum_scale k cs, Int.mul_add]
theorem sum_nonneg : ∀ {cs : List Int}, (∀ c ∈ cs, 0 ≤ c) → 0 ≤ cs.sum
  | [], _ => by simp
  | c :: cs, h => by
    have h1 := h c List.mem_cons_self
    have h2 := sum_nonneg fun x hx => h x (List.mem_cons_of_mem c hx)
    rw [List.sum_cons]
    omega
theorem sum_le {b : Int} : ∀ {cs : List Int}, (∀ c ∈ cs, c ≤ b) → cs.sum ≤ (cs.length : Int) * b
  | [], _ => by simp
  | c :: cs, h => by
    have h1 := h c List.mem_cons_self
    have h2 := sum_le fun x hx => h x (List.mem_cons_of_mem c hx)
    rw [List.sum_cons, List.length_cons, Int.natCast_add, Int.add_mul]
    omega
theorem sum_pos_ex : ∀ {cs : List Int}, (∀ c ∈ cs, 0 ≤ c) → 0 < cs.sum → ∃ c ∈ cs, 0 < c
  | [], _, h => by simp at h
  | c :: cs, h, hs => by
    by_cases hc : 0 < c
    · exact ⟨c, List.mem_cons_self, hc⟩
    · have h1 := h c List.mem_cons_self
      rw [List.sum_cons] at hs
      obtain ⟨x, hx, h2⟩ := sum_pos_ex (fun x hx => h x (List.mem_cons_of_mem c hx)) (by omega)
      exact ⟨x, List.mem_cons_of_mem c hx, h2⟩
theorem mem_le_sum : ∀ {cs : List Int} {c : Int}, (∀ x ∈ cs, 0 ≤ x) → c ∈ cs → c ≤ cs.sum
  | x :: cs, c, h, hc => by
    rw [List.sum_cons]
    have h0 := h x List.mem_cons_self
    have h1 := sum_nonneg fun y hy => h y (List.mem_cons_of_mem x hy)
    rcases List.mem_cons.mp hc with rfl | hc
    · omega
    · have := mem_le_sum (fun y hy => h y (List.mem_cons_of_mem x hy)) hc
      omega
/-- top times the whole is the count times the bottom -/
theorem frac_mul {p S : Int} (hS : 0 < S) : ((p : Rat) / (S : Rat)).num * S = p * (((((p : Rat) / (S : Rat)).den : Nat)) : Int) := by
  rw [div_num hS, div_den hS]
  have d1 : ((Int.gcd S p : Nat) : Int) ∣ p := Int.gcd_dvd_right ..
  have d2 : ((Int.gcd S p : Nat) : Int) ∣ S := Int.gcd_dvd_left ..
  obtain ⟨u, hu⟩ := d1
  obtain ⟨v, hv⟩ := d2
  have g0 : ((Int.gcd S p : Nat) : Int) ≠ 0 := by
    intro z
    rw [z, Int.zero_mul] at hv
    omega
  generalize ((Int.gcd S p : Nat) : Int) = g at *
  subst hu hv
  rw [Int.mul_ediv_cancel_left _ g0, Int.mul_ediv_cancel_left _ g0]
  grind
theorem frac_nonneg {p S : Int} (hp : 0 ≤ p) (hS : 0 < S) : 0 ≤ ((p : Rat) / (S : Rat)).num := by
  rw [div_num hS]
  exact Int.ediv_nonneg hp (by omega)
theorem frac_le_one {p S : Int} (hp : p ≤ S) (hS : 0 < S) : ((p : Rat) / (S : Rat)).num ≤ (((((p : Rat) / (S : Rat)).den : Nat)) : Int) := by
  have e := frac_mul (p := p) hS
  have h2 := den_pos ((p : Rat) / (S : Rat))
  generalize (((((p : Rat) / (S : Rat)).den : Nat)) : Int) = d at *
  generalize ((p : Rat) / (S : Rat)).num = t at *
  have h3 : p * d ≤ S * d := Int.mul_le_mul_of_nonneg_right hp (by omega)
  rw [← e, Int.mul_comm S d] at h3
  exact Int.le_of_mul_le_mul_right h3 hS
theorem sumR_div (S : Rat) : ∀ (ps : List Int) (acc : Rat), (ps.map fun p => ((p : Int) : Rat) / S).foldl (· + ·) acc = acc + ((ps.sum : Int) : Rat) / S
  | [], acc => by
    simp only [List.map_nil, List.foldl_nil, List.sum_nil]
    have : (((0 : Int)) : Rat) = 0 := rfl
    rw [this]
    grind
  | p :: ps, acc => by
    rw [List.map_cons, List.foldl_cons, sumR_div S ps, List.sum_cons, Rat.intCast_add]
    grind
theorem cast_ne {S : Int} (h : S ≠ 0) : ((S : Int) : Rat) ≠ 0 := fun z => h (by
  have := congrArg Rat.num z
  simpa using this)
theorem sumR_rates {ps : List Int} (h : 0 < ps.sum) : sumR (ratesL ps) = 1 := by
  unfold sumR ratesL
  rw [sumR_div]
  have := cast_ne (S := ps.sum) (by omega)
  grind
theorem rates_sz {ps : List Int} {n : Nat} (h : 0 < ps.sum) (hs : ps.sum.natAbs < 2 ^ n) (h0 : ∀ p ∈ ps, 0 ≤ p) : ∀ r ∈ ratesL ps, sz r n := by
  intro r hr
  obtain ⟨p, hp, rfl⟩ := List.mem_map.mp hr
  refine sz_div h ?_ hs
  have h1 := mem_le_sum h0 hp
  have h2 := h0 p hp
  omega

/-! rates of plain counts -/
theorem wholeW_rates {ps : List Int} (h : 0 < ps.sum) : plainL (wholeW (ratesL ps)) = plainL ps := by
  have hB := lcmL_pos (ratesL ps)
  refine plainL_prop (a := ps.sum) (b := ((lcmL (ratesL ps) : Nat) : Int)) h (by omega) ?_
  unfold wholeW
  rw [List.map_map]
  conv => lhs; arg 2; unfold ratesL
  rw [List.map_map]
  apply List.map_congr_left
  intro p hp
  show ps.sum * (((p : Rat) / ((ps.sum : Int) : Rat)).num * _) = _
  have hm : ((p : Int) : Rat) / ((ps.sum : Int) : Rat) ∈ ratesL ps := List.mem_map.mpr ⟨p, hp, rfl⟩
  have e := frac_mul (p := p) h
  have hd := lcmL_dvd hm
  have hp := den_pos (((p : Int) : Rat) / ((ps.sum : Int) : Rat))
  generalize ((lcmL (ratesL ps) : Nat)) = L at *
  generalize hq : (((p : Int) : Rat) / ((ps.sum : Int) : Rat)).den = d at *
  generalize (((p : Int) : Rat) / ((ps.sum : Int) : Rat)).num = t at *
  obtain ⟨m, rfl⟩ := hd
  rw [Int.natCast_mul, Int.mul_ediv_cancel_left _ (by omega)]
  grind

section
variable {P : Program} {w : World} {K : PySem.W.Frag} {mg : Str → Option Value} {base : Heap}
structure RowFacts (cs : List Int) : Prop where
  ok : RowOk cs
  ok_scale : ∀ {k : Int}, 0 < k → k ≤ 1000000 → RowOk (cs.map (k * ·))
  len : (plainL cs).length ≤ 1000
  spos : 0 < (plainL cs).sum
  slt : (plainL cs).sum.natAbs < 2 ^ 110
  ok_plain : RowOk (plainL cs)
  nn : ∀ p ∈ plainL cs, 0 ≤ p
  gd : Gd (intsD (plainL cs)) 1 (6 * 1932 + 3)
  one : gcdL (plainL cs) = 1
  twice : plainL (plainL cs) = plainL cs
theorem row_facts {cs : List Int} (h : CountsOk cs) : RowFacts cs := by
  obtain ⟨l0, l1, hb, hs⟩ := h
  have nn : ∀ c ∈ cs, 0 ≤ c := fun c hc => (hb c hc).1
  obtain ⟨c, hc, c0⟩ := sum_pos_ex nn hs
  have cb := (hb c hc).2
  have b30 : (10 : Int) ^ 30 < 2 ^ 100 := by decide
  have g0 : 0 < gcdL cs := gcdL_pos ⟨c, hc, by omega⟩
  have gI : (0 : Int) < ((gcdL cs : Nat) : Int) := by omega
  have glt : gcdL cs < 2 ^ 100 := gcdL_lt hc (by omega) (by omega)
  have pn : ∀ p ∈ plainL cs, 0 ≤ p := by
    intro p hp
    obtain ⟨x, hx, rfl⟩ := List.mem_map.mp hp
    exact Int.ediv_nonneg (nn x hx) (by omega)
  have e : ((gcdL cs : Nat) : Int) * (plainL cs).sum = cs.sum := by
    rw [← sum_scale, plainL_mul]
  have sp : 0 < (plainL cs).sum := by
    rcases Int.lt_or_le 0 (plainL cs).sum with h | h
    · exact h
    · have := Int.mul_le_mul_of_nonneg_left h (Int.le_of_lt gI)
      rw [e, Int.mul_zero] at this
      omega
  have sl : (plainL cs).sum ≤ cs.sum := by
    rw [← e]
    have := Int.mul_le_mul_of_nonneg_right (show (1 : Int) ≤ ((gcdL cs : Nat) : Int) by omega) (Int.le_of_lt sp)
    omega
  have sb := sum_le (b := 10 ^ 30) (cs := cs) fun c hc => (hb c hc).2
  have sb2 : cs.sum ≤ 6 * 10 ^ 30 := by
    have := Int.mul_le_mul_of_nonneg_right (show (cs.length : Int) ≤ 6 by omega) (show (0 : Int) ≤ 10 ^ 30 by decide)
    omega
  have b110 : (6 : Int) * 10 ^ 30 < 2 ^ 110 := by decide
  have one := plainL_plain cs g0
  have lt : (2 : Nat) ^ 100 ≤ 2 ^ 8990 := Nat.pow_le_pow_right (by decide) (by decide)
  refine ⟨⟨l0, l1, nn, g0, Nat.lt_of_lt_of_le glt lt⟩, fun {k} k0 k1 => ⟨by simpa using l0, by simpa using l1, ?_, ?_, ?_⟩, by rw [plainL_len]; omega, sp, ?_, ⟨by rw [plainL_len]; omega, by rw [plainL_len]; omega, pn, by omega, by rw [one]; exact Nat.lt_of_lt_of_le (by decide) lt⟩, pn, ?_, one, plainL_twice cs g0⟩
  · intro x hx
    obtain ⟨y, hy, rfl⟩ := List.mem_map.mp hx
    exact Int.mul_nonneg (by omega) (nn y hy)
  · have := gcdL_scale cs k0
    have := Int.mul_pos k0 gI
    omega
  · refine gcdL_lt (c := k * c) (List.mem_map.mpr ⟨c, hc, rfl⟩) (by have := Int.mul_pos k0 c0; omega) ?_
    exact lt2_mono (wide_lt (a := 40) (b := 100) (by omega) (by omega)) (by decide)
  · omega
  · refine gd_ints (by rw [plainL_len]; exact l1) fun p hp => ?_
    have h1 := mem_le_sum pn hp
    have h2 := pn p hp
    exact lt2_mono (n := 110) (by omega) (by decide)
theorem rates_ne {ps : List Int} (h0 : ∀ p ∈ ps, 0 ≤ p) (h : 0 < ps.sum) : ∃ r ∈ ratesL ps, r ≠ 0 := by
  obtain ⟨p, hp, p0⟩ := sum_pos_ex h0 h
  refine ⟨_, List.mem_map.mpr ⟨p, hp, rfl⟩, fun z => ?_⟩
  have e := frac_mul (p := p) h
  rw [z] at e
  have e2 : (0 : Rat).num * ps.sum = p * (((0 : Rat).den : Nat) : Int) := e
  rw [Rat.zero_num, Rat.zero_den] at e2
  omega
theorem shaped_listI (cs : List Int) : SeqAt.shaped (.list (cs.map PyData.int)) = true := by
  have h := shaped_ints cs
  unfold SeqAt.shaped intsD at *
  simpa [PyData.canLay0, PyData.depth] using h
theorem IsInts.ref {H : Hp} {x : V} {cs : List Int} (h : IsInts K H x cs) : ∃ a, x = .ref a := by
  obtain ⟨p, rfl, _⟩ := h
  exact ⟨p, rfl⟩
end

local macro_rules | `(tactic| walk_at "rd") => `(tactic| try simp only [r_seq, r_asg, r_name, r_ifS, r_next, r_ret, r_retN, r_drop, r_test, r_B, r_if, r_cons, r_nil, r_cb, r_tF, r_part, r_nopart, r_sl, r_par, r_chain, r_or, r_and, r_not, r_orV, r_andV, r_notV, r_op, r_un, r_var, r_c, r_yes, r_I0, r_I, r_U, r_eqI, r_neI, r_eqS, r_neS, r_lst, r_tup, r_for, r_lc, r_list, r_tupI, r_rng1, r_rng2, r_enumT, r_bm, r_fld, r_subT, r_gtup, r_gcons, r_gnil, r_K0, r_K, r_Kb, r_Kbb, wipe, r_never, not_true_eq_false, not_false_eq_true, Int.zero_add, r_counts, r_draws, r_rates, r_row, r_len, r_sfld, r_zipB, r_revT, r_tW, r_seqI,
  L2.start, List.map_cons, List.map_nil, List.length_cons, List.length_nil, Nat.reduceAdd, Nat.reduceSub, List.reduceReplicate, List.cons_append, List.nil_append, List.set_cons_zero, List.set_cons_succ, List.getElem?_cons_zero, List.getElem?_cons_succ, Option.some.injEq, exists_eq_left', exists_eq_left, exists_eq_right, exists_eq_right', V.int.injEq, V.ref.injEq, V.bl.injEq, V.str.injEq, List.cons.injEq, and_true, true_and, and_false, false_and, or_false, false_or, exists_false, exists_const, and_assoc, reduceCtorEq, if_true, if_false, Bool.false_eq_true, Bool.not_true, Bool.not_false, Bool.not_eq_true', decide_eq_true_eq, decide_eq_false_iff_not, exists_and_left, exists_and_right, exists_eq_or_imp])
section
variable {P : Program} {w : World} {K : PySem.W.Frag} {mg : Str → Option Value} {base : Heap}
/-! ### check_number, check_row -/
def spNum : Sp := fun vs H Q _ => ∃ g lo hi : Int, vs = [.int g, .int lo, .int hi] ∧ lo ≤ g ∧ g ≤ hi ∧ Q .non H
theorem scNum : FnScope ["given", "least", "most"] ["given", "least", "most"] (defScope (top 17)) := ⟨rfl, rfl, rfl, by decide +kernel, rfl, by decide +kernel, by decide +kernel⟩
theorem has_num (his_whole : Has P w K mg base "is_whole" 1 ["value"] spWhole) (D : Df K mg "check_number" (top 17) ["given", "least", "most"]) : Has P w K mg base "check_number" 2 ["given", "least", "most"] spNum := by
  have sc := scNum
  refine .of D fun f fd F => F.ok sc (fun vs H Q E h => ?_) (fun cdv A outer s H vs Q E hr h => ?_)
  · obtain ⟨g, lo, hi, rfl, _⟩ := h
    rfl
  · obtain ⟨g, lo, hi, rfl, h1, h2, k⟩ := h
    refine ⟨_, (pss_one (ps_if (PW.pt (pw_or (pt_not (pt_val (pe_has his_whole (hr.mono (by decide)) (pa_cons (pv 0) pa_nil)))) (pw_or (pt_cmpR op_lt (pv 0) (pv 1) (nomark _)) (pw_or1 (pt_cmpR op_gt (pv 0) (pv 2) (nomark _)))))) (pss_one ps_never) pss_nil)), ?_⟩
    walk_at "rd"
    refine ⟨g, rfl, ?_⟩
    walk_at "rd"
    rw [if_neg (by omega), if_neg (by omega)]
    exact k
def spCheckRow (K : PySem.W.Frag) (C : Addr) : Sp := fun vs H Q _ => ∃ (x : V) (ps : List Int), vs = [x] ∧ IsRow K C H x ps ∧ Q .non H
theorem scCheckRow : FnScope ["row"] ["row"] (defScope (top 29)) := ⟨rfl, rfl, rfl, by decide +kernel, rfl, by decide +kernel, by decide +kernel⟩
theorem has_check_row {C : Addr} (B : Bi mg) (RC : RowC K mg C) (D : Df K mg "check_row" (top 29) ["row"]) : Has P w K mg base "check_row" 1 ["row"] (spCheckRow K C) := by
  have sc := scCheckRow
  refine .of D fun f fd F => F.ok sc (fun vs H Q E h => ?_) (fun cdv A outer s H vs Q E hr h => ?_)
  · obtain ⟨x, ps, rfl, _⟩ := h
    rfl
  · obtain ⟨x, ps, rfl, ⟨a, dx, q, rfl, hA, hS⟩, k⟩ := h
    refine ⟨_, (pss_one (ps_if (pt_not (pt_val (pe_callB (kIsi (K := K)) (by rfl) B.isinstance (by decide +kernel) (pa_cons (pv 0) (pa_cons (pe_glob (v := .ref C) rfl RC.mgC rfl) pa_nil))))) (pss_one ps_never) pss_nil)), ?_⟩
    walk_at "rd"
    refine ⟨_, _, _, _, true, rfl, .own C, RC.ty hA, by simp [PySem.W.kitOne], ?_⟩
    walk_at "rd"
    exact k
end

section
variable {P : Program} {w : World} {K : PySem.W.Frag} {mg : Str → Option Value} {base : Heap}
/-! ### all_yes, swapped -/
structure RowIn (ps : List Int) : Prop where
  l0 : 2 ≤ ps.length
  l1 : ps.length ≤ 6
  nn : ∀ p ∈ ps, 0 ≤ p
  s0 : 0 < ps.sum
  s1 : ps.sum.natAbs < 2 ^ 600
theorem getD_get {ps : List Int} {i : Nat} {c : Int} (h : ps[i]? = some c) : ps.getD i 0 = c := by
  rw [List.getD_eq_getElem?_getD, h]
  rfl
end

section
variable {P : Program} {w : World} {K : PySem.W.Frag} {mg : Str → Option Value} {base : Heap}
/-! ### _urn_counts -/
def ucL (n y : Int) (d : Nat) : List Int := (List.range (d + 1)).map fun (k : Nat) => PySem.W.mcComb y (k : Int) * PySem.W.mcComb (n - y) ((d : Int) - (k : Int))
def spUrn (K : PySem.W.Frag) : Sp := fun vs H Q _ => ∃ (n y : Int) (d : Nat), vs = [.int n, .int y, .int (d : Int)] ∧ 0 ≤ y ∧ y ≤ n ∧ n < 2 ^ 100 ∧ d ≤ 5 ∧ ∀ x H', Ex H H' → IsInts K H' x (ucL n y d) → Q x H'
theorem scUrn : FnScope ["slips", "yes", "draws", "k"] ["slips", "yes", "draws"] (defScope (top 36)) := ⟨rfl, rfl, rfl, by decide +kernel, rfl, by decide +kernel, by decide +kernel⟩
theorem has_urn (B : Bi mg) (c_comb : mg "comb" = some (.builtin "math.comb")) (D : Df K mg "_urn_counts" (top 36) ["slips", "yes", "draws"]) : Has P w K mg base "_urn_counts" 1 ["slips", "yes", "draws"] (spUrn K) := by
  have sc := scUrn
  refine .of D fun f fd F => F.ok sc (fun vs H Q E h => ?_) (fun cdv A outer s H vs Q E hr h => ?_)
  · obtain ⟨n, y, d, rfl, _⟩ := h
    rfl
  · obtain ⟨n, y, d, rfl, y0, y1, n1, d1, k⟩ := h
    refine ⟨_, (pss_one (ps_ret (pe_callTy (kTuple (K := K)) (by rfl) B.tuple (by decide +kernel) (pa_cons (pe_lc (own := [("k", 3)]) (g := gName 3) (tt := tYes) rfl sc.nd (pi_range1 (by rfl) B.range (pa_cons (pe_op op_add (pv 2) pe_int) pa_nil)) (blkOk_by (N := (["slips", "yes", "draws", "k"] : List Str)) (sc := defScope (top 36)) (by decide +kernel)) (fun _ _ _ _ _ => (pg_name (i := 3) sc.nd rfl (by first | exact Or.inl rfl | exact Or.inr rfl))) (fun _ _ _ _ _ => pts_nil) (fun _ _ _ _ _ => (PE.mon (pe_op op_mulS (pe_callBfun cr_comb (by rfl) c_comb (pa_cons (pv 1) (pa_cons (pv 3) pa_nil))) (pe_callBfun cr_comb (by rfl) c_comb (pa_cons (pe_op op_sub (pv 0) (pv 1)) (pa_cons (pe_op op_sub (pv 2) (pv 3)) pa_nil))))))) pa_nil)))), ?_⟩
    walk_at "rd"
    refine ⟨by omega, by omega, fun Dd hD => lcR (fun i x _ => x = .int (PySem.W.mcComb y (i : Int) * PySem.W.mcComb (n - y) ((d : Int) - (i : Int)))) (fun _ _ _ _ _ h => h) hD (by omega) (fun _ => rfl) ?_ ?_⟩
    · intro i H2 hi e
      obtain ⟨R0, hR⟩ : ∃ R : VK, R = fun v H' => v = .int (PySem.W.mcComb y (i : Int) * PySem.W.mcComb (n - y) ((d : Int) - (i : Int))) ∧ H' = H2 := ⟨_, rfl⟩
      refine ⟨R0, ?_, fun v H' h => by rw [hR] at h; obtain ⟨rfl, rfl⟩ := h; exact ⟨Ex.refl _, rfl⟩⟩
      walk_at "rd"
      refine ⟨_, _, rfl, ⟨by omega, by omega, by omega, by omega⟩, ?_⟩
      refine ⟨_, _, rfl, ⟨by omega, by omega, by omega, by omega⟩, ?_⟩
      walk_at "rd"
      refine ⟨cmul 900 900 (lt2_mono (mc_abs (c := 100) (by omega) (by omega) (by omega) (by omega)) (by decide)) (lt2_mono (mc_abs (c := 100) (by omega) (by omega) (by omega) (by omega)) (by decide)), ?_⟩
      rw [hR]
      exact ⟨rfl, rfl⟩
    · intro H2 ys e hy hl hr2
      have ey : ys = (ucL n y d).map V.int := by
        apply List.ext_getElem?
        intro i
        by_cases hi : i < ys.length
        · rw [List.getElem?_eq_getElem hi, hr2 i _ (List.getElem?_eq_getElem hi)]
          simp [ucL, show i < d + 1 by omega]
        · rw [List.getElem?_eq_none (by omega), List.getElem?_eq_none (by simp [ucL]; omega)]
      rw [ey] at hy
      exact ⟨Dd, _, rfl, .of hy, fun p H3 n3 e3 t3 => k _ _ (e.trans e3) ⟨p, rfl, .of t3⟩⟩
end

section
variable {P : Program} {w : World} {K : PySem.W.Frag} {mg : Str → Option Value} {base : Heap}
/-! ### _blended -/
def IntsAt (K : PySem.W.Frag) (H : Hp) (xs : List V) (ts : List (List Int)) : Prop := xs.length = ts.length ∧ ∀ (i : Nat) x, xs[i]? = some x → ∃ t, ts[i]? = some t ∧ IsInts K H x t
theorem IntsAt.kp {H H' : Hp} {xs : List V} {ts : List (List Int)} (h : IntsAt K H xs ts) (e : Kp H H') : IntsAt K H' xs ts :=
  ⟨h.1, fun i x hx => let ⟨r, h1, h2⟩ := h.2 i x hx; ⟨r, h1, h2.kp e⟩⟩
def spBlend (K : PySem.W.Frag) (C : Addr) : Sp := fun vs H Q _ => ∃ (p q : Addr) (k : Bool) (xs ys : List V) (zs : Zs) (N m : Nat) (cs : List Int) (S : Int), vs = [.ref p, .ref q] ∧ SqL K H p xs ∧ SqB K k H q ys ∧
  IntsAt K H xs (zs.map (·.1)) ∧ FrsAt K H ys (zs.map (·.2)) ∧ BlendOk zs N m cs S ∧ RowOk (blendL m zs) ∧ ∀ z H', Ex H H' → IsRow K C H' z (plainL cs) → Q z H'
theorem scBlend : FnScope ["tables", "shares", "bottom", "table", "share", "weights", "top", "under", "many", "weight", "k"] ["tables", "shares"] (defScope (top 37)) := ⟨rfl, rfl, rfl, by decide +kernel, rfl, by decide +kernel, by decide +kernel⟩
theorem has_blend {C : Addr} (B : Bi mg) (RT : RowT P w K mg base C) (c_lcm : mg "lcm" = some (.builtin "math.lcm")) (D : Df K mg "_blended" (top 37) ["tables", "shares"]) : Has P w K mg base "_blended" 5 ["tables", "shares"] (spBlend K C) := by
  have sc := scBlend
  refine .of D fun f fd F => F.ok sc (fun vs H Q E h => ?_) (fun cdv A outer s H vs Q E hr h => ?_)
  · obtain ⟨p, q, _, _, _, _, _, _, _, _, rfl, _⟩ := h
    rfl
  · obtain ⟨p, q, kk, xs, ys, zs, N, m, cs, S, rfl, hX, hY, hI, hF, ok, rok, k⟩ := h
    refine ⟨_, (pss_cons (ps_set (i := 2) sc.nd rfl (by first | exact Or.inl rfl | exact Or.inr rfl) pe_int)
      (pss_cons (ps_for PassesOwn.never rfl (kZip (K := K) (by rfl) B.zip (pa_cons (pv 0) (pa_cons (pv 1) pa_nil))) (pg_tup rfl (pgs_cons (pg_name (i := 3) sc.nd rfl (by first | exact Or.inl rfl | exact Or.inr rfl)) (pgs_cons (pg_name (i := 4) sc.nd rfl (by first | exact Or.inl rfl | exact Or.inr rfl)) pgs_nil)))
      (pss_one (ps_set (i := 2) sc.nd rfl (by first | exact Or.inl rfl | exact Or.inr rfl) (pe_callBfun cr_lcm (by rfl) c_lcm (pa_cons (pv 2) (pa_cons (pe_op op_mulS (pe_callB (kSum (K := K) rfl) (by rfl) B.sum (by decide +kernel) (pa_cons (pv 3) pa_nil)) (pe_ix (ixT (K := K)) (pv 4) pe_int (fun _ _ => rfl))) pa_nil))))))
      (pss_cons (ps_set (i := 5) sc.nd rfl (by first | exact Or.inl rfl | exact Or.inr rfl) (pe_lc (own := [("table", 3), ("top", 6), ("under", 7)]) (g := gTup K 2 (gCons (gName 3) (gCons (gTup K 2 (gCons (gName 6) (gCons (gName 7) gNil))) gNil))) (tt := tYes) rfl sc.nd (kZip (K := K) (by rfl) B.zip (pa_cons (pv 0) (pa_cons (pv 1) pa_nil))) (blkOk_by (N := (["tables", "shares", "bottom", "table", "share", "weights", "top", "under", "many", "weight", "k"] : List Str)) (sc := defScope (top 37)) (by decide +kernel)) (fun _ _ _ _ _ => (pg_tup rfl (pgs_cons (pg_name (i := 3) sc.nd rfl (by first | exact Or.inl rfl | exact Or.inr rfl)) (pgs_cons (pg_tup rfl (pgs_cons (pg_name (i := 6) sc.nd rfl (by first | exact Or.inl rfl | exact Or.inr rfl)) (pgs_cons (pg_name (i := 7) sc.nd rfl (by first | exact Or.inl rfl | exact Or.inr rfl)) pgs_nil))) pgs_nil)))) (fun _ _ _ _ _ => pts_nil) (fun _ _ _ _ _ => (PE.mon (pe_op op_mulS (pv 6) (pe_op op_fdivW (pv 2) (pe_op op_mulS (pe_callB (kSum (K := K) rfl) (by rfl) B.sum (by decide +kernel) (pa_cons (pv 3) pa_nil)) (pv 7))))))))
      (pss_cons (ps_set (i := 8) sc.nd rfl (by first | exact Or.inl rfl | exact Or.inr rfl) (pe_callB (kLen (K := K)) (by rfl) B.len (by decide +kernel) (pa_cons (pe_ix (ixL (K := K)) (pv 0) pe_int (fun _ _ => rfl)) pa_nil)))
      (pss_one (ps_ret (kRow RT (hr.mono (by decide)) (pa_cons (pe_callTy (kTuple (K := K)) (by rfl) B.tuple (by decide +kernel) (pa_cons (pe_lc (own := [("k", 10)]) (g := gName 10) (tt := tYes) rfl sc.nd (pi_range1 (by rfl) B.range (pa_cons (pv 8) pa_nil)) (blkOk_by (N := (["tables", "shares", "bottom", "table", "share", "weights", "top", "under", "many", "weight", "k"] : List Str)) (sc := defScope (top 37)) (by decide +kernel)) (fun _ _ _ _ _ => (pg_name (i := 10) sc.nd rfl (by first | exact Or.inl rfl | exact Or.inr rfl))) (fun _ _ _ _ _ => pts_nil) (fun _ _ _ _ _ => (PE.mon (pe_callB (kSum (K := K) rfl) (by rfl) B.sum (by decide +kernel) (pa_cons (pe_lc (own := [("weight", 9), ("table", 3)]) (g := gTup K 2 (gCons (gName 9) (gCons (gName 3) gNil))) (tt := tYes) rfl sc.nd (kZip (K := K) (by rfl) B.zip (pa_cons (pv 5) (pa_cons (pv 0) pa_nil))) (blkOk_by (by kernel_rfl)) (fun _ _ _ _ _ => (pg_tup rfl (pgs_cons (pg_name (i := 9) sc.nd rfl (by first | exact Or.inl rfl | exact Or.inr rfl)) (pgs_cons (pg_name (i := 3) sc.nd rfl (by first | exact Or.inl rfl | exact Or.inr rfl)) pgs_nil)))) (fun _ _ _ _ _ => pts_nil) (fun _ _ _ _ _ => (PE.mon (pe_op op_mulS (pv 9) (pe_ix (ixT (K := K)) (pv 3) (pv 10) (fun _ _ => rfl)))))) pa_nil))))) pa_nil)) pa_nil)))))))), ?_⟩
    walk_at "rd"
    have lx : xs.length = zs.length := by simpa using hI.1
    have ly : ys.length = zs.length := by simpa using hF.1
    have nz : zs.length = min xs.length ys.length := by omega
    have bl : ∀ i, i ≤ zs.length → botF (zs.take i) < 2 ^ 6401 := by
      intro i hi
      refine Nat.lt_of_lt_of_le (botF_lt zs i ok.ds hi) (Nat.pow_le_pow_right (by decide) ?_)
      have h1 := Nat.mul_le_mul (show i ≤ 8 from Nat.le_trans hi ok.n1) ok.nN
      omega
    have gx : ∀ {i : Nat} {x : V} {G : Hp}, Ex H G → xs[i]? = some x → ∃ z a, zs[i]? = some z ∧ z ∈ zs ∧ x = .ref a ∧ SqT K G a (z.1.map V.int) := by
      intro i x G e hx
      obtain ⟨t, h1, h2⟩ := (hI.kp e.kp).2 i x hx
      rw [List.getElem?_map] at h1
      cases hz : zs[i]? with
      | none => rw [hz] at h1; cases h1
      | some z =>
        rw [hz] at h1
        cases h1
        obtain ⟨a, rfl, h3⟩ := h2
        exact ⟨z, a, rfl, List.mem_of_getElem? hz, rfl, h3⟩
    have gy : ∀ {i : Nat} {y : V} {z : List Int × Rat} {G : Hp}, Ex H G → zs[i]? = some z → ys[i]? = some y → ∃ a, y = .ref a ∧ SqT K G a (fr z.2) := by
      intro i y z G e hz hy
      obtain ⟨r, h1, h2⟩ := (hF.kp e.kp).2 i y hy
      rw [List.getElem?_map, hz] at h1
      cases h1
      exact h2
    obtain ⟨Pv, hP⟩ : ∃ P : Nat → L2.St → Hp → Prop, P = fun j σ' G => Ex H G ∧ ∃ s3 s4 : Option V, σ' = [some (.ref p), some (.ref q), some (.int ((botF (zs.take j) : Nat) : Int)), s3, s4, none, none, none, none, none, none] := ⟨_, rfl⟩
    refine ⟨true, ⟨_, hX⟩, kk, ⟨_, hY⟩, loopZ (xs := xs) (ys := ys) nz Pv (by rw [hP]; exact ⟨.refl _, _, _, rfl⟩) (fun j σ' G _ h => by rw [hP] at h; exact ⟨sqL_ex hX h.1, sqB_kp hY h.1⟩) ?_ ?_⟩
    · intro j x y σ' G T G' hx hy h e1 t1
      rw [hP] at h
      obtain ⟨e0, s3, s4, rfl⟩ := h
      obtain ⟨z, a, hz, zm, rfl, hS⟩ := gx (e0.trans e1) hx
      obtain ⟨b, rfl, hb⟩ := gy (e0.trans e1) hz hy
      have hj := (List.getElem?_eq_some_iff.mp hz).1
      walk_at "rd"
      refine ⟨_, .of t1, rfl, ?_⟩
      walk_at "rd"
      refine ⟨a, _, rfl, .inr hS, ?_⟩
      refine q_ixT hb at1 ?_
      walk_at "rd"
      refine ⟨cmul 800 800 (lt2_mono (ok.sl zm) ok.nN) (lt2_mono (ok.dl zm) ok.nN), ?_⟩
      refine ⟨_, _, rfl, ?_, ?_, ?_⟩
      · rw [Int.natAbs_natCast]
        exact Nat.lt_of_lt_of_le (bl j (by omega)) (Nat.pow_le_pow_right (by decide) (by decide))
      · exact lt2_mono (ok.ds z zm) (Nat.le_trans ok.nN (by decide))
      · walk_at "rd"
        rw [hP]
        dsimp only
        rw [botF_take hz, Int.natAbs_natCast]
        exact ⟨e0.trans e1, _, _, rfl⟩
    · intro σ' G h
      rw [hP] at h
      obtain ⟨e0, s3, s4, rfl⟩ := h
      rw [List.take_length]
      have bB : botF zs < 2 ^ 6401 := by
        have := bl zs.length (Nat.le_refl _)
        rwa [List.take_length] at this
      have bI : (((botF zs : Nat) : Int)).natAbs < 2 ^ 6401 := by rw [Int.natAbs_natCast]; exact bB
      walk_at "rd"
      refine ⟨true, ⟨_, sqL_ex hX e0⟩, kk, ⟨_, sqB_kp hY e0⟩, fun Dd hD => ?_⟩
      refine lcZ (xs := xs) (ys := ys) nz (fun i y _ => ∃ z, zs[i]? = some z ∧ y = .int (wgt (botF zs) z)) (fun _ _ _ _ _ h => h) hD (k1 := true) (sqL_ex hX e0) (sqB_kp hY e0) (by have := ok.n1; omega) (gm_tup (gm_cons gm_name (gm_cons (gm_tup (gm_cons gm_name (gm_cons gm_name gm_nil))) gm_nil))) ?_ ?_
      · intro i x y T H2 hx hy e hT
        obtain ⟨z, a, hz, zm, rfl, hS⟩ := gx (e0.trans e) hx
        obtain ⟨b, rfl, hb⟩ := gy (e0.trans e) hz hy
        have d0 := denW_pos (ok.tp z zm)
        unfold fr at hb
        walk_at "rd"
        refine ⟨_, .of hT, rfl, ?_⟩
        walk_at "rd"
        refine ⟨_, hb, rfl, ?_⟩
        walk_at "rd"
        obtain ⟨R0, hR⟩ : ∃ R : VK, R = fun v H' => v = .int (wgt (botF zs) z) ∧ H' = H2 := ⟨_, rfl⟩
        refine ⟨R0, ?_, fun v H' h => by rw [hR] at h; obtain ⟨rfl, rfl⟩ := h; exact ⟨Ex.refl _, z, hz, rfl⟩⟩
        walk_at "rd"
        refine ⟨a, _, rfl, .inr hS, ?_⟩
        walk_at "rd"
        refine ⟨cmul 800 800 (lt2_mono (ok.sl zm) ok.nN) (lt2_mono (ok.dl zm) ok.nN), ⟨d0, log_lt (lt2_mono (ok.ds z zm) (Nat.le_trans ok.nN (by decide)))⟩, cmul 800 6401 (lt2_mono (ok.rn z zm).2 ok.nN) ?_, ?_⟩
        · exact Nat.lt_of_le_of_lt (Int.natAbs_ediv_le_natAbs _ _) bI
        · rw [hR]
          exact ⟨rfl, rfl⟩
      · intro H2 ws e hw hl hr2
        have ew : ws = (zs.map (wgt (botF zs))).map V.int := by
          apply List.ext_getElem?
          intro i
          by_cases hi : i < ws.length
          · obtain ⟨z, h1, h2⟩ := hr2 i _ (List.getElem?_eq_getElem hi)
            rw [List.getElem?_eq_getElem hi, h2]
            simp [h1]
          · rw [List.getElem?_eq_none (by omega), List.getElem?_eq_none (by simp; omega)]
        rw [ew] at hw
        have e2 := e0.trans e
        obtain ⟨x0, hx0⟩ : ∃ x, xs[0]? = some x := ⟨_, List.getElem?_eq_getElem (by have := ok.n0; omega)⟩
        obtain ⟨z0, a0, hz0, zm0, rfl, hS0⟩ := gx e2 hx0
        walk_at "rd"
        refine q_ixL (sqL_ex hX e2) (at_of (j := 0) rfl hx0) ?_
        walk_at "rd"
        refine ⟨_, .inr hS0, ?_⟩
        rw [List.length_map, ok.len z0 zm0]
        have m0 := ok.m0
        have m1 := ok.m1
        refine ⟨by omega, by omega, fun D2 hD2 => lcR (fun i y _ => y = .int (colW (botF zs) i zs).sum) (fun _ _ _ _ _ h => h) hD2 (by omega) (fun _ => rfl) ?_ ?_⟩
        · intro i H3 hi e3
          have hi : i < m := by omega
          have e03 := e2.trans e3
          obtain ⟨R0, hR⟩ : ∃ R : VK, R = fun v H' => v = .int (colW (botF zs) i zs).sum ∧ Ex H3 H' := ⟨_, rfl⟩
          refine ⟨R0, ?_, fun v H' h => by rw [hR] at h; exact ⟨h.2, h.1⟩⟩
          walk_at "rd"
          refine ⟨true, ⟨_, .of (e3 _ _ hw)⟩, true, ⟨_, sqL_ex hX e03⟩, fun D4 hD4 => ?_⟩
          refine lcZ (xs := (zs.map (wgt (botF zs))).map V.int) (ys := xs) (n := zs.length) (by simp; omega) (fun i' y _ => ∃ z, zs[i']? = some z ∧ y = .int (wgt (botF zs) z * z.1.getD i 0)) (fun _ _ _ _ _ h => h) hD4 (k1 := true) (k2 := true) (.of (e3 _ _ hw)) (sqL_ex hX e03) (by have := ok.n1; omega) (gm_tup (gm_cons gm_name (gm_cons gm_name gm_nil))) ?_ ?_
          · intro i' v x T H5 hv hx e5 hT
            obtain ⟨z, a, hz, zm, rfl, hS⟩ := gx (e03.trans e5) hx
            have ev : v = .int (wgt (botF zs) z) := by
              rw [List.getElem?_map, List.getElem?_map, hz] at hv
              exact (Option.some.inj hv).symm
            subst ev
            walk_at "rd"
            refine ⟨_, .of hT, rfl, ?_⟩
            walk_at "rd"
            obtain ⟨R1, hR1⟩ : ∃ R : VK, R = fun v H' => v = .int (wgt (botF zs) z * z.1.getD i 0) ∧ H' = H5 := ⟨_, rfl⟩
            refine ⟨R1, ?_, fun v H' h => by rw [hR1] at h; obtain ⟨rfl, rfl⟩ := h; exact ⟨Ex.refl _, z, hz, rfl⟩⟩
            walk_at "rd"
            have li : i < z.1.length := by rw [ok.len z zm]; exact hi
            refine q_ixT hS (at_of (v := .int (z.1.getD i 0)) (j := i) ?_ ?_) ?_
            · simp [ixN]
            · simp [List.getD_eq_getElem?_getD, li]
            · walk_at "rd"
              have tm : z.1.getD i 0 ∈ z.1 := by
                rw [List.getD_eq_getElem?_getD, List.getElem?_eq_getElem li]
                exact List.getElem_mem _
              have wl : (wgt (botF zs) z).natAbs < 2 ^ (800 + 6401) := wide_lt (lt2_mono (ok.rn z zm).2 ok.nN) (Nat.lt_of_le_of_lt (Int.natAbs_ediv_le_natAbs _ _) bI)
              refine ⟨cmul (800 + 6401) 800 wl (lt2_mono (ok.tn z zm _ tm).2 ok.nN), ?_⟩
              rw [hR1]
              exact ⟨rfl, rfl⟩
          · intro H5 us e5 hu hl5 hr5
            have eu : us = (colW (botF zs) i zs).map V.int := by
              apply List.ext_getElem?
              intro i'
              by_cases hi : i' < us.length
              · obtain ⟨z, h1, h2⟩ := hr5 i' _ (List.getElem?_eq_getElem hi)
                rw [List.getElem?_eq_getElem hi, h2]
                simp [colW, h1]
              · rw [List.getElem?_eq_none (by omega), List.getElem?_eq_none (by simp [colW]; omega)]
            rw [eu] at hu
            walk_at "rd"
            refine ⟨D4, _, rfl, .inl (.of hu), ?_⟩
            rw [hR]
            exact ⟨rfl, e5⟩
        · intro H3 us e3 hu hl3 hr3
          have eu : us = (blendL m zs).map V.int := by
            apply List.ext_getElem?
            intro i
            by_cases hi : i < us.length
            · rw [List.getElem?_eq_getElem hi, hr3 i _ (List.getElem?_eq_getElem hi)]
              simp [blendL, show i < m by omega]
            · rw [List.getElem?_eq_none (by omega), List.getElem?_eq_none (by simp [blendL]; omega)]
          rw [eu] at hu
          refine ⟨D2, _, rfl, .of hu, fun r H4 n4 e4 t4 => ?_⟩
          refine ⟨_, ⟨r, rfl, .of t4⟩, rok, fun x H5 e5 h5 => k _ _ (((e2.trans e3).trans e4).trans e5) ?_⟩
          rw [plainL_prop ok.S0 (show (0 : Int) < ((botF zs : Nat) : Int) by have := botF_pos ok.tp; omega) (blend_plain ok)] at h5
          exact h5
end

section
variable {P : Program} {w : World} {K : PySem.W.Frag} {mg : Str → Option Value} {base : Heap}
theorem blend_rowok {zs : Zs} {N m : Nat} {cs : List Int} {S : Int} (h : BlendOk zs N m cs S) (hc : ∀ c ∈ cs, 0 ≤ c ∧ c.natAbs < 2 ^ 2000) : RowOk (blendL m zs) := by
  have hB := botF_pos h.tp
  have bB : botF zs < 2 ^ 6401 := by
    have := botF_lt zs zs.length h.ds (Nat.le_refl _)
    rw [List.take_length] at this
    refine Nat.lt_of_lt_of_le this (Nat.pow_le_pow_right (by decide) ?_)
    have h1 := Nat.mul_le_mul h.n1 h.nN
    omega
  have S0 := h.S0
  have fact : ∀ (k : Nat) (c : Int), cs[k]? = some c → ∃ b, (blendL m zs)[k]? = some b ∧ S * b = ((botF zs : Nat) : Int) * c := by
    intro k c hk
    have e := congrArg (·[k]?) (blend_plain h)
    simp only [List.getElem?_map, hk, Option.map_some] at e
    cases hb : (blendL m zs)[k]? with
    | none => rw [hb] at e; cases e
    | some b =>
      rw [hb] at e
      exact ⟨b, rfl, Option.some.inj e⟩
  have back : ∀ b ∈ blendL m zs, ∃ c ∈ cs, S * b = ((botF zs : Nat) : Int) * c := by
    intro b hb
    have : S * b ∈ (blendL m zs).map (S * ·) := List.mem_map.mpr ⟨b, hb, rfl⟩
    rw [blend_plain h] at this
    obtain ⟨c, hc, e⟩ := List.mem_map.mp this
    exact ⟨c, hc, e.symm⟩
  have nn : ∀ b ∈ blendL m zs, 0 ≤ b := by
    intro b hb
    obtain ⟨c, hm, e⟩ := back b hb
    have h1 := Int.mul_nonneg (show (0 : Int) ≤ ((botF zs : Nat) : Int) by omega) (hc c hm).1
    rw [← e] at h1
    rcases Int.lt_or_le b 0 with h2 | h2
    · have := Int.mul_neg_of_pos_of_neg S0 h2
      omega
    · exact h2
  have m0 := h.m0
  have m1 := h.m1
  obtain ⟨c, hm, c0⟩ := h.cp
  obtain ⟨k, hk⟩ := List.mem_iff_getElem?.mp hm
  obtain ⟨b, hb, e⟩ := fact k c hk
  have bm := List.mem_of_getElem? hb
  have b0 : b ≠ 0 := by
    intro z
    rw [z, Int.mul_zero] at e
    have := Int.mul_ne_zero (show ((botF zs : Nat) : Int) ≠ 0 by omega) c0
    omega
  have bb : b.natAbs < 2 ^ 8401 := by
    have h1 : (S * b).natAbs < 2 ^ (6401 + 2000) := by
      rw [e]
      exact wide_lt (by rw [Int.natAbs_natCast]; exact bB) (hc c hm).2
    rw [Int.natAbs_mul] at h1
    have h2 := Nat.mul_le_mul_right b.natAbs (show 1 ≤ S.natAbs by omega)
    omega
  refine ⟨by simp [blendL]; omega, by simp [blendL]; omega, nn, gcdL_pos ⟨b, bm, b0⟩, ?_⟩
  exact Nat.lt_of_lt_of_le (gcdL_lt bm b0 bb) (Nat.pow_le_pow_right (by decide) (by decide))
/-! ### fewer -/
def ucS (n y d : Nat) : List Int := (List.range (d + 1)).map fun k => ((chs y k : Nat) : Int) * ((chs (n - y) (d - k) : Nat) : Int)
def zsF (ps : List Int) (d : Nat) : Zs := ps.mapIdx fun y p => (ucS (ps.length - 1) y d, ((p : Int) : Rat) / ((ps.sum : Int) : Rat))
def fwL (ps : List Int) (d : Nat) : List Int := (List.range (d + 1)).map fun k => (ps.mapIdx fun y p => p * (((chs y k : Nat) : Int) * ((chs (ps.length - 1 - y) (d - k) : Nat) : Int))).sum
theorem ucL_S {n y d : Nat} (hn : n < 6) (hy : y ≤ n) (hd : d < 6) : ucL (n : Int) (y : Int) d = ucS n y d := by
  unfold ucL ucS
  apply List.map_congr_left
  intro k hk
  have hk := List.mem_range.mp hk
  rw [comb_chs (by omega) (by omega)]
  have e1 : (n : Int) - (y : Int) = ((n - y : Nat) : Int) := by omega
  have e2 : (d : Int) - (k : Int) = ((d - k : Nat) : Int) := by omega
  rw [e1, e2, comb_chs (by omega) (by omega)]
theorem ucS_sum {n y d : Nat} (hn : n < 6) (hy : y ≤ n) (hd : d ≤ n) : (ucS n y d).sum = ((chs n d : Nat) : Int) := by
  have h : ∀ n < 6, ∀ y < n + 1, ∀ d < n + 1, (ucS n y d).sum = ((chs n d : Nat) : Int) := by decide +kernel
  exact h n hn y (by omega) d (by omega)
theorem sum_idx (s c : Rat) : ∀ (ps : List Int) (f : Nat → Int), (ps.mapIdx fun y p => ((p : Int) : Rat) / s * ((f y : Int) : Rat) / c).sum = (((ps.mapIdx fun y p => p * f y).sum : Int) : Rat) / (s * c)
  | [], f => by
    simp
    grind
  | p :: ps, f => by
    rw [List.mapIdx_cons, List.mapIdx_cons, List.sum_cons, List.sum_cons, sum_idx s c ps fun y => f (y + 1), Rat.intCast_add, Rat.intCast_mul]
    grind
theorem mem_idx {α β : Type} {f : Nat → α → β} {l : List α} {b : β} (h : b ∈ l.mapIdx f) : ∃ (i : Nat) (a : α), l[i]? = some a ∧ a ∈ l ∧ b = f i a := by
  obtain ⟨i, hi⟩ := List.mem_iff_getElem?.mp h
  rw [List.getElem?_mapIdx] at hi
  cases e : l[i]? with
  | none => rw [e] at hi; cases hi
  | some a =>
    rw [e] at hi
    exact ⟨i, a, e, List.mem_of_getElem? e, (Option.some.inj hi).symm⟩
theorem fw_blend {ps : List Int} {d : Nat} (h : RowIn ps) (hd0 : 1 ≤ d) (hd : d < ps.length) (hpos : ∃ c ∈ fwL ps d, c ≠ 0) : BlendOk (zsF ps d) 610 (d + 1) (fwL ps d) (ps.sum * ((chs (ps.length - 1) d : Nat) : Int)) := by
  have l0 := h.l0
  have l1 := h.l1
  have s0 := h.s0
  have s1 := h.s1
  have cp := chs_pos (a := ps.length - 1) (b := d) (by omega) (by omega)
  have cl := chs_le (a := ps.length - 1) (b := d) (by omega) (by omega)
  have zf : ∀ z ∈ zsF ps d, ∃ (y : Nat) (p : Int), y ≤ ps.length - 1 ∧ p ∈ ps ∧ z = (ucS (ps.length - 1) y d, ((p : Int) : Rat) / ((ps.sum : Int) : Rat)) := by
    intro z hz
    obtain ⟨y, p, h1, h2, e⟩ := mem_idx hz
    have := (List.getElem?_eq_some_iff.mp h1).1
    exact ⟨y, p, by omega, h2, e⟩
  have rsz : ∀ p ∈ ps, sz (((p : Int) : Rat) / ((ps.sum : Int) : Rat)) 600 := by
    intro p hp
    have h1 := mem_le_sum h.nn hp
    have h2 := h.nn p hp
    exact sz_div s0 (by omega) s1
  refine ⟨by simp [zsF]; omega, by simp [zsF]; omega, by decide, by omega, by omega, ?_, ?_, ?_, ?_, ?_, by simp [fwL], Int.mul_pos s0 (by omega), ?_, hpos⟩
  · intro z hz
    obtain ⟨y, p, hy, hp, rfl⟩ := zf z hz
    simp [ucS]
  · intro z hz
    obtain ⟨y, p, hy, hp, rfl⟩ := zf z hz
    show 0 < (ucS _ _ _).sum
    rw [ucS_sum (by omega) hy (by omega)]
    omega
  · intro z hz
    obtain ⟨y, p, hy, hp, rfl⟩ := zf z hz
    unfold denW
    show ((ucS _ _ _).sum * _).natAbs < _
    rw [ucS_sum (by omega) hy (by omega)]
    exact lt2_mono (wide_lt (a := 4) (b := 600) (by omega) (den_lt (rsz p hp))) (by decide)
  · intro z hz t ht
    obtain ⟨y, p, hy, hp, rfl⟩ := zf z hz
    obtain ⟨k, hk, rfl⟩ := List.mem_map.mp ht
    have hk := List.mem_range.mp hk
    have c1 := chs_le (a := y) (b := k) (by omega) (by omega)
    have c2 := chs_le (a := ps.length - 1 - y) (b := d - k) (by omega) (by omega)
    refine ⟨Int.mul_nonneg (by omega) (by omega), lt2_mono (wide_lt (a := 4) (b := 4) (by omega) (by omega)) (by decide)⟩
  · intro z hz
    obtain ⟨y, p, hy, hp, rfl⟩ := zf z hz
    exact ⟨frac_nonneg (h.nn p hp) s0, lt2_mono (rsz p hp).1 (by decide)⟩
  · intro k hk
    have e1 : (zsF ps d).map (fun z => z.2 * ((z.1.getD k 0 : Int) : Rat) / ((z.1.sum : Int) : Rat)) =
        ps.mapIdx fun y p => ((p : Int) : Rat) / ((ps.sum : Int) : Rat) * (((((chs y k : Nat) : Int) * ((chs (ps.length - 1 - y) (d - k) : Nat) : Int) : Int)) : Rat) / ((((chs (ps.length - 1) d : Nat) : Int)) : Rat) := by
      apply List.ext_getElem?
      intro y
      unfold zsF
      rw [List.getElem?_map, List.getElem?_mapIdx, List.getElem?_mapIdx]
      cases hp : ps[y]? with
      | none => rfl
      | some p =>
        have hy := (List.getElem?_eq_some_iff.mp hp).1
        simp only [Option.map_some]
        congr 1
        rw [ucS_sum (by omega) (by omega) (by omega)]
        have eg : (ucS (ps.length - 1) y d).getD k 0 = ((chs y k : Nat) : Int) * ((chs (ps.length - 1 - y) (d - k) : Nat) : Int) := by
          unfold ucS
          rw [List.getD_eq_getElem?_getD, List.getElem?_map, List.getElem?_range hk]
          rfl
        rw [eg]
    rw [e1, sum_idx]
    have e2 : (fwL ps d).getD k 0 = (ps.mapIdx fun y p => p * (((chs y k : Nat) : Int) * ((chs (ps.length - 1 - y) (d - k) : Nat) : Int))).sum := by
      unfold fwL
      rw [List.getD_eq_getElem?_getD, List.getElem?_map, List.getElem?_range hk]
      rfl
    rw [e2, Rat.intCast_mul]
theorem fwL_all {ps : List Int} (h : RowIn ps) : fwL ps (ps.length - 1) = ps := by
  have l0 := h.l0
  have l1 := h.l1
  match ps, l0, l1 with
  | [a, b], _, _ => simp [fwL, chs, List.range_succ]
  | [a, b, c], _, _ => simp [fwL, chs, List.range_succ]
  | [a, b, c, d], _, _ => simp [fwL, chs, List.range_succ]
  | [a, b, c, d, e], _, _ => simp [fwL, chs, List.range_succ]
  | [a, b, c, d, e, f], _, _ => simp [fwL, chs, List.range_succ]
  | _ :: _ :: _ :: _ :: _ :: _ :: _ :: _, _, h => simp at h
end

section
variable {P : Program} {w : World} {K : PySem.W.Frag} {mg : Str → Option Value} {base : Heap}
theorem fw_bound {ps : List Int} {d : Nat} (h : RowIn ps) (hd : d < ps.length) : ∀ c ∈ fwL ps d, 0 ≤ c ∧ c.natAbs < 2 ^ 2000 := by
  have l1 := h.l1
  intro c hc
  obtain ⟨k, hk, rfl⟩ := List.mem_map.mp hc
  have hk := List.mem_range.mp hk
  have each : ∀ x ∈ ps.mapIdx (fun y p => p * (((chs y k : Nat) : Int) * ((chs (ps.length - 1 - y) (d - k) : Nat) : Int))), 0 ≤ x ∧ x.natAbs < 2 ^ 608 := by
    intro x hx
    obtain ⟨y, p, h1, hp, rfl⟩ := mem_idx hx
    have hy := (List.getElem?_eq_some_iff.mp h1).1
    have c1 := chs_le (a := y) (b := k) (by omega) (by omega)
    have c2 := chs_le (a := ps.length - 1 - y) (b := d - k) (by omega) (by omega)
    have h2 := mem_le_sum h.nn hp
    have h3 := h.nn p hp
    have h4 := h.s1
    refine ⟨Int.mul_nonneg h3 (Int.mul_nonneg (by omega) (by omega)), ?_⟩
    exact wide_lt (a := 600) (b := 8) (by omega) (wide_lt (a := 4) (b := 4) (by omega) (by omega))
  refine ⟨sum_nonneg fun x hx => (each x hx).1, ?_⟩
  have h5 := sum_abs_lt (n := 608) _ 6 (fun x hx => (each x hx).2) (by simpa using l1)
  have h6 : 6 * 2 ^ 608 < 2 ^ 611 := by
    have e : 2 ^ 611 = 8 * 2 ^ 608 := by rw [show 611 = 3 + 608 from rfl, Nat.pow_add]
    have := Nat.two_pow_pos 608
    omega
  exact Nat.lt_of_lt_of_le (Nat.lt_of_le_of_lt h5 h6) (Nat.pow_le_pow_right (by decide) (by decide))
def spFewer (K : PySem.W.Frag) (C : Addr) : Sp := fun vs H Q _ => ∃ (x : V) (ps : List Int) (d : Nat), vs = [x, .int (d : Int)] ∧ IsRow K C H x ps ∧ RowIn ps ∧ 1 ≤ d ∧ d < ps.length ∧ (∃ c ∈ fwL ps d, c ≠ 0) ∧
  ∀ z H', Ex H H' → IsRow K C H' z (plainL (fwL ps d)) → Q z H'
theorem scFewer : FnScope ["row", "draws", "tables", "yes"] ["row", "draws"] (defScope (top 34)) := ⟨rfl, rfl, rfl, by decide +kernel, rfl, by decide +kernel, by decide +kernel⟩
theorem ok_fewer {C : Addr} (B : Bi mg) (RT : RowT P w K mg base C) (hcheck_row : Has P w K mg base "check_row" 1 ["row"] (spCheckRow K C))
    (hcheck_number : Has P w K mg base "check_number" 2 ["given", "least", "most"] spNum) (h_urn_counts : Has P w K mg base "_urn_counts" 1 ["slips", "yes", "draws"] (spUrn K))
    (h_blended : Has P w K mg base "_blended" 5 ["tables", "shares"] (spBlend K C)) {f : Addr} {fd : FuncData} (F : Fun K "fewer" "fewer" (top 34) f fd) : FnOk P w K mg base CX0 6 f fd ["row", "draws"] (spFewer K C) := by
  have sc := scFewer
  refine F.ok sc (fun vs H Q E h => ?_) (fun cdv A outer s H vs Q E hr h => ?_)
  · obtain ⟨x, ps, d, rfl, _⟩ := h
    rfl
  · obtain ⟨x, ps, d, rfl, hrow, hin, d0, d1, hpos, k⟩ := h
    have l0 := hin.l0
    have l1 := hin.l1
    have en : ((ps.length : Nat) : Int) - 1 = ((ps.length - 1 : Nat) : Int) := by omega
    refine ⟨_, (pss_cons (ps_expr (pe_has hcheck_row (hr.mono (by decide)) (pa_cons (pv 0) pa_nil)))
      (pss_cons (ps_expr (pe_has hcheck_number (hr.mono (by decide)) (pa_cons (pv 1) (pa_cons pe_int (pa_cons (kDraws RT (hr.mono (by decide)) (pv 0)) pa_nil)))))
      (pss_cons (ps_setLc (i := 2) (own := [("yes", 3)]) (g := gName 3) (tt := tYes) rfl sc.nd rfl rfl (sw_true rfl rfl rfl (by decide +kernel)) (pi_range1 (by rfl) B.range (pa_cons (pe_op op_add (kDraws RT (hr.mono (by decide)) (pv 0)) pe_int) pa_nil)) (blkOk_by (N := (["row", "draws", "tables", "yes"] : List Str)) (sc := defScope (top 34)) (by decide +kernel)) (fun _ _ _ _ _ => (pg_name (i := 3) sc.nd rfl (by first | exact Or.inl rfl | exact Or.inr rfl))) (fun _ _ _ _ _ => pts_nil) (fun _ _ _ _ _ => (PE.mon (pe_has h_urn_counts (hr.mono (by decide)) (pa_cons (kDraws RT (hr.mono (by decide)) (pv 0)) (pa_cons (pv 3) (pa_cons (pv 1) pa_nil)))))))
      (pss_one (ps_ret (pe_has h_blended (hr.mono (by decide)) (pa_cons (pv 2) (pa_cons (kRates RT (hr.mono (by decide)) (pv 0)) pa_nil)))))))), ?_⟩
    walk_at "rd"
    refine ⟨x, ps, rfl, hrow, ?_⟩
    walk_at "rd"
    refine ⟨_, hrow, _, _, _, rfl, by omega, by omega, ?_⟩
    walk_at "rd"
    refine ⟨_, hrow, ?_⟩
    walk_at "rd"
    refine ⟨by omega, by omega, fun Dd hD => lcR (fun i y G => IsInts K G y (ucS (ps.length - 1) i d)) (fun _ _ _ _ e h => h.kp e) hD (by omega) (fun _ => rfl) ?_ ?_⟩
    · intro i H2 hi e
      obtain ⟨R0, hR⟩ : ∃ R : VK, R = fun v H' => Ex H2 H' ∧ IsInts K H' v (ucS (ps.length - 1) i d) := ⟨_, rfl⟩
      refine ⟨R0, ?_, fun v H' h => by rw [hR] at h; exact h⟩
      walk_at "rd"
      refine ⟨_, hrow.kp e.kp, ?_⟩
      rw [en]
      refine ⟨_, _, d, rfl, by omega, by omega, by omega, by omega, fun y H3 e3 h3 => ?_⟩
      rw [ucL_S (by omega) (by omega) (by omega)] at h3
      rw [hR]
      exact ⟨e3, h3⟩
    · intro H2 ys e hy hl hr2
      have hrow2 := hrow.kp e.kp
      have s1 := hin.s1
      walk_at "rd"
      refine ⟨_, hrow2, by omega, hin.s0, Nat.lt_of_lt_of_le s1 (Nat.pow_le_pow_right (by decide) (by decide)), fun y H3 e3 ⟨q, rs, ey, hS, hF⟩ => ?_⟩
      subst ey
      refine ⟨Dd, q, false, ys, rs, zsF ps d, 610, d + 1, fwL ps d, _, rfl, .of (e3 _ _ hy), hS, ⟨by simp [zsF]; omega, fun i v hv => ?_⟩, ?_, fw_blend hin d0 d1 hpos, blend_rowok (fw_blend hin d0 d1 hpos) (fw_bound hin d1), fun z H4 e4 h4 => k _ _ ((e.trans e3).trans e4) h4⟩
      · have hi := (List.getElem?_eq_some_iff.mp hv).1
        refine ⟨ucS (ps.length - 1) i d, ?_, (hr2 i v hv).kp e3.kp⟩
        unfold zsF
        rw [List.getElem?_map, List.getElem?_mapIdx, List.getElem?_eq_getElem (by omega)]
        rfl
      · have e1 : (zsF ps d).map (·.2) = ratesL ps := by
          apply List.ext_getElem?
          intro i
          unfold zsF ratesL
          rw [List.getElem?_map, List.getElem?_mapIdx, List.getElem?_map]
          cases ps[i]? <;> rfl
        rw [e1]
        exact hF
end

section
variable {P : Program} {w : World} {K : PySem.W.Frag} {mg : Str → Option Value} {base : Heap}
def wy (a : Int) : Nat → Int
  | 0 => 1
  | k + 1 => wy a k * (a - (k : Int)) / ((k : Int) + 1)
theorem wy_small {a k : Nat} (ha : a < 6) (hk : k < 6) : (wy (a : Int) k).natAbs < 1000 ∧ (k ≤ a → wy (a : Int) k = ((chs a k : Nat) : Int)) := by
  have h : ∀ a < 6, ∀ k < 6, (wy ((a : Nat) : Int) k).natAbs < 1000 ∧ (k ≤ a → wy ((a : Nat) : Int) k = ((chs a k : Nat) : Int)) := by decide +kernel
  exact h a ha k hk
theorem chs_over {a k : Nat} (ha : a < 6) (hk : k < 6) (h : a < k) : chs a k = 0 := by
  have g : ∀ a < 6, ∀ k < 6, a < k → chs a k = 0 := by decide +kernel
  exact g a ha k hk h
def spWays : Sp := fun vs H Q _ => ∃ a k : Nat, vs = [.int (a : Int), .int (k : Int)] ∧ a < 6 ∧ k < 6 ∧ Q (.int ((chs a k : Nat) : Int)) H
theorem scWays : FnScope ["things", "some", "found", "k"] ["things", "some"] (defScope (top 46)) := ⟨rfl, rfl, rfl, by decide +kernel, rfl, by decide +kernel, by decide +kernel⟩
theorem has_ways (B : Bi mg) (D : Df K mg "_law_ways" (top 46) ["things", "some"]) : Has P w K mg base "_law_ways" 1 ["things", "some"] spWays := by
  have sc := scWays
  refine .of D fun f fd F => F.ok sc (fun vs H Q E h => ?_) (fun cdv A outer s H vs Q E hr h => ?_)
  · obtain ⟨a, b, rfl, _⟩ := h
    rfl
  · obtain ⟨a, b, rfl, ha, hb, k⟩ := h
    refine ⟨_, (pss_cons (ps_set (i := 2) sc.nd rfl (by first | exact Or.inl rfl | exact Or.inr rfl) pe_int)
      (pss_cons (ps_for PassesOwn.never rfl (pi_range1 (by rfl) B.range (pa_cons (pv 1) pa_nil)) (pg_name (i := 3) sc.nd rfl (by first | exact Or.inl rfl | exact Or.inr rfl))
      (pss_one (ps_set (i := 2) sc.nd rfl (by first | exact Or.inl rfl | exact Or.inr rfl) (pe_op op_fdivW (pe_op op_mulS (pv 2) (pe_op op_sub (pv 0) (pv 3))) (pe_op op_add (pv 3) pe_int)))))
      (pss_one (ps_ret (PE.mon (pe_ifExp (pt_chain op_le op_le pe_int (pv 1) (pv 0)) (pv 2) pe_int)))))), ?_⟩
    walk_at "rd"
    refine ⟨by omega, by omega, ?_⟩
    obtain ⟨Pv, hP⟩ : ∃ P : Nat → L2.St → Hp → Prop, P = fun j σ' G => G = H ∧ ∃ s3 : Option V, σ' = [some (.int (a : Int)), some (.int (b : Int)), some (.int (wy (a : Int) j)), s3] := ⟨_, rfl⟩
    refine loopR Pv (by rw [hP]; exact ⟨rfl, _, rfl⟩) ?_ ?_
    · intro j σ' G hj h
      rw [hP] at h
      obtain ⟨rfl, s3, rfl⟩ := h
      have hs := (wy_small (a := a) (k := j) ha (by omega)).1
      walk_at "rd"
      refine ⟨cmulL (by omega) (by omega), ⟨by omega, ?_⟩, ?_⟩
      · exact log_lt (Nat.lt_of_lt_of_le (show ((j : Int) + 1).natAbs < 2 ^ 10 by omega) (Nat.pow_le_pow_right (by decide) (by decide)))
      · rw [hP]
        exact ⟨rfl, _, rfl⟩
    · intro σ' G h
      rw [hP] at h
      obtain ⟨rfl, s3, rfl⟩ := h
      have eb : ((b : Int)).toNat = b := by omega
      rw [eb]
      have hs := (wy_small (a := a) (k := b) ha hb).2
      walk_at "rd"
      refine ⟨Q, ?_, fun _ _ h => h⟩
      walk_at "rd"
      rw [if_pos (by omega)]
      by_cases hab : b ≤ a
      · rw [if_pos (by omega), hs hab]
        exact k
      · rw [if_neg (by omega)]
        rw [chs_over ha hb (by omega)] at k
        exact k
end

section
variable {P : Program} {w : World} {K : PySem.W.Frag} {mg : Str → Option Value} {base : Heap}
theorem sumR_eq (l : List Rat) : sumR l = l.sum := by
  have h : ∀ (l : List Rat) (a : Rat), l.foldl (· + ·) a = a + l.sum := by
    intro l
    induction l with
    | nil =>
      intro a
      simp
      grind
    | cons x l ih =>
      intro a
      rw [List.foldl_cons, ih, List.sum_cons]
      grind
  unfold sumR
  rw [h]
  grind
theorem row_in {cs : List Int} (hc : CountsOk cs) (F : RowFacts cs) : RowIn (plainL cs) := by
  refine ⟨by rw [plainL_len]; exact hc.1, by rw [plainL_len]; exact hc.2.1, F.nn, F.spos, ?_⟩
  exact Nat.lt_of_lt_of_le F.slt (Nat.pow_le_pow_right (by decide) (by decide))
theorem rates_plain {cs : List Int} (h : 0 < gcdL cs) : ratesL (plainL cs) = ratesL cs := by
  have e := plainL_mul cs
  have es : ((gcdL cs : Nat) : Int) * (plainL cs).sum = cs.sum := by rw [← sum_scale, plainL_mul]
  conv => rhs; unfold ratesL; rw [← es]; arg 2; rw [← e]
  unfold ratesL
  rw [List.map_map]
  apply List.map_congr_left
  intro p _
  have hg : ((((gcdL cs : Nat) : Int)) : Rat) ≠ 0 := cast_ne (by omega)
  show ((p : Int) : Rat) / _ = (((((gcdL cs : Nat) : Int) * p : Int)) : Rat) / _
  rw [Rat.intCast_mul, Rat.intCast_mul]
  grind
/-- the rates, each by the share of its choices -/
def prodL (ps : List Int) (j : Nat) : List Rat := ps.mapIdx fun k p => ((p : Int) : Rat) / ((ps.sum : Int) : Rat) * ((((chs k j : Nat) : Int) : Rat) / (((chs (ps.length - 1) j : Nat) : Int) : Rat))
theorem prod_ay (ps : List Int) (j : Nat) : sumR (prodL ps j) = ay ps j := by
  rw [sumR_eq]
  have e : prodL ps j = ps.mapIdx fun k p => ((p : Int) : Rat) / ((ps.sum : Int) : Rat) * ((((chs k j : Nat) : Int)) : Rat) / (((chs (ps.length - 1) j : Nat) : Int) : Rat) := by
    unfold prodL
    congr 1
    funext k p
    grind
  rw [e, sum_idx]
  unfold ay hitsL
  rw [Rat.intCast_mul]
theorem sum_mono : ∀ {ps : List Int} {f g : Nat → Int}, (∀ y p, ps[y]? = some p → p * f y ≤ p * g y) → (ps.mapIdx fun y p => p * f y).sum ≤ (ps.mapIdx fun y p => p * g y).sum
  | [], _, _, _ => by simp
  | p :: ps, f, g, h => by
    rw [List.mapIdx_cons, List.mapIdx_cons, List.sum_cons, List.sum_cons]
    have h1 := h 0 p rfl
    have h2 := sum_mono (ps := ps) (f := fun y => f (y + 1)) (g := fun y => g (y + 1)) fun y q hq => h (y + 1) q (by simpa using hq)
    omega
theorem sum_scaleI (c : Int) : ∀ (ps : List Int) (f : Nat → Int), c * (ps.mapIdx fun y p => p * f y).sum = (ps.mapIdx fun y p => p * (f y * c)).sum
  | [], f => by simp
  | p :: ps, f => by
    rw [List.mapIdx_cons, List.mapIdx_cons, List.sum_cons, List.sum_cons, ← sum_scaleI c ps fun y => f (y + 1)]
    grind
theorem hits_abs {ps : List Int} {j : Nat} (h : RowIn ps) (hs : ps.sum.natAbs < 2 ^ 110) (hj : j < 6) : 0 ≤ (hitsL ps j).sum ∧ (hitsL ps j).sum.natAbs < 2 ^ 120 := by
  have l1 := h.l1
  have each : ∀ x ∈ hitsL ps j, 0 ≤ x ∧ x.natAbs < 2 ^ 114 := by
    intro x hx
    obtain ⟨k, p, h1, hp, rfl⟩ := mem_idx hx
    have hk := (List.getElem?_eq_some_iff.mp h1).1
    have c1 := chs_le (a := k) (b := j) (by omega) hj
    have h2 := mem_le_sum h.nn hp
    have h3 := h.nn p hp
    exact ⟨Int.mul_nonneg h3 (by omega), wide_lt (a := 110) (b := 4) (by omega) (by omega)⟩
  refine ⟨sum_nonneg fun x hx => (each x hx).1, ?_⟩
  have h5 := sum_abs_lt (n := 114) _ 6 (fun x hx => (each x hx).2) (show (hitsL ps j).length ≤ 6 by simpa [hitsL] using l1)
  have h6 : 6 * 2 ^ 114 < 2 ^ 120 := by decide
  omega
theorem ay_den {ps : List Int} {j : Nat} (h : RowIn ps) (hj : j < ps.length) : 0 < ps.sum * ((chs (ps.length - 1) j : Nat) : Int) := by
  have l1 := h.l1
  have := chs_pos (a := ps.length - 1) (b := j) (by omega) (by omega)
  exact Int.mul_pos h.s0 (by omega)
theorem ay_sz {ps : List Int} {j : Nat} (h : RowIn ps) (hs : ps.sum.natAbs < 2 ^ 110) (hj : j < ps.length) : sz (ay ps j) 120 := by
  have l1 := h.l1
  have := chs_le (a := ps.length - 1) (b := j) (by omega) (by omega)
  exact sz_div (ay_den h hj) (hits_abs h hs (by omega)).2 (lt2_mono (wide_lt (a := 110) (b := 4) hs (by omega)) (by decide))
theorem frac_cmp {a b c d : Int} (hb : 0 < b) (hd : 0 < d) (h : a * d ≤ c * b) :
    ((a : Rat) / (b : Rat)).num * (((((c : Rat) / (d : Rat)).den : Nat)) : Int) ≤ ((c : Rat) / (d : Rat)).num * (((((a : Rat) / (b : Rat)).den : Nat)) : Int) := by
  have e1 := frac_mul (p := a) hb
  have e2 := frac_mul (p := c) hd
  have p1 := den_pos ((a : Rat) / (b : Rat))
  have p2 := den_pos ((c : Rat) / (d : Rat))
  generalize (((((a : Rat) / (b : Rat)).den : Nat)) : Int) = u at *
  generalize (((((c : Rat) / (d : Rat)).den : Nat)) : Int) = v at *
  generalize ((a : Rat) / (b : Rat)).num = x at *
  generalize ((c : Rat) / (d : Rat)).num = y at *
  have h2 : a * d * (u * v) ≤ c * b * (u * v) := Int.mul_le_mul_of_nonneg_right h (Int.le_of_lt (Int.mul_pos p1 p2))
  have h3 : x * v * (b * d) ≤ y * u * (b * d) := by
    have g1 : x * v * (b * d) = a * d * (u * v) := by grind
    have g2 : y * u * (b * d) = c * b * (u * v) := by grind
    omega
  exact Int.le_of_mul_le_mul_right h3 (Int.mul_pos hb hd)
theorem ay_fall {ps : List Int} {j : Nat} (h : RowIn ps) (hj : j + 1 < ps.length) : (ay ps (j + 1)).num * (((ay ps j).den : Nat) : Int) ≤ (ay ps j).num * (((ay ps (j + 1)).den : Nat) : Int) := by
  have l1 := h.l1
  refine frac_cmp (ay_den h hj) (ay_den h (by omega)) ?_
  have key : ∀ n < 6, ∀ k < n + 1, ∀ j < n, chs k (j + 1) * chs n j ≤ chs k j * chs n (j + 1) := by decide +kernel
  have e1 : (hitsL ps (j + 1)).sum * (ps.sum * ((chs (ps.length - 1) j : Nat) : Int)) = ps.sum * (ps.mapIdx fun k p => p * (((chs k (j + 1) * chs (ps.length - 1) j : Nat)) : Int)).sum := by
    have := sum_scaleI ((chs (ps.length - 1) j : Nat) : Int) ps fun k => ((chs k (j + 1) : Nat) : Int)
    unfold hitsL
    simp only [Int.natCast_mul]
    rw [← this]
    grind
  have e2 : (hitsL ps j).sum * (ps.sum * ((chs (ps.length - 1) (j + 1) : Nat) : Int)) = ps.sum * (ps.mapIdx fun k p => p * (((chs k j * chs (ps.length - 1) (j + 1) : Nat)) : Int)).sum := by
    have := sum_scaleI ((chs (ps.length - 1) (j + 1) : Nat) : Int) ps fun k => ((chs k j : Nat) : Int)
    unfold hitsL
    simp only [Int.natCast_mul]
    rw [← this]
    grind
  rw [e1, e2]
  refine Int.mul_le_mul_of_nonneg_left (sum_mono fun k p hp => ?_) (Int.le_of_lt h.s0)
  have hk := (List.getElem?_eq_some_iff.mp hp).1
  have := key (ps.length - 1) (by omega) k (by omega) j (by omega)
  exact Int.mul_le_mul_of_nonneg_left (by omega) (h.nn p (List.mem_of_getElem? hp))
end

section
variable {P : Program} {w : World} {K : PySem.W.Frag} {mg : Str → Option Value} {base : Heap}
/-- with its sign -/
def sg (i c : Nat) : Int := if i % 2 = 0 then (c : Int) else 0 - (c : Int)
def sgL (ps : List Int) (k : Nat) : List Rat := (List.range (ps.length - k)).map fun i => ay ps (k + i) * ((sg i (chs (ps.length - 1 - k) i) : Int) : Rat)
theorem cast_ne0 {S : Int} (h : 0 < S) : ((S : Int) : Rat) ≠ 0 := cast_ne (by omega)
theorem ay_inv {ps : List Int} (h : RowIn ps) {k : Nat} (hk : k < ps.length) : sumR (sgL ps k) * ((((chs (ps.length - 1) k : Nat) : Int)) : Rat) = ((ps.getD k 0 : Int) : Rat) / ((ps.sum : Int) : Rat) := by
  have l0 := h.l0
  have l1 := h.l1
  have hs := cast_ne0 h.s0
  match ps, l0, l1, hk, hs with
  | [a, b], _, _, hk, hs =>
    have : k = 0 ∨ k = 1 := by simp at hk; omega
    simp only [List.sum_cons, List.sum_nil] at hs
    rcases this with rfl | rfl <;> simp [sgL, ay, hitsL, chs, List.range_succ, sumR, sg] at hs ⊢ <;> grind
  | [a, b, c], _, _, hk, hs =>
    have : k = 0 ∨ k = 1 ∨ k = 2 := by simp at hk; omega
    rcases this with rfl | rfl | rfl <;> simp [sgL, ay, hitsL, chs, List.range_succ, sumR, sg] at hs ⊢ <;> grind
  | [a, b, c, d], _, _, hk, hs =>
    have : k = 0 ∨ k = 1 ∨ k = 2 ∨ k = 3 := by simp at hk; omega
    rcases this with rfl | rfl | rfl | rfl <;> simp [sgL, ay, hitsL, chs, List.range_succ, sumR, sg] at hs ⊢ <;> grind
  | [a, b, c, d, e], _, _, hk, hs =>
    have : k = 0 ∨ k = 1 ∨ k = 2 ∨ k = 3 ∨ k = 4 := by simp at hk; omega
    rcases this with rfl | rfl | rfl | rfl | rfl <;> simp [sgL, ay, hitsL, chs, List.range_succ, sumR, sg] at hs ⊢ <;> grind
  | [a, b, c, d, e, f], _, _, hk, hs =>
    have : k = 0 ∨ k = 1 ∨ k = 2 ∨ k = 3 ∨ k = 4 ∨ k = 5 := by simp at hk; omega
    rcases this with rfl | rfl | rfl | rfl | rfl | rfl <;> simp [sgL, ay, hitsL, chs, List.range_succ, sumR, sg] at hs ⊢ <;> grind
  | _ :: _ :: _ :: _ :: _ :: _ :: _ :: _, _, h, _, _ => simp at h
theorem ay_zero {ps : List Int} (h : RowIn ps) : ay ps 0 = 1 := by
  have hs := cast_ne0 h.s0
  have e : hitsL ps 0 = ps := by
    apply List.ext_getElem?
    intro i
    unfold hitsL
    rw [List.getElem?_mapIdx]
    cases ps[i]? with
    | none => rfl
    | some p => cases i <;> simp [chs]
  unfold ay
  rw [e]
  have e2 : chs (ps.length - 1) 0 = 1 := by cases (ps.length - 1) <;> rfl
  rw [e2]
  simp
  grind
theorem ay_both {ps : List Int} (h : RowIn ps) : sumR [ay ps 1, ay ps.reverse 1] = 1 := by
  have l0 := h.l0
  have l1 := h.l1
  have hs := cast_ne0 h.s0
  match ps, l0, l1, hs with
  | [a, b], _, _, hs => simp [ay, hitsL, chs, sumR] at hs ⊢ <;> grind
  | [a, b, c], _, _, hs => simp [ay, hitsL, chs, sumR] at hs ⊢ <;> grind
  | [a, b, c, d], _, _, hs => simp [ay, hitsL, chs, sumR] at hs ⊢ <;> grind
  | [a, b, c, d, e], _, _, hs => simp [ay, hitsL, chs, sumR] at hs ⊢ <;> grind
  | [a, b, c, d, e, f], _, _, hs => simp [ay, hitsL, chs, sumR] at hs ⊢ <;> grind
  | _ :: _ :: _ :: _ :: _ :: _ :: _ :: _, _, h, _ => simp at h
theorem ay_last {ps : List Int} (h : RowIn ps) : ay ps.reverse (ps.length - 1) = ((ps.getD 0 0 : Int) : Rat) / ((ps.sum : Int) : Rat) := by
  have l0 := h.l0
  have l1 := h.l1
  have hs := cast_ne0 h.s0
  match ps, l0, l1, hs with
  | [a, b], _, _, hs => simp [ay, hitsL, chs] at hs ⊢ <;> grind
  | [a, b, c], _, _, hs => simp [ay, hitsL, chs] at hs ⊢ <;> grind
  | [a, b, c, d], _, _, hs => simp [ay, hitsL, chs] at hs ⊢ <;> grind
  | [a, b, c, d, e], _, _, hs => simp [ay, hitsL, chs] at hs ⊢ <;> grind
  | [a, b, c, d, e, f], _, _, hs => simp [ay, hitsL, chs] at hs ⊢ <;> grind
  | _ :: _ :: _ :: _ :: _ :: _ :: _ :: _, _, h, _ => simp at h
theorem sum_rev : ∀ ps : List Int, ps.reverse.sum = ps.sum
  | [] => rfl
  | p :: ps => by
    rw [List.reverse_cons, List.sum_append, sum_rev ps, List.sum_cons, List.sum_cons, List.sum_nil]
    omega
theorem row_rev {ps : List Int} (h : RowIn ps) : RowIn ps.reverse := by
  refine ⟨by simpa using h.l0, by simpa using h.l1, fun p hp => h.nn p (List.mem_reverse.mp hp), ?_, ?_⟩
  · rw [sum_rev]
    exact h.s0
  · rw [sum_rev]
    exact h.s1
theorem gcd_rev (ps : List Int) : gcdL ps.reverse = gcdL ps := by
  apply Nat.dvd_antisymm
  · exact dvd_gcdL fun c hc => gcdL_dvd (List.mem_reverse.mpr hc)
  · exact dvd_gcdL fun c hc => gcdL_dvd (List.mem_reverse.mp hc)
theorem plain_one {ps : List Int} (h : gcdL ps = 1) : plainL ps = ps := by
  unfold plainL
  rw [h]
  simp
theorem plain_rev {ps : List Int} (h : gcdL ps = 1) : plainL ps.reverse = ps.reverse := plain_one (by rw [gcd_rev]; exact h)
theorem ok_rev {ps : List Int} (h : RowOk ps) : RowOk ps.reverse := by
  obtain ⟨h1, h2, h3, h4, h5⟩ := h
  exact ⟨by simpa using h1, by simpa using h2, fun c hc => h3 c (List.mem_reverse.mp hc), by rw [gcd_rev]; exact h4, by rw [gcd_rev]; exact h5⟩
theorem fr_int (i : Int) : fr ((i : Int) : Rat) = [V.int i, V.int 1] := by
  unfold fr
  simp
theorem sz_int {i : Int} {n : Nat} (h : i.natAbs < 2 ^ n) (hn : 1 ≤ n) : sz ((i : Int) : Rat) n := by
  refine ⟨by simpa using h, ?_⟩
  have : 2 ^ 1 ≤ 2 ^ n := Nat.pow_le_pow_right (by decide) hn
  simp
  omega
theorem sg_abs {i c : Nat} : (sg i c).natAbs = c := by
  unfold sg
  split
  · omega
  · omega
/-! ### all but p stays -/
def Bt (p : Addr) (H H' : Hp) : Prop := ∀ a o, a ≠ p → H a = some o → H' a = some o
theorem Bt.refl {p : Addr} (H : Hp) : Bt p H H := fun _ _ _ h => h
theorem Bt.ex {p : Addr} {H H1 H2 : Hp} (b : Bt p H H1) (e : Ex H1 H2) : Bt p H H2 := fun a o n h => e a o (b a o n h)
theorem Bt.upd {p : Addr} {H H1 : Hp} {o : HO} (b : Bt p H H1) : Bt p H (L2.upd H1 p o) := fun a u n h => by
  rw [upd_ne n]
  exact b a u n h
theorem Bt.kp {p : Addr} {H H1 : Hp} {xs : List V} (b : Bt p H H1) (h : H p = some (.lst xs)) : Kp H H1 := fun a o e n => b a o (fun z => by
  subst z
  rw [h] at e
  exact n _ (Option.some.inj e).symm) e
theorem Bt.out {p : Addr} {H H1 H2 : Hp} (n : H p = none) (e : Ex H H1) (b : Bt p H1 H2) : Ex H H2 := fun a o h => b a o (ne_of_none h n) (e a o h)
theorem Bt.gv {v p : Addr} {H H1 H2 : Hp} (g : Gv v H H1) (n : H p = none) (pv : p ≠ v) (b : Bt p H1 H2) : Gv v H H2 := by
  refine ⟨g.old, fun a o ha e => b a o (ne_of_none e n) (g.keep a o ha e), ?_⟩
  obtain ⟨x, y, z, e, r⟩ := g.new
  exact ⟨x, y, z, b _ _ (Ne.symm pv) e, r⟩
theorem Bt.lst {p l : Addr} {H H1 : Hp} {xs : List V} (b : Bt p H H1) (n : l ≠ p) (h : H l = some (.lst xs)) : H1 l = some (.lst xs) := b l _ n h
end

section
variable {P : Program} {w : World} {K : PySem.W.Frag} {mg : Str → Option Value} {base : Heap}
/-! ### is_fraction, is_chance, powers, coin_row, behind -/
def spFrac (K : PySem.W.Frag) : Sp := fun vs H Q _ => ∃ (x : V) (r : Rat), vs = [x] ∧ IsFr K H x r ∧ Q (.bl true) H
theorem scFrac : FnScope ["value", "top", "bottom"] ["value"] (defScope (top 18)) := ⟨rfl, rfl, rfl, by decide +kernel, rfl, by decide +kernel, by decide +kernel⟩
theorem has_frac (B : Bi mg) (c_gcd : mg "gcd" = some (.builtin "math.gcd")) (his_whole : Has P w K mg base "is_whole" 1 ["value"] spWhole) (D : Df K mg "is_fraction" (top 18) ["value"]) : Has P w K mg base "is_fraction" 2 ["value"] (spFrac K) := by
  have sc := scFrac
  refine .of D fun f fd F => F.ok sc (fun vs H Q E h => ?_) (fun cdv A outer s H vs Q E hr h => ?_)
  · obtain ⟨x, r, rfl, _⟩ := h
    rfl
  · obtain ⟨x, r, rfl, ⟨a, rfl, ha⟩, k⟩ := h
    refine ⟨_, (pss_cons (ps_if (PW.pt (pw_or (pt_not (pt_val (pe_callB (kIsi (K := K)) (by rfl) B.isinstance (by decide +kernel) (pa_cons (pv 0) (pa_cons (pe_bltn (v := .ty "tuple") (by rfl) B.tuple (by decide +kernel) rfl) pa_nil))))) (pw_or1 (pt_cmpR op_ne (pe_callB (kLen (K := K)) (by rfl) B.len (by decide +kernel) (pa_cons (pv 0) pa_nil)) pe_int (nomark _))))) (pss_one (ps_ret pe_bl)) pss_nil)
      (pss_cons (ps_asg (pv 0) (pg_tup rfl (pgs_cons (pg_name (i := 1) sc.nd rfl (by first | exact Or.inl rfl | exact Or.inr rfl)) (pgs_cons (pg_name (i := 2) sc.nd rfl (by first | exact Or.inl rfl | exact Or.inr rfl)) pgs_nil))))
      (pss_one (ps_ret (pe_and (pe_has his_whole (hr.mono (by decide)) (pa_cons (pv 1) pa_nil)) (pe_and (pe_has his_whole (hr.mono (by decide)) (pa_cons (pv 2) pa_nil)) (pe_and (pe_cmpR op_gt (pv 2) pe_int (nomark _)) (pe_one (pe_cmpR op_eq (pe_callBfun cr_gcd (by rfl) c_gcd (pa_cons (pv 1) (pa_cons (pv 2) pa_nil))) pe_int (nomark _)))))))))), ?_⟩
    walk_at "rd"
    refine ⟨_, _, _, _, true, rfl, .ty "tuple", ty_tup ha, kit_ty (by decide +kernel), ?_⟩
    walk_at "rd"
    refine ⟨_, .inr ha, ?_⟩
    unfold fr at ha ⊢
    walk_at "rd"
    rw [if_neg (by simp)]
    refine ⟨_, ha, rfl, ?_⟩
    walk_at "rd"
    refine ⟨_, rfl, ?_⟩
    walk_at "rd"
    refine ⟨_, rfl, ?_⟩
    walk_at "rd"
    rw [if_pos (den_pos r)]
    refine ⟨_, _, rfl, ?_⟩
    walk_at "rd"
    have e : Nat.gcd r.num.natAbs (((r.den : Nat) : Int)).natAbs = 1 := by
      rw [Int.natAbs_natCast]
      exact r.reduced
    rw [e]
    exact k
def spChance (K : PySem.W.Frag) : Sp := fun vs H Q _ => ∃ (x : V) (r : Rat), vs = [x] ∧ IsFr K H x r ∧ 0 ≤ r.num ∧ r.num ≤ ((r.den : Nat) : Int) ∧ Q (.bl true) H
theorem scChance : FnScope ["value"] ["value"] (defScope (top 19)) := ⟨rfl, rfl, rfl, by decide +kernel, rfl, by decide +kernel, by decide +kernel⟩
theorem has_chance (his_fraction : Has P w K mg base "is_fraction" 2 ["value"] (spFrac K)) (D : Df K mg "is_chance" (top 19) ["value"]) : Has P w K mg base "is_chance" 3 ["value"] (spChance K) := by
  have sc := scChance
  refine .of D fun f fd F => F.ok sc (fun vs H Q E h => ?_) (fun cdv A outer s H vs Q E hr h => ?_)
  · obtain ⟨x, r, rfl, _⟩ := h
    rfl
  · obtain ⟨x, r, rfl, hx, h1, h2, k⟩ := h
    refine ⟨_, (pss_one (ps_ret (pe_and (pe_has his_fraction (hr.mono (by decide)) (pa_cons (pv 0) pa_nil)) (pe_one (pe_chain op_le op_le pe_int (pe_ix (ixT (K := K)) (pv 0) pe_int (fun _ _ => rfl)) (pe_ix (ixT (K := K)) (pv 0) pe_int (fun _ _ => rfl))))))), ?_⟩
    walk_at "rd"
    refine ⟨x, r, rfl, hx, ?_⟩
    walk_at "rd"
    obtain ⟨a, rfl, ha⟩ := hx
    refine q_ixT ha at0 ?_
    walk_at "rd"
    rw [if_pos h1]
    refine q_ixT ha at1 ?_
    walk_at "rd"
    simpa [h2] using k
end

section
variable {P : Program} {w : World} {K : PySem.W.Frag} {mg : Str → Option Value} {base : Heap}
/-! ### mathematics of mixtures -/
def Sm (m : Nat) (f : Nat → Rat) : Rat := ((List.range m).map f).sum
theorem Sm_zero (f : Nat → Rat) : Sm 0 f = 0 := rfl
theorem Sm_succ (m : Nat) (f : Nat → Rat) : Sm (m + 1) f = Sm m f + f m := by
  unfold Sm
  rw [List.range_succ, List.map_append, List.sum_append]
  simp only [List.map_cons, List.map_nil, List.sum_cons, List.sum_nil]
  grind
theorem Sm_congr {m : Nat} {f g : Nat → Rat} (h : ∀ k < m, f k = g k) : Sm m f = Sm m g := by
  induction m with
  | zero => rfl
  | succ m ih => rw [Sm_succ, Sm_succ, ih fun k hk => h k (by omega), h m (by omega)]
theorem Sm_add (f g : Nat → Rat) : ∀ m : Nat, Sm m (fun k => f k + g k) = Sm m f + Sm m g
  | 0 => by rw [Sm_zero, Sm_zero, Sm_zero]; grind
  | m + 1 => by rw [Sm_succ, Sm_succ, Sm_succ, Sm_add f g m]; grind
theorem Sm_mul (c : Rat) (f : Nat → Rat) : ∀ m : Nat, Sm m (fun k => c * f k) = c * Sm m f
  | 0 => by rw [Sm_zero, Sm_zero]; grind
  | m + 1 => by rw [Sm_succ, Sm_succ, Sm_mul c f m]; grind
theorem Sm_null : ∀ m : Nat, Sm m (fun _ => 0) = 0
  | 0 => rfl
  | m + 1 => by rw [Sm_succ, Sm_null m]; grind
theorem idx_Sm (ps : List Int) (f : Nat → Int → Rat) : (ps.mapIdx f).sum = Sm ps.length fun y => f y (ps.getD y 0) := by
  unfold Sm
  congr 1
  apply List.ext_getElem?
  intro i
  rw [List.getElem?_mapIdx, List.getElem?_map]
  by_cases hi : i < ps.length
  · rw [List.getElem?_eq_getElem hi, List.getElem?_range hi]
    simp [List.getD_eq_getElem?_getD, hi]
  · rw [List.getElem?_eq_none (by omega), List.getElem?_eq_none (by simp; omega)]
    rfl
/-- the rate at k -/
def rt (ps : List Int) (k : Nat) : Rat := ((ps.getD k 0 : Int) : Rat) / ((ps.sum : Int) : Rat)
theorem rt_rates (ps : List Int) {k : Nat} (hk : k < ps.length) : (ratesL ps)[k]? = some (rt ps k) := by
  unfold ratesL rt
  rw [List.getElem?_map, List.getElem?_eq_getElem hk, List.getD_eq_getElem?_getD, List.getElem?_eq_getElem hk]
  rfl
theorem rt_plain {cs : List Int} (h : 0 < gcdL cs) (k : Nat) : rt (plainL cs) k = rt cs k := by
  by_cases hk : k < cs.length
  · have e := rates_plain h
    have e1 := rt_rates (plainL cs) (k := k) (by rw [plainL_len]; exact hk)
    rw [e, rt_rates cs hk] at e1
    exact (Option.some.inj e1).symm
  · unfold rt
    rw [List.getD_eq_getElem?_getD, List.getD_eq_getElem?_getD, List.getElem?_eq_none (by rw [plainL_len]; omega), List.getElem?_eq_none (by omega)]
    simp
    grind
theorem rt_one {ps : List Int} (h : 0 < ps.sum) : Sm ps.length (rt ps) = 1 := by
  have e := sumR_rates h
  rw [sumR_eq] at e
  have e2 := idx_Sm ps fun y p => ((p : Int) : Rat) / ((ps.sum : Int) : Rat)
  have e3 : (ps.mapIdx fun y p => ((p : Int) : Rat) / ((ps.sum : Int) : Rat)) = ratesL ps := by
    apply List.ext_getElem?
    intro i
    unfold ratesL
    rw [List.getElem?_mapIdx, List.getElem?_map]
  rw [e3, e] at e2
  exact e2.symm
/-- rows with the same rates are the same -/
theorem plain_rt {a b : List Int} (hl : a.length = b.length) (ha : 0 < a.sum) (hb : 0 < b.sum) (h : ∀ k < a.length, rt a k = rt b k) : plainL a = plainL b := by
  refine plainL_prop hb ha ?_
  apply List.ext_getElem?
  intro k
  rw [List.getElem?_map, List.getElem?_map]
  by_cases hk : k < a.length
  · have e := h k hk
    have na := cast_ne0 ha
    have nb := cast_ne0 hb
    unfold rt at e
    have ga : a[k]? = some (a.getD k 0) := by rw [List.getD_eq_getElem?_getD, List.getElem?_eq_getElem hk]; rfl
    have gb : b[k]? = some (b.getD k 0) := by rw [List.getD_eq_getElem?_getD, List.getElem?_eq_getElem (by omega)]; rfl
    rw [ga, gb]
    simp only [Option.map_some, Option.some.injEq]
    have e2 : (((b.sum * a.getD k 0 : Int)) : Rat) = (((a.sum * b.getD k 0 : Int)) : Rat) := by
      rw [Rat.intCast_mul, Rat.intCast_mul]
      grind
    exact Rat.intCast_inj.mp e2
  · rw [List.getElem?_eq_none (by omega), List.getElem?_eq_none (by omega)]
    rfl
theorem ok_of {cs : List Int} (l0 : 2 ≤ cs.length) (l1 : cs.length ≤ 6) (nn : ∀ c ∈ cs, 0 ≤ c) (s0 : 0 < cs.sum) {n : Nat} (s1 : cs.sum.natAbs < 2 ^ n) (hn : n ≤ 8990) : RowOk cs := by
  obtain ⟨c, hc, c0⟩ := sum_pos_ex nn s0
  have := mem_le_sum nn hc
  refine ⟨l0, l1, nn, gcdL_pos ⟨c, hc, by omega⟩, ?_⟩
  exact Nat.lt_of_lt_of_le (gcdL_lt (m := n) hc (by omega) (by omega)) (Nat.pow_le_pow_right (by decide) hn)
theorem plain_nn {cs : List Int} (g : 0 < gcdL cs) (nn : ∀ c ∈ cs, 0 ≤ c) : ∀ p ∈ plainL cs, 0 ≤ p := by
  intro p hp
  obtain ⟨x, hx, rfl⟩ := List.mem_map.mp hp
  exact Int.ediv_nonneg (nn x hx) (by omega)
theorem plain_sum {cs : List Int} (g : 0 < gcdL cs) (s0 : 0 < cs.sum) : 0 < (plainL cs).sum ∧ (plainL cs).sum ≤ cs.sum := by
  have e : ((gcdL cs : Nat) : Int) * (plainL cs).sum = cs.sum := by rw [← sum_scale, plainL_mul]
  have gI : (0 : Int) < ((gcdL cs : Nat) : Int) := by omega
  have sp : 0 < (plainL cs).sum := by
    rcases Int.lt_or_le 0 (plainL cs).sum with h | h
    · exact h
    · have := Int.mul_le_mul_of_nonneg_left h (Int.le_of_lt gI)
      rw [e, Int.mul_zero] at this
      omega
  refine ⟨sp, ?_⟩
  rw [← e]
  have := Int.mul_le_mul_of_nonneg_right (show (1 : Int) ≤ ((gcdL cs : Nat) : Int) by omega) (Int.le_of_lt sp)
  omega
/-- a row's plain counts, with a bound of their sum -/
structure PR (m n : Nat) (ps : List Int) : Prop where
  len : ps.length = m
  m0 : 2 ≤ m
  m1 : m ≤ 6
  nn : ∀ p ∈ ps, 0 ≤ p
  s0 : 0 < ps.sum
  s1 : ps.sum.natAbs < 2 ^ n
  one : gcdL ps = 1
theorem PR.of {cs : List Int} {m n : Nat} (l : cs.length = m) (m0 : 2 ≤ m) (m1 : m ≤ 6) (nn : ∀ c ∈ cs, 0 ≤ c) (s0 : 0 < cs.sum) (s1 : cs.sum.natAbs < 2 ^ n) : PR m n (plainL cs) := by
  obtain ⟨c, hc, c0⟩ := sum_pos_ex nn s0
  have g : 0 < gcdL cs := gcdL_pos ⟨c, hc, by omega⟩
  obtain ⟨h1, h2⟩ := plain_sum g s0
  exact ⟨by rw [plainL_len]; exact l, m0, m1, plain_nn g nn, h1, by omega, plainL_plain cs g⟩
theorem PR.plain {ps : List Int} {m n : Nat} (h : PR m n ps) : plainL ps = ps := plain_one h.one
theorem PR.inn {ps : List Int} {m n : Nat} (h : PR m n ps) (hn : n ≤ 600) : RowIn ps :=
  ⟨by rw [h.len]; exact h.m0, by rw [h.len]; exact h.m1, h.nn, h.s0, lt2_mono h.s1 hn⟩
theorem PR.mono {ps : List Int} {m n n' : Nat} (h : PR m n ps) (hn : n ≤ n') : PR m n' ps := ⟨h.len, h.m0, h.m1, h.nn, h.s0, lt2_mono h.s1 hn, h.one⟩
theorem PR.ok {ps : List Int} {m n : Nat} (h : PR m n ps) : RowOk ps := by
  refine ⟨by rw [h.len]; exact h.m0, by rw [h.len]; exact h.m1, h.nn, by rw [h.one]; decide, by rw [h.one]; exact Nat.lt_of_lt_of_le (show 1 < 2 ^ 1 by decide) (Nat.pow_le_pow_right (by decide) (by decide))⟩
theorem PR.gd {ps : List Int} {m n : Nat} (h : PR m n ps) (hn : n ≤ 1900) : Gd (intsD ps) 1 (6 * 1932 + 3) := by
  refine gd_ints (by rw [h.len]; exact h.m1) fun c hc => ?_
  have h1 := mem_le_sum h.nn hc
  have h2 := h.nn c hc
  have h3 := h.s1
  exact lt2_mono (n := n) (by omega) hn
theorem PR.eq {a b : List Int} {m n n' : Nat} (ha : PR m n a) (hb : PR m n' b) (h : ∀ k < m, rt a k = rt b k) : a = b := by
  rw [← ha.plain, ← hb.plain]
  exact plain_rt (by rw [ha.len, hb.len]) ha.s0 hb.s0 fun k hk => h k (by rw [← ha.len]; exact hk)
/-! what is mixed -/
def mx (zs : Zs) (k : Nat) : Rat := (zs.map fun z => z.2 * rt z.1 k).sum
theorem Sm_mx (c : Nat → Rat) (m : Nat) : ∀ zs : Zs, Sm m (fun k => mx zs k * c k) = (zs.map fun z => z.2 * Sm m (fun k => rt z.1 k * c k)).sum
  | [] => by
    rw [Sm_congr (g := fun _ => 0) (fun k _ => by simp [mx]), Sm_null]
    rfl
  | z :: zs => by
    rw [List.map_cons, List.sum_cons, ← Sm_mx c m zs, ← Sm_mul, ← Sm_add]
    apply Sm_congr
    intro k _
    simp only [mx, List.map_cons, List.sum_cons]
    grind
structure MixOk (zs : Zs) (N m : Nat) : Prop where
  n0 : 0 < zs.length
  n1 : zs.length ≤ 8
  nN : N ≤ 800
  m0 : 2 ≤ m
  m1 : m ≤ 6
  len : ∀ z ∈ zs, z.1.length = m
  nn : ∀ z ∈ zs, ∀ t ∈ z.1, 0 ≤ t
  tp : ∀ z ∈ zs, 0 < z.1.sum
  ds : ∀ z ∈ zs, (denW z).natAbs < 2 ^ N
  r0 : ∀ z ∈ zs, 0 ≤ z.2.num
  r1 : ∀ z ∈ zs, z.2.num ≤ ((z.2.den : Nat) : Int)
  one : (zs.map (·.2)).sum = 1
theorem blend_len (m : Nat) (zs : Zs) : (blendL m zs).length = m := by simp [blendL]
theorem blend_get {zs : Zs} {m k : Nat} (hk : k < m) : (blendL m zs).getD k 0 = (colW (botF zs) k zs).sum := by
  unfold blendL
  rw [List.getD_eq_getElem?_getD, List.getElem?_map, List.getElem?_range hk]
  rfl
theorem mx_div {zs : Zs} {N m : Nat} (h : MixOk zs N m) (k : Nat) : (zs.map fun z => z.2 * ((z.1.getD k 0 : Int) : Rat) / ((z.1.sum : Int) : Rat)).sum = mx zs k := by
  unfold mx
  congr 1
  apply List.map_congr_left
  intro z _
  unfold rt
  grind
theorem blend_mx {zs : Zs} {N m : Nat} (h : MixOk zs N m) {k : Nat} (hk : k < m) : (((blendL m zs).getD k 0 : Int) : Rat) = ((botF zs : Nat) : Int) * mx zs k := by
  rw [blend_get hk, col_rat k zs fun z hz => ⟨h.tp z hz, botF_dvd h.tp hz⟩, mx_div h]
theorem sum_Sm (ps : List Int) : ((ps.sum : Int) : Rat) = Sm ps.length fun k => ((ps.getD k 0 : Int) : Rat) := by
  rw [← idx_Sm ps fun y p => ((p : Int) : Rat)]
  have : ∀ ps : List Int, ((ps.sum : Int) : Rat) = (ps.mapIdx fun y p => ((p : Int) : Rat)).sum := by
    intro ps
    induction ps with
    | nil => rfl
    | cons p ps ih => rw [List.sum_cons, List.mapIdx_cons, List.sum_cons, Rat.intCast_add, ih]
  exact this ps
theorem mix_sum {zs : Zs} {N m : Nat} (h : MixOk zs N m) : (blendL m zs).sum = ((botF zs : Nat) : Int) := by
  have e := sum_Sm (blendL m zs)
  rw [blend_len, Sm_congr fun k hk => blend_mx h hk, Sm_mul] at e
  have e1 := Sm_mx (fun _ => 1) m zs
  have e2 : (zs.map fun z => z.2 * Sm m (fun k => rt z.1 k * 1)).sum = 1 := by
    have e5 : (zs.map fun z => z.2 * Sm m (fun k => rt z.1 k * 1)) = zs.map (·.2) := by
      apply List.map_congr_left
      intro z hz
      have e3 := rt_one (h.tp z hz)
      rw [h.len z hz] at e3
      rw [Sm_congr (g := rt z.1) (fun k _ => Rat.mul_one _), e3, Rat.mul_one]
    rw [e5]
    exact h.one
  rw [e2, Sm_congr (g := mx zs) (fun k _ => Rat.mul_one _)] at e1
  rw [e1] at e
  have e4 : (((blendL m zs).sum : Int) : Rat) = ((((botF zs : Nat) : Int)) : Rat) := by
    rw [e]
    grind
  exact Rat.intCast_inj.mp e4
theorem mix_rt {zs : Zs} {N m : Nat} (h : MixOk zs N m) {k : Nat} (hk : k < m) : rt (blendL m zs) k = mx zs k := by
  unfold rt
  rw [mix_sum h, blend_mx h hk]
  have hB := botF_pos h.tp
  have := cast_ne (S := ((botF zs : Nat) : Int)) (by omega)
  grind
theorem mix_nn {zs : Zs} {N m : Nat} (h : MixOk zs N m) : ∀ c ∈ blendL m zs, 0 ≤ c := by
  intro c hc
  obtain ⟨k, hk, rfl⟩ := List.mem_map.mp hc
  refine sum_nonneg fun x hx => ?_
  obtain ⟨z, hz, rfl⟩ := List.mem_map.mp hx
  refine Int.mul_nonneg (Int.mul_nonneg (h.r0 z hz) (Int.ediv_nonneg (by omega) (Int.le_of_lt (denW_pos (h.tp z hz))))) ?_
  rw [List.getD_eq_getElem?_getD]
  cases hq : z.1[k]? with
  | none => exact Int.le_refl 0
  | some p => exact h.nn z hz p (List.mem_of_getElem? hq)
theorem bot_lt {zs : Zs} {N m : Nat} (h : MixOk zs N m) : botF zs < 2 ^ (zs.length * N + 1) := by
  have := botF_lt zs zs.length h.ds (Nat.le_refl _)
  rwa [List.take_length] at this
theorem mix_pos {zs : Zs} {N m : Nat} (h : MixOk zs N m) : 0 < (blendL m zs).sum := by
  rw [mix_sum h]
  have := botF_pos h.tp
  omega
theorem mix_pr {zs : Zs} {N m n : Nat} (h : MixOk zs N m) (hn : zs.length * N + 1 ≤ n) : PR m n (plainL (blendL m zs)) := by
  have hb := bot_lt h
  refine PR.of (blend_len m zs) h.m0 h.m1 (mix_nn h) (mix_pos h) ?_
  rw [mix_sum h, Int.natAbs_natCast]
  exact Nat.lt_of_lt_of_le hb (Nat.pow_le_pow_right (by decide) hn)
theorem mix_gcd {zs : Zs} {N m : Nat} (h : MixOk zs N m) : 0 < gcdL (blendL m zs) := by
  obtain ⟨c, hc, c0⟩ := sum_pos_ex (mix_nn h) (mix_pos h)
  exact gcdL_pos ⟨c, hc, by omega⟩
theorem mix_prt {zs : Zs} {N m : Nat} (h : MixOk zs N m) {k : Nat} (hk : k < m) : rt (plainL (blendL m zs)) k = mx zs k := by
  rw [rt_plain (mix_gcd h), mix_rt h hk]
theorem mix_ok {zs : Zs} {N m : Nat} (h : MixOk zs N m) : RowOk (blendL m zs) := by
  have hb := bot_lt h
  have h1 := Nat.mul_le_mul h.n1 h.nN
  refine ok_of (n := 6401) (by rw [blend_len]; exact h.m0) (by rw [blend_len]; exact h.m1) (mix_nn h) (mix_pos h) ?_ (by decide)
  rw [mix_sum h, Int.natAbs_natCast]
  exact Nat.lt_of_lt_of_le hb (Nat.pow_le_pow_right (by decide) (by omega))
theorem mix_blend {zs : Zs} {N m : Nat} (h : MixOk zs N m) : BlendOk zs N m (blendL m zs) ((botF zs : Nat) : Int) := by
  have hB := botF_pos h.tp
  have le : ∀ z ∈ zs, z.1.sum.natAbs ≤ (denW z).natAbs ∧ (((z.2.den : Nat) : Int)).natAbs ≤ (denW z).natAbs := by
    intro z hz
    have t0 := h.tp z hz
    have d0 := den_pos z.2
    unfold denW
    rw [Int.natAbs_mul]
    have a1 := Nat.mul_le_mul_left z.1.sum.natAbs (show 1 ≤ (((z.2.den : Nat) : Int)).natAbs by omega)
    have a2 := Nat.mul_le_mul_right (((z.2.den : Nat) : Int)).natAbs (show 1 ≤ z.1.sum.natAbs by omega)
    omega
  refine ⟨h.n0, h.n1, h.nN, h.m0, h.m1, h.len, h.tp, h.ds, fun z hz t ht => ⟨h.nn z hz t ht, ?_⟩, fun z hz => ⟨h.r0 z hz, ?_⟩, blend_len m zs, by omega, fun k hk => ?_, ?_⟩
  · have := mem_le_sum (h.nn z hz) ht
    have := h.nn z hz t ht
    have := h.ds z hz
    have := (le z hz).1
    omega
  · have := h.r0 z hz
    have := h.r1 z hz
    have := h.ds z hz
    have := (le z hz).2
    omega
  · rw [mx_div h, blend_mx h hk]
    have := cast_ne (S := ((botF zs : Nat) : Int)) (by omega)
    grind
  · obtain ⟨c, hc, c0⟩ := sum_pos_ex (mix_nn h) (mix_pos h)
    exact ⟨c, hc, by omega⟩
/-! all-yes chances, fewer draws, yes and no exchanged, by rates -/
theorem ay_rt (ps : List Int) (j : Nat) : ay ps j = Sm ps.length fun y => rt ps y * (((((chs y j : Nat) : Int)) : Rat) / ((((chs (ps.length - 1) j : Nat) : Int)) : Rat)) := by
  have e := sum_idx ((ps.sum : Int) : Rat) ((((chs (ps.length - 1) j : Nat) : Int)) : Rat) ps fun y => ((chs y j : Nat) : Int)
  unfold ay hitsL
  rw [Rat.intCast_mul, ← e, idx_Sm]
  apply Sm_congr
  intro y _
  unfold rt
  grind
theorem fw_sum {ps : List Int} {d : Nat} (l0 : 2 ≤ ps.length) (l1 : ps.length ≤ 6) (hd0 : 1 ≤ d) (hd : d < ps.length) : (fwL ps d).sum = ps.sum * ((chs (ps.length - 1) d : Nat) : Int) := by
  have hj : d = 1 ∨ d = 2 ∨ d = 3 ∨ d = 4 ∨ d = 5 := by omega
  match ps, l0, l1, hd with
  | [a, b], _, _, hd => rcases hj with rfl | rfl | rfl | rfl | rfl <;> first | (simp at hd; done) | (simp [fwL, chs, List.range_succ]; try omega)
  | [a, b, c], _, _, hd => rcases hj with rfl | rfl | rfl | rfl | rfl <;> first | (simp at hd; done) | (simp [fwL, chs, List.range_succ]; try omega)
  | [a, b, c, d], _, _, hd => rcases hj with rfl | rfl | rfl | rfl | rfl <;> first | (simp at hd; done) | (simp [fwL, chs, List.range_succ]; try omega)
  | [a, b, c, d, e], _, _, hd => rcases hj with rfl | rfl | rfl | rfl | rfl <;> first | (simp at hd; done) | (simp [fwL, chs, List.range_succ]; try omega)
  | [a, b, c, d, e, f], _, _, hd => rcases hj with rfl | rfl | rfl | rfl | rfl <;> first | (simp at hd; done) | (simp [fwL, chs, List.range_succ]; try omega)
  | _ :: _ :: _ :: _ :: _ :: _ :: _ :: _, _, h, _ => simp at h
theorem fw_len (ps : List Int) (d : Nat) : (fwL ps d).length = d + 1 := by simp [fwL]
theorem fw_nn {ps : List Int} {d : Nat} (h : ∀ p ∈ ps, 0 ≤ p) : ∀ c ∈ fwL ps d, 0 ≤ c := by
  intro c hc
  obtain ⟨k, hk, rfl⟩ := List.mem_map.mp hc
  refine sum_nonneg fun x hx => ?_
  obtain ⟨y, p, h1, hp, rfl⟩ := mem_idx hx
  exact Int.mul_nonneg (h p hp) (Int.mul_nonneg (by omega) (by omega))
def fwM (n d k y : Nat) : Rat := (((((chs y k : Nat) : Int) * ((chs (n - y) (d - k) : Nat) : Int) : Int)) : Rat) / ((((chs n d : Nat) : Int)) : Rat)
theorem fw_rt {ps : List Int} {d k : Nat} (l0 : 2 ≤ ps.length) (l1 : ps.length ≤ 6) (hd0 : 1 ≤ d) (hd : d < ps.length) (hk : k < d + 1) : rt (fwL ps d) k = Sm ps.length fun y => rt ps y * fwM (ps.length - 1) d k y := by
  have e := sum_idx ((ps.sum : Int) : Rat) ((((chs (ps.length - 1) d : Nat) : Int)) : Rat) ps fun y => ((chs y k : Nat) : Int) * ((chs (ps.length - 1 - y) (d - k) : Nat) : Int)
  have e2 : (fwL ps d).getD k 0 = (ps.mapIdx fun y p => p * (((chs y k : Nat) : Int) * ((chs (ps.length - 1 - y) (d - k) : Nat) : Int))).sum := by
    unfold fwL
    rw [List.getD_eq_getElem?_getD, List.getElem?_map, List.getElem?_range hk]
    rfl
  unfold rt
  rw [e2, fw_sum l0 l1 hd0 hd, Rat.intCast_mul, ← e, idx_Sm]
  apply Sm_congr
  intro y _
  unfold fwM
  grind
theorem fw_pr {ps : List Int} {m n d : Nat} (h : PR m n ps) (hd0 : 1 ≤ d) (hd : d < m) : PR (d + 1) (n + 4) (plainL (fwL ps d)) ∧ ∃ c ∈ fwL ps d, c ≠ 0 := by
  have l := h.len
  have m0 := h.m0
  have m1 := h.m1
  have cp := chs_pos (a := ps.length - 1) (b := d) (by omega) (by omega)
  have cl := chs_le (a := ps.length - 1) (b := d) (by omega) (by omega)
  have e := fw_sum (ps := ps) (d := d) (by omega) (by omega) hd0 (by omega)
  have s0 : 0 < (fwL ps d).sum := by
    rw [e]
    exact Int.mul_pos h.s0 (by omega)
  refine ⟨PR.of (fw_len ps d) (by omega) (by omega) (fw_nn h.nn) s0 ?_, ?_⟩
  · rw [e]
    exact wide_lt h.s1 (by omega)
  · obtain ⟨c, hc, c0⟩ := sum_pos_ex (fw_nn (d := d) h.nn) s0
    exact ⟨c, hc, by omega⟩
theorem fw_gcd {ps : List Int} {m n d : Nat} (h : PR m n ps) (hd0 : 1 ≤ d) (hd : d < m) : 0 < gcdL (fwL ps d) := gcdL_pos (fw_pr h hd0 hd).2
theorem fw_prt {ps : List Int} {m n d k : Nat} (h : PR m n ps) (hd0 : 1 ≤ d) (hd : d < m) (hk : k < d + 1) : rt (plainL (fwL ps d)) k = Sm m fun y => rt ps y * fwM (m - 1) d k y := by
  have l := h.len
  have m0 := h.m0
  have m1 := h.m1
  rw [rt_plain (fw_gcd h hd0 hd), fw_rt (by omega) (by omega) hd0 (by omega) hk, l]
theorem rev_rt {ps : List Int} {m k : Nat} (l : ps.length = m) (hk : k < m) : rt ps.reverse k = rt ps (m - 1 - k) := by
  unfold rt
  rw [sum_rev, List.getD_eq_getElem?_getD, List.getD_eq_getElem?_getD, List.getElem?_reverse (by omega), l]
theorem rev_pr {ps : List Int} {m n : Nat} (h : PR m n ps) : PR m n ps.reverse :=
  ⟨by rw [List.length_reverse]; exact h.len, h.m0, h.m1, fun p hp => h.nn p (List.mem_reverse.mp hp), by rw [sum_rev]; exact h.s0, by rw [sum_rev]; exact h.s1, by rw [gcd_rev]; exact h.one⟩
end

section
variable {P : Program} {w : World} {K : PySem.W.Frag} {mg : Str → Option Value} {base : Heap}
/-! ### add_up_to_one, _are_shares -/
theorem lcm_take {rs : List Rat} {i : Nat} {r : Rat} (h : rs[i]? = some r) : lcmL (rs.take (i + 1)) = Nat.lcm (lcmL (rs.take i)) r.den := by
  rw [lcmL_take h]
  unfold Nat.lcm
  rw [Nat.mul_div_assoc _ (Nat.gcd_dvd_right _ _)]
theorem whole_sumG (B : Nat) : ∀ rs : List Rat, (∀ r ∈ rs, r.den ∣ B) → (((rs.map fun r => r.num * (((B : Nat) : Int) / ((r.den : Nat) : Int))).sum : Int) : Rat) = ((((B : Nat) : Int)) : Rat) * rs.sum
  | [], _ => by
    simp
  | r :: rs, h => by
    have ih := whole_sumG B rs fun x hx => h x (List.mem_cons_of_mem _ hx)
    obtain ⟨q, hq⟩ := h r (List.mem_cons_self ..)
    have d0 := den_pos r
    have e : ((B : Nat) : Int) / ((r.den : Nat) : Int) = (q : Int) := by
      rw [hq, Int.natCast_mul, Int.mul_ediv_cancel_left _ (by omega)]
    have en : ((r.num : Int) : Rat) / ((((r.den : Nat) : Int)) : Rat) = r := by
      have := Rat.num_divInt_den r
      rwa [Rat.divInt_eq_div] at this
    have hn := cast_ne0 d0
    have eB : ((((B : Nat) : Int)) : Rat) = ((((r.den : Nat) : Int)) : Rat) * (((q : Nat) : Int) : Rat) := by
      rw [hq, Int.natCast_mul, Rat.intCast_mul]
    rw [List.map_cons, List.sum_cons, List.sum_cons, Rat.intCast_add, ih, e, Rat.intCast_mul, eB]
    conv => rhs; rw [← en]
    rw [en]
    grind
theorem whole_sum {rs : List Rat} (h : rs.sum = 1) : (wholeW rs).sum = ((lcmL rs : Nat) : Int) := by
  have e := whole_sumG (lcmL rs) rs fun r hr => lcmL_dvd hr
  rw [h, Rat.mul_one] at e
  exact Rat.intCast_inj.mp e
def spAdd (K : PySem.W.Frag) : Sp := fun vs H Q _ => ∃ (p : Addr) (k : Bool) (ys : List V) (rs : List Rat) (n : Nat), vs = [.ref p] ∧ SqB K k H p ys ∧ FrsAt K H ys rs ∧ (∀ r ∈ rs, sz r n) ∧ rs.length * n + n + n + 10 ≤ 8900 ∧ rs.length ≤ 900 ∧ rs.sum = 1 ∧ ∀ H', Ex H H' → Q (.bl true) H'
theorem scAdd : FnScope ["shares", "bottom", "share", "top", "under"] ["shares"] (defScope (top 21)) := ⟨rfl, rfl, rfl, by decide +kernel, rfl, by decide +kernel, by decide +kernel⟩
theorem has_add (B : Bi mg) (c_lcm : mg "lcm" = some (.builtin "math.lcm")) (D : Df K mg "add_up_to_one" (top 21) ["shares"]) : Has P w K mg base "add_up_to_one" 1 ["shares"] (spAdd K) := by
  have sc := scAdd
  refine .of D fun f fd F => F.ok sc (fun vs H Q E h => ?_) (fun cdv A outer s H vs Q E hr h => ?_)
  · obtain ⟨p, _, _, _, _, rfl, _⟩ := h
    rfl
  · obtain ⟨p, kk, ys, rs, n, rfl, hS, hF, hz, hn, hlen, h1, k⟩ := h
    have hL := lcmL_lt rs rs.length hz (Nat.le_refl _)
    rw [List.take_length] at hL
    refine ⟨_, (pss_cons (ps_set (i := 1) sc.nd rfl (by first | exact Or.inl rfl | exact Or.inr rfl) pe_int)
      (pss_cons (ps_for PassesOwn.never rfl (pi_seq (K := K) (pv 0)) (pg_name (i := 2) sc.nd rfl (by first | exact Or.inl rfl | exact Or.inr rfl))
      (pss_one (ps_set (i := 1) sc.nd rfl (by first | exact Or.inl rfl | exact Or.inr rfl) (pe_callBfun cr_lcm (by rfl) c_lcm (pa_cons (pv 1) (pa_cons (pe_ix (ixT (K := K)) (pv 2) pe_int (fun _ _ => rfl)) pa_nil))))))
      (pss_one (ps_ret (pe_cmpR op_eq (pe_callB (kSum (K := K) rfl) (by rfl) B.sum (by decide +kernel) (pa_cons (pe_lc (own := [("top", 3), ("under", 4)]) (g := gTup K 2 (gCons (gName 3) (gCons (gName 4) gNil))) (tt := tYes) rfl sc.nd (pi_seq (K := K) (pv 0)) (blkOk_by (N := (["shares", "bottom", "share", "top", "under"] : List Str)) (sc := defScope (top 21)) (by decide +kernel)) (fun _ _ _ _ _ => (pg_tup rfl (pgs_cons (pg_name (i := 3) sc.nd rfl (by first | exact Or.inl rfl | exact Or.inr rfl)) (pgs_cons (pg_name (i := 4) sc.nd rfl (by first | exact Or.inl rfl | exact Or.inr rfl)) pgs_nil)))) (fun _ _ _ _ _ => pts_nil) (fun _ _ _ _ _ => (PE.mon (pe_op op_mulS (pv 3) (pe_op op_fdivW (pv 1) (pv 4)))))) pa_nil)) (pv 1) (nomark _)))))), ?_⟩
    walk_at "rd"
    obtain ⟨Pv, hP⟩ : ∃ P : Nat → L2.St → Hp → Prop, P = fun j σ' G => G = H ∧ ∃ (s2 s3 s4 : Option V), σ' = [some (.ref p), some (.int ((lcmL (rs.take j) : Nat) : Int)), s2, s3, s4] := ⟨_, rfl⟩
    refine ⟨kk, ⟨_, hS⟩, loopB (xs := ys) Pv (by rw [hP]; exact ⟨rfl, _, _, _, rfl⟩) (fun j σ' G _ h => by rw [hP] at h; rw [h.1]; exact hS) ?_ ?_⟩
    · intro j x σ' G hx h
      rw [hP] at h
      obtain ⟨rfl, s2, s3, s4, rfl⟩ := h
      obtain ⟨r, hr1, a, rfl, ha⟩ := hF.2 j x hx
      have hj := (List.getElem?_eq_some_iff.mp hr1).1
      have zr := hz r (List.mem_of_getElem? hr1)
      have lj := lcmL_lt rs j hz (by omega)
      have m1 := Nat.mul_le_mul_right n (show j + 1 ≤ rs.length by omega)
      rw [Nat.add_mul] at m1
      walk_at "rd"
      refine q_ixT ha at1 ?_
      refine ⟨_, _, rfl, ?_, lt2_mono (den_lt zr) (by omega), ?_⟩
      · rw [Int.natAbs_natCast]
        exact Nat.lt_of_lt_of_le lj (Nat.pow_le_pow_right (by decide) (by omega))
      · rw [hP]
        dsimp only
        rw [lcm_take hr1, Int.natAbs_natCast, Int.natAbs_natCast]
        exact ⟨rfl, _, _, _, rfl⟩
    · intro σ' G h
      rw [hP] at h
      obtain ⟨rfl, s2, s3, s4, rfl⟩ := h
      rw [hF.1, List.take_length]
      walk_at "rd"
      refine ⟨kk, ⟨_, hS⟩, fun Dd hD => lcB (fun i y _ => ∃ r, rs[i]? = some r ∧ y = .int (r.num * (((lcmL rs : Nat) : Int) / ((r.den : Nat) : Int)))) (fun _ _ _ _ _ h => h) hD hS (by rw [hF.1]; omega) ?_ (gm_tup (gm_cons gm_name (gm_cons gm_name gm_nil))) ?_⟩
      · intro i x H2 hx e
        obtain ⟨r, hr1, a, rfl, ha⟩ := hF.2 i x hx
        have zr := hz r (List.mem_of_getElem? hr1)
        refine ⟨a, fr r, rfl, sqT_kp ha e.kp, rfl, ?_⟩
        unfold fr
        walk_at "rd"
        obtain ⟨R0, hR⟩ : ∃ R : VK, R = fun v H' => v = .int (r.num * (((lcmL rs : Nat) : Int) / ((r.den : Nat) : Int))) ∧ H' = H2 := ⟨_, rfl⟩
        refine ⟨R0, ?_, fun v H' h => by rw [hR] at h; obtain ⟨rfl, rfl⟩ := h; exact ⟨Ex.refl _, r, hr1, rfl⟩⟩
        walk_at "rd"
        have d1 := Int.natAbs_ediv_le_natAbs ((lcmL rs : Nat) : Int) ((r.den : Nat) : Int)
        rw [Int.natAbs_natCast] at d1
        refine ⟨⟨den_pos r, by rw [Int.natAbs_natCast]; exact log_lt (Nat.lt_of_lt_of_le zr.2 (Nat.pow_le_pow_right (by decide) (by omega)))⟩, cmul 9000 9000 (lt2_mono zr.1 (by omega)) (Nat.lt_of_le_of_lt d1 (Nat.lt_of_lt_of_le hL (Nat.pow_le_pow_right (by decide) (by omega)))), ?_⟩
        rw [hR]
        exact ⟨rfl, rfl⟩
      · intro H2 us e hy hl hr2
        rw [hF.1] at hl
        have ey : us = (wholeW rs).map V.int := by
          apply List.ext_getElem?
          intro i
          by_cases hi : i < us.length
          · obtain ⟨r, h1, h2⟩ := hr2 i _ (List.getElem?_eq_getElem hi)
            rw [List.getElem?_eq_getElem hi, h2]
            simp [wholeW, h1]
          · rw [List.getElem?_eq_none (by omega), List.getElem?_eq_none (by simp [wholeW]; omega)]
        rw [ey] at hy
        refine ⟨Dd, _, rfl, .inl (.of hy), ?_⟩
        rw [whole_sum h1]
        walk_at "rd"
        simpa using k _ e
def spShares (K : PySem.W.Frag) : Sp := fun vs H Q _ => ∃ (p : Addr) (m : Int) (ys : List V) (rs : List Rat) (n : Nat), vs = [.ref p, .int m] ∧ SqT K H p ys ∧ FrsAt K H ys rs ∧ (∀ r ∈ rs, sz r n) ∧ (∀ r ∈ rs, 0 ≤ r.num ∧ r.num ≤ ((r.den : Nat) : Int)) ∧
  rs.length * n + n + n + 10 ≤ 8900 ∧ rs.length ≤ 900 ∧ ((rs.length : Nat) : Int) = m ∧ rs.sum = 1 ∧ ∀ H', Ex H H' → Q (.bl true) H'
theorem scShares : FnScope ["value", "many", "share"] ["value", "many"] (defScope (top 39)) := ⟨rfl, rfl, rfl, by decide +kernel, rfl, by decide +kernel, by decide +kernel⟩
theorem has_shares (B : Bi mg) (his_chance : Has P w K mg base "is_chance" 3 ["value"] (spChance K)) (hadd_up_to_one : Has P w K mg base "add_up_to_one" 1 ["shares"] (spAdd K)) (D : Df K mg "_are_shares" (top 39) ["value", "many"]) : Has P w K mg base "_are_shares" 4 ["value", "many"] (spShares K) := by
  have sc := scShares
  refine .of D fun f fd F => F.ok sc (fun vs H Q E h => ?_) (fun cdv A outer s H vs Q E hr h => ?_)
  · obtain ⟨p, _, _, _, _, rfl, _⟩ := h
    rfl
  · obtain ⟨p, m, ys, rs, n, rfl, hS, hF, hz, hb, hn, hlen, hm, h1, k⟩ := h
    refine ⟨_, (pss_cons (ps_if (PW.pt (pw_or (pt_not (pt_val (pe_callB (kIsi (K := K)) (by rfl) B.isinstance (by decide +kernel) (pa_cons (pv 0) (pa_cons (pe_bltn (v := .ty "tuple") (by rfl) B.tuple (by decide +kernel) rfl) pa_nil))))) (pw_or1 (pt_cmpR op_ne (pe_callB (kLen (K := K)) (by rfl) B.len (by decide +kernel) (pa_cons (pv 0) pa_nil)) (pv 1) (nomark _))))) (pss_one (ps_ret pe_bl)) pss_nil)
      (pss_one (ps_ret (pe_and (pe_callB (kAll (K := K) rfl) (by rfl) B.all (by decide +kernel) (pa_cons (pe_lc (own := [("share", 2)]) (g := gName 2) (tt := tYes) rfl sc.nd (pi_tup (pv 0)) (blkOk_by (N := (["value", "many", "share"] : List Str)) (sc := defScope (top 39)) (by decide +kernel)) (fun _ _ _ _ _ => (pg_name (i := 2) sc.nd rfl (by first | exact Or.inl rfl | exact Or.inr rfl))) (fun _ _ _ _ _ => pts_nil) (fun _ _ _ _ _ => (PE.mon (pe_has his_chance (hr.mono (by decide)) (pa_cons (pv 2) pa_nil))))) pa_nil)) (pe_one (pe_has hadd_up_to_one (hr.mono (by decide)) (pa_cons (pv 0) pa_nil))))))), ?_⟩
    walk_at "rd"
    refine ⟨_, _, _, _, true, rfl, .ty "tuple", ty_tup hS, kit_ty (by decide +kernel), ?_⟩
    walk_at "rd"
    refine ⟨_, .inr hS, ?_⟩
    walk_at "rd"
    rw [hF.1, if_neg (by simp [hm])]
    refine ⟨⟨_, hS⟩, fun Dd hD => lcTn (fun i y _ => y = .bl true) (fun _ _ _ _ _ h => h) hD hS (by rw [hF.1]; omega) (fun _ => rfl) ?_ ?_⟩
    · intro i x H2 hx e
      obtain ⟨r, hr1, hfr⟩ := hF.2 i x hx
      obtain ⟨b0, b1⟩ := hb r (List.mem_of_getElem? hr1)
      obtain ⟨R0, hR⟩ : ∃ R : VK, R = fun v H' => v = .bl true ∧ H' = H2 := ⟨_, rfl⟩
      refine ⟨R0, ?_, fun v H' h => by rw [hR] at h; obtain ⟨rfl, rfl⟩ := h; exact ⟨Ex.refl _, rfl⟩⟩
      walk_at "rd"
      refine ⟨x, r, rfl, hfr.kp e.kp, b0, b1, ?_⟩
      rw [hR]
      exact ⟨rfl, rfl⟩
    · intro H2 us e hy hl hr2
      have ey : us = (List.replicate us.length true).map V.bl := by
        apply List.ext_getElem?
        intro i
        by_cases hi : i < us.length
        · rw [List.getElem?_eq_getElem hi, hr2 i _ (List.getElem?_eq_getElem hi)]
          simp [List.getElem?_replicate, hi]
        · rw [List.getElem?_eq_none (by omega), List.getElem?_eq_none (by simp; omega)]
      rw [ey] at hy
      refine ⟨Dd, _, rfl, .of hy, ?_⟩
      have et : (List.replicate us.length true).all id = true := by simp
      rw [et]
      walk_at "rd"
      exact ⟨p, false, ys, rs, n, rfl, sqT_kp hS e.kp, hF.kp e.kp, hz, hn, hlen, h1, fun H' e' => k _ (e.trans e')⟩
/-! ### _check_rows, mixed -/
def RowsAt (K : PySem.W.Frag) (C : Addr) (H : Hp) (xs : List V) (pss : List (List Int)) : Prop := xs.length = pss.length ∧ ∀ (i : Nat) x, xs[i]? = some x → ∃ ps, pss[i]? = some ps ∧ IsRow K C H x ps
theorem RowsAt.kp {C : Addr} {H H' : Hp} {xs : List V} {pss : List (List Int)} (h : RowsAt K C H xs pss) (e : Kp H H') : RowsAt K C H' xs pss :=
  ⟨h.1, fun i x hx => let ⟨r, h1, h2⟩ := h.2 i x hx; ⟨r, h1, h2.kp e⟩⟩
def spCheckRows (K : PySem.W.Frag) (C : Addr) : Sp := fun vs H Q _ => ∃ (p : Addr) (xs : List V) (pss : List (List Int)) (m : Nat), vs = [.ref p] ∧ SqT K H p xs ∧ RowsAt K C H xs pss ∧ 0 < pss.length ∧ pss.length ≤ 8 ∧ (∀ ps ∈ pss, ps.length = m) ∧ ∀ H', Ex H H' → Q .non H'
theorem scCheckRows : FnScope ["rows", "index", "row"] ["rows"] (defScope (top 38)) := ⟨rfl, rfl, rfl, by decide +kernel, rfl, by decide +kernel, by decide +kernel⟩
theorem has_check_rows {C : Addr} {t : Tok} (B : Bi mg) (RT : RowT P w K mg base C) (c_MOST_ROWS : mg "MOST_ROWS" = some (.int 8 t)) (D : Df K mg "_check_rows" (top 38) ["rows"]) : Has P w K mg base "_check_rows" 3 ["rows"] (spCheckRows K C) := by
  have sc := scCheckRows
  have RC := RT.rc
  refine .of D fun f fd F => F.ok sc (fun vs H Q E h => ?_) (fun cdv A outer s H vs Q E hr h => ?_)
  · obtain ⟨p, _, _, _, rfl, _⟩ := h
    rfl
  · obtain ⟨p, xs, pss, m, rfl, hS, hR, n0, n1, hl, k⟩ := h
    refine ⟨_, (pss_cons (ps_if (PW.pt (pw_or (pt_not (pt_val (pe_callB (kIsi (K := K)) (by rfl) B.isinstance (by decide +kernel) (pa_cons (pv 0) (pa_cons (pe_bltn (v := .ty "tuple") (by rfl) B.tuple (by decide +kernel) rfl) pa_nil))))) (pw_or1 (pt_cmpR op_eq (pe_callB (kLen (K := K)) (by rfl) B.len (by decide +kernel) (pa_cons (pv 0) pa_nil)) pe_int (nomark _))))) (pss_one ps_never) pss_nil)
      (pss_one (ps_for PassesOwn.never rfl (pi_enumT (by rfl) B.enumerate (pa_cons (pv 0) pa_nil)) (pg_tup rfl (pgs_cons (pg_name (i := 1) sc.nd rfl (by first | exact Or.inl rfl | exact Or.inr rfl)) (pgs_cons (pg_name (i := 2) sc.nd rfl (by first | exact Or.inl rfl | exact Or.inr rfl)) pgs_nil)))
      (pss_one (ps_if (PW.pt (pw_or (pt_not (pt_val (pe_callB (kIsi (K := K)) (by rfl) B.isinstance (by decide +kernel) (pa_cons (pv 2) (pa_cons (pe_glob (v := .ref C) rfl RC.mgC rfl) pa_nil))))) (pw_or (pt_cmpR op_ne (kDraws RT (hr.mono (by decide)) (pv 2)) (kDraws RT (hr.mono (by decide)) (pe_ix (ixT (K := K)) (pv 0) pe_int (fun _ _ => rfl))) (nomark _)) (pw_or1 (pt_cmpR op_ge (pv 1) (pe_glob (v := .int 8) rfl c_MOST_ROWS ⟨_, rfl⟩) (nomark _)))))) (pss_one ps_never) pss_nil))))), ?_⟩
    walk_at "rd"
    refine ⟨_, _, _, _, true, rfl, .ty "tuple", ty_tup hS, kit_ty (by decide +kernel), ?_⟩
    walk_at "rd"
    refine ⟨_, .inr hS, ?_⟩
    rw [hR.1, if_neg (by omega)]
    obtain ⟨Pv, hP⟩ : ∃ P : Nat → L2.St → Hp → Prop, P = fun j σ' G => Ex H G ∧ ∃ s1 s2 : Option V, σ' = [some (.ref p), s1, s2] := ⟨_, rfl⟩
    refine ⟨⟨_, hS⟩, loopE (xs := xs) Pv (by rw [hP]; exact ⟨.refl _, _, _, rfl⟩) (fun j σ' G _ h => by rw [hP] at h; exact sqT_kp hS h.1.kp) ?_ ?_⟩
    · intro j x σ' G T G' hx h e1 t1
      rw [hP] at h
      obtain ⟨e0, s1, s2, rfl⟩ := h
      have e2 := e0.trans e1
      obtain ⟨ps, hp, hrow⟩ := (hR.kp e2.kp).2 j x hx
      have hj := (List.getElem?_eq_some_iff.mp hp).1
      have hps := hl ps (List.mem_of_getElem? hp)
      obtain ⟨x0, hx0⟩ : ∃ x0, xs[0]? = some x0 := ⟨_, List.getElem?_eq_getElem (by rw [hR.1]; exact n0)⟩
      obtain ⟨ps0, hp0, hrow0⟩ := (hR.kp e2.kp).2 0 x0 hx0
      have hps0 := hl ps0 (List.mem_of_getElem? hp0)
      obtain ⟨a, dx, q, rfl, hA, hSq⟩ := id hrow
      walk_at "rd"
      refine ⟨_, .of t1, rfl, ?_⟩
      walk_at "rd"
      refine ⟨_, _, _, _, true, rfl, .own C, RC.ty hA, by simp [PySem.W.kitOne], ?_⟩
      walk_at "rd"
      refine ⟨_, hrow, ?_⟩
      refine q_ixT (sqT_kp hS e2.kp) (at_of (j := 0) rfl hx0) ?_
      refine ⟨_, hrow0, ?_⟩
      rw [hps, hps0]
      walk_at "rd"
      rw [if_neg (by omega)]
      rw [hP]
      exact ⟨e2, _, _, rfl⟩
    · intro σ' G h
      rw [hP] at h
      exact k _ h.1
def spMixed (K : PySem.W.Frag) (C : Addr) : Sp := fun vs H Q _ => ∃ (p q : Addr) (xs ys : List V) (zs : Zs) (N m : Nat), vs = [.ref p, .ref q] ∧ SqT K H p xs ∧ SqT K H q ys ∧ RowsAt K C H xs (zs.map (·.1)) ∧ FrsAt K H ys (zs.map (·.2)) ∧ MixOk zs N m ∧
  ∀ z H', Ex H H' → IsRow K C H' z (plainL (blendL m zs)) → Q z H'
theorem mix_sz {zs : Zs} {N m : Nat} (h : MixOk zs N m) : ∀ r ∈ zs.map (·.2), sz r N := by
  intro r hr
  obtain ⟨z, hz, rfl⟩ := List.mem_map.mp hr
  have b := mix_blend h
  have := b.dl hz
  rw [Int.natAbs_natCast] at this
  exact ⟨(b.rn z hz).2, this⟩
theorem scMixed : FnScope ["rows", "shares", "row"] ["rows", "shares"] (defScope (top 33)) := ⟨rfl, rfl, rfl, by decide +kernel, rfl, by decide +kernel, by decide +kernel⟩
theorem ok_mixed {C : Addr} (B : Bi mg) (RT : RowT P w K mg base C) (h_check_rows : Has P w K mg base "_check_rows" 3 ["rows"] (spCheckRows K C)) (h_are_shares : Has P w K mg base "_are_shares" 4 ["value", "many"] (spShares K))
    (h_blended : Has P w K mg base "_blended" 5 ["tables", "shares"] (spBlend K C)) {f : Addr} {fd : FuncData} (F : Fun K "mixed" "mixed" (top 33) f fd) : FnOk P w K mg base CX0 6 f fd ["rows", "shares"] (spMixed K C) := by
  have sc := scMixed
  refine F.ok sc (fun vs H Q E h => ?_) (fun cdv A outer s H vs Q E hr h => ?_)
  · obtain ⟨p, q, _, _, _, _, _, rfl, _⟩ := h
    rfl
  · obtain ⟨p, q, xs, ys, zs, N, m, rfl, hX, hY, hR, hF, ok, k⟩ := h
    have lx : xs.length = zs.length := by simpa using hR.1
    have n1 := ok.n1
    have nN := ok.nN
    have mm := Nat.mul_le_mul n1 nN
    refine ⟨_, (pss_cons (ps_expr (pe_has h_check_rows (hr.mono (by decide)) (pa_cons (pv 0) pa_nil)))
      (pss_cons (ps_if (pt_not (pt_val (pe_has h_are_shares (hr.mono (by decide)) (pa_cons (pv 1) (pa_cons (pe_callB (kLen (K := K)) (by rfl) B.len (by decide +kernel) (pa_cons (pv 0) pa_nil)) pa_nil))))) (pss_one ps_never) pss_nil)
      (pss_one (ps_ret (pe_has h_blended (hr.mono (by decide)) (pa_cons (pe_lc (own := [("row", 2)]) (g := gName 2) (tt := tYes) rfl sc.nd (pi_tup (pv 0)) (blkOk_by (N := (["rows", "shares", "row"] : List Str)) (sc := defScope (top 33)) (by decide +kernel)) (fun _ _ _ _ _ => (pg_name (i := 2) sc.nd rfl (by first | exact Or.inl rfl | exact Or.inr rfl))) (fun _ _ _ _ _ => pts_nil) (fun _ _ _ _ _ => (PE.mon (kCounts RT (hr.mono (by decide)) (pv 2))))) (pa_cons (pv 1) pa_nil))))))), ?_⟩
    walk_at "rd"
    refine ⟨p, xs, _, m, rfl, hX, hR, by simpa using ok.n0, by simpa using ok.n1, fun ps hps => ?_, fun H1 e1 => ?_⟩
    · obtain ⟨z, hz, rfl⟩ := List.mem_map.mp hps
      exact ok.len z hz
    walk_at "rd"
    refine ⟨_, .inr (sqT_kp hX e1.kp), ?_⟩
    refine ⟨q, _, ys, _, N, rfl, sqT_kp hY e1.kp, hF.kp e1.kp, mix_sz ok, fun r hr => ?_, by rw [List.length_map]; omega, by rw [List.length_map]; omega, by rw [List.length_map, lx], ok.one, fun H2 e2 => ?_⟩
    · obtain ⟨z, hz, rfl⟩ := List.mem_map.mp hr
      exact ⟨ok.r0 z hz, ok.r1 z hz⟩
    have e12 := e1.trans e2
    walk_at "rd"
    refine ⟨⟨_, sqT_kp hX e12.kp⟩, fun Dd hD => lcTn (fun i y G => ∃ z, zs[i]? = some z ∧ IsInts K G y z.1) (fun _ _ _ _ e ⟨z, h1, h2⟩ => ⟨z, h1, h2.kp e⟩) hD (sqT_kp hX e12.kp) (by omega) (fun _ => rfl) ?_ ?_⟩
    · intro i x H3 hx e
      obtain ⟨ps, hp, hrow⟩ := (hR.kp (e12.trans e).kp).2 i x hx
      obtain ⟨z, hz, rfl⟩ : ∃ z, zs[i]? = some z ∧ ps = z.1 := by
        rw [List.getElem?_map] at hp
        cases hq : zs[i]? with
        | none => rw [hq] at hp; cases hp
        | some z => rw [hq] at hp; exact ⟨z, rfl, (Option.some.inj hp).symm⟩
      obtain ⟨R0, hR0⟩ : ∃ R : VK, R = fun v H' => IsInts K H' v z.1 ∧ H' = H3 := ⟨_, rfl⟩
      refine ⟨R0, ?_, fun v H' h => by rw [hR0] at h; obtain ⟨h1, rfl⟩ := h; exact ⟨Ex.refl _, z, hz, h1⟩⟩
      walk_at "rd"
      refine ⟨_, hrow, fun y hy => ?_⟩
      rw [hR0]
      exact ⟨hy, rfl⟩
    · intro H3 us e hu hl hr2
      have e3 := e12.trans e
      refine ⟨Dd, q, false, us, ys, zs, N, m, _, _, rfl, .of hu, sqT_kp hY e3.kp, ⟨by simp; omega, fun i x hx => ?_⟩, hF.kp e3.kp, mix_blend ok, mix_ok ok, fun z H4 e4 h4 => k _ _ (e3.trans e4) h4⟩
      obtain ⟨z, h1, h2⟩ := hr2 i x hx
      exact ⟨z.1, by simp [h1], h2⟩
end

section
variable {P : Program} {w : World} {K : PySem.W.Frag} {mg : Str → Option Value} {base : Heap}
/-! ### more of mixtures -/
theorem rates_range (ps : List Int) : ratesL ps = (List.range ps.length).map (rt ps) := by
  apply List.ext_getElem?
  intro i
  by_cases hi : i < ps.length
  · rw [rt_rates ps hi, List.getElem?_map, List.getElem?_range hi]
    rfl
  · rw [List.getElem?_eq_none (by simp [ratesL]; omega), List.getElem?_eq_none (by simp; omega)]
theorem sh_rates {as : List Int} {b : Nat} (nn : ∀ c ∈ as, 0 ≤ c) (s0 : 0 < as.sum) (s1 : as.sum.natAbs < 2 ^ b) :
    (∀ r ∈ ratesL as, 0 ≤ r.num ∧ r.num ≤ ((r.den : Nat) : Int) ∧ sz r b) ∧ (ratesL as).sum = 1 := by
  refine ⟨fun r hr => ?_, by rw [← sumR_eq]; exact sumR_rates s0⟩
  have z := rates_sz s0 s1 nn r hr
  obtain ⟨c, hc, rfl⟩ := List.mem_map.mp hr
  exact ⟨frac_nonneg (nn c hc) s0, frac_le_one (mem_le_sum nn hc) s0, z⟩
theorem mk_mix {pss : List (List Int)} {rs : List Rat} {m a b N : Nat} (hl : pss.length = rs.length) (n0 : 0 < pss.length) (n1 : pss.length ≤ 8) (hp : ∀ ps ∈ pss, PR m a ps)
    (hr : ∀ r ∈ rs, 0 ≤ r.num ∧ r.num ≤ ((r.den : Nat) : Int) ∧ sz r b) (one : rs.sum = 1) (hN : a + b ≤ N) (hM : N ≤ 800) : MixOk (pss.zip rs) N m := by
  have lz : (pss.zip rs).length = pss.length := by simp [hl]
  have e1 : ∀ z ∈ pss.zip rs, PR m a z.1 := fun z hz => hp _ (List.of_mem_zip hz).1
  have e2 : ∀ z ∈ pss.zip rs, 0 ≤ z.2.num ∧ z.2.num ≤ ((z.2.den : Nat) : Int) ∧ sz z.2 b := fun z hz => hr _ (List.of_mem_zip hz).2
  obtain ⟨p0, hp0⟩ : ∃ p, p ∈ pss := ⟨_, List.getElem_mem n0⟩
  have pr := hp p0 hp0
  refine ⟨by omega, by omega, hM, pr.m0, pr.m1, fun z hz => (e1 z hz).len, fun z hz => (e1 z hz).nn, fun z hz => (e1 z hz).s0, fun z hz => ?_, fun z hz => (e2 z hz).1, fun z hz => (e2 z hz).2.1, ?_⟩
  · exact lt2_mono (wide_lt (e1 z hz).s1 (den_lt (e2 z hz).2.2)) hN
  · have : (pss.zip rs).map (fun z => z.2) = rs := List.map_snd_zip (by omega)
    rw [this]
    exact one
theorem zip_fst {pss : List (List Int)} {rs : List Rat} (hl : pss.length = rs.length) : (pss.zip rs).map (fun z => z.1) = pss := List.map_fst_zip (by omega)
theorem zip_snd {pss : List (List Int)} {rs : List Rat} (hl : pss.length = rs.length) : (pss.zip rs).map (fun z => z.2) = rs := List.map_snd_zip (by omega)
theorem mx_map (g : List Int → List Int) (pss : List (List Int)) (rs : List Rat) (k : Nat) : mx ((pss.map g).zip rs) k = ((pss.zip rs).map fun z => z.2 * rt (g z.1) k).sum := by
  unfold mx
  rw [List.zip_map_left, List.map_map]
  rfl
theorem sumQ_app : ∀ a b : List Rat, (a ++ b).sum = a.sum + b.sum
  | [], b => by simp only [List.nil_append, List.sum_nil]; grind
  | x :: a, b => by
    rw [List.cons_append, List.sum_cons, List.sum_cons, sumQ_app a b]
    grind
theorem sumQ_rev : ∀ l : List Rat, l.reverse.sum = l.sum
  | [] => rfl
  | x :: l => by
    rw [List.reverse_cons, sumQ_app, sumQ_rev l, List.sum_cons, List.sum_cons, List.sum_nil]
    grind
theorem mx_rev (zs : Zs) (k : Nat) : mx zs.reverse k = mx zs k := by
  unfold mx
  rw [List.map_reverse, sumQ_rev]
theorem mix_rev {zs : Zs} {N m : Nat} (h : MixOk zs N m) : MixOk zs.reverse N m := by
  refine ⟨by simpa using h.n0, by simpa using h.n1, h.nN, h.m0, h.m1, fun z hz => h.len z (List.mem_reverse.mp hz), fun z hz => h.nn z (List.mem_reverse.mp hz), fun z hz => h.tp z (List.mem_reverse.mp hz), fun z hz => h.ds z (List.mem_reverse.mp hz), fun z hz => h.r0 z (List.mem_reverse.mp hz), fun z hz => h.r1 z (List.mem_reverse.mp hz), ?_⟩
  rw [List.map_reverse, sumQ_rev]
  exact h.one
theorem Sm_ind {i : Nat} (f : Nat → Rat) : ∀ n : Nat, Sm n (fun k => (if k = i then 1 else 0) * f k) = if i < n then f i else 0
  | 0 => by rw [Sm_zero]; simp
  | n + 1 => by
    rw [Sm_succ, Sm_ind f n]
    by_cases h : n = i
    · subst h
      rw [if_neg (by omega), if_pos rfl, if_pos (by omega)]
      grind
    · rw [if_neg h]
      by_cases h2 : i < n
      · rw [if_pos h2, if_pos (by omega)]
        grind
      · rw [if_neg h2, if_neg (by omega)]
        grind
def indL (n i : Nat) : List Rat := (List.range n).map fun k => if k = i then 1 else 0
theorem ind_sum {n i : Nat} (h : i < n) : (indL n i).sum = 1 := by
  have e := Sm_ind (i := i) (fun _ => 1) n
  rw [if_pos h] at e
  rw [← e]
  unfold Sm indL
  congr 1
  apply List.map_congr_left
  intro k _
  rw [Rat.mul_one]
theorem mx_ind {pss : List (List Int)} {i : Nat} (hi : i < pss.length) (k : Nat) : mx (pss.zip (indL pss.length i)) k = rt (pss.getD i []) k := by
  have e : (pss.zip (indL pss.length i)).map (fun z => z.2 * rt z.1 k) = (List.range pss.length).map fun j => (if j = i then 1 else 0) * rt (pss.getD j []) k := by
    apply List.ext_getElem?
    intro j
    by_cases hj : j < pss.length
    · have hz : (pss.zip (indL pss.length i))[j]? = some (pss[j], if j = i then 1 else 0) := by
        rw [List.getElem?_zip_eq_some]
        refine ⟨List.getElem?_eq_getElem hj, ?_⟩
        unfold indL
        rw [List.getElem?_map, List.getElem?_range hj]
        rfl
      rw [List.getElem?_map, List.getElem?_map, List.getElem?_range hj, hz]
      simp only [Option.map_some]
      rw [List.getD_eq_getElem?_getD, List.getElem?_eq_getElem hj]
      rfl
    · rw [List.getElem?_eq_none (by simp; omega), List.getElem?_eq_none (by simp; omega)]
  unfold mx
  rw [e]
  have := Sm_ind (i := i) (fun j => rt (pss.getD j []) k) pss.length
  rw [if_pos hi] at this
  exact this
theorem ind_ok {n i : Nat} : ∀ r ∈ indL n i, 0 ≤ r.num ∧ r.num ≤ ((r.den : Nat) : Int) ∧ sz r 1 := by
  intro r hr
  obtain ⟨k, _, rfl⟩ := List.mem_map.mp hr
  split
  · exact ⟨by decide +kernel, by decide +kernel, by decide +kernel, by decide +kernel⟩
  · exact ⟨by decide +kernel, by decide +kernel, by decide +kernel, by decide +kernel⟩
theorem ay_mx {zs : Zs} {N m : Nat} (h : MixOk zs N m) (j : Nat) : ay (plainL (blendL m zs)) j = (zs.map fun z => ay z.1 j * z.2).sum := by
  rw [ay_rt, plainL_len, blend_len, Sm_congr (g := fun y => mx zs y * (((((chs y j : Nat) : Int)) : Rat) / ((((chs (m - 1) j : Nat) : Int)) : Rat))) (fun k hk => by rw [mix_prt h hk]), Sm_mx]
  congr 1
  apply List.map_congr_left
  intro z hz
  rw [ay_rt, h.len z hz, Rat.mul_comm]
theorem fw_mx {pss : List (List Int)} {rs : List Rat} {N m n d : Nat} (hl : pss.length = rs.length) (h : MixOk (pss.zip rs) N m) (hp : ∀ ps ∈ pss, PR m n ps) (hd0 : 1 ≤ d) (hd : d < m) (hm : PR m N' (plainL (blendL m (pss.zip rs)))) {k : Nat} (hk : k < d + 1) :
    rt (plainL (fwL (plainL (blendL m (pss.zip rs))) d)) k = mx ((pss.map fun ps => plainL (fwL ps d)).zip rs) k := by
  rw [fw_prt hm hd0 hd hk, mx_map, Sm_congr (g := fun y => mx (pss.zip rs) y * fwM (m - 1) d k y) (fun y hy => by rw [mix_prt h hy]), Sm_mx]
  congr 1
  apply List.map_congr_left
  intro z hz
  rw [fw_prt (hp _ (List.of_mem_zip hz).1) hd0 hd hk]
theorem rev_mx {pss : List (List Int)} {rs : List Rat} {N m n : Nat} (h : MixOk (pss.zip rs) N m) (hp : ∀ ps ∈ pss, PR m n ps) {k : Nat} (hk : k < m) :
    rt (plainL (blendL m (pss.zip rs))).reverse k = mx ((pss.map List.reverse).zip rs) k := by
  rw [rev_rt (by rw [plainL_len, blend_len]) hk, mix_prt h (by omega), mx_map]
  unfold mx
  congr 1
  apply List.map_congr_left
  intro z hz
  rw [rev_rt (hp _ (List.of_mem_zip hz).1).len hk]
theorem rows_ex {C : Addr} {G : Hp} {p : List Int → Prop} : ∀ {ys : List V}, (∀ (i : Nat) y, ys[i]? = some y → ∃ ps, IsRow K C G y ps ∧ p ps) → ∃ pss, RowsAt K C G ys pss ∧ ∀ ps ∈ pss, p ps
  | [], _ => ⟨[], ⟨rfl, fun i x h => by simp at h⟩, fun _ h => by simp at h⟩
  | y :: ys, h => by
    obtain ⟨ps, e, hc⟩ := h 0 y rfl
    obtain ⟨pss, e2, h2⟩ := rows_ex (ys := ys) fun i z hz => h (i + 1) z (by simpa using hz)
    refine ⟨ps :: pss, ⟨by simp [e2.1], fun i x hx => ?_⟩, fun x hx => ?_⟩
    · cases i with
      | zero => cases hx; exact ⟨ps, rfl, e⟩
      | succ i => exact e2.2 i x (by simpa using hx)
    rcases List.mem_cons.mp hx with rfl | hx
    · exact hc
    · exact h2 x hx
theorem RowsAt.rev {C : Addr} {H : Hp} {xs : List V} {pss : List (List Int)} (h : RowsAt K C H xs pss) : RowsAt K C H xs.reverse pss.reverse := by
  refine ⟨by simp [h.1], fun i x hx => ?_⟩
  have hi := (List.getElem?_eq_some_iff.mp hx).1
  rw [List.length_reverse] at hi
  have l := h.1
  rw [List.getElem?_reverse hi] at hx
  obtain ⟨ps, h1, h2⟩ := h.2 _ x hx
  refine ⟨ps, ?_, h2⟩
  rw [List.getElem?_reverse (by omega), ← l]
  exact h1
theorem FrsAt.rev {H : Hp} {xs : List V} {rs : List Rat} (h : FrsAt K H xs rs) : FrsAt K H xs.reverse rs.reverse := by
  refine ⟨by simp [h.1], fun i x hx => ?_⟩
  have hi := (List.getElem?_eq_some_iff.mp hx).1
  rw [List.length_reverse] at hi
  have l := h.1
  rw [List.getElem?_reverse hi] at hx
  obtain ⟨ps, h1, h2⟩ := h.2 _ x hx
  refine ⟨ps, ?_, h2⟩
  rw [List.getElem?_reverse (by omega), ← l]
  exact h1
theorem rows2 {C : Addr} {H : Hp} {x y : V} {r s : List Int} (h1 : IsRow K C H x r) (h2 : IsRow K C H y s) : RowsAt K C H [x, y] [r, s] :=
  ⟨rfl, fun i z hz => match i, hz with
    | 0, hz => ⟨r, rfl, by cases hz; exact h1⟩
    | 1, hz => ⟨s, rfl, by cases hz; exact h2⟩
    | _ + 2, hz => by simp at hz⟩
theorem frs2 {H : Hp} {x y : V} {r s : Rat} (h1 : IsFr K H x r) (h2 : IsFr K H y s) : FrsAt K H [x, y] [r, s] :=
  ⟨rfl, fun i z hz => match i, hz with
    | 0, hz => ⟨r, rfl, by cases hz; exact h1⟩
    | 1, hz => ⟨s, rfl, by cases hz; exact h2⟩
    | _ + 2, hz => by simp at hz⟩
theorem fr13 : fr (1 / 3) = [V.int 1, V.int 3] := by
  have h : (1 / 3 : Rat).num = 1 ∧ (1 / 3 : Rat).den = 3 := by decide +kernel
  unfold fr
  rw [h.1, h.2]
  rfl
theorem fr23 : fr (2 / 3) = [V.int 2, V.int 3] := by
  have h : (2 / 3 : Rat).num = 2 ∧ (2 / 3 : Rat).den = 3 := by decide +kernel
  unfold fr
  rw [h.1, h.2]
  rfl
end

section
variable {P : Program} {w : World} {K : PySem.W.Frag} {mg : Str → Option Value} {base : Heap}
/-! ### _law_orders, _law_due -/
def ordL : Nat → List (List Int)
  | 0 => [[]]
  | k + 1 => (ordL k).map (· ++ [0]) ++ (ordL k).map (· ++ [1])
def hitB (s : Nat) (m : Int) (k : Nat) (t : List Int) : Bool := decide ((t.take s).sum = m) && decide ((t.drop s).sum = (k : Int))
def cntO (ts : List (List Int)) (s : Nat) (m : Int) (k : Nat) : Nat := ts.countP (hitB s m k)
theorem ord_facts : ∀ n < 6, (ordL n).length ≤ 32 ∧ ∀ t ∈ ordL n, t.length = n ∧ ∀ s < n + 1, 0 ≤ (t.take s).sum ∧ 0 ≤ (t.drop s).sum ∧ (t.drop s).sum ≤ ((n - s : Nat) : Int) ∧ (t.take s).sum ≤ (s : Int) ∧ t.sum = (t.take s).sum + (t.drop s).sum := by decide +kernel
theorem ord_cnt : ∀ n < 6, ∀ s < n + 1, ∀ m < s + 1, ∀ k < n - s + 1, cntO (ordL n) s ((m : Nat) : Int) k = chs s m * chs (n - s) k := by decide +kernel
def TupsAt (K : PySem.W.Frag) (H : Hp) (xs : List V) (tss : List (List Int)) : Prop := xs.length = tss.length ∧ ∀ (i : Nat) x, xs[i]? = some x → ∃ t, tss[i]? = some t ∧ IsInts K H x t
theorem TupsAt.kp {H H' : Hp} {xs : List V} {tss : List (List Int)} (h : TupsAt K H xs tss) (e : Kp H H') : TupsAt K H' xs tss :=
  ⟨h.1, fun i x hx => let ⟨r, h1, h2⟩ := h.2 i x hx; ⟨r, h1, h2.kp e⟩⟩
theorem TupsAt.app {H : Hp} {xs ys : List V} {as bs : List (List Int)} (h : TupsAt K H xs as) (h2 : TupsAt K H ys bs) : TupsAt K H (xs ++ ys) (as ++ bs) := by
  refine ⟨by rw [List.length_append, List.length_append, h.1, h2.1], fun i x hx => ?_⟩
  by_cases hi : i < xs.length
  · rw [List.getElem?_append_left hi] at hx
    obtain ⟨t, q1, q2⟩ := h.2 i x hx
    exact ⟨t, by rw [List.getElem?_append_left (by rw [← h.1]; exact hi)]; exact q1, q2⟩
  · rw [List.getElem?_append_right (by omega)] at hx
    obtain ⟨t, q1, q2⟩ := h2.2 _ x hx
    exact ⟨t, by rw [List.getElem?_append_right (by rw [← h.1]; omega), ← h.1]; exact q1, q2⟩
def spOrders (K : PySem.W.Frag) : Sp := fun vs H Q _ => ∃ (n : Nat), vs = [.int (n : Int)] ∧ n < 6 ∧ ∀ p H' xs, H p = none → Ex H H' → H' p = some (.lst xs) → TupsAt K H' xs (ordL n) → Q (.ref p) H'
theorem scOrders : FnScope ["size", "found", "k", "some"] ["size"] (defScope (top 50)) := ⟨rfl, rfl, rfl, by decide +kernel, rfl, by decide +kernel, by decide +kernel⟩
theorem has_orders (B : Bi mg) (D : Df K mg "_law_orders" (top 50) ["size"]) : Has P w K mg base "_law_orders" 1 ["size"] (spOrders K) := by
  have sc := scOrders
  refine .of D fun f fd F => F.ok sc (fun vs H Q E h => ?_) (fun cdv A outer s H vs Q E hr h => ?_)
  · obtain ⟨n, rfl, _⟩ := h
    rfl
  · obtain ⟨n, rfl, n6, k⟩ := h
    refine ⟨_, (pss_cons (ps_set (i := 1) sc.nd rfl (by first | exact Or.inl rfl | exact Or.inr rfl) (pe_lstN (pa_cons (pe_tupN pa_nil) pa_nil)))
      (pss_cons (ps_for PassesOwn.never rfl (pi_range1 (by rfl) B.range (pa_cons (pv 0) pa_nil)) (pg_name (i := 2) sc.nd rfl (by first | exact Or.inl rfl | exact Or.inr rfl))
      (pss_one (ps_set (i := 1) sc.nd rfl (by first | exact Or.inl rfl | exact Or.inr rfl) (pe_op op_catN (pe_lc (own := [("some", 3)]) (g := gName 3) (tt := tYes) rfl sc.nd (pi_list (pv 1)) (blkOk_by (N := (["size", "found", "k", "some"] : List Str)) (sc := defScope (top 50)) (by decide +kernel)) (fun _ _ _ _ _ => (pg_name (i := 3) sc.nd rfl (by first | exact Or.inl rfl | exact Or.inr rfl))) (fun _ _ _ _ _ => pts_nil) (fun _ _ _ _ _ => (PE.mon (pe_op (op_catAN (K := K)) (pv 3) (pe_tupN (pa_cons pe_int pa_nil)))))) (pe_lc (own := [("some", 3)]) (g := gName 3) (tt := tYes) rfl sc.nd (pi_list (pv 1)) (blkOk_by (N := (["size", "found", "k", "some"] : List Str)) (sc := defScope (top 50)) (by decide +kernel)) (fun _ _ _ _ _ => (pg_name (i := 3) sc.nd rfl (by first | exact Or.inl rfl | exact Or.inr rfl))) (fun _ _ _ _ _ => pts_nil) (fun _ _ _ _ _ => (PE.mon (pe_op (op_catAN (K := K)) (pv 3) (pe_tupN (pa_cons pe_int pa_nil))))))))))
      (pss_one (ps_ret (pv 1))))), ?_⟩
    walk_at "rd"
    refine ⟨by decide, fun T0 H1 n1 e1 t1 => ?_⟩
    refine ⟨by decide, fun p0 H2 n2 e2 t2 => ?_⟩
    walk_at "rd"
    refine ⟨by omega, by omega, ?_⟩
    obtain ⟨Pv, hP⟩ : ∃ P : Nat → L2.St → Hp → Prop, P = fun j σ' G => Ex H G ∧ ∃ (p : Addr) (xs : List V) (s2 s3 : Option V), σ' = [some (.int (n : Int)), some (.ref p), s2, s3] ∧ H p = none ∧ G p = some (.lst xs) ∧ TupsAt K G xs (ordL j) := ⟨_, rfl⟩
    refine loopR Pv (by
      rw [hP]
      refine ⟨e1.trans e2, p0, [.ref T0], _, _, rfl, e1.free n2, t2, rfl, fun i x hx => ?_⟩
      match i, hx with
      | 0, hx =>
        cases hx
        exact ⟨[], rfl, T0, rfl, .of (e2 _ _ t1)⟩
      | _ + 1, hx => simp at hx) ?_ ?_
    · intro j σ' G hj h
      rw [hP] at h
      obtain ⟨eG, p, xs, s2, s3, rfl, hp0, hp, hT⟩ := h
      have hj : j < n := by omega
      obtain ⟨cl, cf⟩ := ord_facts j (by omega)
      have lx := hT.1
      have body : ∀ (b : Int) (G1 : Hp), Ex G G1 → ∀ (i : Nat) x (H2 : Hp), xs[i]? = some x → Ex G1 H2 → ∃ t tp, x = .ref tp ∧ (ordL j)[i]? = some t ∧ SqT K H2 tp (t.map V.int) ∧ t.length = j := by
        intro b G1 e i x H2 hx e2'
        obtain ⟨t, ht, tp, rfl, hS⟩ := (hT.kp (e.trans e2').kp).2 i x hx
        exact ⟨t, tp, rfl, ht, hS, (cf t (List.mem_of_getElem? ht)).1⟩
      walk_at "rd"
      refine ⟨⟨_, .of hp⟩, fun D3 nD3 => lcLn (fun i y G' => ∃ t, (ordL j)[i]? = some t ∧ IsInts K G' y (t ++ [0])) (fun _ _ _ _ e ⟨t, h1, h2⟩ => ⟨t, h1, h2.kp e⟩) nD3 (.of hp) (by omega) (fun _ => rfl) ?_ ?_⟩
      · intro i x H3 hx e3
        obtain ⟨t, tp, rfl, ht, hS, tl⟩ := body 0 G (Ex.refl G) i x H3 hx e3
        obtain ⟨R1, hR1⟩ : ∃ R : VK, R = fun v H' => Ex H3 H' ∧ IsInts K H' v (t ++ [0]) := ⟨_, rfl⟩
        refine ⟨R1, ?_, fun v H' h => by rw [hR1] at h; exact ⟨h.1, t, ht, h.2⟩⟩
        walk_at "rd"
        refine ⟨by decide, fun TO H4 nO eO tO => ?_⟩
        refine ⟨tp, TO, _, _, rfl, rfl, sqT_kp hS eO.kp, .of tO, by simp, ?_, fun pr H7 e7 h7 => ?_⟩
        · rw [List.length_map, List.length_singleton]
          exact Nat.le_trans (show t.length + 1 ≤ 1000000 by omega) (by decide)
        · rw [hR1]
          refine ⟨eO.trans e7, pr, rfl, ?_⟩
          rw [List.map_append]
          exact h7
      intro G4 us e4 hus lus hru
      refine ⟨⟨_, .of (e4 _ _ hp)⟩, fun D5 nD5 => lcLn (fun i y G' => ∃ t, (ordL j)[i]? = some t ∧ IsInts K G' y (t ++ [1])) (fun _ _ _ _ e ⟨t, h1, h2⟩ => ⟨t, h1, h2.kp e⟩) nD5 (.of (e4 _ _ hp)) (by omega) (fun _ => rfl) ?_ ?_⟩
      · intro i x H3 hx e3
        obtain ⟨t, tp, rfl, ht, hS, tl⟩ := body 1 G4 e4 i x H3 hx e3
        obtain ⟨R1, hR1⟩ : ∃ R : VK, R = fun v H' => Ex H3 H' ∧ IsInts K H' v (t ++ [1]) := ⟨_, rfl⟩
        refine ⟨R1, ?_, fun v H' h => by rw [hR1] at h; exact ⟨h.1, t, ht, h.2⟩⟩
        walk_at "rd"
        refine ⟨by decide, fun TO H4 nO eO tO => ?_⟩
        refine ⟨tp, TO, _, _, rfl, rfl, sqT_kp hS eO.kp, .of tO, by simp, ?_, fun pr H7 e7 h7 => ?_⟩
        · rw [List.length_map, List.length_singleton]
          exact Nat.le_trans (show t.length + 1 ≤ 1000000 by omega) (by decide)
        · rw [hR1]
          refine ⟨eO.trans e7, pr, rfl, ?_⟩
          rw [List.map_append]
          exact h7
      intro G6 ws e6 hws lws hrw
      refine ⟨D3, D5, us, ws, rfl, rfl, e6 _ _ hus, hws, Nat.le_trans (show us.length + ws.length ≤ 1000000 by omega) (by decide), fun q G7 n7 e7 t7 => ?_⟩
      walk_at "rd"
      rw [hP]
      have e07 := (e4.trans e6).trans e7
      have A1 : TupsAt K G7 us ((ordL j).map (· ++ [0])) := by
        refine ⟨by rw [List.length_map]; omega, fun i x hx => ?_⟩
        obtain ⟨t, h1, h2⟩ := hru i x hx
        exact ⟨_, by rw [List.getElem?_map, h1]; rfl, h2.kp (e6.trans e7).kp⟩
      have A2 : TupsAt K G7 ws ((ordL j).map (· ++ [1])) := by
        refine ⟨by rw [List.length_map]; omega, fun i x hx => ?_⟩
        obtain ⟨t, h1, h2⟩ := hrw i x hx
        exact ⟨_, by rw [List.getElem?_map, h1]; rfl, h2.kp e7.kp⟩
      exact ⟨eG.trans e07, q, _, _, _, rfl, (eG.trans (e4.trans e6)).free n7, t7, A1.app A2⟩
    · intro σ' G h
      rw [hP] at h
      obtain ⟨eG, p, xs, s2, s3, rfl, hp0, hp, hT⟩ := h
      rw [Int.toNat_natCast] at hT
      walk_at "rd"
      exact k p G xs hp0 eG hp hT
/-- what one order of so many yes has -/
def oneR (ps : List Int) (y : Nat) : Rat := ((ps.getD y 0 : Int) : Rat) / ((ps.sum * ((chs (ps.length - 1) y : Nat) : Int) : Int) : Rat)
def accL (ps : List Int) (ts : List (List Int)) (s m : Nat) : List Rat := (List.range (ps.length - s)).map fun k => (((cntO ts s (m : Int) k : Nat) : Int) : Rat) * oneR ps (m + k)
def dueL (ps : List Int) (s m : Nat) : List Rat := (List.range (ps.length - s)).map fun k => (((chs s m * chs (ps.length - 1 - s) k : Nat) : Int) : Rat) * oneR ps (m + k)
theorem acc_len (ps : List Int) (ts : List (List Int)) (s m : Nat) : (accL ps ts s m).length = ps.length - s := by simp [accL]
theorem acc_due {ps : List Int} {s m : Nat} (l1 : ps.length ≤ 6) (hs : s < ps.length) (hm : m ≤ s) : accL ps (ordL (ps.length - 1)) s m = dueL ps s m := by
  unfold accL dueL
  apply List.map_congr_left
  intro k hk
  have hk := List.mem_range.mp hk
  rw [ord_cnt (ps.length - 1) (by omega) s (by omega) m (by omega) k (by omega)]
theorem acc_snoc {ps : List Int} {ts : List (List Int)} {s m : Nat} {t : List Int} {k : Nat} (h1 : (t.take s).sum = (m : Int)) (h2 : (t.drop s).sum = (k : Int)) :
    accL ps (ts ++ [t]) s m = (accL ps ts s m).set k ((accL ps ts s m).getD k 0 + oneR ps (m + k)) := by
  apply List.ext_getElem?
  intro i
  by_cases hi : i < ps.length - s
  · have g : ∀ us : List (List Int), (accL ps us s m)[i]? = some ((((cntO us s (m : Int) i : Nat) : Int) : Rat) * oneR ps (m + i)) := by
      intro us
      unfold accL
      rw [List.getElem?_map, List.getElem?_range hi]
      rfl
    rw [g, List.getElem?_set]
    unfold cntO
    rw [List.countP_append]
    by_cases h : k = i
    · subst h
      have hb : hitB s (m : Int) k t = true := by simp [hitB, h1, h2]
      rw [if_pos rfl, if_pos (by rw [acc_len]; exact hi), List.getD_eq_getElem?_getD, g]
      simp only [List.countP_cons, List.countP_nil, hb, if_true, Option.getD_some, Nat.zero_add]
      unfold cntO
      rw [Int.natCast_add, Rat.intCast_add]
      have e1 : ((((1 : Nat)) : Int) : Rat) = 1 := rfl
      rw [e1]
      congr 1
      grind
    · have hb : hitB s (m : Int) i t = false := by
        simp only [hitB, h2, Bool.and_eq_false_iff, decide_eq_false_iff_not]
        right
        omega
      rw [if_neg h, g]
      simp [hb, cntO]
  · rw [List.getElem?_eq_none (by rw [acc_len]; omega), List.getElem?_eq_none (by rw [List.length_set, acc_len]; omega)]
theorem acc_skip {ps : List Int} {ts : List (List Int)} {s m : Nat} {t : List Int} (h1 : ¬ (t.take s).sum = (m : Int)) : accL ps (ts ++ [t]) s m = accL ps ts s m := by
  unfold accL
  apply List.map_congr_left
  intro k _
  unfold cntO
  rw [List.countP_append]
  have hb : hitB s (m : Int) k t = false := by simp [hitB, h1]
  simp [hb]
def spDue (K : PySem.W.Frag) : Sp := fun vs H Q _ => ∃ (q : Addr) (ps : List Int) (s m : Nat), vs = [.ref q, .int (s : Int), .int (m : Int)] ∧ SqT K H q (ps.map V.int) ∧ CountsOk ps ∧ s < ps.length ∧ m ≤ s ∧
  ∀ p H' us, H p = none → Ex H H' → H' p = some (.lst us) → FrsAt K H' us (dueL ps s m) → Q (.ref p) H'
theorem one_sz {ps : List Int} (h : CountsOk ps) {y : Nat} (hy : y < ps.length) {c : Nat} (hc : c ≤ 32) : 0 < ps.sum * ((chs (ps.length - 1) y : Nat) : Int) ∧ (ps.sum * ((chs (ps.length - 1) y : Nat) : Int)).natAbs < 2 ^ 110 ∧ sz ((((c : Nat) : Int) : Rat) * oneR ps y) 110 := by
  obtain ⟨l0, l1, hb, hs⟩ := h
  have c1 := chs_pos (a := ps.length - 1) (b := y) (by omega) (by omega)
  have c2 := chs_le (a := ps.length - 1) (b := y) (by omega) (by omega)
  have sl := sum_le (b := 10 ^ 30) (cs := ps) fun c hc => (hb c hc).2
  have sl2 : ps.sum ≤ 6 * 10 ^ 30 := by
    have := Int.mul_le_mul_of_nonneg_right (show (ps.length : Int) ≤ 6 by omega) (show (0 : Int) ≤ 10 ^ 30 by decide)
    omega
  have b103 : (6 : Int) * 10 ^ 30 < 2 ^ 103 := by decide
  have p0 : 0 < ps.sum * ((chs (ps.length - 1) y : Nat) : Int) := Int.mul_pos hs (by omega)
  have p1 : (ps.sum * ((chs (ps.length - 1) y : Nat) : Int)).natAbs < 2 ^ 110 := lt2_mono (wide_lt (a := 103) (b := 4) (by omega) (by rw [Int.natAbs_natCast]; omega)) (by decide)
  refine ⟨p0, p1, ?_⟩
  have g : 0 ≤ ps.getD y 0 ∧ ps.getD y 0 ≤ 10 ^ 30 := by
    rw [List.getD_eq_getElem?_getD, List.getElem?_eq_getElem hy]
    exact hb _ (List.getElem_mem hy)
  have b100 : (10 : Int) ^ 30 < 2 ^ 100 := by decide
  have e : (((c : Nat) : Int) : Rat) * oneR ps y = (((((c : Nat) : Int) * ps.getD y 0 : Int)) : Rat) / ((ps.sum * ((chs (ps.length - 1) y : Nat) : Int) : Int) : Rat) := by
    unfold oneR
    rw [Rat.intCast_mul ((c : Nat) : Int)]
    grind
  rw [e]
  exact sz_div p0 (lt2_mono (wide_lt (a := 6) (b := 100) (by rw [Int.natAbs_natCast]; omega) (by omega)) (by decide)) p1
theorem scDue : FnScope ["some", "seen", "marked", "size", "found", "each", "one", "rest"] ["some", "seen", "marked"] (defScope (top 51)) := ⟨rfl, rfl, rfl, by decide +kernel, rfl, by decide +kernel, by decide +kernel⟩
theorem has_due (B : Bi mg) (h_law_orders : Has P w K mg base "_law_orders" 1 ["size"] (spOrders K)) (h_law_part : Has P w K mg base "_law_part" 2 ["top", "bottom"] (spPart K)) (h_law_ways : Has P w K mg base "_law_ways" 1 ["things", "some"] spWays)
    (h_law_sum : Has P w K mg base "_law_sum" 3 ["parts_here"] (spSum K)) (D : Df K mg "_law_due" (top 51) ["some", "seen", "marked"]) : Has P w K mg base "_law_due" 4 ["some", "seen", "marked"] (spDue K) := by
  have sc := scDue
  refine .of D fun f fd F => F.ok sc (fun vs H Q E h => ?_) (fun cdv A outer s H vs Q E hr h => ?_)
  · obtain ⟨q, ps, s, m, rfl, _⟩ := h
    rfl
  · obtain ⟨q, ps, s, m, rfl, hS, ok, hs, hm, k⟩ := h
    obtain ⟨l0, l1, hb, hsum⟩ := id ok
    refine ⟨_, (pss_cons (ps_par (i := 3) (j := 4) (by rfl) sc.nd rfl rfl (by decide) rfl rfl (pa_cons (pe_op op_sub (pe_callB (kLen (K := K)) (by rfl) B.len (by decide +kernel) (pa_cons (pv 0) pa_nil)) pe_int) (pa_cons (pe_op op_repN (pe_lstN (pa_cons (pe_tupN (pa_cons pe_int (pa_cons pe_int pa_nil))) pa_nil)) (pe_op op_sub (pe_callB (kLen (K := K)) (by rfl) B.len (by decide +kernel) (pa_cons (pv 0) pa_nil)) (pv 1))) pa_nil)) (by rfl))
      (pss_cons (ps_for PassesOwn.never rfl (pi_list (pe_has h_law_orders (hr.mono (by decide)) (pa_cons (pv 3) pa_nil))) (pg_name (i := 5) sc.nd rfl (by first | exact Or.inl rfl | exact Or.inr rfl))
      (pss_one (ps_if (pt_cmpR op_eq (pe_callB (kSum (K := K) rfl) (by rfl) B.sum (by decide +kernel) (pa_cons (pe_slice (sl_tupAN (K := K)) (pv 5) po_none (po_some (pv 1))) pa_nil)) (pv 2) (nomark _)) (pss_cons (ps_set (i := 6) sc.nd rfl (by first | exact Or.inl rfl | exact Or.inr rfl) (pe_has h_law_part (hr.mono (by decide)) (pa_cons (pe_ix (ixT (K := K)) (pv 0) (pe_callB (kSum (K := K) rfl) (by rfl) B.sum (by decide +kernel) (pa_cons (pv 5) pa_nil)) (fun _ _ => rfl)) (pa_cons (pe_op op_mulS (pe_callB (kSum (K := K) rfl) (by rfl) B.sum (by decide +kernel) (pa_cons (pv 0) pa_nil)) (pe_has h_law_ways (hr.mono (by decide)) (pa_cons (pv 3) (pa_cons (pe_callB (kSum (K := K) rfl) (by rfl) B.sum (by decide +kernel) (pa_cons (pv 5) pa_nil)) pa_nil)))) pa_nil))))
      (pss_cons (ps_set (i := 7) sc.nd rfl (by first | exact Or.inl rfl | exact Or.inr rfl) (pe_callB (kSum (K := K) rfl) (by rfl) B.sum (by decide +kernel) (pa_cons (pe_slice (sl_tupAN (K := K)) (pv 5) (po_some (pv 1)) po_none) pa_nil)))
      (pss_one (ps_asg (pe_has h_law_sum (hr.mono (by decide)) (pa_cons (pe_lstN (pa_cons (pe_ix (ixL (K := K)) (pv 4) (pv 7) (fun _ _ => rfl)) (pa_cons (pv 6) pa_nil))) pa_nil)) (pg_sub (pv 4) (pv 7) set_list))))) pss_nil)))
      (pss_one (ps_ret (pv 4))))), ?_⟩
    walk_at "rd"
    refine ⟨_, .inr hS, ?_⟩
    rw [List.length_map]
    have en : ((ps.length : Nat) : Int) - 1 = ((ps.length - 1 : Nat) : Int) := by omega
    rw [en]
    refine ⟨by decide, fun T1 G1 n1 e1 t1 => ?_⟩
    refine ⟨by decide, fun Lz G2 n2 e2 t2 => ?_⟩
    have hS2 := sqT_kp hS (e1.trans e2).kp
    walk_at "rd"
    refine ⟨_, .inr hS2, ?_⟩
    rw [List.length_map]
    have es : ((ps.length : Nat) : Int) - (s : Int) = ((ps.length - s : Nat) : Int) := by omega
    rw [es]
    refine ⟨Lz, _, _, rfl, rfl, t2, by omega, by omega, sizeLine_le (by simp only [List.length_cons, List.length_nil]; omega), fun p G3 n3 e3 t3 => ?_⟩
    walk_at "rd"
    refine ⟨ps.length - 1, rfl, by omega, fun L G4 xs nL e4 hL hT => ?_⟩
    have t4 := e4 _ _ t3
    have pL : L ≠ p := fun z => by
      rw [z, t3] at nL
      cases nL
    have e04 := ((e1.trans e2).trans e3).trans e4
    have hS4 := sqT_kp hS e04.kp
    obtain ⟨cl, cf⟩ := ord_facts (ps.length - 1) (by omega)
    have lx := hT.1
    have z0 : fr 0 = [V.int 0, V.int 1] := by
      have := fr_int 0
      rwa [show (((0 : Int)) : Rat) = 0 from rfl] at this
    have F0 : FrsAt K G4 (List.replicate (ps.length - s) (V.ref T1)) (accL ps [] s m) := by
      refine ⟨by rw [List.length_replicate, acc_len], fun i x hx => ?_⟩
      have hi := (List.getElem?_eq_some_iff.mp hx).1
      rw [List.length_replicate] at hi
      rw [List.getElem?_replicate, if_pos hi] at hx
      cases hx
      refine ⟨0, ?_, T1, rfl, by rw [z0]; exact .of (e4 _ _ (e3 _ _ (e2 _ _ t1)))⟩
      unfold accL
      rw [List.getElem?_map, List.getElem?_range hi]
      simp [cntO]
    have er : (List.replicate (((ps.length - s : Nat) : Int)).toNat [V.ref T1]).flatten = List.replicate (ps.length - s) (V.ref T1) := by
      rw [Int.toNat_natCast, List.flatten_replicate_singleton]
    rw [er] at t4
    obtain ⟨ts, hts⟩ : ∃ l, l = ordL (ps.length - 1) := ⟨_, rfl⟩
    rw [← hts] at hT cl cf lx
    obtain ⟨Pv, hP⟩ : ∃ P : Nat → L2.St → Hp → Prop, P = fun j σ' G => Bt p G4 G ∧ ∃ (us : List V) (s5 s6 s7 : Option V), σ' = [some (.ref q), some (.int (s : Int)), some (.int (m : Int)), some (.int ((ps.length - 1 : Nat) : Int)), some (.ref p), s5, s6, s7] ∧ G p = some (.lst us) ∧ FrsAt K G us (accL ps (ts.take j) s m) := ⟨_, rfl⟩
    walk_at "rd"
    refine ⟨⟨_, .of hL⟩, loopL (xs := xs) Pv (by rw [hP]; exact ⟨.refl _, _, _, _, _, rfl, t4, F0⟩) (fun j σ' G _ h => by rw [hP] at h; exact .of (h.1 _ _ pL hL)) ?_ ?_⟩
    · intro j x σ' G hx h
      rw [hP] at h
      obtain ⟨b0, us, s5, s6, s7, rfl, hG, hF⟩ := h
      have kp4 := b0.kp t4
      obtain ⟨t, ht, tp, rfl, hSt⟩ := (hT.kp kp4).2 j x hx
      have tm := List.mem_of_getElem? ht
      obtain ⟨tl, tf⟩ := cf t tm
      obtain ⟨f1, f2, f3, f4, f5⟩ := tf s (by omega)
      have etk : ts.take (j + 1) = ts.take j ++ [t] := by
        rw [List.take_add_one, ht]
        rfl
      walk_at "rd"
      refine ⟨tp, _, rfl, hSt, fun p5 G5 e5 h5 => ?_⟩
      rw [cut_take, ← List.map_take] at h5
      refine ⟨p5, _, rfl, .inr h5, ?_⟩
      walk_at "rd"
      by_cases hm1 : (t.take s).sum = (m : Int)
      · rw [if_pos hm1]
        have e5S := sqT_kp hSt e5.kp
        have hS5 := sqT_kp hS4 (kp4.trans e5.kp)
        obtain ⟨kn, hkn⟩ : ∃ n : Nat, (t.drop s).sum = (n : Int) := ⟨((t.drop s).sum).toNat, by omega⟩
        have tsum : t.sum = ((m + kn : Nat) : Int) := by omega
        have ky : m + kn < ps.length := by omega
        refine ⟨tp, t, rfl, .inr e5S, ?_⟩
        rw [tsum]
        obtain ⟨c, hc⟩ : ∃ c, ps[m + kn]? = some c := ⟨_, List.getElem?_eq_getElem ky⟩
        refine q_ixT hS5 (at_of (v := .int c) (j := m + kn) rfl (by rw [List.getElem?_map, hc]; rfl)) ?_
        walk_at "rd"
        refine ⟨q, ps, rfl, .inr hS5, ?_⟩
        refine ⟨tp, t, rfl, .inr e5S, ?_⟩
        rw [tsum]
        refine ⟨ps.length - 1, m + kn, rfl, by omega, by omega, ?_⟩
        walk_at "rd"
        obtain ⟨w0, w1, w2⟩ := one_sz ok ky (c := 1) (by decide)
        have c2 := chs_le (a := ps.length - 1) (b := m + kn) (by omega) (by omega)
        refine ⟨cmulR, ?_⟩
        refine ⟨_, _, rfl, w0, lt2_mono w1 (by decide), fun y6 G6 e6 h6 => ?_⟩
        have e56 := e5.trans e6
        refine ⟨tp, _, rfl, sqT_kp hSt e56.kp, fun p7 G7 e7 h7 => ?_⟩
        rw [cut_drop, ← List.map_drop] at h7
        refine ⟨p7, _, rfl, .inr h7, ?_⟩
        rw [hkn]
        walk_at "rd"
        have e57 := e56.trans e7
        have hG7 := e57 _ _ hG
        have lu : us.length = ps.length - s := by rw [hF.1, acc_len]
        have kl : kn < ps.length - s := by omega
        obtain ⟨u, hu⟩ : ∃ u, us[kn]? = some u := ⟨_, List.getElem?_eq_getElem (by omega)⟩
        obtain ⟨r, hr1, hfr⟩ := hF.2 kn u hu
        refine q_ixL (.of hG7) (at_of (j := kn) rfl hu) ?_
        refine ⟨by decide, fun T8 G8 n8 e8 t8 => ?_⟩
        have ce : ((c : Int) : Rat) / ((ps.sum * ((chs (ps.length - 1) (m + kn) : Nat) : Int) : Int) : Rat) = oneR ps (m + kn) := by
          unfold oneR
          rw [List.getD_eq_getElem?_getD, hc]
          rfl
        rw [ce] at h6
        have rz : sz r 110 := by
          unfold accL at hr1
          rw [List.getElem?_map, List.getElem?_range kl] at hr1
          cases hr1
          refine (one_sz ok ky (c := cntO (ts.take j) s (m : Int) kn) ?_).2.2
          refine Nat.le_trans List.countP_le_length ?_
          rw [List.length_take]
          omega
        have oz : sz (oneR ps (m + kn)) 110 := by
          have e1' : ((((1 : Nat)) : Int) : Rat) = 1 := rfl
          rw [e1', Rat.one_mul] at w2
          exact w2
        have f2' : FrsAt K G8 [u, y6] [r, oneR ps (m + kn)] := ⟨rfl, fun i z hz => match i, hz with
          | 0, hz => ⟨r, rfl, by cases hz; exact hfr.kp (e57.trans e8).kp⟩
          | 1, hz => ⟨oneR ps (m + kn), rfl, by cases hz; exact h6.kp (e7.trans e8).kp⟩
          | _ + 2, hz => by simp at hz⟩
        refine ⟨.ref T8, [r, oneR ps (m + kn)], 110, rfl, ⟨T8, _, rfl, .inr (.of t8), f2'⟩, fun r' hr' => ?_, by simp, fun y9 G9 e9 h9 => ?_⟩
        · simp only [List.mem_cons, List.not_mem_nil, or_false] at hr'
          rcases hr' with rfl | rfl
          · exact rz
          · exact oz
        have e59 := (e57.trans e8).trans e9
        have hG9 := e59 _ _ hG
        refine ⟨p, _, _, kn, rfl, rfl, hG9, by simp [ixN] <;> omega, ?_⟩
        walk_at "rd"
        rw [hP]
        have kk : Kp G (upd G9 p (.lst (us.set kn y9))) := (((Bt.refl G).ex e59).upd).kp hG
        have k9 : Kp G9 (upd G9 p (.lst (us.set kn y9))) := ((Bt.refl G9).upd).kp hG9
        refine ⟨(b0.ex e59).upd, _, _, _, _, rfl, upd_same, ?_⟩
        rw [etk, acc_snoc hm1 hkn]
        refine ⟨by rw [List.length_set, List.length_set]; exact hF.1, fun i z hz => ?_⟩
        rw [List.getElem?_set] at hz
        by_cases hik : kn = i
        · subst hik
          rw [if_pos rfl, if_pos (by omega)] at hz
          cases hz
          refine ⟨_, by rw [List.getElem?_set, if_pos rfl, if_pos (by rw [acc_len]; exact kl)], ?_⟩
          have sr : sumR [r, oneR ps (m + kn)] = (accL ps (ts.take j) s m).getD kn 0 + oneR ps (m + kn) := by
            rw [List.getD_eq_getElem?_getD, hr1]
            unfold sumR
            simp only [List.foldl_cons, List.foldl_nil, Option.getD_some]
            grind
          rw [← sr]
          exact h9.kp k9
        · rw [if_neg hik] at hz
          obtain ⟨r', h1, h2⟩ := hF.2 i z hz
          exact ⟨r', by rw [List.getElem?_set, if_neg hik]; exact h1, h2.kp kk⟩
      · rw [if_neg hm1]
        rw [hP]
        refine ⟨b0.ex e5, us, _, _, _, rfl, e5 _ _ hG, ?_⟩
        rw [etk, acc_skip hm1]
        exact hF.kp e5.kp
    · intro σ' G h
      rw [hP] at h
      obtain ⟨b0, us, s5, s6, s7, rfl, hG, hF⟩ := h
      rw [lx, List.take_length, hts, acc_due l1 hs hm] at hF
      walk_at "rd"
      exact k _ _ _ ((e1.trans e2).free n3) (((e1.trans e2).trans ((Bt.out n3 (e3.trans e4) b0)))) hG hF
end

section
variable {P : Program} {w : World} {K : PySem.W.Frag} {mg : Str → Option Value} {base : Heap}
/-! ### behind -/
def ordF (n m : Nat) : Nat := (List.range m).foldl (fun B k => Nat.lcm B (chs n k)) 1
def bhL (ps : List Int) (s y : Nat) : List Int := (List.range (ps.length - s)).map fun k => ps.getD (y + k) 0 * ((ordF (ps.length - 1) ps.length / chs (ps.length - 1) (y + k) : Nat) : Int) * ((chs (ps.length - 1 - s) k : Nat) : Int)
theorem ord_small {n m : Nat} (hn : n < 6) (hm : m ≤ n + 1) : 0 < ordF n m ∧ ordF n m < 100 := by
  have h : ∀ n < 6, ∀ m < n + 2, 0 < ordF n m ∧ ordF n m < 100 := by decide +kernel
  exact h n hn m (by omega)
def spBehindX (K : PySem.W.Frag) (C CN : Addr) : Sp := fun vs H Q E => ∃ (x : V) (ps : List Int) (s y : Nat), vs = [x, .int (s : Int), .int (y : Int)] ∧ IsRow K C H x ps ∧ RowIn ps ∧ 1 ≤ s ∧ s + 1 < ps.length ∧ y ≤ s ∧ (RowOk (bhL ps s y) ∨ ∀ c ∈ bhL ps s y, c = 0) ∧
  (RowOk (bhL ps s y) → ∀ z H', Ex H H' → IsRow K C H' z (plainL (bhL ps s y)) → Q z H') ∧ ((∀ c ∈ bhL ps s y, c = 0) → ∀ H', Ex H H' → E (.ref CN) none H')
theorem scBehind : FnScope ["row", "draws", "yes", "rest", "orders", "k", "counts"] ["row", "draws", "yes"] (defScope (top 35)) := ⟨rfl, rfl, rfl, by decide +kernel, rfl, by decide +kernel, by decide +kernel⟩
theorem ok_behindX {C CN : Addr} (eNC : ExcA K CN) (c_NoChance : mg "NoChance" = some (.ref CN)) (B : Bi mg) (RT : RowT P w K mg base C) (c_comb : mg "comb" = some (.builtin "math.comb")) (c_lcm : mg "lcm" = some (.builtin "math.lcm")) (hcheck_row : Has P w K mg base "check_row" 1 ["row"] (spCheckRow K C))
    (hcheck_number : Has P w K mg base "check_number" 2 ["given", "least", "most"] spNum)
    {f : Addr} {fd : FuncData} (F : Fun K "behind" "behind" (top 35) f fd) : FnOk P w K mg base (L2.CX P w) 5 f fd ["row", "draws", "yes"] (spBehindX K C CN) := by
  have sc := scBehind
  refine F.okX sc (fun vs H Q E h => ?_) (fun cdv A outer s H vs Q E hr h => ?_)
  · obtain ⟨x, ps, s, y, rfl, _⟩ := h
    rfl
  · obtain ⟨x, ps, sn, y, rfl, hrow, hin, s0, s1, hy, rk0, k, k2⟩ := h
    have l0 := hin.l0
    have l1 := hin.l1
    have en : ((ps.length : Nat) : Int) - 1 = ((ps.length - 1 : Nat) : Int) := by omega
    refine ⟨_, (pss_cons (ps_expr (pe_has hcheck_row (hr.mono (by decide)) (pa_cons (pv 0) pa_nil)))
      (pss_cons (ps_expr (pe_has hcheck_number (hr.mono (by decide)) (pa_cons (pv 1) (pa_cons pe_int (pa_cons (pe_op op_sub (kDraws RT (hr.mono (by decide)) (pv 0)) pe_int) pa_nil)))))
      (pss_cons (ps_expr (pe_has hcheck_number (hr.mono (by decide)) (pa_cons (pv 2) (pa_cons pe_int (pa_cons (pv 1) pa_nil)))))
      (pss_cons (ps_set (i := 3) sc.nd rfl (by first | exact Or.inl rfl | exact Or.inr rfl) (pe_op op_sub (kDraws RT (hr.mono (by decide)) (pv 0)) (pv 1)))
      (pss_cons (ps_set (i := 4) sc.nd rfl (by first | exact Or.inl rfl | exact Or.inr rfl) pe_int)
      (pss_cons (ps_for (passes_of rfl) rfl (pi_range1 (by rfl) B.range (pa_cons (pe_op op_add (kDraws RT (hr.mono (by decide)) (pv 0)) pe_int) pa_nil)) (pg_name (i := 5) sc.nd rfl (by first | exact Or.inl rfl | exact Or.inr rfl))
      (pss_one (ps_set (i := 4) sc.nd rfl (by first | exact Or.inl rfl | exact Or.inr rfl) (pe_callBfun cr_lcm (by rfl) c_lcm (pa_cons (pv 4) (pa_cons (pe_callBfun cr_comb (by rfl) c_comb (pa_cons (kDraws RT (hr.mono (by decide)) (pv 0)) (pa_cons (pv 5) pa_nil))) pa_nil))))))
      (pss_cons (ps_setLc (i := 6) (own := [("k", 5)]) (g := gName 5) (tt := tYes) rfl sc.nd rfl rfl (sw_true rfl rfl rfl (by decide +kernel)) (pi_range1 (by rfl) B.range (pa_cons (pe_op op_add (pv 3) pe_int) pa_nil)) (blkOk_by (N := (["row", "draws", "yes", "rest", "orders", "k", "counts"] : List Str)) (sc := defScope (top 35)) (by decide +kernel)) (fun _ _ _ _ _ => (pg_name (i := 5) sc.nd rfl (by first | exact Or.inl rfl | exact Or.inr rfl))) (fun _ _ _ _ _ => pts_nil) (fun _ _ _ _ _ => (PE.mon (pe_op op_mulS (pe_op op_mulS (pe_ix (ixT (K := K)) (kCounts RT (hr.mono (by decide)) (pv 0)) (pe_op op_add (pv 2) (pv 5)) (fun _ _ => rfl)) (pe_op op_fdivW (pv 4) (pe_callBfun cr_comb (by rfl) c_comb (pa_cons (kDraws RT (hr.mono (by decide)) (pv 0)) (pa_cons (pe_op op_add (pv 2) (pv 5)) pa_nil))))) (pe_callBfun cr_comb (by rfl) c_comb (pa_cons (pv 3) (pa_cons (pv 5) pa_nil)))))))
      (pss_cons (ps_if (pt_cmpR op_eq (pe_callB (kMax (K := K) rfl) (by rfl) B.max (by decide +kernel) (pa_cons (pv 6) pa_nil)) pe_int (nomark _)) (pss_one (ps_raise0 rfl takes_def eNC c_NoChance)) pss_nil)
      (pss_one (ps_ret (kRow RT (hr.mono (by decide)) (pa_cons (pe_callTy (kTuple (K := K)) (by rfl) B.tuple (by decide +kernel) (pa_cons (pv 6) pa_nil)) pa_nil)))))))))))), ?_⟩
    walk_at "rd"
    refine ⟨x, ps, rfl, hrow, ?_⟩
    walk_at "rd"
    refine ⟨_, hrow, _, _, _, rfl, by omega, by omega, ?_⟩
    refine ⟨_, _, _, rfl, by omega, by omega, ?_⟩
    walk_at "rd"
    refine ⟨_, hrow, _, hrow, ?_⟩
    rw [en]
    refine ⟨by omega, by omega, ?_⟩
    obtain ⟨Pv, hP⟩ : ∃ P : Nat → L2.St → Hp → Prop, P = fun j σ' G => G = H ∧ ∃ s5 : Option V, σ' = [some x, some (.int (sn : Int)), some (.int (y : Int)), some (.int (((ps.length - 1 : Nat) : Int) - (sn : Int))), some (.int ((ordF (ps.length - 1) j : Nat) : Int)), s5, none] := ⟨_, rfl⟩
    refine loopR Pv (by rw [hP]; exact ⟨rfl, _, rfl⟩) ?_ ?_
    · intro j σ' G hj h
      rw [hP] at h
      obtain ⟨rfl, s5, rfl⟩ := h
      have hj : j < ps.length := by omega
      have o1 := ord_small (n := ps.length - 1) (m := j) (by omega) (by omega)
      have c1 := chs_le (a := ps.length - 1) (b := j) (by omega) (by omega)
      walk_at "rd"
      refine ⟨_, hrow, ?_⟩
      rw [en]
      refine ⟨_, _, rfl, comb_ok (by omega) (by omega), ?_⟩
      rw [comb_chs (by omega) (by omega)]
      have big : (100 : Nat) < 2 ^ 13000 := Nat.lt_of_lt_of_le (show 100 < 2 ^ 7 by decide) (Nat.pow_le_pow_right (by decide) (by decide))
      refine ⟨_, _, rfl, ?_, ?_, ?_⟩
      · rw [Int.natAbs_natCast]
        omega
      · rw [Int.natAbs_natCast]
        omega
      · rw [hP]
        dsimp only
        have e : ordF (ps.length - 1) (j + 1) = Nat.lcm (ordF (ps.length - 1) j) (chs (ps.length - 1) j) := by
          unfold ordF
          rw [List.range_succ, List.foldl_append]
          rfl
        rw [e, Int.natAbs_natCast, Int.natAbs_natCast]
        exact ⟨rfl, _, rfl⟩
    · intro σ' G h
      rw [hP] at h
      obtain ⟨rfl, s5, rfl⟩ := h
      have eN : ((((ps.length - 1 : Nat) : Int)) + 1).toNat = ps.length := by omega
      rw [eN]
      have eR : (((ps.length - 1 : Nat) : Int)) - (sn : Int) = ((ps.length - 1 - sn : Nat) : Int) := by omega
      rw [eR]
      have o1 := ord_small (n := ps.length - 1) (m := ps.length) (by omega) (by omega)
      walk_at "rd"
      refine ⟨by omega, by omega, fun Dd hD => lcR (fun i z _ => z = .int (ps.getD (y + i) 0 * ((ordF (ps.length - 1) ps.length / chs (ps.length - 1) (y + i) : Nat) : Int) * ((chs (ps.length - 1 - sn) i : Nat) : Int))) (fun _ _ _ _ _ h => h) hD (by omega) (fun _ => rfl) ?_ ?_⟩
      · intro i H3 hi e
        have hi : i < ps.length - sn := by omega
        have hyi : y + i < ps.length := by omega
        obtain ⟨p, hp⟩ : ∃ p, ps[y + i]? = some p := ⟨_, List.getElem?_eq_getElem hyi⟩
        have pm := List.mem_of_getElem? hp
        have pl := mem_le_sum hin.nn pm
        have pn := hin.nn p pm
        have ssz := hin.s1
        have c1 := chs_pos (a := ps.length - 1) (b := y + i) (by omega) (by omega)
        have c2 := chs_le (a := ps.length - 1) (b := y + i) (by omega) (by omega)
        have c3 := chs_le (a := ps.length - 1 - sn) (b := i) (by omega) (by omega)
        rw [getD_get hp]
        obtain ⟨R0, hR⟩ : ∃ R : VK, R = fun v H' => v = .int (p * ((ordF (ps.length - 1) ps.length / chs (ps.length - 1) (y + i) : Nat) : Int) * ((chs (ps.length - 1 - sn) i : Nat) : Int)) ∧ H' = H3 := ⟨_, rfl⟩
        refine ⟨R0, ?_, fun v H' h => by rw [hR] at h; obtain ⟨rfl, rfl⟩ := h; exact ⟨Ex.refl _, rfl⟩⟩
        walk_at "rd"
        refine ⟨_, hrow.kp e.kp, fun v ⟨q, ev, hS⟩ => ?_⟩
        subst ev
        have ei : (y : Int) + (i : Int) = ((y + i : Nat) : Int) := by omega
        rw [ei]
        refine q_ixT hS (at_of (v := .int p) (j := y + i) rfl (by simp [hp])) ?_
        walk_at "rd"
        refine ⟨_, hrow.kp e.kp, ?_⟩
        rw [en]
        refine ⟨_, _, rfl, comb_ok (by omega) (by omega), ?_⟩
        rw [comb_chs (by omega) (by omega)]
        walk_at "rd"
        have dv : ((ordF (ps.length - 1) ps.length : Nat) : Int) / ((chs (ps.length - 1) (y + i) : Nat) : Int) = ((ordF (ps.length - 1) ps.length / chs (ps.length - 1) (y + i) : Nat) : Int) := by simp
        rw [dv]
        have dl := Nat.div_le_self (ordF (ps.length - 1) ps.length) (chs (ps.length - 1) (y + i))
        have dl2 := Nat.lt_of_le_of_lt dl o1.2
        clear dl dv
        generalize ordF (ps.length - 1) ps.length / chs (ps.length - 1) (y + i) = u at *
        refine ⟨⟨by omega, log_lt (Nat.lt_of_lt_of_le (show (((chs (ps.length - 1) (y + i) : Nat) : Int)).natAbs < 2 ^ 10 by rw [Int.natAbs_natCast]; omega) (Nat.pow_le_pow_right (by decide) (by decide)))⟩, cmulR, ?_⟩
        refine ⟨_, _, rfl, comb_ok (by omega) (by omega), ?_⟩
        rw [comb_chs (by omega) (by omega)]
        walk_at "rd"
        refine ⟨cmulR, ?_⟩
        rw [hR]
        exact ⟨rfl, rfl⟩
      · intro H3 ys e hys hl hr2
        have ey : ys = (bhL ps sn y).map V.int := by
          apply List.ext_getElem?
          intro i
          by_cases hi : i < ys.length
          · rw [List.getElem?_eq_getElem hi, hr2 i _ (List.getElem?_eq_getElem hi)]
            simp [bhL, show i < ps.length - sn by omega]
          · rw [List.getElem?_eq_none (by omega), List.getElem?_eq_none (by simp [bhL]; omega)]
        rw [ey] at hys
        have lb : (bhL ps sn y).length = ps.length - sn := by simp [bhL]
        walk_at "rd"
        refine ⟨Dd, _, rfl, .of hys, by rw [lb]; omega, fun m hm hmx => ?_⟩
        walk_at "rd"
        rcases rk0 with rok | z0
        · obtain ⟨r0, r1, r2, r3, r4⟩ := id rok
          have m0 : m ≠ 0 := by
            intro z
            subst z
            have all0 : ∀ c ∈ bhL ps sn y, c = 0 := fun c hc => by
              have := hmx c hc
              have := r2 c hc
              omega
            have : gcdL (bhL ps sn y) = 0 := by
              have h := dvd_gcdL (cs := bhL ps sn y) (d := 0) fun c hc => by rw [all0 c hc]; exact Int.dvd_refl _
              exact Nat.eq_zero_of_zero_dvd h
            omega
          rw [if_neg m0]
          refine ⟨Dd, _, rfl, .of hys, fun q H4 n4 e4 t4 => ?_⟩
          exact ⟨_, ⟨q, rfl, .of t4⟩, rok, fun z H5 e5 h5 => k rok _ _ ((e.trans e4).trans e5) h5⟩
        · rw [if_pos (z0 m hm)]
          exact k2 z0 _ e
end

section
variable {P : Program} {w : World} {K : PySem.W.Frag} {mg : Str → Option Value} {base : Heap}
/-! ### facts kept where tables grow -/
theorem IsFr.kn {H H' : Hp} {x : V} {r : Rat} (h : IsFr K H x r) (e : KpN H H') : IsFr K H' x r := by
  obtain ⟨p, rfl, h⟩ := h
  exact ⟨p, rfl, sqT_kn h e⟩
theorem IsInts.kn {H H' : Hp} {x : V} {cs : List Int} (h : IsInts K H x cs) (e : KpN H H') : IsInts K H' x cs := by
  obtain ⟨p, rfl, h⟩ := h
  exact ⟨p, rfl, sqT_kn h e⟩
theorem IsRow.kn {C : Addr} {H H' : Hp} {x : V} {ps : List Int} (h : IsRow K C H x ps) (e : KpN H H') : IsRow K C H' x ps := by
  obtain ⟨a, dx, q, rfl, h1, h2⟩ := h
  exact ⟨a, dx, q, rfl, e _ _ h1 (fun _ z => nomatch z) (fun _ z => nomatch z), sqT_kn h2 e⟩
theorem FrsAt.kn {H H' : Hp} {xs : List V} {rs : List Rat} (h : FrsAt K H xs rs) (e : KpN H H') : FrsAt K H' xs rs :=
  ⟨h.1, fun i x hx => let ⟨r, h1, h2⟩ := h.2 i x hx; ⟨r, h1, h2.kn e⟩⟩
theorem RowsAt.kn {C : Addr} {H H' : Hp} {xs : List V} {pss : List (List Int)} (h : RowsAt K C H xs pss) (e : KpN H H') : RowsAt K C H' xs pss :=
  ⟨h.1, fun i x hx => let ⟨r, h1, h2⟩ := h.2 i x hx; ⟨r, h1, h2.kn e⟩⟩
end

section
variable {P : Program} {w : World} {K : PySem.W.Frag} {mg : Str → Option Value} {base : Heap}
/-! ### rows behind, told by the chances of all orders -/
theorem wholeW_prop {cs : List Int} {W : Int} (h : 0 < W) : plainL (wholeW (cs.map fun c => ((c : Int) : Rat) / ((W : Int) : Rat))) = plainL cs := by
  have hB := lcmL_pos (cs.map fun c => ((c : Int) : Rat) / ((W : Int) : Rat))
  refine plainL_prop (a := W) (b := ((lcmL (cs.map fun c => ((c : Int) : Rat) / ((W : Int) : Rat)) : Nat) : Int)) h (by omega) ?_
  conv => lhs; arg 2; unfold wholeW
  rw [List.map_map, List.map_map]
  apply List.map_congr_left
  intro p hp
  show W * (((p : Rat) / (W : Rat)).num * _) = _
  have hm : ((p : Int) : Rat) / ((W : Int) : Rat) ∈ (cs.map fun c => ((c : Int) : Rat) / ((W : Int) : Rat)) := List.mem_map.mpr ⟨p, hp, rfl⟩
  have e := frac_mul (p := p) h
  have hd := lcmL_dvd hm
  have hp := den_pos (((p : Int) : Rat) / ((W : Int) : Rat))
  generalize ((lcmL (cs.map fun c => ((c : Int) : Rat) / ((W : Int) : Rat)))) = L at *
  generalize hq : (((p : Int) : Rat) / ((W : Int) : Rat)).den = d at *
  generalize (((p : Int) : Rat) / ((W : Int) : Rat)).num = t at *
  obtain ⟨m, rfl⟩ := hd
  rw [Int.natCast_mul, Int.mul_ediv_cancel_left _ (by omega)]
  grind
theorem bh_scale (g : Int) (ps : List Int) (s y : Nat) : bhL (ps.map (g * ·)) s y = (bhL ps s y).map (g * ·) := by
  unfold bhL
  rw [List.map_map, List.length_map]
  apply List.map_congr_left
  intro k _
  have e : (ps.map (g * ·)).getD (y + k) 0 = g * ps.getD (y + k) 0 := by
    rw [List.getD_eq_getElem?_getD, List.getD_eq_getElem?_getD, List.getElem?_map]
    cases ps[y + k]? <;> simp
  rw [e]
  simp only [Function.comp]
  rw [Int.mul_assoc, Int.mul_assoc, Int.mul_assoc]
theorem bh_plain {cs : List Int} (g : 0 < gcdL cs) (s y : Nat) : (bhL (plainL cs) s y).map (((gcdL cs : Nat) : Int) * ·) = bhL cs s y := by
  rw [← bh_scale, plainL_mul]
theorem bh_len (ps : List Int) (s y : Nat) : (bhL ps s y).length = ps.length - s := by simp [bhL]
theorem ord_mul : ∀ n < 6, ∀ y < n + 1, 0 < chs n y ∧ chs n y ≤ 10 ∧ chs n y * (ordF n (n + 1) / chs n y) = ordF n (n + 1) ∧ 0 < ordF n (n + 1) / chs n y ∧ ordF n (n + 1) / chs n y < 100 := by decide +kernel
theorem ord_mulL {l y : Nat} (l0 : 1 ≤ l) (l1 : l ≤ 6) (hy : y < l) : 0 < chs (l - 1) y ∧ chs (l - 1) y ≤ 10 ∧ chs (l - 1) y * (ordF (l - 1) l / chs (l - 1) y) = ordF (l - 1) l ∧ 0 < ordF (l - 1) l / chs (l - 1) y ∧ ordF (l - 1) l / chs (l - 1) y < 100 := by
  have h := ord_mul (l - 1) (by omega) y (by omega)
  rw [show l - 1 + 1 = l by omega] at h
  exact h
theorem bh_get {ps : List Int} {s y k : Nat} (hk : k < ps.length - s) : (bhL ps s y).getD k 0 = ps.getD (y + k) 0 * ((ordF (ps.length - 1) ps.length / chs (ps.length - 1) (y + k) : Nat) : Int) * ((chs (ps.length - 1 - s) k : Nat) : Int) := by
  unfold bhL
  rw [List.getD_eq_getElem?_getD, List.getElem?_map, List.getElem?_range hk]
  rfl
theorem bh_each {ps : List Int} {m n s y : Nat} (h : PR m n ps) (hs : 1 ≤ s) : ∀ c ∈ bhL ps s y, 0 ≤ c ∧ c.natAbs < 2 ^ (n + 11) := by
  have l := h.len
  have m0 := h.m0
  have m1 := h.m1
  have o := ord_small (n := ps.length - 1) (m := ps.length) (by omega) (by omega)
  intro c hc
  obtain ⟨k, hk, rfl⟩ := List.mem_map.mp hc
  have hk := List.mem_range.mp hk
  have gp : 0 ≤ ps.getD (y + k) 0 ∧ (ps.getD (y + k) 0).natAbs < 2 ^ n := by
    rw [List.getD_eq_getElem?_getD]
    cases hq : ps[y + k]? with
    | none => exact ⟨Int.le_refl 0, Nat.two_pow_pos _⟩
    | some p =>
      have pm := List.mem_of_getElem? hq
      have h1 := mem_le_sum h.nn pm
      have h2 := h.nn p pm
      have h3 := h.s1
      exact ⟨h2, by simp only [Option.getD_some]; omega⟩
  have c3 := chs_le (a := ps.length - 1 - s) (b := k) (by omega) (by omega)
  have dl := Nat.lt_of_le_of_lt (Nat.div_le_self (ordF (ps.length - 1) ps.length) (chs (ps.length - 1) (y + k))) o.2
  refine ⟨Int.mul_nonneg (Int.mul_nonneg gp.1 (Int.natCast_nonneg _)) (Int.natCast_nonneg _), ?_⟩
  refine wide_lt (a := n + 7) (b := 4) (wide_lt (a := n) (b := 7) gp.2 ?_) ?_
  · rw [Int.natAbs_natCast]
    exact Nat.lt_trans dl (by decide)
  · rw [Int.natAbs_natCast]
    omega
theorem sum_lt {b : Nat} : ∀ {l : List Int}, (∀ c ∈ l, 0 ≤ c ∧ c.natAbs < 2 ^ b) → 0 ≤ l.sum ∧ l.sum.natAbs ≤ l.length * 2 ^ b
  | [], _ => by simp
  | c :: l, h => by
    obtain ⟨h1, h2⟩ := sum_lt (l := l) fun x hx => h x (by simp [hx])
    obtain ⟨h3, h4⟩ := h c (by simp)
    rw [List.sum_cons, List.length_cons, Nat.add_mul, Nat.one_mul]
    omega
/-- what is left of a row, where it has a chance -/
theorem bh_facts {ps : List Int} {m n s y : Nat} (h : PR m n ps) (hn : n ≤ 600) (hs : 1 ≤ s) (hsm : s + 1 < m) : 0 ≤ (bhL ps s y).sum ∧ (bhL ps s y).sum.natAbs < 2 ^ (n + 14) ∧ ((bhL ps s y).sum = 0 → ∀ c ∈ bhL ps s y, c = 0) ∧
    (0 < (bhL ps s y).sum → RowOk (bhL ps s y) ∧ PR (m - s) (n + 14) (plainL (bhL ps s y)) ∧ 0 < gcdL (bhL ps s y)) := by
  have l := h.len
  have m1 := h.m1
  have each := bh_each (y := y) h hs
  obtain ⟨h1, h2⟩ := sum_lt each
  have nn : ∀ c ∈ bhL ps s y, 0 ≤ c := fun c hc => (each c hc).1
  have lt : (bhL ps s y).sum.natAbs < 2 ^ (n + 14) := by
    rw [bh_len] at h2
    have e : 2 ^ (n + 14) = 8 * 2 ^ (n + 11) := by rw [show n + 14 = (n + 11) + 3 by omega, Nat.pow_add]; omega
    have : (ps.length - s) * 2 ^ (n + 11) ≤ 5 * 2 ^ (n + 11) := Nat.mul_le_mul_right _ (by omega)
    have := Nat.two_pow_pos (n + 11)
    omega
  refine ⟨h1, lt, fun z c hc => ?_, fun p => ?_⟩
  · have := mem_le_sum nn hc
    have := nn c hc
    omega
  · obtain ⟨c, hc, c0⟩ := sum_pos_ex nn p
    have g : 0 < gcdL (bhL ps s y) := gcdL_pos ⟨c, hc, by omega⟩
    exact ⟨ok_of (by rw [bh_len]; omega) (by rw [bh_len]; omega) nn p lt (by omega), PR.of (by rw [bh_len]; omega) (by omega) (by omega) nn p lt, g⟩
theorem one_plain {cs : List Int} (g : 0 < gcdL cs) (y : Nat) : oneR (plainL cs) y = oneR cs y := by
  have e := rt_plain g y
  unfold rt at e
  unfold oneR
  rw [plainL_len, Rat.intCast_mul, Rat.intCast_mul]
  grind
theorem due_plain {cs : List Int} (g : 0 < gcdL cs) (s m : Nat) : dueL (plainL cs) s m = dueL cs s m := by
  unfold dueL
  rw [plainL_len]
  apply List.map_congr_left
  intro k _
  rw [one_plain g]
theorem due_len (ps : List Int) (s m : Nat) : (dueL ps s m).length = ps.length - s := by simp [dueL]
theorem frac5 {a p q S c u : Rat} (hc : c ≠ 0) (hu : u ≠ 0) (hS : S ≠ 0) : a * q * (p / (S * c)) = a * (p * u * q) / (S * (c * u)) := by grind
theorem due_bh {ps : List Int} {s m : Nat} (l0 : 2 ≤ ps.length) (l1 : ps.length ≤ 6) (S : 0 < ps.sum) (hm : m ≤ s) : dueL ps s m = ((bhL ps s m).map (((chs s m : Nat) : Int) * ·)).map fun c => ((c : Int) : Rat) / ((ps.sum * ((ordF (ps.length - 1) ps.length : Nat) : Int) : Int) : Rat) := by
  unfold dueL bhL
  rw [List.map_map, List.map_map]
  apply List.map_congr_left
  intro k hk
  have hk := List.mem_range.mp hk
  obtain ⟨c0, _, cu, u0, _⟩ := ord_mulL (l := ps.length) (y := m + k) (by omega) l1 (by omega)
  simp only [Function.comp]
  unfold oneR
  have hc := cast_ne0 (show (0 : Int) < ((chs (ps.length - 1) (m + k) : Nat) : Int) by omega)
  have hu := cast_ne0 (show (0 : Int) < ((ordF (ps.length - 1) ps.length / chs (ps.length - 1) (m + k) : Nat) : Int) by omega)
  have e : ((ordF (ps.length - 1) ps.length : Nat) : Int) = ((chs (ps.length - 1) (m + k) : Nat) : Int) * ((ordF (ps.length - 1) ps.length / chs (ps.length - 1) (m + k) : Nat) : Int) := by
    rw [← Int.natCast_mul, cu]
  rw [e]
  simp only [Int.natCast_mul, Rat.intCast_mul]
  exact frac5 hc hu (cast_ne0 S)
theorem due_sum {ps : List Int} {s m : Nat} (l0 : 2 ≤ ps.length) (l1 : ps.length ≤ 6) (S : 0 < ps.sum) (hm : m ≤ s) : (dueL ps s m).sum = ((((chs s m : Nat) : Int) * (bhL ps s m).sum : Int) : Rat) / ((ps.sum * ((ordF (ps.length - 1) ps.length : Nat) : Int) : Int) : Rat) := by
  rw [due_bh l0 l1 S hm, ← sum_scale]
  generalize (bhL ps s m).map (((chs s m : Nat) : Int) * ·) = l
  generalize ps.sum * ((ordF (ps.length - 1) ps.length : Nat) : Int) = W
  induction l with
  | nil =>
    show (0 : Rat) = (((0 : Int)) : Rat) / _
    rw [Rat.div_def]
    simp
  | cons x l ih =>
    rw [List.map_cons, List.sum_cons, List.sum_cons, ih, Rat.intCast_add]
    grind
theorem due_get {ps : List Int} {s m k : Nat} (l0 : 2 ≤ ps.length) (l1 : ps.length ≤ 6) (S : 0 < ps.sum) (hm : m ≤ s) : (dueL ps s m).getD k 0 = ((((chs s m : Nat) : Int) * (bhL ps s m).getD k 0 : Int) : Rat) / ((ps.sum * ((ordF (ps.length - 1) ps.length : Nat) : Int) : Int) : Rat) := by
  rw [due_bh l0 l1 S hm, List.getD_eq_getElem?_getD, List.getElem?_map, List.getElem?_map, List.getD_eq_getElem?_getD]
  cases (bhL ps s m)[k]? with
  | none =>
    simp only [Option.map_none, Option.getD_none, Int.mul_zero]
    rw [Rat.div_def]
    simp
  | some c => rfl
theorem due_W {ps : List Int} (l0 : 2 ≤ ps.length) (l1 : ps.length ≤ 6) (S : 0 < ps.sum) : 0 < ps.sum * ((ordF (ps.length - 1) ps.length : Nat) : Int) := by
  have o := ord_small (n := ps.length - 1) (m := ps.length) (by omega) (by omega)
  exact Int.mul_pos S (by omega)
theorem due_whole {ps : List Int} {s m : Nat} (l0 : 2 ≤ ps.length) (l1 : ps.length ≤ 6) (S : 0 < ps.sum) (hs : s < 6) (hm : m ≤ s) : plainL (wholeW (dueL ps s m)) = plainL (bhL ps s m) := by
  have c := chs_pos (a := s) (b := m) hs hm
  rw [due_bh l0 l1 S hm, wholeW_prop (due_W l0 l1 S), plainL_scale _ (by omega)]
/-- where it has no chance -/
theorem due_zero {ps : List Int} {s m : Nat} (l0 : 2 ≤ ps.length) (l1 : ps.length ≤ 6) (S : 0 < ps.sum) (hs : s < 6) (hm : m ≤ s) : (dueL ps s m).sum = 0 ↔ (bhL ps s m).sum = 0 := by
  have c := chs_pos (a := s) (b := m) hs hm
  have W := cast_ne0 (due_W l0 l1 S)
  rw [due_sum l0 l1 S hm]
  constructor
  · intro z
    have z2 : ((((chs s m : Nat) : Int) * (bhL ps s m).sum : Int) : Rat) = (((0 : Int)) : Rat) := by
      show _ = (0 : Rat)
      grind
    have z3 := Rat.intCast_inj.mp z2
    rcases Int.mul_eq_zero.mp z3 with z4 | z4
    · omega
    · exact z4
  · intro z
    rw [z, Int.mul_zero]
    show (((0 : Int)) : Rat) / _ = 0
    rw [Rat.div_def]
    simp
theorem due_rt {ps : List Int} {s m k : Nat} (l0 : 2 ≤ ps.length) (l1 : ps.length ≤ 6) (S : 0 < ps.sum) (hm : m ≤ s) (B : 0 < (bhL ps s m).sum) (g : 0 < gcdL (bhL ps s m)) : (dueL ps s m).sum * rt (plainL (bhL ps s m)) k = (dueL ps s m).getD k 0 := by
  rw [rt_plain g, due_sum l0 l1 S hm, due_get l0 l1 S hm]
  unfold rt
  have W := cast_ne0 (due_W l0 l1 S)
  have b := cast_ne0 B
  rw [Rat.intCast_mul, Rat.intCast_mul]
  grind
theorem due_at {ps : List Int} {s m k : Nat} (hk : k < ps.length - s) : (dueL ps s m).getD k 0 = (((chs s m * chs (ps.length - 1 - s) k : Nat) : Int) : Rat) * (rt ps (m + k) / (((chs (ps.length - 1) (m + k) : Nat) : Int) : Rat)) := by
  unfold dueL
  rw [List.getD_eq_getElem?_getD, List.getElem?_map, List.getElem?_range hk]
  simp only [Option.map_some, Option.getD_some]
  unfold oneR rt
  rw [Rat.intCast_mul]
  grind
end

section
variable {n : Nat} {P : Program} {w : World} {K : PySem.W.Frag} {mg : Str → Option Value} {base : Heap}
/-! ### all that may be left, by their chances -/
def ordC (n s k m : Nat) : Rat := (((chs s m * chs (n - s) k : Nat) : Int) : Rat) / (((chs n (m + k) : Nat) : Int) : Rat)
theorem ordC_fw : ∀ n < 6, ∀ s < n, ∀ k < n - s + 1, ∀ m < s + 1, ordC n s k m = fwM n (n - s) k (m + k) := by
  unfold ordC fwM
  decide +kernel
theorem fwM_low {n d k y : Nat} (h : y < k) : fwM n d k y = 0 := by
  unfold fwM
  rw [chs_big y k h, Rat.div_def]
  simp
theorem fwM_high : ∀ n < 6, ∀ s < n, ∀ k < n - s + 1, ∀ y < n + 1, s + k < y → fwM n (n - s) k y = 0 := by
  unfold fwM
  decide +kernel
theorem Sm_cut (g : Nat → Rat) (k : Nat) : ∀ M : Nat, Sm (k + M) g = Sm k g + Sm M fun m => g (m + k)
  | 0 => by
    rw [Sm_zero, Nat.add_zero]
    grind
  | M + 1 => by
    rw [← Nat.add_assoc, Sm_succ, Sm_succ, Sm_cut g k M, Nat.add_comm k M]
    grind
theorem Sm_tail (g : Nat → Rat) {M : Nat} : ∀ {N : Nat}, M ≤ N → (∀ y, M ≤ y → y < N → g y = 0) → Sm N g = Sm M g
  | 0, h, _ => by rw [show M = 0 by omega]
  | N + 1, h, z => by
    rcases Nat.lt_or_ge N M with q | q
    · rw [show M = N + 1 by omega]
    · rw [Sm_succ, Sm_tail g q fun y h1 h2 => z y h1 (by omega), z N q (by omega)]
      grind
theorem Sm_zeros {g : Nat → Rat} {k : Nat} (h : ∀ y < k, g y = 0) : Sm k g = 0 := by
  rw [Sm_congr (g := fun _ => 0) h, Sm_null]
theorem Sm_swap (F : Nat → Nat → Rat) (a : Nat) : ∀ b : Nat, Sm a (fun m => Sm b (fun k => F m k)) = Sm b fun k => Sm a fun m => F m k
  | 0 => by
    simp only [Sm_zero]
    exact Sm_null a
  | b + 1 => by
    rw [Sm_succ, ← Sm_swap F a b, ← Sm_add]
    apply Sm_congr
    intro m _
    rw [Sm_succ]
theorem due_col {ps : List Int} {b s k : Nat} (h : PR (n + 1) b ps) (hs : 1 ≤ s) (hsn : s < n) (hk : k < n - s + 1) : (Sm (s + 1) fun m => (dueL ps s m).getD k 0) = rt (plainL (fwL ps (n - s))) k := by
  have l := h.len
  have m1 := h.m1
  rw [fw_prt h (by omega) (by omega) hk, show n + 1 - 1 = n by omega]
  have r : (Sm (n + 1) fun y => rt ps y * fwM n (n - s) k y) = Sm (s + 1) fun m => rt ps (m + k) * fwM n (n - s) k (m + k) := by
    rw [Sm_tail (N := n + 1) (M := k + (s + 1)) _ (by omega) (fun y h1 h2 => by rw [fwM_high n (by omega) s hsn k hk y h2 (by omega)]; grind), Sm_cut, Sm_zeros (k := k) (fun y hy => by rw [fwM_low hy]; grind)]
    grind
  rw [r]
  apply Sm_congr
  intro m hm
  rw [due_at (by omega), l, show n + 1 - 1 = n by omega, ← ordC_fw n (by omega) s hsn k hk m hm]
  unfold ordC
  grind
theorem sum_getD : ∀ l : List Rat, l.sum = Sm l.length fun k => l.getD k 0
  | [] => rfl
  | x :: l => by
    have h := Sm_cut (fun k => (x :: l).getD k 0) 1 l.length
    rw [List.length_cons, Nat.add_comm, h, List.sum_cons, sum_getD l]
    have e1 : (Sm 1 fun k => (x :: l).getD k 0) = x := by
      rw [Sm_succ, Sm_zero]
      show 0 + x = x
      grind
    rw [e1]
    congr 1
theorem due_all {ps : List Int} {b s : Nat} (h : PR (n + 1) b ps) (hs : 1 ≤ s) (hsn : s < n) : (Sm (s + 1) fun m => (dueL ps s m).sum) = 1 := by
  have l := h.len
  have e : (Sm (s + 1) fun m => (dueL ps s m).sum) = Sm (s + 1) fun m => Sm (n - s + 1) fun k => (dueL ps s m).getD k 0 := by
    apply Sm_congr
    intro m _
    rw [sum_getD, due_len, l, show n + 1 - s = n - s + 1 by omega]
  have F := (fw_pr h (d := n - s) (by omega) (by omega)).1
  rw [e, Sm_swap, Sm_congr (g := rt (plainL (fwL ps (n - s)))) (fun k hk => due_col h hs hsn hk)]
  have one := rt_one F.s0
  rw [F.len] at one
  exact one
/-- those that have a chance -/
def keepL (ps : List Int) (s j : Nat) : List Nat := (List.range j).filter fun m => decide ((bhL ps s m).sum ≠ 0)
theorem keep_succ (ps : List Int) (s j : Nat) : keepL ps s (j + 1) = keepL ps s j ++ (if (bhL ps s j).sum ≠ 0 then [j] else []) := by
  unfold keepL
  rw [List.range_succ, List.filter_append]
  congr 1
  by_cases h : (bhL ps s j).sum ≠ 0
  · rw [if_pos h]
    simp [h]
  · rw [if_neg h]
    simp at h
    simp [h]
theorem keep_sum (ps : List Int) (s : Nat) (f : Nat → Rat) : ∀ j : Nat, (∀ m < j, (bhL ps s m).sum = 0 → f m = 0) → ((keepL ps s j).map f).sum = Sm j f
  | 0, _ => rfl
  | j + 1, z => by
    rw [keep_succ, List.map_append, sumQ_app, keep_sum ps s f j (fun m hm => z m (by omega)), Sm_succ]
    by_cases h : (bhL ps s j).sum ≠ 0
    · rw [if_pos h]
      simp only [List.map_cons, List.map_nil, List.sum_cons, List.sum_nil]
      grind
    · rw [if_neg h, z j (by omega) (by omega)]
      simp only [List.map_nil, List.sum_nil]
theorem keep_mem {ps : List Int} {s j m : Nat} (h : m ∈ keepL ps s j) : m < j ∧ (bhL ps s m).sum ≠ 0 := by
  unfold keepL at h
  rw [List.mem_filter] at h
  exact ⟨List.mem_range.mp h.1, of_decide_eq_true h.2⟩
theorem keep_len (ps : List Int) (s j : Nat) : (keepL ps s j).length ≤ j := by
  unfold keepL
  refine Nat.le_trans (List.length_filter_le _ _) ?_
  rw [List.length_range]
  exact Nat.le_refl _
def restsL (ps : List Int) (s j : Nat) : List (List Int) := (keepL ps s j).map fun m => plainL (bhL ps s m)
def chansL (ps : List Int) (s j : Nat) : List Rat := (keepL ps s j).map fun m => (dueL ps s m).sum
theorem mem_leQ : ∀ {l : List Rat} {x : Rat}, (∀ y ∈ l, 0 ≤ y) → x ∈ l → x ≤ l.sum
  | y :: l, x, nn, h => by
    rw [List.sum_cons]
    have h0 := nn y (by simp)
    have hl : 0 ≤ l.sum := by
      have : ∀ l : List Rat, (∀ y ∈ l, 0 ≤ y) → 0 ≤ l.sum := fun l => by
        induction l with
        | nil => intro _; exact Rat.le_refl
        | cons z l ih =>
          intro nn
          rw [List.sum_cons]
          have h1 := nn z (by simp)
          have h2 := ih fun y hy => nn y (by simp [hy])
          grind
      exact this l fun z hz => nn z (by simp [hz])
    rcases List.mem_cons.mp h with rfl | h
    · grind
    · have := mem_leQ (fun z hz => nn z (by simp [hz])) h
      grind
theorem due_share {ps : List Int} {b s : Nat} (h : PR (n + 1) b ps) (hb : b ≤ 110) (hs : 1 ≤ s) (hsn : s < n) : (∀ r ∈ chansL ps s (s + 1), 0 ≤ r.num ∧ r.num ≤ ((r.den : Nat) : Int) ∧ sz r 140) ∧ (chansL ps s (s + 1)).sum = 1 := by
  have l := h.len
  have m1 := h.m1
  have W := due_W (ps := ps) (by omega) (by omega) h.s0
  have one : (chansL ps s (s + 1)).sum = 1 := by
    unfold chansL
    rw [keep_sum ps s _ (s + 1) (fun m hm z => (due_zero (by omega) (by omega) h.s0 (by omega) (by omega)).mpr z), due_all h hs hsn]
  have all : ∀ r ∈ chansL ps s (s + 1), ∃ t : Int, 0 ≤ t ∧ t.natAbs < 2 ^ 140 ∧ r = ((t : Int) : Rat) / ((ps.sum * ((ordF (ps.length - 1) ps.length : Nat) : Int) : Int) : Rat) := by
    intro r hr
    obtain ⟨m, hm, rfl⟩ := List.mem_map.mp hr
    have hm := (keep_mem hm).1
    obtain ⟨f1, f2, _, _⟩ := bh_facts (y := m) h (by omega) hs (by omega)
    have c := chs_le (a := s) (b := m) (by omega) (by omega)
    refine ⟨_, Int.mul_nonneg (by omega) f1, ?_, due_sum (by omega) (by omega) h.s0 (by omega)⟩
    exact lt2_mono (wide_lt (a := 4) (b := b + 14) (by rw [Int.natAbs_natCast]; omega) f2) (by omega)
  refine ⟨fun r hr => ?_, one⟩
  have nn : ∀ y ∈ chansL ps s (s + 1), 0 ≤ y := fun y hy => by
    obtain ⟨t, t0, _, rfl⟩ := all y hy
    exact Rat.num_nonneg.mp (frac_nonneg t0 W)
  have le := mem_leQ nn hr
  rw [one] at le
  obtain ⟨t, t0, t1, rfl⟩ := all r hr
  have o := ord_small (n := ps.length - 1) (m := ps.length) (by omega) (by omega)
  refine ⟨frac_nonneg t0 W, frac_le_one ?_ W, sz_div W t1 (lt2_mono (wide_lt (a := b) (b := 7) h.s1 (by rw [Int.natAbs_natCast]; omega)) (by omega))⟩
  generalize ps.sum * ((ordF (ps.length - 1) ps.length : Nat) : Int) = X at *
  have xp : (0 : Rat) < ((X : Int) : Rat) := Rat.intCast_pos.mpr W
  have : ((t : Int) : Rat) ≤ ((X : Int) : Rat) := by
    have e : ((t : Int) : Rat) = ((t : Int) : Rat) / ((X : Int) : Rat) * ((X : Int) : Rat) := by
      have := cast_ne0 W
      grind
    have m := Rat.mul_le_mul_of_nonneg_right le (Rat.le_of_lt xp)
    rw [← e, Rat.one_mul] at m
    exact m
  exact Rat.intCast_le_intCast.mp this
theorem due_mix {ps : List Int} {b s : Nat} (h : PR (n + 1) b ps) (hb : b ≤ 110) (hs : 1 ≤ s) (hsn : s < n) : MixOk ((restsL ps s (s + 1)).zip (chansL ps s (s + 1))) (124 + 140) (n - s + 1) := by
  have l := h.len
  have m1 := h.m1
  obtain ⟨S, one⟩ := due_share h hb hs hsn
  have len : (restsL ps s (s + 1)).length = (chansL ps s (s + 1)).length := by simp [restsL, chansL]
  have le := keep_len ps s (s + 1)
  have lk : (restsL ps s (s + 1)).length = (keepL ps s (s + 1)).length := by simp [restsL]
  refine mk_mix (a := 124) (b := 140) len ?_ (by omega) (fun q hq => ?_) S one (by decide) (by decide)
  · rcases Nat.eq_zero_or_pos (chansL ps s (s + 1)).length with z | z
    · rw [List.eq_nil_of_length_eq_zero z] at one
      exact absurd one (by decide)
    · omega
  · obtain ⟨m, hm, rfl⟩ := List.mem_map.mp hq
    obtain ⟨hm1, hm2⟩ := keep_mem hm
    obtain ⟨f1, f2, f3, f4⟩ := bh_facts (y := m) h (by omega) hs (by omega)
    have := (f4 (by omega)).2.1
    rw [show n + 1 - s = n - s + 1 by omega] at this
    exact this.mono (by omega)
/-- mixed by their chances they are the row of fewer draws -/
theorem due_fewer {ps : List Int} {b s : Nat} (h : PR (n + 1) b ps) (hb : b ≤ 110) (hs : 1 ≤ s) (hsn : s < n) : plainL (blendL (n - s + 1) ((restsL ps s (s + 1)).zip (chansL ps s (s + 1)))) = plainL (fwL ps (n - s)) := by
  have l := h.len
  have m1 := h.m1
  have M := due_mix h hb hs hsn
  have le := keep_len ps s (s + 1)
  have lz : ((restsL ps s (s + 1)).zip (chansL ps s (s + 1))).length ≤ 5 := by
    have : ((restsL ps s (s + 1)).zip (chansL ps s (s + 1))).length = (keepL ps s (s + 1)).length := by simp [restsL, chansL]
    omega
  refine PR.eq (mix_pr M (n := 1321) (by omega)) (fw_pr h (by omega) (by omega)).1 fun k hk => ?_
  rw [mix_prt M hk, ← due_col h hs hsn hk]
  unfold mx restsL chansL
  rw [List.zip_map', List.map_map, keep_sum]
  · apply Sm_congr
    intro m hm
    show (dueL ps s m).sum * rt (plainL (bhL ps s m)) k = _
    by_cases z : (bhL ps s m).sum = 0
    · rw [(due_zero (by omega) (by omega) h.s0 (by omega) (by omega)).mpr z, due_get (by omega) (by omega) h.s0 (by omega)]
      have f3 := (bh_facts (y := m) h (by omega) hs (by omega)).2.2.1 z
      have e : (bhL ps s m).getD k 0 = 0 := by
        rw [List.getD_eq_getElem?_getD]
        cases hq : (bhL ps s m)[k]? with
        | none => rfl
        | some c => exact f3 c (List.mem_of_getElem? hq)
      rw [e, Int.mul_zero]
      show 0 * _ = (((0 : Int)) : Rat) / _
      rw [Rat.div_def]
      simp
    · obtain ⟨f1, f2, f3, f4⟩ := bh_facts (y := m) h (by omega) hs (by omega)
      have f1' : 0 < (bhL ps s m).sum := by omega
      exact due_rt (by omega) (by omega) h.s0 (by omega) f1' (f4 f1').2.2
  · intro m hm z
    show (dueL ps s m).sum * rt (plainL (bhL ps s m)) k = 0
    rw [(due_zero (by omega) (by omega) h.s0 (by omega) (by omega)).mpr z]
    grind
/-- behind one, then behind others -/
theorem bh_bh {ps : List Int} {s m : Nat} (l0 : 3 ≤ ps.length) (l1 : ps.length ≤ 6) (hs : 2 ≤ s) (hsn : s + 1 < ps.length) (hm : 1 ≤ m) (hms : m ≤ s) : bhL (bhL ps 1 1) (s - 1) (m - 1) = (bhL ps s m).map (((ordF (ps.length - 2) (ps.length - 1) : Nat) : Int) * ·) := by
  have lb : (bhL ps 1 1).length = ps.length - 1 := bh_len ps 1 1
  apply List.ext_getElem?
  intro k
  by_cases hk : k < ps.length - s
  · have g1 := bh_get (ps := bhL ps 1 1) (s := s - 1) (y := m - 1) (k := k) (by omega)
    have g2 := bh_get (ps := ps) (s := s) (y := m) (k := k) hk
    have g3 := bh_get (ps := ps) (s := 1) (y := 1) (k := m - 1 + k) (by omega)
    have e1 : (bhL (bhL ps 1 1) (s - 1) (m - 1))[k]? = some ((bhL (bhL ps 1 1) (s - 1) (m - 1)).getD k 0) := by
      rw [List.getD_eq_getElem?_getD, List.getElem?_eq_getElem (by rw [bh_len]; omega)]
      rfl
    have e2 : (bhL ps s m)[k]? = some ((bhL ps s m).getD k 0) := by
      rw [List.getD_eq_getElem?_getD, List.getElem?_eq_getElem (by rw [bh_len]; omega)]
      rfl
    rw [e1, List.getElem?_map, e2, g1, g3, g2, lb]
    rw [show 1 + (m - 1 + k) = m + k by omega, show ps.length - 1 - 1 = ps.length - 2 by omega, show ps.length - 2 - (s - 1) = ps.length - 1 - s by omega]
    obtain ⟨_, _, cu, _, _⟩ := ord_mulL (l := ps.length - 1) (y := m - 1 + k) (by omega) (by omega) (by omega)
    rw [show ps.length - 1 - 1 = ps.length - 2 by omega] at cu
    simp only [Option.map_some, Option.some.injEq]
    have cu2 : ((ordF (ps.length - 2) (ps.length - 1) : Nat) : Int) = ((chs (ps.length - 2) (m - 1 + k) : Nat) : Int) * ((ordF (ps.length - 2) (ps.length - 1) / chs (ps.length - 2) (m - 1 + k) : Nat) : Int) := by
      rw [← Int.natCast_mul, cu]
    rw [cu2]
    generalize ((ordF (ps.length - 2) (ps.length - 1) / chs (ps.length - 2) (m - 1 + k) : Nat) : Int) = u
    generalize ((chs (ps.length - 2) (m - 1 + k) : Nat) : Int) = v
    generalize ((chs (ps.length - 1 - s) k : Nat) : Int) = w
    generalize ((ordF (ps.length - 1) ps.length / chs (ps.length - 1) (m + k) : Nat) : Int) = x
    grind
  · rw [List.getElem?_eq_none (by rw [bh_len]; omega), List.getElem?_eq_none (by rw [List.length_map, bh_len]; omega)]
end

section
variable {P : Program} {w : World} {K : PySem.W.Frag} {mg : Str → Option Value} {base : Heap}
/-! ### small facts for k15's right -/
theorem eqv_fr (r q : Rat) : PyData.eqv (frD r) (frD q) = decide (r = q) := by
  have e : PyData.eqv (frD r) (frD q) = ((r.num == q.num) && ((((r.den : Nat) : Int) == ((q.den : Nat) : Int)) && true)) := by
    simp [frD, PyData.eqv, PyData.eqvAll]
  rw [e]
  by_cases h : r = q
  · subst h
    simp
  · have hne : ¬ (r.num = q.num ∧ r.den = q.den) := fun ⟨a, b⟩ => h (Rat.ext a b)
    rw [decide_eq_false h]
    by_cases a : r.num = q.num
    · have b : ¬ r.den = q.den := fun b => hne ⟨a, b⟩
      have b2 : ¬ ((r.den : Nat) : Int) = ((q.den : Nat) : Int) := by omega
      have b3 : ((((r.den : Nat) : Int)) == (((q.den : Nat) : Int))) = false := by rw [beq_eq_false_iff_ne]; exact b2
      rw [b3]
      simp
    · simp [a]
theorem kp_set {H : Hp} {p : Addr} {xs ys : List V} (h : H p = some (.lst xs)) : Kp H (L2.upd H p (.lst ys)) := ((Bt.refl H).upd).kp h
theorem FrsAt.snoc {H : Hp} {xs : List V} {rs : List Rat} {x : V} {r : Rat} (h : FrsAt K H xs rs) (hx : IsFr K H x r) : FrsAt K H (xs ++ [x]) (rs ++ [r]) := by
  refine ⟨by simp [h.1], fun i y hy => ?_⟩
  by_cases hi : i < xs.length
  · rw [List.getElem?_append_left hi] at hy
    obtain ⟨q, h1, h2⟩ := h.2 i y hy
    exact ⟨q, by rw [List.getElem?_append_left (by rw [← h.1]; exact hi)]; exact h1, h2⟩
  · rw [List.getElem?_append_right (by omega)] at hy
    have e : i - xs.length = 0 := by
      have := (List.getElem?_eq_some_iff.mp hy).1
      simp at this
      omega
    rw [e] at hy
    cases hy
    exact ⟨r, by rw [List.getElem?_append_right (by rw [← h.1]; omega), ← h.1, e]; rfl, hx⟩
theorem RowsAt.snoc {C : Addr} {H : Hp} {xs : List V} {rs : List (List Int)} {x : V} {r : List Int} (h : RowsAt K C H xs rs) (hx : IsRow K C H x r) : RowsAt K C H (xs ++ [x]) (rs ++ [r]) := by
  refine ⟨by simp [h.1], fun i y hy => ?_⟩
  by_cases hi : i < xs.length
  · rw [List.getElem?_append_left hi] at hy
    obtain ⟨q, h1, h2⟩ := h.2 i y hy
    exact ⟨q, by rw [List.getElem?_append_left (by rw [← h.1]; exact hi)]; exact h1, h2⟩
  · rw [List.getElem?_append_right (by omega)] at hy
    have e : i - xs.length = 0 := by
      have := (List.getElem?_eq_some_iff.mp hy).1
      simp at this
      omega
    rw [e] at hy
    cases hy
    exact ⟨r, by rw [List.getElem?_append_right (by rw [← h.1]; omega), ← h.1, e]; rfl, hx⟩
theorem chans_succ {ps : List Int} {s j : Nat} (h : (bhL ps s j).sum ≠ 0) : chansL ps s (j + 1) = chansL ps s j ++ [(dueL ps s j).sum] ∧ restsL ps s (j + 1) = restsL ps s j ++ [plainL (bhL ps s j)] := by
  unfold chansL restsL
  rw [keep_succ, if_pos h, List.map_append, List.map_append]
  exact ⟨rfl, rfl⟩
theorem chans_same {ps : List Int} {s j : Nat} (h : (bhL ps s j).sum = 0) : chansL ps s (j + 1) = chansL ps s j ∧ restsL ps s (j + 1) = restsL ps s j := by
  unfold chansL restsL
  rw [keep_succ, if_neg (by omega), List.append_nil]
  exact ⟨rfl, rfl⟩
theorem ord_le : ∀ n < 6, ∀ s < n + 1, ∀ m < s + 1, ∀ k < n - s + 1, chs s m * chs (n - s) k ≤ 32 := by decide +kernel
theorem due_sz {cs : List Int} (h : CountsOk cs) {s m : Nat} (hs : s < cs.length) (hm : m ≤ s) : ∀ r ∈ dueL cs s m, sz r 110 := by
  obtain ⟨l0, l1, _, _⟩ := id h
  intro r hr
  obtain ⟨k, hk, rfl⟩ := List.mem_map.mp hr
  have hk := List.mem_range.mp hk
  exact (one_sz h (y := m + k) (by omega) (ord_le (cs.length - 1) (by omega) s (by omega) m (by omega) k (by omega))).2.2
theorem sumQ_ne : ∀ {l : List Rat}, l.sum ≠ 0 → ∃ r ∈ l, r ≠ 0
  | [], h => absurd rfl h
  | x :: l, h => by
    by_cases z : x = 0
    · subst z
      rw [List.sum_cons] at h
      have h2 : l.sum ≠ 0 := fun q => h (by rw [q]; grind)
      obtain ⟨r, h3, h4⟩ := sumQ_ne h2
      exact ⟨r, by simp [h3], h4⟩
    · exact ⟨x, by simp, z⟩
theorem KpN.set {H H1 : Hp} {p : Addr} {xs ys : List V} (e : KpN H H1) (h : H1 p = some (.lst xs)) : KpN H (L2.upd H1 p (.lst ys)) := e.trans (kp_set h).n
theorem fr_zero : fr 0 = [V.int 0, V.int 1] := by
  have := fr_int 0
  rwa [show (((0 : Int)) : Rat) = 0 from rfl] at this
theorem bh_two {ps : List Int} {n b s m : Nat} (h : PR (n + 1) b ps) (hb : b ≤ 500) (hs : 2 ≤ s) (hsn : s < n) (hm : 1 ≤ m) (hms : m ≤ s) (p1 : 0 < (bhL ps 1 1).sum) (p2 : 0 < (bhL ps s m).sum) :
    RowOk (bhL (plainL (bhL ps 1 1)) (s - 1) (m - 1)) ∧ plainL (bhL (plainL (bhL ps 1 1)) (s - 1) (m - 1)) = plainL (bhL ps s m) := by
  have l := h.len
  have m1 := h.m1
  obtain ⟨_, _, _, q1⟩ := bh_facts (y := 1) h (by omega) (Nat.le_refl 1) (by omega)
  obtain ⟨_, P1, g1⟩ := q1 p1
  have o := ord_small (n := ps.length - 2) (m := ps.length - 1) (by omega) (by omega)
  have e := (bh_plain g1 (s - 1) (m - 1)).trans (bh_bh (ps := ps) (by omega) (by omega) hs (by omega) hm hms)
  have gI : (0 : Int) < ((gcdL (bhL ps 1 1) : Nat) : Int) := by omega
  have oI : (0 : Int) < ((ordF (ps.length - 2) (ps.length - 1) : Nat) : Int) := by omega
  obtain ⟨f1, _, _, f4⟩ := bh_facts (s := s - 1) (y := m - 1) P1 (by omega) (by omega) (by omega)
  have es := congrArg List.sum e
  rw [sum_scale, sum_scale] at es
  have pos : 0 < (bhL (plainL (bhL ps 1 1)) (s - 1) (m - 1)).sum := by
    rcases Int.lt_or_eq_of_le f1 with z | z
    · exact z
    · rw [← z, Int.mul_zero] at es
      have := Int.mul_pos oI p2
      omega
  refine ⟨(f4 pos).1, ?_⟩
  rw [← plainL_scale (bhL (plainL (bhL ps 1 1)) (s - 1) (m - 1)) gI, e, plainL_scale _ oI]
end

section
variable {P : Program} {w : World} {K : PySem.W.Frag} {mg : Str → Option Value} {base : Heap}
/-! ### _law_right -/
def lamQ : Str := "_law_right.<locals>.<lambda>"
def spRightN (K : PySem.W.Frag) (Pt : Addr) : Sp := fun vs H Q _ => ∃ v, vs = [.ref v] ∧ VatAt H v ∧ Tb Pt lamQ H ∧ ∀ H', Gn v H H' → Tb Pt lamQ H' → Q (.bl true) H'
theorem scRight : FnScope ["vat", "again", "some", "mine", "size", "seen", "chances", "rests", "marked", "due", "told", "named"] ["vat"] (defScope (top 53)) := ⟨rfl, rfl, rfl, by decide +kernel, rfl, by decide +kernel, by decide +kernel⟩
theorem has_right {C CN c Pt : Addr} {NT : List Str} (B : Bi mg) (RT : RowT P w K mg base C) (TT : Trier K mg "_law_told" "act" "NoChance" CN NT (top 52)) (TB : LamX.TabB base mg c Pt) (eNC : ExcA K CN)
    (h_law_dip : Has P w K mg base "_law_dip" 1 ["vat", "many"] spDip) (h_law_counts : Has P w K mg base "_law_counts" 2 ["vat", "way"] (spCounts K))
    (h_law_due : Has P w K mg base "_law_due" 4 ["some", "seen", "marked"] (spDue K)) (h_law_sum : Has P w K mg base "_law_sum" 3 ["parts_here"] (spSum K)) (h_law_whole : Has P w K mg base "_law_whole" 3 ["parts_here"] (spWholeL K))
    (hbehind : HasX P w K mg base "behind" 5 ["row", "draws", "yes"] (spBehindX K C CN)) (hbehind_w : HasXW P w K mg base "behind" 5 ["row", "draws", "yes"] (spBehindX K C CN) ["yes", "draws", "row"] [2, 1, 0])
    (hmixed : Has P w K mg base "mixed" 6 ["rows", "shares"] (spMixed K C)) (hfewer : Has P w K mg base "fewer" 6 ["row", "draws"] (spFewer K C))
    (D : DfC K mg "_law_right" (top 53) ["vat"] c) : HasG P w K mg base "_law_right" 10 ["vat"] (spRightN K Pt) := by
  have sc := scRight
  refine .ofC D fun f fd F => okGc F sc (fun vs H Q E h => ?_) (fun A outer s H vs Q E hgd hr h => ?_)
  · obtain ⟨v, rfl, _⟩ := h
    rfl
  · obtain ⟨v, rfl, hv, ht, k⟩ := h
    refine ⟨_, (pss_cons (ps_for PassesOwn.never rfl (pi_range1 (by rfl) B.range (pa_cons pe_int pa_nil)) (pg_name (i := 1) sc.nd rfl (by first | exact Or.inl rfl | exact Or.inr rfl))
      (pss_cons (ps_set (i := 2) sc.nd rfl (by first | exact Or.inl rfl | exact Or.inr rfl) (pe_has h_law_counts (hr.mono (by decide)) (pa_cons (pv 0) (pa_cons (pe_has h_law_dip (hr.mono (by decide)) (pa_cons (pv 0) (pa_cons pe_int pa_nil))) pa_nil))))
      (pss_cons (ps_asg (pe_tupN (pa_cons (kRow RT (hr.mono (by decide)) (pa_cons (pv 2) pa_nil)) (pa_cons (pe_op op_sub (pe_callB (kLen (K := K)) (by rfl) B.len (by decide +kernel) (pa_cons (pv 2) pa_nil)) pe_int) pa_nil))) (pg_tup rfl (pgs_cons (pg_name (i := 3) sc.nd rfl (by first | exact Or.inl rfl | exact Or.inr rfl)) (pgs_cons (pg_name (i := 4) sc.nd rfl (by first | exact Or.inl rfl | exact Or.inr rfl)) pgs_nil))))
      (pss_one (ps_for PassesOwn.never rfl (pi_range2 (by rfl) B.range (pa_cons pe_int (pa_cons (pv 4) pa_nil))) (pg_name (i := 5) sc.nd rfl (by first | exact Or.inl rfl | exact Or.inr rfl))
      (pss_cons (ps_par (i := 6) (j := 7) (by rfl) sc.nd rfl rfl (by decide) rfl rfl (pa_cons (pe_lstN pa_nil) (pa_cons (pe_lstN pa_nil) pa_nil)) (by rfl))
      (pss_cons (ps_for PassesOwn.never rfl (pi_range1 (by rfl) B.range (pa_cons (pe_op op_add (pv 5) pe_int) pa_nil)) (pg_name (i := 8) sc.nd rfl (by first | exact Or.inl rfl | exact Or.inr rfl))
      (pss_cons (ps_set (i := 9) sc.nd rfl (by first | exact Or.inl rfl | exact Or.inr rfl) (pe_has h_law_due (hr.mono (by decide)) (pa_cons (pv 2) (pa_cons (pv 5) (pa_cons (pv 8) pa_nil)))))
      (pss_cons (ps_set (i := 10) sc.nd rfl (by first | exact Or.inl rfl | exact Or.inr rfl) (pe_told (k := 7) TT TB rfl (hr.mono (by decide)) (fun A2 outer2 s2 H2 E2 f2 c2 hr2 => pe_hasX (E := E2) hbehind takes_lam (hr2.mono (by decide)) (pa_cons (pv 3) (pa_cons (pv 5) (pa_cons (pv 8) pa_nil))))))
      (pss_cons (ps_set (i := 11) sc.nd rfl (by first | exact Or.inl rfl | exact Or.inr rfl) (pe_told (k := 7) TT TB rfl (hr.mono (by decide)) (fun A2 outer2 s2 H2 E2 f2 c2 hr2 => pe_hasXW (E := E2) hbehind_w takes_lam (hr2.mono (by decide)) (pk_cons (pv 8) (pk_cons (pv 5) (pk_cons (pv 3) pk_nil))))))
      (pss_cons (ps_if (PW.pt (pw_or (pt_cmpR (op_neB (K := K) hr.units) (pe_cmpR op_isN (pv 10) pe_non (nomark _)) (pe_cmpR (op_eqB (K := K) hr.units) (pe_has h_law_sum (hr.mono (by decide)) (pa_cons (pv 9) pa_nil)) (pe_tupN (pa_cons pe_int (pa_cons pe_int pa_nil))) (nomark _)) (nomark _)) (pw_or1 (pt_cmpR (OpR.either (kNeRow RT (hr.mono (by decide))) (op_neB (K := K) hr.units)) (pv 10) (pv 11) (nomark _))))) (pss_one (ps_ret pe_bl)) pss_nil)
      (pss_one (ps_if (pt_cmpR op_notN (pv 10) pe_non (nomark _)) (pss_cons (ps_if (pt_cmpR op_ne (pe_callB (kRepr (K := K) hgd hr.units) (by rfl) B.repr (by decide +kernel) (pa_cons (kCounts RT (hr.mono (by decide)) (pv 10)) pa_nil)) (pe_callB (kRepr (K := K) hgd hr.units) (by rfl) B.repr (by decide +kernel) (pa_cons (pe_has h_law_whole (hr.mono (by decide)) (pa_cons (pv 9) pa_nil)) pa_nil)) (nomark _)) (pss_one (ps_ret pe_bl)) pss_nil)
      (pss_cons (ps_expr (pe_bm PySem.F.plainAttrs_list PySem.F.slot_list_append PySem.F.type_list_append mt_append (pv 6) (pa_cons (pe_has h_law_sum (hr.mono (by decide)) (pa_cons (pv 9) pa_nil)) pa_nil)))
      (pss_cons (ps_expr (pe_bm PySem.F.plainAttrs_list PySem.F.slot_list_append PySem.F.type_list_append mt_append (pv 7) (pa_cons (pv 10) pa_nil)))
      (pss_one (ps_if (PW.pt (pw_and (pt_cmpR op_gt (pv 5) pe_int (nomark _)) (pw_and (pt_cmpR op_gt (pv 8) pe_int (nomark _)) (pw_and1 (pt_cmpR (op_neB (K := K) hr.units) (pe_has h_law_sum (hr.mono (by decide)) (pa_cons (pe_has h_law_due (hr.mono (by decide)) (pa_cons (pv 2) (pa_cons pe_int (pa_cons pe_int pa_nil)))) pa_nil)) (pe_tupN (pa_cons pe_int (pa_cons pe_int pa_nil))) (nomark _)))))) (pss_one (ps_if (pt_cmpR (kNeRow RT (hr.mono (by decide))) (pe_hasX (E := fun _ _ _ => False) hbehind LamX.takes0 (hr.mono (by decide)) (pa_cons (pe_hasX (E := fun _ _ _ => False) hbehind LamX.takes0 (hr.mono (by decide)) (pa_cons (pv 3) (pa_cons pe_int (pa_cons pe_int pa_nil)))) (pa_cons (pe_op op_sub (pv 5) pe_int) (pa_cons (pe_op op_sub (pv 8) pe_int) pa_nil)))) (pv 10) (nomark _)) (pss_one (ps_ret pe_bl)) pss_nil)) pss_nil))))) pss_nil)))))))
      (pss_one (ps_if (pt_cmpR (kNeRow RT (hr.mono (by decide))) (pe_has hmixed (hr.mono (by decide)) (pa_cons (pe_callTy (kTuple (K := K)) (by rfl) B.tuple (by decide +kernel) (pa_cons (pv 7) pa_nil)) (pa_cons (pe_callTy (kTuple (K := K)) (by rfl) B.tuple (by decide +kernel) (pa_cons (pv 6) pa_nil)) pa_nil))) (pe_has hfewer (hr.mono (by decide)) (pa_cons (pv 3) (pa_cons (pe_op op_sub (pv 4) (pv 5)) pa_nil))) (nomark _)) (pss_one (ps_ret pe_bl)) pss_nil)))))))))
      (pss_one (ps_ret pe_bl))), ?_⟩
    walk_at "rd"
    refine ⟨by decide, by decide, ?_⟩
    obtain ⟨Pv, hP⟩ : ∃ P : Nat → L2.St → Hp → Prop, P = fun _ σ' G => ∃ s1 s2 s3 s4 s5 s6 s7 s8 s9 s10 s11 : Option V, σ' = [some (.ref v), s1, s2, s3, s4, s5, s6, s7, s8, s9, s10, s11] ∧ Gn v H G ∧ Tb Pt lamQ G := ⟨_, rfl⟩
    refine loopR Pv (by rw [hP]; exact ⟨_, _, _, _, _, _, _, _, _, _, _, rfl, .refl hv, ht⟩) ?_ ?_
    · intro j σ' G hj h
      rw [hP] at h
      obtain ⟨s1, s2, s3, s4, s5, s6, s7, s8, s9, s10, s11, rfl, gG, tG⟩ := h
      walk_at "rd"
      refine ⟨v, 2, rfl, gG.new, by decide, by decide, fun d0 G1 g1 d00 d01 => ?_⟩
      refine ⟨v, d0, rfl, g1.new, fun q G2 cs g2 hq ok => ?_⟩
      obtain ⟨l0, l1, hb, hsum⟩ := id ok
      have nn : ∀ c ∈ cs, 0 ≤ c := fun c hc => (hb c hc).1
      have sl := sum_le (b := 10 ^ 30) (cs := cs) fun c hc => (hb c hc).2
      have sl2 : cs.sum ≤ 6 * 10 ^ 30 := by
        have := Int.mul_le_mul_of_nonneg_right (show (cs.length : Int) ≤ 6 by omega) (show (0 : Int) ≤ 10 ^ 30 by decide)
        omega
      have b103 : (6 : Int) * 10 ^ 30 < 2 ^ 103 := by decide
      have s103 : cs.sum.natAbs < 2 ^ 103 := by omega
      obtain ⟨n, hn⟩ : ∃ n : Nat, cs.length = n + 1 := ⟨cs.length - 1, by omega⟩
      obtain ⟨c0, hc0, cp0⟩ := sum_pos_ex nn hsum
      have gcs : 0 < gcdL cs := gcdL_pos ⟨c0, hc0, by omega⟩
      have PP : PR (n + 1) 103 (plainL cs) := PR.of hn (by omega) (by omega) nn hsum s103
      obtain ⟨ps, hps⟩ : ∃ l, l = plainL cs := ⟨_, rfl⟩
      rw [← hps] at PP
      have dp : ∀ s m, dueL cs s m = dueL ps s m := fun s m => by rw [hps, due_plain gcs]
      have lps := PP.len
      refine ⟨cs, hq, ok_of (by omega) (by omega) nn hsum s103 (by decide), fun mine G3 e3 m3 => ?_⟩
      rw [← hps] at m3
      obtain ⟨qa, rfl, hqS⟩ := hq
      have q3 := sqT_kp hqS e3.kp
      refine ⟨qa, rfl, _, .inr q3, by decide, fun T4 G4 n4 e4 t4 => ⟨T4, rfl, _, .of t4, rfl, ?_⟩⟩
      walk_at "rd"
      rw [List.length_map, hn]
      have en : (((n + 1 : Nat) : Int)) - 1 = (n : Int) := by omega
      rw [en]
      have gG4 : Gn v H G4 := (gG.trans ((g1.trans g2).ex (e3.trans e4)).n)
      have tG4 : Tb Pt lamQ G4 := ((tG.kp (g1.trans g2).kp).ex e3).ex e4
      have m4 := m3.kp e4.kp
      have q4 := sqT_kp q3 e4.kp
      refine ⟨by decide, by decide, by omega, by omega, ?_⟩
      obtain ⟨P2, hP2⟩ : ∃ P : Nat → L2.St → Hp → Prop, P = fun _ σ' G => ∃ s5 s6 s7 s8 s9 s10 s11 : Option V, σ' = [some (.ref v), some (.int (j : Int)), some (.ref qa), some mine, some (.int (n : Int)), s5, s6, s7, s8, s9, s10, s11] ∧ Gn v G4 G ∧ Tb Pt lamQ G := ⟨_, rfl⟩
      refine loopR P2 (by rw [hP2]; exact ⟨_, _, _, _, _, _, _, rfl, .refl gG4.new, tG4⟩) ?_ ?_
      · intro i σ2 G h2i h
        rw [hP2] at h
        obtain ⟨s5, s6, s7, s8, s9, s10, s11, rfl, g5, t5⟩ := h
        obtain ⟨s, hs⟩ : ∃ s : Nat, (1 : Int) + (i : Int) = (s : Int) := ⟨1 + i, by omega⟩
        rw [hs]
        have s1' : 1 ≤ s := by omega
        have sn : s < n := by omega
        walk_at "rd"
        refine ⟨by decide, fun Lc G5 nc ec tc => ?_⟩
        refine ⟨by decide, fun Lr G6 nr er tr => ?_⟩
        walk_at "rd"
        have vc : Lc ≠ v := fun z => by
          rw [z] at nc
          obtain ⟨a, b, d, e, _⟩ := g5.new
          rw [nc] at e
          cases e
        have vr : Lr ≠ v := fun z => by
          rw [z] at nr
          obtain ⟨a, b, d, e, _⟩ := g5.new
          rw [ec _ _ e] at nr
          cases nr
        have cr : Lc ≠ Lr := fun z => by
          rw [← z, tc] at nr
          cases nr
        have gG6 : Gn v G4 G6 := (g5.en (ec.trans er).n)
        have t6 : Tb Pt lamQ G6 := (t5.ex ec).ex er
        have ncG : G Lr = none := by
          cases hq : G Lr with
          | none => rfl
          | some o => rw [ec _ _ hq] at nr; cases nr
        refine ⟨by omega, by omega, ?_⟩
        obtain ⟨P3, hP3⟩ : ∃ P : Nat → L2.St → Hp → Prop, P = fun m σ' G' => ∃ s8 s9 s10 s11 : Option V, σ' = [some (.ref v), some (.int (j : Int)), some (.ref qa), some mine, some (.int (n : Int)), some (.int (s : Int)), some (.ref Lc), some (.ref Lr), s8, s9, s10, s11] ∧ Gn v G G' ∧ KpN G4 G' ∧ Tb Pt lamQ G' ∧
          ∃ us rs, G' Lc = some (.lst us) ∧ G' Lr = some (.lst rs) ∧ FrsAt K G' us (chansL ps s m) ∧ RowsAt K C G' rs (restsL ps s m) := ⟨_, rfl⟩
        refine loopR P3 (by
          rw [hP3]
          exact ⟨_, _, _, _, rfl, (Gn.refl g5.new).en (ec.trans er).n, gG6.kn, t6, [], [], er _ _ tc, tr, ⟨rfl, fun i x hx => by simp at hx⟩, ⟨rfl, fun i x hx => by simp at hx⟩⟩) ?_ ?_
        · intro m σ3 G' hm h
          rw [hP3] at h
          obtain ⟨s8, s9, s10, s11, rfl, g7, k7, t7, us, rs, hU, hR, fU, fR⟩ := h
          have hm : m ≤ s := by omega
          have same : ∀ ps : List Int, PyData.eqv (intsD ps) (intsD ps) = true := fun ps => SeqAt.eqv_refl _ (SeqAt.canLay_of_shaped (shaped_ints _))
          have q7 := sqT_kn q4 k7
          have m7 := m4.kn k7
          obtain ⟨f1, f2, f3, f4⟩ := bh_facts (y := m) PP (by decide) s1' (by omega)
          have szd : ∀ r ∈ dueL ps s m, sz r 110 := by rw [← dp]; exact due_sz ok (by omega) hm
          have ldue : (dueL ps s m).length ≤ 6 := by rw [due_len]; omega
          have dz := due_zero (ps := ps) (s := s) (m := m) (by omega) (by omega) PP.s0 (by omega) hm
          have rk : RowOk (bhL ps s m) ∨ ∀ c ∈ bhL ps s m, c = 0 := by
            rcases Int.lt_or_eq_of_le f1 with p | p
            · exact .inl (f4 p).1
            · exact .inr (f3 p.symm)
          have rk2 : RowOk (bhL ps s m) → ¬ ∀ c ∈ bhL ps s m, c = 0 := by
            intro r0 z0
            have g := r0.2.2.2.1
            have : gcdL (bhL ps s m) = 0 := by
              have h := dvd_gcdL (cs := bhL ps s m) (d := 0) fun c hc => by rw [z0 c hc]; exact Int.dvd_refl _
              exact Nat.eq_zero_of_zero_dvd h
            omega
          walk_at "rd"
          refine ⟨qa, cs, s, m, rfl, q7, ok, by omega, hm, fun Ld G8 ds nd ed hd8 hF => ?_⟩
          rw [dp] at hF
          refine ⟨t7.ex ed, fun G9 e9 t9 => ?_⟩
          have e9 : ExN G8 G9 := e9
          unfold TTnone tFX
          walk_at "rd"
          have m9 := (m7.kp ed.kp).kn e9.kn
          by_cases hz : (bhL ps s m).sum = 0
          · -- no chance
            have all0 := f3 hz
            refine ⟨mine, ps, s, m, rfl, m9, PP.inn (by decide), s1', by omega, hm, .inr all0, fun r0 => absurd all0 (rk2 r0), fun _ G10 e10 => ⟨eNC.own, ?_⟩⟩
            have t9 : Tb Pt lamQ G9 := t9
            refine ⟨t9.ex e10, fun G11 e11 t11 => ?_⟩
            have e11 : ExN G10 G11 := e11
            have t11 : Tb Pt lamQ G11 := t11
            unfold tWX
            walk_at "rd"
            have m11 := (m9.kp e10.kp).kn e11.kn
            refine ⟨mine, ps, s, m, rfl, m11, PP.inn (by decide), s1', by omega, hm, .inr all0, fun r0 => absurd all0 (rk2 r0), fun _ G12 e12 => ⟨eNC.own, ?_⟩⟩
            have e812 : ExN G8 G12 := (e9.trans e10.n).trans (e11.trans e12.n)
            refine ⟨.ref Ld, dueL ps s m, 110, rfl, ⟨Ld, ds, rfl, .inr (.of (e812.lst hd8)), hF.kn e812.kn⟩, szd, by omega, fun y13 G13 e13 h13 => ?_⟩
            rw [sumR_eq, dz.mpr hz] at h13
            refine ⟨by decide, fun T14 G14 n14 e14 t14 => ?_⟩
            have f14 : IsFr K G14 (.ref T14) 0 := ⟨T14, rfl, by rw [fr_zero]; exact .of t14⟩
            refine ⟨_, _, (h13.kp e14.kp).dp, f14.dp, shaped_ints [(0 : Rat).num, (((0 : Rat).den : Nat) : Int)], shaped_ints [(0 : Rat).num, (((0 : Rat).den : Nat) : Int)], ?_⟩
            rw [eqv_fr]
            refine ⟨.bool _, .bool _, .bl _, .bl _, rfl, rfl, false, by simp [PyData.eqv], ?_⟩
            walk_at "rd"
            refine .inr ⟨_, _, .non, .non, rfl, rfl, false, by simp [PyData.eqv], ?_⟩
            walk_at "rd"
            have e714 : ExN G' G14 := (ed.n.trans e812).trans (e13.trans e14).n
            obtain ⟨c1, c2⟩ := chans_same (ps := ps) (s := s) (j := m) hz
            rw [hP3]
            refine ⟨_, _, _, _, rfl, g7.en e714, k7.trans e714.kn, (t11.ex e12).ex (e13.trans e14), us, rs, e714.lst hU, e714.lst hR, ?_, ?_⟩
            · rw [c1]
              exact fU.kn e714.kn
            · rw [c2]
              exact fR.kn e714.kn
          · have hpos : 0 < (bhL ps s m).sum := by omega
            obtain ⟨ro, PB, gB⟩ := f4 hpos
            have dne : (dueL ps s m).sum ≠ 0 := fun z => hz (dz.mp z)
            refine ⟨mine, ps, s, m, rfl, m9, PP.inn (by decide), s1', by omega, hm, .inl ro, fun _ z1 G10 e10 h10 => ?_, fun z0 => absurd z0 (rk2 ro)⟩
            have t9 : Tb Pt lamQ G9 := t9
            refine ⟨t9.ex e10, fun G11 e11 t11 => ?_⟩
            have e11 : ExN G10 G11 := e11
            have t11 : Tb Pt lamQ G11 := t11
            unfold tWX
            walk_at "rd"
            have m11 := (m9.kp e10.kp).kn e11.kn
            refine ⟨mine, ps, s, m, rfl, m11, PP.inn (by decide), s1', by omega, hm, .inl ro, fun _ z2 G12 e12 h12 => ?_, fun z0 => absurd z0 (rk2 ro)⟩
            have h10' := (h10.kn e11.kn).kp e12.kp
            have e812 : ExN G8 G12 := (e9.trans e10.n).trans (e11.trans e12.n)
            obtain ⟨a1, dx1, q1, rfl, hin1, hq1⟩ := id h10'
            refine ⟨.ref Ld, dueL ps s m, 110, rfl, ⟨Ld, ds, rfl, .inr (.of (e812.lst hd8)), hF.kn e812.kn⟩, szd, by omega, fun y13 G13 e13 h13 => ?_⟩
            rw [sumR_eq] at h13
            refine ⟨by decide, fun T14 G14 n14 e14 t14 => ?_⟩
            have f14 : IsFr K G14 (.ref T14) 0 := ⟨T14, rfl, by rw [fr_zero]; exact .of t14⟩
            refine ⟨_, _, (h13.kp e14.kp).dp, f14.dp, shaped_ints [((dueL ps s m).sum).num, ((((dueL ps s m).sum).den : Nat) : Int)], shaped_ints [(0 : Rat).num, (((0 : Rat).den : Nat) : Int)], ?_⟩
            rw [eqv_fr, decide_eq_false dne]
            refine ⟨.bool _, .bool _, .bl _, .bl _, rfl, rfl, false, by simp [PyData.eqv], ?_⟩
            walk_at "rd"
            have e1214 := e13.trans e14
            refine .inl ⟨_, _, h10'.kp e1214.kp, h12.kp e1214.kp, ?_⟩
            rw [same]
            walk_at "rd"
            refine ⟨_, h10'.kp e1214.kp, fun yv hyv => ?_⟩
            obtain ⟨py, rfl, _⟩ := id hyv
            refine ⟨_, _, 1, _, rfl, hyv.dp, ⟨_, rfl⟩, PB.gd (by decide), by decide, by decide, ?_⟩
            have hF14 := (hF.kn e812.kn).kp e1214.kp
            have hd14 := e1214 _ _ (e812.lst hd8)
            refine ⟨.ref Ld, dueL ps s m, 110, rfl, ⟨Ld, ds, rfl, .inr (.of hd14), hF14⟩, szd, by omega, by omega, sumQ_ne dne, fun w15 G15 e15 h15 => ?_⟩
            rw [due_whole (by omega) (by omega) PP.s0 (by omega) hm] at h15
            obtain ⟨pw, rfl, _⟩ := id h15
            refine ⟨_, _, 1, _, rfl, h15.dp, ⟨_, rfl⟩, PB.gd (by decide), by decide, by decide, ?_⟩
            walk_at "rd"
            have e1215 := e1214.trans e15
            have e715 : ExN G' G15 := (ed.n.trans e812).trans e1215.n
            have hU15 := e715.lst hU
            have hR15 := e715.lst hR
            refine ⟨.inl ⟨rfl, _, .of hU15⟩, ?_⟩
            refine ⟨.ref Ld, dueL ps s m, 110, rfl, ⟨Ld, ds, rfl, .inr (.of (e15 _ _ hd14)), hF14.kp e15.kp⟩, szd, by omega, fun y16 G16 e16 h16 => ?_⟩
            rw [sumR_eq] at h16
            have hU16 := e16 _ _ hU15
            have hR16 := e16 _ _ hR15
            have lk := keep_len ps s m
            have lU : us.length ≤ 6 := by
              have := fU.1
              simp [chansL] at this
              omega
            have lR : rs.length ≤ 6 := by
              have := fR.1
              simp [restsL] at this
              omega
            refine ⟨Lc, us, y16, rfl, rfl, hU16, small1000 (by omega), ?_⟩
            have kU := kp_set (ys := us ++ [y16]) hU16
            have hR17 : (L2.upd G16 Lc (.lst (us ++ [y16]))) Lr = some (.lst rs) := by rw [upd_ne (Ne.symm cr)]; exact hR16
            have hU17 : (L2.upd G16 Lc (.lst (us ++ [y16]))) Lc = some (.lst (us ++ [y16])) := upd_same
            have k1217 : Kp G12 (L2.upd G16 Lc (.lst (us ++ [y16]))) := (e1215.trans e16).kp.trans kU
            obtain ⟨G17, hG17⟩ : ∃ G17, G17 = L2.upd G16 Lc (.lst (us ++ [y16])) := ⟨_, rfl⟩
            have g17 : Gn v G G17 := by
              rw [hG17]
              exact (g7.en (e715.trans e16.n)).set nc vc
            rw [← hG17] at hR17 hU17 k1217 kU ⊢
            refine ⟨.inl ⟨rfl, _, .of hR17⟩, ?_⟩
            refine ⟨Lr, rs, .ref a1, rfl, rfl, hR17, small1000 (by omega), ?_⟩
            have kR := kp_set (ys := rs ++ [V.ref a1]) hR17
            obtain ⟨G18, hG18⟩ : ∃ G18, G18 = L2.upd G17 Lr (.lst (rs ++ [V.ref a1])) := ⟨_, rfl⟩
            have hU18 : G18 Lc = some (.lst (us ++ [y16])) := by
              rw [hG18, upd_ne cr]
              exact hU17
            have hR18 : G18 Lr = some (.lst (rs ++ [V.ref a1])) := by
              rw [hG18]
              exact upd_same
            have g18 : Gn v G G18 := by
              rw [hG18]
              exact g17.set ncG vr
            rw [← hG18] at kR ⊢
            have k1218 : Kp G12 G18 := k1217.trans kR
            have k718 : KpN G' G18 := ((ed.n.trans e812).kn).trans k1218.n
            have t18 : Tb Pt lamQ G18 := (t11.ex e12).kp k1218
            obtain ⟨c1, c2⟩ := chans_succ (ps := ps) (s := s) (j := m) hz
            have fU18 : FrsAt K G18 (us ++ [y16]) (chansL ps s (m + 1)) := by
              rw [c1]
              exact (fU.kn k718).snoc (h16.kp (kU.trans kR))
            have fR18 : RowsAt K C G18 (rs ++ [V.ref a1]) (restsL ps s (m + 1)) := by
              rw [c2]
              exact (fR.kn k718).snoc (h10'.kp k1218)
            have row18 := h10'.kp k1218
            have m18 := m11.kp (e12.kp.trans k1218)
            have q18 := sqT_kn q7 k718
            walk_at "rd"
            have fin : ∀ (G' : Hp) (w2 : V), Ex G18 G' → P3 (m + 1) [some (.ref v), some (.int (j : Int)), some (.ref qa), some mine, some (.int (n : Int)), some (.int (s : Int)), some (.ref Lc), some (.ref Lr), some (.int (m : Int)), some (.ref Ld), some (.ref a1), some w2] G' := by
              intro G' w2 e
              rw [hP3]
              exact ⟨_, _, _, _, rfl, g18.en e.n, (k7.trans k718).trans e.kp.n, t18.ex e, _, _, e _ _ hU18, e _ _ hR18, fU18.kp e.kp, fR18.kp e.kp⟩
            by_cases h1 : (1 : Int) < (s : Int)
            · rw [if_pos h1]
              by_cases h0 : (0 : Int) < (m : Int)
              · rw [if_pos h0]
                have s2 : 2 ≤ s := by omega
                have m1 : 1 ≤ m := by omega
                refine ⟨qa, cs, 1, 1, rfl, q18, ok, by omega, Nat.le_refl 1, fun Le G19 es ne e19 he19 hE => ?_⟩
                rw [dp] at hE
                have sze : ∀ r ∈ dueL ps 1 1, sz r 110 := by rw [← dp]; exact due_sz ok (by omega) (Nat.le_refl 1)
                have lde : (dueL ps 1 1).length ≤ 6 := by rw [due_len]; omega
                refine ⟨.ref Le, dueL ps 1 1, 110, rfl, ⟨Le, es, rfl, .inr (.of he19), hE⟩, sze, by omega, fun y20 G20 e20 h20 => ?_⟩
                rw [sumR_eq] at h20
                refine ⟨by decide, fun T21 G21 n21 e21 t21 => ?_⟩
                have f21 : IsFr K G21 (.ref T21) 0 := ⟨T21, rfl, by rw [fr_zero]; exact .of t21⟩
                have e1821 := (e19.trans e20).trans e21
                refine ⟨_, _, (h20.kp e21.kp).dp, f21.dp, shaped_ints [((dueL ps 1 1).sum).num, ((((dueL ps 1 1).sum).den : Nat) : Int)], shaped_ints [(0 : Rat).num, (((0 : Rat).den : Nat) : Int)], ?_⟩
                rw [eqv_fr]
                have dz1 := due_zero (ps := ps) (s := 1) (m := 1) (by omega) (by omega) PP.s0 (by omega) (Nat.le_refl 1)
                by_cases hz1 : (bhL ps 1 1).sum = 0
                · rw [dz1.mpr hz1]
                  refine ⟨false, rfl, ?_⟩
                  walk_at "rd"
                  exact fin _ _ e1821
                · have dn1 : (dueL ps 1 1).sum ≠ 0 := fun z => hz1 (dz1.mp z)
                  rw [decide_eq_false dn1]
                  refine ⟨true, rfl, ?_⟩
                  walk_at "rd"
                  obtain ⟨b1, b2, b3, b4⟩ := bh_facts (y := 1) PP (by decide) (Nat.le_refl 1) (by omega)
                  have bp : 0 < (bhL ps 1 1).sum := by omega
                  obtain ⟨ro1, PB1, gB1⟩ := b4 bp
                  obtain ⟨ro2, eq2⟩ := bh_two PP (by decide) s2 sn m1 hm bp hpos
                  have no : ∀ {l : List Int}, RowOk l → ¬ ∀ c ∈ l, c = 0 := by
                    intro l r0 z0
                    have g := r0.2.2.2.1
                    have : gcdL l = 0 := by
                      have h := dvd_gcdL (cs := l) (d := 0) fun c hc => by rw [z0 c hc]; exact Int.dvd_refl _
                      exact Nat.eq_zero_of_zero_dvd h
                    omega
                  refine ⟨mine, ps, 1, 1, rfl, m18.kp e1821.kp, PP.inn (by decide), Nat.le_refl 1, by omega, Nat.le_refl 1, .inl ro1, fun _ zb G22 e22 h22 => ?_, fun z0 => absurd z0 (no ro1)⟩
                  rw [show (s : Int) - 1 = ((s - 1 : Nat) : Int) by omega, show (m : Int) - 1 = ((m - 1 : Nat) : Int) by omega]
                  have lp1 := PB1.len
                  refine ⟨zb, plainL (bhL ps 1 1), s - 1, m - 1, rfl, h22, PB1.inn (by decide), by omega, by omega, by omega, .inl ro2, fun _ zc G23 e23 h23 => ?_, fun z0 => absurd z0 (no ro2)⟩
                  rw [eq2] at h23
                  have e1823 := (e1821.trans e22).trans e23
                  refine ⟨_, _, h23, row18.kp e1823.kp, ?_⟩
                  rw [same]
                  walk_at "rd"
                  exact fin _ _ e1823
              · rw [if_neg h0]
                exact fin _ _ (Ex.refl _)
            · rw [if_neg h1]
              exact fin _ _ (Ex.refl _)
        · intro σ3 G' h
          rw [hP3] at h
          obtain ⟨s8, s9, s10, s11, rfl, g7, k7, t7, us, rs, hU, hR, fU, fR⟩ := h
          rw [show ((s : Int) + 1).toNat = s + 1 by omega] at fU fR
          walk_at "rd"
          refine ⟨Lr, rs, rfl, .of hR, fun T8 G8 n8 e8 t8 => ?_⟩
          refine ⟨Lc, us, rfl, .of (e8 _ _ hU), fun T9 G9 n9 e9 t9 => ?_⟩
          have lz : (restsL ps s (s + 1)).length = (chansL ps s (s + 1)).length := by simp [restsL, chansL]
          have M := due_mix PP (by decide) s1' sn
          have e79 := e8.trans e9
          refine ⟨T8, T9, rs, us, _, 124 + 140, n - s + 1, rfl, .of (e9 _ _ t8), .of t9, by rw [zip_fst lz]; exact fR.kp e79.kp, by rw [zip_snd lz]; exact fU.kp e79.kp, M, fun r10 G10 e10 h10 => ?_⟩
          rw [due_fewer PP (by decide) s1' sn] at h10
          have k10 : KpN G4 G10 := k7.trans (e79.trans e10).kp.n
          have m10 := m4.kn k10
          rw [show (n : Int) - (s : Int) = ((n - s : Nat) : Int) by omega]
          have fp := fw_pr PP (d := n - s) (by omega) (by omega)
          refine ⟨mine, ps, n - s, rfl, m10, PP.inn (by decide), by omega, by omega, fp.2, fun r11 G11 e11 h11 => ?_⟩
          have same : ∀ ps : List Int, PyData.eqv (intsD ps) (intsD ps) = true := fun ps => SeqAt.eqv_refl _ (SeqAt.canLay_of_shaped (shaped_ints _))
          refine ⟨_, _, h10.kp e11.kp, h11, ?_⟩
          rw [same]
          walk_at "rd"
          rw [hP2]
          have e711 := (e79.trans e10).trans e11
          exact ⟨_, _, _, _, _, _, _, rfl, (g5.trans g7).en e711.n, t7.ex e711⟩
      · intro σ2 G h
        rw [hP2] at h
        obtain ⟨s5, s6, s7, s8, s9, s10, s11, rfl, g5, t5⟩ := h
        walk_at "rd"
        rw [hP]
        exact ⟨_, _, _, _, _, _, _, _, _, _, _, rfl, gG4.trans g5, t5⟩
    · intro σ' G h
      rw [hP] at h
      obtain ⟨s1, s2, s3, s4, s5, s6, s7, s8, s9, s10, s11, rfl, gG, tG⟩ := h
      walk_at "rd"
      exact k _ gG tG
end

section
variable {P : Program} {w : World} {K : PySem.W.Frag} {mg : Str → Option Value} {base : Heap}
/-! ### _law_quiet, law -/
theorem scQuiet : FnScope ["vat", "is_right"] ["vat"] (defScope (top 54)) := ⟨rfl, rfl, rfl, by decide +kernel, rfl, by decide +kernel, by decide +kernel⟩
theorem has_quiet {Pt : Addr} (h_law_right : HasG P w K mg base "_law_right" 10 ["vat"] (spRightN K Pt)) (D : Df K mg "_law_quiet" (top 54) ["vat"]) : HasG P w K mg base "_law_quiet" 11 ["vat"] (spRightN K Pt) := by
  have sc := scQuiet
  refine .of D fun f fd F => okG F sc (fun vs H Q E h => ?_) (fun cdv A outer s H vs Q E hgd hr h => ?_)
  · obtain ⟨v, rfl, _⟩ := h
    rfl
  · obtain ⟨v, rfl, hv, ht, k⟩ := h
    refine ⟨_, (pss_cons (ps_try_thru0 (pss_one (ps_set (i := 1) sc.nd rfl (by first | exact Or.inl rfl | exact Or.inr rfl) (pe_hasG h_law_right hgd (hr.mono (by decide)) (pa_cons (pv 0) pa_nil)))))
      (pss_one (ps_ret (pv 1)))), ?_⟩
    walk_at "rd"
    refine ⟨v, rfl, hv, ht, fun H' g t => ?_⟩
    walk_at "rd"
    exact k _ g t
def spLawT (K : PySem.W.Frag) (_ Pt : Addr) : Sp := fun vs H Q _ => ∃ (a : Addr) (ns : List Int), vs = [.ref a] ∧ SqL K H a (ns.map V.int) ∧ ns.length ≤ 63 ∧ H Pt = some (.tbl #[]) ∧ ∀ H', Q (.bl true) H'
theorem scLaw : FnScope ["script", "at"] ["script"] (defScope (top 55)) := ⟨rfl, rfl, rfl, by decide +kernel, rfl, by decide +kernel, by decide +kernel⟩
theorem ok_law {c Pt : Addr} (B : Bi mg) (h_law_vat : Has P w K mg base "_law_vat" 1 ["script", "at"] (spVat K)) (h_law_quiet : HasG P w K mg base "_law_quiet" 11 ["vat"] (spRightN K Pt)) {f : Addr} {fd : FuncData} (F : Fun K "law" "law" (top 55) f fd) : FnG P w K mg base 12 f fd ["script"] (spLawT K c Pt) := by
  have sc := scLaw
  refine okG F sc (fun vs H Q E h => ?_) (fun cdv A outer s H vs Q E hgd hr h => ?_)
  · obtain ⟨a, ns, rfl, _⟩ := h
    rfl
  · obtain ⟨a, ns, rfl, hS, hlen, hPt, k⟩ := h
    refine ⟨_, (pss_one (ps_ret (pe_callB (kAll (K := K) rfl) (by rfl) B.all (by decide +kernel) (pa_cons (pe_lc (own := [("at", 1)]) (g := gName 1) (tt := tYes) rfl sc.nd (pi_range1 (by rfl) B.range (pa_cons (pe_callB (call_max2 rfl) (by rfl) B.max (by decide +kernel) (pa_cons pe_int (pa_cons (pe_callB (call_min2 rfl) (by rfl) B.min (by decide +kernel) (pa_cons (pe_callB (kLen (K := K)) (by rfl) B.len (by decide +kernel) (pa_cons (pv 0) pa_nil)) (pa_cons pe_int pa_nil))) pa_nil))) pa_nil)) (blkOk_by (N := (["script", "at"] : List Str)) (sc := defScope (top 55)) (by decide +kernel)) (fun _ _ _ _ _ => (pg_name (i := 1) sc.nd rfl (by first | exact Or.inl rfl | exact Or.inr rfl))) (fun _ _ _ _ _ => pts_nil) (fun _ _ _ _ _ => (PE.mon (pe_hasG h_law_quiet hgd (hr.mono (by decide)) (pa_cons (pe_has h_law_vat (hr.mono (by decide)) (pa_cons (pv 0) (pa_cons (pv 1) pa_nil))) pa_nil))))) pa_nil)))), ?_⟩
    walk_at "rd"
    refine ⟨_, .inl hS, ?_⟩
    rw [List.length_map]
    generalize hm : (if (if _ < ((ns.length : Nat) : Int) then _ else ((ns.length : Nat) : Int)) > 2 then (if _ < ((ns.length : Nat) : Int) then _ else ((ns.length : Nat) : Int)) else (2 : Int)) = m
    have m5 : 0 ≤ m ∧ m ≤ 5 := by
      rw [← hm]
      repeat' split
      all_goals omega
    refine ⟨by omega, by omega, fun Dd hD => lcRn (Pt := Pt) (q := lamQ) hD (Tb.start hPt) (by omega) (fun _ => rfl) ?_ ?_⟩
    · intro i G hi e t
      obtain ⟨R0, hR⟩ : ∃ R : VK, R = fun y G' => ExN G G' ∧ Tb Pt lamQ G' ∧ y = .bl true := ⟨_, rfl⟩
      refine ⟨R0, ?_, fun y G' h => by rw [hR] at h; exact h⟩
      walk_at "rd"
      refine ⟨a, ns, _, rfl, sqL_en hS e, hlen, by omega, by omega, fun v G2 n2 e2 hv => ⟨v, rfl, hv, t.ex e2, fun G3 g t3 => ?_⟩⟩
      rw [hR]
      exact ⟨Gn.out n2 e2 g, t3, rfl⟩
    · intro G e t hy
      have er : (List.replicate m.toNat (V.bl true)) = (List.replicate m.toNat true).map V.bl := by simp
      rw [er] at hy
      refine ⟨Dd, _, rfl, .of hy, ?_⟩
      have : (List.replicate m.toNat true).all id = true := by simp
      rw [this]
      exact k _
end

section
variable {P : Program} {w : World} {K : PySem.W.Frag} {mg : Str → Option Value} {base : Heap}
/-! ### _law_told -/
theorem scTold : FnScope ["act"] ["act"] (defScope (top 52)) := ⟨rfl, rfl, rfl, by decide +kernel, rfl, by decide +kernel, by decide +kernel⟩
theorem trier {CN : Addr} (D : Df K mg "_law_told" (top 52) ["act"]) (c_NoChance : mg "NoChance" = some (.ref CN)) : Trier K mg "_law_told" "act" "NoChance" CN ["act"] (top 52) :=
  ⟨D, scTold, rfl, fun _ => rfl, by first | exact Or.inl rfl | exact Or.inr (Or.inl rfl), rfl, c_NoChance, by decide, by decide, by decide, ⟨_, _, _, _, _, _, _, _, _, rfl⟩⟩
end

/-! ### the end -/
theorem all_mk {l : PySem.W.OpenLaw} {w : World} {K : PySem.W.Frag} {h : Heap} {mg : Str → Option Value} {fa : Addr} (X : K.In h) (G : h.Ns mainGlobals mg) (hfa : mg "law" = some (.ref fa))
    {cR PtR : Addr}
    {f1 : Addr} {od1 an1 : Option Addr} {sl1 : Array (Option Value)} {oc1 kV1 dc1 pm1 cd1 ct1 : Value}
    {f2 : Addr} {od2 an2 : Option Addr} {sl2 : Array (Option Value)} {oc2 kV2 dc2 pm2 cd2 ct2 : Value}
    {f3 : Addr} {od3 an3 : Option Addr} {sl3 : Array (Option Value)} {oc3 kV3 dc3 pm3 cd3 ct3 : Value}
    {f4 : Addr} {od4 an4 : Option Addr} {sl4 : Array (Option Value)} {oc4 kV4 dc4 pm4 cd4 ct4 : Value}
    {f5 : Addr} {od5 an5 : Option Addr} {sl5 : Array (Option Value)} {oc5 kV5 dc5 pm5 cd5 ct5 : Value}
    {f6 : Addr} {od6 an6 : Option Addr} {sl6 : Array (Option Value)} {oc6 kV6 dc6 pm6 cd6 ct6 : Value}
    {f7 : Addr} {od7 an7 : Option Addr} {sl7 : Array (Option Value)} {oc7 kV7 dc7 pm7 cd7 ct7 : Value}
    {f8 : Addr} {od8 an8 : Option Addr} {sl8 : Array (Option Value)} {oc8 kV8 dc8 pm8 cd8 ct8 : Value}
    {f9 : Addr} {od9 an9 : Option Addr} {sl9 : Array (Option Value)} {oc9 kV9 dc9 pm9 cd9 ct9 : Value}
    {f10 : Addr} {od10 an10 : Option Addr} {sl10 : Array (Option Value)} {oc10 kV10 dc10 pm10 cd10 ct10 : Value}
    {f11 : Addr} {od11 an11 : Option Addr} {sl11 : Array (Option Value)} {oc11 kV11 dc11 pm11 cd11 ct11 : Value}
    {f12 : Addr} {od12 an12 : Option Addr} {sl12 : Array (Option Value)} {oc12 kV12 dc12 pm12 cd12 ct12 : Value}
    {f13 : Addr} {od13 an13 : Option Addr} {sl13 : Array (Option Value)} {oc13 kV13 dc13 pm13 ct13 : Value}
    {f14 : Addr} {od14 an14 : Option Addr} {sl14 : Array (Option Value)} {oc14 kV14 dc14 pm14 cd14 ct14 : Value}
    {f15 : Addr} {od15 an15 : Option Addr} {sl15 : Array (Option Value)} {oc15 kV15 dc15 pm15 cd15 ct15 : Value}
    {f16 : Addr} {od16 an16 : Option Addr} {sl16 : Array (Option Value)} {oc16 kV16 dc16 pm16 cd16 ct16 : Value}
    {f17 : Addr} {od17 an17 : Option Addr} {sl17 : Array (Option Value)} {oc17 kV17 dc17 pm17 cd17 ct17 : Value}
    {f18 : Addr} {od18 an18 : Option Addr} {sl18 : Array (Option Value)} {oc18 kV18 dc18 pm18 cd18 ct18 : Value}
    {f19 : Addr} {od19 an19 : Option Addr} {sl19 : Array (Option Value)} {oc19 kV19 dc19 pm19 cd19 ct19 : Value}
    {f20 : Addr} {od20 an20 : Option Addr} {sl20 : Array (Option Value)} {oc20 kV20 dc20 pm20 cd20 ct20 : Value}
    {f21 : Addr} {od21 an21 : Option Addr} {sl21 : Array (Option Value)} {oc21 kV21 dc21 pm21 cd21 ct21 : Value}
    {f22 : Addr} {od22 an22 : Option Addr} {sl22 : Array (Option Value)} {oc22 kV22 dc22 pm22 cd22 ct22 : Value}
    {f23 : Addr} {od23 an23 : Option Addr} {sl23 : Array (Option Value)} {oc23 kV23 dc23 pm23 cd23 ct23 : Value}
    {f24 : Addr} {od24 an24 : Option Addr} {sl24 : Array (Option Value)} {oc24 kV24 dc24 pm24 cd24 ct24 : Value}
    {f25 : Addr} {od25 an25 : Option Addr} {sl25 : Array (Option Value)} {oc25 kV25 dc25 pm25 cd25 ct25 : Value}
    {f26 : Addr} {od26 an26 : Option Addr} {sl26 : Array (Option Value)} {oc26 kV26 dc26 pm26 cd26 ct26 : Value}
    {f27 : Addr} {od27 an27 : Option Addr} {sl27 : Array (Option Value)} {oc27 kV27 dc27 pm27 cd27 ct27 : Value}
    {f28 : Addr} {od28 an28 : Option Addr} {sl28 : Array (Option Value)} {oc28 kV28 dc28 pm28 cd28 ct28 : Value}
    {f29 : Addr} {od29 an29 : Option Addr} {sl29 : Array (Option Value)} {oc29 kV29 dc29 pm29 cd29 ct29 : Value}
    {f30 : Addr} {od30 an30 : Option Addr} {sl30 : Array (Option Value)} {oc30 kV30 dc30 pm30 cd30 ct30 : Value}
    {C : Addr}
    {f31 : Addr} {od31 an31 : Option Addr} {sl31 : Array (Option Value)} {oc31 kV31 dc31 pm31 cd31 ct31 : Value}
    {f32 : Addr} {od32 an32 : Option Addr} {sl32 : Array (Option Value)} {oc32 kV32 dc32 pm32 cd32 ct32 : Value}
    {f33 p33 : Addr} {r33 : List Value} {od33 an33 : Option Addr} {sl33 : Array (Option Value)} {oc33 kV33 dc33 pm33 cd33 ct33 : Value}
    {f34 p34 : Addr} {r34 : List Value} {od34 an34 : Option Addr} {sl34 : Array (Option Value)} {oc34 kV34 dc34 pm34 cd34 ct34 : Value}
    {f35 p35 : Addr} {r35 : List Value} {od35 an35 : Option Addr} {sl35 : Array (Option Value)} {oc35 kV35 dc35 pm35 cd35 ct35 : Value}
    {N : Addr} {nm qn : Str} {bs : List Value} {hdct : Bool} {sn : List Str} {sub : List Value} {ab : Bool} {col : Option Bool} {dd : Option Addr} {q0 q1 q2 q3 q5 : Option Value} {newId : String}
    {CNoChance : Addr}
    {tk tk2 : Tok}
    (tabs : ∀ b ∈ [PtR], h.get? b = some { cls := .none, data := .fields #[] })
    (a1 : PySem.W.nsIn K mainGlobals "_law_vat" = some (some (.ref f1)))
    (l1 : K.lookup f1 = some ⟨oc1, od1, .func (PySem.W.fnOf "_law_vat" "_law_vat" (defArgs (top 41)) (defBody (top 41)) (defScope (top 41)) .none kV1 dc1 pm1 an1 cd1 ct1), sl1⟩)
    (c1 : PySem.W.codeIn K cd1 "_law_vat" = true)
    (k1 : PySem.W.keepIn K (.ref f1) = true)
    (a2 : PySem.W.nsIn K mainGlobals "_law_dip" = some (some (.ref f2)))
    (l2 : K.lookup f2 = some ⟨oc2, od2, .func (PySem.W.fnOf "_law_dip" "_law_dip" (defArgs (top 42)) (defBody (top 42)) (defScope (top 42)) .none kV2 dc2 pm2 an2 cd2 ct2), sl2⟩)
    (c2 : PySem.W.codeIn K cd2 "_law_dip" = true)
    (k2 : PySem.W.keepIn K (.ref f2) = true)
    (a3 : PySem.W.nsIn K mainGlobals "_law_shared" = some (some (.ref f3)))
    (l3 : K.lookup f3 = some ⟨oc3, od3, .func (PySem.W.fnOf "_law_shared" "_law_shared" (defArgs (top 43)) (defBody (top 43)) (defScope (top 43)) .none kV3 dc3 pm3 an3 cd3 ct3), sl3⟩)
    (c3 : PySem.W.codeIn K cd3 "_law_shared" = true)
    (k3 : PySem.W.keepIn K (.ref f3) = true)
    (a4 : PySem.W.nsIn K mainGlobals "_law_part" = some (some (.ref f4)))
    (l4 : K.lookup f4 = some ⟨oc4, od4, .func (PySem.W.fnOf "_law_part" "_law_part" (defArgs (top 44)) (defBody (top 44)) (defScope (top 44)) .none kV4 dc4 pm4 an4 cd4 ct4), sl4⟩)
    (c4 : PySem.W.codeIn K cd4 "_law_part" = true)
    (k4 : PySem.W.keepIn K (.ref f4) = true)
    (a5 : PySem.W.nsIn K mainGlobals "_law_sum" = some (some (.ref f5)))
    (l5 : K.lookup f5 = some ⟨oc5, od5, .func (PySem.W.fnOf "_law_sum" "_law_sum" (defArgs (top 45)) (defBody (top 45)) (defScope (top 45)) .none kV5 dc5 pm5 an5 cd5 ct5), sl5⟩)
    (c5 : PySem.W.codeIn K cd5 "_law_sum" = true)
    (k5 : PySem.W.keepIn K (.ref f5) = true)
    (a6 : PySem.W.nsIn K mainGlobals "_law_ways" = some (some (.ref f6)))
    (l6 : K.lookup f6 = some ⟨oc6, od6, .func (PySem.W.fnOf "_law_ways" "_law_ways" (defArgs (top 46)) (defBody (top 46)) (defScope (top 46)) .none kV6 dc6 pm6 an6 cd6 ct6), sl6⟩)
    (c6 : PySem.W.codeIn K cd6 "_law_ways" = true)
    (k6 : PySem.W.keepIn K (.ref f6) = true)
    (a7 : PySem.W.nsIn K mainGlobals "_law_whole" = some (some (.ref f7)))
    (l7 : K.lookup f7 = some ⟨oc7, od7, .func (PySem.W.fnOf "_law_whole" "_law_whole" (defArgs (top 47)) (defBody (top 47)) (defScope (top 47)) .none kV7 dc7 pm7 an7 cd7 ct7), sl7⟩)
    (c7 : PySem.W.codeIn K cd7 "_law_whole" = true)
    (k7 : PySem.W.keepIn K (.ref f7) = true)
    (a8 : PySem.W.nsIn K mainGlobals "_law_plain" = some (some (.ref f8)))
    (l8 : K.lookup f8 = some ⟨oc8, od8, .func (PySem.W.fnOf "_law_plain" "_law_plain" (defArgs (top 48)) (defBody (top 48)) (defScope (top 48)) .none kV8 dc8 pm8 an8 cd8 ct8), sl8⟩)
    (c8 : PySem.W.codeIn K cd8 "_law_plain" = true)
    (k8 : PySem.W.keepIn K (.ref f8) = true)
    (a9 : PySem.W.nsIn K mainGlobals "_law_counts" = some (some (.ref f9)))
    (l9 : K.lookup f9 = some ⟨oc9, od9, .func (PySem.W.fnOf "_law_counts" "_law_counts" (defArgs (top 49)) (defBody (top 49)) (defScope (top 49)) .none kV9 dc9 pm9 an9 cd9 ct9), sl9⟩)
    (c9 : PySem.W.codeIn K cd9 "_law_counts" = true)
    (k9 : PySem.W.keepIn K (.ref f9) = true)
    (a10 : PySem.W.nsIn K mainGlobals "_law_orders" = some (some (.ref f10)))
    (l10 : K.lookup f10 = some ⟨oc10, od10, .func (PySem.W.fnOf "_law_orders" "_law_orders" (defArgs (top 50)) (defBody (top 50)) (defScope (top 50)) .none kV10 dc10 pm10 an10 cd10 ct10), sl10⟩)
    (c10 : PySem.W.codeIn K cd10 "_law_orders" = true)
    (k10 : PySem.W.keepIn K (.ref f10) = true)
    (a11 : PySem.W.nsIn K mainGlobals "_law_due" = some (some (.ref f11)))
    (l11 : K.lookup f11 = some ⟨oc11, od11, .func (PySem.W.fnOf "_law_due" "_law_due" (defArgs (top 51)) (defBody (top 51)) (defScope (top 51)) .none kV11 dc11 pm11 an11 cd11 ct11), sl11⟩)
    (c11 : PySem.W.codeIn K cd11 "_law_due" = true)
    (k11 : PySem.W.keepIn K (.ref f11) = true)
    (a12 : PySem.W.nsIn K mainGlobals "_law_told" = some (some (.ref f12)))
    (l12 : K.lookup f12 = some ⟨oc12, od12, .func (PySem.W.fnOf "_law_told" "_law_told" (defArgs (top 52)) (defBody (top 52)) (defScope (top 52)) .none kV12 dc12 pm12 an12 cd12 ct12), sl12⟩)
    (c12 : PySem.W.codeIn K cd12 "_law_told" = true)
    (k12 : PySem.W.keepIn K (.ref f12) = true)
    (a13 : PySem.W.nsIn K mainGlobals "_law_right" = some (some (.ref f13)))
    (l13 : K.lookup f13 = some ⟨oc13, od13, .func (PySem.W.fnOf "_law_right" "_law_right" (defArgs (top 53)) (defBody (top 53)) (defScope (top 53)) .none kV13 dc13 pm13 an13 (.ref cR) ct13), sl13⟩)
    (c13 : PySem.W.codeIn K (.ref cR) "_law_right" = true)
    (k13 : PySem.W.keepIn K (.ref f13) = true)
    (hC13 : PySem.W.codeHdIn K cR PtR = true)
    (nP13 : K.lookup PtR = none)
    (a14 : PySem.W.nsIn K mainGlobals "_law_quiet" = some (some (.ref f14)))
    (l14 : K.lookup f14 = some ⟨oc14, od14, .func (PySem.W.fnOf "_law_quiet" "_law_quiet" (defArgs (top 54)) (defBody (top 54)) (defScope (top 54)) .none kV14 dc14 pm14 an14 cd14 ct14), sl14⟩)
    (c14 : PySem.W.codeIn K cd14 "_law_quiet" = true)
    (k14 : PySem.W.keepIn K (.ref f14) = true)
    (a15 : PySem.W.nsIn K mainGlobals "is_whole" = some (some (.ref f15)))
    (l15 : K.lookup f15 = some ⟨oc15, od15, .func (PySem.W.fnOf "is_whole" "is_whole" (defArgs (top 16)) (defBody (top 16)) (defScope (top 16)) .none kV15 dc15 pm15 an15 cd15 ct15), sl15⟩)
    (c15 : PySem.W.codeIn K cd15 "is_whole" = true)
    (k15 : PySem.W.keepIn K (.ref f15) = true)
    (a16 : PySem.W.nsIn K mainGlobals "check_number" = some (some (.ref f16)))
    (l16 : K.lookup f16 = some ⟨oc16, od16, .func (PySem.W.fnOf "check_number" "check_number" (defArgs (top 17)) (defBody (top 17)) (defScope (top 17)) .none kV16 dc16 pm16 an16 cd16 ct16), sl16⟩)
    (c16 : PySem.W.codeIn K cd16 "check_number" = true)
    (k16 : PySem.W.keepIn K (.ref f16) = true)
    (a17 : PySem.W.nsIn K mainGlobals "is_fraction" = some (some (.ref f17)))
    (l17 : K.lookup f17 = some ⟨oc17, od17, .func (PySem.W.fnOf "is_fraction" "is_fraction" (defArgs (top 18)) (defBody (top 18)) (defScope (top 18)) .none kV17 dc17 pm17 an17 cd17 ct17), sl17⟩)
    (c17 : PySem.W.codeIn K cd17 "is_fraction" = true)
    (k17 : PySem.W.keepIn K (.ref f17) = true)
    (a18 : PySem.W.nsIn K mainGlobals "is_chance" = some (some (.ref f18)))
    (l18 : K.lookup f18 = some ⟨oc18, od18, .func (PySem.W.fnOf "is_chance" "is_chance" (defArgs (top 19)) (defBody (top 19)) (defScope (top 19)) .none kV18 dc18 pm18 an18 cd18 ct18), sl18⟩)
    (c18 : PySem.W.codeIn K cd18 "is_chance" = true)
    (k18 : PySem.W.keepIn K (.ref f18) = true)
    (a19 : PySem.W.nsIn K mainGlobals "lowest" = some (some (.ref f19)))
    (l19 : K.lookup f19 = some ⟨oc19, od19, .func (PySem.W.fnOf "lowest" "lowest" (defArgs (top 20)) (defBody (top 20)) (defScope (top 20)) .none kV19 dc19 pm19 an19 cd19 ct19), sl19⟩)
    (c19 : PySem.W.codeIn K cd19 "lowest" = true)
    (k19 : PySem.W.keepIn K (.ref f19) = true)
    (a20 : PySem.W.nsIn K mainGlobals "add_up_to_one" = some (some (.ref f20)))
    (l20 : K.lookup f20 = some ⟨oc20, od20, .func (PySem.W.fnOf "add_up_to_one" "add_up_to_one" (defArgs (top 21)) (defBody (top 21)) (defScope (top 21)) .none kV20 dc20 pm20 an20 cd20 ct20), sl20⟩)
    (c20 : PySem.W.codeIn K cd20 "add_up_to_one" = true)
    (k20 : PySem.W.keepIn K (.ref f20) = true)
    (a21 : PySem.W.nsIn K mainGlobals "check_row" = some (some (.ref f21)))
    (l21 : K.lookup f21 = some ⟨oc21, od21, .func (PySem.W.fnOf "check_row" "check_row" (defArgs (top 29)) (defBody (top 29)) (defScope (top 29)) .none kV21 dc21 pm21 an21 cd21 ct21), sl21⟩)
    (c21 : PySem.W.codeIn K cd21 "check_row" = true)
    (k21 : PySem.W.keepIn K (.ref f21) = true)
    (a22 : PySem.W.nsIn K mainGlobals "_check_counts" = some (some (.ref f22)))
    (l22 : K.lookup f22 = some ⟨oc22, od22, .func (PySem.W.fnOf "_check_counts" "_check_counts" (defArgs (top 30)) (defBody (top 30)) (defScope (top 30)) .none kV22 dc22 pm22 an22 cd22 ct22), sl22⟩)
    (c22 : PySem.W.codeIn K cd22 "_check_counts" = true)
    (k22 : PySem.W.keepIn K (.ref f22) = true)
    (a23 : PySem.W.nsIn K mainGlobals "mixed" = some (some (.ref f23)))
    (l23 : K.lookup f23 = some ⟨oc23, od23, .func (PySem.W.fnOf "mixed" "mixed" (defArgs (top 33)) (defBody (top 33)) (defScope (top 33)) .none kV23 dc23 pm23 an23 cd23 ct23), sl23⟩)
    (c23 : PySem.W.codeIn K cd23 "mixed" = true)
    (k23 : PySem.W.keepIn K (.ref f23) = true)
    (a24 : PySem.W.nsIn K mainGlobals "fewer" = some (some (.ref f24)))
    (l24 : K.lookup f24 = some ⟨oc24, od24, .func (PySem.W.fnOf "fewer" "fewer" (defArgs (top 34)) (defBody (top 34)) (defScope (top 34)) .none kV24 dc24 pm24 an24 cd24 ct24), sl24⟩)
    (c24 : PySem.W.codeIn K cd24 "fewer" = true)
    (k24 : PySem.W.keepIn K (.ref f24) = true)
    (a25 : PySem.W.nsIn K mainGlobals "behind" = some (some (.ref f25)))
    (l25 : K.lookup f25 = some ⟨oc25, od25, .func (PySem.W.fnOf "behind" "behind" (defArgs (top 35)) (defBody (top 35)) (defScope (top 35)) .none kV25 dc25 pm25 an25 cd25 ct25), sl25⟩)
    (c25 : PySem.W.codeIn K cd25 "behind" = true)
    (k25 : PySem.W.keepIn K (.ref f25) = true)
    (a26 : PySem.W.nsIn K mainGlobals "_urn_counts" = some (some (.ref f26)))
    (l26 : K.lookup f26 = some ⟨oc26, od26, .func (PySem.W.fnOf "_urn_counts" "_urn_counts" (defArgs (top 36)) (defBody (top 36)) (defScope (top 36)) .none kV26 dc26 pm26 an26 cd26 ct26), sl26⟩)
    (c26 : PySem.W.codeIn K cd26 "_urn_counts" = true)
    (k26 : PySem.W.keepIn K (.ref f26) = true)
    (a27 : PySem.W.nsIn K mainGlobals "_blended" = some (some (.ref f27)))
    (l27 : K.lookup f27 = some ⟨oc27, od27, .func (PySem.W.fnOf "_blended" "_blended" (defArgs (top 37)) (defBody (top 37)) (defScope (top 37)) .none kV27 dc27 pm27 an27 cd27 ct27), sl27⟩)
    (c27 : PySem.W.codeIn K cd27 "_blended" = true)
    (k27 : PySem.W.keepIn K (.ref f27) = true)
    (a28 : PySem.W.nsIn K mainGlobals "_check_rows" = some (some (.ref f28)))
    (l28 : K.lookup f28 = some ⟨oc28, od28, .func (PySem.W.fnOf "_check_rows" "_check_rows" (defArgs (top 38)) (defBody (top 38)) (defScope (top 38)) .none kV28 dc28 pm28 an28 cd28 ct28), sl28⟩)
    (c28 : PySem.W.codeIn K cd28 "_check_rows" = true)
    (k28 : PySem.W.keepIn K (.ref f28) = true)
    (a29 : PySem.W.nsIn K mainGlobals "_are_shares" = some (some (.ref f29)))
    (l29 : K.lookup f29 = some ⟨oc29, od29, .func (PySem.W.fnOf "_are_shares" "_are_shares" (defArgs (top 39)) (defBody (top 39)) (defScope (top 39)) .none kV29 dc29 pm29 an29 cd29 ct29), sl29⟩)
    (c29 : PySem.W.codeIn K cd29 "_are_shares" = true)
    (k29 : PySem.W.keepIn K (.ref f29) = true)
    (a30 : PySem.W.nsIn K mainGlobals "law" = some (some (.ref f30)))
    (l30 : K.lookup f30 = some ⟨oc30, od30, .func (PySem.W.fnOf "law" "law" (defArgs (top 55)) (defBody (top 55)) (defScope (top 55)) .none kV30 dc30 pm30 an30 cd30 ct30), sl30⟩)
    (c30 : PySem.W.codeIn K cd30 "law" = true)
    (k30 : PySem.W.keepIn K (.ref f30) = true)
    (aC : PySem.W.nsIn K mainGlobals "Row" = some (some (.ref C)))
    (pg : PySem.W.plainGet K C Str.empty = true)
    (hd : PySem.W.hasDictIn K C = true)
    (po : PySem.W.plainOver K C = true)
    (sa : PySem.W.findIn K (.ref C) "__setattr__" = some (some (.builtin "object.__setattr__")))
    (mk : PySem.W.makesIn K C = true)
    (kc : PySem.W.keepIn K (.ref C) = true)
    (nC : PySem.W.findIn K (.ref C) "_counts" = some none)
    (xa : PySem.W.findIn K (.ref C) "__class__" = some (some (.builtin "object.__class__")))
    (xn : PySem.W.specialIn K (.builtin "object.__class__") "__get__" = some (some (.builtin "getset_descriptor.__get__")))
    (xt : PySem.W.takesIn K (.builtin "object.__class__") = some true)
    (xm : PySem.W.mroIn K C (.type "object") = some true)
    (a31 : PySem.W.findIn K (.ref C) "__init__" = some (some (.ref f31)))
    (i31 : PySem.W.isFn K (.ref f31) = true)
    (l31 : K.lookup f31 = some ⟨oc31, od31, .func (PySem.W.fnOf "__init__" "Row.__init__" (defArgs (inClass (top 28) 0)) (defBody (inClass (top 28) 0)) (defScope (inClass (top 28) 0)) .none kV31 dc31 pm31 an31 cd31 ct31), sl31⟩)
    (c31 : PySem.W.codeIn K cd31 "Row.__init__" = true)
    (k31 : PySem.W.keepIn K (.ref f31) = true)
    (a32 : PySem.W.findIn K (.ref C) "__eq__" = some (some (.ref f32)))
    (i32 : PySem.W.isFn K (.ref f32) = true)
    (l32 : K.lookup f32 = some ⟨oc32, od32, .func (PySem.W.fnOf "__eq__" "Row.__eq__" (defArgs (inClass (top 28) 7)) (defBody (inClass (top 28) 7)) (defScope (inClass (top 28) 7)) .none kV32 dc32 pm32 an32 cd32 ct32), sl32⟩)
    (c32 : PySem.W.codeIn K cd32 "Row.__eq__" = true)
    (k32 : PySem.W.keepIn K (.ref f32) = true)
    (a33 : PySem.W.findIn K (.ref C) "counts" = some (some (.ref p33)))
    (g33 : PySem.W.specialIn K (.ref p33) "__get__" = some (some (.builtin "property.__get__")))
    (t33 : PySem.W.takesIn K (.ref p33) = some true)
    (r33r : PySem.W.recIn K p33 "property" = some (.ref f33 :: r33))
    (l33 : K.lookup f33 = some ⟨oc33, od33, .func (PySem.W.fnOf "counts" "Row.counts" (defArgs (inClass (top 28) 2)) (defBody (inClass (top 28) 2)) (defScope (inClass (top 28) 2)) .none kV33 dc33 pm33 an33 cd33 ct33), sl33⟩)
    (c33 : PySem.W.codeIn K cd33 "Row.counts" = true)
    (k33 : PySem.W.keepIn K (.ref f33) = true)
    (a34 : PySem.W.findIn K (.ref C) "draws" = some (some (.ref p34)))
    (g34 : PySem.W.specialIn K (.ref p34) "__get__" = some (some (.builtin "property.__get__")))
    (t34 : PySem.W.takesIn K (.ref p34) = some true)
    (r34r : PySem.W.recIn K p34 "property" = some (.ref f34 :: r34))
    (l34 : K.lookup f34 = some ⟨oc34, od34, .func (PySem.W.fnOf "draws" "Row.draws" (defArgs (inClass (top 28) 4)) (defBody (inClass (top 28) 4)) (defScope (inClass (top 28) 4)) .none kV34 dc34 pm34 an34 cd34 ct34), sl34⟩)
    (c34 : PySem.W.codeIn K cd34 "Row.draws" = true)
    (k34 : PySem.W.keepIn K (.ref f34) = true)
    (a35 : PySem.W.findIn K (.ref C) "rates" = some (some (.ref p35)))
    (g35 : PySem.W.specialIn K (.ref p35) "__get__" = some (some (.builtin "property.__get__")))
    (t35 : PySem.W.takesIn K (.ref p35) = some true)
    (r35r : PySem.W.recIn K p35 "property" = some (.ref f35 :: r35))
    (l35 : K.lookup f35 = some ⟨oc35, od35, .func (PySem.W.fnOf "rates" "Row.rates" (defArgs (inClass (top 28) 3)) (defBody (inClass (top 28) 3)) (defScope (inClass (top 28) 3)) .none kV35 dc35 pm35 an35 cd35 ct35), sl35⟩)
    (c35 : PySem.W.codeIn K cd35 "Row.rates" = true)
    (k35 : PySem.W.keepIn K (.ref f35) = true)
    (lC : K.lookup C = some (excClassObj nm qn C N bs [.type "object"] hdct sn sub ab col dd q0 q1 q2 q3 q5 newId))
    (okN : PySem.W.nsOkIn K N = true)
    (n1 : PySem.W.nsIn K N "__eq__" = some (some (.ref f32)))
    (n2 : PySem.W.nsIn K N "__ne__" = some none)
    (ocf : oc32 = .type "function")
    (x1NoChance : PySem.W.nsIn K mainGlobals "NoChance" = some (some (.ref CNoChance)))
    (x2NoChance : PySem.W.excIn K CNoChance [.type "ArithmeticError", .type "Exception", .type "BaseException", .type "object"] "ArithmeticError.__new__" = true)
    (x3NoChance : PySem.W.subIn K (.ref CNoChance) (.type "BaseException") = some true)
    (x4NoChance : PySem.W.typeIn K (.ref CNoChance) = some (.type "type"))
    (x5NoChance : PySem.W.keepIn K (.ref CNoChance) = true)
    (x6NoChance : PySem.W.exmOne K (.ref CNoChance) (.ref CNoChance) = some true)
    (c_gcd : PySem.W.nsIn K mainGlobals "gcd" = some (some (.builtin "math.gcd")))
    (c_comb : PySem.W.nsIn K mainGlobals "comb" = some (some (.builtin "math.comb")))
    (c_lcm : PySem.W.nsIn K mainGlobals "lcm" = some (some (.builtin "math.lcm")))
    (c_MOST_DRAWS : PySem.W.nsIn K mainGlobals "MOST_DRAWS" = some (some (.int 5 tk)))
    (c_MOST_ROWS : PySem.W.nsIn K mainGlobals "MOST_ROWS" = some (some (.int 8 tk2)))
    (z_len : PySem.W.nsIn K mainGlobals "len" = some none)
    (z_abs : PySem.W.nsIn K mainGlobals "abs" = some none)
    (z_max : PySem.W.nsIn K mainGlobals "max" = some none)
    (z_min : PySem.W.nsIn K mainGlobals "min" = some none)
    (z_sum : PySem.W.nsIn K mainGlobals "sum" = some none)
    (z_range : PySem.W.nsIn K mainGlobals "range" = some none)
    (z_tuple : PySem.W.nsIn K mainGlobals "tuple" = some none)
    (z_int : PySem.W.nsIn K mainGlobals "int" = some none)
    (z_divmod : PySem.W.nsIn K mainGlobals "divmod" = some none)
    (z_all : PySem.W.nsIn K mainGlobals "all" = some none)
    (z_repr : PySem.W.nsIn K mainGlobals "repr" = some none)
    (z_isinstance : PySem.W.nsIn K mainGlobals "isinstance" = some none)
    (z_enumerate : PySem.W.nsIn K mainGlobals "enumerate" = some none)
    (z_bool : PySem.W.nsIn K mainGlobals "bool" = some none)
    (z_zip : PySem.W.nsIn K mainGlobals "zip" = some none)
    (z_str : PySem.W.nsIn K mainGlobals "str" = some none)
    (z_list : PySem.W.nsIn K mainGlobals "list" = some none)
    : ∃ (c Pt : Addr) (fd : FuncData), Maker K h c Pt ∧ (∀ (s : Shared) (u : Value), BindsTo s fd ⟨[u], []⟩ [("script", u)]) ∧ ∀ base : Heap, K.In base → base.Ns mainGlobals mg → LamX.TabB base mg c Pt → FnG l.prog w K mg base 12 fa fd ["script"] (spLawT K c Pt) := by
  have e := hfa.symm.trans (PySem.W.mg_of X G a30)
  cases e
  have D_law_vat : Df K mg "_law_vat" (top 41) ["script", "at"] := ⟨f1, _, fun_mk (st := (top 41)) l1 c1 k1, PySem.W.mg_of X G a1, (fun_mk (st := (top 41)) l1 c1 k1).binds (ps := ["script", "at"]) fun _ _ _ _ _ _ us hl => match us, hl with | [_, _], _ => rfl⟩
  have D_law_dip : Df K mg "_law_dip" (top 42) ["vat", "many"] := ⟨f2, _, fun_mk (st := (top 42)) l2 c2 k2, PySem.W.mg_of X G a2, (fun_mk (st := (top 42)) l2 c2 k2).binds (ps := ["vat", "many"]) fun _ _ _ _ _ _ us hl => match us, hl with | [_, _], _ => rfl⟩
  have D_law_shared : Df K mg "_law_shared" (top 43) ["one", "two"] := ⟨f3, _, fun_mk (st := (top 43)) l3 c3 k3, PySem.W.mg_of X G a3, (fun_mk (st := (top 43)) l3 c3 k3).binds (ps := ["one", "two"]) fun _ _ _ _ _ _ us hl => match us, hl with | [_, _], _ => rfl⟩
  have D_law_part : Df K mg "_law_part" (top 44) ["top", "bottom"] := ⟨f4, _, fun_mk (st := (top 44)) l4 c4 k4, PySem.W.mg_of X G a4, (fun_mk (st := (top 44)) l4 c4 k4).binds (ps := ["top", "bottom"]) fun _ _ _ _ _ _ us hl => match us, hl with | [_, _], _ => rfl⟩
  have D_law_sum : Df K mg "_law_sum" (top 45) ["parts_here"] := ⟨f5, _, fun_mk (st := (top 45)) l5 c5 k5, PySem.W.mg_of X G a5, (fun_mk (st := (top 45)) l5 c5 k5).binds (ps := ["parts_here"]) fun _ _ _ _ _ _ us hl => match us, hl with | [_], _ => rfl⟩
  have D_law_ways : Df K mg "_law_ways" (top 46) ["things", "some"] := ⟨f6, _, fun_mk (st := (top 46)) l6 c6 k6, PySem.W.mg_of X G a6, (fun_mk (st := (top 46)) l6 c6 k6).binds (ps := ["things", "some"]) fun _ _ _ _ _ _ us hl => match us, hl with | [_, _], _ => rfl⟩
  have D_law_whole : Df K mg "_law_whole" (top 47) ["parts_here"] := ⟨f7, _, fun_mk (st := (top 47)) l7 c7 k7, PySem.W.mg_of X G a7, (fun_mk (st := (top 47)) l7 c7 k7).binds (ps := ["parts_here"]) fun _ _ _ _ _ _ us hl => match us, hl with | [_], _ => rfl⟩
  have D_law_plain : Df K mg "_law_plain" (top 48) ["some"] := ⟨f8, _, fun_mk (st := (top 48)) l8 c8 k8, PySem.W.mg_of X G a8, (fun_mk (st := (top 48)) l8 c8 k8).binds (ps := ["some"]) fun _ _ _ _ _ _ us hl => match us, hl with | [_], _ => rfl⟩
  have D_law_counts : Df K mg "_law_counts" (top 49) ["vat", "way"] := ⟨f9, _, fun_mk (st := (top 49)) l9 c9 k9, PySem.W.mg_of X G a9, (fun_mk (st := (top 49)) l9 c9 k9).binds (ps := ["vat", "way"]) fun _ _ _ _ _ _ us hl => match us, hl with | [_, _], _ => rfl⟩
  have D_law_orders : Df K mg "_law_orders" (top 50) ["size"] := ⟨f10, _, fun_mk (st := (top 50)) l10 c10 k10, PySem.W.mg_of X G a10, (fun_mk (st := (top 50)) l10 c10 k10).binds (ps := ["size"]) fun _ _ _ _ _ _ us hl => match us, hl with | [_], _ => rfl⟩
  have D_law_due : Df K mg "_law_due" (top 51) ["some", "seen", "marked"] := ⟨f11, _, fun_mk (st := (top 51)) l11 c11 k11, PySem.W.mg_of X G a11, (fun_mk (st := (top 51)) l11 c11 k11).binds (ps := ["some", "seen", "marked"]) fun _ _ _ _ _ _ us hl => match us, hl with | [_, _, _], _ => rfl⟩
  have D_law_told : Df K mg "_law_told" (top 52) ["act"] := ⟨f12, _, fun_mk (st := (top 52)) l12 c12 k12, PySem.W.mg_of X G a12, (fun_mk (st := (top 52)) l12 c12 k12).binds (ps := ["act"]) fun _ _ _ _ _ _ us hl => match us, hl with | [_], _ => rfl⟩
  have D_law_right : DfC K mg "_law_right" (top 53) ["vat"] cR := ⟨f13, _, ⟨⟨_, _, _, _, _, _, _, _, rfl, l13, c13⟩, k13⟩, PySem.W.mg_of X G a13, (fun_mk (st := (top 53)) l13 c13 k13).binds (ps := ["vat"]) fun _ _ _ _ _ _ us hl => match us, hl with | [_], _ => rfl⟩
  have MKR : Maker K h cR PtR := ⟨PySem.W.codeHd_of_K X hC13, nP13, tabs _ (List.mem_singleton.mpr rfl)⟩
  have D_law_quiet : Df K mg "_law_quiet" (top 54) ["vat"] := ⟨f14, _, fun_mk (st := (top 54)) l14 c14 k14, PySem.W.mg_of X G a14, (fun_mk (st := (top 54)) l14 c14 k14).binds (ps := ["vat"]) fun _ _ _ _ _ _ us hl => match us, hl with | [_], _ => rfl⟩
  have Dis_whole : Df K mg "is_whole" (top 16) ["value"] := ⟨f15, _, fun_mk (st := (top 16)) l15 c15 k15, PySem.W.mg_of X G a15, (fun_mk (st := (top 16)) l15 c15 k15).binds (ps := ["value"]) fun _ _ _ _ _ _ us hl => match us, hl with | [_], _ => rfl⟩
  have Dcheck_number : Df K mg "check_number" (top 17) ["given", "least", "most"] := ⟨f16, _, fun_mk (st := (top 17)) l16 c16 k16, PySem.W.mg_of X G a16, (fun_mk (st := (top 17)) l16 c16 k16).binds (ps := ["given", "least", "most"]) fun _ _ _ _ _ _ us hl => match us, hl with | [_, _, _], _ => rfl⟩
  have Dis_fraction : Df K mg "is_fraction" (top 18) ["value"] := ⟨f17, _, fun_mk (st := (top 18)) l17 c17 k17, PySem.W.mg_of X G a17, (fun_mk (st := (top 18)) l17 c17 k17).binds (ps := ["value"]) fun _ _ _ _ _ _ us hl => match us, hl with | [_], _ => rfl⟩
  have Dis_chance : Df K mg "is_chance" (top 19) ["value"] := ⟨f18, _, fun_mk (st := (top 19)) l18 c18 k18, PySem.W.mg_of X G a18, (fun_mk (st := (top 19)) l18 c18 k18).binds (ps := ["value"]) fun _ _ _ _ _ _ us hl => match us, hl with | [_], _ => rfl⟩
  have Dlowest : Df K mg "lowest" (top 20) ["top", "bottom"] := ⟨f19, _, fun_mk (st := (top 20)) l19 c19 k19, PySem.W.mg_of X G a19, (fun_mk (st := (top 20)) l19 c19 k19).binds (ps := ["top", "bottom"]) fun _ _ _ _ _ _ us hl => match us, hl with | [_, _], _ => rfl⟩
  have Dadd_up_to_one : Df K mg "add_up_to_one" (top 21) ["shares"] := ⟨f20, _, fun_mk (st := (top 21)) l20 c20 k20, PySem.W.mg_of X G a20, (fun_mk (st := (top 21)) l20 c20 k20).binds (ps := ["shares"]) fun _ _ _ _ _ _ us hl => match us, hl with | [_], _ => rfl⟩
  have Dcheck_row : Df K mg "check_row" (top 29) ["row"] := ⟨f21, _, fun_mk (st := (top 29)) l21 c21 k21, PySem.W.mg_of X G a21, (fun_mk (st := (top 29)) l21 c21 k21).binds (ps := ["row"]) fun _ _ _ _ _ _ us hl => match us, hl with | [_], _ => rfl⟩
  have D_check_counts : Df K mg "_check_counts" (top 30) ["counts"] := ⟨f22, _, fun_mk (st := (top 30)) l22 c22 k22, PySem.W.mg_of X G a22, (fun_mk (st := (top 30)) l22 c22 k22).binds (ps := ["counts"]) fun _ _ _ _ _ _ us hl => match us, hl with | [_], _ => rfl⟩
  have Dmixed : Df K mg "mixed" (top 33) ["rows", "shares"] := ⟨f23, _, fun_mk (st := (top 33)) l23 c23 k23, PySem.W.mg_of X G a23, (fun_mk (st := (top 33)) l23 c23 k23).binds (ps := ["rows", "shares"]) fun _ _ _ _ _ _ us hl => match us, hl with | [_, _], _ => rfl⟩
  have Dfewer : Df K mg "fewer" (top 34) ["row", "draws"] := ⟨f24, _, fun_mk (st := (top 34)) l24 c24 k24, PySem.W.mg_of X G a24, (fun_mk (st := (top 34)) l24 c24 k24).binds (ps := ["row", "draws"]) fun _ _ _ _ _ _ us hl => match us, hl with | [_, _], _ => rfl⟩
  have Dbehind : Df K mg "behind" (top 35) ["row", "draws", "yes"] := ⟨f25, _, fun_mk (st := (top 35)) l25 c25 k25, PySem.W.mg_of X G a25, (fun_mk (st := (top 35)) l25 c25 k25).binds (ps := ["row", "draws", "yes"]) fun _ _ _ _ _ _ us hl => match us, hl with | [_, _, _], _ => rfl⟩
  have Dbehind_w : DfW K mg "behind" (top 35) ["row", "draws", "yes"] ["yes", "draws", "row"] [2, 1, 0] := ⟨f25, _, fun_mk (st := (top 35)) l25 c25 k25, PySem.W.mg_of X G a25, fun s ws hl => match ws, hl with | [_, _, _], _ => BindsTo.of_eq (by first | rfl | with_unfolding_all rfl | kernel_rfl)⟩
  have D_urn_counts : Df K mg "_urn_counts" (top 36) ["slips", "yes", "draws"] := ⟨f26, _, fun_mk (st := (top 36)) l26 c26 k26, PySem.W.mg_of X G a26, (fun_mk (st := (top 36)) l26 c26 k26).binds (ps := ["slips", "yes", "draws"]) fun _ _ _ _ _ _ us hl => match us, hl with | [_, _, _], _ => rfl⟩
  have D_blended : Df K mg "_blended" (top 37) ["tables", "shares"] := ⟨f27, _, fun_mk (st := (top 37)) l27 c27 k27, PySem.W.mg_of X G a27, (fun_mk (st := (top 37)) l27 c27 k27).binds (ps := ["tables", "shares"]) fun _ _ _ _ _ _ us hl => match us, hl with | [_, _], _ => rfl⟩
  have D_check_rows : Df K mg "_check_rows" (top 38) ["rows"] := ⟨f28, _, fun_mk (st := (top 38)) l28 c28 k28, PySem.W.mg_of X G a28, (fun_mk (st := (top 38)) l28 c28 k28).binds (ps := ["rows"]) fun _ _ _ _ _ _ us hl => match us, hl with | [_], _ => rfl⟩
  have D_are_shares : Df K mg "_are_shares" (top 39) ["value", "many"] := ⟨f29, _, fun_mk (st := (top 39)) l29 c29 k29, PySem.W.mg_of X G a29, (fun_mk (st := (top 39)) l29 c29 k29).binds (ps := ["value", "many"]) fun _ _ _ _ _ _ us hl => match us, hl with | [_, _], _ => rfl⟩
  have F__init__ := fun_mk (st := (inClass (top 28) 0)) l31 c31 k31
  have b__init__ := F__init__.binds (ps := ["self", "counts"]) fun _ _ _ _ _ _ us hl => match us, hl with | [_, _], _ => rfl
  have F__eq__ := fun_mk (st := (inClass (top 28) 7)) l32 c32 k32
  have b__eq__ := F__eq__.binds (ps := ["self", "other"]) fun _ _ _ _ _ _ us hl => match us, hl with | [_, _], _ => rfl
  have Fcounts := fun_mk (st := (inClass (top 28) 2)) l33 c33 k33
  have bcounts := Fcounts.binds (ps := ["self"]) fun _ _ _ _ _ _ us hl => match us, hl with | [_], _ => rfl
  have Pcounts : PropOf K C "counts" p33 f33 := ⟨a33, g33, t33, _, r33r⟩
  have Fdraws := fun_mk (st := (inClass (top 28) 4)) l34 c34 k34
  have bdraws := Fdraws.binds (ps := ["self"]) fun _ _ _ _ _ _ us hl => match us, hl with | [_], _ => rfl
  have Pdraws : PropOf K C "draws" p34 f34 := ⟨a34, g34, t34, _, r34r⟩
  have Frates := fun_mk (st := (inClass (top 28) 3)) l35 c35 k35
  have brates := Frates.binds (ps := ["self"]) fun _ _ _ _ _ _ us hl => match us, hl with | [_], _ => rfl
  have Prates : PropOf K C "rates" p35 f35 := ⟨a35, g35, t35, _, r35r⟩
  have c_NoChance := PySem.W.mg_of X G x1NoChance
  have eNoChance : ExcA K CNoChance := ⟨x2NoChance, x3NoChance, x4NoChance, x5NoChance, x6NoChance⟩
  have c_gcd := PySem.W.mg_of X G c_gcd
  have c_comb := PySem.W.mg_of X G c_comb
  have c_lcm := PySem.W.mg_of X G c_lcm
  have c_MOST_DRAWS := PySem.W.mg_of X G c_MOST_DRAWS
  have c_MOST_ROWS := PySem.W.mg_of X G c_MOST_ROWS
  have B : Bi mg := ⟨PySem.W.mg_none_of X G z_len, PySem.W.mg_none_of X G z_abs, PySem.W.mg_none_of X G z_max, PySem.W.mg_none_of X G z_min, PySem.W.mg_none_of X G z_sum, PySem.W.mg_none_of X G z_range, PySem.W.mg_none_of X G z_tuple, PySem.W.mg_none_of X G z_int, PySem.W.mg_none_of X G z_divmod, PySem.W.mg_none_of X G z_all, PySem.W.mg_none_of X G z_repr, PySem.W.mg_none_of X G z_isinstance, PySem.W.mg_none_of X G z_enumerate, PySem.W.mg_none_of X G z_bool, PySem.W.mg_none_of X G z_zip, PySem.W.mg_none_of X G z_str, PySem.W.mg_none_of X G z_list⟩
  have RC : RowC K mg C := ⟨⟨pg, hd, po, sa⟩, nC, PySem.W.mg_of X G aC, xa, xn, xt, xm⟩
  have NE := (⟨f32, N, _, nm, qn, bs, hdct, sn, sub, ab, col, dd, q0, q1, q2, q3, q5, newId, a32, lC, okN, n1, n2, l32, ocf⟩ : ∃ (f N : Addr) (of : Obj) (nm q : Str) (bs : List Value) (hdct : Bool) (sn : List Str) (sub : List Value) (ab : Bool) (col : Option Bool) (dd : Option Addr) (k0 k1 k2 k3 k5 : Option Value) (newId : String), PySem.W.findIn K (.ref C) "__eq__" = some (some (.ref f)) ∧ K.lookup C = some (excClassObj nm q C N bs [.type "object"] hdct sn sub ab col dd k0 k1 k2 k3 k5 newId) ∧ PySem.W.nsOkIn K N = true ∧ PySem.W.nsIn K N "__eq__" = some (some (.ref f)) ∧ PySem.W.nsIn K N "__ne__" = some none ∧ K.lookup f = some of ∧ of.cls = .type "function")
  have MK : Mk K C f31 := ⟨mk, a31, i31, kc⟩
  have EQ1 := a32
  have EQ2 := i32
  refine ⟨cR, PtR, PySem.W.fnOf "law" "law" (defArgs (top 55)) (defBody (top 55)) (defScope (top 55)) .none kV30 dc30 pm30 an30 cd30 ct30, MKR, fun s u => BindsTo.of_eq (by first | rfl | with_unfolding_all rfl), fun base _ _ TB => ?_⟩
  have h_law_vat := has_vat (P := l.prog) (w := w) (base := base) B D_law_vat
  have h_law_dip := has_dip (P := l.prog) (w := w) (base := base) B D_law_dip
  have h_law_shared := has_shared (P := l.prog) (w := w) (base := base) B D_law_shared
  have h_law_part := has_part h_law_shared D_law_part
  have his_whole := has_whole (P := l.prog) (w := w) (base := base) B Dis_whole
  have h_check_counts := has_check B c_MOST_DRAWS his_whole D_check_counts
  have hlowest := has_lowest (P := l.prog) (w := w) (base := base) c_gcd Dlowest
  have RT : RowT l.prog w K mg base C := ⟨RC, ⟨_, _, MK, ok_init F__init__ B RC c_gcd h_check_counts, b__init__⟩, ⟨_, _, _, Pcounts, ok_get Fcounts RC, bcounts⟩, ⟨_, _, _, Pdraws, ok_draws Fdraws B RC, bdraws⟩, ⟨_, _, _, Prates, ok_rates Frates B RC hlowest, brates⟩, ⟨_, _, EQ1, EQ2, ok_eq F__eq__ B RC, b__eq__⟩, NE⟩
  have hcheck_number := has_num his_whole Dcheck_number
  have hcheck_row := has_check_row (P := l.prog) (w := w) (base := base) B RC Dcheck_row
  have h_urn_counts := has_urn (P := l.prog) (w := w) (base := base) B c_comb D_urn_counts
  have h_blended := has_blend B RT c_lcm D_blended
  have hfewer := Has.of Dfewer fun f fd F => ok_fewer B RT hcheck_row hcheck_number h_urn_counts h_blended F
  have h_law_plain := has_plain B h_law_shared D_law_plain
  have h_law_whole := has_whole_l h_law_shared h_law_plain D_law_whole
  have his_fraction := has_frac B c_gcd his_whole Dis_fraction
  have his_chance := has_chance his_fraction Dis_chance
  have h_law_sum := has_sum h_law_part D_law_sum
  have hadd_up_to_one := has_add (P := l.prog) (w := w) (base := base) B c_lcm Dadd_up_to_one
  have h_are_shares := has_shares B his_chance hadd_up_to_one D_are_shares
  have h_check_rows := has_check_rows B RT c_MOST_ROWS D_check_rows
  have hmixed := Has.of Dmixed fun f fd F => ok_mixed B RT h_check_rows h_are_shares h_blended F
  have h_law_counts := has_counts B h_law_dip D_law_counts
  have h_law_ways := has_ways (P := l.prog) (w := w) (base := base) B D_law_ways
  have h_law_orders := has_orders (P := l.prog) (w := w) (base := base) B D_law_orders
  have h_law_due := has_due B h_law_orders h_law_part h_law_ways h_law_sum D_law_due
  have hbehind := HasX.of Dbehind fun f fd F => ok_behindX eNoChance c_NoChance B RT c_comb c_lcm hcheck_row hcheck_number F
  have hbehind_w := HasXW.of Dbehind_w fun f fd F => ok_behindX eNoChance c_NoChance B RT c_comb c_lcm hcheck_row hcheck_number F
  have h_law_right := has_right B RT (trier D_law_told c_NoChance) TB eNoChance h_law_dip h_law_counts h_law_due h_law_sum h_law_whole hbehind hbehind_w hmixed hfewer D_law_right
  have h_law_quiet := has_quiet h_law_right D_law_quiet
  exact ok_law B h_law_vat h_law_quiet (fun_mk l30 c30 k30)
end Dm
open PySem PySem.W PyProof.Rows in
set_option maxRecDepth 100000 in
set_option maxHeartbeats 0 in
theorem PySem.Challenge.cw_drawnmore_k15_whole_rows_behind_holds : PySem.Challenge.rw_drawnmore_k15_whole_rows_behind.Holds := by
  w_on; o_law; k_head; (case hw => w_witness2)
  k_fill
  refine Dm.walkGT (l := PySem.Challenge.rw_drawnmore_k15_whole_rows_behind) (n := 63) (k := 12) (x := "script") (sp := Dm.spLawT) rfl (by decide) rfl ⟨rfl, by decide, by decide⟩ (fun w h Y => PySem.W.km_in_of Y) ?F (fun K c Pt H a ns hl hT hS => ⟨a, ns, rfl, hS, hl, hT, fun _ => rfl⟩)
  case F =>
    intro w mg fa h Y KX G hmg
    refine' Dm.all_mk KX G hmg ?tabs ?a1 ?l1 ?c1 ?k1 ?a2 ?l2 ?c2 ?k2 ?a3 ?l3 ?c3 ?k3 ?a4 ?l4 ?c4 ?k4 ?a5 ?l5 ?c5 ?k5 ?a6 ?l6 ?c6 ?k6 ?a7 ?l7 ?c7 ?k7 ?a8 ?l8 ?c8 ?k8 ?a9 ?l9 ?c9 ?k9 ?a10 ?l10 ?c10 ?k10 ?a11 ?l11 ?c11 ?k11 ?a12 ?l12 ?c12 ?k12 ?a13 ?l13 ?c13 ?k13 ?hC13 ?nP13 ?a14 ?l14 ?c14 ?k14 ?a15 ?l15 ?c15 ?k15 ?a16 ?l16 ?c16 ?k16 ?a17 ?l17 ?c17 ?k17 ?a18 ?l18 ?c18 ?k18 ?a19 ?l19 ?c19 ?k19 ?a20 ?l20 ?c20 ?k20 ?a21 ?l21 ?c21 ?k21 ?a22 ?l22 ?c22 ?k22 ?a23 ?l23 ?c23 ?k23 ?a24 ?l24 ?c24 ?k24 ?a25 ?l25 ?c25 ?k25 ?a26 ?l26 ?c26 ?k26 ?a27 ?l27 ?c27 ?k27 ?a28 ?l28 ?c28 ?k28 ?a29 ?l29 ?c29 ?k29 ?a30 ?l30 ?c30 ?k30 ?aC ?pg ?hd ?po ?sa ?mk ?kc ?nC ?xa ?xn ?xt ?xm ?a31 ?i31 ?l31 ?c31 ?k31 ?a32 ?i32 ?l32 ?c32 ?k32 ?a33 ?g33 ?t33 ?r33r ?l33 ?c33 ?k33 ?a34 ?g34 ?t34 ?r34r ?l34 ?c34 ?k34 ?a35 ?g35 ?t35 ?r35r ?l35 ?c35 ?k35 ?lC ?okN ?n1 ?n2 ?ocf ?x1NoChance ?x2NoChance ?x3NoChance ?x4NoChance ?x5NoChance ?x6NoChance ?c_gcd ?c_comb ?c_lcm ?c_MOST_DRAWS ?c_MOST_ROWS ?z_len ?z_abs ?z_max ?z_min ?z_sum ?z_range ?z_tuple ?z_int ?z_divmod ?z_all ?z_repr ?z_isinstance ?z_enumerate ?z_bool ?z_zip ?z_str ?z_list
    (case tabs => exact PySem.W.km_tabs_of Y)
    (case a1 => k_is)
    (case l1 => k_is)
    (case c1 => k_is)
    (case k1 => k_is)
    (case a2 => k_is)
    (case l2 => k_is)
    (case c2 => k_is)
    (case k2 => k_is)
    (case a3 => k_is)
    (case l3 => k_is)
    (case c3 => k_is)
    (case k3 => k_is)
    (case a4 => k_is)
    (case l4 => k_is)
    (case c4 => k_is)
    (case k4 => k_is)
    (case a5 => k_is)
    (case l5 => k_is)
    (case c5 => k_is)
    (case k5 => k_is)
    (case a6 => k_is)
    (case l6 => k_is)
    (case c6 => k_is)
    (case k6 => k_is)
    (case a7 => k_is)
    (case l7 => k_is)
    (case c7 => k_is)
    (case k7 => k_is)
    (case a8 => k_is)
    (case l8 => k_is)
    (case c8 => k_is)
    (case k8 => k_is)
    (case a9 => k_is)
    (case l9 => k_is)
    (case c9 => k_is)
    (case k9 => k_is)
    (case a10 => k_is)
    (case l10 => k_is)
    (case c10 => k_is)
    (case k10 => k_is)
    (case a11 => k_is)
    (case l11 => k_is)
    (case c11 => k_is)
    (case k11 => k_is)
    (case a12 => k_is)
    (case l12 => k_is)
    (case c12 => k_is)
    (case k12 => k_is)
    (case a13 => k_is)
    (case l13 => k_is)
    (case c13 => k_is)
    (case k13 => k_is)
    (case hC13 => kernel_rfl)
    (case nP13 => kernel_rfl)
    (case a14 => k_is)
    (case l14 => k_is)
    (case c14 => k_is)
    (case k14 => k_is)
    (case a15 => k_is)
    (case l15 => k_is)
    (case c15 => k_is)
    (case k15 => k_is)
    (case a16 => k_is)
    (case l16 => k_is)
    (case c16 => k_is)
    (case k16 => k_is)
    (case a17 => k_is)
    (case l17 => k_is)
    (case c17 => k_is)
    (case k17 => k_is)
    (case a18 => k_is)
    (case l18 => k_is)
    (case c18 => k_is)
    (case k18 => k_is)
    (case a19 => k_is)
    (case l19 => k_is)
    (case c19 => k_is)
    (case k19 => k_is)
    (case a20 => k_is)
    (case l20 => k_is)
    (case c20 => k_is)
    (case k20 => k_is)
    (case a21 => k_is)
    (case l21 => k_is)
    (case c21 => k_is)
    (case k21 => k_is)
    (case a22 => k_is)
    (case l22 => k_is)
    (case c22 => k_is)
    (case k22 => k_is)
    (case a23 => k_is)
    (case l23 => k_is)
    (case c23 => k_is)
    (case k23 => k_is)
    (case a24 => k_is)
    (case l24 => k_is)
    (case c24 => k_is)
    (case k24 => k_is)
    (case a25 => k_is)
    (case l25 => k_is)
    (case c25 => k_is)
    (case k25 => k_is)
    (case a26 => k_is)
    (case l26 => k_is)
    (case c26 => k_is)
    (case k26 => k_is)
    (case a27 => k_is)
    (case l27 => k_is)
    (case c27 => k_is)
    (case k27 => k_is)
    (case a28 => k_is)
    (case l28 => k_is)
    (case c28 => k_is)
    (case k28 => k_is)
    (case a29 => k_is)
    (case l29 => k_is)
    (case c29 => k_is)
    (case k29 => k_is)
    (case a30 => k_is)
    (case l30 => k_is)
    (case c30 => k_is)
    (case k30 => k_is)
    (case aC => k_is)
    (case pg => k_is)
    (case hd => k_is)
    (case po => k_is)
    (case sa => k_is)
    (case mk => k_is)
    (case kc => k_is)
    (case nC => k_is)
    (case xa => k_is)
    (case xn => k_is)
    (case xt => k_is)
    (case xm => k_is)
    (case a31 => k_is)
    (case i31 => k_is)
    (case l31 => k_is)
    (case c31 => k_is)
    (case k31 => k_is)
    (case a32 => k_is)
    (case i32 => k_is)
    (case l32 => k_is)
    (case c32 => k_is)
    (case k32 => k_is)
    (case a33 => k_is)
    (case g33 => k_is)
    (case t33 => k_is)
    (case r33r => k_is)
    (case l33 => k_is)
    (case c33 => k_is)
    (case k33 => k_is)
    (case a34 => k_is)
    (case g34 => k_is)
    (case t34 => k_is)
    (case r34r => k_is)
    (case l34 => k_is)
    (case c34 => k_is)
    (case k34 => k_is)
    (case a35 => k_is)
    (case g35 => k_is)
    (case t35 => k_is)
    (case r35r => k_is)
    (case l35 => k_is)
    (case c35 => k_is)
    (case k35 => k_is)
    (case lC => k_is)
    (case okN => kernel_rfl)
    (case n1 => k_is)
    (case n2 => k_is)
    (case ocf => rfl)
    (case x1NoChance => k_is)
    (case x2NoChance => kernel_rfl)
    (case x3NoChance => k_is)
    (case x4NoChance => k_is)
    (case x5NoChance => k_is)
    (case x6NoChance => kernel_rfl)
    (case c_gcd => k_is)
    (case c_comb => k_is)
    (case c_lcm => k_is)
    (case c_MOST_DRAWS => k_is)
    (case c_MOST_ROWS => k_is)
    (case z_len => k_is)
    (case z_abs => k_is)
    (case z_max => k_is)
    (case z_min => k_is)
    (case z_sum => k_is)
    (case z_range => k_is)
    (case z_tuple => k_is)
    (case z_int => k_is)
    (case z_divmod => k_is)
    (case z_all => k_is)
    (case z_repr => k_is)
    (case z_isinstance => k_is)
    (case z_enumerate => k_is)
    (case z_bool => k_is)
    (case z_zip => k_is)
    (case z_str => k_is)
    (case z_list => k_is)
