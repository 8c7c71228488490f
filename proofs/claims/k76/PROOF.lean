import PyProof.Rows.All
import Wide.All
import OpenK.AllK
import Wide.FinOn
import PySem.Challenge.RW_drawnmore_k76_whole_two_draws
import HandS.ForMost
import HandS.ForExc
import HandS.Property
import HandS.IsInst
import HandS.Gcd
import HandS.Wide
import HandS.WideBits
import PyProof.ReprRoads
import PyProof.InstNe
import KE.GoesEnum
import KE.KTupSum
import HandS.Walk
import KE.GoesMore
import KE.GoesZip
import KE.KMathGC
import HandS.Zip
import HandS.Style
import HandS.TupAny
import HandS.Conv
import HandS.Star
import HandS.TupLe
import Flt.RightSqrt
import HandS.SortInts
import PyProof.CallFns
set_option Elab.async false
set_option linter.all false
set_option maxRecDepth 100000
set_option maxHeartbeats 8000000
namespace Dm
open PySem PySem.Spec PyProof.Rows L2

/-! ## promises that hold where no guard is under way -/
structure FnG (P : Program) (w : World) (K : PySem.W.Frag) (mg : Str → Option Value) (base : Heap) (k : Nat)
    (f : Addr) (fd : FuncData) (ps : List Str) (sp : Sp) : Prop where
  len : ∀ vs H Q E, sp vs H Q E → vs.length = ps.length
  run : ∀ (A : Around) (outer : List Env) (s : Shared) (H : Hp) (args : Args) (us : List Value) (vs : List V) (Q : VK) (E : XK),
    A.guards = some [] → Room k A → Env0 P w K mg base A outer s H → BindsTo s fd args (ps.zip us) → Vals vs us → sp vs H Q E →
    codeAny (model P w) A (.call (.ref f) args) (CR CX0 outer P w H s Q E) s

section
variable {P : Program} {w : World} {K : PySem.W.Frag} {mg : Str → Option Value} {base : Heap}

/-- a def by its body, its caller's stack free of guards -/
theorem okG {x qual : Str} {st : Stmt} {f : Addr} {fd : FuncData} {N ps : List Str} {k : Nat} {sp : Sp}
    (F : Fun K x qual st f fd) (S : FnScope N ps (defScope st))
    (hlen : ∀ vs H Q E, sp vs H Q E → vs.length = ps.length)
    (hb : ∀ (cdv : Value) (A : Around) (outer : List Env) (s : Shared) (H : Hp) (vs : List V) (Q : VK) (E : XK),
      A.guards = some [] → Room k (A.deeper (envOfC qual (defScope st) s.heap.objs.size f cdv)) → sp vs H Q E →
      ∃ t, PSs (cxOf CX0 P w K mg base N qual (defScope st) f cdv A outer s H E).nox (defBody st) t ∧
        t { nx := fun _ H' => Q .non H', rt := Q } (start N vs) H) :
    FnG P w K mg base (k + 1) f fd ps sp := by
  obtain ⟨oc, od, kV, doc, pm, an, cdv, ct, osl, rfl, look, hcode⟩ := F.ex
  constructor
  · exact hlen
  intro A outer s H args us vs Q E hgd hrm env0 hbinds rel hsp
  have hl := hlen _ _ _ _ hsp
  have inK : K.In s.heap := env0.mod.kin.keeps fun a o h => (env0.bs a o h).1
  have nolim : s.heap.NoLimit := env0.mod.nolimit.keeps fun a o h => (env0.bs a o h).1
  have kinds : ∀ y ∈ ps.zip us, (defScope st).names.lookup y.1 = some .local ∨
      ((defScope st).names.lookup y.1 = some .cell ∧ ((cellsFrom (s.heap.objs.size + 1) (defScope st).names []).lookup y.1).isSome = true) := by
    intro ⟨n, v⟩ hy
    cases S.par n (List.of_mem_zip hy).1 with
    | inl q => exact .inl q
    | inr q => exact .inr ⟨q, PySem.W.cellsFrom_some _ _ _ (.inl q)⟩
  apply codeAny_call_function hrm.depth (inK _ _ look) rfl S.co S.gen rfl
    (PySem.W.codeRec_of inK hcode) (hbinds _ _ _ _ ?_)
  refine wpAny_newFunctionEnv_cells S.kind kinds fun env henv s1 ic => ?_
  subst henv
  refine ⟨nolim.keeps ic.toInCall.keep, codeAny_func ?_⟩
  obtain ⟨t, ht, hq⟩ := hb cdv A outer s H vs Q E hgd (hrm.deeper _) hsp
  have I := inv_start (CX := CX0) (E := E) S hrm.hd env0 hl rel ic
  refine wpAny_mono (ht.nox.run [] s1 (start N vs) H _ I hq) (fun fl s' hs => ?_) fun _ _ hs => hs
  have done : ∀ {σ' : L2.St} {H' : Hp} {v : V} {u : Value},
      Inv (cxOf CX0 P w K mg base N qual (defScope st) f cdv A outer s H E) [] σ' H' s' → RelV v u → Q v H' →
      CE outer P w H s Q u s' := fun J rv q => ⟨_, _, J.os, J.bare, J.base, J.hok, rv, q⟩
  cases fl with
  | ret u =>
    obtain ⟨v, σ', H', J, rv, q⟩ := hs
    exact done J rv q
  | next =>
    obtain ⟨σ', H', J, q⟩ := hs
    exact done (v := V.non) (u := Value.none) J rfl q
  | brk =>
    obtain ⟨_, _, _, q⟩ := hs
    exact q.elim
  | cont =>
    obtain ⟨_, _, _, q⟩ := hs
    exact q.elim

theorem FnG.of {k : Nat} {f : Addr} {fd : FuncData} {ps : List Str} {sp : Sp} (F : FnOk P w K mg base CX0 k f fd ps sp) :
    FnG P w K mg base k f fd ps sp := ⟨F.len, fun A o s H a us vs Q E _ => F.run A o s H a us vs Q E⟩

/-- the global x is a def that keeps sp -/
def Has (P : Program) (w : World) (K : PySem.W.Frag) (mg : Str → Option Value) (base : Heap) (x : Str) (k : Nat) (ps : List Str) (sp : Sp) : Prop :=
  ∃ f fd, FnOk P w K mg base CX0 k f fd ps sp ∧ mg x = some (.ref f) ∧ PySem.W.keepIn K (.ref f) = true ∧ Binds K fd ps []
def HasG (P : Program) (w : World) (K : PySem.W.Frag) (mg : Str → Option Value) (base : Heap) (x : Str) (k : Nat) (ps : List Str) (sp : Sp) : Prop :=
  ∃ f fd, FnG P w K mg base k f fd ps sp ∧ mg x = some (.ref f) ∧ PySem.W.keepIn K (.ref f) = true ∧ Binds K fd ps []
/-- the def st of the text stands under its name -/
def Df (K : PySem.W.Frag) (mg : Str → Option Value) (x : Str) (st : Stmt) (ps : List Str) : Prop :=
  ∃ f fd, Fun K x x st f fd ∧ mg x = some (.ref f) ∧ Binds K fd ps []
end

section
variable {X : Cx}
def tF (sp : Sp) (t : TA) : TE := fun σ H Q => t σ H fun vs H1 => sp vs H1 Q E0
theorem pe_has {x : Str} {k : Nat} {ps : List Str} {sp : Sp} {p pos : Pos} {e : Expr} {es : List Expr} {t : TA}
    (h : Has X.prog X.w X.K X.mg X.base x k ps sp) (hr : Room k X.A) (ha : PA X (e :: es) t) (hg : Gl X x := by rfl)
    (hdb : (x == ("__debug__" : Str)) = false := by decide)
    (he : starEach (e :: es) X.env = (false, eval e X.env) :: starEach es X.env := by rfl)
    (hpl : (backTo pos (starEach es X.env)).any (·.1) = false := by rfl) :
    PE X (.Call (.Name x p) (e :: es) [] pos) (tF sp t) := by
  obtain ⟨f, fd, F, hm, hk, hb⟩ := h
  have q := pe_call (X := X) (p := p) (pos := pos) F hr hg hm hk hb .nil (pass0 (X := X)) ha hdb he hpl
  refine ⟨fun pins s σ H Q I hq => q.run pins s σ H Q I ?_⟩
  show t σ H fun vs H1 => sp (vs ++ []) H1 Q E0
  simp only [List.append_nil]
  exact hq
theorem pe_hasG {x : Str} {k : Nat} {ps : List Str} {sp : Sp} {p pos : Pos} {e : Expr} {es : List Expr} {t : TA}
    (h : HasG X.prog X.w X.K X.mg X.base x k ps sp) (hgd : X.A.guards = some []) (hr : Room k X.A) (ha : PA X (e :: es) t) (hg : Gl X x := by rfl)
    (hdb : (x == ("__debug__" : Str)) = false := by decide)
    (he : starEach (e :: es) X.env = (false, eval e X.env) :: starEach es X.env := by rfl)
    (hpl : (backTo pos (starEach es X.env)).any (·.1) = false := by rfl) :
    PE X (.Call (.Name x p) (e :: es) [] pos) (tF sp t) := by
  obtain ⟨f, fd, F, hm, hk, hb⟩ := h
  refine ⟨fun pins s σ H Q I hq => ?_⟩
  apply wpAny_Call_Name_kw (ld_glob I hg hm ?_ hdb)
  apply PySem.W.callWith_K (h₀ := X.base) I.ok.mod.kin hk ?_ he hpl
  refine thn (ha.run pos pins s σ H _ I hq) fun us s1 ⟨vs, H1, I1, rel, hsp⟩ => ⟨I1.kIn, ?_⟩
  have hl : us.length = ps.length := by rw [← rel.length]; exact F.len _ _ _ _ hsp
  have bnd := hb s1 us I1.kIn (by rw [List.append_nil]; exact hl)
  rw [List.append_nil] at bnd
  refine wpAny_call (codeAny_mono (F.run X.A X.stack s1 H1 ⟨us, []⟩ us vs Q E0 hgd hr I1.env0 bnd rel hsp) fun r s' hc => ?_)
  cases r with
  | error er => exact ((pass0 (X := X)) pins σ H1 s1 er s' I1 hc)
  | ok fl =>
    cases fl with
    | ret u => exact I1.after hc
    | next => exact hc.elim
    | brk => exact hc.elim
    | cont => exact hc.elim

theorem PE.imp {e : Expr} {t t' : TE} (h : PE X e t) (hi : ∀ σ H Q, t' σ H Q → t σ H Q) : PE X e t' :=
  ⟨fun pins s σ H Q I hq => h.run pins s σ H Q I (hi σ H Q hq)⟩
theorem PT.imp {e : Expr} {t t' : TT} (h : PT X e t) (hi : ∀ σ H Q, t' σ H Q → t σ H Q) : PT X e t' :=
  ⟨fun pins s σ H Q I hq => h.run pins s σ H Q I (hi σ H Q hq)⟩
end


/-- the law's call, its def kept where no guard is under way -/
theorem law_callG {P : Program} {w : World} {K : PySem.W.Frag} {mg mb : Str → Option Value} {k : Nat} {fa a : Addr} {fd : FuncData} {x : Str} {sp : Sp} {s : Shared} {vs : List Value} {ns : List Int}
    (inK : K.In s.heap) (gl : s.heap.Ns mainGlobals mg) (bl : s.heap.Ns builtinsNs mb)
    (bb : ∀ y : Str, y ≠ "__name__" → mb y = bootBuiltins y) (nolim : s.heap.NoLimit) (gens : s.gens = #[])
    (obj : s.heap.get? a = some { cls := .type "list", data := .seq vs.toArray }) (ia : IntsAre vs ns) (short : ns.length ≤ sizeLine) (hrm : Room k callerA)
    (F : ∀ base : Heap, K.In base → base.Ns mainGlobals mg → FnG P w K mg base k fa fd [x] sp)
    (bind : ∀ (s : Shared) (u : Value), BindsTo s fd ⟨[u], []⟩ [(x, u)])
    (hsp : ∀ H : Hp, SqL K H a (ns.map V.int) → sp [.ref a] H (fun v _ => v = .bl true) fun _ _ _ => False) :
    codeAny (model P w) callerA (.call (.ref fa) ⟨[.ref a], []⟩)
      (fun r s' => r = .ok (.ret (.bool true)) ∧ OldK s.heap s'.heap ∧ s'.os = s.os ∧ AllBare s'.gens) s := by
  have vals := vals_ints ia
  have many := ia.length
  have main : ∀ H : Hp, Only H → SqL K H a (ns.map V.int) → HOk P w H s.heap → (∀ b, H b ≠ none → b = a) → (H a ≠ none → K.lookup a = none) →
      codeAny (model P w) callerA (.call (.ref fa) ⟨[.ref a], []⟩)
        (fun r s' => r = .ok (.ret (.bool true)) ∧ OldK s.heap s'.heap ∧ s'.os = s.os ∧ AllBare s'.gens) s := by
    intro H only script hok alone notK
    have dictFree : ∀ {b : Addr} {o : Obj} {es : Array DictEntry} {ep : Nat},
        s.heap.get? b = some o → o.data = .dict es ep → H b = none := by
      intro b o es ep e d
      cases q : H b with
      | none => rfl
      | some u =>
        have eb := alone b (by rw [q]; simp)
        subst eb
        rw [obj] at e
        cases e
        have d2 : Data.seq vs.toArray _ = Data.dict es ep := d
        cases d2
    have nsOf : ∀ {b : Addr} {m : Str → Option Value}, s.heap.Ns b m → (hidT s.heap H).Ns b m := by
      intro b m ⟨o, es, ep, e, d, r⟩
      exact ⟨o, es, ep, hidT_get e (dictFree e d), d, r⟩
    have inB : K.In (hidT s.heap H) := by
      intro b o e
      refine hidT_get (inK b o e) ?_
      cases q : H b with
      | none => rfl
      | some u =>
        have eb := alone b (by rw [q]; simp)
        subst eb
        have z := notK (by rw [q]; simp)
        rw [z] at e
        cases e
    have md : Mod K mg (hidT s.heap H) := by
      obtain ⟨mc, h1, h2⟩ := nolim
      exact ⟨inB, nsOf gl, ⟨mb, nsOf bl, bb⟩, ⟨mc, nsOf h1, h2⟩⟩
    have env0 : Env0 P w K mg (hidT s.heap H) callerA [] s H :=
      ⟨rfl, md, fun b o e => of_hidT e, Nat.le_of_eq (hidT_size _ _), trivial, fun b z => absurd (show b ∈ ([] : List Addr) from z) (by simp), hok, .of_eq gens⟩
    have run := (F _ inB (nsOf gl)).run callerA [] s H ⟨[.ref a], []⟩ [.ref a] [.ref a] _ _ rfl hrm env0 (bind s (.ref a)) (.cons rfl .nil) (hsp H script)
    refine codeAny_mono run fun r s' h => ?_
    cases r with
    | error e => exact h.elim
    | ok fl =>
      cases fl with
      | next => exact h.elim
      | brk => exact h.elim
      | cont => exact h.elim
      | ret u =>
        obtain ⟨v, H', os, bare, un, hok2, rel, q⟩ := h
        have q2 : v = .bl true := q
        subst q2
        obtain rfl : u = Value.bool true := rel
        refine ⟨rfl, OldK.of_keep fun b o e => ?_, os, bare⟩
        cases q : H b with
        | none =>
          have nn : b ∉ frs ([] : List Env) := fun z => absurd (show b ∈ ([] : List Addr) from z) (by simp)
          exact un.keep b o e q nn (by simp)
        | some u =>
          rcases only b with z | ⟨ob, xs, z⟩
          · rw [q] at z
            cases z
          · obtain ⟨e1, _⟩ := hok b _ z
            obtain ⟨e2, _⟩ := hok2 b _ (un.frzs b ob _ z)
            rw [e] at e1
            cases e1
            exact e2
  cases hk : K.lookup a with
  | some o =>
    have e := inK a o hk
    rw [obj] at e
    cases e
    refine main (fun _ => none) (fun _ => .inl rfl) (.inr ⟨_, vs.toArray, _, hk, rfl, rfl, rfl, ?_, ?_⟩) (fun b u z => ?_) (fun b z => absurd rfl z) fun z => absurd rfl z
    · rw [List.size_toArray, many]
      exact short
    · simpa using vals
    · have z2 : (none : Option HO) = some u := z
      cases z2
  | none =>
    refine main (fun b => if b = a then some (.frz { cls := .type "list", data := .seq vs.toArray } (.lst (ns.map V.int))) else none)
      (fun b => ?_) (.inl (.inr ⟨{ cls := .type "list", data := .seq vs.toArray }, if_pos rfl⟩)) (fun b u z => ?_) (fun b z => ?_) fun _ => hk
    · by_cases eb : b = a
      · exact .inr ⟨_, _, if_pos eb⟩
      · exact .inl (if_neg eb)
    · by_cases eb : b = a
      · have z2 := (if_pos eb).symm.trans z
        cases z2
        subst eb
        exact ⟨obj, by rw [List.length_map]; exact short, vs, _, vals, obj⟩
      · have z2 := (if_neg eb).symm.trans z
        cases z2
    · by_cases eb : b = a
      · exact eb
      · exact absurd (if_neg eb) z

/-- the goal behind the head -/
theorem walkG {l : PySem.W.OpenLaw} {n k : Nat} {q : Program} {loose : List Str} {XP : (Str → Option Value) → Heap → Prop} {YP : World → Heap → Prop} {d : DefRec} {K : Params → PySem.W.Frag} {sp : PySem.W.Frag → Sp} {x : Str}
    (hn : l.most = some n) (hn2 : n ≤ sizeLine) (hdf : d.params.defaults = []) (hrm : Room k callerA)
    (hY : ∀ (w : World) (h : Heap), YP w h → (K w.params).In h)
    (F : ∀ (w : World) (mg : Str → Option Value) (fa : Addr) (h : Heap), (K w.params).In h → h.Ns mainGlobals mg → mg d.name = some (.ref fa) →
      ∃ fd : FuncData, (∀ (s : Shared) (u : Value), BindsTo s fd ⟨[u], []⟩ [(x, u)]) ∧
        ∀ base : Heap, (K w.params).In base → base.Ns mainGlobals mg → FnG l.prog w (K w.params) mg base k fa fd [x] (sp (K w.params)))
    (hsp : ∀ (K : PySem.W.Frag) (H : Hp) (a : Addr) (ns : List Int), ns.length ≤ n → SqL K H a (ns.map V.int) → sp K [.ref a] H (fun v _ => v = .bl true) fun _ _ _ => False) :
    PySem.W.WalkO q loose XP YP l.row.toRowW d [] (fun f vs => PySem.call f vs) := by
  refine Att.attach_call hn hdf fun w s₀ s₁ mg mb fa o pm cd doc a vs ns G Y ho hd hcd hmg hobj hints hlen hg => ?_
  obtain ⟨fd, hb, hF⟩ := F w mg fa _ (hY w _ Y) G.T.g hmg
  exact law_callG (hY w _ Y) G.T.g G.T.b G.T.builtins G.T.nolimit hg hobj hints (Nat.le_trans hlen hn2) hrm hF hb fun H hS => hsp _ H a ns hlen hS

/-! enumerate of a tuple, sum of a tuple -/

/-- behind enumerate(t): the tuple's iterator, the enumerate object -/
def enumSt (s : Shared) (t : Addr) : Shared :=
  { s with heap := Heap.push (s.heap.push { cls := .type "tuple_iterator", data := .fields #[.ref t, .int 0 0] }) { cls := .type "enumerate", data := .fields #[.none, .bool false, .ref s.heap.objs.size, rawInt 0, .none, .none] } }
theorem meets_enumT (t : Addr) (items : Array Value) :
    Meets (Builtin.«enumerate.__new__» ⟨[.type "enumerate", .ref t], []⟩) (fun _ R s => s.heap.IsTuple t items ∧
      R (.ok (.ret (.ref (s.heap.push { cls := .type "tuple_iterator", data := .fields #[.ref t, .int 0 0] }).objs.size)))
        (enumSt s t)) :=
  .of_wp fun prog w A R s h => by
    obtain ⟨hp, g, d, tk, os⟩ := s
    obtain ⟨ht, h⟩ := h
    have sub := sub_enumerate
    have q1 : ∀ {A' : Around} {E : Value → Shared → Prop} {Q : Value → Shared → Prop},
        Q (.ref hp.objs.size) ⟨hp.push { cls := .type "tuple_iterator", data := .fields #[.ref t, .int 0 0] }, g, d, tk, os⟩ →
        wpAny (model prog w) A' (pyIter (.ref t)) Q E ⟨hp, g, d, tk, os⟩ :=
      fun q => wpAny_pyIter_tuple (s := ⟨hp, g, d, tk, os⟩) ht q
    wp_walk using q1
    refine wpAny_stack_any fun st => wpAny_pure ?_
    split
    · rename_i c _ _ _ _ _
      cases (c == Value.type "enumerate") <;> (wp_walk using q1; exact ⟨_, rfl, h⟩)
    · wp_walk using q1
      exact ⟨_, rfl, h⟩

section
variable {prog : Program} {w : World} {A : Around} {E : Value → Shared → Prop} {s : Shared}
theorem call_enumT {l : Addr} {items : Array Value} {Q : Value → Shared → Prop} (hL : s.heap.IsTuple l items)
    (h : ∀ h', IsEnum h' (s.heap.objs.size + 1) s.heap.objs.size 0 .none → h'.IsTupleIter s.heap.objs.size l 0 →
      (∀ b o, s.heap.get? b = some o → h'.get? b = some o) → Q (.ref (s.heap.objs.size + 1)) { s with heap := h' }) :
    wpAny (model prog w) A (call (.type "enumerate") [.ref l]) Q E s := by
  refine callType_new F.called_enumerate (by decide) (F.typeCall_enumerate_1 _) (F.newCall_enumerate_1 _)
    (fun obj => F.args_object_init_2 obj _) F.entry_enumerate_new (meets_enumT l items) ⟨hL, ?_⟩
  have sz : (s.heap.push { cls := .type "tuple_iterator", data := .fields #[.ref l, .int 0 0] }).objs.size = s.heap.objs.size + 1 := Heap.size_push ..
  show _ ∧ _
  rw [sz]
  have got := Heap.get?_push_size (s.heap.push { cls := .type "tuple_iterator", data := .fields #[.ref l, .int 0 0] })
    (o := { cls := .type "enumerate", data := .fields #[.none, .bool false, .ref s.heap.objs.size, rawInt 0, .none, .none] }) rfl
  rw [sz] at got
  have en : IsEnum ((s.heap.push { cls := .type "tuple_iterator", data := .fields #[.ref l, .int 0 0] }).push
      { cls := .type "enumerate", data := .fields #[.none, .bool false, .ref s.heap.objs.size, rawInt 0, .none, .none] })
      (s.heap.objs.size + 1) s.heap.objs.size 0 .none := got
  have itr : Heap.IsTupleIter ((s.heap.push { cls := .type "tuple_iterator", data := .fields #[.ref l, .int 0 0] }).push
      { cls := .type "enumerate", data := .fields #[.none, .bool false, .ref s.heap.objs.size, rawInt 0, .none, .none] }) s.heap.objs.size l 0 :=
    ⟨_, Heap.get?_push_of_some _ (Heap.get?_push_size _ rfl), rfl, rfl⟩
  exact ⟨⟨_, got, rfl⟩, h _ en itr fun b o x => Heap.get?_push_of_some _ (Heap.get?_push_of_some _ x)⟩
end

/-- the tuple at a, each item in a new pair with its place -/
def Iet (K : PySem.W.Frag) (a : Addr) : It :=
  ⟨fun i H => ∃ (xs : List V) (x : V), SqT K H a xs ∧ xs[i]? = some x,
   fun i H v H' => ∃ T x, v = .ref T ∧ H T = none ∧ H' = upd H T (.tup [.int (i : Nat), x]) ∧ ∀ xs, SqT K H a xs → xs[i]? = some x,
   fun i H => ∃ xs : List V, SqT K H a xs ∧ xs.length ≤ i⟩

theorem turn_enumT {P : Program} {w : World} {K : PySem.W.Frag} {elts : List Expr} {kk : Nat} {tpos : Pos} (a e it : Addr) :
    Turn P w K (.Tuple elts kk tpos) (Iet K a) [e, it] e (fun i h => (∃ old, IsEnum h e it ((i : Nat) : Int) old) ∧ h.IsTupleIter it a i ∧ e ≠ it) where
  mem := by simp
  obj := by
    intro i h st b hb
    obtain ⟨⟨old, he⟩, ⟨o, ho, hc, hd⟩, _⟩ := st
    have eb : b = e ∨ b = it := by simpa using hb
    cases eb with
    | inl z =>
      rw [z]
      exact ⟨_, he, fun v q => nomatch q⟩
    | inr z =>
      rw [z]
      refine ⟨o, ho, fun v q => ?_⟩
      rw [hd] at q
      cases q
  keep := fun i h h' st k =>
    let ⟨⟨old, he⟩, hi, hne⟩ := st
    ⟨⟨old, k e (by simp) _ he⟩, hi.at fun o q => k it (by simp) o q, hne⟩
  item := by
    intro X hP hw hK hc i pins s σ H E I hf st hg
    subst hP hw hK
    obtain ⟨⟨old, he⟩, hit, hne⟩ := st
    obtain ⟨xs, x, hq, hx⟩ := hg
    obtain ⟨its, rv, p, hz⟩ := I.tuple hq
    obtain ⟨u, hu, ru⟩ := rv.get hx
    have hel : e < s.heap.objs.size := Heap.lt_size he
    have hil : it < s.heap.objs.size := by
      obtain ⟨_, q, _⟩ := hit
      exact Heap.lt_size q
    have isT : s.heap.IsTuple a its.toArray := p
    have ane : a ≠ it := by
      intro z
      obtain ⟨o1, h1, c1, _⟩ := isT
      obtain ⟨o2, h2, c2, _⟩ := hit
      rw [z, h2] at h1
      cases h1
      rw [c1] at c2
      exact absurd c2 (by decide)
    have aee : e ≠ a := by
      intro z
      obtain ⟨o1, h1, c1, _⟩ := isT
      have h2 : s.heap.get? e = _ := he
      rw [z, h1] at h2
      have c2 : Value.type "tuple" = Value.type "enumerate" := c1.symm.trans (congrArg Obj.cls (Option.some.inj h2))
      exact absurd c2 (by decide)
    have D := Draws.tuple (prog := X.prog) (w := X.w) (A := X.A.in1) (I.ok.hd hc) it a ane its.toArray
    have hlt : i < its.toArray.size := by
      have := (List.getElem?_eq_some_iff.mp hu).1
      simpa using this
    refine wpAny_pyNext_enum_itemD D he ⟨hit, isT⟩ hlt hne (by simp [hne, aee]) fun x' h' tk hP ho hst' hT hsz hk => ?_
    have ex : x' = u := by
      have z : its.toArray[i]? = some x' := hP
      rw [List.getElem?_toArray, hu] at z
      cases z
      rfl
    subst ex
    refine ⟨_, rfl, wpAny_letOwnedTupleGo_enum (s := { s with heap := h', toks := tk + 1 }) ho fun h'' he' sb => ?_⟩
    have hT2 : h''.get? s.heap.objs.size = some { cls := .type "tuple", data := .seq #[.int i tk, x'] } := (sb.2 _ (Nat.ne_of_gt hel)).trans hT
    have new : ObjOk X.prog X.w (upd H s.heap.objs.size (.tup [.int (i : Nat), x])) h'' s.heap.objs.size (.tup [.int (i : Nat), x]) := by
      refine ⟨by show 2 ≤ sizeLine; decide, [.int i tk, x'], ?_, ⟨_, hT2, rfl, _, rfl⟩⟩
      exact .cons ⟨_, rfl⟩ (.cons ru .nil)
    have I1 : Inv X pins σ (upd H s.heap.objs.size (.tup [.int (i : Nat), x])) { s with heap := h'', toks := tk + 1 } := by
      refine I.turnedNew (ch := [e, it]) (fun b ob hb q => ?_) hf (Nat.le_refl _) new
      have b1 : b ≠ e := fun z => hb (by simp [z])
      have b2 : b ≠ it := fun z => hb (by simp [z])
      exact (sb.2 b b1).trans (hk b ob b1 b2 q)
    refine ⟨.ref s.heap.objs.size, _, I1, rfl, ⟨_, x, rfl, I.hok.fresh (Nat.le_refl _), rfl, fun ys hy => ?_⟩, ⟨⟨x', ?_⟩, ?_, hne⟩, fun b hb => ?_⟩
    · rw [I.tuple_inj hy hq]
      exact hx
    · have e1 : ((i + 1 : Nat) : Int) = (i : Int) + 1 := by omega
      rw [e1]
      exact he'
    · exact hst'.1.at fun o q => (sb.2 it (Ne.symm hne)).trans q
    · have small : b < s.heap.objs.size := by
        have eb : b = e ∨ b = it := by simpa using hb
        cases eb with
        | inl z => rw [z]; exact hel
        | inr z => rw [z]; exact hil
      rw [upd_ne (Nat.ne_of_lt small)]
      exact (hf b hb).1
  done := by
    intro X hP hw hK hc i pins s σ H E I hf st hg
    subst hP hw hK
    obtain ⟨⟨old, he⟩, hit, hne⟩ := st
    obtain ⟨xs, hq, hx⟩ := hg
    obtain ⟨its, rv, p, hz⟩ := I.tuple hq
    obtain ⟨f0, f1, f2, f3, f4, f5⟩ := hf it (by simp)
    have isT : s.heap.IsTuple a its.toArray := p
    have hl := rv.length
    -- past the end the iterator's place does not matter: i is at least the length
    have hd : wpAny (model X.prog X.w) X.A (pyNext (.ref e)) (fun r s1 => r = none ∧ Inv X pins σ H s1) E s := by
      have hT : s.TypeIs (.ref e) "enumerate" := ⟨_, he, rfl⟩
      unfold pyNext
      refine wpAny_bind (wpAny_attempt (wpAny_callSpecial?_slot (name := Str.ofString "__next__") hT F.slot_enumerate_next
        (wpAny_call_entry F.slot_enumerate_next hT F.entry_enumerate_next ?_ (F.args_enumerate_next_1 _))))
      show wpAny _ _ (field (.ref e) 2 >>= _) _ _ _
      refine wpAny_bind (wpAny_field he rfl (x := .ref it) rfl ?_)
      refine wpAny_bind (wpAny_nextOf_tuple_end (I.ok.hd hc) hit isT (by simp; omega) fun h' x eb hx' => ?_)
      obtain ⟨o, ho, hcl⟩ := hx'
      refine wpAny_bind (wpAny_isInstance (T := "StopIteration") (b := true) ⟨o, ho, hcl⟩ isSubtype_stop ?_)
      exact wpAny_pure ⟨rfl, I.turned (t' := s.toks) (fun b o hb q => eb b o hb q) f0 f1 f3 f4 f5⟩
    exact hd
  self := fun A i s Q E st h => let ⟨⟨_, he⟩, _⟩ := st; wpAny_pyIter_enum he h

def iEnumT (K : PySem.W.Frag) (ta : TA) : TI := fun σ H R => ta σ H fun vs H1 => ∃ a xs, vs = [.ref a] ∧ SqT K H1 a xs ∧ R (Iet K a) H1
theorem pi_enumT {X : Cx} {e : Expr} {ta : TA} {p pos tpos : Pos} {elts : List Expr} {kk : Nat} (hg : Gl X "enumerate") (hm : X.mg "enumerate" = none) (ha : PA X [e] ta)
    (hs : starEach [e] X.env = [(false, eval e X.env)] := by rfl) :
    PI X (.Tuple elts kk tpos) (.Call (.Name "enumerate" p) [e] [] pos) (iEnumT X.K ta) := by
  refine ⟨fun pins s σ H R I h => ?_⟩
  refine Call_ (ld_blt I hg hm boot_enumerate ?_)
  refine PyProof.Rows.callWith_type1 (thn (ha.run pos pins s σ H _ I h) fun us s1 ⟨vs, H1, I1, r1, q1⟩ => ?_) hs rfl
  obtain ⟨a, xs, ex, hq, q⟩ := q1
  subst ex
  have eu := Vals.ref1 r1
  subst eu
  obtain ⟨its, rv, p', hz⟩ := I1.tuple hq
  refine call_enumT (show s1.heap.IsTuple a its.toArray from p') fun h' he hit hk => wpAny_pyIter_enum he ?_
  have I2 : Inv X pins σ H1 { s1 with heap := h' } := I1.kept (t' := s1.toks) hk
  refine ⟨s1.heap.objs.size + 1, [s1.heap.objs.size + 1, s1.heap.objs.size], _, _, H1, rfl, I2,
    turn_enumT a (s1.heap.objs.size + 1) s1.heap.objs.size, ⟨⟨.none, he⟩, hit, Nat.succ_ne_self _⟩, fun b hb => ?_, q⟩
  have eb : b = s1.heap.objs.size + 1 ∨ b = s1.heap.objs.size := by simpa using hb
  have hle : s1.heap.objs.size ≤ b := by
    cases eb with
    | inl z => rw [z]; exact Nat.le_add_right _ _
    | inr z => rw [z]; exact Nat.le_refl _
  exact I1.fpOk hle (I1.hok.fresh hle)
theorem walk_enumT {K : PySem.W.Frag} {a : Addr} {xs : List V} :
    Walk (Iet K a) xs.length (fun H => SqT K H a xs) (YPair (fun i => some (.int (i : Nat))) (fun i => xs[i]?)) := by
  refine ⟨fun i _ hi q => ⟨xs, xs[i], q, by simp [hi]⟩, fun _ q => ⟨xs, q, Nat.le_refl _⟩, fun i H v H' _ q y => ?_⟩
  obtain ⟨T, x, h1, h2, h3, h4⟩ := y
  exact ⟨T, .int (i : Nat), x, h1, h2, h3, rfl, h4 xs q⟩

section
variable {X : Cx}
def rSumN (K : PySem.W.Frag) : List V → Hp → VK → Prop := fun vs H Q => ∃ (a : Addr) (ns : List Int), vs = [V.ref a] ∧ (SqL K H a (ns.map V.int) ∨ SqT K H a (ns.map V.int)) ∧ Q (.int ns.sum) H
theorem cr_sumN (hc : X.calm = true) : CallR X (.builtin "sum") (rSumN X.K) := by
  intro pins s σ H vs us Q I r h
  obtain ⟨a, ns, rfl, hs, q⟩ := h
  cases hs with
  | inl hs => exact cr_sum hc pins s σ H _ us Q I r ⟨a, ns, rfl, hs, q⟩
  | inr hs =>
    obtain ⟨its, rv, hl, _⟩ := I.tuple hs
    have isT : s.heap.IsTuple a its.toArray := hl
    rw [Vals.ref1 r]
    have hi := rv.ints
    obtain ⟨xs, e⟩ := hi.allInts.items
    have hn : numsOf (intItems xs).toList = ns := by
      rw [← e]
      exact hi.numsOf
    rw [nums_intItems] at hn
    rw [e] at isT
    refine PySem.W.ktm_sumG (I.ok.hd hc) isT fun h' tk t' hk => ⟨.int ns.sum, H, I.kept hk, ?_, q⟩
    refine ⟨t', ?_⟩
    rw [preSum_eq, List.take_of_length_le (by simp), hn]
end

/-! heaps that grow; rules whose readings say it -/

/-! ### relations of heaps -/
def Ex (H H' : Hp) : Prop := ∀ a o, H a = some o → H' a = some o
/-- all but lists are kept -/
def Kp (H H' : Hp) : Prop := ∀ a o, H a = some o → (∀ xs, o ≠ .lst xs) → H' a = some o
theorem Ex.refl (H : Hp) : Ex H H := fun _ _ h => h
theorem Ex.trans {H H1 H2 : Hp} (a : Ex H H1) (b : Ex H1 H2) : Ex H H2 := fun x o h => b x o (a x o h)
theorem Ex.new {H : Hp} {p : Addr} {o : HO} (h : H p = none) : Ex H (upd H p o) := fun a u e => by
  rw [upd_ne (ne_of_none e h)]
  exact e
theorem Ex.kp {H H' : Hp} (e : Ex H H') : Kp H H' := fun a o h _ => e a o h
theorem Ex.free {H H' : Hp} (e : Ex H H') {l : Addr} (h : H' l = none) : H l = none := by
  cases q : H l with
  | none => rfl
  | some o =>
    rw [e l o q] at h
    cases h
theorem Kp.refl (H : Hp) : Kp H H := fun _ _ h _ => h
theorem Kp.trans {H H1 H2 : Hp} (a : Kp H H1) (b : Kp H1 H2) : Kp H H2 := fun x o h n => b x o (a x o h n) n

/-- the draws' list: a figure, a seed, a counter -/
def VatAt (H : Hp) (v : Addr) : Prop := ∃ a b c : Int, H v = some (.lst [.int a, .int b, .int c]) ∧ 0 ≤ a ∧ 0 ≤ b ∧ b < 2147483323 ∧ 0 ≤ c
/-- what calls that draw leave -/
structure Gv (v : Addr) (H H' : Hp) : Prop where
  old : VatAt H v
  keep : ∀ a o, a ≠ v → H a = some o → H' a = some o
  new : VatAt H' v
theorem VatAt.ex {H H' : Hp} {v : Addr} (h : VatAt H v) (e : Ex H H') : VatAt H' v := by
  obtain ⟨a, b, c, h1, h2⟩ := h
  exact ⟨a, b, c, e _ _ h1, h2⟩
theorem Gv.kp {v : Addr} {H H' : Hp} (g : Gv v H H') : Kp H H' := fun a o h n => by
  refine g.keep a o (fun z => ?_) h
  obtain ⟨x, y, w, h1, _⟩ := g.old
  rw [z, h1] at h
  exact n _ (Option.some.inj h).symm
theorem Gv.of {v : Addr} {H H' : Hp} (h : VatAt H v) (e : Ex H H') : Gv v H H' := ⟨h, fun a o _ q => e a o q, h.ex e⟩
theorem Gv.refl {v : Addr} {H : Hp} (h : VatAt H v) : Gv v H H := Gv.of h (Ex.refl H)
theorem Gv.trans {v : Addr} {H H1 H2 : Hp} (a : Gv v H H1) (b : Gv v H1 H2) : Gv v H H2 :=
  ⟨a.old, fun x o n h => b.keep x o n (a.keep x o n h), b.new⟩
theorem Gv.ex {v : Addr} {H H1 H2 : Hp} (a : Gv v H H1) (b : Ex H1 H2) : Gv v H H2 := a.trans (Gv.of a.new b)
/-- where the list is new nothing old is changed -/
theorem Gv.out {v : Addr} {H H1 H2 : Hp} (n : H v = none) (e : Ex H H1) (g : Gv v H1 H2) : Ex H H2 := fun a o h =>
  g.keep a o (fun z => by rw [z, n] at h; cases h) (e a o h)
theorem Gv.lst {v l : Addr} {H H' : Hp} {xs : List V} (g : Gv v H H') (n : l ≠ v) (h : H l = some (.lst xs)) : H' l = some (.lst xs) := g.keep l _ n h

theorem sqT_kp {K : PySem.W.Frag} {H H' : Hp} {a : Addr} {xs : List V} (h : SqT K H a xs) (e : Kp H H') : SqT K H' a xs := by
  rcases h with (h | ⟨o, h⟩) | h
  · exact .inl (.inl (e _ _ h (fun _ z => nomatch z)))
  · exact .inl (.inr ⟨o, e _ _ h (fun _ z => nomatch z)⟩)
  · exact .inr h
theorem sqL_ex {K : PySem.W.Frag} {H H' : Hp} {a : Addr} {xs : List V} (h : SqL K H a xs) (e : Ex H H') : SqL K H' a xs := by
  rcases h with (h | ⟨o, h⟩) | h
  · exact .inl (.inl (e _ _ h))
  · exact .inl (.inr ⟨o, e _ _ h⟩)
  · exact .inr h

/-! ### new objects, told by what they hold -/
section
variable {X : Cx} {f : Value} {g : Value → Value → Sem Value}
theorem CallR.imp {r r' : List V → Hp → VK → Prop} (h : CallR X f r) (hi : ∀ vs H Q, r' vs H Q → r vs H Q) : CallR X f r' :=
  fun pins s σ H xs us Q I rel q => h pins s σ H xs us Q I rel (hi _ _ _ q)
theorem OpR.imp {r r' : R2} (h : OpR X g r) (hi : ∀ x y H Q, r' x y H Q → r x y H Q) : OpR X g r' :=
  fun pins s σ H x y v u Q I rx ry q => h pins s σ H x y v u Q I rx ry (hi _ _ _ _ q)
theorem SlR.imp {r r' : V → Option Int → Option Int → Hp → VK → Prop} (h : SlR X r) (hi : ∀ x lo hi H Q, r' x lo hi H Q → r x lo hi H Q) : SlR X r' :=
  fun pins s σ H x v vl vu lo hi' sl Q I rx hs pl pu q => h pins s σ H x v vl vu lo hi' sl Q I rx hs pl pu (hi _ _ _ _ _ q)

/-- a new object o, all else as it was -/
def New (H : Hp) (o : HO) (Q : VK) : Prop := ∀ p H', H p = none → Ex H H' → H' p = some o → Q (.ref p) H'
theorem New.at {H : Hp} {o : HO} {Q : VK} (h : New H o Q) : ∀ p, H p = none → Q (.ref p) (upd H p o) :=
  fun p n => h p _ n (Ex.new n) upd_same

def nLst (t : TA) : TE := fun σ H Q => t σ H fun xs H1 => xs.length ≤ sizeLine ∧ New H1 (.lst xs) Q
def nTup (t : TA) : TE := fun σ H Q => t σ H fun xs H1 => xs.length ≤ sizeLine ∧ New H1 (.tup xs) Q
end
section
variable {X : Cx} {es : List Expr} {t : TA} {pos : Pos}
/-- a reading closed under what follows from the wanted -/
def tm (t : TA) : TA := fun σ H R => ∃ R0 : List V → Hp → Prop, t σ H R0 ∧ ∀ vs H', R0 vs H' → R vs H'
theorem PA.mon (h : PA X es t) : PA X es (tm t) := by
  refine ⟨fun pos pins s σ H R I ⟨R0, h0, hi⟩ => thn (h.run pos pins s σ H R0 I h0) fun us s' q => ?_⟩
  obtain ⟨vs, H', I', rel, z⟩ := q
  exact ⟨vs, H', I', rel, hi vs H' z⟩
theorem pe_lstN (h : PA X es t) : PE X (.List es pos) (nLst t) :=
  ⟨fun pins s σ H Q I hq => (pe_lst (PA.mon h)).run pins s σ H Q I ⟨_, hq, fun vs H' ⟨z, n⟩ => ⟨z, n.at⟩⟩⟩
theorem pe_tupN {k : Nat} (h : PA X es t) : PE X (.Tuple es k pos) (nTup t) :=
  ⟨fun pins s σ H Q I hq => (pe_tup (PA.mon h)).run pins s σ H Q I ⟨_, hq, fun vs H' ⟨z, n⟩ => ⟨z, n.at⟩⟩⟩

/-- tuple(x) of a list, of a tuple -/
def rTupleN (K : PySem.W.Frag) : List V → Hp → VK → Prop := fun vs H Q => ∃ p ys, vs = [.ref p] ∧ SqL K H p ys ∧ New H (.tup ys) Q
theorem call_tupleN : CallR X (.type "tuple") (rTupleN X.K) :=
  CallR.imp call_tuple_of fun vs H Q ⟨p, ys, e, h, n⟩ => ⟨p, ys, e, .inl ⟨h, n.at⟩⟩
def rListN (K : PySem.W.Frag) : List V → Hp → VK → Prop := fun vs H Q => ∃ p ys, vs = [.ref p] ∧ (SqL K H p ys ∨ SqT K H p ys) ∧ New H (.lst ys) Q
theorem call_list_ofN : CallR X (.type "list") (rListN X.K) :=
  CallR.imp call_list_of fun vs H Q ⟨p, ys, e, h, n⟩ => ⟨p, ys, e, h, n.at⟩
/-- divmod by a positive number below 2 ^ 9000 -/
def rDivmodN : List V → Hp → VK → Prop := fun vs H Q => ∃ i j, vs = [.int i, .int j] ∧ 0 < j ∧ j.natAbs.log2 < 9000 ∧ New H (.tup [.int (i / j), .int (i % j)]) Q
theorem call_divmodN : CallR X (.builtin "divmod") rDivmodN :=
  CallR.imp call_divmodW fun vs H Q ⟨i, j, e, h0, h1, n⟩ => ⟨i, j, e, ⟨h0, PyProof.noPylong_of_log2 h1⟩, n.at⟩
/-- xs + ys, two lists that may be written -/
def rCatN : R2 := fun x y H Q => ∃ l b xs zs, x = .ref l ∧ y = .ref b ∧ H l = some (.lst xs) ∧ H b = some (.lst zs) ∧ xs.length + zs.length ≤ sizeLine ∧ New H (.lst (xs ++ zs)) Q
theorem op_catN : OpR X (binaryOp .Add) rCatN :=
  OpR.imp op_cat fun x y H Q ⟨l, b, xs, zs, e1, e2, h1, h2, z, n⟩ => ⟨l, b, xs, zs, e1, e2, h1, h2, z, n.at⟩
def rRepN : R2 := fun x y H Q => ∃ l k xs, x = .ref l ∧ y = .int k ∧ H l = some (.lst xs) ∧ 0 ≤ k ∧ k < 2 ^ 63 ∧ xs.length * k.toNat ≤ sizeLine ∧ New H (.lst (List.replicate k.toNat xs).flatten) Q
theorem op_repN : OpR X (binaryOp .Mult) rRepN :=
  OpR.imp op_rep fun x y H Q ⟨l, k, xs, e1, e2, h1, h2, h3, z, n⟩ => ⟨l, k, xs, e1, e2, h1, by omega, h3, z, n.at⟩
def rSlN (K : PySem.W.Frag) : V → Option Int → Option Int → Hp → VK → Prop := fun x lo hi H Q => ∃ a xs, x = .ref a ∧ SqL K H a xs ∧ New H (.lst (cutV xs lo hi)) Q
theorem sl_listN : SlR X (rSlN X.K) := SlR.imp sl_list fun x lo hi H Q ⟨a, xs, e, h, n⟩ => ⟨a, xs, e, h, n.at⟩
end

/-! ### data -/
/-- v tells d in H -/
abbrev Is (K : PySem.W.Frag) (H : Hp) (v : V) (d : PyData) : Prop := Dp K H v d
mutual
theorem dp_kp {K : PySem.W.Frag} {H H' : Hp} (e : Ex H H') : ∀ (d : PyData) (v : V), Dp K H v d → Dp K H' v d
  | .none, _, h => by cases h; exact .non
  | .bool _, _, h => by cases h; exact .bl _
  | .int _, _, h => by cases h; exact .int _
  | .str _, _, h => by cases h; exact .str _
  | .list ds, _, h => by
    cases h with
    | lst hs ha => exact .lst (sqL_ex hs e) (dpAll_kp e ds _ ha)
  | .tuple ds, _, h => by
    cases h with
    | tup hs ha => exact .tup (sqT_kp hs e.kp) (dpAll_kp e ds _ ha)
  | .dict _, _, h => by cases h
theorem dpAll_kp {K : PySem.W.Frag} {H H' : Hp} (e : Ex H H') : ∀ (ds : List PyData) (vs : List V), DpAll K H vs ds → DpAll K H' vs ds
  | [], _, h => by cases h; exact .nil
  | d :: ds, _, h => by
    cases h with
    | cons h1 h2 => exact .cons (dp_kp e d _ h1) (dpAll_kp e ds _ h2)
end
theorem dp_ints {K : PySem.W.Frag} {H : Hp} : ∀ ns : List Int, DpAll K H (ns.map V.int) (ns.map PyData.int)
  | [] => .nil
  | _ :: ns => .cons (.int _) (dp_ints ns)
/-- data without lists is kept by all that keeps tuples -/
def noList : PyData → Bool
  | .list _ => false
  | .tuple ds => noLists ds
  | _ => true
where noLists : List PyData → Bool
  | [] => true
  | d :: ds => noList d && noLists ds
mutual
theorem dp_keep {K : PySem.W.Frag} {H H' : Hp} (e : Kp H H') : ∀ (d : PyData) (v : V), noList d = true → Dp K H v d → Dp K H' v d
  | .none, _, _, h => by cases h; exact .non
  | .bool _, _, _, h => by cases h; exact .bl _
  | .int _, _, _, h => by cases h; exact .int _
  | .str _, _, _, h => by cases h; exact .str _
  | .list ds, _, n, _ => by simp [noList] at n
  | .tuple ds, _, n, h => by
    cases h with
    | tup hs ha => exact .tup (sqT_kp hs e) (dpAll_keep e ds _ (by simpa [noList] using n) ha)
  | .dict _, _, _, h => by cases h
theorem dpAll_keep {K : PySem.W.Frag} {H H' : Hp} (e : Kp H H') : ∀ (ds : List PyData) (vs : List V), noList.noLists ds = true → DpAll K H vs ds → DpAll K H' vs ds
  | [], _, _, h => by cases h; exact .nil
  | d :: ds, _, n, h => by
    cases h with
    | cons h1 h2 =>
      simp only [noList.noLists, Bool.and_eq_true] at n
      exact .cons (dp_keep e d _ n.1 h1) (dpAll_keep e ds _ n.2 h2)
end

section
variable {X : Cx}
/-- != of two that tell one and the same -/
def rNeN (K : PySem.W.Frag) : R2 := fun x y H Q => ∃ d, Dp K H x d ∧ Dp K H y d ∧ SeqAt.shaped d = true ∧ Q (.bl false) H
theorem op_neDN (hu : X.A.units + 64 < cLine) : OpR X (compareOp .NotEq) (rNeN X.K) :=
  OpR.imp (op_neD hu) fun x y H Q ⟨d, h1, h2, z, q⟩ => ⟨d, d, h1, h2, z, z, by rw [SeqAt.eqv_refl _ (SeqAt.canLay_of_shaped z)]; exact q⟩
def rEqN (K : PySem.W.Frag) : R2 := fun x y H Q => ∃ d, Dp K H x d ∧ Dp K H y d ∧ SeqAt.shaped d = true ∧ Q (.bl true) H
theorem op_eqDN (hu : X.A.units + 64 < cLine) : OpR X (compareOp .Eq) (rEqN X.K) :=
  OpR.imp (op_eqD hu) fun x y H Q ⟨d, h1, h2, z, q⟩ => ⟨d, d, h1, h2, z, z, by rw [SeqAt.eqv_refl _ (SeqAt.canLay_of_shaped z)]; exact q⟩
end

/-! ### repr -/
mutual
def costD : PyData → Nat
  | .none => 4
  | .bool _ => 5
  | .int _ => 1930
  | .str x => (reprText x).length
  | .list ds => costs ds + 3
  | .tuple ds => costs ds + 3
  | .dict _ => 0
def costs : List PyData → Nat
  | [] => 0
  | d :: ds => costD d + 2 + costs ds
end
theorem listText_len : ∀ ts : List Str, (listText ts).length ≤ piled ts + 2
  | [] => by decide +kernel
  | t :: r => by
    have e1 : ("[" : Str).length = 1 := rfl
    have e2 : ("]" : Str).length = 1 := rfl
    have e3 : ("" : Str).length = 0 := rfl
    unfold listText
    rw [strLen_append]
    show (textFrom (0 + 1) (("[" : Str) ++ (if (0 : Nat) > 0 then ", " else "" : String) ++ t) r).length + _ ≤ _
    rw [textFrom_length_pos _ _ _ (Nat.succ_pos 0), if_neg (by decide), strLen_append, strLen_append, e1, e2, piled_cons]
    show 1 + ("" : Str).length + t.length + piled r + 1 ≤ _
    rw [e3]
    omega
theorem tupleText_len (ts : List Str) : (tupleText ts).length ≤ piled ts + 3 := by
  have e3 : (((if ts.length == 1 then ",)" else ")" : String) : Str)).length ≤ 2 := by split <;> decide +kernel
  have e1 : ("(" : Str).length = 1 := rfl
  unfold tupleText
  rw [strLen_append, strLen_append, e1]
  by_cases h : ts = []
  · subst h
    decide +kernel
  · have := join_length_add ts h
    omega
mutual
theorem shown_cost : ∀ d : PyData, d.showable = true → d.hasDict = false → d.shown.length ≤ costD d
  | .none, _, _ => by decide +kernel
  | .bool b, _, _ => by cases b <;> decide +kernel
  | .int i, h, _ => by
    have h1 : i.natAbs.log2 < 1920 := by simpa [PyData.showable] using h
    have h2 := int_text_length_le (k := 1920) (by decide) h1
    show (Str.ofString (toString i)).length ≤ 1930
    rw [PySem.ofString_length]
    omega
  | .str x, _, _ => Nat.le_refl _
  | .list ds, h, n => by
    have q := showns_cost ds (by simpa [PyData.showable] using h) (by simpa [PyData.hasDict] using n)
    have q2 := listText_len (PyData.shownAll ds)
    show (listText (PyData.shownAll ds)).length ≤ costs ds + 3
    omega
  | .tuple ds, h, n => by
    have q := showns_cost ds (by simpa [PyData.showable] using h) (by simpa [PyData.hasDict] using n)
    have q2 := tupleText_len (PyData.shownAll ds)
    show (tupleText (PyData.shownAll ds)).length ≤ costs ds + 3
    omega
  | .dict _, _, n => by simp [PyData.hasDict] at n
theorem showns_cost : ∀ ds : List PyData, PyData.showableAll ds = true → PyData.hasDictAll ds = false → piled (PyData.shownAll ds) ≤ costs ds
  | [], _, _ => Nat.le_refl _
  | d :: ds, h, n => by
    simp only [PyData.showableAll, Bool.and_eq_true] at h
    simp only [PyData.hasDictAll, Bool.or_eq_false_iff] at n
    have q1 := shown_cost d h.1 n.1
    have q2 := showns_cost ds h.2 n.2
    show piled (d.shown :: PyData.shownAll ds) ≤ costD d + 2 + costs ds
    rw [piled_cons]
    omega
end
section
variable {X : Cx}
/-- repr of data that is a list or a tuple -/
def rRepr (K : PySem.W.Frag) : List V → Hp → VK → Prop := fun vs H Q => ∃ a d, vs = [V.ref a] ∧ Dp K H (.ref a) d ∧ d.showable = true ∧ d.hasDict = false ∧ d.depth ≤ 20 ∧ costD d ≤ sizeLine ∧ Q (.str d.shown) H
theorem cr_repr (hg : X.A.guards = some []) (hu : X.A.units + 64 < cLine) : CallR X (.builtin "repr") (rRepr X.K) := by
  intro pins s σ H vs us Q I r h
  obtain ⟨a, d, rfl, hd, h1, h2, h3, h4, q⟩ := h
  obtain ⟨as, rd⟩ := Dp.reads I d (.ref a) (.ref a) hd rfl
  rw [Vals.ref1 r]
  have sz := shown_cost d h1 h2
  refine repr_of_reads' rd h1 (fun z => ?_) hg (by omega) (fun _ _ e => e) (fun h' u tk hk => ⟨.str d.shown, H, I.kept hk, ⟨u, rfl⟩, q⟩) (by omega)
  rw [h2] at z
  cases z
end

/-! readings run by rewriting -/

def LoopW (J : It) (g : TG) (tb : TS) (D : Ends) (σ : L2.St) (H1 : Hp) : Prop :=
  ∃ W : Nat → Nat → L2.St → Hp → Prop, (∃ m, W 0 m σ H1) ∧ ∀ (i m : Nat) (σ : L2.St) (H : Hp), W i m σ H →
    (J.stop i H ∧ D.nx σ H) ∨ (J.go i H ∧ ∃ N : L2.St → Hp → Prop, (∀ (σ' : L2.St) (H' : Hp), N σ' H' → ∃ m', m' < m ∧ W (i + 1) m' σ' H') ∧
      ∀ (x : V) (H' : Hp), J.yld i H x H' → g x σ H' fun σ2 H2 => tb { nx := N, rt := D.rt, bk := D.nx, ct := N } σ2 H2)
def LcW (J : It) (g : TG) (tt : TT) (te : TE) (vs : List Nat) (σ : L2.St) (H1 : Hp) (D : Addr) (Q : VK) : Prop :=
  ∃ W : Nat → Nat → Hp → Prop, (∃ m, W 0 m (upd H1 D (.lst []))) ∧ ∀ (i m : Nat) (H : Hp), W i m H →
    (J.stop i H ∧ Q (V.ref D) H) ∨ (J.go i H ∧ ∃ Nx : Hp → Prop, (∀ (H' : Hp), Nx H' → ∃ m', m' < m ∧ W (i + 1) m' H') ∧
      ∀ (x : V) (H' : Hp), J.yld i H x H' → g x (wipe σ vs) H' fun σ2 H2 => wipe σ2 vs = wipe σ vs ∧ tt σ2 H2 fun b H3 =>
        if b = true then te σ2 H3 fun y H4 => ∃ acc, H4 D = some (.lst acc) ∧ acc.length < sizeLine ∧ Nx (upd H4 D (.lst (acc ++ [y]))) else Nx H3)
section
variable {X : Cx}
def tmE (t : TE) : TE := fun σ H R => ∃ R0 : VK, t σ H R0 ∧ ∀ v H', R0 v H' → R v H'
theorem PE.mon {e : Expr} {t : TE} (h : PE X e t) : PE X e (tmE t) := by
  refine ⟨fun pins s σ H R I ⟨R0, h0, hi⟩ => thn (h.run pins s σ H R0 I h0) fun u s' q => ?_⟩
  obtain ⟨v, H', I', rel, z⟩ := q
  exact ⟨v, H', I', rel, hi v H' z⟩
def tmT (t : TT) : TT := fun σ H R => ∃ R0 : Bool → Hp → Prop, t σ H R0 ∧ ∀ v H', R0 v H' → R v H'
theorem PT.mon {e : Expr} {t : TT} (h : PT X e t) : PT X e (tmT t) := by
  refine ⟨fun pins s σ H R I ⟨R0, h0, hi⟩ => thn (h.run pins s σ H R0 I h0) fun u s' q => ?_⟩
  obtain ⟨H', I', z⟩ := q
  exact ⟨H', I', hi u H' z⟩
def tCut (t u : TS) : TS := fun D σ H => ∃ Mid : L2.St → Hp → Prop, t { nx := Mid, rt := D.rt, bk := D.bk, ct := D.ct } σ H ∧ ∀ σ' H', Mid σ' H' → u D σ' H'
theorem pss_cut {st : Stmt} {rest : List Stmt} {t u : TS} (h1 : PS X st t) (h2 : PSs X rest u) : PSs X (st :: rest) (tCut t u) := by
  refine ⟨fun pins s σ H D I ⟨Mid, hm, hu⟩ => ?_⟩
  refine wpAny_execs_cons (thn (h1.run pins s σ H { nx := Mid, rt := D.rt, bk := D.bk, ct := D.ct } I hm) fun fl s1 q => ?_)
  cases fl with
  | next =>
    obtain ⟨σ', H', I', z⟩ := q
    exact h2.run pins s1 σ' H' D I' (hu σ' H' z)
  | ret v => exact q
  | brk => exact q
  | cont => exact q
end
section
variable {t u : TS} {D : Ends} {σ : L2.St} {H : Hp} {te ta tb tc : TE} {g : TG} {Q : VK} {tt tu : TT} {K : PySem.W.Frag} {wi : TI} {tx tr : TA} {to th : TO} {R : Bool → Hp → Prop}
theorem r_seq : tSeq t u D σ H = t { nx := u D, rt := D.rt, bk := D.bk, ct := D.ct } σ H := rfl
theorem r_asg : tAsg te g D σ H = te σ H fun x H1 => g x σ H1 D.nx := rfl
theorem r_name {i : Nat} {v : V} {S : L2.St → Hp → Prop} : gName i v σ H S = S (σ.set i (some v)) H := rfl
theorem r_ifS : tIfS tt t u D σ H = tt σ H fun b H1 => if b = true then t D σ H1 else u D σ H1 := rfl
theorem r_next : tNext D σ H = D.nx σ H := rfl
theorem r_ret : tRet te D σ H = te σ H D.rt := rfl
theorem r_retN : tRetN D σ H = D.rt V.non H := rfl
theorem r_drop : tDrop te D σ H = te σ H fun _ H1 => D.nx σ H1 := rfl
theorem r_test : tTest te σ H R = te σ H fun x H1 => ∃ k, x = V.bl k ∧ R k H1 := rfl
theorem r_B : tB te σ H R = te σ H fun x H1 => ∃ k, x = V.bl k ∧ R k H1 := rfl
theorem r_if : tIf tt ta tb σ H Q = tt σ H fun c H1 => if c = true then ta σ H1 Q else tb σ H1 Q := rfl
theorem r_cons {S : List V → Hp → Prop} : tCons ta tx σ H S = ta σ H fun x H1 => tx σ H1 fun xs H2 => S (x :: xs) H2 := rfl
theorem r_nil {S : List V → Hp → Prop} : tNil σ H S = S [] H := rfl
theorem r_cb {r : List V → Hp → VK → Prop} : tCB r tx σ H Q = tx σ H fun vs H1 => r vs H1 Q := rfl
theorem r_tF {sp : Sp} : tF sp tx σ H Q = tx σ H fun vs H1 => sp vs H1 Q E0 := rfl
theorem r_part {S : Option Int → Hp → Prop} : tPart te σ H S = te σ H fun x H1 => ∃ i, x = V.int i ∧ S (some i) H1 := rfl
theorem r_nopart {S : Option Int → Hp → Prop} : tNoPart σ H S = S none H := rfl
theorem r_sl {r : V → Option Int → Option Int → Hp → VK → Prop} : L2.tSl r te to th σ H Q = te σ H fun x H1 => to σ H1 fun l H2 => th σ H2 fun u H3 => r x l u H3 Q := rfl
theorem r_par {i j : Nat} : tPar i j tx D σ H = tx σ H fun vs H1 => ∃ v w, vs = [v, w] ∧ D.nx ((σ.set i (some v)).set j (some w)) H1 := rfl
theorem r_chain {r r' : R2} : tChain r r' ta tb tc σ H Q = ta σ H fun x H1 => tb σ H1 fun y H2 => r x y H2 fun z H3 => ∃ k, z = V.bl k ∧ if k = true then tc σ H3 fun w' H4 => r' y w' H4 Q else Q (V.bl false) H3 := rfl
theorem r_or : tOr tt tu σ H R = tt σ H fun c H1 => if c = true then R true H1 else tu σ H1 R := rfl
theorem r_and : tAnd tt tu σ H R = tt σ H fun c H1 => if c = true then tu σ H1 R else R false H1 := rfl
theorem r_not : tNot tt σ H R = tt σ H fun c H1 => R (!c) H1 := rfl
theorem r_orV : tOrV ta tb σ H Q = ta σ H fun x H1 => ∃ c, x = V.bl c ∧ if c = true then Q (.bl true) H1 else tb σ H1 Q := rfl
theorem r_andV : tAndV ta tb σ H Q = ta σ H fun x H1 => ∃ c, x = V.bl c ∧ if c = true then tb σ H1 Q else Q (.bl false) H1 := rfl
theorem r_notV : tNotV ta σ H Q = ta σ H fun x H1 => ∃ c, x = V.bl c ∧ Q (.bl (!c)) H1 := rfl
theorem r_op {r : R2} : tOp r ta tb σ H Q = ta σ H fun x H1 => tb σ H1 fun y H2 => r x y H2 Q := rfl
theorem r_un {r : V → Hp → VK → Prop} : tUn r ta σ H Q = ta σ H fun x H1 => r x H1 Q := rfl
theorem r_var {i : Nat} : tVar i σ H Q = ∃ v, σ[i]? = some (some v) ∧ Q v H := rfl
theorem r_c {v : V} : tC v σ H Q = Q v H := rfl
theorem r_yes {R : Bool → Hp → Prop} : tYes σ H R = R true H := rfl
theorem r_sfld {tv : TE} {f : Str} : sFld K ta tv f D σ H = tv σ H fun y H1 => ta σ H1 fun x H2 => ∃ a C dx fs, x = V.ref a ∧ H2 a = some (HO.ins C dx fs) ∧ Cls K C ∧ NoAttr K C f ∧ fs.length < 1000 ∧ D.nx σ (upd H2 a (HO.ins C dx (putF f y fs))) := rfl
theorem r_never : tNever D σ H ↔ False := Iff.rfl
theorem r_I0 {f : Int → Int → V} {i j : Int} : rI0 f (.int i) (.int j) H Q ↔ Q (f i j) H := by simp [rI0]
theorem r_I {C : Int → Int → Prop} {f : Int → Int → V} {i j : Int} : rI C f (.int i) (.int j) H Q ↔ C i j ∧ Q (f i j) H := by simp [rI]
theorem r_U {f : Int → V} {i : Int} : rU f (.int i) H Q ↔ Q (f i) H := by simp [rU]
theorem r_eqI {i j : Int} : rEq (.int i) (.int j) H Q ↔ Q (.bl (decide (i = j))) H := by simp [rEq, scal]
theorem r_neI {i j : Int} : rNe (.int i) (.int j) H Q ↔ Q (.bl (!decide (i = j))) H := by simp [rNe, scal]
theorem r_eqS {x y : Str} : rEq (.str x) (.str y) H Q ↔ Q (.bl (decide (x = y))) H := by simp [rEq, scal]
theorem r_neS {x y : Str} : rNe (.str x) (.str y) H Q ↔ Q (.bl (!decide (x = y))) H := by simp [rNe, scal]
theorem r_lst {es : TA} : nLst es σ H Q = es σ H fun xs H1 => xs.length ≤ sizeLine ∧ New H1 (.lst xs) Q := rfl
theorem r_tup {es : TA} : nTup es σ H Q = es σ H fun xs H1 => xs.length ≤ sizeLine ∧ New H1 (.tup xs) Q := rfl
theorem r_for {D : Ends} : tFor wi g t D σ H = wi σ H fun J H1 => LoopW J g t D σ H1 := rfl
theorem r_lc {vs : List Nat} : tLc wi g tt te vs σ H Q = wi σ H fun J H1 => ∀ Dd, H1 Dd = none → LcW J g tt te vs σ H1 Dd Q := rfl
theorem r_list {S : It → Hp → Prop} : iList K te σ H S = te σ H fun x H1 => ∃ a, x = V.ref a ∧ (∃ xs, SqL K H1 a xs) ∧ S (Itl K a) H1 := rfl
theorem r_tupI {S : It → Hp → Prop} : iTup K te σ H S = te σ H fun x H1 => ∃ a, x = V.ref a ∧ (∃ xs, SqT K H1 a xs) ∧ S (Itt K a) H1 := rfl
theorem r_rng1 {S : It → Hp → Prop} : iRng1 tx σ H S = tx σ H fun vs H1 => ∃ j, vs = [V.int j] ∧ -2 ^ 62 ≤ j ∧ j < 2 ^ 62 ∧ S (Itr 0 j.toNat) H1 := rfl
theorem r_rng2 {S : It → Hp → Prop} : iRng2 tx σ H S = tx σ H fun vs H1 => ∃ i j : Int, vs = [.int i, .int j] ∧ (-(2 ^ 62) ≤ i ∧ i < 2 ^ 62 ∧ -(2 ^ 62) ≤ j ∧ j < 2 ^ 62) ∧ S (Itr i (j - i).toNat) H1 := rfl
theorem r_enumT {S : It → Hp → Prop} : iEnumT K tx σ H S = tx σ H fun vs H1 => ∃ a xs, vs = [.ref a] ∧ SqT K H1 a xs ∧ S (Iet K a) H1 := rfl
theorem r_bm {T : String} {r : V → List V → Hp → VK → Prop} : tBM K T r te tx σ H Q = te σ H fun x H1 => tyV K T x H1 ∧ tx σ H1 fun xs H2 => r x xs H2 Q := rfl
theorem r_fld {f : Str} : tFld K ta f σ H Q = ta σ H fun x H1 => ∃ a C dx fs v, x = V.ref a ∧ H1 a = some (HO.ins C dx fs) ∧ Cls K C ∧ NoAttr K C f ∧ List.lookup f fs = some v ∧ Q v H1 := rfl
theorem r_subT {o i : TE} {s : TSet} {v : V} {S : L2.St → Hp → Prop} : gSub o i s v σ H S = o σ H fun x H1 => i σ H1 fun y H2 => s x y v H2 fun H3 => S σ H3 := rfl
theorem r_gtup {n : Nat} {ts : TGs} {v : V} {S : L2.St → Hp → Prop} : gTup K n ts v σ H S = ∃ a xs, v = .ref a ∧ SqT K H a xs ∧ xs.length = n ∧ ts xs σ H S := rfl
theorem r_gcons {ts : TGs} {v : V} {xs : List V} {S : L2.St → Hp → Prop} : gCons g ts (v :: xs) σ H S ↔ g v σ H fun σ' H' => ts xs σ' H' S := by
  constructor
  · rintro ⟨w, r, e, h⟩
    cases e
    exact h
  · exact fun h => ⟨v, xs, rfl, h⟩
theorem r_gnil {S : L2.St → Hp → Prop} : gNil [] σ H S ↔ S σ H := by
  simp [gNil]
section
variable {P : Program} {w : World} {mg : Str → Option Value} {base : Heap} {N : List Str} {q : Str} {sc : Scope} {f : Addr} {cd : Value} {A : Around} {outer : List Env} {s : Shared} {E : XK}
theorem r_K0 : (cxOf CX0 P w K mg base N q sc f cd A outer s H E).K = K := rfl
theorem r_K : (cxOf CX0 P w K mg base N q sc f cd A outer s H E).nox.K = K := rfl
theorem r_Kb {s' : Shared} {H' : Hp} {sc' : Scope} {ce : Env} {fp : List Addr} : (((cxOf CX0 P w K mg base N q sc f cd A outer s H E).nox).blk s' H' sc' ce fp).K = K := rfl
end
/-- loops -/
theorem loopL {a : Addr} {xs : List V} {tb : TS} (Pv : Nat → L2.St → Hp → Prop) (h0 : Pv 0 σ H) (hl : ∀ i σ H, i ≤ xs.length → Pv i σ H → SqL K H a xs)
    (hs : ∀ i x σ H, xs[i]? = some x → Pv i σ H → g x σ H fun σ2 H2 => tb { nx := Pv (i + 1), rt := D.rt, bk := D.nx, ct := Pv (i + 1) } σ2 H2) (hd : ∀ σ H, Pv xs.length σ H → D.nx σ H) : LoopW (Itl K a) g tb D σ H := for_list Pv h0 hl hs hd
theorem loopT {a : Addr} {xs : List V} {tb : TS} (Pv : Nat → L2.St → Hp → Prop) (h0 : Pv 0 σ H) (hl : ∀ i σ H, i ≤ xs.length → Pv i σ H → SqT K H a xs)
    (hs : ∀ i x σ H, xs[i]? = some x → Pv i σ H → g x σ H fun σ2 H2 => tb { nx := Pv (i + 1), rt := D.rt, bk := D.nx, ct := Pv (i + 1) } σ2 H2) (hd : ∀ σ H, Pv xs.length σ H → D.nx σ H) : LoopW (Itt K a) g tb D σ H := for_tup Pv h0 hl hs hd
theorem loopR {lo : Int} {n : Nat} {tb : TS} (Pv : Nat → L2.St → Hp → Prop) (h0 : Pv 0 σ H)
    (hs : ∀ i σ H, i < n → Pv i σ H → g (.int (lo + i)) σ H fun σ2 H2 => tb { nx := Pv (i + 1), rt := D.rt, bk := D.nx, ct := Pv (i + 1) } σ2 H2) (hd : ∀ σ H, Pv n σ H → D.nx σ H) : LoopW (Itr lo n) g tb D σ H := for_range Pv h0 hs hd
theorem loopE {a : Addr} {xs : List V} {tb : TS} (Pv : Nat → L2.St → Hp → Prop) (h0 : Pv 0 σ H) (hl : ∀ i σ H, i ≤ xs.length → Pv i σ H → SqT K H a xs)
    (hs : ∀ i x σ H T H', xs[i]? = some x → Pv i σ H → Ex H H' → H' T = some (.tup [.int (i : Nat), x]) → g (.ref T) σ H' fun σ2 H2 => tb { nx := Pv (i + 1), rt := D.rt, bk := D.nx, ct := Pv (i + 1) } σ2 H2) (hd : ∀ σ H, Pv xs.length σ H → D.nx σ H) : LoopW (Iet K a) g tb D σ H :=
  for_it (walk_enumT (K := K) (a := a) (xs := xs)) Pv h0 hl (fun i v σ H H' hi hp y => by
    obtain ⟨T, x, z, rfl, hn, rfl, h1, h2⟩ := y
    cases h1
    exact hs i z σ H T _ h2 hp (Ex.new hn) upd_same) hd
end

/-! comprehensions; small rules of values -/
section
variable {g : TG} {te : TE} {vs : List Nat} {σ : L2.St} {H1 : Hp} {Dd : Addr} {Q : VK} {K : PySem.W.Frag} {a : Addr} {xs : List V}
/-- the state of a comprehension: what is made so far tells R -/
def LcJ (H1 : Hp) (Dd : Addr) (R : Nat → V → Hp → Prop) (i : Nat) (H : Hp) : Prop :=
  ∃ acc : List V, H Dd = some (.lst acc) ∧ acc.length = i ∧ Ex H1 H ∧ ∀ (j : Nat) y, acc[j]? = some y → R j y H
theorem lcJ_turn {R : Nat → V → Hp → Prop} (hR : ∀ i y H H', Kp H H' → R i y H → R i y H') (hD : H1 Dd = none) {i : Nat} {H H4 : Hp} {y : V}
    (p : LcJ H1 Dd R i H) (e : Ex H H4) (r : R i y H4) (hi : i < 1000000) :
    ∃ acc, H4 Dd = some (.lst acc) ∧ acc.length < sizeLine ∧ LcJ H1 Dd R (i + 1) (upd H4 Dd (.lst (acc ++ [y]))) := by
  obtain ⟨acc, h1, h2, h3, h4⟩ := p
  have k : Kp H4 (upd H4 Dd (.lst (acc ++ [y]))) := fun b o hb n => by
    rw [upd_ne]
    · exact hb
    · intro z
      rw [z, e _ _ h1] at hb
      exact n _ (Option.some.inj hb).symm
  refine ⟨acc, e _ _ h1, Nat.lt_of_lt_of_le (show acc.length < 1000000 by omega) (by decide), acc ++ [y], upd_same, by simp [h2], fun b o hb => ?_, fun j z hz => ?_⟩
  · rw [upd_ne (ne_of_none hb hD)]
    exact e _ _ (h3 _ _ hb)
  · by_cases hj : j < acc.length
    · rw [List.getElem?_append_left hj] at hz
      exact hR _ _ _ _ (e.kp.trans k) (h4 j z hz)
    · have hj2 : j = acc.length := by
        have := (List.getElem?_eq_some_iff.mp hz).1
        rw [List.length_append, List.length_singleton] at this
        omega
      subst hj2
      rw [List.getElem?_append_right (Nat.le_refl _), Nat.sub_self] at hz
      cases hz
      rw [h2]
      exact hR _ _ _ _ k r
theorem lcJ_start {R : Nat → V → Hp → Prop} (hD : H1 Dd = none) : LcJ H1 Dd R 0 (upd H1 Dd (.lst [])) :=
  ⟨[], upd_same, rfl, Ex.new hD, fun j y h => by simp at h⟩
/-- what is wanted behind a comprehension -/
def LcEnd (H1 : Hp) (Dd : Addr) (n : Nat) (R : Nat → V → Hp → Prop) (Q : VK) : Prop :=
  ∀ H ys, Ex H1 H → H Dd = some (.lst ys) → ys.length = n → (∀ (i : Nat) y, ys[i]? = some y → R i y H) → Q (.ref Dd) H
theorem lcL {J0 : Prop} (R : Nat → V → Hp → Prop) (hR : ∀ i y H H', Kp H H' → R i y H → R i y H') (hD : H1 Dd = none) (hx : SqL K H1 a xs) (hz : xs.length ≤ 100000)
    (hs : ∀ (i : Nat) x H, xs[i]? = some x → Ex H1 H → g x (wipe σ vs) H fun σ2 H2 => wipe σ2 vs = wipe σ vs ∧ tmE te σ2 H2 fun y H4 => Ex H H4 ∧ R i y H4)
    (hg : ∀ (i : Nat) x H S S', xs[i]? = some x → (∀ σ2 H2, S σ2 H2 → S' σ2 H2) → g x (wipe σ vs) H S → g x (wipe σ vs) H S')
    (hd : LcEnd H1 Dd xs.length R Q) : LcW (Itl K a) g tYes (tmE te) vs σ H1 Dd Q :=
  lc_list (xs := xs) (LcJ H1 Dd R) (lcJ_start hD) (fun i H _ ⟨_, _, _, e, _⟩ => sqL_ex hx e) (fun i x H hi p => by
    obtain ⟨acc, q1, q2, q3, q4⟩ := id p
    refine hg i x H _ _ hi (fun σ2 H2 ⟨w, z⟩ => ⟨w, ?_⟩) (hs i x H hi q3)
    show tmE te σ2 H2 _
    obtain ⟨R0, z1, z2⟩ := z
    exact ⟨R0, z1, fun y H4 r0 => lcJ_turn hR hD p (z2 y H4 r0).1 (z2 y H4 r0).2 (by have := (List.getElem?_eq_some_iff.mp hi).1; omega)⟩)
    fun H ⟨acc, q1, q2, q3, q4⟩ => hd H acc q3 q1 q2 q4
theorem lcT (R : Nat → V → Hp → Prop) (hR : ∀ i y H H', Kp H H' → R i y H → R i y H') (hD : H1 Dd = none) (hx : SqT K H1 a xs) (hz : xs.length ≤ 100000)
    (hs : ∀ (i : Nat) x H, xs[i]? = some x → Ex H1 H → g x (wipe σ vs) H fun σ2 H2 => wipe σ2 vs = wipe σ vs ∧ tmE te σ2 H2 fun y H4 => Ex H H4 ∧ R i y H4)
    (hg : ∀ (i : Nat) x H S S', xs[i]? = some x → (∀ σ2 H2, S σ2 H2 → S' σ2 H2) → g x (wipe σ vs) H S → g x (wipe σ vs) H S')
    (hd : LcEnd H1 Dd xs.length R Q) : LcW (Itt K a) g tYes (tmE te) vs σ H1 Dd Q :=
  lc_tup (xs := xs) (LcJ H1 Dd R) (lcJ_start hD) (fun i H _ ⟨_, _, _, e, _⟩ => sqT_kp hx e.kp) (fun i x H hi p => by
    obtain ⟨acc, q1, q2, q3, q4⟩ := id p
    refine hg i x H _ _ hi (fun σ2 H2 ⟨w, z⟩ => ⟨w, ?_⟩) (hs i x H hi q3)
    show tmE te σ2 H2 _
    obtain ⟨R0, z1, z2⟩ := z
    exact ⟨R0, z1, fun y H4 r0 => lcJ_turn hR hD p (z2 y H4 r0).1 (z2 y H4 r0).2 (by have := (List.getElem?_eq_some_iff.mp hi).1; omega)⟩)
    fun H ⟨acc, q1, q2, q3, q4⟩ => hd H acc q3 q1 q2 q4
theorem lcR {lo : Int} {n : Nat} {j : Nat} (R : Nat → V → Hp → Prop) (hR : ∀ i y H H', Kp H H' → R i y H → R i y H') (hD : H1 Dd = none) (hz : n ≤ 100000)
    (hw : ∀ x, wipe ((wipe σ vs).set j (some x)) vs = wipe σ vs)
    (hs : ∀ (i : Nat) H, i < n → Ex H1 H → tmE te ((wipe σ vs).set j (some (.int (lo + i)))) H fun y H4 => Ex H H4 ∧ R i y H4)
    (hd : LcEnd H1 Dd n R Q) : LcW (Itr lo n) (gName j) tYes (tmE te) vs σ H1 Dd Q :=
  lc_range (LcJ H1 Dd R) (lcJ_start hD) (fun i H hi p => by
    obtain ⟨acc, q1, q2, q3, q4⟩ := id p
    refine ⟨hw _, ?_⟩
    obtain ⟨R0, z1, z2⟩ := hs i H hi q3
    exact ⟨R0, z1, fun y H4 r0 => lcJ_turn hR hD p (z2 y H4 r0).1 (z2 y H4 r0).2 (by omega)⟩)
    fun H ⟨acc, q1, q2, q3, q4⟩ => hd H acc q3 q1 q2 q4
/-- a name as the target -/
theorem lcLn {j : Nat} (R : Nat → V → Hp → Prop) (hR : ∀ i y H H', Kp H H' → R i y H → R i y H') (hD : H1 Dd = none) (hx : SqL K H1 a xs) (hz : xs.length ≤ 100000)
    (hw : ∀ x, wipe ((wipe σ vs).set j (some x)) vs = wipe σ vs)
    (hs : ∀ (i : Nat) x H, xs[i]? = some x → Ex H1 H → tmE te ((wipe σ vs).set j (some x)) H fun y H4 => Ex H H4 ∧ R i y H4)
    (hd : LcEnd H1 Dd xs.length R Q) : LcW (Itl K a) (gName j) tYes (tmE te) vs σ H1 Dd Q :=
  lcL (J0 := True) R hR hD hx hz (fun i x H hi e => ⟨hw x, hs i x H hi e⟩) (fun _ _ _ _ _ _ h q => h _ _ q) hd
theorem lcTn {j : Nat} (R : Nat → V → Hp → Prop) (hR : ∀ i y H H', Kp H H' → R i y H → R i y H') (hD : H1 Dd = none) (hx : SqT K H1 a xs) (hz : xs.length ≤ 100000)
    (hw : ∀ x, wipe ((wipe σ vs).set j (some x)) vs = wipe σ vs)
    (hs : ∀ (i : Nat) x H, xs[i]? = some x → Ex H1 H → tmE te ((wipe σ vs).set j (some x)) H fun y H4 => Ex H H4 ∧ R i y H4)
    (hd : LcEnd H1 Dd xs.length R Q) : LcW (Itt K a) (gName j) tYes (tmE te) vs σ H1 Dd Q :=
  lcT R hR hD hx hz (fun i x H hi e => ⟨hw x, hs i x H hi e⟩) (fun _ _ _ _ _ _ h q => h _ _ q) hd
end
section
variable {K : PySem.W.Frag} {H : Hp} {Q : VK} {p : Addr} {xs : List V} {i : Int} {v : V}
theorem q_ixL (h : SqL K H p xs) (e : atI xs i = some v) (q : Q v H) : rIxL K (.ref p) (.int i) H Q := ⟨p, xs, i, v, rfl, rfl, h, e, q⟩
theorem q_ixT (h : SqT K H p xs) (e : atI xs i = some v) (q : Q v H) : rIxT K (.ref p) (.int i) H Q := ⟨p, xs, i, v, rfl, rfl, h, e, q⟩
theorem at_int {ns : List Int} {i : Int} (h0 : 0 ≤ i) (h : i < ns.length) : ∃ z, ns[i.toNat]? = some z ∧ atI (ns.map V.int) i = some (.int z) := by
  obtain ⟨n, rfl⟩ := Int.eq_ofNat_of_zero_le h0
  have hn : n < ns.length := by omega
  refine ⟨ns[n], by simp [hn], at_of (j := n) rfl ?_⟩
  simp [hn]
/-- products: both together short, or one of them small -/
def CMulS (i j : Int) : Prop := CMulX i j ∨ CMul i j
theorem op_mulS {X : Cx} : OpR X (binaryOp .Mult) (rI CMulS fun i j => .int (i * j)) := fun pins s σ H x y v u Q I rx ry ⟨i, j, e1, e2, c, q⟩ =>
  c.elim (fun c => op_mulX pins s σ H x y v u Q I rx ry ⟨i, j, e1, e2, c, q⟩) fun c => op_mul pins s σ H x y v u Q I rx ry ⟨i, j, e1, e2, c, q⟩
theorem cmul {i j : Int} (a b : Nat) (ha : i.natAbs < 2 ^ a) (hb : j.natAbs < 2 ^ b) (h : a + b ≤ 134217728 := by decide) : CMulS i j := .inl (mulx_ok ha hb h)
theorem cmulL {i j : Int} (h1 : -(2 ^ 64) < i := by first | decide | omega) (h2 : i < 2 ^ 64 := by first | decide | omega) : CMulS i j := .inr (.inl ⟨h1, h2⟩)
theorem cmulR {i j : Int} (h1 : -(2 ^ 64) < j := by first | decide | omega) (h2 : j < 2 ^ 64 := by first | decide | omega) : CMulS i j := .inr (.inr ⟨h1, h2⟩)
theorem ints_cut {ns : List Int} {lo hi : Option Int} {x : V} (h : x ∈ cutV (ns.map V.int) lo hi) : ∃ z, x = .int z := by
  unfold cutV at h
  have h2 := List.mem_of_mem_drop (List.mem_of_mem_take h)
  obtain ⟨z, _, e⟩ := List.mem_map.mp h2
  exact ⟨z, e.symm⟩
theorem call_intN {X : Cx} : CallR X (.type "int") (fun xs H Q => ∃ i, xs = [V.int i] ∧ Q (.int i) H) :=
  CallR.imp call_int1 fun _ _ _ h => .inl h
theorem r_set {o i v : V} {S : Hp → Prop} : rSetL o i v H S = ∃ p xs k j, o = .ref p ∧ i = .int k ∧ H p = some (.lst xs) ∧ ixN xs.length k = some j ∧ S (upd H p (.lst (xs.set j v))) := rfl
theorem sizeLine_le {n : Nat} (h : n ≤ 1000000) : n ≤ sizeLine := Nat.le_trans h (by decide)
end

/-! fractions in lowest terms are rational numbers; plain counts -/

/-- a fraction as a tuple's items -/
def fr (r : Rat) : List V := [.int r.num, .int ((r.den : Nat) : Int)]
def frD (r : Rat) : PyData := .tuple [.int r.num, .int ((r.den : Nat) : Int)]
/-- both parts below 2 ^ n -/
def sz (r : Rat) (n : Nat) : Prop := r.num.natAbs < 2 ^ n ∧ r.den < 2 ^ n

theorem nac {k : Int} (hk : 0 < k) : ((k.natAbs : Nat) : Int) = k := by omega
theorem div_num {t b : Int} (hb : 0 < b) : ((t : Rat) / (b : Rat)).num = t / ((Int.gcd b t : Nat) : Int) := by
  rw [← Rat.divInt_eq_div, Rat.num_divInt, Int.sign_eq_one_of_pos hb, Int.one_mul]
theorem div_den {t b : Int} (hb : 0 < b) : ((((t : Rat) / (b : Rat)).den : Nat) : Int) = b / ((Int.gcd b t : Nat) : Int) := by
  rw [← Rat.divInt_eq_div, Rat.den_divInt, if_neg (by omega), Int.natCast_ediv, nac hb]
theorem part_eq {t b : Int} (hb : 0 < b) : [V.int (t / ((Int.gcd b t : Nat) : Int)), V.int (b / ((Int.gcd b t : Nat) : Int))] = fr ((t : Rat) / (b : Rat)) := by
  unfold fr
  rw [div_num hb, div_den hb]
theorem natAbs_div_le (t : Int) (g : Nat) : (t / (g : Int)).natAbs ≤ t.natAbs ∨ g = 0 := by
  by_cases h : g = 0
  · exact .inr h
  · left
    have := Int.natAbs_ediv_le_natAbs t (g : Int)
    omega
theorem sz_div {t b : Int} {n : Nat} (hb : 0 < b) (h1 : t.natAbs < 2 ^ n) (h2 : b.natAbs < 2 ^ n) : sz ((t : Rat) / (b : Rat)) n := by
  have q1 := Int.natAbs_ediv_le_natAbs t ((Int.gcd b t : Nat) : Int)
  have q2 := Int.natAbs_ediv_le_natAbs b ((Int.gcd b t : Nat) : Int)
  have e1 := div_num (t := t) hb
  have e2 := div_den (t := t) hb
  constructor
  · rw [e1]
    omega
  · have : (((t : Rat) / (b : Rat)).den) = (b / ((Int.gcd b t : Nat) : Int)).natAbs := by
      rw [← e2]
      simp
    omega
theorem sz_mono {r : Rat} {n m : Nat} (h : sz r n) (e : n ≤ m) : sz r m :=
  ⟨Nat.lt_of_lt_of_le h.1 (Nat.pow_le_pow_right (by decide) e), Nat.lt_of_lt_of_le h.2 (Nat.pow_le_pow_right (by decide) e)⟩
theorem den_pos (r : Rat) : (0 : Int) < ((r.den : Nat) : Int) := by
  have := r.den_pos
  omega
theorem add_parts (s r : Rat) : (((s.num * ((r.den : Nat) : Int) + r.num * ((s.den : Nat) : Int) : Int) : Rat)) / (((((s.den : Nat) : Int) * ((r.den : Nat) : Int) : Int)) : Rat) = s + r := by
  rw [Rat.add_def', Rat.mkRat_eq_div]
  congr 1
theorem mul_parts (s r : Rat) : (((s.num * r.num : Int) : Rat)) / (((((s.den : Nat) : Int) * ((r.den : Nat) : Int) : Int)) : Rat) = s * r := by
  rw [Rat.mul_def', Rat.mkRat_eq_div]
  congr 1
theorem add_lt2 {a b : Int} {n : Nat} (h1 : a.natAbs < 2 ^ n) (h2 : b.natAbs < 2 ^ n) : (a + b).natAbs < 2 ^ (n + 1) := by
  have : (2 : Nat) ^ (n + 1) = 2 ^ n + 2 ^ n := by rw [Nat.pow_succ]; omega
  omega
theorem lt2_mono {a : Int} {n m : Nat} (h : a.natAbs < 2 ^ n) (e : n ≤ m) : a.natAbs < 2 ^ m := Nat.lt_of_lt_of_le h (Nat.pow_le_pow_right (by decide) e)
theorem den_lt {r : Rat} {n : Nat} (h : sz r n) : (((r.den : Nat) : Int)).natAbs < 2 ^ n := by
  have := h.2
  simpa using this
theorem sz_add {s r : Rat} {n m : Nat} (h1 : sz s n) (h2 : sz r m) : sz (s + r) (n + m + 1) := by
  rw [← add_parts]
  refine sz_div (Int.mul_pos (den_pos s) (den_pos r)) ?_ ?_
  · refine add_lt2 (wide_lt h1.1 (den_lt h2)) ?_
    rw [Nat.add_comm]
    exact wide_lt h2.1 (den_lt h1)
  · exact lt2_mono (wide_lt (den_lt h1) (den_lt h2)) (by omega)
theorem sz_mul {s r : Rat} {n m : Nat} (h1 : sz s n) (h2 : sz r m) : sz (s * r) (n + m) := by
  rw [← mul_parts]
  exact sz_div (Int.mul_pos (den_pos s) (den_pos r)) (wide_lt h1.1 h2.1) (wide_lt (den_lt h1) (den_lt h2))
/-- the sum, from the left -/
def sumR (rs : List Rat) : Rat := rs.foldl (· + ·) 0
theorem sumR_take {rs : List Rat} {i : Nat} {r : Rat} (h : rs[i]? = some r) : sumR (rs.take (i + 1)) = sumR (rs.take i) + r := by
  unfold sumR
  rw [List.take_add_one, h]
  simp
theorem sz_sum {n : Nat} : ∀ (rs : List Rat) (i : Nat), (∀ r ∈ rs, sz r n) → i ≤ rs.length → sz (sumR (rs.take i)) (i * (n + 1) + 1)
  | rs, 0, _, _ => by
    have e : 2 ^ (0 * (n + 1) + 1) = 2 := by rw [Nat.zero_mul]
    simp only [List.take_zero]
    unfold sz
    rw [e]
    constructor <;> decide
  | rs, i + 1, h, hi => by
    have hr : rs[i]? = some rs[i] := List.getElem?_eq_getElem (by omega)
    rw [sumR_take hr]
    refine sz_mono (sz_add (sz_sum rs i h (by omega)) (h _ (List.getElem_mem _))) ?_
    rw [Nat.add_mul]
    omega

/-! ### plain counts -/
def gcdL (cs : List Int) : Nat := cs.foldl (fun (g : Nat) c => Int.gcd (g : Int) c) 0
def plainL (cs : List Int) : List Int := cs.map fun c => c / ((gcdL cs : Nat) : Int)
theorem gcdL_take {cs : List Int} {i : Nat} {c : Int} (h : cs[i]? = some c) : gcdL (cs.take (i + 1)) = Int.gcd ((gcdL (cs.take i) : Nat) : Int) c := by
  unfold gcdL
  rw [List.take_add_one, h]
  simp
theorem gcdF_dvd : ∀ (cs : List Int) (g : Nat), cs.foldl (fun (g : Nat) c => Int.gcd (g : Int) c) g ∣ g ∧ ∀ c ∈ cs, ((cs.foldl (fun (g : Nat) c => Int.gcd (g : Int) c) g : Nat) : Int) ∣ c
  | [], g => ⟨Nat.dvd_refl _, fun _ h => by simp at h⟩
  | c :: cs, g => by
    obtain ⟨h1, h2⟩ := gcdF_dvd cs (Int.gcd (g : Int) c)
    have d1 : Int.gcd (g : Int) c ∣ g := by
      have := Int.gcd_dvd_left (a := (g : Int)) (b := c)
      exact Int.ofNat_dvd.mp this
    have d2 : ((Int.gcd (g : Int) c : Nat) : Int) ∣ c := Int.gcd_dvd_right ..
    refine ⟨Nat.dvd_trans h1 d1, fun x hx => ?_⟩
    rcases List.mem_cons.mp hx with rfl | hx
    · exact Int.dvd_trans (Int.ofNat_dvd.mpr h1) d2
    · exact h2 x hx
theorem gcdL_dvd {cs : List Int} {c : Int} (h : c ∈ cs) : ((gcdL cs : Nat) : Int) ∣ c := (gcdF_dvd cs 0).2 c h
theorem dvd_gcdF : ∀ (cs : List Int) (g d : Nat), d ∣ g → (∀ c ∈ cs, (d : Int) ∣ c) → d ∣ cs.foldl (fun (g : Nat) c => Int.gcd (g : Int) c) g
  | [], g, d, h, _ => h
  | c :: cs, g, d, h, hc => by
    refine dvd_gcdF cs _ d ?_ fun x hx => hc x (List.mem_cons_of_mem _ hx)
    exact Int.dvd_gcd (Int.ofNat_dvd.mpr h) (hc c List.mem_cons_self)
theorem dvd_gcdL {cs : List Int} {d : Nat} (h : ∀ c ∈ cs, (d : Int) ∣ c) : d ∣ gcdL cs := dvd_gcdF cs 0 d (Nat.dvd_zero d) h
/-- the common divisor is told by its divisors -/
theorem gcdL_eq {cs : List Int} {g : Nat} (h1 : ∀ c ∈ cs, (g : Int) ∣ c) (h2 : ∀ d : Nat, (∀ c ∈ cs, (d : Int) ∣ c) → d ∣ g) : gcdL cs = g :=
  Nat.dvd_antisymm (h2 _ fun _ hc => gcdL_dvd hc) (dvd_gcdL h1)
theorem gcdL_pos {cs : List Int} (h : ∃ c ∈ cs, c ≠ 0) : 0 < gcdL cs := by
  obtain ⟨c, hc, hn⟩ := h
  apply Nat.pos_of_ne_zero
  intro z
  have := gcdL_dvd hc
  rw [z] at this
  exact hn (Int.zero_dvd.mp this)
theorem gcdL_le {cs : List Int} {c : Int} (hc : c ∈ cs) (h : 0 < c) : ((gcdL cs : Nat) : Int) ≤ c := Int.le_of_dvd h (gcdL_dvd hc)
/-- so many times as great -/
theorem gcdL_scale (cs : List Int) {k : Int} (hk : 0 < k) : ((gcdL (cs.map (k * ·)) : Nat) : Int) = k * ((gcdL cs : Nat) : Int) := by
  have key : gcdL (cs.map (k * ·)) = k.natAbs * gcdL cs := by
    apply gcdL_eq
    · intro c hc
      obtain ⟨x, hx, rfl⟩ := List.mem_map.mp hc
      rw [Int.natCast_mul, nac hk]
      exact Int.mul_dvd_mul_left k (gcdL_dvd hx)
    · intro d hd
      have kd : k.natAbs ∣ gcdL (cs.map (k * ·)) := by
        apply dvd_gcdL
        intro c hc
        obtain ⟨x, hx, rfl⟩ := List.mem_map.mp hc
        rw [nac hk]
        exact Int.dvd_mul_right k x
      obtain ⟨m, hm⟩ := kd
      have hm2 : m ∣ gcdL cs := by
        apply dvd_gcdL
        intro c hc
        have h1 := gcdL_dvd (cs := cs.map (k * ·)) (c := k * c) (List.mem_map.mpr ⟨c, hc, rfl⟩)
        rw [hm, Int.natCast_mul, nac hk] at h1
        exact Int.dvd_of_mul_dvd_mul_left (by omega) h1
      have h3 : d ∣ gcdL (cs.map (k * ·)) := dvd_gcdL hd
      rw [hm] at h3
      exact Nat.dvd_trans h3 (Nat.mul_dvd_mul_left _ hm2)
  rw [key, Int.natCast_mul, nac hk]
theorem plainL_scale (cs : List Int) {k : Int} (hk : 0 < k) : plainL (cs.map (k * ·)) = plainL cs := by
  unfold plainL
  rw [List.map_map, gcdL_scale cs hk]
  apply List.map_congr_left
  intro c _
  exact Int.mul_ediv_mul_of_pos _ _ hk
theorem plainL_len (cs : List Int) : (plainL cs).length = cs.length := List.length_map _
/-- the counts are so many times the plain ones -/
theorem plainL_mul (cs : List Int) : (plainL cs).map (((gcdL cs : Nat) : Int) * ·) = cs := by
  unfold plainL
  rw [List.map_map]
  conv => rhs; rw [← List.map_id cs]
  apply List.map_congr_left
  intro c hc
  exact Int.mul_ediv_cancel' (gcdL_dvd hc)
theorem plainL_plain (cs : List Int) (h : 0 < gcdL cs) : gcdL (plainL cs) = 1 := by
  have e := gcdL_scale (plainL cs) (k := ((gcdL cs : Nat) : Int)) (by omega)
  rw [plainL_mul] at e
  have hp : (0 : Int) < ((gcdL cs : Nat) : Int) := by omega
  have : ((gcdL cs : Nat) : Int) * 1 = ((gcdL cs : Nat) : Int) * ((gcdL (plainL cs) : Nat) : Int) := by rw [Int.mul_one]; exact e
  have := Int.eq_of_mul_eq_mul_left (by omega) this
  omega
theorem plainL_twice (cs : List Int) (h : 0 < gcdL cs) : plainL (plainL cs) = plainL cs := by
  have e := plainL_plain cs h
  conv => lhs; unfold plainL
  rw [show gcdL (List.map (fun c => c / ((gcdL cs : Nat) : Int)) cs) = 1 from e]
  simp [plainL]
/-- counts in one proportion are alike -/
theorem plainL_prop {cs ds : List Int} {a b : Int} (ha : 0 < a) (hb : 0 < b) (h : cs.map (a * ·) = ds.map (b * ·)) : plainL cs = plainL ds := by
  rw [← plainL_scale cs ha, h, plainL_scale ds hb]

/-! data that can be shown and compared -/
/-- d can be laid, shown within c signs, compared; k deep -/
structure Gd (d : PyData) (k c : Nat) : Prop where
  lay : d.canLay0 = true
  sh : d.showable = true
  nd : d.hasDict = false
  dp : d.depth ≤ k
  co : costD d ≤ c
theorem Gd.int {i : Int} (h : i.natAbs.log2 < 1920) : Gd (.int i) 0 1930 :=
  ⟨by simp [PyData.canLay0], by simp [PyData.showable, h], by simp [PyData.hasDict], Nat.le_of_eq (by simp [PyData.depth]), Nat.le_of_eq (by simp [costD])⟩
theorem Gd.bool (b : Bool) : Gd (.bool b) 0 1930 :=
  ⟨by simp [PyData.canLay0], by simp [PyData.showable], by simp [PyData.hasDict], Nat.le_of_eq (by simp [PyData.depth]), by simp [costD]⟩
theorem gds {k c : Nat} : ∀ {ds : List PyData}, (∀ d ∈ ds, Gd d k c) → PyData.canLayAll0 ds = true ∧ PyData.showableAll ds = true ∧ PyData.hasDictAll ds = false ∧ PyData.depthAll ds ≤ k ∧ costs ds ≤ ds.length * (c + 2)
  | [], _ => ⟨by simp [PyData.canLayAll0], by simp [PyData.showableAll], by simp [PyData.hasDictAll], by simp [PyData.depthAll], by simp [costs]⟩
  | d :: ds, h => by
    obtain ⟨h1, h2, h3, h4, h5⟩ := gds fun x hx => h x (List.mem_cons_of_mem _ hx)
    obtain ⟨g1, g2, g3, g4, g5⟩ := h d List.mem_cons_self
    refine ⟨by simp [PyData.canLayAll0, g1, h1], by simp [PyData.showableAll, g2, h2], by simp [PyData.hasDictAll, g3, h3], ?_, ?_⟩
    · simp only [PyData.depthAll]
      omega
    · simp only [costs, List.length_cons]
      rw [Nat.add_mul]
      omega
theorem Gd.tuple {k c n : Nat} {ds : List PyData} (h : ∀ d ∈ ds, Gd d k c) (hn : ds.length ≤ n) : Gd (.tuple ds) (k + 1) (n * (c + 2) + 3) := by
  obtain ⟨h1, h2, h3, h4, h5⟩ := gds h
  refine ⟨by simpa [PyData.canLay0] using h1, by simpa [PyData.showable] using h2, by simpa [PyData.hasDict] using h3, ?_, ?_⟩
  · simp only [PyData.depth]
    omega
  · simp only [costD]
    have := Nat.mul_le_mul_right (c + 2) hn
    omega
theorem Gd.list {k c n : Nat} {ds : List PyData} (h : ∀ d ∈ ds, Gd d k c) (hn : ds.length ≤ n) : Gd (.list ds) (k + 1) (n * (c + 2) + 3) := by
  obtain ⟨h1, h2, h3, h4, h5⟩ := gds h
  refine ⟨by simpa [PyData.canLay0] using h1, by simpa [PyData.showable] using h2, by simpa [PyData.hasDict] using h3, ?_, ?_⟩
  · simp only [PyData.depth]
    omega
  · simp only [costD]
    have := Nat.mul_le_mul_right (c + 2) hn
    omega
theorem Gd.mono {d : PyData} {k c k' c' : Nat} (h : Gd d k c) (hk : k ≤ k') (hc : c ≤ c') : Gd d k' c' := ⟨h.lay, h.sh, h.nd, Nat.le_trans h.dp hk, Nat.le_trans h.co hc⟩
theorem Gd.shaped {d : PyData} {k c : Nat} (h : Gd d k c) (hk : k ≤ 64) : SeqAt.shaped d = true := by
  unfold SeqAt.shaped
  rw [h.lay]
  simp only [Bool.true_and, decide_eq_true_eq]
  exact Nat.le_trans h.dp hk
theorem log1920 {i : Int} (h : i.natAbs < 2 ^ 1900) : i.natAbs.log2 < 1920 := Nat.lt_of_lt_of_le (PySem.Flt.log2_lt_of (k := 1900) (by decide) h) (show 1900 ≤ 1920 by decide)
theorem gd_ints {cs : List Int} {n : Nat} (hn : cs.length ≤ n) (h : ∀ c ∈ cs, c.natAbs < 2 ^ 1900) : Gd (.tuple (cs.map PyData.int)) 1 (n * 1932 + 3) :=
  Gd.tuple (k := 0) (c := 1930) (fun d hd => by
    obtain ⟨c, hc, rfl⟩ := List.mem_map.mp hd
    exact .int (log1920 (h c hc))) (by rw [List.length_map]; exact hn)
theorem gd_fr {r : Rat} (h : sz r 1900) : Gd (frD r) 1 4000 := by
  have g : Gd (.tuple [.int r.num, .int ((r.den : Nat) : Int)]) 1 (2 * (1930 + 2) + 3) :=
    Gd.tuple (k := 0) (c := 1930) (n := 2) (fun d hd => by
      simp only [List.mem_cons, List.not_mem_nil, or_false] at hd
      rcases hd with rfl | rfl
      · exact .int (log1920 h.1)
      · exact .int (log1920 (den_lt h))) (Nat.le_refl 2)
  exact g.mono (Nat.le_refl 1) (by decide)
section
variable {X : Cx}
def rReprG (K : PySem.W.Frag) : List V → Hp → VK → Prop := fun vs H Q => ∃ v d k c, vs = [v] ∧ Dp K H v d ∧ (∃ a, v = V.ref a) ∧ Gd d k c ∧ k ≤ 20 ∧ c ≤ 10000000 ∧ Q (.str d.shown) H
theorem cr_reprG (hg : X.A.guards = some []) (hu : X.A.units + 64 < cLine) : CallR X (.builtin "repr") (rReprG X.K) :=
  CallR.imp (cr_repr hg hu) fun vs H Q ⟨v, d, k, c, e, h, ⟨a, ea⟩, g, hk, hc, q⟩ =>
    ⟨a, d, by rw [e, ea], by rw [← ea]; exact h, g.sh, g.nd, Nat.le_trans g.dp hk, Nat.le_trans g.co (Nat.le_trans hc (by decide)), q⟩
end

/-! ### the rules with the written part named: their readings do not hang on a block -/
section
variable {X : Cx} {K : PySem.W.Frag}
theorem ixL (h : X.K = K := by rfl) : IxR X (rIxL K) := by
  subst h
  exact ix_list
theorem ixT (h : X.K = K := by rfl) : IxR X (rIxT K) := by
  subst h
  exact ix_tup
def rLen (K : PySem.W.Frag) : List V → Hp → VK → Prop := fun xs H Q => ∃ p ys, xs = [.ref p] ∧ (SqL K H p ys ∨ SqT K H p ys) ∧ Q (.int ys.length) H
theorem kLen (h : X.K = K := by rfl) : CallR X (.builtin "len") (rLen K) := by
  subst h
  exact call_len_seq
theorem kSum (hc : X.calm = true) (h : X.K = K := by rfl) : CallR X (.builtin "sum") (rSumN K) := by
  subst h
  exact cr_sumN hc
theorem kAll (hc : X.calm = true) (h : X.K = K := by rfl) : CallR X (.builtin "all") (rAll K) := by
  subst h
  exact cr_all hc
theorem kTuple (h : X.K = K := by rfl) : CallR X (.type "tuple") (rTupleN K) := by
  subst h
  exact call_tupleN
theorem kList (h : X.K = K := by rfl) : CallR X (.type "list") (rListN K) := by
  subst h
  exact call_list_ofN
theorem kRepr (hg : X.A.guards = some []) (hu : X.A.units + 64 < cLine) (h : X.K = K := by rfl) : CallR X (.builtin "repr") (rReprG K) := by
  subst h
  exact cr_reprG hg hu
theorem kIsi (h : X.K = K := by rfl) : CallR X (.builtin "isinstance") (rIsi K) := by
  subst h
  exact call_isi
theorem kNe (hu : X.A.units + 64 < cLine) (h : X.K = K := by rfl) : OpR X (compareOp .NotEq) (rNeN K) := by
  subst h
  exact op_neDN hu
theorem kEq (hu : X.A.units + 64 < cLine) (h : X.K = K := by rfl) : OpR X (compareOp .Eq) (rEqN K) := by
  subst h
  exact op_eqDN hu
theorem slL (h : X.K = K := by rfl) : L2.SlR X (rSlN K) := by
  subst h
  exact sl_listN
theorem kFld {e : Expr} {f : Str} {pos : Pos} {ta : TE} (he : PE X e ta) (hb : attributeBase e f X.env (eval e X.env) = eval e X.env) (h : X.K = K := by rfl) : PE X (.Attribute e f pos) (tFld K ta f) := by
  subst h
  exact pe_fld he hb
theorem r_len {xs : List V} {H : Hp} {Q : VK} : rLen K xs H Q = ∃ p ys, xs = [.ref p] ∧ (SqL K H p ys ∨ SqT K H p ys) ∧ Q (.int ys.length) H := rfl
end

/-! zip of lists and tuples in any order; comb, lcm; words alone; a tuple turned about -/

/-- a list (true) or a tuple -/
def SqB (K : PySem.W.Frag) : Bool → Hp → Addr → List V → Prop
  | true => SqL K
  | false => SqT K
def IsB : Bool → Heap → Addr → Array Value → Prop
  | true => Heap.IsList
  | false => Heap.IsTuple
def ItB : Bool → Heap → Addr → Addr → Nat → Prop
  | true => Heap.IsListIter
  | false => Heap.IsTupleIter
def oB : Bool → Addr → Obj
  | true, l => { cls := .type "list_iterator", data := .fields #[.ref l, .int 0 0] }
  | false, l => { cls := .type "tuple_iterator", data := .fields #[.ref l, .int 0 0] }
theorem sqB_kp {K : PySem.W.Frag} {k : Bool} {H H' : Hp} {a : Addr} {xs : List V} (h : SqB K k H a xs) (e : Ex H H') : SqB K k H' a xs := by
  cases k
  · exact sqT_kp h e.kp
  · exact sqL_ex h e
theorem side {X : Cx} {pins : List (Addr × Obj)} {σ : L2.St} {H : Hp} {s : Shared} {k : Bool} {a : Addr} {xs : List V} (I : Inv X pins σ H s) (h : SqB X.K k H a xs) :
    ∃ its : List Value, Vals xs its ∧ IsB k s.heap a its.toArray ∧ a < s.heap.objs.size := by
  cases k
  · obtain ⟨its, rv, p, _⟩ := I.tuple h
    have p' : s.heap.IsTuple a its.toArray := p
    obtain ⟨_, e, _⟩ := id p'
    exact ⟨its, rv, p', Heap.lt_size e⟩
  · obtain ⟨its, rv, p, _⟩ := I.list h
    exact ⟨its, rv, p.isList, p.lt⟩
theorem sqB_inj {X : Cx} {pins : List (Addr × Obj)} {σ : L2.St} {H : Hp} {s : Shared} {k : Bool} {a : Addr} {xs ys : List V} (I : Inv X pins σ H s) (h : SqB X.K k H a xs) (h2 : SqB X.K k H a ys) : xs = ys := by
  cases k
  · exact I.tuple_inj h h2
  · exact I.list_inj h h2
theorem drawsB {prog : Program} {w : World} {A : Around} (k : Bool) (hh : A.handled = none) (it l : Addr) (hne : l ≠ it) (items : Array Value) :
    Draws prog w A it [it, l] items.size (fun i v => items[i]? = some v) (fun i h => ItB k h it l i ∧ IsB k h l items) := by
  cases k
  · exact Draws.tuple hh it l hne items
  · exact Draws.list hh it l hne items
theorem beginsB (k : Bool) (l : Addr) (items : Array Value) : Begins (.ref l) (oB k l) (fun h => IsB k h l items) := by
  cases k
  · exact begins_tuple l items
  · exact begins_list l items
theorem itB_new {k : Bool} {h : Heap} {it l : Addr} (e : h.get? it = some (oB k l)) : ItB k h it l 0 := by
  cases k
  · exact ⟨_, e, rfl, rfl⟩
  · exact ⟨_, e, rfl, rfl⟩
theorem itB_at {k : Bool} {h h' : Heap} {it l : Addr} {i : Nat} (x : ItB k h it l i) (e : ∀ o, h.get? it = some o → h'.get? it = some o) : ItB k h' it l i := by
  cases k
  · exact Heap.IsTupleIter.at x e
  · exact Heap.IsListIter.at x e
theorem itB_obj {k : Bool} {h : Heap} {it l : Addr} {i : Nat} (x : ItB k h it l i) : ∃ o, h.get? it = some o ∧ ∃ fs, o.data = .fields fs := by
  cases k
  · obtain ⟨o, e, _, d⟩ := x
    exact ⟨o, e, _, d⟩
  · obtain ⟨o, e, _, d⟩ := x
    exact ⟨o, e, _, d⟩
theorem isB_ne {k k2 : Bool} {h : Heap} {a it l : Addr} {i : Nat} {xs : Array Value} (x : IsB k h a xs) (y : ItB k2 h it l i) : a ≠ it := by
  intro z
  subst z
  obtain ⟨o, e, fs, d⟩ := itB_obj y
  cases k
  · obtain ⟨o2, e2, _, _, d2⟩ := x
    rw [e2] at e
    cases e
    rw [d2] at d
    cases d
  · obtain ⟨o2, e2, _, _, d2⟩ := x
    rw [e2] at e
    cases e
    rw [d2] at d
    cases d

/-- both as they stand at each turn, the items in new pairs -/
def ItzB (K : PySem.W.Frag) (k1 k2 : Bool) (a b : Addr) : It :=
  ⟨fun i H => ∃ (xs ys : List V) (x y : V), (SqB K k1 H a xs ∧ SqB K k2 H b ys) ∧ xs[i]? = some x ∧ ys[i]? = some y,
    fun i H v H' => ∃ T x y, v = .ref T ∧ H T = none ∧ H' = upd H T (.tup [x, y]) ∧ (∀ xs, SqB K k1 H a xs → xs[i]? = some x) ∧ ∀ ys, SqB K k2 H b ys → ys[i]? = some y,
    fun i H => ∃ xs ys : List V, (SqB K k1 H a xs ∧ SqB K k2 H b ys) ∧ i = min xs.length ys.length⟩
def zSt (k1 k2 : Bool) (a b z TI TO i1 i2 : Addr) (i : Nat) (h : Heap) : Prop :=
  (IsZip h z TI TO .none ∧ IsTupOf2 h TI (.ref i1) (.ref i2)) ∧ (∃ x y, IsTupOf2 h TO x y) ∧ ItB k1 h i1 a i ∧ ItB k2 h i2 b i
theorem five {c z TI TO i1 i2 : Addr} (h : c ∈ [z, TI, TO, i1, i2]) : c = z ∨ c = TI ∨ c = TO ∨ c = i1 ∨ c = i2 := by
  simpa using h
theorem turn_zipB {P : Program} {w : World} {K : PySem.W.Frag} {elts : List Expr} {kk : Nat} {tpos : Pos} {k1 k2 : Bool} {a b z TI TO i1 i2 : Addr} (S : ZipSep2 z TI TO i1 i2 [i1, a] [i2, b]) :
    Turn P w K (.Tuple elts kk tpos) (ItzB K k1 k2 a b) [z, TI, TO, i1, i2] z (zSt k1 k2 a b z TI TO i1 i2) where
  mem := List.mem_cons_self ..
  obj := by
    intro i h st c hc
    obtain ⟨⟨hz, hTI⟩, ⟨x, y, hTO⟩, h1, h2⟩ := st
    obtain ⟨o1, e1, f1, d1⟩ := itB_obj h1
    obtain ⟨o2, e2, f2, d2⟩ := itB_obj h2
    rcases five hc with q | q | q | q | q <;> subst q
    · exact ⟨_, hz, fun v q => nomatch q⟩
    · exact ⟨_, hTI, fun v q => nomatch q⟩
    · exact ⟨_, hTO, fun v q => nomatch q⟩
    · refine ⟨o1, e1, fun v q => ?_⟩
      rw [d1] at q
      cases q
    · refine ⟨o2, e2, fun v q => ?_⟩
      rw [d2] at q
      cases q
  keep := by
    intro i h h' st k
    obtain ⟨⟨hz, hTI⟩, ⟨x, y, hTO⟩, h1, h2⟩ := st
    exact ⟨⟨k _ (by simp) _ hz, k _ (by simp) _ hTI⟩, ⟨x, y, k _ (by simp) _ hTO⟩, itB_at h1 fun o q => k _ (by simp) o q, itB_at h2 fun o q => k _ (by simp) o q⟩
  item := by
    intro X hP hw hK hc i pins s σ H E I hf st hg
    subst hP hw hK
    obtain ⟨⟨hz, hTI⟩, ⟨x0, y0, hTO⟩, h1, h2⟩ := st
    obtain ⟨xs, ys, x, y, ⟨qx, qy⟩, hx, hy⟩ := hg
    obtain ⟨us, rx, px, _⟩ := side I qx
    obtain ⟨vs, ry, py, _⟩ := side I qy
    have hzl : z < s.heap.objs.size := Heap.lt_size hz
    have lx : i < us.toArray.size := by
      have := (List.getElem?_eq_some_iff.mp hx).1
      have := rx.length
      simp
      omega
    have ly : i < vs.toArray.size := by
      have := (List.getElem?_eq_some_iff.mp hy).1
      have := ry.length
      simp
      omega
    have hh : X.A.in1.handled = none := I.ok.hd hc
    have D1 := drawsB (prog := X.prog) (w := X.w) k1 hh i1 a (isB_ne px h1) us.toArray
    have D2 := drawsB (prog := X.prog) (w := X.w) k2 hh i2 b (isB_ne py h2) vs.toArray
    refine wpAny_pyNext_zipD2_item S D1 D2 hz hTI hTO (show _ ∧ _ from ⟨h1, px⟩) (show _ ∧ _ from ⟨h2, py⟩) lx ly
      fun u v h' tk pu pv z' TO' s1' s2' hT hsz hk => ?_
    obtain ⟨u', eu, ru⟩ := rx.get hx
    obtain ⟨v', ev, rv⟩ := ry.get hy
    have eu2 : us.toArray[i]? = some u := pu
    have ev2 : vs.toArray[i]? = some v := pv
    rw [List.getElem?_toArray, eu] at eu2
    rw [List.getElem?_toArray, ev] at ev2
    cases eu2
    cases ev2
    refine ⟨_, rfl, wpAny_letOwnedTupleGo_zip (s := { s with heap := h', toks := tk }) z' fun h'' z'' sb => ?_⟩
    have away : ∀ c, c ≠ z → ∀ o, h'.get? c = some o → h''.get? c = some o := fun c n o q => (sb.2 c n).trans q
    have nT : s.heap.objs.size ≠ z := Nat.ne_of_gt hzl
    have new : ObjOk X.prog X.w (upd H s.heap.objs.size (.tup [x, y])) h'' s.heap.objs.size (.tup [x, y]) := by
      refine ⟨show 2 ≤ sizeLine by decide, [u, v], ?_, ⟨_, away _ nT _ hT, rfl, _, rfl⟩⟩
      exact .cons ru (.cons rv .nil)
    have I1 : Inv X pins σ (upd H s.heap.objs.size (.tup [x, y])) { s with heap := h'', toks := tk } := by
      refine I.turnedNew (t' := tk) (ch := [z, TI, TO, i1, i2]) (fun c o hb q => ?_) hf (Nat.le_refl _) new
      have nz : c ≠ z := fun e => hb (by simp [e])
      refine away c nz o (hk c o nz ?_ ?_ ?_ q)
      · exact fun e => hb (by simp [e])
      · exact fun e => hb (by simp [e])
      · exact fun e => hb (by simp [e])
    refine ⟨.ref s.heap.objs.size, _, I1, rfl, ⟨_, x, y, rfl, I.hok.fresh (Nat.le_refl _), rfl, fun l hl => ?_, fun l hl => ?_⟩, ⟨⟨z'', ?_⟩, ⟨u, v, away _ S.TOz _ TO'⟩, ?_, ?_⟩, fun c hcm => ?_⟩
    · rw [sqB_inj I hl qx]
      exact hx
    · rw [sqB_inj I hl qy]
      exact hy
    · exact away _ S.TIz _ (hk _ _ S.TIz S.TITO S.TIi1 S.TIi2 hTI)
    · exact itB_at s1'.1 fun o q => away _ (Ne.symm S.zi1) o q
    · exact itB_at s2'.1 fun o q => away _ (Ne.symm S.zi2) o q
    · have hlt : c < s.heap.objs.size := by
        obtain ⟨o1, e1, _⟩ := itB_obj h1
        obtain ⟨o2, e2, _⟩ := itB_obj h2
        rcases five hcm with q | q | q | q | q <;> subst q
        · exact hzl
        · exact Heap.lt_size hTI
        · exact Heap.lt_size hTO
        · exact Heap.lt_size e1
        · exact Heap.lt_size e2
      rw [upd_ne (Nat.ne_of_lt hlt)]
      exact (hf c hcm).1
  done := by
    intro X hP hw hK hc i pins s σ H E I hf st hg
    subst hP hw hK
    obtain ⟨⟨hz, hTI⟩, ⟨x0, y0, hTO⟩, h1, h2⟩ := st
    obtain ⟨xs, ys, ⟨qx, qy⟩, hi⟩ := hg
    obtain ⟨us, rx, px, _⟩ := side I qx
    obtain ⟨vs, ry, py, _⟩ := side I qy
    have lx : xs.length = us.toArray.size := by rw [List.size_toArray]; exact rx.length
    have ly : ys.length = vs.toArray.size := by rw [List.size_toArray]; exact ry.length
    have hh : X.A.in1.handled = none := I.ok.hd hc
    have D1 := drawsB (prog := X.prog) (w := X.w) k1 hh i1 a (isB_ne px h1) us.toArray
    have D2 := drawsB (prog := X.prog) (w := X.w) k2 hh i2 b (isB_ne py h2) vs.toArray
    refine wpAny_pyNext_zipD2_end (i := i) S D1 D2 hz hTI hTO (show _ ∧ _ from ⟨h1, px⟩) (show _ ∧ _ from ⟨h2, py⟩) (by omega) (by omega) (by omega)
      fun h' tk hk => ⟨rfl, ?_⟩
    refine I.turnedL (t' := tk) (ch := [z, TI, TO, i1, i2]) (fun c o hb q => hk c o ?_ ?_ ?_ ?_ q) hf
    · exact fun e => hb (by simp [e])
    · exact fun e => hb (by simp [e])
    · exact fun e => hb (by simp [e])
    · exact fun e => hb (by simp [e])
  self := fun A i s Q E st h => wpAny_pyIter_zip st.1.1 h

def iZipB (K : PySem.W.Frag) (ta : TA) : TI := fun σ H R => ta σ H fun vs H1 => ∃ k1 k2 a b xs ys, vs = [.ref a, .ref b] ∧ SqB K k1 H1 a xs ∧ SqB K k2 H1 b ys ∧ R (ItzB K k1 k2 a b) H1
theorem pi_zipB {X : Cx} {e e2 : Expr} {ta : TA} {p pos tpos : Pos} {elts : List Expr} {kk : Nat} (hg : Gl X "zip") (hm : X.mg "zip" = none) (ha : PA X [e, e2] ta)
    (hs : starEach [e, e2] X.env = (false, eval e X.env) :: starEach [e2] X.env := by rfl) (hpl : (backTo pos (starEach [e2] X.env)).any (·.1) = false := by rfl) :
    PI X (.Tuple elts kk tpos) (.Call (.Name "zip" p) [e, e2] [] pos) (iZipB X.K ta) := by
  refine ⟨fun pins s σ H R I h => ?_⟩
  refine Call_ (ld_blt I hg hm PyProof.Rows.boot_zip ?_)
  refine PyProof.Rows.callWith_type1 (thn (ha.run pos pins s σ H _ I h) fun us s1 ⟨vs, H1, I1, r1, q1⟩ => ?_) hs hpl
  obtain ⟨k1, k2, a, b, xs, ys, ex, qx, qy, q⟩ := q1
  subst ex
  cases r1 with
  | cons r rr =>
    cases rr with
    | cons r' rr =>
      cases rr
      cases r
      cases r'
      obtain ⟨ws, rx, px, la⟩ := side I1 qx
      obtain ⟨zs, ry, py, lb⟩ := side I1 qy
      refine zip_begins2 (beginsB k1 a ws.toArray) (beginsB k2 b zs.toArray) px py fun h' hz hTI hTO o1 o2 hsz hk => wpAny_pyIter_zip hz ?_
      have I2 : Inv X pins σ H1 { s1 with heap := h' } := I1.kept (t' := s1.toks) hk
      have S := zip_sep2 (N := s1.heap.objs.size) (fp1 := [a]) (fp2 := [b]) (by simpa using la) (by simpa using lb)
      refine ⟨_, _, _, _, H1, rfl, I2, turn_zipB (k1 := k1) (k2 := k2) S, ⟨⟨hz, hTI⟩, ⟨_, _, hTO⟩, itB_new o1, itB_new o2⟩, fun c hcm => ?_, q⟩
      have hle : s1.heap.objs.size ≤ c := by
        rcases five hcm with e | e | e | e | e <;> subst e
        · exact Nat.le_add_right _ _
        · exact Nat.le_add_right _ _
        · exact Nat.le_add_right _ _
        · exact Nat.le_refl _
        · exact Nat.le_add_right _ _
      exact I1.fpOk hle (I1.hok.fresh hle)
theorem walk_zipB {K : PySem.W.Frag} {k1 k2 : Bool} {a b : Addr} {xs ys : List V} {n : Nat} (hn : n = min xs.length ys.length) :
    Walk (ItzB K k1 k2 a b) n (fun H => SqB K k1 H a xs ∧ SqB K k2 H b ys) (YPair (fun i => xs[i]?) (fun i => ys[i]?)) := by
  subst hn
  refine ⟨fun i _ hi q => ?_, fun _ q => ⟨xs, ys, q, rfl⟩, fun i H v H' _ q y => ?_⟩
  · have h1 : i < xs.length := by omega
    have h2 : i < ys.length := by omega
    exact ⟨xs, ys, xs[i], ys[i], q, by simp [h1], by simp [h2]⟩
  · obtain ⟨T, x, z, h1, h2, h3, h4, h5⟩ := y
    exact ⟨T, x, z, h1, h2, h3, h4 xs q.1, h5 ys q.2⟩
theorem kZip {X : Cx} {K : PySem.W.Frag} {e e2 : Expr} {ta : TA} {p pos tpos : Pos} {elts : List Expr} {kk : Nat} (hg : Gl X "zip") (hm : X.mg "zip" = none) (ha : PA X [e, e2] ta) (h : X.K = K := by rfl)
    (hs : starEach [e, e2] X.env = (false, eval e X.env) :: starEach [e2] X.env := by rfl) (hpl : (backTo pos (starEach [e2] X.env)).any (·.1) = false := by rfl) :
    PI X (.Tuple elts kk tpos) (.Call (.Name "zip" p) [e, e2] [] pos) (iZipB K ta) := by
  subst h
  exact pi_zipB hg hm ha hs hpl
theorem kEnumT {X : Cx} {K : PySem.W.Frag} {e : Expr} {ta : TA} {p pos tpos : Pos} {elts : List Expr} {kk : Nat} (hg : Gl X "enumerate") (hm : X.mg "enumerate" = none) (ha : PA X [e] ta) (h : X.K = K := by rfl)
    (hs : starEach [e] X.env = [(false, eval e X.env)] := by rfl) :
    PI X (.Tuple elts kk tpos) (.Call (.Name "enumerate" p) [e] [] pos) (iEnumT K ta) := by
  subst h
  exact pi_enumT hg hm ha hs

section
variable {g : TG} {te : TE} {vs : List Nat} {σ : L2.St} {H H1 : Hp} {Dd : Addr} {Q : VK} {K : PySem.W.Frag} {D : Ends}
/-! ### targets pass what is wanted on -/
def GMono (g : TG) : Prop := ∀ v σ H S S', (∀ σ2 H2, S σ2 H2 → S' σ2 H2) → g v σ H S → g v σ H S'
def GsMono (g : TGs) : Prop := ∀ v σ H S S', (∀ σ2 H2, S σ2 H2 → S' σ2 H2) → g v σ H S → g v σ H S'
theorem gm_name {i : Nat} : GMono (gName i) := fun _ _ _ _ _ h q => h _ _ q
theorem gm_nil : GsMono gNil := fun _ _ _ _ _ h q => ⟨q.1, h _ _ q.2⟩
theorem gm_cons {t : TG} {u : TGs} (a : GMono t) (b : GsMono u) : GsMono (gCons t u) := fun _ σ H S S' h ⟨v, r, e, q⟩ =>
  ⟨v, r, e, a _ _ _ _ _ (fun σ2 H2 z => b _ _ _ _ _ h z) q⟩
theorem gm_tup {n : Nat} {t : TGs} (a : GsMono t) : GMono (gTup K n t) := fun _ σ H S S' h ⟨p, xs, e, q, l, z⟩ => ⟨p, xs, e, q, l, a _ _ _ _ _ h z⟩
/-! ### loops and comprehensions over pairs -/
theorem loopZ {k1 k2 : Bool} {a b : Addr} {xs ys : List V} {n : Nat} {tb : TS} (hn : n = min xs.length ys.length) (Pv : Nat → L2.St → Hp → Prop) (h0 : Pv 0 σ H) (hl : ∀ i σ H, i ≤ n → Pv i σ H → SqB K k1 H a xs ∧ SqB K k2 H b ys)
    (hs : ∀ i x y σ H T H', xs[i]? = some x → ys[i]? = some y → Pv i σ H → Ex H H' → H' T = some (.tup [x, y]) → g (.ref T) σ H' fun σ2 H2 => tb { nx := Pv (i + 1), rt := D.rt, bk := D.nx, ct := Pv (i + 1) } σ2 H2)
    (hd : ∀ σ H, Pv n σ H → D.nx σ H) : LoopW (ItzB K k1 k2 a b) g tb D σ H :=
  for_it (walk_zipB hn) Pv h0 hl (fun i v σ H H' hi hp y => by
    obtain ⟨T, x, z, rfl, hn, rfl, h1, h2⟩ := y
    exact hs i x z σ H T _ h1 h2 hp (Ex.new hn) upd_same) hd
theorem lcP {J : It} {n : Nat} {G : Hp → Prop} {fx fy : Nat → Option V} (w : Walk J n G (YPair fx fy)) (R : Nat → V → Hp → Prop) (hR : ∀ i y H H', Kp H H' → R i y H → R i y H') (hD : H1 Dd = none) (hG : ∀ H, Ex H1 H → G H) (hz : n ≤ 100000)
    (hm : GMono g)
    (hs : ∀ (i : Nat) x y T H, i < n → fx i = some x → fy i = some y → Ex H1 H → H T = some (.tup [x, y]) → g (.ref T) (wipe σ vs) H fun σ2 H2 => wipe σ2 vs = wipe σ vs ∧ tmE te σ2 H2 fun y H4 => Ex H H4 ∧ R i y H4)
    (hd : LcEnd H1 Dd n R Q) : LcW J g tYes (tmE te) vs σ H1 Dd Q :=
  lc_it (Qd := fun H => Q (.ref Dd) H) w (LcJ H1 Dd R) (lcJ_start hD) (fun i H _ ⟨_, _, _, e, _⟩ => hG H e) (fun i v H H' hi p y => by
    obtain ⟨T, x, z, rfl, hn, rfl, h1, h2⟩ := y
    obtain ⟨acc, q1, q2, q3, q4⟩ := id p
    have e : Ex H (upd H T (.tup [x, z])) := Ex.new hn
    refine hm _ _ _ _ _ (fun σ2 H2 ⟨w, u⟩ => ⟨w, ?_⟩) (hs i x z T _ hi h1 h2 (q3.trans e) upd_same)
    show tmE te σ2 H2 _
    obtain ⟨R0, z1, z2⟩ := u
    exact ⟨R0, z1, fun y H4 r0 => lcJ_turn hR hD p (e.trans (z2 y H4 r0).1) (z2 y H4 r0).2 (by omega)⟩)
    fun H ⟨acc, q1, q2, q3, q4⟩ => hd H acc q3 q1 q2 q4
/-- over enumerate of a tuple -/
theorem lcE {a : Addr} {xs : List V} (R : Nat → V → Hp → Prop) (hR : ∀ i y H H', Kp H H' → R i y H → R i y H') (hD : H1 Dd = none) (hx : SqT K H1 a xs) (hz : xs.length ≤ 100000) (hm : GMono g)
    (hs : ∀ (i : Nat) y T H, xs[i]? = some y → Ex H1 H → H T = some (.tup [.int (i : Nat), y]) → g (.ref T) (wipe σ vs) H fun σ2 H2 => wipe σ2 vs = wipe σ vs ∧ tmE te σ2 H2 fun y H4 => Ex H H4 ∧ R i y H4)
    (hd : LcEnd H1 Dd xs.length R Q) : LcW (Iet K a) g tYes (tmE te) vs σ H1 Dd Q :=
  lcP (walk_enumT (K := K) (a := a) (xs := xs)) R hR hD (fun H e => sqT_kp hx e.kp) hz hm (fun i x y T H _ h1 h2 e t => by
    cases h1
    exact hs i y T H h2 e t) hd
theorem lcZ {k1 k2 : Bool} {a b : Addr} {xs ys : List V} {n : Nat} (hn : n = min xs.length ys.length) (R : Nat → V → Hp → Prop) (hR : ∀ i y H H', Kp H H' → R i y H → R i y H') (hD : H1 Dd = none)
    (hx : SqB K k1 H1 a xs) (hy : SqB K k2 H1 b ys) (hz : n ≤ 100000) (hm : GMono g)
    (hs : ∀ (i : Nat) x y T H, xs[i]? = some x → ys[i]? = some y → Ex H1 H → H T = some (.tup [x, y]) → g (.ref T) (wipe σ vs) H fun σ2 H2 => wipe σ2 vs = wipe σ vs ∧ tmE te σ2 H2 fun y H4 => Ex H H4 ∧ R i y H4)
    (hd : LcEnd H1 Dd n R Q) : LcW (ItzB K k1 k2 a b) g tYes (tmE te) vs σ H1 Dd Q :=
  lcP (walk_zipB hn) R hR hD (fun H e => ⟨sqB_kp hx e, sqB_kp hy e⟩) hz hm (fun i x y T H _ h1 h2 e t => hs i x y T H h1 h2 e t) hd
theorem r_zipB {tx : TA} {S : It → Hp → Prop} : iZipB K tx σ H S = tx σ H fun vs H1 => ∃ k1 k2 a b xs ys, vs = [.ref a, .ref b] ∧ SqB K k1 H1 a xs ∧ SqB K k2 H1 b ys ∧ S (ItzB K k1 k2 a b) H1 := rfl
end

/-! ### comb, lcm -/
theorem fp_abs {n : Int} {c : Nat} (h0 : 0 ≤ n) (hn : n.natAbs ≤ 2 ^ c) (k : Nat) : (k : Int) ≤ n → (Builtin.Math.fallingProduct n k).natAbs ≤ 2 ^ (c * k) := by
  induction k with
  | zero =>
    intro _
    rw [PySem.W.mc_fp_zero]
    simp
  | succ k ih =>
    intro h
    rw [PySem.W.mc_fp_succ, Int.natAbs_mul, Nat.mul_succ, Nat.pow_add]
    have h1 := ih (by omega)
    have h2 : (n - (k : Int)).natAbs ≤ 2 ^ c := by omega
    exact Nat.mul_le_mul h1 h2
theorem lg {m c : Nat} (h : m ≤ 2 ^ c) (hc : c < 100000000) : m.log2 < bitsLine := by
  have p : 0 < 2 ^ c := Nat.two_pow_pos c
  have h2 : m < 2 ^ (c + 1) := by
    rw [Nat.pow_succ]
    omega
  by_cases h0 : m = 0
  · subst h0
    show (0 : Nat).log2 < 2 ^ 27
    decide +kernel
  have := (Nat.log2_lt h0).mpr h2
  show m.log2 < 2 ^ 27
  omega
/-- the numbers that comb is asked for -/
def CombOk (a b : Int) : Prop := 0 ≤ a ∧ 0 ≤ b ∧ b ≤ 8 ∧ a < 2 ^ 300
theorem gives_comb {a b : Int} (t u : Tok) (h : CombOk a b) : Gives (Builtin.«math.comb» ⟨[.int a t, .int b u], []⟩) (.int (PySem.W.mcComb a b)) := by
  obtain ⟨ha, hb, hs, hl⟩ := h
  by_cases h : b > a
  · rw [PySem.W.mcComb_above h]
    exact PySem.W.mc_run_comb0 a t b u (by omega) (by omega) h
  · have hm : min b (a - b) ≤ 8 := by omega
    have hm0 : 0 ≤ min b (a - b) := by omega
    have hq : PySem.W.mcComb a b = Builtin.Math.fallingProduct a (min b (a - b)).toNat / Builtin.Math.fallingProduct (min b (a - b)) (min b (a - b)).toNat := PySem.W.mcComb_at hb (by omega) rfl
    have h1 : (Builtin.Math.fallingProduct a (min b (a - b)).toNat).natAbs ≤ 2 ^ (300 * (min b (a - b)).toNat) := fp_abs ha (by omega) _ (by omega)
    have h2 : (PySem.W.mcComb a b).natAbs ≤ (Builtin.Math.fallingProduct a (min b (a - b)).toNat).natAbs := by
      rw [hq]
      exact Int.natAbs_ediv_le_natAbs _ _
    have hs : (PySem.W.mcComb a b).natAbs.log2 < bitsLine := lg (Nat.le_trans h2 h1) (by omega)
    have h3 : ¬min b (a - b) > Builtin.Math.maxSsize := by show ¬min b (a - b) > 2 ^ 63 - 1; omega
    have h4 : ¬min b (a - b) > Builtin.Math.manyFactors := by show ¬min b (a - b) > 20000; omega
    rw [hq] at hs ⊢
    exact PySem.W.mc_run_comb a t b u (by omega) (by omega) h h3 h4 (by omega) hs
section
variable {X : Cx}
def rComb : List V → Hp → VK → Prop := fun vs H Q => ∃ a b : Int, vs = [.int a, .int b] ∧ CombOk a b ∧ Q (.int (PySem.W.mcComb a b)) H
theorem cr_comb : CallR X (.builtin "math.comb") rComb := by
  intro pins s σ H vs us Q I r h
  obtain ⟨a, b, rfl, ok, q⟩ := h
  obtain ⟨t, u, rfl⟩ := Vals.int2 r
  exact call_function_meets PySem.W.MGF.kind_comb PySem.W.MGF.plain_comb PySem.W.MGF.entry_comb (PySem.W.MGF.args_comb _ _) (gives_comb t u ok).meets ⟨.int _, H, I.tok _, ⟨_, rfl⟩, q⟩
def rLcm : List V → Hp → VK → Prop := fun vs H Q => ∃ a b : Int, vs = [.int a, .int b] ∧ a.natAbs < 2 ^ 13000 ∧ b.natAbs < 2 ^ 13000 ∧ Q (.int ((Nat.lcm a.natAbs b.natAbs : Nat) : Int)) H
theorem log_le {m c : Nat} (h : m < 2 ^ c) : m.log2 ≤ c := by
  by_cases h0 : m = 0
  · subst h0
    exact Nat.zero_le _
  exact Nat.le_of_lt ((Nat.log2_lt h0).mpr h)
theorem lcm_le (m n : Nat) : m.lcm n ≤ m * n := Nat.div_le_self _ _
theorem cr_lcm : CallR X (.builtin "math.lcm") rLcm := by
  intro pins s σ H vs us Q I r h
  obtain ⟨a, b, rfl, la, lb, q⟩ := h
  obtain ⟨t, u, rfl⟩ := Vals.int2 r
  have hl : (Nat.lcm a.natAbs b.natAbs) ≤ 2 ^ 26000 := by
    have h1 := lcm_le a.natAbs b.natAbs
    have h2 := Nat.mul_le_mul (Nat.le_of_lt la) (Nat.le_of_lt lb)
    rw [← Nat.pow_add] at h2
    exact Nat.le_trans h1 h2
  have h1 : (max 1 a.natAbs).log2 ≤ 13000 := log_le (by
    have : 1 < 2 ^ 13000 := Nat.one_lt_two_pow (by decide)
    omega)
  have h2 : (max a.natAbs b.natAbs).log2 ≤ 13000 := log_le (by omega)
  have e : Nat.lcm 1 a.natAbs = a.natAbs := PySem.W.mc_lcm_one _
  have g := PySem.W.mg_run_lcm a t b u (by omega) (by omega) (by rw [e]; exact lg hl (by decide))
  rw [e] at g
  exact call_function_meets PySem.W.MGF.kind_lcm PySem.W.MGF.plain_lcm PySem.W.MGF.entry_lcm (PySem.W.MGF.args_lcm _ _) g.meets ⟨.int _, H, I.tok _, ⟨_, rfl⟩, q⟩

/-! ### words alone -/
/-- the written values put in the parameters' order: ix tells for each parameter which of them -/
def arr {α : Type} (ix : List Nat) (ws : List α) : List α := ix.filterMap (ws[·]?)
theorem arr_vals {zs : List V} {ws : List Value} (r : Vals zs ws) : ∀ ix : List Nat, Vals (arr ix zs) (arr ix ws)
  | [] => .nil
  | i :: ix => by
    have ih := arr_vals r ix
    unfold arr at ih ⊢
    have hl := r.length
    cases h : zs[i]? with
    | none =>
      have h2 : ws[i]? = none := by
        rw [List.getElem?_eq_none_iff] at h ⊢
        omega
      rw [List.filterMap_cons, List.filterMap_cons, h, h2]
      exact ih
    | some z =>
      obtain ⟨u, hu, ru⟩ := r.get h
      rw [List.filterMap_cons, List.filterMap_cons, h, hu]
      exact .cons ru ih
def KwOk (fd : FuncData) (ps ks : List Str) (ix : List Nat) : Prop := ∀ (s : Shared) (ws : List Value), ws.length = ks.length → BindsTo s fd ⟨[], ks.zip ws⟩ (ps.zip (arr ix ws))
def HasW (P : Program) (w : World) (K : PySem.W.Frag) (mg : Str → Option Value) (base : Heap) (x : Str) (k : Nat) (ps : List Str) (sp : Sp) (ks : List Str) (ix : List Nat) : Prop :=
  ∃ f fd, FnOk P w K mg base CX0 k f fd ps sp ∧ mg x = some (.ref f) ∧ PySem.W.keepIn K (.ref f) = true ∧ KwOk fd ps ks ix
/-- the def st of the text, called by words -/
def DfW (K : PySem.W.Frag) (mg : Str → Option Value) (x : Str) (st : Stmt) (ps ks : List Str) (ix : List Nat) : Prop :=
  ∃ f fd, Fun K x x st f fd ∧ mg x = some (.ref f) ∧ KwOk fd ps ks ix
theorem HasW.of {P : Program} {w : World} {K : PySem.W.Frag} {mg : Str → Option Value} {base : Heap} {x : Str} {st : Stmt} {ps ks : List Str} {ix : List Nat} {k : Nat} {sp : Sp} (D : DfW K mg x st ps ks ix)
    (h : ∀ f fd, Fun K x x st f fd → FnOk P w K mg base CX0 k f fd ps sp) : HasW P w K mg base x k ps sp ks ix := by
  obtain ⟨f, fd, F, hm, hb⟩ := D
  exact ⟨f, fd, h f fd F, hm, F.kp, hb⟩
def tW (sp : Sp) (m : Nat) (ix : List Nat) (tk : TA) : TE := fun σ H Q => tk σ H fun zs H1 => zs.length = m ∧ sp (arr ix zs) H1 Q E0
theorem pe_hasW {x : Str} {k : Nat} {ps ks : List Str} {ix : List Nat} {sp : Sp} {p pos : Pos} {kws : List Keyword} {tk : TA}
    (h : HasW X.prog X.w X.K X.mg X.base x k ps sp ks ix) (hr : Room k X.A) (hkw : PK X kws tk) (hg : Gl X x := by rfl)
    (hdb : (x == ("__debug__" : Str)) = false := by decide)
    (hall : (backToKw pos (keywordEach kws X.env)).all (·.1.isSome) = true := by rfl) (hks : (backToKw pos (keywordEach kws X.env)).filterMap (·.1) = ks := by rfl)
    (hpl : ((backTo pos (starEach [] X.env)).any (·.1) || (backToKw pos (keywordEach kws X.env)).any (·.1.isNone)) = false := by rfl) :
    PE X (.Call (.Name x p) [] kws pos) (tW sp ks.length ix tk) := by
  obtain ⟨f, fd, F, hm, hk, hb⟩ := h
  refine ⟨fun pins s σ H Q I h => ?_⟩
  apply wpAny_Call_Name_kw (ld_glob I hg hm ?_ hdb)
  apply PySem.W.callWith_KW0 (h₀ := X.base) I.ok.mod.kin hk hall ?_ hpl
  refine thn (hkw.run pos pins s σ H _ I h) fun ws s2 ⟨zs, H2, I2, rz, l, hsp⟩ => ⟨I2.kIn, ?_⟩
  rw [hks]
  have r2 := arr_vals rz ix
  have bnd := hb s2 ws (by rw [← rz.length]; exact l)
  refine wpAny_call (codeAny_mono (F.run X.A X.stack s2 H2 ⟨[], ks.zip ws⟩ (arr ix ws) (arr ix zs) Q E0 hr I2.env0 bnd r2 hsp) fun r s' hc => ?_)
  cases r with
  | error er => exact ((pass0 (X := X)) pins σ H2 s2 er s' I2 hc)
  | ok fl =>
    cases fl with
    | ret u => exact I2.after hc
    | next => exact hc.elim
    | brk => exact hc.elim
    | cont => exact hc.elim
theorem r_tW {sp : Sp} {m : Nat} {ix : List Nat} {tk : TA} {σ : L2.St} {H : Hp} {Q : VK} : tW sp m ix tk σ H Q = tk σ H fun zs H1 => zs.length = m ∧ sp (arr ix zs) H1 Q E0 := rfl
end

/-! ### a tuple turned about -/
theorem fm_congr {α β : Type} {f g : α → Option β} : ∀ {l : List α}, (∀ x ∈ l, f x = g x) → l.filterMap f = l.filterMap g
  | [], _ => rfl
  | a :: l, h => by
    rw [List.filterMap_cons, List.filterMap_cons, h a (List.mem_cons_self ..), fm_congr fun x hx => h x (List.mem_cons_of_mem _ hx)]
theorem rev_pick (xs : Array Value) : ((List.range xs.size).filterMap fun (m : Nat) => xs[(((xs.size : Int) - 1) + (m : Int) * (-1)).toNat]?).toArray = xs.toList.reverse.toArray := by
  congr 1
  apply List.ext_getElem?
  intro i
  have e : (List.range xs.size).filterMap (fun (m : Nat) => xs[(((xs.size : Int) - 1) + (m : Int) * (-1)).toNat]?) = (List.range xs.size).filterMap (fun m => xs.toList.reverse[m]?) := by
    apply fm_congr
    intro m hm
    replace hm := List.mem_range.mp hm
    have z : (((xs.size : Int) - 1) + (m : Int) * (-1)).toNat = xs.size - 1 - m := by omega
    rw [z, List.getElem?_reverse (by simpa using hm)]
    simp
  rw [e]
  have : (List.range xs.size).filterMap (fun m => xs.toList.reverse[m]?) = xs.toList.reverse := by
    have h : ∀ (l : List Value), (List.range l.length).filterMap (fun m => l[m]?) = l := by
      intro l
      induction l with
      | nil => rfl
      | cons a l ih =>
        rw [List.length_cons, List.range_succ_eq_map, List.filterMap_cons]
        simp only [List.getElem?_cons_zero, List.filterMap_map]
        congr 1
    have h2 := h xs.toList.reverse
    rw [List.length_reverse, Array.length_toList] at h2
    exact h2
  rw [this]
section
variable {prog : Program} {w : World} {A : Around} {E : Value → Shared → Prop} {s : Shared}
theorem adjust_rev (n : Nat) : Builtin.Slice.sliceAdjust none none (-1) (n : Int) = ((n : Int) - 1, -1) := by
  unfold Builtin.Slice.sliceAdjust
  simp
theorem places_rev (n : Nat) : Builtin.Slice.slicePlaces ((n : Int) - 1) (-1) (-1) = n := by
  unfold Builtin.Slice.slicePlaces
  have h1 : ¬ ((-1 : Int) > 0) := by omega
  rw [if_neg h1]
  split
  · have : ((n : Int) - 1 - -1 - 1) / (- -1) = (n : Int) - 1 := by
      rw [show (- -1 : Int) = 1 by decide, Int.ediv_one]
      omega
    rw [this]
    omega
  · omega
theorem item_rev {t sl : Addr} {items : Array Value} {vl vu vs : Value} {Q : Value → Shared → Prop} (ht : IsTup s.heap t items) (hs : s.heap.IsSliceOf sl vl vu vs) (pl : IsPart vl none) (pu : IsPart vu none) (ps : IsPart vs (some (-1)))
    (h : Q (.ref s.heap.objs.size) { s with heap := s.heap.push { cls := .type "tuple", data := .seq items.toList.reverse.toArray } })
    (hsz : items.size ≤ sizeLine) : wpAny (model prog w) A (getItem (.ref t) (.ref sl)) Q E s := by
  have hok : sizeOk (.seq items.toList.reverse.toArray) := by
    show items.toList.reverse.toArray.size ≤ sizeLine
    simpa using hsz
  obtain ⟨os, hos, hcs, hds⟩ := id hs
  have hTs : s.TypeIs (.ref sl) "slice" := ⟨os, hos, hcs⟩
  have hTt : s.TypeIs (.ref t) "tuple" := let ⟨o, ho, hc, _⟩ := ht; ⟨o, ho, hc⟩
  unfold getItem
  try with_reducible refine wpAny_holding ?_
  first | refine wpAny_bind (wpAny_pure ?_) | skip
  refine wpAny_bind (wpAny_sequenceKey hTt (by decide) ?_)
  apply wpAny_bind
  apply wpAny_callSpecial?_slot (name := Str.ofString "__getitem__") hTt PyProof.Rows.slot_tuple_getitem
  apply wpAny_call_entry PyProof.Rows.slot_tuple_getitem hTt PyProof.Rows.entry_tuple_getitem ?_ (PyProof.Rows.args_tuple_getitem _ _)
  show wpAny _ _ (Builtin.Tuple.tupleItemsOf (.ref t) >>= _) _ _ s
  refine wpAny_bind (tupleItemsOf_ ht ?_)
  refine wpAny_bind (wpAny_typeOf hTs ?_)
  rw [if_pos (by decide)]
  apply wpAny_bind
  unfold Builtin.Slice.sliceApplied Builtin.Slice.sliceFields
  apply wpAny_bind
  refine wpAny_bind (wpAny_field hos hds (x := vl) rfl ?_)
  refine wpAny_bind (wpAny_field hos hds (x := vu) rfl ?_)
  refine wpAny_bind (wpAny_field hos hds (x := vs) rfl (wpAny_pure ?_))
  refine wpAny_bind (HT.slicePart_ ps ?_)
  show wpAny _ _ (if ((-1 : Int) == 0) = true then _ else _) _ _ s
  rw [if_neg (by decide)]
  refine wpAny_bind (HT.slicePart_ pl ?_)
  refine wpAny_bind (HT.slicePart_ pu ?_)
  refine wpAny_bind (wpAny_pure ?_)
  show wpAny _ _ (match Builtin.Slice.sliceAdjust none none (-1) (items.size : Int) with | (lo, hi) => pure (lo, (-1 : Int), Builtin.Slice.slicePlaces lo hi (-1))) _ _ s
  rw [adjust_rev]
  show wpAny _ _ (pure ((items.size : Int) - 1, (-1 : Int), Builtin.Slice.slicePlaces ((items.size : Int) - 1) (-1) (-1))) _ _ s
  rw [places_rev]
  refine wpAny_pure ?_
  have no : ¬ ((((items.size : Int) - 1 == 0) && ((-1 : Int) == 1) && (items.size == items.size)) = true) := by
    intro q
    rw [Bool.and_eq_true, Bool.and_eq_true] at q
    exact absurd q.1.2 (by decide)
  show wpAny _ _ (if (((items.size : Int) - 1 == 0) && ((-1 : Int) == 1) && (items.size == items.size)) = true then _ else _) _ _ s
  rw [if_neg no, rev_pick]
  first
    | exact wpAny_bind (m := Builtin.Tuple.tupleExact _) (wpAny_newObj_type (wpAny_pure ⟨_, rfl, wpAny_pure h⟩) hok)
    | exact wpAny_bind (m := Builtin.Tuple.tupleExact _) (wpAny_newObj_type (wpAny_bind (wpAny_pure (wpAny_pure ⟨_, rfl, wpAny_pure h⟩))) hok)
    | exact wpAny_bind (wpAny_bind (m := Builtin.Tuple.tupleExact _) (wpAny_newObj_type (wpAny_pure (wpAny_pure ⟨_, rfl, wpAny_pure h⟩)) hok))
    | exact wpAny_bind (wpAny_bind (m := Builtin.Tuple.tupleExact _) (wpAny_newObj_type (wpAny_pure ⟨_, rfl, wpAny_pure h⟩) hok))
end
section
variable {X : Cx}
def tRevT (K : PySem.W.Frag) (te : TE) : TE := fun σ H Q => te σ H fun x H1 => ∃ a xs, x = .ref a ∧ SqT K H1 a xs ∧ New H1 (.tup xs.reverse) Q
theorem pe_revT {e : Expr} {te : TE} {k : Nat} {p1 p2 p3 pos : Pos} (he : PE X e te) : PE X (.Subscript e (.Slice none none (some (.UnaryOp .USub (.Constant (.int 1) k p1) p2)) p3) pos) (tRevT X.K te) := by
  refine ⟨fun pins s σ H Q I h => ?_⟩
  refine Subscript_ (thn (he.run pins s σ H _ I h) fun v s1 ⟨x, H1, I1, r1, q1⟩ => ?_)
  obtain ⟨a, xs, ex, hx, q⟩ := q1
  subst ex
  cases r1
  have hst : PO X (some (.UnaryOp .USub (.Constant (.int 1) k p1) p2)) (tPart (tUn (rU fun i => .int (-i)) (tC (.int 1)))) := po_some (pe_un un_neg pe_int)
  apply wpAny_Slice
  refine thn (po_none.run pins s1 σ H1 (fun o H2 => o = none ∧ H2 = H1) I1 ⟨rfl, rfl⟩) fun vl s2 ⟨l, H2, I2, pl, el, e2⟩ => ?_
  cases el
  cases e2
  refine thn (po_none.run pins s2 σ H1 (fun o H2 => o = none ∧ H2 = H1) I2 ⟨rfl, rfl⟩) fun vu s3 ⟨u, H3, I3, pu, eu, e3⟩ => ?_
  cases eu
  cases e3
  refine thn (hst.run pins s3 σ H1 (fun o H2 => o = some (-1) ∧ H2 = H1) I3 ⟨1, rfl, -1, rfl, rfl, rfl⟩) fun vs s4 ⟨o, H4, I4, ps, eo, e4⟩ => ?_
  cases eo
  cases e4
  let so : Obj := { cls := .type "slice", data := .fields #[vl, vu, vs] }
  have I5 : Inv X pins σ H1 { s4 with heap := s4.heap.push so } := I4.kept (t' := s4.toks) fun b ob q => Heap.get?_push_of_some _ q
  obtain ⟨its, r, ht, hz⟩ := I5.tuple hx
  have hlen := r.length
  have hT : ({ s4 with heap := s4.heap.push so } : Shared).TypeIs (.ref a) "tuple" := let ⟨o, ho, hc, _⟩ := ht; ⟨o, ho, hc⟩
  show wpAny (model X.prog X.w) X.A (subscriptTail e (.Slice none none (some (.UnaryOp .USub (.Constant (.int 1) k p1) p2)) p3) (.ref a) (.ref s4.heap.objs.size)) (EP X pins σ Q) X.xe { s4 with heap := s4.heap.push so }
  refine tail_any (ops := [.ref a, .ref s4.heap.objs.size]) hT PyProof.Rows.slot_tuple_getitem.lookup ?_ (by with_unfolding_all rfl)
  refine item_rev ht (Heap.IsSliceOf.new _ vl vu vs) pl pu ps ?_ (by rw [List.size_toArray]; omega)
  refine ⟨.ref _, _, I5.laid (t' := s4.toks) (o := .tup xs.reverse) (fun b ob q => Heap.get?_push_of_some _ q) (Nat.le_refl _) ?_, rfl, ?_⟩
  · exact ⟨by rw [List.length_reverse]; omega, _, by simpa using r.reverse, IsTup.new _ _⟩
  · exact q.at _ (I5.hok.fresh (Nat.le_refl _))
theorem kRevT {K : PySem.W.Frag} {e : Expr} {te : TE} {k : Nat} {p1 p2 p3 pos : Pos} (he : PE X e te) (h : X.K = K := by rfl) : PE X (.Subscript e (.Slice none none (some (.UnaryOp .USub (.Constant (.int 1) k p1) p2)) p3) pos) (tRevT K te) := by
  subst h
  exact pe_revT he
theorem r_revT {K : PySem.W.Frag} {te : TE} {σ : L2.St} {H : Hp} {Q : VK} : tRevT K te σ H Q = te σ H fun x H1 => ∃ a xs, x = .ref a ∧ SqT K H1 a xs ∧ New H1 (.tup xs.reverse) Q := rfl
end
section
variable {P : Program} {w : World} {K : PySem.W.Frag} {mg : Str → Option Value} {base : Heap} {N : List Str} {q : Str} {sc : Scope} {f : Addr} {cd : Value} {A : Around} {outer : List Env} {s : Shared} {H : Hp} {E : XK}
theorem r_Kbb {s' s2 : Shared} {H' H2 : Hp} {sc' sc2 : Scope} {ce ce2 : Env} {fp fp2 : List Addr} : ((((cxOf CX0 P w K mg base N q sc f cd A outer s H E).nox).blk s' H' sc' ce fp).blk s2 H2 sc2 ce2 fp2).K = K := rfl
end

/-! ### ways to choose, small -/
def chs : Nat → Nat → Nat
  | _, 0 => 1
  | 0, _ + 1 => 0
  | n + 1, k + 1 => chs n k + chs n (k + 1)
theorem comb_chs {a b : Nat} (ha : a < 6) (hb : b < 6) : PySem.W.mcComb (a : Int) (b : Int) = ((chs a b : Nat) : Int) := by
  have h : ∀ a < 6, ∀ b < 6, PySem.W.mcComb ((a : Nat) : Int) ((b : Nat) : Int) = ((chs a b : Nat) : Int) := by decide +kernel
  exact h a ha b hb
theorem chs_le {a b : Nat} (ha : a < 6) (hb : b < 6) : chs a b ≤ 10 := by
  have h : ∀ a < 6, ∀ b < 6, chs a b ≤ 10 := by decide +kernel
  exact h a ha b hb
theorem chs_pos {a b : Nat} (ha : a < 6) (hb : b ≤ a) : 0 < chs a b := by
  have h : ∀ a < 6, ∀ b < a + 1, 0 < chs a b := by decide +kernel
  exact h a ha b (by omega)
theorem comb_ok {a b : Nat} (ha : a < 6) (hb : b < 6) : CombOk (a : Int) (b : Int) := ⟨by omega, by omega, by omega, by omega⟩
/-! ### all-yes chances -/
def hitsL (ps : List Int) (j : Nat) : List Int := ps.mapIdx fun k c => c * ((chs k j : Nat) : Int)
def ay (ps : List Int) (j : Nat) : Rat := (((hitsL ps j).sum : Int) : Rat) / ((ps.sum * ((chs (ps.length - 1) j : Nat) : Int) : Int) : Rat)
/-! ### blending -/
abbrev Zs := List (List Int × Rat)
def denW (z : List Int × Rat) : Int := z.1.sum * ((z.2.den : Nat) : Int)
def botF (zs : Zs) : Nat := zs.foldl (fun B z => Nat.lcm B (denW z).natAbs) 1
def wgt (B : Nat) (z : List Int × Rat) : Int := z.2.num * ((B : Int) / denW z)
def colW (B : Nat) (k : Nat) (zs : Zs) : List Int := zs.map fun z => wgt B z * z.1.getD k 0
def blendL (m : Nat) (zs : Zs) : List Int := (List.range m).map fun k => (colW (botF zs) k zs).sum
theorem botF_take {zs : Zs} {i : Nat} {z : List Int × Rat} (h : zs[i]? = some z) : botF (zs.take (i + 1)) = Nat.lcm (botF (zs.take i)) (denW z).natAbs := by
  unfold botF
  rw [List.take_add_one, h]
  simp
theorem lcm0 {a b : Nat} (ha : 0 < a) (hb : 0 < b) : 0 < Nat.lcm a b := Nat.lcm_pos ha hb
theorem botG (zs : Zs) : ∀ (B : Nat), 0 < B → (∀ z ∈ zs, 0 < denW z) → 0 < zs.foldl (fun B z => Nat.lcm B (denW z).natAbs) B ∧ B ∣ zs.foldl (fun B z => Nat.lcm B (denW z).natAbs) B ∧ ∀ z ∈ zs, (denW z).natAbs ∣ zs.foldl (fun B z => Nat.lcm B (denW z).natAbs) B := by
  induction zs with
  | nil => exact fun B h _ => ⟨h, Nat.dvd_refl _, fun r h => by simp at h⟩
  | cons z zs ih =>
    intro B hB hz
    have hd := hz z (List.mem_cons_self ..)
    obtain ⟨h1, h2, h3⟩ := ih (Nat.lcm B (denW z).natAbs) (lcm0 hB (by omega)) fun x hx => hz x (List.mem_cons_of_mem _ hx)
    refine ⟨h1, Nat.dvd_trans (Nat.dvd_lcm_left _ _) h2, fun x hx => ?_⟩
    rcases List.mem_cons.mp hx with rfl | hx
    · exact Nat.dvd_trans (Nat.dvd_lcm_right _ _) h2
    · exact h3 x hx
structure BlendOk (zs : Zs) (N m : Nat) (cs : List Int) (S : Int) : Prop where
  n0 : 0 < zs.length
  n1 : zs.length ≤ 8
  nN : N ≤ 800
  m0 : 2 ≤ m
  m1 : m ≤ 6
  len : ∀ z ∈ zs, z.1.length = m
  tp : ∀ z ∈ zs, 0 < z.1.sum
  ds : ∀ z ∈ zs, (denW z).natAbs < 2 ^ N
  tn : ∀ z ∈ zs, ∀ t ∈ z.1, 0 ≤ t ∧ t.natAbs < 2 ^ N
  rn : ∀ z ∈ zs, 0 ≤ z.2.num ∧ z.2.num.natAbs < 2 ^ N
  cl : cs.length = m
  S0 : 0 < S
  pr : ∀ k < m, (zs.map fun z => z.2 * ((z.1.getD k 0 : Int) : Rat) / ((z.1.sum : Int) : Rat)).sum = ((cs.getD k 0 : Int) : Rat) / (S : Rat)
  cp : ∃ c ∈ cs, c ≠ 0
theorem denW_pos {z : List Int × Rat} (h : 0 < z.1.sum) : 0 < denW z := Int.mul_pos h (den_pos _)
theorem botF_lt {N : Nat} : ∀ (zs : Zs) (i : Nat), (∀ z ∈ zs, (denW z).natAbs < 2 ^ N) → i ≤ zs.length → botF (zs.take i) < 2 ^ (i * N + 1)
  | zs, 0, _, _ => by
    rw [Nat.zero_mul, List.take_zero]
    show 1 < 2 ^ (0 + 1)
    decide
  | zs, i + 1, h, hi => by
    have hr : zs[i]? = some zs[i] := List.getElem?_eq_getElem (by omega)
    rw [botF_take hr]
    have h1 := botF_lt zs i h (by omega)
    have h2 := h _ (List.getElem_mem (h := show i < zs.length by omega))
    have e : (i + 1) * N + 1 = (i * N + 1) + N := by rw [Nat.add_mul]; omega
    rw [e, Nat.pow_add]
    exact Nat.lt_of_le_of_lt (lcm_le _ _) (Nat.mul_lt_mul'' h1 h2)
theorem botF_pos {zs : Zs} (h : ∀ z ∈ zs, 0 < z.1.sum) : 0 < botF zs := (botG zs 1 Nat.one_pos fun z hz => denW_pos (h z hz)).1
theorem botF_dvd {zs : Zs} (h : ∀ z ∈ zs, 0 < z.1.sum) {z : List Int × Rat} (hz : z ∈ zs) : denW z ∣ ((botF zs : Nat) : Int) :=
  Int.natAbs_dvd.mp (Int.ofNat_dvd.mpr ((botG zs 1 Nat.one_pos fun z hz => denW_pos (h z hz)).2.2 z hz))
theorem wgt_rat {B : Nat} {z : List Int × Rat} (h : 0 < z.1.sum) (hd : denW z ∣ (B : Int)) (t : Int) :
    ((wgt B z * t : Int) : Rat) = ((B : Int) : Rat) * (z.2 * (t : Rat) / ((z.1.sum : Int) : Rat)) := by
  obtain ⟨q, hq⟩ := hd
  have d0 := denW_pos h
  have e : (B : Int) / denW z = q := by rw [hq]; exact Int.mul_ediv_cancel_left _ (by omega)
  unfold wgt
  rw [e]
  have eB : ((B : Int) : Rat) = ((z.1.sum : Int) : Rat) * (((z.2.den : Nat) : Int) : Rat) * (q : Rat) := by
    rw [hq]
    unfold denW
    rw [Rat.intCast_mul, Rat.intCast_mul]
  rw [eB, Rat.intCast_mul, Rat.intCast_mul]
  have en : ((z.2.num : Int) : Rat) = z.2 * (((z.2.den : Nat) : Int) : Rat) := by
    have := Rat.num_divInt_den z.2
    rw [Rat.divInt_eq_div] at this
    have hn : (((z.2.den : Nat) : Int) : Rat) ≠ 0 := fun x => by
      have := congrArg Rat.num x
      have := den_pos z.2
      simp at *
      omega
    have h2 : ((z.2.num : Int) : Rat) / (((z.2.den : Nat) : Int) : Rat) = z.2 := this
    grind
  have hs : ((z.1.sum : Int) : Rat) ≠ 0 := fun x => by
    have := congrArg Rat.num x
    simp at this
    omega
  rw [en]
  grind
theorem col_rat {B : Nat} (k : Nat) : ∀ (zs : Zs), (∀ z ∈ zs, 0 < z.1.sum ∧ denW z ∣ (B : Int)) →
    (((colW B k zs).sum : Int) : Rat) = ((B : Int) : Rat) * (zs.map fun z => z.2 * ((z.1.getD k 0 : Int) : Rat) / ((z.1.sum : Int) : Rat)).sum
  | [], _ => by
    simp [colW]
  | z :: zs, h => by
    have ih := col_rat (B := B) k zs fun x hx => h x (List.mem_cons_of_mem _ hx)
    obtain ⟨h1, h2⟩ := h z (List.mem_cons_self ..)
    have e : colW B k (z :: zs) = wgt B z * z.1.getD k 0 :: colW B k zs := rfl
    rw [e, List.sum_cons, Rat.intCast_add, ih, wgt_rat h1 h2, List.map_cons, List.sum_cons]
    grind
theorem blend_col {zs : Zs} {N m : Nat} {cs : List Int} {S : Int} (h : BlendOk zs N m cs S) {k : Nat} (hk : k < m) : S * (colW (botF zs) k zs).sum = ((botF zs : Nat) : Int) * cs.getD k 0 := by
  have e := col_rat (B := botF zs) k zs fun z hz => ⟨h.tp z hz, botF_dvd h.tp hz⟩
  rw [h.pr k hk] at e
  have hS : ((S : Int) : Rat) ≠ 0 := fun x => by
    have := congrArg Rat.num x
    have := h.S0
    simp at *
    omega
  have e2 : ((S * (colW (botF zs) k zs).sum : Int) : Rat) = ((((botF zs : Nat) : Int) * cs.getD k 0 : Int) : Rat) := by
    rw [Rat.intCast_mul, Rat.intCast_mul, e]
    grind
  exact Rat.intCast_inj.mp e2
theorem blend_plain {zs : Zs} {N m : Nat} {cs : List Int} {S : Int} (h : BlendOk zs N m cs S) : (blendL m zs).map (S * ·) = cs.map (((botF zs : Nat) : Int) * ·) := by
  apply List.ext_getElem?
  intro k
  by_cases hk : k < m
  · have hc : cs[k]? = some (cs.getD k 0) := by
      have hl : k < cs.length := by rw [h.cl]; exact hk
      rw [List.getD_eq_getElem?_getD, List.getElem?_eq_getElem hl]
      rfl
    have e := blend_col h hk
    rw [List.getElem?_map, List.getElem?_map, hc]
    simp only [blendL, List.getElem?_map, List.getElem?_range hk, Option.map_some]
    rw [e]
  · rw [List.getElem?_eq_none (by simp [blendL]; omega), List.getElem?_eq_none (by simp [h.cl]; omega)]
theorem sum_abs_lt {n : Nat} : ∀ (xs : List Int) (a : Nat), (∀ x ∈ xs, x.natAbs < 2 ^ n) → xs.length ≤ a → xs.sum.natAbs ≤ a * 2 ^ n
  | [], a, _, _ => by simp
  | x :: xs, 0, _, h => by simp at h
  | x :: xs, a + 1, h, hl => by
    have ih := sum_abs_lt xs a (fun y hy => h y (List.mem_cons_of_mem _ hy)) (by simpa using hl)
    have h1 := h x (List.mem_cons_self ..)
    rw [List.sum_cons, Nat.add_mul]
    omega
theorem mc_abs {a b : Int} {c : Nat} (h0 : 0 ≤ a) (ha : a.natAbs ≤ 2 ^ c) (hb : 0 ≤ b) (hb8 : b ≤ 8) : (PySem.W.mcComb a b).natAbs < 2 ^ (c * 8 + 1) := by
  by_cases h : b > a
  · rw [PySem.W.mcComb_above h]
    exact Nat.two_pow_pos _
  · have hm : min b (a - b) ≤ 8 := by omega
    have hq : PySem.W.mcComb a b = PySem.Builtin.Math.fallingProduct a (min b (a - b)).toNat / PySem.Builtin.Math.fallingProduct (min b (a - b)) (min b (a - b)).toNat := PySem.W.mcComb_at hb (by omega) rfl
    have h1 : (PySem.Builtin.Math.fallingProduct a (min b (a - b)).toNat).natAbs ≤ 2 ^ (c * (min b (a - b)).toNat) := fp_abs h0 ha _ (by omega)
    have h2 : (PySem.W.mcComb a b).natAbs ≤ (PySem.Builtin.Math.fallingProduct a (min b (a - b)).toNat).natAbs := by
      rw [hq]
      exact Int.natAbs_ediv_le_natAbs _ _
    have h3 : c * (min b (a - b)).toNat ≤ c * 8 := Nat.mul_le_mul_left _ (by omega)
    have h4 := Nat.pow_le_pow_right (show 0 < 2 by decide) h3
    have h5 : 2 ^ (c * 8 + 1) = 2 ^ (c * 8) + 2 ^ (c * 8) := by rw [Nat.pow_succ]; omega
    have := Nat.two_pow_pos (c * 8)
    omega
theorem BlendOk.sl {zs : Zs} {N m : Nat} {cs : List Int} {S : Int} (h : BlendOk zs N m cs S) {z : List Int × Rat} (hz : z ∈ zs) : z.1.sum.natAbs < 2 ^ N := by
  have h1 := h.ds z hz
  unfold denW at h1
  rw [Int.natAbs_mul] at h1
  have h2 : 1 ≤ (((z.2.den : Nat) : Int)).natAbs := by have := den_pos z.2; omega
  have h3 := Nat.mul_le_mul_left z.1.sum.natAbs h2
  omega
theorem BlendOk.dl {zs : Zs} {N m : Nat} {cs : List Int} {S : Int} (h : BlendOk zs N m cs S) {z : List Int × Rat} (hz : z ∈ zs) : (((z.2.den : Nat) : Int)).natAbs < 2 ^ N := by
  have h1 := h.ds z hz
  unfold denW at h1
  rw [Int.natAbs_mul] at h1
  have h2 : 1 ≤ z.1.sum.natAbs := by have := h.tp z hz; omega
  have h3 := Nat.mul_le_mul_right (((z.2.den : Nat) : Int)).natAbs h2
  omega

theorem kMax {X : Cx} {K : PySem.W.Frag} (hc : X.calm = true) (h : X.K = K := by rfl) : CallR X (.builtin "max") (rMax K) := by
  subst h
  exact cr_max hc
/-- a power that is written out, as one value -/
theorem pe_pow {X : Cx} {a b : Expr} {i j c : Int} {pos : Pos} (ha : PE X a (tC (.int i))) (hb : PE X b (tC (.int j))) (h : CPow i j) (e : i ^ j.toNat = c) : PE X (.BinOp a .Pow b pos) (tC (.int c)) :=
  PE.imp (pe_op op_pow ha hb) fun σ H Q q => ⟨i, j, rfl, rfl, h, by
    have q2 : Q (.int c) H := q
    rw [← e] at q2
    exact q2⟩
theorem pe_less {X : Cx} {a b : Expr} {i j c : Int} {pos : Pos} (ha : PE X a (tC (.int i))) (hb : PE X b (tC (.int j))) (e : i - j = c) : PE X (.BinOp a .Sub b pos) (tC (.int c)) :=
  PE.imp (pe_op op_sub ha hb) fun σ H Q q => ⟨i, j, rfl, rfl, by
    have q2 : Q (.int c) H := q
    rw [← e] at q2
    exact q2⟩

/-! comprehensions that draw; a list or a tuple walked, indexed -/
section
variable {g : TG} {te : TE} {vs : List Nat} {σ : L2.St} {H1 : Hp} {Dd v : Addr} {Q : VK} {K : PySem.W.Frag} {a : Addr} {xs : List V} {D : Ends} {H : Hp}
def LcV (v : Addr) (H1 : Hp) (Dd : Addr) (R : Nat → V → Hp → Prop) (i : Nat) (H : Hp) : Prop :=
  ∃ acc : List V, H Dd = some (.lst acc) ∧ acc.length = i ∧ Gv v H1 H ∧ ∀ (j : Nat) y, acc[j]? = some y → R j y H
theorem vat_ne (hD : H1 Dd = none) (hv : VatAt H1 v) : Dd ≠ v := fun z => by
  obtain ⟨x, y, w, h1, _⟩ := hv
  rw [← z, hD] at h1
  cases h1
theorem lcV_turn {R : Nat → V → Hp → Prop} (hR : ∀ i y H H', Kp H H' → R i y H → R i y H') (hD : H1 Dd = none) (hv : VatAt H1 v) {i : Nat} {H H4 : Hp} {y : V}
    (p : LcV v H1 Dd R i H) (e : Gv v H H4) (r : R i y H4) (hi : i < 1000000) :
    ∃ acc, H4 Dd = some (.lst acc) ∧ acc.length < sizeLine ∧ LcV v H1 Dd R (i + 1) (upd H4 Dd (.lst (acc ++ [y]))) := by
  obtain ⟨acc, h1, h2, h3, h4⟩ := p
  have dv := vat_ne hD hv
  have h5 := e.lst dv h1
  have k : Kp H4 (upd H4 Dd (.lst (acc ++ [y]))) := fun b o hb n => by
    rw [upd_ne]
    · exact hb
    · intro z
      rw [z, h5] at hb
      exact n _ (Option.some.inj hb).symm
  refine ⟨acc, h5, Nat.lt_of_lt_of_le (show acc.length < 1000000 by omega) (by decide), acc ++ [y], upd_same, by simp [h2], ⟨hv, fun b o n hb => ?_, ?_⟩, fun j z hz => ?_⟩
  · rw [upd_ne (ne_of_none hb hD)]
    exact (h3.trans e).keep _ _ n hb
  · obtain ⟨x, y, w, q1, q2⟩ := e.new
    exact ⟨x, y, w, by rw [upd_ne (Ne.symm dv)]; exact q1, q2⟩
  · by_cases hj : j < acc.length
    · rw [List.getElem?_append_left hj] at hz
      exact hR _ _ _ _ (e.kp.trans k) (h4 j z hz)
    · have hj2 : j = acc.length := by
        have := (List.getElem?_eq_some_iff.mp hz).1
        rw [List.length_append, List.length_singleton] at this
        omega
      subst hj2
      rw [List.getElem?_append_right (Nat.le_refl _), Nat.sub_self] at hz
      cases hz
      rw [h2]
      exact hR _ _ _ _ k r
theorem lcV_start {R : Nat → V → Hp → Prop} (hD : H1 Dd = none) (hv : VatAt H1 v) : LcV v H1 Dd R 0 (upd H1 Dd (.lst [])) :=
  ⟨[], upd_same, rfl, .of hv (Ex.new hD), fun j y h => by simp at h⟩
/-- what is wanted behind a comprehension that draws -/
def LcEndV (v : Addr) (H1 : Hp) (Dd : Addr) (n : Nat) (R : Nat → V → Hp → Prop) (Q : VK) : Prop :=
  ∀ H ys, Gv v H1 H → H Dd = some (.lst ys) → ys.length = n → (∀ (i : Nat) y, ys[i]? = some y → R i y H) → Q (.ref Dd) H
theorem lcRv {lo : Int} {n : Nat} {j : Nat} (R : Nat → V → Hp → Prop) (hR : ∀ i y H H', Kp H H' → R i y H → R i y H') (hD : H1 Dd = none) (hv : VatAt H1 v) (hz : n ≤ 100000)
    (hw : ∀ x, wipe ((wipe σ vs).set j (some x)) vs = wipe σ vs)
    (hs : ∀ (i : Nat) H, i < n → Gv v H1 H → tmE te ((wipe σ vs).set j (some (.int (lo + i)))) H fun y H4 => Gv v H H4 ∧ R i y H4)
    (hd : LcEndV v H1 Dd n R Q) : LcW (Itr lo n) (gName j) tYes (tmE te) vs σ H1 Dd Q :=
  lc_range (LcV v H1 Dd R) (lcV_start hD hv) (fun i H hi p => by
    obtain ⟨acc, q1, q2, q3, q4⟩ := id p
    refine ⟨hw _, ?_⟩
    obtain ⟨R0, z1, z2⟩ := hs i H hi q3
    exact ⟨R0, z1, fun y H4 r0 => lcV_turn hR hD hv p (z2 y H4 r0).1 (z2 y H4 r0).2 (by omega)⟩)
    fun H ⟨acc, q1, q2, q3, q4⟩ => hd H acc q3 q1 q2 q4
/-! ### a list or a tuple -/
def ItS (K : PySem.W.Frag) : Bool → Addr → It
  | true => Itl K
  | false => Itt K
def iSeq (K : PySem.W.Frag) (tl : TE) : TI := fun σ H R => tl σ H fun x H1 => ∃ a k, x = .ref a ∧ (∃ xs, SqB K k H1 a xs) ∧ R (ItS K k a) H1
theorem r_seqI {tl : TE} {S : It → Hp → Prop} : iSeq K tl σ H S = tl σ H fun x H1 => ∃ a k, x = .ref a ∧ (∃ xs, SqB K k H1 a xs) ∧ S (ItS K k a) H1 := rfl
theorem loopB {k : Bool} {a : Addr} {xs : List V} {tb : TS} (Pv : Nat → L2.St → Hp → Prop) (h0 : Pv 0 σ H) (hl : ∀ i σ H, i ≤ xs.length → Pv i σ H → SqB K k H a xs)
    (hs : ∀ i x σ H, xs[i]? = some x → Pv i σ H → g x σ H fun σ2 H2 => tb { nx := Pv (i + 1), rt := D.rt, bk := D.nx, ct := Pv (i + 1) } σ2 H2) (hd : ∀ σ H, Pv xs.length σ H → D.nx σ H) : LoopW (ItS K k a) g tb D σ H := by
  cases k
  · exact for_tup Pv h0 hl hs hd
  · exact for_list Pv h0 hl hs hd
theorem lcB {k : Bool} (R : Nat → V → Hp → Prop) (hR : ∀ i y H H', Kp H H' → R i y H → R i y H') (hD : H1 Dd = none) (hx : SqB K k H1 a xs) (hz : xs.length ≤ 100000)
    (hs : ∀ (i : Nat) x H, xs[i]? = some x → Ex H1 H → g x (wipe σ vs) H fun σ2 H2 => wipe σ2 vs = wipe σ vs ∧ tmE te σ2 H2 fun y H4 => Ex H H4 ∧ R i y H4)
    (hg : GMono g)
    (hd : LcEnd H1 Dd xs.length R Q) : LcW (ItS K k a) g tYes (tmE te) vs σ H1 Dd Q := by
  cases k
  · exact lcT R hR hD hx hz hs (fun i x H S S' _ h q => hg _ _ _ _ _ h q) hd
  · exact lcL (J0 := True) R hR hD hx hz hs (fun i x H S S' _ h q => hg _ _ _ _ _ h q) hd
theorem sqB_or {k : Bool} {a : Addr} {xs : List V} (h : SqB K k H a xs) : SqL K H a xs ∨ SqT K H a xs := by
  cases k
  · exact .inr h
  · exact .inl h
theorem q_ixB {k : Bool} {p : Addr} {xs : List V} {i : Int} {v : V} (h : SqB K k H p xs) (e : atI xs i = some v) (q : Q v H) : rIxL K (.ref p) (.int i) H Q ∨ rIxT K (.ref p) (.int i) H Q := by
  cases k
  · exact .inr (q_ixT h e q)
  · exact .inl (q_ixL h e q)
end
section
variable {X : Cx} {tg : Expr} {K : PySem.W.Frag}
theorem pi_seq {l : Expr} {tl : TE} (hl : PE X l tl) (h : X.K = K := by rfl) : PI X tg l (iSeq K tl) := by
  subst h
  refine ⟨fun pins s σ H R I h => ?_⟩
  refine thn (hl.run pins s σ H _ I h) fun v s1 ⟨x, H1, I1, r1, q1⟩ => ?_
  obtain ⟨a, k, e, ⟨xs, hq⟩, q⟩ := q1
  subst e
  cases r1
  cases k
  · obtain ⟨its, rv, p, hz⟩ := I1.tuple hq
    refine wpAny_pyIter_tuple (show s1.heap.IsTuple a its.toArray from p) ?_
    refine ⟨s1.heap.objs.size, [s1.heap.objs.size], _, _, H1, rfl, I1.kept (t' := s1.toks) fun b o e => Heap.get?_push_of_some _ e, turn_tuple a _, ⟨_, Heap.get?_push_size _ rfl, rfl, rfl⟩, fun b hb => ?_, q⟩
    have e : b = s1.heap.objs.size := by simpa using hb
    subst e
    exact I1.fpOk (Nat.le_refl _) (I1.hok.fresh (Nat.le_refl _))
  · obtain ⟨its, rv, p, hz⟩ := I1.list hq
    refine wpAny_pyIter_list p.isList ?_
    refine ⟨s1.heap.objs.size, [s1.heap.objs.size], _, _, H1, rfl, I1.kept (t' := s1.toks) fun b o e => Heap.get?_push_of_some _ e, turn_list a _, ⟨_, Heap.get?_push_size _ rfl, rfl, rfl⟩, fun b hb => ?_, q⟩
    have e : b = s1.heap.objs.size := by simpa using hb
    subst e
    exact I1.fpOk (Nat.le_refl _) (I1.hok.fresh (Nat.le_refl _))
def rIxB (K : PySem.W.Frag) : R2 := fun x y H Q => rIxL K x y H Q ∨ rIxT K x y H Q
theorem ixB (h : X.K = K := by rfl) : IxR X (rIxB K) := by
  subst h
  exact ix_list.or ix_tup
theorem call_intB : CallR X (.type "int") (fun xs H Q => (∃ i, xs = [.int i] ∧ Q (.int i) H) ∨ ∃ k, xs = [.bl k] ∧ Q (.int (if k then 1 else 0)) H) := call_int1
end

/-! comprehensions whose items may be lists -/
/-- all but the list d stays -/
def But (d : Addr) (H H' : Hp) : Prop := ∀ a o, (a ≠ d ∨ ∀ xs, o ≠ .lst xs) → H a = some o → H' a = some o
theorem Ex.but {d : Addr} {H H' : Hp} (e : Ex H H') : But d H H' := fun a o _ h => e a o h
theorem But.kp {d : Addr} {H H' : Hp} (b : But d H H') : Kp H H' := fun a o h n => b a o (.inr n) h
theorem But.trans {d : Addr} {H H1 H2 : Hp} (a : But d H H1) (b : But d H1 H2) : But d H H2 := fun x o n h => b x o n (a x o n h)
section
variable {g : TG} {te : TE} {vs : List Nat} {σ : L2.St} {H1 : Hp} {Dd v : Addr} {Q : VK} {K : PySem.W.Frag} {a : Addr} {xs : List V} {D : Ends} {H : Hp}
theorem lcB_turn {R : Nat → V → Hp → Prop} (hR : ∀ i y H H', But Dd H H' → R i y H → R i y H') (hD : H1 Dd = none) {i : Nat} {H H4 : Hp} {y : V}
    (p : LcJ H1 Dd R i H) (e : Ex H H4) (r : R i y H4) (hi : i < 1000000) :
    ∃ acc, H4 Dd = some (.lst acc) ∧ acc.length < sizeLine ∧ LcJ H1 Dd R (i + 1) (upd H4 Dd (.lst (acc ++ [y]))) := by
  obtain ⟨acc, h1, h2, h3, h4⟩ := p
  have k : But Dd H4 (upd H4 Dd (.lst (acc ++ [y]))) := fun b o n hb => by
    rw [upd_ne]
    · exact hb
    · intro z
      rw [z, e _ _ h1] at hb
      rcases n with n | n
      · exact n z
      · exact n _ (Option.some.inj hb).symm
  refine ⟨acc, e _ _ h1, Nat.lt_of_lt_of_le (show acc.length < 1000000 by omega) (by decide), acc ++ [y], upd_same, by simp [h2], fun b o hb => ?_, fun j z hz => ?_⟩
  · rw [upd_ne (ne_of_none hb hD)]
    exact e _ _ (h3 _ _ hb)
  · by_cases hj : j < acc.length
    · rw [List.getElem?_append_left hj] at hz
      exact hR _ _ _ _ (e.but.trans k) (h4 j z hz)
    · have hj2 : j = acc.length := by
        have := (List.getElem?_eq_some_iff.mp hz).1
        rw [List.length_append, List.length_singleton] at this
        omega
      subst hj2
      rw [List.getElem?_append_right (Nat.le_refl _), Nat.sub_self] at hz
      cases hz
      rw [h2]
      exact hR _ _ _ _ k r
/-- over a tuple, by a name -/
theorem lcTb {j : Nat} (R : Nat → V → Hp → Prop) (hR : ∀ i y H H', But Dd H H' → R i y H → R i y H') (hD : H1 Dd = none) (hx : SqT K H1 a xs) (hz : xs.length ≤ 100000)
    (hw : ∀ x, wipe ((wipe σ vs).set j (some x)) vs = wipe σ vs)
    (hs : ∀ (i : Nat) x H, xs[i]? = some x → Ex H1 H → (∃ acc, H Dd = some (.lst acc)) → tmE te ((wipe σ vs).set j (some x)) H fun y H4 => Ex H H4 ∧ R i y H4)
    (hd : LcEnd H1 Dd xs.length R Q) : LcW (Itt K a) (gName j) tYes (tmE te) vs σ H1 Dd Q :=
  lc_tup (xs := xs) (LcJ H1 Dd R) (lcJ_start hD) (fun i H _ ⟨_, _, _, e, _⟩ => sqT_kp hx e.kp) (fun i x H hi p => by
    obtain ⟨acc, q1, q2, q3, q4⟩ := id p
    refine ⟨hw _, ?_⟩
    obtain ⟨R0, z1, z2⟩ := hs i x H hi q3 ⟨_, q1⟩
    exact ⟨R0, z1, fun y H4 r0 => lcB_turn hR hD p (z2 y H4 r0).1 (z2 y H4 r0).2 (by have := (List.getElem?_eq_some_iff.mp hi).1; omega)⟩)
    fun H ⟨acc, q1, q2, q3, q4⟩ => hd H acc q3 q1 q2 q4
/-- over a list, by a name -/
theorem lcLb {j : Nat} (R : Nat → V → Hp → Prop) (hR : ∀ i y H H', But Dd H H' → R i y H → R i y H') (hD : H1 Dd = none) (hx : SqL K H1 a xs) (hz : xs.length ≤ 100000)
    (hw : ∀ x, wipe ((wipe σ vs).set j (some x)) vs = wipe σ vs)
    (hs : ∀ (i : Nat) x H, xs[i]? = some x → Ex H1 H → (∃ acc, H Dd = some (.lst acc)) → tmE te ((wipe σ vs).set j (some x)) H fun y H4 => Ex H H4 ∧ R i y H4)
    (hd : LcEnd H1 Dd xs.length R Q) : LcW (Itl K a) (gName j) tYes (tmE te) vs σ H1 Dd Q :=
  lc_list (xs := xs) (LcJ H1 Dd R) (lcJ_start hD) (fun i H _ ⟨_, _, _, e, _⟩ => sqL_ex hx e) (fun i x H hi p => by
    obtain ⟨acc, q1, q2, q3, q4⟩ := id p
    refine ⟨hw _, ?_⟩
    obtain ⟨R0, z1, z2⟩ := hs i x H hi q3 ⟨_, q1⟩
    exact ⟨R0, z1, fun y H4 r0 => lcB_turn hR hD p (z2 y H4 r0).1 (z2 y H4 r0).2 (by have := (List.getElem?_eq_some_iff.mp hi).1; omega)⟩)
    fun H ⟨acc, q1, q2, q3, q4⟩ => hd H acc q3 q1 q2 q4
/-- over a range -/
theorem lcRb {lo : Int} {n : Nat} {j : Nat} (R : Nat → V → Hp → Prop) (hR : ∀ i y H H', But Dd H H' → R i y H → R i y H') (hD : H1 Dd = none) (hz : n ≤ 100000)
    (hw : ∀ x, wipe ((wipe σ vs).set j (some x)) vs = wipe σ vs)
    (hs : ∀ (i : Nat) H, i < n → Ex H1 H → (∃ acc, H Dd = some (.lst acc)) → tmE te ((wipe σ vs).set j (some (.int (lo + i)))) H fun y H4 => Ex H H4 ∧ R i y H4)
    (hd : LcEnd H1 Dd n R Q) : LcW (Itr lo n) (gName j) tYes (tmE te) vs σ H1 Dd Q :=
  lc_range (LcJ H1 Dd R) (lcJ_start hD) (fun i H hi p => by
    obtain ⟨acc, q1, q2, q3, q4⟩ := id p
    refine ⟨hw _, ?_⟩
    obtain ⟨R0, z1, z2⟩ := hs i H hi q3 ⟨_, q1⟩
    exact ⟨R0, z1, fun y H4 r0 => lcB_turn hR hD p (z2 y H4 r0).1 (z2 y H4 r0).2 (by omega)⟩)
    fun H ⟨acc, q1, q2, q3, q4⟩ => hd H acc q3 q1 q2 q4
theorem sqL_but {d a : Addr} {H H' : Hp} {xs : List V} (h : SqL K H a xs) (n : a ≠ d) (e : But d H H') : SqL K H' a xs := by
  rcases h with (h | ⟨o, h⟩) | h
  · exact .inl (.inl (e _ _ (.inl n) h))
  · exact .inl (.inr ⟨o, e _ _ (.inl n) h⟩)
  · exact .inr h
end

/-! tuples added, data that differ, comprehensions with a test, ways to choose of great numbers -/
section
variable {X : Cx} {K : PySem.W.Frag}
/-- t + u, u not empty -/
def rCatAN (K : PySem.W.Frag) : R2 := fun x y H Q => ∃ a b xs ys, x = .ref a ∧ y = .ref b ∧ SqT K H a xs ∧ SqT K H b ys ∧ ys ≠ [] ∧ xs.length + ys.length ≤ sizeLine ∧
  ∀ p H', Ex H H' → SqT K H' p (xs ++ ys) → Q (.ref p) H'
theorem op_catAN (h : X.K = K := by rfl) : OpR X (binaryOp .Add) (rCatAN K) := by
  subst h
  exact OpR.imp op_catA fun x y H Q ⟨a, b, xs, ys, e1, e2, h1, h2, hy, z, n⟩ => ⟨a, b, xs, ys, e1, e2, h1, h2, z,
    fun q => n b H (Ex.refl H) (by rw [q]; exact h2), fun _ q => absurd q hy, fun _ _ p hp => n p _ (Ex.new hp) (.of upd_same)⟩
theorem op_neB (hu : X.A.units + 64 < cLine) (h : X.K = K := by rfl) : OpR X (compareOp .NotEq) (rNeD K) := by
  subst h
  exact op_neD hu
theorem op_eqB (hu : X.A.units + 64 < cLine) (h : X.K = K := by rfl) : OpR X (compareOp .Eq) (rEqD K) := by
  subst h
  exact op_eqD hu
end
section
variable {g : TG} {te : TE} {tt : TT} {vs : List Nat} {σ : L2.St} {H1 : Hp} {Dd : Addr} {Q : VK} {K : PySem.W.Frag} {a : Addr}
/-- the ints of a tuple for which a test holds -/
theorem lcTf {j : Nat} (p : Int → Bool) {ts : List Int} (hD : H1 Dd = none) (hx : SqT K H1 a (ts.map V.int)) (hz : ts.length ≤ 100000)
    (hw : ∀ x, wipe ((wipe σ vs).set j (some x)) vs = wipe σ vs)
    (hs : ∀ c H (S : Bool → Hp → Prop), S (p c) H → tt ((wipe σ vs).set j (some (.int c))) H S)
    (hv : ∀ c H (S : VK), S (.int c) H → te ((wipe σ vs).set j (some (.int c))) H S)
    (hd : ∀ H, Ex H1 H → H Dd = some (.lst ((ts.filter p).map V.int)) → Q (.ref Dd) H) : LcW (Itt K a) (gName j) tt (tmE te) vs σ H1 Dd Q :=
  lc_tup (xs := ts.map V.int) (fun i H => H Dd = some (.lst (((ts.take i).filter p).map V.int)) ∧ Ex H1 H) ⟨by simp [upd_same], Ex.new hD⟩ (fun i H _ h => sqT_kp hx h.2.kp) (fun i x H hi h => by
    obtain ⟨hl, he⟩ := h
    rw [List.getElem?_map] at hi
    cases hc : ts[i]? with
    | none => rw [hc] at hi; cases hi
    | some c =>
      rw [hc] at hi
      cases hi
      have et : ts.take (i + 1) = ts.take i ++ [c] := by
        rw [List.take_add_one, hc]
        rfl
      refine ⟨hw _, hs c H _ ?_⟩
      cases hp : p c with
      | false =>
        rw [if_neg (by decide)]
        refine ⟨?_, he⟩
        rw [et, List.filter_append, List.filter_cons, hp]
        simpa using hl
      | true =>
        rw [if_pos rfl]
        refine ⟨fun y H' => y = .int c ∧ H' = H, hv c H _ ⟨rfl, rfl⟩, ?_⟩
        rintro y H' ⟨rfl, rfl⟩
        refine ⟨_, hl, ?_, ?_, ?_⟩
        · have h1 := List.length_filter_le p (ts.take i)
          have h2 := List.length_take_le i ts
          rw [List.length_map]
          refine Nat.lt_of_lt_of_le (show _ < 1000000 from ?_) (by decide)
          have h3 : (ts.take i).length ≤ ts.length := by rw [List.length_take]; omega
          omega
        · rw [et, List.filter_append, List.filter_cons, hp]
          simp [upd_same]
        · exact fun b o hb => by
            rw [upd_ne (ne_of_none hb hD)]
            exact he _ _ hb)
    fun H h => by
      rw [List.length_map, List.take_length] at h
      exact hd H h.2 h.1
end
/-! ### ways to choose -/
theorem chs_zero (a : Nat) : chs a 0 = 1 := by cases a <;> rfl
theorem chs_big : ∀ (a k : Nat), a < k → chs a k = 0
  | _, 0, h => by omega
  | 0, k + 1, _ => rfl
  | a + 1, k + 1, h => by
    show chs a k + chs a (k + 1) = 0
    rw [chs_big a k (by omega), chs_big a (k + 1) (by omega)]
theorem chs_self : ∀ a : Nat, chs a a = 1
  | 0 => rfl
  | a + 1 => by
    show chs a a + chs a (a + 1) = 1
    rw [chs_self a, chs_big a (a + 1) (by omega)]
theorem chs_step : ∀ (a k : Nat), ((k : Int) + 1) * ((chs a (k + 1) : Nat) : Int) = ((a : Int) - (k : Int)) * ((chs a k : Nat) : Int)
  | 0, 0 => by decide
  | 0, k + 1 => by
    have h1 : chs 0 (k + 1) = 0 := rfl
    have h2 : chs 0 (k + 1 + 1) = 0 := rfl
    rw [h1, h2]
    simp
  | a + 1, 0 => by
    have ih := chs_step a 0
    have h1 : chs (a + 1) (0 + 1) = chs a 0 + chs a (0 + 1) := rfl
    rw [h1, chs_zero, chs_zero] at *
    push_cast at *
    omega
  | a + 1, k + 1 => by
    have ih := chs_step a (k + 1)
    have ih2 := chs_step a k
    have h1 : chs (a + 1) (k + 1 + 1) = chs a (k + 1) + chs a (k + 1 + 1) := rfl
    have h2 : chs (a + 1) (k + 1) = chs a k + chs a (k + 1) := rfl
    rw [h1, h2]
    generalize chs a (k + 1 + 1) = z at *
    generalize chs a (k + 1) = y at *
    generalize chs a k = x at *
    push_cast at *
    grind
def fct : Nat → Int
  | 0 => 1
  | k + 1 => fct k * ((k : Int) + 1)
theorem fct_pos : ∀ k : Nat, 0 < fct k
  | 0 => by decide
  | k + 1 => Int.mul_pos (fct_pos k) (by omega)
theorem fall_chs (a : Nat) : ∀ k : Nat, Builtin.Math.fallingProduct (a : Int) k = ((chs a k : Nat) : Int) * fct k
  | 0 => by
    rw [PySem.W.mc_fp_zero, chs_zero]
    rfl
  | k + 1 => by
    rw [PySem.W.mc_fp_succ, fall_chs a k]
    have := chs_step a k
    show _ = _ * (fct k * ((k : Int) + 1))
    grind
theorem comb_big {a k : Nat} (hk : k < 6) : PySem.W.mcComb (a : Int) (k : Int) = ((chs a k : Nat) : Int) := by
  by_cases h : k ≤ a
  · by_cases h2 : a < 12
    · have g : ∀ a < 12, ∀ k < 6, PySem.W.mcComb ((a : Nat) : Int) ((k : Nat) : Int) = ((chs a k : Nat) : Int) := by decide +kernel
      exact g a h2 k hk
    · have e := PySem.W.mcComb_at (a := (a : Int)) (b := (k : Int)) (by omega) (by omega) (m := (k : Int)) (by omega)
      rw [e]
      have t : ((k : Int)).toNat = k := by omega
      rw [t, fall_chs a k, fall_chs k k, chs_self]
      have := fct_pos k
      rw [show (((1 : Nat)) : Int) = 1 from rfl, Int.one_mul]
      exact Int.mul_ediv_cancel _ (by omega)
  · rw [PySem.W.mcComb_above (by omega), chs_big a k (by omega)]
    rfl
theorem chs_pow : ∀ (a k : Nat), chs a k ≤ a ^ k
  | a, 0 => by rw [chs_zero]; simp
  | a, k + 1 => by
    by_cases h : a < k
    · rw [chs_big a (k + 1) (by omega)]
      exact Nat.zero_le _
    have ih := chs_pow a k
    have e := chs_step a k
    have h1 : ((a : Int) - (k : Int)) = ((a - k : Nat) : Int) := by omega
    rw [h1] at e
    have e2 : (k + 1) * chs a (k + 1) = (a - k) * chs a k := by
      have : (((k + 1) * chs a (k + 1) : Nat) : Int) = (((a - k) * chs a k : Nat) : Int) := by
        push_cast
        push_cast at e
        exact e
      exact Int.ofNat_inj.mp this
    have h2 : (a - k) * chs a k ≤ a * a ^ k := Nat.mul_le_mul (by omega) ih
    have h3 : 1 * chs a (k + 1) ≤ (k + 1) * chs a (k + 1) := Nat.mul_le_mul_right _ (by omega)
    rw [Nat.pow_succ, Nat.mul_comm]
    omega
theorem chs_lt {a k n : Nat} (ha : a < 2 ^ n) (hk : k ≤ 5) : chs a k < 2 ^ (n * 5 + 1) := by
  have h1 := chs_pow a k
  have h2 : a ^ k ≤ (2 ^ n) ^ k := Nat.pow_le_pow_left (by omega) k
  rw [← Nat.pow_mul] at h2
  have h3 := Nat.pow_le_pow_right (show 0 < 2 by decide) (Nat.mul_le_mul_left n hk)
  have h4 : 2 ^ (n * 5 + 1) = 2 ^ (n * 5) + 2 ^ (n * 5) := by rw [Nat.pow_succ]; omega
  have := Nat.two_pow_pos (n * 5)
  omega
theorem chs_posG {a k : Nat} (h : k ≤ a) : 0 < chs a k := by
  have g : ∀ (a k : Nat), k ≤ a → 0 < chs a k := by
    intro a
    induction a with
    | zero =>
      intro k h
      have : k = 0 := by omega
      subst this
      decide
    | succ a ih =>
      intro k h
      cases k with
      | zero => rw [chs_zero]; decide
      | succ k =>
        have := ih k (by omega)
        show 0 < chs a k + chs a (k + 1)
        omega
  exact g a k h

/-! sums of products of ways to choose -/
/-- f 0 + .. + f (m - 1) -/
def Zs' (m : Nat) (f : Nat → Int) : Int := ((List.range m).map f).sum
theorem Zs_zero (f : Nat → Int) : Zs' 0 f = 0 := rfl
theorem Zs_succ (m : Nat) (f : Nat → Int) : Zs' (m + 1) f = Zs' m f + f m := by
  unfold Zs'
  rw [List.range_succ, List.map_append, List.sum_append]
  simp only [List.map_cons, List.map_nil, List.sum_cons, List.sum_nil]
  omega
theorem Zs_first : ∀ (m : Nat) (f : Nat → Int), Zs' (m + 1) f = f 0 + Zs' m fun k => f (k + 1)
  | 0, f => by rw [Zs_succ, Zs_zero, Zs_zero]; omega
  | m + 1, f => by rw [Zs_succ, Zs_first m f, Zs_succ m]; omega
theorem Zs_congr {m : Nat} {f g : Nat → Int} (h : ∀ k < m, f k = g k) : Zs' m f = Zs' m g := by
  induction m with
  | zero => rfl
  | succ m ih => rw [Zs_succ, Zs_succ, ih fun k hk => h k (by omega), h m (by omega)]
theorem Zs_add (f g : Nat → Int) : ∀ m : Nat, Zs' m (fun k => f k + g k) = Zs' m f + Zs' m g
  | 0 => rfl
  | m + 1 => by rw [Zs_succ, Zs_succ, Zs_succ, Zs_add f g m]; omega
theorem Zs_mul (c : Int) (f : Nat → Int) : ∀ m : Nat, Zs' m (fun k => c * f k) = c * Zs' m f
  | 0 => by rw [Zs_zero, Zs_zero, Int.mul_zero]
  | m + 1 => by rw [Zs_succ, Zs_succ, Zs_mul c f m, Int.mul_add]
/-- the ways to choose d of y and r things, by how many are of the y -/
def vd (y r d : Nat) : Int := Zs' (d + 1) fun k => ((chs y k : Nat) : Int) * ((chs r (d - k) : Nat) : Int)
theorem vd_zero (y r : Nat) : vd y r 0 = 1 := by
  unfold vd
  rw [Zs_succ, Zs_zero, chs_zero, chs_zero]
  rfl
theorem vd_none (r d : Nat) : vd 0 r d = ((chs r d : Nat) : Int) := by
  unfold vd
  rw [Zs_first]
  have e : Zs' d (fun k => ((chs 0 (k + 1) : Nat) : Int) * ((chs r (d - (k + 1)) : Nat) : Int)) = Zs' d (fun k => 0 * ((chs r (d - (k + 1)) : Nat) : Int)) := Zs_congr fun k _ => rfl
  rw [e, Zs_mul, chs_zero]
  simp
theorem vd_step (y r d : Nat) : vd (y + 1) r (d + 1) = vd y r (d + 1) + vd y r d := by
  unfold vd
  rw [Zs_first, Zs_first (d + 1) fun k => ((chs y k : Nat) : Int) * ((chs r (d + 1 - k) : Nat) : Int)]
  have e : Zs' (d + 1) (fun k => ((chs (y + 1) (k + 1) : Nat) : Int) * ((chs r (d + 1 - (k + 1)) : Nat) : Int)) =
      Zs' (d + 1) (fun k => ((chs y (k + 1) : Nat) : Int) * ((chs r (d + 1 - (k + 1)) : Nat) : Int) + ((chs y k : Nat) : Int) * ((chs r (d - k) : Nat) : Int)) := by
    apply Zs_congr
    intro k _
    have h1 : chs (y + 1) (k + 1) = chs y k + chs y (k + 1) := rfl
    have h2 : d + 1 - (k + 1) = d - k := by omega
    rw [h1, h2, Int.natCast_add, Int.add_mul]
    omega
  rw [e, Zs_add, chs_zero, chs_zero]
  omega
theorem vandermonde : ∀ (y r d : Nat), vd y r d = ((chs (y + r) d : Nat) : Int)
  | 0, r, d => by rw [vd_none, Nat.zero_add]
  | y + 1, r, 0 => by rw [vd_zero, chs_zero]; rfl
  | y + 1, r, d + 1 => by
    rw [vd_step, vandermonde y r (d + 1), vandermonde y r d]
    have e : y + 1 + r = y + r + 1 := by omega
    have h1 : chs (y + r + 1) (d + 1) = chs (y + r) d + chs (y + r) (d + 1) := rfl
    rw [e, h1, Int.natCast_add]
    omega
theorem fall_add (a : Int) (j : Nat) : ∀ i : Nat, Builtin.Math.fallingProduct a (j + i) = Builtin.Math.fallingProduct a j * Builtin.Math.fallingProduct (a - (j : Int)) i
  | 0 => by rw [PySem.W.mc_fp_zero, Nat.add_zero, Int.mul_one]
  | i + 1 => by
    rw [show j + (i + 1) = (j + i) + 1 from rfl, PySem.W.mc_fp_succ, PySem.W.mc_fp_succ, fall_add a j i, Int.mul_assoc]
    congr 2
    omega
/-- choosing k of a, then j of these: choosing j of a, then the others -/
theorem revise {a k j : Nat} (hj : j ≤ k) : ((chs a k : Nat) : Int) * ((chs k j : Nat) : Int) = ((chs a j : Nat) : Int) * ((chs (a - j) (k - j) : Nat) : Int) := by
  by_cases ha : j ≤ a
  · have e1 := fall_chs a k
    have e2 := fall_chs a j
    have e3 := fall_chs (a - j) (k - j)
    have e4 := fall_chs k j
    have e5 := fall_chs (k - j) (k - j)
    have e6 := fall_chs k k
    rw [chs_self] at e5 e6
    have s1 := fall_add (a : Int) j (k - j)
    have s2 := fall_add (k : Int) j (k - j)
    rw [show j + (k - j) = k by omega] at s1 s2
    have c1 : (a : Int) - (j : Int) = ((a - j : Nat) : Int) := by omega
    have c2 : (k : Int) - (j : Int) = ((k - j : Nat) : Int) := by omega
    rw [c1] at s1
    rw [c2] at s2
    rw [e1, e2, e3] at s1
    rw [e6, e4, e5] at s2
    have p1 := fct_pos j
    have p2 := fct_pos (k - j)
    have one : (((1 : Nat)) : Int) = 1 := rfl
    rw [one] at s2
    generalize ((chs a k : Nat) : Int) = x at *
    generalize ((chs k j : Nat) : Int) = y at *
    generalize ((chs a j : Nat) : Int) = z at *
    generalize ((chs (a - j) (k - j) : Nat) : Int) = u at *
    generalize fct k = f at *
    generalize fct j = g at *
    generalize fct (k - j) = h at *
    have key : x * y * (g * h) = z * u * (g * h) := by
      have a1 : x * y * (g * h) = x * (y * g * (1 * h)) := by grind
      rw [a1, ← s2]
      have a2 : x * (1 * f) = x * f := by rw [Int.one_mul]
      rw [a2, s1]
      grind
    exact Int.eq_of_mul_eq_mul_right (Int.ne_of_gt (Int.mul_pos p1 p2)) key
  · rw [chs_big a k (by omega), chs_big a j (by omega)]
    simp
/-- the mean of the ways to choose j of the yes among d draws -/
theorem moment {y r d j : Nat} (hj : j ≤ d) : (Zs' (d + 1) fun k => ((chs y k : Nat) : Int) * ((chs r (d - k) : Nat) : Int) * ((chs k j : Nat) : Int)) = ((chs y j : Nat) : Int) * (if j ≤ y then ((chs (y - j + r) (d - j) : Nat) : Int) else 0) := by
  obtain ⟨e, rfl⟩ : ∃ e, d = j + e := ⟨d - j, by omega⟩
  have split : ∀ (j : Nat) (f : Nat → Int), Zs' (j + e + 1) f = Zs' j f + Zs' (e + 1) fun k => f (j + k) := by
    intro j f
    clear hj
    induction e with
    | zero => rw [Zs_succ, Zs_succ, Zs_zero]; simp
    | succ e ih => rw [show j + (e + 1) + 1 = (j + e + 1) + 1 from rfl, Zs_succ, ih, Zs_succ (e + 1)]; simp only [Nat.add_assoc]; omega
  rw [split]
  have z : Zs' j (fun k => ((chs y k : Nat) : Int) * ((chs r (j + e - k) : Nat) : Int) * ((chs k j : Nat) : Int)) = Zs' j (fun k => 0 * ((chs y k : Nat) : Int)) := by
    apply Zs_congr
    intro k hk
    rw [chs_big k j hk]
    simp
  rw [z, Zs_mul, Int.zero_mul, Int.zero_add]
  have t : Zs' (e + 1) (fun k => ((chs y (j + k) : Nat) : Int) * ((chs r (j + e - (j + k)) : Nat) : Int) * ((chs (j + k) j : Nat) : Int)) =
      Zs' (e + 1) (fun k => ((chs y j : Nat) : Int) * (((chs (y - j) k : Nat) : Int) * ((chs r (e - k) : Nat) : Int))) := by
    apply Zs_congr
    intro k _
    have h := revise (a := y) (k := j + k) (j := j) (by omega)
    have e1 : j + k - j = k := by omega
    have e2 : j + e - (j + k) = e - k := by omega
    rw [e1] at h
    rw [e2]
    calc _ = ((chs y (j + k) : Nat) : Int) * ((chs (j + k) j : Nat) : Int) * ((chs r (e - k) : Nat) : Int) := by grind
      _ = _ := by rw [h]; grind
  rw [t, Zs_mul]
  have e3 : j + e - j = e := by omega
  rw [e3]
  by_cases hy : j ≤ y
  · rw [if_pos hy]
    have := vandermonde (y - j) r e
    unfold vd at this
    rw [this]
  · rw [if_neg hy, chs_big y j (by omega)]
    simp

/-! slices of tuples; lists told by an own notion under changes of one list -/
def rSlAN (K : PySem.W.Frag) : V → Option Int → Option Int → Hp → VK → Prop := fun x lo hi H Q => ∃ a xs, x = .ref a ∧ SqT K H a xs ∧ ∀ p H', Ex H H' → SqT K H' p (cutV xs lo hi) → Q (.ref p) H'
theorem sl_tupAN {X : Cx} {K : PySem.W.Frag} (h : X.K = K := by rfl) : L2.SlR X (rSlAN K) := by
  subst h
  refine SlR.imp sl_tupA fun x lo hi H Q ⟨a, xs, e, hS, n⟩ => ⟨a, xs, e, hS, fun w => ?_, fun _ p hp => n p _ (Ex.new hp) (.of upd_same)⟩
  refine n a H (Ex.refl H) ?_
  unfold cutV
  rw [w.1, w.2]
  simpa using hS
theorem cut_take (xs : List V) (n : Nat) : cutV xs none (some (n : Int)) = xs.take n := by
  unfold cutV
  rw [HT.sIx_none, HT.sIx_nat, List.drop_zero, Nat.sub_zero]
  by_cases h : n ≤ xs.length
  · rw [Nat.min_eq_left h]
  · rw [Nat.min_eq_right (by omega), List.take_length, List.take_of_length_le (by omega)]
theorem cut_drop (xs : List V) (n : Nat) : cutV xs (some (n : Int)) none = xs.drop n := by
  unfold cutV
  rw [HT.sIx_none, HT.sIx_nat]
  by_cases h : n ≤ xs.length
  · rw [Nat.min_eq_left h, List.take_of_length_le (by rw [List.length_drop]; omega)]
  · rw [Nat.min_eq_right (by omega), List.drop_eq_nil_of_le (Nat.le_refl _), List.drop_eq_nil_of_le (by omega)]
    simp

/-! walks within a comprehension, their K named -/
section
variable {X : Cx} {K : PySem.W.Frag} {tg e : Expr} {te : TE}
theorem kPiL (he : PE X e te) (h : X.K = K := by rfl) : PI X tg e (iList K te) := by
  subst h
  exact pi_list he
theorem kPiT (he : PE X e te) (h : X.K = K := by rfl) : PI X tg e (iTup K te) := by
  subst h
  exact pi_tup he
end

/-! list(range(n)) as a new list of numbers -/
section
variable {X : Cx} {a : Expr} {ta : TE}
def natV (n : Nat) : List Int := (List.range n).map fun i : Nat => (i : Int)
def tListR (ta : TE) : TE := fun σ H Q => ta σ H fun x H1 => ∃ n : Nat, x = .int (n : Int) ∧ n ≤ 1000 ∧ New H1 (.lst ((natV n).map V.int)) Q
theorem pe_listR {p p2 pos pos2 : Pos} (hc : X.calm = true) (gl : Gl X "list") (ml : X.mg "list" = none) (gr : Gl X "range") (mr : X.mg "range" = none) (ha : PE X a ta)
    (na : starEach [a] X.env = (false, eval a X.env) :: starEach [] X.env := by rfl) :
    PE X (.Call (.Name "list" p) [.Call (.Name "range" p2) [a] [] pos2] [] pos) (tListR ta) := by
  have q := pe_listRg (p := p) (pos := pos) hc gl ml (prg_1 (p := p2) (pos := pos2) gr mr (PE.mon ha) na)
  refine ⟨fun pins s σ H Q I h => q.run pins s σ H Q I ?_⟩
  refine ⟨_, h, ?_⟩
  rintro x H1 ⟨n, rfl, n1, hq⟩
  refine ⟨n, rfl, RgOk.of_le (by decide) (by omega) (by decide) (by omega), fun q nq => ?_⟩
  have e : rgV 0 (n : Int) = (natV n).map V.int := by
    unfold rgV natV
    rw [List.map_map, show ((n : Int) - 0).toNat = n by omega]
    apply List.map_congr_left
    intro i _
    simp
  rw [e]
  exact hq q _ nq (Ex.new nq) upd_same
end

/-! math.factorial; comprehensions of two clauses; a star in a tuple -/
open PySem PySem.Spec PyProof.Rows L2 StX
section
variable {X : Cx}
def rFact : List V → Hp → VK → Prop := fun vs H Q => ∃ n : Nat, vs = [.int (n : Int)] ∧ n ≤ 1000 ∧ Q (.int ((Builtin.Math.factorialNat n : Nat) : Int)) H
theorem cr_fact : CallR X (.builtin "math.factorial") rFact := by
  intro pins s σ H vs us Q I r h
  obtain ⟨n, rfl, hn, q⟩ := h
  cases r with
  | cons r1 r2 =>
    cases r2
    obtain ⟨t, rfl⟩ := r1
    refine PySem.W.mc_factorial (by omega) (by omega) fun _ => ⟨.int _, H, I.tok _, ⟨_, rfl⟩, ?_⟩
    exact q
/-- the inner walk of a comprehension of two clauses -/
def Lc2In (g1 : TG) (tt1 : TT) (te : TE) (vs1 : List Nat) (σ2 : L2.St) (D : Addr) (Nx : Hp → Prop) (J1 : It) (H4 : Hp) : Prop := ∃ W1 : Nat → Nat → Hp → Prop, (∃ m, W1 0 m H4) ∧ ∀ j k H, W1 j k H →
      (J1.stop j H ∧ Nx H) ∨ (J1.go j H ∧ ∃ Nx1 : Hp → Prop, (∀ H', Nx1 H' → ∃ k', k' < k ∧ W1 (j + 1) k' H') ∧ ∀ x H', J1.yld j H x H' → g1 x (wipe σ2 vs1) H' fun σ3 H5 => wipe σ3 vs1 = wipe σ2 vs1 ∧ tt1 σ3 H5 fun b H6 =>
        if b = true then te σ3 H6 fun y H7 => ∃ acc, H7 D = some (.lst acc) ∧ acc.length < sizeLine ∧ Nx1 (upd H7 D (.lst (acc ++ [y]))) else Nx1 H6)
def LcW2 (J : It) (g : TG) (tt : TT) (wi1 : TI) (g1 : TG) (tt1 : TT) (te : TE) (vs vs1 : List Nat) (σ : L2.St) (H1 : Hp) (D : Addr) (Q : VK) : Prop := ∃ W : Nat → Nat → Hp → Prop, (∃ m, W 0 m (upd H1 D (.lst []))) ∧ ∀ i m H, W i m H →
  (J.stop i H ∧ Q (.ref D) H) ∨ (J.go i H ∧ ∃ Nx : Hp → Prop, (∀ H', Nx H' → ∃ m', m' < m ∧ W (i + 1) m' H') ∧ ∀ x H', J.yld i H x H' → g x (wipe σ vs) H' fun σ2 H2 => wipe σ2 vs = wipe σ vs ∧ tt σ2 H2 fun b H3 =>
    if b = true then wi1 σ2 H3 fun J1 H4 => Lc2In g1 tt1 te vs1 σ2 D Nx J1 H4 else Nx H3)
theorem r_lc2 {wi : TI} {g : TG} {tt : TT} {wi1 : TI} {g1 : TG} {tt1 : TT} {te : TE} {vs vs1 : List Nat} {σ : L2.St} {H : Hp} {Q : VK} : tLc2 wi g tt wi1 g1 tt1 te vs vs1 σ H Q = wi σ H fun J H1 => ∀ D, H1 D = none → LcW2 J g tt wi1 g1 tt1 te vs vs1 σ H1 D Q := rfl
theorem r_star {K : PySem.W.Frag} {te : TE} {t : TA} {σ : L2.St} {H : Hp} {Q : List V → Hp → Prop} : tStar K te t σ H Q = te σ H fun x H1 => ∃ p xs, x = V.ref p ∧ (SqT K H1 p xs ∨ SqL K H1 p xs) ∧ t σ H1 fun ys H2 => Q (xs ++ ys) H2 := rfl
section
variable {J : It} {n : Nat} {G : Hp → Prop} {Y : Nat → Hp → V → Hp → Prop}
theorem lc2_it (w : Walk J n G Y) {g : TG} {tt : TT} {wi1 : TI} {g1 : TG} {tt1 : TT} {te : TE} {vs vs1 : List Nat} {σ : L2.St} {H1 : Hp} {D : Addr} {Q : VK} (Pv : Nat → Hp → Prop) (h0 : Pv 0 (upd H1 D (.lst []))) (hG : ∀ i H, i ≤ n → Pv i H → G H)
    (hs : ∀ i x H H', i < n → Pv i H → Y i H x H' → g x (wipe σ vs) H' fun σ2 H2 => wipe σ2 vs = wipe σ vs ∧ tt σ2 H2 fun b H3 => if b = true then wi1 σ2 H3 fun J1 H4 => Lc2In g1 tt1 te vs1 σ2 D (Pv (i + 1)) J1 H4 else Pv (i + 1) H3)
    (hd : ∀ H, Pv n H → Q (.ref D) H) : LcW2 J g tt wi1 g1 tt1 te vs vs1 σ H1 D Q := by
  refine ⟨fun i m H => m = n - i ∧ i ≤ n ∧ Pv i H, ⟨n, by simp, Nat.zero_le _, h0⟩, ?_⟩
  rintro i m H ⟨rfl, hi, p⟩
  have q := hG i H hi p
  by_cases hlt : i < n
  · exact .inr ⟨w.goes i H hlt q, Pv (i + 1), fun H' p' => ⟨n - (i + 1), by omega, rfl, hlt, p'⟩, fun x H' y => hs i x H H' hlt p (w.yields i H x H' hlt q y)⟩
  · have e : i = n := by omega
    subst e
    exact .inl ⟨w.stops H q, hd H p⟩
theorem lc2_in (w : Walk J n G Y) {g1 : TG} {tt1 : TT} {te : TE} {vs1 : List Nat} {σ2 : L2.St} {H4 : Hp} {D : Addr} {Nx : Hp → Prop} (Pv : Nat → Hp → Prop) (h0 : Pv 0 H4) (hG : ∀ i H, i ≤ n → Pv i H → G H)
    (hs : ∀ i x H H', i < n → Pv i H → Y i H x H' → g1 x (wipe σ2 vs1) H' fun σ3 H5 => wipe σ3 vs1 = wipe σ2 vs1 ∧ tt1 σ3 H5 fun b H6 => if b = true then te σ3 H6 fun y H7 => ∃ acc, H7 D = some (.lst acc) ∧ acc.length < sizeLine ∧ Pv (i + 1) (upd H7 D (.lst (acc ++ [y]))) else Pv (i + 1) H6)
    (hd : ∀ H, Pv n H → Nx H) : Lc2In g1 tt1 te vs1 σ2 D Nx J H4 := by
  refine ⟨fun i m H => m = n - i ∧ i ≤ n ∧ Pv i H, ⟨n, by simp, Nat.zero_le _, h0⟩, ?_⟩
  rintro i m H ⟨rfl, hi, p⟩
  have q := hG i H hi p
  by_cases hlt : i < n
  · exact .inr ⟨w.goes i H hlt q, Pv (i + 1), fun H' p' => ⟨n - (i + 1), by omega, rfl, hlt, p'⟩, fun x H' y => hs i x H H' hlt p (w.yields i H x H' hlt q y)⟩
  · have e : i = n := by omega
    subst e
    exact .inl ⟨w.stops H q, hd H p⟩
end
/-- the truth of a tuple -/
theorem pt_truT {K : PySem.W.Frag} {a : Expr} {ta : TE} (ha : PE X a ta) (he : ∀ whole, isTrue a X.env whole = (do let v ← whole; standAt a.pos; holding [v] (truthy v))) (h : X.K = K := by rfl) :
    PT X a (fun σ H Q => ta σ H fun x H' => ∃ p xs, x = .ref p ∧ SqT K H' p xs ∧ Q (!xs.isEmpty) H') := by
  subst h
  refine ⟨fun pins s σ H Q I q => ?_⟩
  refine isTrue_plain (thn ((PE.mon ha).run pins s σ H _ I ⟨_, q, fun y H' z => z⟩) fun v s1 ⟨x, H1, I1, r1, p, xs, e, hx, q1⟩ => ?_) (he _)
  refine tru_ok pins s1 σ H1 x v Q I1 r1 ⟨_, ?_, q1⟩
  subst e
  exact .inr (.inl ⟨xs, hx, rfl⟩)
theorem loopEl {K : PySem.W.Frag} {g : TG} {D : Ends} {σ : L2.St} {H : Hp} {a : Addr} {xs : List V} {tb : TS} (Pv : Nat → L2.St → Hp → Prop) (h0 : Pv 0 σ H) (hl : ∀ i σ H, i ≤ xs.length → Pv i σ H → SqL K H a xs)
    (hs : ∀ i x σ H T H', xs[i]? = some x → Pv i σ H → Ex H H' → H' T = some (.tup [.int (i : Nat), x]) → g (.ref T) σ H' fun σ2 H2 => tb { nx := Pv (i + 1), rt := D.rt, bk := D.nx, ct := Pv (i + 1) } σ2 H2) (hd : ∀ σ H, Pv xs.length σ H → D.nx σ H) : LoopW (Ite K a) g tb D σ H :=
  for_it (walk_enum (K := K) (a := a) (xs := xs)) Pv h0 hl (fun i v σ H H' hi hp y => by
    obtain ⟨T, x, z, rfl, hn, rfl, h1, h2⟩ := y
    cases h1
    exact hs i z σ H T _ h2 hp (Ex.new hn) upd_same) hd
theorem kStar {K : PySem.W.Frag} {e : Expr} {es : List Expr} {te : TE} {t : TA} {p : Pos} (he : PE X e te) (hr : PA X es t) (hs : starEach (.Starred e p :: es) X.env = (true, eval e X.env) :: starEach es X.env := by rfl) (h : X.K = K := by rfl) : PA X (.Starred e p :: es) (tStar K te t) := by
  subst h
  exact pa_star he hr hs
def rNotT : R2 := fun x y H Q => ∃ a b, x = .bl a ∧ y = .bl b ∧ Q (.bl (!decide (a = b))) H
theorem op_notT : OpR X (compareOp .IsNot) rNotT := op_isnot_bl
/-- a loop over enumerate of a list -/
theorem r_enumL {tx : TA} {K : PySem.W.Frag} {σ : L2.St} {H : Hp} {S : It → Hp → Prop} : iEnum K tx σ H S = tx σ H fun vs H1 => ∃ a xs, vs = [.ref a] ∧ SqL K H1 a xs ∧ S (Ite K a) H1 := rfl
end

/-! perm, isqrt, in, sorted, name op= e -/
section
variable {X : Cx}
def prm (a : Nat) (k : Nat) : Int := Builtin.Math.fallingProduct (a : Int) k
def rPerm : List V → Hp → VK → Prop := fun vs H Q => ∃ a k : Nat, vs = [.int (a : Int), .int (k : Int)] ∧ k ≤ a ∧ k ≤ 8 ∧ a < 2 ^ 2000 ∧ Q (.int (prm a k)) H
theorem cr_perm : CallR X (.builtin "math.perm") rPerm := by
  intro pins s σ H vs us Q I r h
  obtain ⟨a, k, rfl, hk, h8, ha, q⟩ := h
  obtain ⟨t, u, rfl⟩ := Vals.int2 r
  have hb : (Builtin.Math.fallingProduct (a : Int) k).natAbs ≤ 2 ^ (2000 * k) := fp_abs (by omega) (by rw [Int.natAbs_natCast]; exact Nat.le_of_lt ha) k (by omega)
  have hs : (Builtin.Math.fallingProduct (a : Int) ((k : Int)).toNat).natAbs.log2 < bitsLine := by
    rw [Int.toNat_natCast]
    exact lg (Nat.le_trans hb (Nat.pow_le_pow_right (by decide) (show 2000 * k ≤ 16000 by omega))) (by decide)
  have g := PySem.W.mc_run_perm (a : Int) t (k : Int) u (by omega) (by omega) (by omega) (by show ¬(k : Int) > 2 ^ 63 - 1; omega) (by show ¬(k : Int) > 20000; omega) hs
  rw [Int.toNat_natCast] at g
  exact call_function_meets PySem.W.MGF.kind_perm PySem.W.MGF.plain_perm PySem.W.MGF.entry_perm (PySem.W.MGF.args_perm _ _) g.meets ⟨.int _, H, I.tok _, ⟨_, rfl⟩, q⟩
def rIsqrt : List V → Hp → VK → Prop := fun vs H Q => ∃ a : Nat, vs = [.int (a : Int)] ∧ a < 2 ^ 2000 ∧ ∀ m : Nat, m * m ≤ a → a < (m + 1) * (m + 1) → Q (.int (m : Int)) H
theorem cr_isqrt : CallR X (.builtin "math.isqrt") rIsqrt := by
  intro pins s σ H vs us Q I r h
  obtain ⟨a, rfl, ha, q⟩ := h
  cases r with
  | cons r1 r2 =>
    cases r2
    obtain ⟨t, rfl⟩ := r1
    have hl : a.log2 ≤ 2000 := log_le ha
    have g := PySem.W.mg_run_isqrt (a : Int) t (by omega) (by rw [Int.toNat_natCast]; omega) (by rw [Int.toNat_natCast]; omega)
    rw [Int.toNat_natCast] at g
    obtain ⟨s1, s2⟩ := PySem.Float64.isqrt_spec a
    exact call_function_meets PySem.W.MGF.kind_isqrt PySem.W.MGF.plain_isqrt PySem.W.MGF.entry_isqrt (PySem.W.MGF.args_isqrt _) g.meets ⟨.int _, H, I.tok _, ⟨_, rfl⟩, q _ s1 s2⟩
/-- a number among a list's numbers -/
def rInI (K : PySem.W.Frag) : R2 := fun x y H Q => ∃ (p : Addr) (i : Int) (ns : List Int), x = .int i ∧ y = .ref p ∧ SqL K H p (ns.map V.int) ∧ Q (.bl (ns.any fun n => n == i)) H
theorem kIn {K : PySem.W.Frag} (h : X.K = K := by rfl) : OpR X (compareOp .In) (rInI K) := by
  subst h
  refine OpR.imp op_in_seq fun x y H Q ⟨p, i, ns, e1, e2, hs, q⟩ => ?_
  subst e1 e2
  refine ⟨p, ns.map V.int, rfl, .inl hs, rfl, by simp [List.all_map, flatV], ?_⟩
  have : inV (.int i) (ns.map V.int) = ns.any fun n => n == i := by
    unfold inV
    rw [List.any_map]
    congr 1
  rw [this]
  exact q
def rSrtN (K : PySem.W.Frag) : List V → Hp → VK → Prop := fun vs H Q => ∃ (a : Addr) (ns : List Int), vs = [V.ref a] ∧ SqL K H a (ns.map V.int) ∧ ∀ ns' : List Int, ns'.Perm ns → ns'.Pairwise (· ≤ ·) → New H (.lst (ns'.map V.int)) Q
theorem kSrt {K : PySem.W.Frag} (h : X.K = K := by rfl) : CallR X (.builtin "sorted") (rSrtN K) := by
  subst h
  exact CallR.imp cr_sortedI fun vs H Q ⟨a, ns, e, hs, q⟩ => ⟨a, ns, e, hs, fun ns' p h1 h2 np => (q ns' h1 h2).at p np⟩
def rReprB : List V → Hp → VK → Prop := fun vs H Q => ∃ b : Bool, vs = [.bl b] ∧ Q (.str (if b = true then "True" else "False")) H
theorem cr_reprB : CallR X (.builtin "repr") rReprB := by
  intro pins s σ H xs us Q I r h
  obtain ⟨b, rfl, q⟩ := h
  cases r with
  | cons r1 r2 =>
    cases r2
    cases r1
    exact PySem.P.repr_of_bool ⟨.str _, H, I.tok _, ⟨_, rfl⟩, q⟩
theorem r_aug {i : Nat} {te : TE} {ti : TIp} {D : Ends} {σ : L2.St} {H : Hp} : tAug i te ti D σ H = ∃ x, σ[i]? = some (some x) ∧ te σ H fun y H1 => ti x y H1 fun z H2 => D.nx (σ.set i (some z)) H2 := rfl
end

/-! perm beyond its number -/
section
variable {X : Cx}
def prmA (a k : Nat) : Int := if k ≤ a then prm a k else 0
def rPermA : List V → Hp → VK → Prop := fun vs H Q => ∃ a k : Nat, vs = [.int (a : Int), .int (k : Int)] ∧ k ≤ 8 ∧ a < 2 ^ 2000 ∧ Q (.int (prmA a k)) H
theorem cr_permA : CallR X (.builtin "math.perm") rPermA := by
  intro pins s σ H vs us Q I r h
  obtain ⟨a, k, rfl, h8, ha, q⟩ := h
  by_cases hk : k ≤ a
  · refine cr_perm pins s σ H _ us Q I r ⟨a, k, rfl, hk, h8, ha, ?_⟩
    unfold prmA at q
    rw [if_pos hk] at q
    exact q
  · obtain ⟨t, u, rfl⟩ := Vals.int2 r
    have g := PySem.W.mc_run_perm0 (a : Int) t (k : Int) u (by omega) (by omega) (by omega)
    unfold prmA at q
    rw [if_neg hk] at q
    exact call_function_meets PySem.W.MGF.kind_perm PySem.W.MGF.plain_perm PySem.W.MGF.entry_perm (PySem.W.MGF.args_perm _ _) g.meets ⟨.int _, H, I.tok _, ⟨_, rfl⟩, q⟩
end
/-! powers of great numbers -/
section
variable {X : Cx}
def CPowW (i j : Int) : Prop := 0 ≤ j ∧ j ≤ 1000 ∧ i.natAbs < 2 ^ 8000
theorem op_powW : OpR X (binaryOp .Pow) (rI CPowW fun i j => .int (i ^ j.toNat)) := opI fun i j _ _ _ _ _ hc q => pow_int hc.1 (by
  have hb : Builtin.Int.intBits i ≤ 8000 := intBits_le hc.2.2
  have h0 := hc.1
  have h1 := hc.2.1
  have h2 : (Builtin.Int.intBits i : Int) * j ≤ 8000 * j := Int.mul_le_mul_of_nonneg_right (by omega) h0
  omega) q
end
def b30 : Int := 1000000000000000000000000000000
theorem b30_eq : b30 = 1000000000000000000000000000000 := rfl
def b9 : Int := 1000000000
theorem b9_eq : b9 = 1000000000 := rfl

local macro_rules | `(tactic| walk_at "rd") => `(tactic| try simp only [r_seq, r_asg, r_name, r_ifS, r_next, r_ret, r_retN, r_drop, r_test, r_B, r_if, r_cons, r_nil, r_cb, r_tF, r_part, r_nopart, r_sl, r_par, r_chain, r_or, r_and, r_not, r_orV, r_andV, r_notV, r_op, r_un, r_var, r_c, r_yes, r_I0, r_I, r_U, r_eqI, r_neI, r_eqS, r_neS, r_lst, r_tup, r_for, r_lc, r_list, r_tupI, r_rng1, r_rng2, r_enumT, r_bm, r_fld, r_subT, r_gtup, r_gcons, r_gnil, r_K0, r_K, r_Kb, wipe, r_never, r_len, r_sfld,
  L2.start, List.map_cons, List.map_nil, List.length_cons, List.length_nil, Nat.reduceAdd, Nat.reduceSub, List.reduceReplicate, List.cons_append, List.nil_append, List.set_cons_zero, List.set_cons_succ, List.getElem?_cons_zero, List.getElem?_cons_succ, Option.some.injEq, exists_eq_left', exists_eq_left, exists_eq_right, exists_eq_right', V.int.injEq, V.ref.injEq, V.bl.injEq, V.str.injEq, List.cons.injEq, and_true, true_and, and_false, false_and, or_false, false_or, exists_false, exists_const, and_assoc, reduceCtorEq, if_true, if_false, Bool.false_eq_true, Bool.not_true, Bool.not_false, Bool.not_eq_true', decide_eq_true_eq, decide_eq_false_iff_not, exists_and_left, exists_and_right, exists_eq_or_imp])
section
variable {P : Program} {w : World} {K : PySem.W.Frag} {mg : Str → Option Value} {base : Heap}
def top (i : Nat) : Stmt := PySem.Challenge.pw_drawnmore_k76_whole_two_draws.main.body.getD i (.Pass ⟨0, 0, 0, 0⟩)
/-- the built-in names that the text does not bind -/
structure Bi (mg : Str → Option Value) : Prop where
  len : mg "len" = none
  abs : mg "abs" = none
  max : mg "max" = none
  min : mg "min" = none
  sum : mg "sum" = none
  range : mg "range" = none
  tuple : mg "tuple" = none
  int : mg "int" = none
  divmod : mg "divmod" = none
  all : mg "all" = none
  repr : mg "repr" = none
  isinstance : mg "isinstance" = none
  enumerate : mg "enumerate" = none
  bool : mg "bool" = none
  zip : mg "zip" = none
  str : mg "str" = none
  list : mg "list" = none
theorem Has.of {x : Str} {st : Stmt} {ps : List Str} {k : Nat} {sp : Sp} (D : Df K mg x st ps)
    (h : ∀ f fd, Fun K x x st f fd → FnOk P w K mg base CX0 k f fd ps sp) : Has P w K mg base x k ps sp := by
  obtain ⟨f, fd, F, hm, hb⟩ := D
  exact ⟨f, fd, h f fd F, hm, F.kp, hb⟩
theorem HasG.of {x : Str} {st : Stmt} {ps : List Str} {k : Nat} {sp : Sp} (D : Df K mg x st ps)
    (h : ∀ f fd, Fun K x x st f fd → FnG P w K mg base k f fd ps sp) : HasG P w K mg base x k ps sp := by
  obtain ⟨f, fd, F, hm, hb⟩ := D
  exact ⟨f, fd, h f fd F, hm, F.kp, hb⟩

def spVat (K : PySem.W.Frag) : Sp := fun vs H Q _ => ∃ (a : Addr) (ns : List Int) (i : Int), vs = [.ref a, .int i] ∧ SqL K H a (ns.map V.int) ∧ ns.length ≤ 63 ∧ 0 ≤ i ∧ i < 100 ∧
  ∀ v H', H v = none → Ex H H' → VatAt H' v → Q (.ref v) H'
theorem scVat : FnScope ["script", "at", "figure", "seed", "each"] ["script", "at"] (defScope (top 55)) := ⟨rfl, rfl, rfl, by decide +kernel, rfl, by decide +kernel, by decide +kernel⟩
theorem has_vat (B : Bi mg) (D : Df K mg "_law_vat" (top 55) ["script", "at"]) : Has P w K mg base "_law_vat" 1 ["script", "at"] (spVat K) := by
  have sc := scVat
  refine .of D fun f fd F => F.ok sc (fun vs H Q E h => ?_) (fun cdv A outer s H vs Q E hr h => ?_)
  · obtain ⟨a, ns, i, rfl, _⟩ := h
    rfl
  · obtain ⟨a, ns, i, rfl, hS, hl, h0, h1, k⟩ := h
    refine ⟨_, (pss_cons (ps_set (i := 2) sc.nd rfl (by first | exact Or.inl rfl | exact Or.inr rfl) (PE.mon (pe_ifExp (pt_cmpR op_lt (pv 1) (pe_callB (kLen (K := K)) (by rfl) B.len (by decide +kernel) (pa_cons (pv 0) pa_nil)) (nomark _)) (pe_ix (ixL (K := K)) (pv 0) (pv 1) (fun _ _ => rfl)) (pe_op op_add (pe_op op_mulS pe_int (pv 1)) pe_int))))
      (pss_cons (ps_set (i := 3) sc.nd rfl (by first | exact Or.inl rfl | exact Or.inr rfl) (pe_op op_add pe_int (pe_op op_mulS pe_int (pv 1))))
      (pss_cons (ps_for PassesOwn.never rfl (pi_list (pe_op op_catN (pe_lstN (pa_cons (pv 2) pa_nil)) (pe_slice (slL (K := K)) (pv 0) po_none (po_some pe_int)))) (pg_name (i := 4) sc.nd rfl (by first | exact Or.inl rfl | exact Or.inr rfl))
      (pss_one (ps_set (i := 3) sc.nd rfl (by first | exact Or.inl rfl | exact Or.inr rfl) (pe_op op_mod (pe_callTy call_intN (by rfl) B.int (by decide +kernel) (pa_cons (pe_op op_add (pe_op op_mulS (pv 3) pe_int) (pv 4)) pa_nil)) pe_int))))
      (pss_one (ps_ret (pe_lstN (pa_cons (PE.mon (pe_ifExp (pt_cmpR op_ge (pe_callB call_abs (by rfl) B.abs (by decide +kernel) (pa_cons (pv 2) pa_nil)) (pe_op op_pow pe_int pe_int) (nomark _)) (pe_callB call_abs (by rfl) B.abs (by decide +kernel) (pa_cons (pv 2) pa_nil)) pe_int)) (pa_cons (pv 3) (pa_cons pe_int pa_nil))))))))), ?_⟩
    walk_at "rd"
    obtain ⟨R0, hR⟩ : ∃ R : VK, R = fun v H' => (∃ z : Int, v = .int z) ∧ H' = H := ⟨_, rfl⟩
    refine ⟨R0, ?_, ?_⟩
    · walk_at "rd"
      refine ⟨_, .inl hS, ?_⟩
      rw [List.length_map]
      split
      · rename_i hi
        obtain ⟨z, _, e⟩ := at_int h0 hi
        refine q_ixL hS e ?_
        rw [hR]
        exact ⟨⟨z, rfl⟩, rfl⟩
      · refine ⟨cmulL, ?_⟩
        rw [hR]
        exact ⟨⟨_, rfl⟩, rfl⟩
    intro x H' hx
    rw [hR] at hx
    obtain ⟨⟨z, rfl⟩, rfl⟩ := hx
    walk_at "rd"
    refine ⟨cmulL, by decide, fun p H1 n1 e1 t1 => ⟨a, _, rfl, sqL_ex hS e1, fun p2 H2 n2 e2 t2 => ?_⟩⟩
    have lc := cutV_length (ns.map V.int) none (some 6)
    rw [List.length_map] at lc
    refine ⟨p, p2, _, _, rfl, rfl, e2 _ _ t1, t2, sizeLine_le (by simp only [List.length_cons, List.length_nil]; omega), fun p3 H3 n3 e3 t3 => ⟨p3, rfl, ⟨_, .of t3⟩, ?_⟩⟩
    have e13 := (e1.trans e2).trans e3
    obtain ⟨Pv, hP⟩ : ∃ P : Nat → L2.St → Hp → Prop, P = fun j σ' G => G = H3 ∧ ∃ (s : Int) (t : Option V), σ' = [some (.ref a), some (.int i), some (.int z), some (.int s), t] ∧ 0 ≤ s ∧ s < 2147483323 := ⟨_, rfl⟩
    refine loopL (xs := _) Pv (by rw [hP]; exact ⟨rfl, _, _, rfl, by omega, by omega⟩) (fun j σ' G _ h => by rw [hP] at h; rw [h.1]; exact .of t3) ?_ ?_
    · intro j x σ' G hx h
      rw [hP] at h
      obtain ⟨rfl, s, t, rfl, s0, s1⟩ := h
      have hm := List.mem_of_getElem? hx
      have hx2 : ∃ y, x = .int y := by
        rcases List.mem_append.mp hm with q | q
        · rw [List.mem_singleton] at q
          exact ⟨z, q⟩
        · exact ints_cut q
      obtain ⟨y, rfl⟩ := hx2
      walk_at "rd"
      refine ⟨cmulR, by decide, ?_⟩
      rw [hP]
      exact ⟨rfl, _, _, rfl, Int.emod_nonneg _ (by decide), Int.emod_lt_of_pos _ (by decide)⟩
    · intro σ' G h
      rw [hP] at h
      obtain ⟨rfl, s, t, rfl, s0, s1⟩ := h
      walk_at "rd"
      obtain ⟨R1, hR1⟩ : ∃ R : VK, R = fun v H' => (∃ q : Int, v = .int q ∧ 0 ≤ q) ∧ H' = G := ⟨_, rfl⟩
      refine ⟨R1, ?_, ?_⟩
      · walk_at "rd"
        refine ⟨⟨by decide, by decide, by decide⟩, ?_⟩
        generalize hq : (if z < 0 then -z else z) = q
        have q0 : 0 ≤ q := by
          rw [← hq]
          split <;> omega
        rw [hR1]
        split
        · exact ⟨⟨_, rfl, q0⟩, rfl⟩
        · exact ⟨⟨_, rfl, by decide⟩, rfl⟩
      · intro v H' h
        rw [hR1] at h
        obtain ⟨⟨q, rfl, q0⟩, rfl⟩ := h
        walk_at "rd"
        exact ⟨by decide, fun v H4 n4 e4 t4 => k v H4 (e13.free n4) (e13.trans e4) ⟨q, s, 0, t4, q0, s0, s1, by decide⟩⟩

def spDip : Sp := fun vs H Q _ => ∃ (v : Addr) (m : Int), vs = [.ref v, .int m] ∧ VatAt H v ∧ 0 < m ∧ m.natAbs.log2 < 9000 ∧
  ∀ r H', Gv v H H' → 0 ≤ r → r < m → Q (.int r) H'
theorem scDip : FnScope ["vat", "many", "digit"] ["vat", "many"] (defScope (top 56)) := ⟨rfl, rfl, rfl, by decide +kernel, rfl, by decide +kernel, by decide +kernel⟩
theorem has_dip (B : Bi mg) (D : Df K mg "_law_dip" (top 56) ["vat", "many"]) : Has P w K mg base "_law_dip" 1 ["vat", "many"] spDip := by
  have sc := scDip
  refine .of D fun f fd F => F.ok sc (fun vs H Q E h => ?_) (fun cdv A outer s H vs Q E hr h => ?_)
  · obtain ⟨v, m, rfl, _⟩ := h
    rfl
  · obtain ⟨v, m, rfl, hv, m0, m1, k⟩ := h
    obtain ⟨a, b, c, hl, a0, b0, b1, c0⟩ := id hv
    refine ⟨_, (pss_cons (ps_if (pt_cmpR op_gt (pe_ix (ixL (K := K)) (pv 0) pe_int (fun _ _ => rfl)) pe_int (nomark _)) (pss_cons (ps_asg (pe_callB call_divmodN (by rfl) B.divmod (by decide +kernel) (pa_cons (pe_ix (ixL (K := K)) (pv 0) pe_int (fun _ _ => rfl)) (pa_cons (pv 1) pa_nil))) (pg_tup rfl (pgs_cons (pg_sub (pv 0) pe_int set_list) (pgs_cons (pg_name (i := 2) sc.nd rfl (by first | exact Or.inl rfl | exact Or.inr rfl)) pgs_nil))))
      (pss_one (ps_ret (pv 2)))) pss_nil)
      (pss_cons (ps_asg (pe_op op_add (pe_ix (ixL (K := K)) (pv 0) pe_int (fun _ _ => rfl)) pe_int) (pg_sub (pv 0) pe_int set_list))
      (pss_cons (ps_asg (pe_op op_mod (pe_callTy call_intN (by rfl) B.int (by decide +kernel) (pa_cons (pe_op op_add (pe_op op_mulS (pe_ix (ixL (K := K)) (pv 0) pe_int (fun _ _ => rfl)) pe_int) (pe_op op_mulS pe_int (pe_ix (ixL (K := K)) (pv 0) pe_int (fun _ _ => rfl)))) pa_nil)) pe_int) (pg_sub (pv 0) pe_int set_list))
      (pss_one (ps_ret (pe_op op_mod (pe_callTy call_intN (by rfl) B.int (by decide +kernel) (pa_cons (pe_op op_fdivW (pe_ix (ixL (K := K)) (pv 0) pe_int (fun _ _ => rfl)) pe_int) pa_nil)) (pv 1))))))), ?_⟩
    walk_at "rd"
    refine q_ixL (.of hl) rfl ?_
    walk_at "rd"
    split
    · refine q_ixL (.of hl) rfl ?_
      refine ⟨_, _, rfl, m0, m1, fun p H1 n1 e1 t1 => ⟨p, rfl, _, .of t1, rfl, ?_⟩⟩
      have hv1 := e1 _ _ hl
      walk_at "rd"
      refine ⟨v, _, 0, 0, rfl, rfl, hv1, rfl, ?_⟩
      walk_at "rd"
      refine k _ _ ⟨hv, fun x o n ho => ?_, ⟨_, _, _, upd_same, Int.ediv_nonneg a0 (by omega), b0, b1, c0⟩⟩ (Int.emod_nonneg _ (by omega)) (Int.emod_lt_of_pos _ m0)
      rw [upd_ne n]
      exact e1 _ _ ho
    · refine q_ixL (.of hl) rfl ?_
      walk_at "rd"
      refine ⟨v, _, 2, 2, rfl, rfl, hl, rfl, ?_⟩
      walk_at "rd"
      have t1 : (upd H v (.lst [.int a, .int b, .int (c + 1)])) v = some (.lst [.int a, .int b, .int (c + 1)]) := upd_same
      refine q_ixL (.of t1) rfl ?_
      walk_at "rd"
      refine ⟨cmulR, ?_⟩
      refine q_ixL (.of t1) rfl ?_
      walk_at "rd"
      refine ⟨cmulL, by decide, v, _, 1, 1, rfl, rfl, t1, rfl, ?_⟩
      have g0 := Int.emod_nonneg (b * 45007 + 27017 * (c + 1)) (show (2147483323 : Int) ≠ 0 by decide)
      have g1 := Int.emod_lt_of_pos (b * 45007 + 27017 * (c + 1)) (show (0 : Int) < 2147483323 by decide)
      rw [upd_upd]
      refine q_ixL (.of upd_same) rfl ?_
      walk_at "rd"
      refine ⟨⟨by decide, by decide⟩, m0, k _ _ ⟨hv, fun x o n ho => by rw [upd_ne n]; exact ho, ⟨_, _, _, upd_same, a0, g0, g1, by omega⟩⟩ (Int.emod_nonneg _ (by omega)) (Int.emod_lt_of_pos _ m0)⟩

def spShared : Sp := fun vs H Q _ => ∃ a b : Int, vs = [.int a, .int b] ∧ Q (.int (Int.gcd a b : Nat)) H
def shM : L2.St → Nat
  | [_, some (.int y)] => y.toNat
  | _ => 0
end

section
variable {P : Program} {w : World} {K : PySem.W.Frag} {mg : Str → Option Value} {base : Heap}
/-! ### fractions, ints -/
/-- x tells the fraction r -/
def IsFr (K : PySem.W.Frag) (H : Hp) (x : V) (r : Rat) : Prop := ∃ p, x = .ref p ∧ SqT K H p (fr r)
theorem IsFr.kp {H H' : Hp} {x : V} {r : Rat} (h : IsFr K H x r) (e : Kp H H') : IsFr K H' x r := by
  obtain ⟨p, rfl, h⟩ := h
  exact ⟨p, rfl, sqT_kp h e⟩
theorem IsFr.dp {H : Hp} {x : V} {r : Rat} (h : IsFr K H x r) : Dp K H x (frD r) := by
  obtain ⟨p, rfl, h⟩ := h
  exact .tup h (.cons (.int _) (.cons (.int _) .nil))
theorem log_lt {n : Nat} (h : n < 2 ^ 8990) : n.log2 < 9000 := Nat.lt_of_lt_of_le (PySem.Flt.log2_lt_of (k := 8990) (by decide) h) (show 8990 ≤ 9000 by decide)
theorem gcd_small {b t : Int} (hb : 0 < b) (h : b.natAbs < 2 ^ 8990) : 0 < ((Int.gcd b t : Nat) : Int) ∧ (((Int.gcd b t : Nat) : Int)).natAbs < 2 ^ 8990 := by
  have h1 : 0 < Int.gcd b t := Int.gcd_pos_of_ne_zero_left _ (by omega)
  have h2 : Int.gcd b t ≤ b.natAbs := Nat.le_of_dvd (by omega) (Nat.gcd_dvd_left _ _)
  have h3 : (((Int.gcd b t : Nat) : Int)).natAbs = Int.gcd b t := Int.natAbs_natCast _
  constructor
  · omega
  · omega
def IsInts (K : PySem.W.Frag) (H : Hp) (x : V) (cs : List Int) : Prop := ∃ p, x = .ref p ∧ SqT K H p (cs.map V.int)
theorem IsInts.kp {H H' : Hp} {x : V} {cs : List Int} (h : IsInts K H x cs) (e : Kp H H') : IsInts K H' x cs := by
  obtain ⟨p, rfl, h⟩ := h
  exact ⟨p, rfl, sqT_kp h e⟩
def intsD (cs : List Int) : PyData := .tuple (cs.map PyData.int)
theorem IsInts.dp {H : Hp} {x : V} {cs : List Int} (h : IsInts K H x cs) : Dp K H x (intsD cs) := by
  obtain ⟨p, rfl, h⟩ := h
  exact .tup h (dp_ints cs)
/-- a list of ints, told item by item -/
theorem ints_of {ys : List V} {n : Nat} {f : Nat → Int} (hl : ys.length = n) (h : ∀ (i : Nat) y, ys[i]? = some y → y = .int (f i)) : ys = ((List.range n).map f).map V.int := by
  apply List.ext_getElem?
  intro i
  by_cases hi : i < ys.length
  · have hy := List.getElem?_eq_getElem hi
    rw [hy, h i _ hy]
    simp [← hl, hi]
  · rw [List.getElem?_eq_none (by omega), List.getElem?_eq_none (by simp; omega)]
theorem ints_of_map {ys : List V} {cs : List Int} {f : Int → Int} (hl : ys.length = cs.length) (h : ∀ (i : Nat) y, ys[i]? = some y → ∃ c, cs[i]? = some c ∧ y = .int (f c)) : ys = (cs.map f).map V.int := by
  apply List.ext_getElem?
  intro i
  by_cases hi : i < ys.length
  · have hy := List.getElem?_eq_getElem hi
    obtain ⟨c, hc, e⟩ := h i _ hy
    rw [hy, e, List.getElem?_map, List.getElem?_map, hc]
    rfl
  · rw [List.getElem?_eq_none (by omega), List.getElem?_eq_none (by simp; omega)]
theorem map_int_get {cs : List Int} {i : Nat} {x : V} (h : (cs.map V.int)[i]? = some x) : ∃ c, cs[i]? = some c ∧ x = .int c := by
  rw [List.getElem?_map] at h
  cases e : cs[i]? with
  | none => rw [e] at h; cases h
  | some c => rw [e] at h; exact ⟨c, rfl, (Option.some.inj h).symm⟩
end

section
variable {P : Program} {w : World} {K : PySem.W.Frag} {mg : Str → Option Value} {base : Heap}
/-! ### is_whole, _check_counts -/
def spWhole : Sp := fun vs H Q _ => ∃ i : Int, vs = [.int i] ∧ Q (.bl true) H
theorem scWhole : FnScope ["value"] ["value"] (defScope (top 14)) := ⟨rfl, rfl, rfl, by decide +kernel, rfl, by decide +kernel, by decide +kernel⟩
theorem has_whole (B : Bi mg) (D : Df K mg "is_whole" (top 14) ["value"]) : Has P w K mg base "is_whole" 1 ["value"] spWhole := by
  have sc := scWhole
  refine .of D fun f fd F => F.ok sc (fun vs H Q E h => ?_) (fun cdv A outer s H vs Q E hr h => ?_)
  · obtain ⟨i, rfl, _⟩ := h
    rfl
  · obtain ⟨i, rfl, k⟩ := h
    refine ⟨_, (pss_one (ps_ret (pe_and (pe_callB (kIsi (K := K)) (by rfl) B.isinstance (by decide +kernel) (pa_cons (pv 0) (pa_cons (pe_bltn (v := .ty "int") (by rfl) B.int (by decide +kernel) rfl) pa_nil))) (pe_one (pe_not (pe_callB (kIsi (K := K)) (by rfl) B.isinstance (by decide +kernel) (pa_cons (pv 0) (pa_cons (pe_bltn (v := .ty "bool") (by rfl) B.bool (by decide +kernel) rfl) pa_nil)))))))), ?_⟩
    walk_at "rd"
    refine ⟨_, _, _, _, true, rfl, .ty "int", .base (.int i), kit_ty (by decide +kernel), ?_⟩
    walk_at "rd"
    refine ⟨_, _, _, _, false, rfl, .ty "bool", .base (.int i), kit_ty (by decide +kernel), ?_⟩
    walk_at "rd"
    exact k
theorem ty_tup {H : Hp} {a : Addr} {xs : List V} (h : SqT K H a xs) : TyX K H (.ref a) (.type "tuple") := by
  rcases h with (h | ⟨o, h⟩) | ⟨o, its, n, h, c, _⟩
  · exact .base (.tup h)
  · exact .fTuple h
  · exact .kTuple h c
/-- counts of a row -/
def RowOk (cs : List Int) : Prop := 2 ≤ cs.length ∧ cs.length ≤ 6 ∧ (∀ c ∈ cs, 0 ≤ c) ∧ 0 < gcdL cs ∧ gcdL cs < 2 ^ 8990
def spCheck (K : PySem.W.Frag) : Sp := fun vs H Q _ => ∃ (q : Addr) (cs : List Int), vs = [.ref q] ∧ SqT K H q (cs.map V.int) ∧ RowOk cs ∧ ∀ H', Ex H H' → Q .non H'
theorem scCheck : FnScope ["counts", "yes", "count"] ["counts"] (defScope (top 25)) := ⟨rfl, rfl, rfl, by decide +kernel, rfl, by decide +kernel, by decide +kernel⟩
theorem has_check {t : Tok} (B : Bi mg) (c_MOST_DRAWS : mg "MOST_DRAWS" = some (.int 5 t)) (his_whole : Has P w K mg base "is_whole" 1 ["value"] spWhole) (D : Df K mg "_check_counts" (top 25) ["counts"]) : Has P w K mg base "_check_counts" 2 ["counts"] (spCheck K) := by
  have sc := scCheck
  refine .of D fun f fd F => F.ok sc (fun vs H Q E h => ?_) (fun cdv A outer s H vs Q E hr h => ?_)
  · obtain ⟨q, cs, rfl, _⟩ := h
    rfl
  · obtain ⟨q, cs, rfl, hS, ⟨l0, l1, pos, g0, g1⟩, k⟩ := h
    refine ⟨_, (pss_cons (ps_if (PW.pt (pw_or (pt_not (pt_val (pe_callB (kIsi (K := K)) (by rfl) B.isinstance (by decide +kernel) (pa_cons (pv 0) (pa_cons (pe_bltn (v := .ty "tuple") (by rfl) B.tuple (by decide +kernel) rfl) pa_nil))))) (pw_or1 (pt_cmpR op_lt (pe_callB (kLen (K := K)) (by rfl) B.len (by decide +kernel) (pa_cons (pv 0) pa_nil)) pe_int (nomark _))))) (pss_one ps_never) pss_nil)
      (pss_one (ps_for PassesOwn.never rfl (pi_enumT (by rfl) B.enumerate (pa_cons (pv 0) pa_nil)) (pg_tup rfl (pgs_cons (pg_name (i := 1) sc.nd rfl (by first | exact Or.inl rfl | exact Or.inr rfl)) (pgs_cons (pg_name (i := 2) sc.nd rfl (by first | exact Or.inl rfl | exact Or.inr rfl)) pgs_nil)))
      (pss_one (ps_if (PW.pt (pw_or (pt_not (pt_val (pe_has his_whole (hr.mono (by decide)) (pa_cons (pv 2) pa_nil)))) (pw_or (pt_cmpR op_lt (pv 2) pe_int (nomark _)) (pw_or1 (pt_cmpR op_gt (pv 1) (pe_glob (v := .int 5) rfl c_MOST_DRAWS ⟨_, rfl⟩) (nomark _)))))) (pss_one ps_never) pss_nil))))), ?_⟩
    walk_at "rd"
    refine ⟨_, _, _, _, true, rfl, .ty "tuple", ty_tup hS, kit_ty (by decide +kernel), ?_⟩
    walk_at "rd"
    refine ⟨_, .inr hS, ?_⟩
    rw [List.length_map, if_neg (by omega)]
    obtain ⟨Pv, hP⟩ : ∃ P : Nat → L2.St → Hp → Prop, P = fun j σ' G => Ex H G ∧ ∃ s1 s2 : Option V, σ' = [some (.ref q), s1, s2] := ⟨_, rfl⟩
    refine ⟨⟨_, hS⟩, loopE (xs := cs.map V.int) Pv (by rw [hP]; exact ⟨.refl _, _, _, rfl⟩) (fun j σ' G _ h => by rw [hP] at h; exact sqT_kp hS h.1.kp) ?_ ?_⟩
    · intro j x σ' G T G' hx h e1 t1
      rw [hP] at h
      obtain ⟨e0, s1, s2, rfl⟩ := h
      obtain ⟨c, hc, rfl⟩ := map_int_get hx
      have c0 := pos c (List.mem_of_getElem? hc)
      have hj := (List.getElem?_eq_some_iff.mp hc).1
      walk_at "rd"
      refine ⟨_, .of t1, rfl, ?_⟩
      walk_at "rd"
      refine ⟨c, rfl, ?_⟩
      walk_at "rd"
      rw [if_neg (by omega), if_neg (by omega)]
      rw [hP]
      exact ⟨e0.trans e1, _, _, rfl⟩
    · intro σ' G h
      rw [hP] at h
      exact k _ h.1

/-! ### Row -/
/-- what the text's top says of the class -/
structure RowC (K : PySem.W.Frag) (mg : Str → Option Value) (C : Addr) : Prop where
  cl : Cls K C
  nC : NoAttr K C "_counts"
  mgC : mg "Row" = some (.ref C)
  ha : PySem.W.findIn K (.ref C) "__class__" = some (some (.builtin "object.__class__"))
  hn : PySem.W.specialIn K (.builtin "object.__class__") "__get__" = some (some (.builtin "getset_descriptor.__get__"))
  htk : PySem.W.takesIn K (.builtin "object.__class__") = some true
  hm : PySem.W.mroIn K C (.type "object") = some true
theorem RowC.ty {C a dx : Addr} {H : Hp} {fs : List (Str × V)} (R : RowC K mg C) (e : H a = some (.ins C dx fs)) : TyX K H (.ref a) (.ref C) := .base (.ins e R.cl R.ha R.hn R.htk R.hm)
/-- x is a row whose plain counts are ps -/
def IsRow (K : PySem.W.Frag) (C : Addr) (H : Hp) (x : V) (ps : List Int) : Prop :=
  ∃ a dx q, x = .ref a ∧ H a = some (.ins C dx [("_counts", .ref q)]) ∧ SqT K H q (ps.map V.int)
theorem IsRow.kp {C : Addr} {H H' : Hp} {x : V} {ps : List Int} (h : IsRow K C H x ps) (e : Kp H H') : IsRow K C H' x ps := by
  obtain ⟨a, dx, q, rfl, h1, h2⟩ := h
  exact ⟨a, dx, q, rfl, e _ _ h1 (fun _ z => nomatch z), sqT_kp h2 e⟩
def spInit (K : PySem.W.Frag) (C : Addr) : Sp := fun vs H Q _ => ∃ (a dx q : Addr) (cs : List Int), vs = [.ref a, .ref q] ∧ H a = some (.ins C dx []) ∧ SqT K H q (cs.map V.int) ∧ RowOk cs ∧
  ∀ H', (∀ b o, b ≠ a → H b = some o → H' b = some o) → IsRow K C H' (.ref a) (plainL cs) → Q .non H'
theorem scInit : FnScope ["self", "counts", "common", "count"] ["self", "counts"] (defScope (inClass (top 23) 0)) := ⟨rfl, rfl, rfl, by decide +kernel, rfl, by decide +kernel, by decide +kernel⟩
theorem ok_init {C f : Addr} {fd : FuncData} (F : Fun K "__init__" "Row.__init__" (inClass (top 23) 0) f fd) (B : Bi mg) (RC : RowC K mg C) (c_gcd : mg "gcd" = some (.builtin "math.gcd"))
    (h_check_counts : Has P w K mg base "_check_counts" 2 ["counts"] (spCheck K)) : FnOk P w K mg base CX0 3 f fd ["self", "counts"] (spInit K C) := by
  have sc := scInit
  refine F.ok sc (fun vs H Q E h => ?_) (fun cdv A outer s H vs Q E hr h => ?_)
  · obtain ⟨a, dx, q, cs, rfl, _⟩ := h
    rfl
  · obtain ⟨a, dx, q, cs, rfl, hA, hS, ok, k⟩ := h
    obtain ⟨l0, l1, pos, g0, g1⟩ := id ok
    refine ⟨_, (pss_cons (ps_expr (pe_has h_check_counts (hr.mono (by decide)) (pa_cons (pv 1) pa_nil)))
      (pss_cons (ps_set (i := 2) sc.nd rfl (by first | exact Or.inl rfl | exact Or.inr rfl) pe_int)
      (pss_cons (ps_for PassesOwn.never rfl (pi_tup (pv 1)) (pg_name (i := 3) sc.nd rfl (by first | exact Or.inl rfl | exact Or.inr rfl))
      (pss_one (ps_set (i := 2) sc.nd rfl (by first | exact Or.inl rfl | exact Or.inr rfl) (pe_callBfun cr_gcd (by rfl) c_gcd (pa_cons (pv 2) (pa_cons (pv 3) pa_nil))))))
      (pss_cons (ps_if (pt_cmpR op_eq (pv 2) pe_int (nomark _)) (pss_one ps_never) pss_nil)
      (pss_one (ps_fld (pv 0) (pe_callTy (kTuple (K := K)) (by rfl) B.tuple (by decide +kernel) (pa_cons (pe_lc (own := [("count", 3)]) (g := gName 3) (tt := tYes) rfl sc.nd (pi_tup (pv 1)) (blkOk_by (N := (["self", "counts", "common", "count"] : List Str)) (sc := defScope (inClass (top 23) 0)) (by decide +kernel)) (fun _ _ _ _ _ => (pg_name (i := 3) sc.nd rfl (by first | exact Or.inl rfl | exact Or.inr rfl))) (fun _ _ _ _ _ => pts_nil) (fun _ _ _ _ _ => (PE.mon (pe_op op_fdivW (pv 3) (pv 2))))) pa_nil)) rfl)))))), ?_⟩
    walk_at "rd"
    refine ⟨q, cs, rfl, hS, ok, fun H1 e1 => ?_⟩
    walk_at "rd"
    have hS1 := sqT_kp hS e1.kp
    obtain ⟨Pv, hP⟩ : ∃ P : Nat → L2.St → Hp → Prop, P = fun j σ' G => G = H1 ∧ ∃ t : Option V, σ' = [some (.ref a), some (.ref q), some (.int ((gcdL (cs.take j) : Nat) : Int)), t] := ⟨_, rfl⟩
    refine ⟨⟨_, hS1⟩, loopT (xs := cs.map V.int) Pv (by rw [hP]; exact ⟨rfl, _, rfl⟩) (fun j σ' G _ h => by rw [hP] at h; rw [h.1]; exact hS1) ?_ ?_⟩
    · intro j x σ' G hx h
      rw [hP] at h
      obtain ⟨rfl, t, rfl⟩ := h
      obtain ⟨c, hc, rfl⟩ := map_int_get hx
      walk_at "rd"
      refine ⟨_, _, rfl, ?_⟩
      walk_at "rd"
      rw [hP]
      dsimp only
      rw [gcdL_take hc]
      exact ⟨rfl, _, rfl⟩
    · intro σ' G h
      rw [hP] at h
      obtain ⟨rfl, t, rfl⟩ := h
      rw [List.length_map, List.take_length]
      have gI : (0 : Int) < ((gcdL cs : Nat) : Int) := by omega
      have gL : (((gcdL cs : Nat) : Int)).natAbs.log2 < 9000 := by
        rw [Int.natAbs_natCast]
        exact log_lt g1
      walk_at "rd"
      rw [if_neg (by omega)]
      refine ⟨⟨_, hS1⟩, fun Dd hD => lcTn (fun i y _ => ∃ c, cs[i]? = some c ∧ y = .int (c / ((gcdL cs : Nat) : Int))) (fun _ _ _ _ _ h => h) hD hS1 (by rw [List.length_map]; omega) (fun _ => rfl) ?_ ?_⟩
      · intro i x H2 hx e
        obtain ⟨c, hc, rfl⟩ := map_int_get hx
        obtain ⟨R0, hR⟩ : ∃ R : VK, R = fun v H' => v = .int (c / ((gcdL cs : Nat) : Int)) ∧ H' = H2 := ⟨_, rfl⟩
        refine ⟨R0, ?_, fun v H' h => by rw [hR] at h; obtain ⟨rfl, rfl⟩ := h; exact ⟨Ex.refl _, c, hc, rfl⟩⟩
        walk_at "rd"
        refine ⟨⟨gI, gL⟩, ?_⟩
        rw [hR]
        exact ⟨rfl, rfl⟩
      · intro H2 ys e hy hl hr2
        rw [List.length_map] at hl
        have ey := ints_of_map hl hr2
        refine ⟨Dd, _, rfl, .of hy, fun p H3 n3 e3 t3 => ?_⟩
        rw [ey] at t3
        have e13 := (e1.trans e).trans e3
        have hA3 := e13 _ _ hA
        walk_at "rd"
        refine ⟨_, _, _, hA3, RC.cl, RC.nC, by decide, k _ (fun b o n h => by rw [upd_ne n]; exact e13 _ _ h) ⟨a, dx, p, rfl, upd_same, ?_⟩⟩
        exact .of (by rw [upd_ne (ne_of t3 hA3 (fun z => nomatch z))]; exact t3)

/-! ### the properties -/
def spGet (K : PySem.W.Frag) (C : Addr) : Sp := fun vs H Q _ => ∃ (x : V) (ps : List Int), vs = [x] ∧ IsRow K C H x ps ∧ ∀ y, IsInts K H y ps → Q y H
theorem scGet : FnScope ["self"] ["self"] (defScope (inClass (top 23) 2)) := ⟨rfl, rfl, rfl, by decide +kernel, rfl, by decide +kernel, by decide +kernel⟩
theorem look_counts (q : Addr) : List.lookup ("_counts" : Str) [(("_counts" : Str), V.ref q)] = some (.ref q) := by simp [List.lookup]
theorem ok_get {C f : Addr} {fd : FuncData} (F : Fun K "counts" "Row.counts" (inClass (top 23) 2) f fd) (RC : RowC K mg C) : FnOk P w K mg base CX0 1 f fd ["self"] (spGet K C) := by
  have sc := scGet
  refine F.ok sc (fun vs H Q E h => ?_) (fun cdv A outer s H vs Q E hr h => ?_)
  · obtain ⟨x, ps, rfl, _⟩ := h
    rfl
  · obtain ⟨x, ps, rfl, ⟨a, dx, q, rfl, hA, hS⟩, k⟩ := h
    refine ⟨_, (pss_one (ps_ret (kFld (K := K) (pv 0) rfl))), ?_⟩
    walk_at "rd"
    exact ⟨_, _, _, hA, RC.cl, RC.nC, _, look_counts q, k _ ⟨q, rfl, hS⟩⟩
def spDraws (K : PySem.W.Frag) (C : Addr) : Sp := fun vs H Q _ => ∃ (x : V) (ps : List Int), vs = [x] ∧ IsRow K C H x ps ∧ Q (.int ((ps.length : Nat) - 1 : Int)) H
theorem scDraws : FnScope ["self"] ["self"] (defScope (inClass (top 23) 4)) := ⟨rfl, rfl, rfl, by decide +kernel, rfl, by decide +kernel, by decide +kernel⟩
theorem ok_draws {C f : Addr} {fd : FuncData} (F : Fun K "draws" "Row.draws" (inClass (top 23) 4) f fd) (B : Bi mg) (RC : RowC K mg C) : FnOk P w K mg base CX0 1 f fd ["self"] (spDraws K C) := by
  have sc := scDraws
  refine F.ok sc (fun vs H Q E h => ?_) (fun cdv A outer s H vs Q E hr h => ?_)
  · obtain ⟨x, ps, rfl, _⟩ := h
    rfl
  · obtain ⟨x, ps, rfl, ⟨a, dx, q, rfl, hA, hS⟩, k⟩ := h
    refine ⟨_, (pss_one (ps_ret (pe_op op_sub (pe_callB (kLen (K := K)) (by rfl) B.len (by decide +kernel) (pa_cons (kFld (K := K) (pv 0) rfl) pa_nil)) pe_int))), ?_⟩
    walk_at "rd"
    refine ⟨_, _, _, hA, RC.cl, RC.nC, _, look_counts q, ?_⟩
    walk_at "rd"
    refine ⟨_, .inr hS, ?_⟩
    rw [List.length_map]
    exact k
/-- a tuple whose items tell the fractions -/
def FrsAt (K : PySem.W.Frag) (H : Hp) (xs : List V) (rs : List Rat) : Prop := xs.length = rs.length ∧ ∀ (i : Nat) x, xs[i]? = some x → ∃ r, rs[i]? = some r ∧ IsFr K H x r
theorem FrsAt.kp {H H' : Hp} {xs : List V} {rs : List Rat} (h : FrsAt K H xs rs) (e : Kp H H') : FrsAt K H' xs rs :=
  ⟨h.1, fun i x hx => let ⟨r, h1, h2⟩ := h.2 i x hx; ⟨r, h1, h2.kp e⟩⟩
def IsFrs (K : PySem.W.Frag) (H : Hp) (x : V) (rs : List Rat) : Prop := ∃ p xs, x = .ref p ∧ SqT K H p xs ∧ FrsAt K H xs rs
theorem IsFrs.kp {H H' : Hp} {x : V} {rs : List Rat} (h : IsFrs K H x rs) (e : Kp H H') : IsFrs K H' x rs := by
  obtain ⟨p, xs, rfl, h1, h2⟩ := h
  exact ⟨p, xs, rfl, sqT_kp h1 e, h2.kp e⟩
theorem frs_dp {H : Hp} : ∀ {xs : List V} {rs : List Rat}, FrsAt K H xs rs → DpAll K H xs (rs.map frD)
  | [], [], _ => .nil
  | [], _ :: _, h => by cases h.1
  | _ :: _, [], h => by cases h.1
  | x :: xs, r :: rs, h => by
    refine .cons ?_ (frs_dp ⟨by simpa using h.1, fun i y hy => by simpa using h.2 (i + 1) y (by simpa using hy)⟩)
    obtain ⟨r', e, q⟩ := h.2 0 x rfl
    cases e
    exact q.dp
/-- rates of plain counts -/
def ratesL (ps : List Int) : List Rat := ps.map fun p => ((p : Int) : Rat) / ((ps.sum : Int) : Rat)
def spLowest (K : PySem.W.Frag) : Sp := fun vs H Q _ => ∃ t b : Int, vs = [.int t, .int b] ∧ 0 < b ∧ b.natAbs < 2 ^ 8990 ∧
  ∀ x H', Ex H H' → IsFr K H' x ((t : Rat) / (b : Rat)) → Q x H'
theorem scLowest : FnScope ["top", "bottom", "common"] ["top", "bottom"] (defScope (top 16)) := ⟨rfl, rfl, rfl, by decide +kernel, rfl, by decide +kernel, by decide +kernel⟩
theorem has_lowest (c_gcd : mg "gcd" = some (.builtin "math.gcd")) (D : Df K mg "lowest" (top 16) ["top", "bottom"]) : Has P w K mg base "lowest" 1 ["top", "bottom"] (spLowest K) := by
  have sc := scLowest
  refine .of D fun f fd F => F.ok sc (fun vs H Q E h => ?_) (fun cdv A outer s H vs Q E hr h => ?_)
  · obtain ⟨t, b, rfl, _⟩ := h
    rfl
  · obtain ⟨t, b, rfl, b0, b1, k⟩ := h
    obtain ⟨g0, g1⟩ := gcd_small (t := t) b0 b1
    refine ⟨_, (pss_cons (ps_set (i := 2) sc.nd rfl (by first | exact Or.inl rfl | exact Or.inr rfl) (pe_callBfun cr_gcd (by rfl) c_gcd (pa_cons (pv 0) (pa_cons (pv 1) pa_nil))))
      (pss_one (ps_ret (pe_tupN (pa_cons (pe_op op_fdivW (pv 0) (pv 2)) (pa_cons (pe_op op_fdivW (pv 1) (pv 2)) pa_nil)))))), ?_⟩
    walk_at "rd"
    refine ⟨_, _, rfl, ?_⟩
    have eg : ((Nat.gcd t.natAbs b.natAbs : Nat) : Int) = ((Int.gcd b t : Nat) : Int) := by
      rw [Nat.gcd_comm]
      rfl
    rw [eg]
    walk_at "rd"
    refine ⟨⟨g0, log_lt g1⟩, ⟨g0, log_lt g1⟩, by decide, fun p H1 n1 e1 t1 => k _ _ e1 ⟨p, rfl, ?_⟩⟩
    rw [← part_eq b0]
    exact .of t1
end

section
variable {P : Program} {w : World} {K : PySem.W.Frag} {mg : Str → Option Value} {base : Heap}
/-! ### rows compared, the rules of rows -/
def spEqR (K : PySem.W.Frag) (C : Addr) : Sp := fun vs H Q _ => ∃ (x y : V) (ps qs : List Int), vs = [x, y] ∧ IsRow K C H x ps ∧ IsRow K C H y qs ∧ Q (.bl (PyData.eqv (intsD ps) (intsD qs))) H
theorem scEq : FnScope ["self", "other"] ["self", "other"] (defScope (inClass (top 23) 7)) := ⟨rfl, rfl, rfl, by decide +kernel, rfl, by decide +kernel, by decide +kernel⟩
theorem shaped_ints (cs : List Int) : SeqAt.shaped (intsD cs) = true := by
  have h : ∀ cs : List Int, PyData.canLayAll0 (cs.map PyData.int) = true ∧ PyData.depthAll (cs.map PyData.int) = 0 := by
    intro cs
    induction cs with
    | nil => exact ⟨by simp [PyData.canLayAll0], by simp [PyData.depthAll]⟩
    | cons c cs ih => exact ⟨by simp [PyData.canLayAll0, PyData.canLay0, ih.1], by simp [PyData.depthAll, PyData.depth, ih.2]⟩
  unfold SeqAt.shaped intsD
  simp [PyData.canLay0, PyData.depth, (h cs).1, (h cs).2]
theorem ok_eq {C f : Addr} {fd : FuncData} (F : Fun K "__eq__" "Row.__eq__" (inClass (top 23) 7) f fd) (B : Bi mg) (RC : RowC K mg C) : FnOk P w K mg base CX0 1 f fd ["self", "other"] (spEqR K C) := by
  have sc := scEq
  refine F.ok sc (fun vs H Q E h => ?_) (fun cdv A outer s H vs Q E hr h => ?_)
  · obtain ⟨x, y, ps, qs, rfl, _⟩ := h
    rfl
  · obtain ⟨x, y, ps, qs, rfl, ⟨a, dx, p, rfl, hA, hS⟩, ⟨b, dy, q, rfl, hB, hT⟩, k⟩ := h
    refine ⟨_, (pss_one (ps_ret (pe_and (pe_callB (kIsi (K := K)) (by rfl) B.isinstance (by decide +kernel) (pa_cons (pv 1) (pa_cons (pe_glob (v := .ref C) rfl RC.mgC rfl) pa_nil))) (pe_one (pe_cmpR (op_eqD hr.units) (pe_fld (pv 0) rfl) (pe_fld (pv 1) rfl) (nomark _)))))), ?_⟩
    walk_at "rd"
    refine ⟨_, _, _, _, true, rfl, .own C, RC.ty hB, by simp [PySem.W.kitOne], ?_⟩
    walk_at "rd"
    refine ⟨_, _, _, hA, RC.cl, RC.nC, _, look_counts p, _, _, _, hB, RC.cl, RC.nC, _, look_counts q, ?_⟩
    exact ⟨intsD ps, intsD qs, .tup hS (dp_ints _), .tup hT (dp_ints _), shaped_ints _, shaped_ints _, k⟩

/-- the class Row as the text makes it: its parts keep what they promise -/
structure RowT (P : Program) (w : World) (K : PySem.W.Frag) (mg : Str → Option Value) (base : Heap) (C : Addr) : Prop where
  rc : RowC K mg C
  init : ∃ f fd, Mk K C f ∧ FnOk P w K mg base CX0 3 f fd ["self", "counts"] (spInit K C) ∧ Binds K fd ["self", "counts"] []
  counts : ∃ p g fd, PropOf K C "counts" p g ∧ FnOk P w K mg base CX0 1 g fd ["self"] (spGet K C) ∧ Binds K fd ["self"] []
  draws : ∃ p g fd, PropOf K C "draws" p g ∧ FnOk P w K mg base CX0 1 g fd ["self"] (spDraws K C) ∧ Binds K fd ["self"] []
  eq : ∃ f fd, PySem.W.findIn K (.ref C) "__eq__" = some (some (.ref f)) ∧ PySem.W.isFn K (.ref f) = true ∧ FnOk P w K mg base CX0 1 f fd ["self", "other"] (spEqR K C) ∧ Binds K fd ["self", "other"] []
  ne : ∃ (f N : Addr) (of : Obj) (nm q : Str) (bs : List Value) (hdct : Bool) (sn : List Str) (sub : List Value) (ab : Bool) (col : Option Bool) (dd : Option Addr) (k0 k1 k2 k3 k5 : Option Value) (newId : String),
    PySem.W.findIn K (.ref C) "__eq__" = some (some (.ref f)) ∧ K.lookup C = some (excClassObj nm q C N bs [.type "object"] hdct sn sub ab col dd k0 k1 k2 k3 k5 newId) ∧ PySem.W.nsOkIn K N = true ∧
    PySem.W.nsIn K N "__eq__" = some (some (.ref f)) ∧ PySem.W.nsIn K N "__ne__" = some none ∧ K.lookup f = some of ∧ of.cls = .type "function"

theorem ns_some {h : Heap} {N : Addr} {m : Str → Option Value} {n : Str} {v : Value} (X : K.In h) (G : h.Ns N m) (e : PySem.W.nsIn K N n = some (some v)) : m n = some v := by
  obtain ⟨o, es, ep, ho, hd, ok, hf⟩ := G
  unfold PySem.W.nsIn at e
  split at e
  · rename_i q
    have z := X _ _ q
    rw [ho] at z
    cases z
    cases hd
    split at e
    · rename_i en hen
      cases e
      rw [← hf]
      unfold nsFind findBy
      rw [← Array.find?_toList, hen]
      rfl
    · split at e <;> cases e
  · cases e
section
variable {X : Cx} {C : Addr} {e : Expr} {es : List Expr} {te : TE} {t : TA} {p pos : Pos}
/-- Row(e) -/
def tRow (K : PySem.W.Frag) (C : Addr) (t : TA) : TE := fun σ H Q => t σ H fun vs H1 => ∃ (y : V) (cs : List Int), vs = [y] ∧ IsInts K H1 y cs ∧ RowOk cs ∧ ∀ x H2, Ex H1 H2 → IsRow K C H2 x (plainL cs) → Q x H2
theorem pe_row (T : RowT X.prog X.w X.K X.mg X.base C) (hr : Room 4 X.A) (ha : PA X (e :: es) t) (hg : Gl X "Row" := by rfl)
    (he : starEach (e :: es) X.env = (false, eval e X.env) :: starEach es X.env := by rfl) (hpl : (backTo pos (starEach es X.env)).any (·.1) = false := by rfl) :
    PE X (.Call (.Name "Row" p) (e :: es) [] pos) (tRow X.K C t) := by
  obtain ⟨f, fd, M, F, hb⟩ := T.init
  have q := pe_make (X := X) (p := p) (pos := pos) M F hr hg T.rc.mgC hb .nil (pass0 (X := X)) (PA.mon ha) (by decide) he hpl
  refine ⟨fun pins s σ H Q I hq => q.run pins s σ H Q I ⟨_, hq, ?_⟩⟩
  intro vs H1 ⟨y, cs, ev, ⟨qa, ey, hS⟩, ok, k⟩ x dx nx ndx nex
  subst ev ey
  have e1 : Ex H1 (upd (upd H1 dx (.own x)) x (.ins C dx [])) := fun b o h => by
    rw [upd_ne (ne_of_none h nx), upd_ne (ne_of_none h ndx)]
    exact h
  refine ⟨x, dx, qa, cs, rfl, upd_same, sqT_kp hS e1.kp, ok, fun H2 keep hrow => ⟨rfl, k _ _ (fun b o h => ?_) hrow⟩⟩
  exact keep b o (ne_of_none h nx) (e1 b o h)
/-- e.counts -/
def tCounts (K : PySem.W.Frag) (C : Addr) (te : TE) : TE := fun σ H Q => te σ H fun x H1 => ∃ ps, IsRow K C H1 x ps ∧ ∀ y, IsInts K H1 y ps → Q y H1
theorem pe_counts (T : RowT X.prog X.w X.K X.mg X.base C) (hr : Room 2 X.A) (he : PE X e te) (hab : attributeBase e "counts" X.env (eval e X.env) = eval e X.env := by rfl) : PE X (.Attribute e "counts" pos) (tCounts X.K C te) := by
  obtain ⟨pr, g, fd, hp, F, hb⟩ := T.counts
  have q := pe_prop (X := X) (pos := pos) (PE.mon he) T.rc.cl hp F hr hb .nil (pass0 (X := X.nox)) hab
  refine ⟨fun pins s σ H Q I hq => q.run pins s σ H Q I ⟨_, hq, ?_⟩⟩
  intro x H1 ⟨ps, hrow, k⟩
  obtain ⟨a, dx, qa, ex, hA, hS⟩ := id hrow
  exact ⟨a, dx, _, ex, hA, x, ps, by rw [ex], hrow, k⟩
def tDraws (K : PySem.W.Frag) (C : Addr) (te : TE) : TE := fun σ H Q => te σ H fun x H1 => ∃ ps : List Int, IsRow K C H1 x ps ∧ Q (.int ((ps.length : Nat) - 1 : Int)) H1
theorem pe_draws (T : RowT X.prog X.w X.K X.mg X.base C) (hr : Room 2 X.A) (he : PE X e te) (hab : attributeBase e "draws" X.env (eval e X.env) = eval e X.env := by rfl) : PE X (.Attribute e "draws" pos) (tDraws X.K C te) := by
  obtain ⟨pr, g, fd, hp, F, hb⟩ := T.draws
  have q := pe_prop (X := X) (pos := pos) (PE.mon he) T.rc.cl hp F hr hb .nil (pass0 (X := X.nox)) hab
  refine ⟨fun pins s σ H Q I hq => q.run pins s σ H Q I ⟨_, hq, ?_⟩⟩
  intro x H1 ⟨ps, hrow, k⟩
  obtain ⟨a, dx, qa, ex, hA, hS⟩ := id hrow
  exact ⟨a, dx, _, ex, hA, x, ps, by rw [ex], hrow, k⟩
def tRates (K : PySem.W.Frag) (C : Addr) (te : TE) : TE := fun σ H Q => te σ H fun x H1 => ∃ ps : List Int, IsRow K C H1 x ps ∧ ps.length ≤ 1000 ∧ 0 < ps.sum ∧ ps.sum.natAbs < 2 ^ 8990 ∧ ∀ y H', Ex H1 H' → IsFrs K H' y (ratesL ps) → Q y H'
/-- x != y, two rows -/
def rNeRow (K : PySem.W.Frag) (C : Addr) : R2 := fun x y H Q => ∃ ps qs, IsRow K C H x ps ∧ IsRow K C H y qs ∧ Q (.bl (!PyData.eqv (intsD ps) (intsD qs))) H
theorem op_neRow (T : RowT X.prog X.w X.K X.mg X.base C) (hr : Room 2 X.A) : OpR X (compareOp .NotEq) (rNeRow X.K C) := by
  intro pins s σ H x y v u Q I rx ry ⟨ps, qs, ⟨a, dx, p, ex, hA, hS⟩, ⟨b, dy, q, ey, hB, hT⟩, k⟩
  subst ex ey
  obtain rfl : v = Value.ref a := rx
  obtain rfl : u = Value.ref b := ry
  obtain ⟨f, fd, f1, f2, F, hb⟩ := T.eq
  obtain ⟨f', N, of, nm, qn, bs, hdct, sn, sub, ab, col, dd, k0, k1, k2, k3, k5, newId, f3, lC, okN, n1, n2, lf, cf⟩ := T.ne
  have ef : f' = f := by
    rw [f1] at f3
    cases f3
    rfl
  subst ef
  obtain ⟨mA, OA, _⟩ := ins_get I.hok hA
  obtain ⟨mB, OB, _⟩ := ins_get I.hok hB
  have KI := I.kIn
  obtain ⟨hp, g, d, tk, os⟩ := s
  have hns : hp.Ns N (hp.nsMap N) := .of_isNs (PySem.W.isNs_of_in KI okN)
  have nNe : hp.nsMap N "__ne__" = none := PySem.W.ns_none_of KI hns n2
  have nEq : hp.nsMap N "__eq__" = some (.ref f') := ns_some KI hns n1
  have OE : hp.OwnEqNoNe a C f' "object" [.type "object"] :=
    ⟨_, of, nm, qn, N, bs, hdct, sn, sub, ab, col, dd, k0, k1, k2, k3, k5, newId, _, _, OA.obj, rfl, KI _ _ lC, hns, nEq, KI _ _ lf, cf, PySem.F.cmp_object.mro, rfl, nNe⟩
  refine compareOp_ne_ownEq PySem.F.cmp_object OE OB.obj rfl (by have := hr.un; omega) ?_
  have hsp : spEqR X.K C [.ref a, .ref b] H (fun v H' => v = .bl (PyData.eqv (intsD ps) (intsD qs)) ∧ H' = H) E0 :=
    ⟨.ref a, .ref b, ps, qs, rfl, ⟨a, dx, p, rfl, hA, hS⟩, ⟨b, dy, q, rfl, hB, hT⟩, rfl, rfl⟩
  have hl := F.len _ _ _ _ hsp
  have r2 : Vals [V.ref a, V.ref b] [Value.ref a, Value.ref b] := .cons rfl (.cons rfl .nil)
  have bnd := hb ⟨hp, g, d, tk, os⟩ [.ref a, .ref b] KI (by simpa using hl)
  rw [List.append_nil] at bnd
  refine wpAny_call (codeAny_mono (F.run X.A.in1 X.stack ⟨hp, g, d, tk, os⟩ H ⟨[.ref a, .ref b], []⟩ [.ref a, .ref b] [.ref a, .ref b] _ E0 hr.in1 I.env0.in1 bnd r2 hsp) fun res s' hq => ?_)
  cases res with
  | error er => exact (pass0 (X := X)) pins σ H _ er s' I hq
  | ok fl =>
    cases fl with
    | next => exact hq.elim
    | brk => exact hq.elim
    | cont => exact hq.elim
    | ret z =>
      obtain ⟨y, H', I', rz, ez, eh⟩ := I.after hq
      subst ez eh
      obtain rfl : z = Value.bool _ := rz
      exact ⟨_, rfl, .bl (!PyData.eqv (intsD ps) (intsD qs)), _, I', rfl, k⟩
end
end
section
variable {X : Cx} {K : PySem.W.Frag}
section
variable {P : Program} {w : World} {mg : Str → Option Value} {base : Heap} {C : Addr} {e : Expr} {es : List Expr} {te : TE} {t : TA} {p pos : Pos}
/-- where the block stands -/
def At (X : Cx) (P : Program) (w : World) (K : PySem.W.Frag) (mg : Str → Option Value) (base : Heap) : Prop := X.prog = P ∧ X.w = w ∧ X.K = K ∧ X.mg = mg ∧ X.base = base
theorem kRow (T : RowT P w K mg base C) (hr : Room 4 X.A) (ha : PA X (e :: es) t) (hx : At X P w K mg base := by exact ⟨rfl, rfl, rfl, rfl, rfl⟩) (hg : Gl X "Row" := by rfl)
    (he : starEach (e :: es) X.env = (false, eval e X.env) :: starEach es X.env := by rfl) (hpl : (backTo pos (starEach es X.env)).any (·.1) = false := by rfl) :
    PE X (.Call (.Name "Row" p) (e :: es) [] pos) (tRow K C t) := by
  obtain ⟨h1, h2, h3, h4, h5⟩ := hx
  subst h1 h2 h3 h4 h5
  exact pe_row T hr ha hg he hpl
theorem kCounts (T : RowT P w K mg base C) (hr : Room 2 X.A) (he : PE X e te) (hx : At X P w K mg base := by exact ⟨rfl, rfl, rfl, rfl, rfl⟩) (hab : attributeBase e "counts" X.env (eval e X.env) = eval e X.env := by rfl) : PE X (.Attribute e "counts" pos) (tCounts K C te) := by
  obtain ⟨h1, h2, h3, h4, h5⟩ := hx
  subst h1 h2 h3 h4 h5
  exact pe_counts T hr he hab
theorem kDraws (T : RowT P w K mg base C) (hr : Room 2 X.A) (he : PE X e te) (hx : At X P w K mg base := by exact ⟨rfl, rfl, rfl, rfl, rfl⟩) (hab : attributeBase e "draws" X.env (eval e X.env) = eval e X.env := by rfl) : PE X (.Attribute e "draws" pos) (tDraws K C te) := by
  obtain ⟨h1, h2, h3, h4, h5⟩ := hx
  subst h1 h2 h3 h4 h5
  exact pe_draws T hr he hab
theorem kNeRow (T : RowT P w K mg base C) (hr : Room 2 X.A) (hx : At X P w K mg base := by exact ⟨rfl, rfl, rfl, rfl, rfl⟩) : OpR X (compareOp .NotEq) (rNeRow K C) := by
  obtain ⟨h1, h2, h3, h4, h5⟩ := hx
  subst h1 h2 h3 h4 h5
  exact op_neRow T hr
end
section
variable {D : Ends} {σ : L2.St} {H : Hp} {te : TE} {tx : TA} {Q : VK} {C : Addr}
theorem r_counts : tCounts K C te σ H Q = te σ H fun x H1 => ∃ ps, IsRow K C H1 x ps ∧ ∀ y, IsInts K H1 y ps → Q y H1 := rfl
theorem r_draws : tDraws K C te σ H Q = te σ H fun x H1 => ∃ ps : List Int, IsRow K C H1 x ps ∧ Q (.int ((ps.length : Nat) - 1 : Int)) H1 := rfl
theorem r_rates : tRates K C te σ H Q = te σ H fun x H1 => ∃ ps : List Int, IsRow K C H1 x ps ∧ ps.length ≤ 1000 ∧ 0 < ps.sum ∧ ps.sum.natAbs < 2 ^ 8990 ∧ ∀ y H', Ex H1 H' → IsFrs K H' y (ratesL ps) → Q y H' := rfl
theorem r_row : tRow K C tx σ H Q = tx σ H fun vs H1 => ∃ (y : V) (cs : List Int), vs = [y] ∧ IsInts K H1 y cs ∧ RowOk cs ∧ ∀ x H2, Ex H1 H2 → IsRow K C H2 x (plainL cs) → Q x H2 := rfl
end
end

/-! rates of plain counts -/
theorem sum_scale (k : Int) : ∀ cs : List Int, (cs.map (k * ·)).sum = k * cs.sum
  | [] => by simp
  | c :: cs => by
    rw [List.map_cons, List.sum_cons, List.sum_cons, sum_scale k cs, Int.mul_add]
theorem sum_nonneg : ∀ {cs : List Int}, (∀ c ∈ cs, 0 ≤ c) → 0 ≤ cs.sum
  | [], _ => by simp
  | c :: cs, h => by
    have h1 := h c List.mem_cons_self
    have h2 := sum_nonneg fun x hx => h x (List.mem_cons_of_mem c hx)
    rw [List.sum_cons]
    omega
theorem sum_le {b : Int} : ∀ {cs : List Int}, (∀ c ∈ cs, c ≤ b) → cs.sum ≤ (cs.length : Int) * b
  | [], _ => by simp
  | c :: cs, h => by
    have h1 := h c List.mem_cons_self
    have h2 := sum_le fun x hx => h x (List.mem_cons_of_mem c hx)
    rw [List.sum_cons, List.length_cons, Int.natCast_add, Int.add_mul]
    omega
theorem sum_pos_ex : ∀ {cs : List Int}, (∀ c ∈ cs, 0 ≤ c) → 0 < cs.sum → ∃ c ∈ cs, 0 < c
  | [], _, h => by simp at h
  | c :: cs, h, hs => by
    by_cases hc : 0 < c
    · exact ⟨c, List.mem_cons_self, hc⟩
    · have h1 := h c List.mem_cons_self
      rw [List.sum_cons] at hs
      obtain ⟨x, hx, h2⟩ := sum_pos_ex (fun x hx => h x (List.mem_cons_of_mem c hx)) (by omega)
      exact ⟨x, List.mem_cons_of_mem c hx, h2⟩
theorem mem_le_sum : ∀ {cs : List Int} {c : Int}, (∀ x ∈ cs, 0 ≤ x) → c ∈ cs → c ≤ cs.sum
  | x :: cs, c, h, hc => by
    rw [List.sum_cons]
    have h0 := h x List.mem_cons_self
    have h1 := sum_nonneg fun y hy => h y (List.mem_cons_of_mem x hy)
    rcases List.mem_cons.mp hc with rfl | hc
    · omega
    · have := mem_le_sum (fun y hy => h y (List.mem_cons_of_mem x hy)) hc
      omega
/-- top times the whole is the count times the bottom -/
theorem frac_mul {p S : Int} (hS : 0 < S) : ((p : Rat) / (S : Rat)).num * S = p * (((((p : Rat) / (S : Rat)).den : Nat)) : Int) := by
  rw [div_num hS, div_den hS]
  have d1 : ((Int.gcd S p : Nat) : Int) ∣ p := Int.gcd_dvd_right ..
  have d2 : ((Int.gcd S p : Nat) : Int) ∣ S := Int.gcd_dvd_left ..
  obtain ⟨u, hu⟩ := d1
  obtain ⟨v, hv⟩ := d2
  have g0 : ((Int.gcd S p : Nat) : Int) ≠ 0 := by
    intro z
    rw [z, Int.zero_mul] at hv
    omega
  generalize ((Int.gcd S p : Nat) : Int) = g at *
  subst hu hv
  rw [Int.mul_ediv_cancel_left _ g0, Int.mul_ediv_cancel_left _ g0]
  grind
theorem frac_nonneg {p S : Int} (hp : 0 ≤ p) (hS : 0 < S) : 0 ≤ ((p : Rat) / (S : Rat)).num := by
  rw [div_num hS]
  exact Int.ediv_nonneg hp (by omega)
theorem frac_le_one {p S : Int} (hp : p ≤ S) (hS : 0 < S) : ((p : Rat) / (S : Rat)).num ≤ (((((p : Rat) / (S : Rat)).den : Nat)) : Int) := by
  have e := frac_mul (p := p) hS
  have h2 := den_pos ((p : Rat) / (S : Rat))
  generalize (((((p : Rat) / (S : Rat)).den : Nat)) : Int) = d at *
  generalize ((p : Rat) / (S : Rat)).num = t at *
  have h3 : p * d ≤ S * d := Int.mul_le_mul_of_nonneg_right hp (by omega)
  rw [← e, Int.mul_comm S d] at h3
  exact Int.le_of_mul_le_mul_right h3 hS
theorem sumR_div (S : Rat) : ∀ (ps : List Int) (acc : Rat), (ps.map fun p => ((p : Int) : Rat) / S).foldl (· + ·) acc = acc + ((ps.sum : Int) : Rat) / S
  | [], acc => by
    simp only [List.map_nil, List.foldl_nil, List.sum_nil]
    have : (((0 : Int)) : Rat) = 0 := rfl
    rw [this]
    grind
  | p :: ps, acc => by
    rw [List.map_cons, List.foldl_cons, sumR_div S ps, List.sum_cons, Rat.intCast_add]
    grind
theorem cast_ne {S : Int} (h : S ≠ 0) : ((S : Int) : Rat) ≠ 0 := fun z => h (by
  have := congrArg Rat.num z
  simpa using this)
theorem sumR_rates {ps : List Int} (h : 0 < ps.sum) : sumR (ratesL ps) = 1 := by
  unfold sumR ratesL
  rw [sumR_div]
  have := cast_ne (S := ps.sum) (by omega)
  grind
theorem rates_sz {ps : List Int} {n : Nat} (h : 0 < ps.sum) (hs : ps.sum.natAbs < 2 ^ n) (h0 : ∀ p ∈ ps, 0 ≤ p) : ∀ r ∈ ratesL ps, sz r n := by
  intro r hr
  obtain ⟨p, hp, rfl⟩ := List.mem_map.mp hr
  refine sz_div h ?_ hs
  have h1 := mem_le_sum h0 hp
  have h2 := h0 p hp
  omega

local macro_rules | `(tactic| walk_at "rd") => `(tactic| try simp only [r_seq, r_asg, r_name, r_ifS, r_next, r_ret, r_retN, r_drop, r_test, r_B, r_if, r_cons, r_nil, r_cb, r_tF, r_part, r_nopart, r_sl, r_par, r_chain, r_or, r_and, r_not, r_orV, r_andV, r_notV, r_op, r_un, r_var, r_c, r_yes, r_I0, r_I, r_U, r_eqI, r_neI, r_eqS, r_neS, r_lst, r_tup, r_for, r_lc, r_list, r_tupI, r_rng1, r_rng2, r_enumT, r_bm, r_fld, r_subT, r_gtup, r_gcons, r_gnil, r_K0, r_K, r_Kb, r_Kbb, wipe, r_never, not_true_eq_false, not_false_eq_true, Int.zero_add, r_counts, r_draws, r_rates, r_row, r_len, r_sfld, r_zipB, r_revT, r_tW, r_seqI,
  L2.start, List.map_cons, List.map_nil, List.length_cons, List.length_nil, Nat.reduceAdd, Nat.reduceSub, List.reduceReplicate, List.cons_append, List.nil_append, List.set_cons_zero, List.set_cons_succ, List.getElem?_cons_zero, List.getElem?_cons_succ, Option.some.injEq, exists_eq_left', exists_eq_left, exists_eq_right, exists_eq_right', V.int.injEq, V.ref.injEq, V.bl.injEq, V.str.injEq, List.cons.injEq, and_true, true_and, and_false, false_and, or_false, false_or, exists_false, exists_const, and_assoc, reduceCtorEq, if_true, if_false, Bool.false_eq_true, Bool.not_true, Bool.not_false, Bool.not_eq_true', decide_eq_true_eq, decide_eq_false_iff_not, exists_and_left, exists_and_right, exists_eq_or_imp])
section
variable {P : Program} {w : World} {K : PySem.W.Frag} {mg : Str → Option Value} {base : Heap}
/-! ### check_number, check_row -/
def spNum : Sp := fun vs H Q _ => ∃ g lo hi : Int, vs = [.int g, .int lo, .int hi] ∧ lo ≤ g ∧ g ≤ hi ∧ Q .non H
theorem scNum : FnScope ["given", "least", "most"] ["given", "least", "most"] (defScope (top 15)) := ⟨rfl, rfl, rfl, by decide +kernel, rfl, by decide +kernel, by decide +kernel⟩
theorem has_num (his_whole : Has P w K mg base "is_whole" 1 ["value"] spWhole) (D : Df K mg "check_number" (top 15) ["given", "least", "most"]) : Has P w K mg base "check_number" 2 ["given", "least", "most"] spNum := by
  have sc := scNum
  refine .of D fun f fd F => F.ok sc (fun vs H Q E h => ?_) (fun cdv A outer s H vs Q E hr h => ?_)
  · obtain ⟨g, lo, hi, rfl, _⟩ := h
    rfl
  · obtain ⟨g, lo, hi, rfl, h1, h2, k⟩ := h
    refine ⟨_, (pss_one (ps_if (PW.pt (pw_or (pt_not (pt_val (pe_has his_whole (hr.mono (by decide)) (pa_cons (pv 0) pa_nil)))) (pw_or (pt_cmpR op_lt (pv 0) (pv 1) (nomark _)) (pw_or1 (pt_cmpR op_gt (pv 0) (pv 2) (nomark _)))))) (pss_one ps_never) pss_nil)), ?_⟩
    walk_at "rd"
    refine ⟨g, rfl, ?_⟩
    walk_at "rd"
    rw [if_neg (by omega), if_neg (by omega)]
    exact k
def spCheckRow (K : PySem.W.Frag) (C : Addr) : Sp := fun vs H Q _ => ∃ (x : V) (ps : List Int), vs = [x] ∧ IsRow K C H x ps ∧ Q .non H
theorem scCheckRow : FnScope ["row"] ["row"] (defScope (top 24)) := ⟨rfl, rfl, rfl, by decide +kernel, rfl, by decide +kernel, by decide +kernel⟩
theorem has_check_row {C : Addr} (B : Bi mg) (RC : RowC K mg C) (D : Df K mg "check_row" (top 24) ["row"]) : Has P w K mg base "check_row" 1 ["row"] (spCheckRow K C) := by
  have sc := scCheckRow
  refine .of D fun f fd F => F.ok sc (fun vs H Q E h => ?_) (fun cdv A outer s H vs Q E hr h => ?_)
  · obtain ⟨x, ps, rfl, _⟩ := h
    rfl
  · obtain ⟨x, ps, rfl, ⟨a, dx, q, rfl, hA, hS⟩, k⟩ := h
    refine ⟨_, (pss_one (ps_if (pt_not (pt_val (pe_callB (kIsi (K := K)) (by rfl) B.isinstance (by decide +kernel) (pa_cons (pv 0) (pa_cons (pe_glob (v := .ref C) rfl RC.mgC rfl) pa_nil))))) (pss_one ps_never) pss_nil)), ?_⟩
    walk_at "rd"
    refine ⟨_, _, _, _, true, rfl, .own C, RC.ty hA, by simp [PySem.W.kitOne], ?_⟩
    walk_at "rd"
    exact k
end

section
variable {P : Program} {w : World} {K : PySem.W.Frag} {mg : Str → Option Value} {base : Heap}
/-! ### all_yes, swapped -/
structure RowIn (ps : List Int) : Prop where
  l0 : 2 ≤ ps.length
  l1 : ps.length ≤ 6
  nn : ∀ p ∈ ps, 0 ≤ p
  s0 : 0 < ps.sum
  s1 : ps.sum.natAbs < 2 ^ 600
theorem getD_get {ps : List Int} {i : Nat} {c : Int} (h : ps[i]? = some c) : ps.getD i 0 = c := by
  rw [List.getD_eq_getElem?_getD, h]
  rfl
end

section
variable {P : Program} {w : World} {K : PySem.W.Frag} {mg : Str → Option Value} {base : Heap}
theorem ints_ex {G : Hp} {p : Int → Prop} : ∀ {ys : List V}, (∀ (i : Nat) y, ys[i]? = some y → (fun _ y _ => ∃ c : Int, y = .int c ∧ p c : Nat → V → Hp → Prop) i y G) → ∃ cs : List Int, ys = cs.map V.int ∧ ∀ c ∈ cs, p c
  | [], _ => ⟨[], rfl, fun _ h => by simp at h⟩
  | y :: ys, h => by
    obtain ⟨c, e, hc⟩ := h 0 y rfl
    obtain ⟨cs, e2, h2⟩ := ints_ex (G := G) (p := p) (ys := ys) fun i z hz => h (i + 1) z (by simpa using hz)
    refine ⟨c :: cs, by rw [e, e2]; rfl, fun x hx => ?_⟩
    rcases List.mem_cons.mp hx with rfl | hx
    · exact hc
    · exact h2 x hx
theorem log_sm {i : Int} (h0 : 0 ≤ i) (h1 : i ≤ 1000) : i.natAbs.log2 < 9000 := log_lt (Nat.lt_of_lt_of_le (show i.natAbs < 2 ^ 10 by omega) (Nat.pow_le_pow_right (by decide) (by decide)))
def spPick (K : PySem.W.Frag) : Sp := fun vs H Q _ => ∃ (v l : Addr) (xs : List Int), vs = [.ref v, .ref l] ∧ VatAt H v ∧ l ≠ v ∧ H l = some (.lst (xs.map V.int)) ∧ xs ≠ [] ∧ xs.length ≤ 100 ∧ ∀ r H', Gv v H H' → r ∈ xs → Q (.int r) H'
def wyG (a : Int) : Nat → Int
  | 0 => 1
  | k + 1 => wyG a k * (a - (k : Int)) / ((k : Int) + 1)
theorem wy_chs (a : Nat) : ∀ k : Nat, wyG (a : Int) k = ((chs a k : Nat) : Int)
  | 0 => by rw [chs_zero]; rfl
  | k + 1 => by
    show wyG (a : Int) k * ((a : Int) - (k : Int)) / ((k : Int) + 1) = _
    rw [wy_chs a k, Int.mul_comm, ← chs_step a k]
    exact Int.mul_ediv_cancel_left _ (by omega)
def spChoose : Sp := fun vs H Q _ => ∃ a k : Nat, vs = [.int (a : Int), .int (k : Int)] ∧ a < 14 ∧ k < 6 ∧ Q (.int ((chs a k : Nat) : Int)) H
theorem chs_small : ∀ a < 14, ∀ k < 6, chs a k ≤ 1287 := by decide +kernel
/-- a list of so many numbers from 0 on, none above b -/
def NumL (cs : List Int) (n : Nat) (b : Int) : Prop := cs.length = n ∧ ∀ c ∈ cs, 0 ≤ c ∧ c ≤ b
def spUrnL (K : PySem.W.Frag) : Sp := fun vs H Q _ => ∃ (a m n : Nat), vs = [.int (a : Int), .int (m : Int), .int (n : Int)] ∧ m ≤ a ∧ a < 14 ∧ n < 6 ∧ ∀ p H' cs, H p = none → Ex H H' → H' p = some (.lst (cs.map V.int)) → NumL cs (n + 1) 2000000 → Q (.ref p) H'
theorem NumL.get {cs : List Int} {n k : Nat} {b : Int} (h : NumL cs n b) (hk : k < n) : ∃ c, cs[k]? = some c ∧ 0 ≤ c ∧ c ≤ b := by
  have hk : k < cs.length := by rw [h.1]; exact hk
  exact ⟨cs[k], List.getElem?_eq_getElem hk, h.2 _ (List.getElem_mem hk)⟩
theorem Gv.free {v p : Addr} {H G : Hp} (g : Gv v H G) (n : G p = none) : H p = none := by
  cases q : H p with
  | none => rfl
  | some u =>
    by_cases e : p = v
    · subst e
      obtain ⟨x, y, z, h, _⟩ := g.new
      rw [n] at h
      cases h
    · rw [g.keep p u e q] at n
      cases n
theorem at_num {cs : List Int} {k : Nat} {c : Int} (h : cs[k]? = some c) : atI (cs.map V.int) (k : Int) = some (.int c) := at_of (j := k) (by simp [ixN]) (by rw [List.getElem?_map, h]; rfl)
def spMixedL (K : PySem.W.Frag) : Sp := fun vs H Q _ => ∃ (v : Addr) (a n : Nat), vs = [.ref v, .int (a : Int), .int (n : Int)] ∧ VatAt H v ∧ a < 14 ∧ n < 6 ∧ ∀ p H' cs, Gv v H H' → H p = none → p ≠ v → H' p = some (.lst (cs.map V.int)) → NumL cs (n + 1) 24000000 → Q (.ref p) H'
def coinC (t r n k : Nat) : Int := ((chs n k * (t ^ k * r ^ (n - k)) : Nat) : Int)
def coinCs (t r n : Nat) : List Int := (List.range (n + 1)).map (coinC t r n)
theorem coin_small : ∀ t < 5, ∀ r < 5, ∀ n < 6, ∀ k < n + 1, ∀ j < n + 1, chs n k * (t ^ (min j k) * r ^ (j - k)) ≤ 10240 := by decide +kernel
theorem coin_step : ∀ t < 5, ∀ r < 5, ∀ n < 6, ∀ k < n + 1, ∀ j < n, chs n k * (t ^ (min j k) * r ^ (j - k)) * (if j < k then t else r) = chs n k * (t ^ (min (j + 1) k) * r ^ (j + 1 - k)) := by decide +kernel
theorem coin_pos {t r n k : Nat} (ht : 1 ≤ t) (hr : 1 ≤ r) (hn : n < 6) (hk : k ≤ n) : 1 ≤ chs n k * (t ^ k * r ^ (n - k)) := Nat.mul_pos (chs_pos hn hk) (Nat.mul_pos (Nat.pow_pos ht) (Nat.pow_pos hr))
def spCoinL (K : PySem.W.Frag) : Sp := fun vs H Q _ => ∃ (v : Addr) (n : Nat), vs = [.ref v, .int (n : Int)] ∧ VatAt H v ∧ n < 6 ∧ ∀ p H' t r, Gv v H H' → H p = none → p ≠ v → 1 ≤ t → t < 5 → 1 ≤ r → r < 5 → H' p = some (.lst ((coinCs t r n).map V.int)) → Q (.ref p) H'
theorem NumL.mono {cs : List Int} {n : Nat} {a b : Int} (h : NumL cs n a) (e : a ≤ b) : NumL cs n b := ⟨h.1, fun c hc => by have := h.2 c hc; omega⟩
theorem coins_num {t r n : Nat} (ht : t < 5) (hr : r < 5) (hn : n < 6) : NumL (coinCs t r n) (n + 1) 24000000 := by
  refine ⟨by simp [coinCs], fun c hc => ?_⟩
  obtain ⟨k, hk, rfl⟩ := List.mem_map.mp hc
  have hk := List.mem_range.mp hk
  have h := coin_small t ht r hr n hn k hk n (by omega)
  rw [show min n k = k by omega] at h
  unfold coinC
  omega
theorem NumL.set {cs : List Int} {n k : Nat} {a : Int} {c : Int} (h : NumL cs n a) (h0 : 0 ≤ c) (h1 : c ≤ a) : NumL (cs.set k c) n a := by
  refine ⟨by rw [List.length_set]; exact h.1, fun x hx => ?_⟩
  rcases List.mem_or_eq_of_mem_set hx with hx | rfl
  · exact h.2 x hx
  · exact ⟨h0, h1⟩
def spRowL (K : PySem.W.Frag) : Sp := fun vs H Q _ => ∃ (v : Addr) (n : Nat), vs = [.ref v, .int (n : Int)] ∧ VatAt H v ∧ 1 ≤ n ∧ n < 6 ∧ ∀ x H' cs, Gv v H H' → IsInts K H' x cs → NumL cs (n + 1) 24000003 → 0 < cs.sum → Q x H'
theorem coin_sums : ∀ t < 5, ∀ r < 5, ∀ n < 6, (coinCs t r n).sum ≤ 40000 := by decide +kernel
theorem coin_sum1 {t r n : Nat} (t1 : 1 ≤ t) (t5 : t < 5) (r1 : 1 ≤ r) (r5 : r < 5) (hn : n < 6) : 1 ≤ (coinCs t r n).sum := by
  have nn : ∀ c ∈ coinCs t r n, 0 ≤ c := fun c hc => ((coins_num t5 r5 hn).2 c hc).1
  have hm : coinC t r n 0 ∈ coinCs t r n := List.mem_map.mpr ⟨0, List.mem_range.mpr (by omega), rfl⟩
  have h1 := mem_le_sum nn hm
  have h2 := coin_pos t1 r1 hn (Nat.zero_le n)
  unfold coinC at h1
  omega
def twoC (A B : Int) (t r t' r' n : Nat) : List Int := (List.range (n + 1)).map fun k => A * coinC t r n k + B * coinC t' r' n k
theorem two_num {A B : Int} {t r t' r' n : Nat} (hA : 1 ≤ A ∧ A ≤ 120000) (hB : 1 ≤ B ∧ B ≤ 120000) (ht : t < 5) (hr : r < 5) (ht' : t' < 5) (hr' : r' < 5) (t1 : 1 ≤ t) (r1 : 1 ≤ r) (hn : n < 6) : (twoC A B t r t' r' n).length = n + 1 ∧ ∀ c ∈ twoC A B t r t' r' n, 1 ≤ c ∧ c ≤ 2457600000 := by
  refine ⟨by simp [twoC], fun c hc => ?_⟩
  obtain ⟨k, hk, rfl⟩ := List.mem_map.mp hc
  have hk := List.mem_range.mp hk
  have h := coin_small t ht r hr n hn k hk n (by omega)
  have h' := coin_small t' ht' r' hr' n hn k hk n (by omega)
  rw [show min n k = k by omega] at h h'
  have h1 := coin_pos t1 r1 hn (show k ≤ n by omega)
  have p1 : 1 * 1 ≤ A * coinC t r n k := Int.mul_le_mul hA.1 (by unfold coinC; omega) (by decide) (by omega)
  have p2 : A * coinC t r n k ≤ 120000 * 10240 := Int.mul_le_mul hA.2 (by unfold coinC; omega) (by unfold coinC; omega) (by decide)
  have p3 : 0 ≤ B * coinC t' r' n k := Int.mul_nonneg (by omega) (by unfold coinC; omega)
  have p4 : B * coinC t' r' n k ≤ 120000 * 10240 := Int.mul_le_mul hB.2 (by unfold coinC; omega) (by unfold coinC; omega) (by decide)
  omega
def spCoinsL (K : PySem.W.Frag) : Sp := fun vs H Q _ => ∃ (v : Addr) (n : Nat), vs = [.ref v, .int (n : Int)] ∧ VatAt H v ∧ n < 6 ∧ ∀ p H' A B t r t' r', Gv v H H' → H p = none → p ≠ v → 1 ≤ A ∧ A ≤ 120000 → 1 ≤ B ∧ B ≤ 120000 → (1 ≤ t ∧ t < 5 ∧ 1 ≤ r ∧ r < 5) → (1 ≤ t' ∧ t' < 5 ∧ 1 ≤ r' ∧ r' < 5) → H' p = some (.lst ((twoC A B t r t' r' n).map V.int)) → Q (.ref p) H'
def IsTab (H : Hp) (p : Addr) (M : List (List Int)) : Prop := ∃ xs : List V, H p = some (.lst xs) ∧ xs.length = M.length ∧ ∀ (i : Nat) (cs : List Int), M[i]? = some cs → ∃ a, xs[i]? = some (.ref a) ∧ H a = some (.lst (cs.map V.int))
theorem IsTab.ex {H H' : Hp} {p : Addr} {M : List (List Int)} (h : IsTab H p M) (e : Ex H H') : IsTab H' p M := by
  obtain ⟨xs, h1, h2, h3⟩ := h
  refine ⟨xs, e _ _ h1, h2, fun i cs hi => ?_⟩
  obtain ⟨a, h4, h5⟩ := h3 i cs hi
  exact ⟨a, h4, e _ _ h5⟩
def rowF (Dd : Addr) (f : Nat → List Int) : Nat → V → Hp → Prop := fun i y G => ∃ a, y = .ref a ∧ a ≠ Dd ∧ G a = some (.lst ((f i).map V.int))
theorem rowF_but {Dd : Addr} {f : Nat → List Int} : ∀ (i : Nat) (y : V) (H H' : Hp), But Dd H H' → rowF Dd f i y H → rowF Dd f i y H' := by
  rintro i y H H' b ⟨a, rfl, na, h⟩
  exact ⟨a, rfl, na, b a _ (.inl na) h⟩
theorem tab_of {G : Hp} {Dd : Addr} {ys : List V} {n : Nat} {f : Nat → List Int} (hy : G Dd = some (.lst ys)) (hl : ys.length = n) (hr : ∀ (i : Nat) y, ys[i]? = some y → rowF Dd f i y G) : IsTab G Dd ((List.range n).map f) := by
  refine ⟨ys, hy, by simp [hl], fun i cs hi => ?_⟩
  rw [List.getElem?_map] at hi
  by_cases h : i < n
  · rw [List.getElem?_range h] at hi
    cases hi
    have hyi : ys[i]? = some ys[i] := List.getElem?_eq_getElem (by omega)
    obtain ⟨a, e, _, ha⟩ := hr i _ hyi
    exact ⟨a, by rw [hyi, e], ha⟩
  · rw [List.getElem?_eq_none (by simp; omega)] at hi
    cases hi
def mE (M : List (List Int)) (i j : Nat) : Int := (M.getD i []).getD j 0
def SqM (M : List (List Int)) (s b : Nat) : Prop := M.length = s ∧ ∀ r ∈ M, r.length = s ∧ ∀ c ∈ r, c.natAbs < 2 ^ b
theorem SqM.row {M : List (List Int)} {s b i : Nat} (h : SqM M s b) (hi : i < s) : ∃ r, M[i]? = some r ∧ r.length = s ∧ (∀ c ∈ r, c.natAbs < 2 ^ b) ∧ ∀ j < s, r[j]? = some (mE M i j) ∧ (mE M i j).natAbs < 2 ^ b := by
  have hl : i < M.length := by rw [h.1]; exact hi
  have hr := h.2 _ (List.getElem_mem hl)
  refine ⟨M[i], List.getElem?_eq_getElem hl, hr.1, hr.2, fun j hj => ?_⟩
  have hj' : j < (M[i]).length := by rw [hr.1]; exact hj
  have e : mE M i j = (M[i])[j] := by
    have e0 : M.getD i [] = M[i] := by
      rw [List.getD_eq_getElem?_getD, List.getElem?_eq_getElem hl]
      rfl
    unfold mE
    rw [e0, List.getD_eq_getElem?_getD, List.getElem?_eq_getElem hj']
    rfl
  rw [e]
  exact ⟨List.getElem?_eq_getElem hj', hr.2 _ (List.getElem_mem hj')⟩
/-- table[i][j] -/
theorem q_ixTab {H : Hp} {p : Addr} {M : List (List Int)} {s b i : Nat} {Q : VK} (h : IsTab H p M) (hM : SqM M s b) (hi : i < s) (q : ∀ a, (∀ j < s, ∀ (G : Hp) (Q' : VK), Ex H G → Q' (.int (mE M i j)) G → rIxL K (.ref a) (.int (j : Int)) G Q') → Q (.ref a) H) : rIxL K (.ref p) (.int (i : Int)) H Q := by
  obtain ⟨xs, h1, h2, h3⟩ := h
  obtain ⟨r, hr, _, _, rj⟩ := hM.row hi
  obtain ⟨a, ha, hL⟩ := h3 i r hr
  refine q_ixL (.of h1) (at_of (j := i) (by simp [ixN]) ha) ?_
  refine q a fun j hj G Q' e z => ?_
  exact q_ixL (.of (e _ _ hL)) (at_num (rj j hj).1) z
def subM (M : List (List Int)) (ls : List Nat) : List (List Int) := ls.map fun i => ls.map fun j => mE M i j
theorem sub_sq {M : List (List Int)} {s b : Nat} {ls : List Nat} (h : SqM M s b) (hl : ∀ i ∈ ls, i < s) : SqM (subM M ls) ls.length b := by
  refine ⟨by simp [subM], fun r hr => ?_⟩
  obtain ⟨i, hi, rfl⟩ := List.mem_map.mp hr
  refine ⟨by simp, fun c hc => ?_⟩
  obtain ⟨j, hj, rfl⟩ := List.mem_map.mp hc
  obtain ⟨r, _, _, _, rj⟩ := h.row (hl i hi)
  exact (rj j (hl j hj)).2
def quads : List (List Int) := [[0, 1, 2, 1], [1, 2, 0, 1], [2, 0, 1, 1], [0, 2, 1, -1], [1, 0, 2, -1], [2, 1, 0, -1]]
def quadV (t : List (List Int)) (q : List Int) : Int := q.getD 3 0 * mE t 0 (q.getD 0 0).toNat * mE t 1 (q.getD 1 0).toNat * mE t 2 (q.getD 2 0).toNat
def detM (t : List (List Int)) : Int :=
  if t.length = 1 then mE t 0 0 else if t.length = 2 then mE t 0 0 * mE t 1 1 - mE t 0 1 * mE t 1 0 else (quads.map (quadV t)).sum
theorem quads_ok : ∀ q ∈ quads, ∃ (a b c : Nat) (z : Int), q = [(a : Int), (b : Int), (c : Int), z] ∧ a < 3 ∧ b < 3 ∧ c < 3 ∧ z.natAbs < 2 := by
  intro q hq
  simp only [quads, List.mem_cons, List.not_mem_nil, or_false] at hq
  rcases hq with rfl | rfl | rfl | rfl | rfl | rfl
  · exact ⟨0, 1, 2, 1, rfl, by decide, by decide, by decide, by decide⟩
  · exact ⟨1, 2, 0, 1, rfl, by decide, by decide, by decide, by decide⟩
  · exact ⟨2, 0, 1, 1, rfl, by decide, by decide, by decide, by decide⟩
  · exact ⟨0, 2, 1, -1, rfl, by decide, by decide, by decide, by decide⟩
  · exact ⟨1, 0, 2, -1, rfl, by decide, by decide, by decide, by decide⟩
  · exact ⟨2, 1, 0, -1, rfl, by decide, by decide, by decide, by decide⟩
def spMinorL : Sp := fun vs H Q _ => ∃ (p l : Addr) (M : List (List Int)) (s : Nat) (ls : List Nat), vs = [.ref p, .ref l] ∧ IsTab H p M ∧ SqM M s 200 ∧ H l = some (.lst ((ls.map fun i : Nat => (i : Int)).map V.int)) ∧ (∀ i ∈ ls, i < s) ∧ 1 ≤ ls.length ∧ ls.length ≤ 3 ∧ ∀ H', Ex H H' → Q (.int (detM (subM M ls))) H'
def Rows0 (H : Hp) (acc : List V) (M : List (List Int)) : Prop := acc.length = M.length ∧ ∀ (i : Nat) (cs : List Int), M[i]? = some cs → ∃ a, acc[i]? = some (.ref a) ∧ H a = some (.lst (cs.map V.int))
theorem Rows0.snoc {H : Hp} {acc : List V} {M : List (List Int)} {a : Addr} {cs : List Int} (h : Rows0 H acc M) (ha : H a = some (.lst (cs.map V.int))) : Rows0 H (acc ++ [.ref a]) (M ++ [cs]) := by
  refine ⟨by simp [h.1], fun i ds hi => ?_⟩
  by_cases hl : i < M.length
  · rw [List.getElem?_append_left hl] at hi
    obtain ⟨b, h1, h2⟩ := h.2 i ds hi
    exact ⟨b, by rw [List.getElem?_append_left (by rw [h.1]; exact hl)]; exact h1, h2⟩
  · rw [List.getElem?_append_right (by omega)] at hi
    have e : i - M.length = 0 := by
      have := (List.getElem?_eq_some_iff.mp hi).1
      simp at this
      omega
    rw [e] at hi
    cases hi
    exact ⟨a, by rw [List.getElem?_append_right (by rw [h.1]; omega), h.1, e]; rfl, ha⟩
theorem lcTabF {tt : TT} {te : TE} {vs : List Nat} {σ : L2.St} {H1 : Hp} {Dd p : Addr} {Q : VK} {j : Nat} (T : List Int → Bool) {M : List (List Int)} (hD : H1 Dd = none) (hT : IsTab H1 p M) (hz : M.length ≤ 1000)
    (hw : ∀ x, wipe ((wipe σ vs).set j (some x)) vs = wipe σ vs)
    (hs : ∀ (i : Nat) (cs : List Int) (a : Addr) (H : Hp) (S : Bool → Hp → Prop), M[i]? = some cs → H1 a = some (.lst (cs.map V.int)) → Ex H1 H → (∀ H3, Ex H H3 → S (T cs) H3) → tt ((wipe σ vs).set j (some (.ref a))) H S)
    (hv : ∀ (x : V) (H : Hp) (S : VK), S x H → te ((wipe σ vs).set j (some x)) H S)
    (hd : ∀ H acc, Ex H1 H → H Dd = some (.lst acc) → Rows0 H1 acc (M.filter T) → Q (.ref Dd) H) : LcW (Itl K p) (gName j) tt (tmE te) vs σ H1 Dd Q := by
  obtain ⟨xs, hp, hl, hx⟩ := hT
  refine lc_list (xs := xs) (fun i H => Ex H1 H ∧ ∃ acc, H Dd = some (.lst acc) ∧ Rows0 H1 acc ((M.take i).filter T)) ⟨Ex.new hD, [], upd_same, rfl, fun i cs h => by simp at h⟩ (fun i H _ h => .of (h.1 _ _ hp)) (fun i x H hi h => ?_) (fun H h => ?_)
  · obtain ⟨e, acc, hA, hR⟩ := h
    have hi2 := (List.getElem?_eq_some_iff.mp hi).1
    obtain ⟨cs, hcs⟩ : ∃ cs, M[i]? = some cs := ⟨_, List.getElem?_eq_getElem (by omega)⟩
    obtain ⟨a, ha, haL⟩ := hx i cs hcs
    rw [ha] at hi
    cases hi
    have etk : M.take (i + 1) = M.take i ++ [cs] := by rw [List.take_add_one, hcs]; rfl
    have aD : a ≠ Dd := fun z => by rw [z, hD] at haL; cases haL
    have lacc : acc.length ≤ 1000 := by
      rw [hR.1]
      refine Nat.le_trans (List.length_filter_le _ _) ?_
      rw [List.length_take]
      omega
    refine ⟨hw _, hs i cs a H _ hcs haL e fun H3 e3 => ?_⟩
    have e13 := e.trans e3
    rw [etk, List.filter_append]
    cases hT2 : T cs with
    | true =>
      rw [if_pos rfl]
      refine ⟨fun y H' => y = .ref a ∧ H' = H3, hv _ _ _ ⟨rfl, rfl⟩, ?_⟩
      rintro y H' ⟨rfl, rfl⟩
      refine ⟨acc, e3 _ _ hA, Nat.lt_of_lt_of_le (show acc.length < 1000000 by omega) (by decide), fun b o hb => ?_, _, upd_same, ?_⟩
      · rw [upd_ne (ne_of_none hb hD)]
        exact e13 _ _ hb
      · have f1 : [cs].filter T = [cs] := by simp [hT2]
        rw [f1]
        exact hR.snoc haL
    | false =>
      rw [if_neg (by decide)]
      have f1 : [cs].filter T = [] := by simp [hT2]
      rw [f1, List.append_nil]
      exact ⟨e13, acc, e3 _ _ hA, hR⟩
  · obtain ⟨e, acc, hA, hR⟩ := h
    rw [hl, List.take_length] at hR
    exact hd H acc e hA hR
def tabD (M : List (List Int)) : List PyData := M.map fun cs => .list (cs.map PyData.int)
theorem rows0_dp {H : Hp} : ∀ {acc : List V} {M : List (List Int)}, Rows0 H acc M → DpAll K H acc (tabD M)
  | [], [], _ => .nil
  | [], _ :: _, h => by cases h.1
  | _ :: _, [], h => by cases h.1
  | x :: acc, cs :: M, h => by
    obtain ⟨a, e, ha⟩ := h.2 0 cs rfl
    cases e
    refine .cons (.lst (.of ha) (dp_ints cs)) (rows0_dp ⟨by simpa using h.1, fun i ds hi => by simpa using h.2 (i + 1) ds (by simpa using hi)⟩)
theorem shaped_tab (M : List (List Int)) : SeqAt.shaped (.list (tabD M)) = true := by
  have h : ∀ cs : List Int, PyData.canLayAll0 (cs.map PyData.int) = true ∧ PyData.depthAll (cs.map PyData.int) = 0 := by
    intro cs
    induction cs with
    | nil => exact ⟨by simp [PyData.canLayAll0], by simp [PyData.depthAll]⟩
    | cons c cs ih => exact ⟨by simp [PyData.canLayAll0, PyData.canLay0, ih.1], by simp [PyData.depthAll, PyData.depth, ih.2]⟩
  have h2 : ∀ M : List (List Int), PyData.canLayAll0 (tabD M) = true ∧ PyData.depthAll (tabD M) ≤ 1 := by
    intro M
    induction M with
    | nil => exact ⟨by simp [tabD, PyData.canLayAll0], by simp [tabD, PyData.depthAll]⟩
    | cons cs M ih =>
      have e : tabD (cs :: M) = .list (cs.map PyData.int) :: tabD M := rfl
      rw [e]
      refine ⟨by simp [PyData.canLayAll0, PyData.canLay0, ih.1, (h cs).1], ?_⟩
      have := ih.2
      simp [PyData.depthAll, PyData.depth, (h cs).2]
      omega
  unfold SeqAt.shaped
  have := (h2 M).2
  simp [PyData.canLay0, PyData.depth, (h2 M).1]
  omega
def lots7 : List (List Int) := [[0], [1], [2], [0, 1], [0, 2], [1, 2], [0, 1, 2]]
def lotsF (s : Nat) : List (List Int) := lots7.filter fun l => decide (l.getLastD 0 < (s : Int))
def natsL (l : List Int) : List Nat := l.map Int.toNat
def aboveB (M : List (List Int)) (s : Nat) : Bool := (lotsF s).all fun l => decide (0 ≤ detM (subM M (natsL l)))
theorem lots_ok : ∀ l ∈ lots7, 1 ≤ l.length ∧ l.length ≤ 3 ∧ (natsL l).map (fun i : Nat => (i : Int)) = l ∧ ∀ s : Nat, l.getLastD 0 < (s : Int) → ∀ i ∈ natsL l, i < s := by
  intro l hl
  simp only [lots7, List.mem_cons, List.not_mem_nil, or_false] at hl
  rcases hl with rfl | rfl | rfl | rfl | rfl | rfl | rfl
  all_goals
    refine ⟨by decide, by decide, by decide, fun s hs i hi => ?_⟩
    simp [natsL] at hi hs
    omega
def spAbove : Sp := fun vs H Q _ => ∃ (p : Addr) (M : List (List Int)) (s : Nat), vs = [.ref p] ∧ IsTab H p M ∧ SqM M s 200 ∧ s ≤ 3 ∧ ∀ H', Ex H H' → Q (.bl (aboveB M s)) H'
theorem natV_get {n i : Nat} (hi : i < n) : ((natV n).map V.int)[i]? = some (.int (i : Int)) := by
  unfold natV
  rw [List.getElem?_map, List.getElem?_map, List.getElem?_range hi]
  rfl
theorem natV_len (n : Nat) : ((natV n).map V.int).length = n := by simp [natV]
def genT (s : Nat) (f : Nat → Nat → Int) : List (List Int) := (List.range s).map fun i => (List.range s).map (f i)
theorem lcRow {te : TE} {σ : L2.St} {H1 : Hp} {D2 a : Addr} {Q : VK} {j s : Nat} (g : Nat → Int) (hD : H1 D2 = none) (hx : SqL K H1 a ((natV s).map V.int)) (s3 : s ≤ 1000)
    (hw : ∀ x, wipe ((wipe σ [j]).set j (some x)) [j] = wipe σ [j])
    (hs : ∀ i < s, ∀ (G : Hp) (S : VK), Ex H1 G → S (.int (g i)) G → te ((wipe σ [j]).set j (some (.int (i : Int)))) G S)
    (hd : ∀ G, Ex H1 G → G D2 = some (.lst (((List.range s).map g).map V.int)) → Q (.ref D2) G) : LcW (Itl K a) (gName j) tYes (tmE te) [j] σ H1 D2 Q := by
  refine lcLn (fun i y _ => y = .int (g i)) (fun _ _ _ _ _ h => h) hD hx (by rw [natV_len]; omega) hw (fun i x G hi e => ?_) (fun G ys e hy hl hr => ?_)
  · have hi2 : i < s := by have := (List.getElem?_eq_some_iff.mp hi).1; rw [natV_len] at this; exact this
    rw [natV_get hi2] at hi
    cases hi
    exact ⟨fun y G' => y = .int (g i) ∧ G' = G, hs i hi2 G _ e ⟨rfl, rfl⟩, fun y G' ⟨h1, h2⟩ => by rw [h2]; exact ⟨Ex.refl _, h1⟩⟩
  · rw [natV_len] at hl
    rw [ints_of hl hr] at hy
    exact hd G e hy
theorem lcOut {te : TE} {σ : L2.St} {H1 : Hp} {Dd a : Addr} {Q : VK} {j s : Nat} (f : Nat → Nat → Int) (hD : H1 Dd = none) (hx : SqL K H1 a ((natV s).map V.int)) (s3 : s ≤ 1000)
    (hw : ∀ x, wipe ((wipe σ [j]).set j (some x)) [j] = wipe σ [j])
    (hs : ∀ i < s, ∀ (G : Hp) (S : VK), Ex H1 G → (∀ (D2 : Addr) (G2 : Hp), G D2 = none → Ex G G2 → G2 D2 = some (.lst (((List.range s).map (f i)).map V.int)) → S (.ref D2) G2) → te ((wipe σ [j]).set j (some (.int (i : Int)))) G S)
    (hd : ∀ G, Ex H1 G → IsTab G Dd (genT s f) → Q (.ref Dd) G) : LcW (Itl K a) (gName j) tYes (tmE te) [j] σ H1 Dd Q := by
  refine lcLb (rowF Dd fun i => (List.range s).map (f i)) rowF_but hD hx (by rw [natV_len]; omega) hw (fun i x G hi e ⟨acc, hacc⟩ => ?_) (fun G ys e hy hl hr => ?_)
  · have hi2 : i < s := by have := (List.getElem?_eq_some_iff.mp hi).1; rw [natV_len] at this; exact this
    rw [natV_get hi2] at hi
    cases hi
    refine ⟨fun y G' => Ex G G' ∧ rowF Dd (fun i => (List.range s).map (f i)) i y G', hs i hi2 G _ e fun D2 G2 n2 e2 h2 => ⟨e2, D2, rfl, fun z => ?_, h2⟩, fun y G' h => h⟩
    rw [z, hacc] at n2
    cases n2
  · rw [natV_len] at hl
    exact hd G e (tab_of hy hl hr)
theorem genT_sq {s b : Nat} {f : Nat → Nat → Int} (h : ∀ i < s, ∀ j < s, (f i j).natAbs < 2 ^ b) : SqM (genT s f) s b := by
  refine ⟨by simp [genT], fun r hr => ?_⟩
  obtain ⟨i, hi, rfl⟩ := List.mem_map.mp hr
  refine ⟨by simp, fun c hc => ?_⟩
  obtain ⟨j, hj, rfl⟩ := List.mem_map.mp hc
  exact h i (List.mem_range.mp hi) j (List.mem_range.mp hj)
def wayS (cs : List Int) (j : Nat) : Int := ((List.range cs.length).map fun k => cs.getD k 0 * ((chs k j : Nat) : Int)).sum
def momL (cs : List Int) (j : Nat) : Int := wayS cs j * 60 / ((chs (cs.length - 1) j : Nat) : Int)
def nearF (m : Nat → Int) (n : Nat) (i j : Nat) : Int := if n % 2 = 0 then m (i + j) else m (i + j + 1)
def farF (m : Nat → Int) (n : Nat) (i j : Nat) : Int := if n % 2 = 0 then m (i + j + 1) - m (i + j + 2) else m (i + j) - m (i + j + 1)
def farS (n : Nat) : Nat := if n % 2 = 0 then n / 2 else n / 2 + 1
def dueB (m : Nat → Int) (n : Nat) : Bool := aboveB (genT (n / 2 + 1) (nearF m n)) (n / 2 + 1) && aboveB (genT (farS n) (farF m n)) (farS n)
theorem way_le {cs : List Int} {n j : Nat} (h : NumL cs (n + 1) (2 ^ 110)) (hn : n < 6) (hj : j ≤ n) : 0 ≤ wayS cs j ∧ wayS cs j ≤ 60 * 2 ^ 110 := by
  have each : ∀ x ∈ (List.range cs.length).map (fun k => cs.getD k 0 * ((chs k j : Nat) : Int)), 0 ≤ x ∧ x ≤ 2 ^ 110 * 10 := by
    intro x hx
    obtain ⟨k, hk, rfl⟩ := List.mem_map.mp hx
    have hk := List.mem_range.mp hk
    obtain ⟨c, hc, c0, c1⟩ := h.get (k := k) (by rw [← h.1]; exact hk)
    have e : cs.getD k 0 = c := by rw [List.getD_eq_getElem?_getD, hc]; rfl
    have c2 := chs_le (a := k) (b := j) (by have := h.1; omega) (by omega)
    rw [e]
    exact ⟨Int.mul_nonneg c0 (by omega), Int.mul_le_mul c1 (by omega) (by omega) (by decide)⟩
  have nn := sum_nonneg fun x hx => (each x hx).1
  have sl := sum_le (b := 2 ^ 110 * 10) fun x hx => (each x hx).2
  have hl := h.1
  rw [List.length_map, List.length_range] at sl
  have : (cs.length : Int) * (2 ^ 110 * 10) ≤ 6 * (2 ^ 110 * 10) := Int.mul_le_mul_of_nonneg_right (by omega) (by decide)
  exact ⟨nn, by unfold wayS; omega⟩
theorem mom_le {cs : List Int} {n j : Nat} (h : NumL cs (n + 1) (2 ^ 110)) (hn : n < 6) (hj : j ≤ n) : 0 ≤ momL cs j ∧ momL cs j < 2 ^ 130 := by
  obtain ⟨w0, w1⟩ := way_le h hn hj
  have hl := h.1
  have cp := chs_pos (a := cs.length - 1) (b := j) (by omega) (by omega)
  unfold momL
  refine ⟨Int.ediv_nonneg (by omega) (by omega), ?_⟩
  have := Int.ediv_le_self ((chs (cs.length - 1) j : Nat) : Int) (show 0 ≤ wayS cs j * 60 by omega)
  have : (2 : Int) ^ 130 = 2 ^ 110 * 2 ^ 20 := by decide
  omega
theorem cutN {s : Nat} (h : s < 3) : cutV ((natV (s + 1)).map V.int) none (some (-1)) = (natV s).map V.int := by
  have : s = 0 ∨ s = 1 ∨ s = 2 := by omega
  rcases this with rfl | rfl | rfl <;> rfl
theorem near_sz {cs : List Int} {n : Nat} (h : NumL cs (n + 1) (2 ^ 110)) (hn : n < 6) (n1 : 1 ≤ n) : ∀ i < n / 2 + 1, ∀ j < n / 2 + 1, (nearF (momL cs) n i j).natAbs < 2 ^ 200 := by
  intro i hi j hj
  have b : (2 : Nat) ^ 130 ≤ 2 ^ 200 := Nat.pow_le_pow_right (by decide) (by decide)
  unfold nearF
  split
  · have := mom_le (j := i + j) h hn (by omega)
    omega
  · have := mom_le (j := i + j + 1) h hn (by omega)
    omega
theorem far_sz {cs : List Int} {n : Nat} (h : NumL cs (n + 1) (2 ^ 110)) (hn : n < 6) (n1 : 1 ≤ n) : ∀ i < farS n, ∀ j < farS n, (farF (momL cs) n i j).natAbs < 2 ^ 200 := by
  intro i hi j hj
  have b : (2 : Nat) ^ 130 ≤ 2 ^ 200 := Nat.pow_le_pow_right (by decide) (by decide)
  unfold farS at hi hj
  unfold farF
  split
  · rename_i hp
    rw [if_pos hp] at hi hj
    have := mom_le (j := i + j + 1) h hn (by omega)
    have := mom_le (j := i + j + 2) h hn (by omega)
    omega
  · rename_i hp
    rw [if_neg hp] at hi hj
    have := mom_le (j := i + j) h hn (by omega)
    have := mom_le (j := i + j + 1) h hn (by omega)
    omega
def spDueL (K : PySem.W.Frag) : Sp := fun vs H Q _ => ∃ (l : Addr) (cs : List Int) (n : Nat), vs = [.ref l] ∧ H l = some (.lst (cs.map V.int)) ∧ NumL cs (n + 1) (2 ^ 110) ∧ 1 ≤ n ∧ n < 6 ∧ ∀ H', Ex H H' → Q (.bl (dueB (momL cs) n)) H'
def yesF (cs : List Int) (j : Nat) : Int := wayS cs j * ((Builtin.Math.factorialNat j : Nat) : Int) * ((Builtin.Math.factorialNat (cs.length - 1 - j) : Nat) : Int)
theorem fac_le : ∀ n < 6, 1 ≤ Builtin.Math.factorialNat n ∧ Builtin.Math.factorialNat n ≤ 120 := by decide +kernel
def spYes (K : PySem.W.Frag) : Sp := fun vs H Q _ => ∃ (p : Addr) (cs : List Int) (n : Nat), vs = [.ref p] ∧ SqT K H p (cs.map V.int) ∧ NumL cs (n + 1) (2 ^ 110) ∧ 1 ≤ n ∧ n < 6 ∧ ∀ l H', Ex H H' → H' l = some (.lst (((List.range (n + 1)).map (yesF cs)).map V.int)) → Q (.ref l) H'
theorem scYes : FnScope ["counts", "draws", "k", "count", "j"] ["counts"] (defScope (top 32)) := ⟨rfl, rfl, rfl, by decide +kernel, rfl, by decide +kernel, by decide +kernel⟩
theorem has_yes (B : Bi mg) (c_comb : mg "comb" = some (.builtin "math.comb")) (c_factorial : mg "factorial" = some (.builtin "math.factorial")) (D : Df K mg "yes_sums" (top 32) ["counts"]) : Has P w K mg base "yes_sums" 1 ["counts"] (spYes K) := by
  have sc := scYes
  refine .of D fun f fd F => F.ok sc (fun vs H Q E h => ?_) (fun cdv A outer s H vs Q E hr h => ?_)
  · obtain ⟨l, cs, n, rfl, _⟩ := h
    rfl
  · obtain ⟨p, cs, n, rfl, hp, hN, n1, hn, k⟩ := h
    refine ⟨_, (pss_cons (ps_set (i := 1) sc.nd rfl (by first | exact Or.inl rfl | exact Or.inr rfl) (pe_op op_sub (pe_callB (kLen (K := K)) (by rfl) B.len (by decide +kernel) (pa_cons (pv 0) pa_nil)) pe_int))
      (pss_one (ps_ret (pe_lc (own := [("j", 4)]) (g := gName 4) (tt := tYes) rfl sc.nd (pi_range1 (by rfl) B.range (pa_cons (pe_op op_add (pv 1) pe_int) pa_nil)) (blkOk_by (N := (["counts", "draws", "k", "count", "j"] : List Str)) (sc := defScope (top 32)) (by decide +kernel)) (fun _ _ _ _ _ => (pg_name (i := 4) sc.nd rfl (by first | exact Or.inl rfl | exact Or.inr rfl))) (fun _ _ _ _ _ => pts_nil) (fun _ _ _ _ _ => (PE.mon (pe_op op_mulS (pe_op op_mulS (pe_callB (kSum (K := K) rfl) (by rfl) B.sum (by decide +kernel) (pa_cons (pe_lc (own := [("k", 2), ("count", 3)]) (g := gTup K 2 (gCons (gName 2) (gCons (gName 3) gNil))) (tt := tYes) rfl sc.nd (kEnumT (K := K) (by rfl) B.enumerate (pa_cons (pv 0) pa_nil)) (blkOk_by (by kernel_rfl)) (fun _ _ _ _ _ => (pg_tup rfl (pgs_cons (pg_name (i := 2) sc.nd rfl (by first | exact Or.inl rfl | exact Or.inr rfl)) (pgs_cons (pg_name (i := 3) sc.nd rfl (by first | exact Or.inl rfl | exact Or.inr rfl)) pgs_nil)))) (fun _ _ _ _ _ => pts_nil) (fun _ _ _ _ _ => (PE.mon (pe_op op_mulS (pv 3) (pe_callBfun cr_comb (by rfl) c_comb (pa_cons (pv 2) (pa_cons (pv 4) pa_nil))))))) pa_nil)) (pe_callBfun cr_fact (by rfl) c_factorial (pa_cons (pv 4) pa_nil))) (pe_callBfun cr_fact (by rfl) c_factorial (pa_cons (pe_op op_sub (pv 1) (pv 4)) pa_nil))))))))), ?_⟩
    walk_at "rd"
    have ncs : cs.length = n + 1 := hN.1
    refine ⟨_, .inr hp, ?_⟩
    rw [List.length_map, ncs]
    have en : (((n + 1 : Nat) : Int)) - 1 = (n : Int) := by omega
    rw [en]
    refine ⟨by omega, by omega, fun Dd hD => lcR (fun j y _ => y = .int (yesF cs j)) (fun _ _ _ _ _ h => h) hD (by omega) (fun _ => rfl) ?_ ?_⟩
    · intro j G hj e
      have hj : j ≤ n := by omega
      obtain ⟨R0, hR⟩ : ∃ R : VK, R = fun y G' => Ex G G' ∧ y = .int (yesF cs j) := ⟨_, rfl⟩
      refine ⟨R0, ?_, fun y G' h => by rw [hR] at h; exact h⟩
      walk_at "rd"
      refine ⟨⟨_, sqT_kp hp e.kp⟩, fun D2 hD2 => lcE (fun i y _ => y = .int (cs.getD i 0 * ((chs i j : Nat) : Int))) (fun _ _ _ _ _ h => h) hD2 (sqT_kp hp e.kp) (by rw [List.length_map]; omega) (gm_tup (gm_cons gm_name (gm_cons gm_name gm_nil))) ?_ ?_⟩
      · intro i v T H2 hv e2 hT
        obtain ⟨c, hc, rfl⟩ := map_int_get hv
        have hi := (List.getElem?_eq_some_iff.mp hc).1
        obtain ⟨c', hc', c0, c1⟩ := hN.get (k := i) (by omega)
        rw [hc] at hc'
        cases hc'
        have ec : cs.getD i 0 = c := by rw [List.getD_eq_getElem?_getD, hc]; rfl
        rw [ec]
        walk_at "rd"
        refine ⟨_, .of hT, rfl, ?_⟩
        walk_at "rd"
        obtain ⟨R1, hR1⟩ : ∃ R : VK, R = fun v H' => v = .int (c * ((chs i j : Nat) : Int)) ∧ H' = H2 := ⟨_, rfl⟩
        refine ⟨R1, ?_, fun v H' h => by rw [hR1] at h; obtain ⟨rfl, rfl⟩ := h; exact ⟨Ex.refl _, rfl⟩⟩
        walk_at "rd"
        refine ⟨_, _, rfl, comb_ok (by omega) (by omega), ?_⟩
        rw [comb_chs (by omega) (by omega)]
        have hb := chs_le (a := i) (b := j) (by omega) (by omega)
        walk_at "rd"
        refine ⟨cmulR, ?_⟩
        rw [hR1]
        exact ⟨rfl, rfl⟩
      · intro H2 ys e2 hy hl hr2
        rw [List.length_map] at hl
        have ey : ys = ((List.range cs.length).map fun k => cs.getD k 0 * ((chs k j : Nat) : Int)).map V.int := ints_of hl hr2
        rw [ey] at hy
        refine ⟨D2, _, rfl, .inl (.of hy), ?_⟩
        have wl := way_le hN hn hj
        have f1 := fac_le j (by omega)
        have f2 := fac_le (n - j) (by omega)
        refine ⟨j, rfl, by omega, ?_⟩
        walk_at "rd"
        have b1 : (wayS cs j).natAbs < 2 ^ 130 := by omega
        refine ⟨cmul 130 7 b1 (by omega), ?_⟩
        refine ⟨n - j, by first | omega | (congr 2; omega), by omega, ?_⟩
        walk_at "rd"
        refine ⟨cmul 137 7 (wide_lt (a := 130) (b := 7) b1 (by omega)) (by omega), ?_⟩
        rw [hR]
        refine ⟨e2, ?_⟩
        unfold yesF wayS
        rw [ncs]
        rfl
    · intro G ys e hy hl hr2
      rw [ints_of hl hr2] at hy
      rw [show ((n : Int) + 1).toNat = n + 1 by omega] at hy
      exact k Dd G e hy
theorem cut_mid (xs : List V) (i s : Nat) (h : i + s ≤ xs.length) : cutV xs (some (i : Int)) (some ((i + s : Nat) : Int)) = (xs.drop i).take s := by
  unfold cutV
  rw [HT.sIx_nat, HT.sIx_nat, Nat.min_eq_left (by omega), Nat.min_eq_left (by omega), show i + s - i = s by omega]
theorem mid_eq (cs : List Int) (i s : Nat) (h : i + s ≤ cs.length) : ((cs.map V.int).drop i).take s = ((List.range s).map fun j => cs.getD (i + j) 0).map V.int := by
  apply List.ext_getElem?
  intro q
  by_cases hq : q < s
  · rw [List.getElem?_take_of_lt hq, List.getElem?_drop, List.getElem?_map, List.getElem?_map, List.getElem?_map, List.getElem?_range hq]
    rw [List.getElem?_eq_getElem (show i + q < cs.length by omega)]
    simp only [Option.map_some]
    rw [List.getD_eq_getElem?_getD, List.getElem?_eq_getElem (show i + q < cs.length by omega)]
    rfl
  · rw [List.getElem?_eq_none (by rw [List.length_take]; omega), List.getElem?_eq_none (by simp; omega)]
def spTable : Sp := fun vs H Q _ => ∃ (p : Addr) (cs : List Int) (n : Nat), vs = [.ref p, .int (n : Int)] ∧ H p = some (.lst (cs.map V.int)) ∧ n ≤ 100 ∧ (∀ i < n, i + n ≤ cs.length) ∧ ∀ l H', Ex H H' → IsTab H' l (genT n fun i j => cs.getD (i + j) 0) → Q (.ref l) H'
theorem scTable : FnScope ["chances", "size", "i"] ["chances", "size"] (defScope (top 41)) := ⟨rfl, rfl, rfl, by decide +kernel, rfl, by decide +kernel, by decide +kernel⟩
theorem has_table (B : Bi mg) (D : Df K mg "_table" (top 41) ["chances", "size"]) : Has P w K mg base "_table" 1 ["chances", "size"] spTable := by
  have sc := scTable
  refine .of D fun f fd F => F.ok sc (fun vs H Q E h => ?_) (fun cdv A outer s H vs Q E hr h => ?_)
  · obtain ⟨l, cs, n, rfl, _⟩ := h
    rfl
  · obtain ⟨p, cs, n, rfl, hp, hn, hi, k⟩ := h
    refine ⟨_, (pss_one (ps_ret (pe_lc (own := [("i", 2)]) (g := gName 2) (tt := tYes) rfl sc.nd (pi_range1 (by rfl) B.range (pa_cons (pv 1) pa_nil)) (blkOk_by (N := (["chances", "size", "i"] : List Str)) (sc := defScope (top 41)) (by decide +kernel)) (fun _ _ _ _ _ => (pg_name (i := 2) sc.nd rfl (by first | exact Or.inl rfl | exact Or.inr rfl))) (fun _ _ _ _ _ => pts_nil) (fun _ _ _ _ _ => (PE.mon (pe_slice (slL (K := K)) (pv 0) (po_some (pv 2)) (po_some (pe_op op_add (pv 2) (pv 1))))))))), ?_⟩
    walk_at "rd"
    refine ⟨by omega, by omega, fun Dd hD => lcRb (rowF Dd fun i => (List.range n).map fun j => cs.getD (i + j) 0) rowF_but hD (by omega) (fun _ => rfl) ?_ ?_⟩
    · intro i G hin e ⟨acc, hacc⟩
      have hin : i < n := by omega
      obtain ⟨R0, hR⟩ : ∃ R : VK, R = fun y G' => Ex G G' ∧ rowF Dd (fun i => (List.range n).map fun j => cs.getD (i + j) 0) i y G' := ⟨_, rfl⟩
      refine ⟨R0, ?_, fun y G' h => by rw [hR] at h; exact h⟩
      walk_at "rd"
      refine ⟨p, _, rfl, .of (e _ _ hp), fun q G2 n2 e2 t2 => ?_⟩
      rw [show (i : Int) + (n : Int) = ((i + n : Nat) : Int) by omega, cut_mid _ _ _ (by rw [List.length_map]; exact hi i hin), mid_eq _ _ _ (hi i hin)] at t2
      rw [hR]
      exact ⟨e2, q, rfl, (fun z => by rw [z, hacc] at n2; cases n2), t2⟩
    · intro G ys e hy hl hr2
      exact k Dd G e (tab_of hy (by omega) hr2)
def sg (j : Nat) : Int := (-1) ^ j
def offM (M : List (List Int)) (j : Nat) : List (List Int) := (M.drop 1).map fun r => r.take j ++ r.drop (j + 1)
def lap : Nat → List (List Int) → Int
  | 0, _ => 1
  | s + 1, M => ((List.range (s + 1)).map fun j => sg j * mE M 0 j * lap s (offM M j)).sum
theorem off_sq {M : List (List Int)} {s b j : Nat} (h : SqM M (s + 1) b) (hj : j < s + 1) : SqM (offM M j) s b := by
  refine ⟨by simp [offM, h.1], fun r hr => ?_⟩
  obtain ⟨r0, h0, rfl⟩ := List.mem_map.mp hr
  have h1 := h.2 r0 (List.mem_of_mem_drop h0)
  refine ⟨by simp [h1.1]; omega, fun c hc => ?_⟩
  rcases List.mem_append.mp hc with hc | hc
  · exact h1.2 c (List.mem_of_mem_take hc)
  · exact h1.2 c (List.mem_of_mem_drop hc)
theorem sg_succ (j : Nat) : sg (j + 1) = -sg j := by unfold sg; rw [Int.pow_succ]; omega
theorem sg_abs (j : Nat) : (sg j).natAbs = 1 := by
  induction j with
  | zero => rfl
  | succ j ih => rw [sg_succ, Int.natAbs_neg, ih]
theorem isum_app (a b : List Int) : (a ++ b).sum = a.sum + b.sum := by
  induction a with
  | nil => simp
  | cons x a ih => rw [List.cons_append, List.sum_cons, List.sum_cons, ih]; omega
theorem abs_sum {l : List Int} {b : Nat} (h : ∀ x ∈ l, x.natAbs ≤ b) : l.sum.natAbs ≤ l.length * b := by
  induction l with
  | nil => simp
  | cons x l ih =>
    have h1 := h x List.mem_cons_self
    have h2 := ih fun y hy => h y (List.mem_cons_of_mem _ hy)
    rw [List.sum_cons, List.length_cons, Nat.succ_mul]
    have := Int.natAbs_add_le x l.sum
    omega
theorem lap_lt : ∀ {s : Nat} {M : List (List Int)}, SqM M s 200 → s ≤ 3 → (lap s M).natAbs ≤ 2 ^ (202 * s)
  | 0, M, _, _ => by simp [lap]
  | s + 1, M, h, h3 => by
    have each : ∀ x ∈ (List.range (s + 1)).map (fun j => sg j * mE M 0 j * lap s (offM M j)), x.natAbs ≤ 2 ^ (200 + 202 * s) := by
      intro x hx
      obtain ⟨j, hj, rfl⟩ := List.mem_map.mp hx
      have hj := List.mem_range.mp hj
      obtain ⟨_, _, _, _, r0⟩ := h.row (i := 0) (by omega)
      have h1 := (r0 j hj).2
      have h2 := lap_lt (off_sq h hj) (by omega)
      rw [Int.natAbs_mul, Int.natAbs_mul, sg_abs, Nat.one_mul, Nat.pow_add]
      exact Nat.mul_le_mul (Nat.le_of_lt h1) h2
    have := abs_sum each
    rw [List.length_map, List.length_range] at this
    refine Nat.le_trans this ?_
    have e : 2 ^ (202 * (s + 1)) = 4 * 2 ^ (200 + 202 * s) := by
      rw [show 202 * (s + 1) = 2 + (200 + 202 * s) by omega, Nat.pow_add]
    rw [e]
    exact Nat.mul_le_mul_right _ (by omega)
def spMin (m : Nat) : Sp := fun vs H Q _ => ∃ (p : Addr) (M : List (List Int)) (s : Nat), vs = [.ref p] ∧ IsTab H p M ∧ SqM M s 200 ∧ s < m ∧ s ≤ 3 ∧ ∀ H', Ex H H' → Q (.int (lap s M)) H'
theorem scMin : FnScope ["table", "total", "turn", "j", "corner", "line"] ["table"] (defScope (top 43)) := ⟨rfl, rfl, rfl, by decide +kernel, rfl, by decide +kernel, by decide +kernel⟩
theorem has_min0 (D : Df K mg "_minor" (top 43) ["table"]) : Has P w K mg base "_minor" 1 ["table"] (spMin 0) := by
  have sc := scMin
  refine .of D fun f fd F => F.ok sc (fun vs H Q E h => ?_) (fun cdv A outer s H vs Q E hr h => ?_)
  · obtain ⟨p, M, s, _, _, _, h, _⟩ := h
    omega
  · obtain ⟨p, M, s, _, _, _, h, _⟩ := h
    omega
theorem has_minS (B : Bi mg) {lv m : Nat} (h_minor : Has P w K mg base "_minor" lv ["table"] (spMin m)) (D : Df K mg "_minor" (top 43) ["table"]) : Has P w K mg base "_minor" (lv + 1) ["table"] (spMin (m + 1)) := by
  have sc := scMin
  refine .of D fun f fd F => F.ok sc (fun vs H Q E h => ?_) (fun cdv A outer s H vs Q E hr h => ?_)
  · obtain ⟨p, M, sz, rfl, _⟩ := h
    rfl
  · obtain ⟨p, M, sz, rfl, hT, hM, hm, h3, k⟩ := h
    refine ⟨_, (pss_cons (ps_if (pt_cmpR op_eq (pe_callB (kLen (K := K)) (by rfl) B.len (by decide +kernel) (pa_cons (pv 0) pa_nil)) pe_int (nomark _)) (pss_one (ps_ret pe_int)) pss_nil)
      (pss_cons (ps_set (i := 1) sc.nd rfl (by first | exact Or.inl rfl | exact Or.inr rfl) pe_int)
      (pss_cons (ps_set (i := 2) sc.nd rfl (by first | exact Or.inl rfl | exact Or.inr rfl) pe_int)
      (pss_cons (ps_for PassesOwn.never rfl (pi_enum (by rfl) B.enumerate (pa_cons (pe_ix (ixL (K := K)) (pv 0) pe_int (fun _ _ => rfl)) pa_nil)) (pg_tup rfl (pgs_cons (pg_name (i := 3) sc.nd rfl (by first | exact Or.inl rfl | exact Or.inr rfl)) (pgs_cons (pg_name (i := 4) sc.nd rfl (by first | exact Or.inl rfl | exact Or.inr rfl)) pgs_nil)))
      (pss_cons (ps_set (i := 1) sc.nd rfl (by first | exact Or.inl rfl | exact Or.inr rfl) (pe_op op_add (pv 1) (pe_op op_mulS (pe_op op_mulS (pv 2) (pv 4)) (pe_has h_minor (hr.mono (Nat.le_refl _)) (pa_cons (pe_lc (own := [("line", 5)]) (g := gName 5) (tt := tYes) rfl sc.nd (pi_list (pe_slice (slL (K := K)) (pv 0) (po_some pe_int) po_none)) (blkOk_by (N := (["table", "total", "turn", "j", "corner", "line"] : List Str)) (sc := defScope (top 43)) (by decide +kernel)) (fun _ _ _ _ _ => (pg_name (i := 5) sc.nd rfl (by first | exact Or.inl rfl | exact Or.inr rfl))) (fun _ _ _ _ _ => pts_nil) (fun _ _ _ _ _ => (PE.mon (pe_op op_catN (pe_slice (slL (K := K)) (pv 5) po_none (po_some (pv 3))) (pe_slice (slL (K := K)) (pv 5) (po_some (pe_op op_add (pv 3) pe_int)) po_none))))) pa_nil)))))
      (pss_one (ps_set (i := 2) sc.nd rfl (by first | exact Or.inl rfl | exact Or.inr rfl) (pe_un un_neg (pv 2))))))
      (pss_one (ps_ret (pv 1))))))), ?_⟩
    walk_at "rd"
    obtain ⟨xs, hp, hl, hx⟩ := id hT
    refine ⟨_, .inl (.of hp), ?_⟩
    rw [hl, hM.1]
    cases sz with
    | zero =>
      rw [if_pos (by omega)]
      exact k H (Ex.refl _)
    | succ s0 =>
      rw [if_neg (by omega)]
      obtain ⟨r0, hr0, rl0, _, rj0⟩ := hM.row (i := 0) (by omega)
      obtain ⟨a0, ha0, hL0⟩ := hx 0 r0 hr0
      rw [r_enumL]
      walk_at "rd"
      refine q_ixL (.of hp) (at_of (j := 0) (by simp [ixN]) ha0) ?_
      refine ⟨a0, rfl, ⟨_, .of hL0⟩, ?_⟩
      obtain ⟨Pv, hP⟩ : ∃ P : Nat → L2.St → Hp → Prop, P = fun (j : Nat) σ' G => Ex H G ∧ ∃ (z3 z4 z5 : Option V), σ' = [some (.ref p), some (.int ((List.range j).map fun j => sg j * mE M 0 j * lap s0 (offM M j)).sum), some (.int (sg j)), z3, z4, z5] := ⟨_, rfl⟩
      refine loopEl (xs := r0.map V.int) Pv (by rw [hP]; exact ⟨Ex.refl _, _, _, _, rfl⟩) (fun i σ' G _ h => by rw [hP] at h; exact .of (h.1 _ _ hL0)) ?_ ?_
      · intro j x σ' G T G' hx0 h eG hT'
        rw [hP] at h
        obtain ⟨e1, z3, z4, z5, rfl⟩ := h
        have hj : j < s0 + 1 := by
          have := (List.getElem?_eq_some_iff.mp hx0).1
          rw [List.length_map] at this
          omega
        rw [List.getElem?_map, (rj0 j hj).1] at hx0
        cases hx0
        walk_at "rd"
        refine ⟨_, .of hT', rfl, ?_⟩
        walk_at "rd"
        have b1 : (sg j).natAbs < 2 ^ 1 := by rw [sg_abs]; decide
        have b2 := (rj0 j hj).2
        refine ⟨cmul 1 200 b1 b2, ?_⟩
        have hpG := (e1.trans eG) _ _ hp
        refine ⟨p, _, rfl, .of hpG, fun q G2 n2 e2 t2 => ?_⟩
        rw [show (1 : Int) = ((1 : Nat) : Int) from rfl, cut_drop] at t2
        have e12 := (e1.trans eG).trans e2
        have xl : xs.length = s0 + 1 := by rw [hl, hM.1]
        refine ⟨q, rfl, ⟨_, .of t2⟩, fun Dd hD => lcLb (rowF Dd fun i => (M.getD (i + 1) []).take j ++ (M.getD (i + 1) []).drop (j + 1)) rowF_but hD (.of t2) (by rw [List.length_drop]; omega) (fun _ => rfl) ?_ ?_⟩
        · intro i y G3 hy e3 ⟨acc, hacc⟩
          rw [List.getElem?_drop] at hy
          have hi : 1 + i < s0 + 1 := by have := (List.getElem?_eq_some_iff.mp hy).1; omega
          obtain ⟨r, hr1, rl, _, _⟩ := hM.row (i := 1 + i) hi
          obtain ⟨a, ha, hL⟩ := hx _ r hr1
          rw [ha] at hy
          cases hy
          have eg : M.getD (i + 1) [] = r := by rw [List.getD_eq_getElem?_getD, show i + 1 = 1 + i by omega, hr1]; rfl
          obtain ⟨R0, hR⟩ : ∃ R : VK, R = fun y G' => Ex G3 G' ∧ rowF Dd (fun i => (M.getD (i + 1) []).take j ++ (M.getD (i + 1) []).drop (j + 1)) i y G' := ⟨_, rfl⟩
          refine ⟨R0, ?_, fun y G' h => by rw [hR] at h; exact h⟩
          walk_at "rd"
          have hL3 := e3 _ _ (e12 _ _ hL)
          refine ⟨a, _, rfl, .of hL3, fun q1 G4 n4 e4 t4 => ?_⟩
          refine ⟨a, _, rfl, .of (e4 _ _ hL3), fun q2 G5 n5 e5 t5 => ?_⟩
          rw [cut_take] at t4
          rw [show (j : Int) + 1 = ((j + 1 : Nat) : Int) by omega, cut_drop] at t5
          have lr1 : (r.map V.int).length = s0 + 1 := by rw [List.length_map, rl]
          refine ⟨q1, q2, _, _, rfl, rfl, e5 _ _ t4, t5, Nat.le_trans (show _ ≤ 1000000 by rw [List.length_take, List.length_drop]; omega) (by decide), fun q3 G6 n6 e6 t6 => ?_⟩
          rw [hR]
          refine ⟨(e4.trans e5).trans e6, q3, rfl, (fun z => by rw [z, ((e4.trans e5)) _ _ hacc] at n6; cases n6), ?_⟩
          rw [t6, ← List.map_take, ← List.map_drop, ← List.map_append]
          show _ = some (HO.lst (((M.getD (i + 1) []).take j ++ (M.getD (i + 1) []).drop (j + 1)).map V.int))
          rw [eg]
        · intro G3 ys e3 hy hly hr3
          have tt := tab_of hy hly hr3
          have eo : ((List.range (xs.drop 1).length).map fun i => (M.getD (i + 1) []).take j ++ (M.getD (i + 1) []).drop (j + 1)) = offM M j := by
            unfold offM
            apply List.ext_getElem?
            intro q
            by_cases hq : q + 1 < s0 + 1
            · obtain ⟨r, hr1, _⟩ := hM.row (i := 1 + q) (by omega)
              rw [List.getElem?_map, List.getElem?_map, List.getElem?_drop, List.getElem?_range (by rw [List.length_drop]; omega), hr1]
              simp only [Option.map_some]
              rw [List.getD_eq_getElem?_getD, show q + 1 = 1 + q by omega, hr1]
              rfl
            · rw [List.getElem?_eq_none (by simp; omega), List.getElem?_eq_none (by simp [hM.1]; omega)]
          rw [eo] at tt
          refine ⟨Dd, _, s0, rfl, tt, off_sq hM hj, by omega, by omega, fun G4 e4 => ?_⟩
          walk_at "rd"
          have b3 := lap_lt (off_sq hM hj) (by omega)
          refine ⟨cmul 201 607 (wide_lt (a := 1) (b := 200) b1 b2) (Nat.lt_of_le_of_lt b3 (Nat.pow_lt_pow_right (by decide) (by omega))), ?_⟩
          walk_at "rd"
          rw [hP]
          refine ⟨((e12.trans e3).trans e4), some (.int (j : Int)), some (.int (mE M 0 j)), z5, ?_⟩
          rw [List.range_succ, List.map_append, isum_app]
          simp only [List.map_cons, List.map_nil, List.sum_cons, List.sum_nil, Int.add_zero]
          rw [sg_succ]
      · intro σ' G h
        rw [hP] at h
        obtain ⟨e1, z3, z4, z5, rfl⟩ := h
        walk_at "rd"
        have := k G e1
        rw [List.length_map, rl0]
        unfold lap at this
        exact this
def natsV (l : List Nat) : List V := l.map fun i : Nat => V.int (i : Int)
def nxt (l : List Nat) : Nat := if l.isEmpty then 0 else l.getLastD 0 + 1
def ext (s : Nat) (l : List Nat) : List (List Nat) := (List.range (s - nxt l)).map fun j => l ++ [nxt l + j]
def chF (s : Nat) : Nat → List (List Nat)
  | 0 => [[]]
  | m + 1 => (chF s m).flatMap (ext s)
def AccT (H : Hp) (acc : List V) (L : List (List Nat)) : Prop := acc.length = L.length ∧ ∀ (i : Nat) l, L[i]? = some l → ∃ a, acc[i]? = some (.ref a) ∧ H a = some (.tup (natsV l))
theorem AccT.ex {H H' : Hp} {acc : List V} {L : List (List Nat)} (h : AccT H acc L) (e : ∀ a xs, H a = some (.tup xs) → H' a = some (.tup xs)) : AccT H' acc L :=
  ⟨h.1, fun i l hi => by
    obtain ⟨a, h1, h2⟩ := h.2 i l hi
    exact ⟨a, h1, e _ _ h2⟩⟩
theorem AccT.snoc {H : Hp} {acc : List V} {L : List (List Nat)} {l : List Nat} {a : Addr} (h : AccT H acc L) (ha : H a = some (.tup (natsV l))) : AccT H (acc ++ [.ref a]) (L ++ [l]) := by
  refine ⟨by simp [h.1], fun i l' hi => ?_⟩
  by_cases hlt : i < L.length
  · rw [List.getElem?_append_left hlt] at hi
    rw [List.getElem?_append_left (by rw [h.1]; exact hlt)]
    exact h.2 i l' hi
  · rw [List.getElem?_append_right (by omega)] at hi
    have : i - L.length = 0 := by
      have := (List.getElem?_eq_some_iff.mp hi).1
      simp at this
      omega
    rw [this] at hi
    cases hi
    refine ⟨a, ?_, ha⟩
    rw [List.getElem?_append_right (by rw [h.1]; omega), h.1, this]
    rfl
def IsLT (H : Hp) (p : Addr) (L : List (List Nat)) : Prop := ∃ acc, H p = some (.lst acc) ∧ AccT H acc L
theorem ch_small : ∀ s < 4, ∀ m < 4, (chF s m).length ≤ 3 ∧ ∀ l ∈ chF s m, l.length = m ∧ ∀ i ∈ l, i < s := by decide +kernel
theorem ext_len (s : Nat) : ∀ L : List (List Nat), (L.flatMap (ext s)).length ≤ L.length * s
  | [] => by simp
  | l :: L => by
    have := ext_len s L
    rw [List.flatMap_cons, List.length_append, List.length_cons, Nat.succ_mul]
    have : (ext s l).length ≤ s := by simp [ext]
    omega
def spChoices : Sp := fun vs H Q _ => ∃ (s m : Nat), vs = [.int (s : Int), .int (m : Int)] ∧ s < 4 ∧ m < 4 ∧ ∀ p H', Ex H H' → H p = none → IsLT H' p (chF s m) → Q (.ref p) H'
theorem ex_free {H H' : Hp} {a : Addr} (e : Ex H H') (n : H' a = none) : H a = none := by
  cases h : H a with
  | none => rfl
  | some o => rw [e _ _ h] at n; cases n
theorem scChoices : FnScope ["most", "many", "found", "_", "some", "at"] ["most", "many"] (defScope (top 39)) := ⟨rfl, rfl, rfl, by decide +kernel, rfl, by decide +kernel, by decide +kernel⟩
theorem has_choices (B : Bi mg) (D : Df K mg "choices" (top 39) ["most", "many"]) : Has P w K mg base "choices" 1 ["most", "many"] spChoices := by
  have sc := scChoices
  refine .of D fun f fd F => F.ok sc (fun vs H Q E h => ?_) (fun cdv A outer s H vs Q E hr h => ?_)
  · obtain ⟨s, m, rfl, _⟩ := h
    rfl
  · obtain ⟨sz, m, rfl, hs, hm, k⟩ := h
    refine ⟨_, (pss_cons (ps_set (i := 2) sc.nd rfl (by first | exact Or.inl rfl | exact Or.inr rfl) (pe_lstN (pa_cons (pe_tupN pa_nil) pa_nil)))
      (pss_cons (ps_for PassesOwn.never rfl (pi_range1 (by rfl) B.range (pa_cons (pv 1) pa_nil)) (pg_name (i := 3) sc.nd rfl (by first | exact Or.inl rfl | exact Or.inr rfl))
      (pss_one (ps_setLc2 (i := 2) (own := [("some", 4), ("at", 5)]) (vs1 := [5]) (g := gName 4) (g1 := gName 5) (tt := tYes) (tt1 := tYes) rfl sc.nd rfl rfl (sw_true rfl rfl rfl (by decide +kernel)) (pi_list (pv 2)) (blkOk_by (N := (["most", "many", "found", "_", "some", "at"] : List Str)) (sc := defScope (top 39)) (by decide +kernel)) (by decide) (fun _ _ _ _ _ => (pg_name (i := 4) sc.nd rfl (by first | exact Or.inl rfl | exact Or.inr rfl))) (fun _ _ _ _ _ => pts_nil) (fun _ _ _ _ _ => (pi_range2 (by rfl) B.range (pa_cons (PE.mon (pe_ifExp (pt_truT (K := K) (pv 4) (by intro _; rfl)) (pe_op op_add (pe_ix (ixT (K := K)) (pv 4) (pe_un un_neg pe_int) (fun _ _ => rfl)) pe_int) pe_int)) (pa_cons (pv 0) pa_nil)))) (fun _ _ _ _ _ => (pg_name (i := 5) sc.nd rfl (by first | exact Or.inl rfl | exact Or.inr rfl))) (fun _ _ _ _ _ => pts_nil) (fun _ _ _ _ _ => (pe_tupN (kStar (K := K) (pv 4) (pa_cons (pv 5) pa_nil)))))))
      (pss_one (ps_ret (pv 2))))), ?_⟩
    walk_at "rd"
    refine ⟨by decide, fun T0 G0 n0 e0 t0 => ⟨by decide, fun F0 G1 n1 e1 t1 => ⟨by omega, by omega, ?_⟩⟩⟩
    obtain ⟨Pv, hP⟩ : ∃ P : Nat → L2.St → Hp → Prop, P = fun (j : Nat) σ' G => Ex H G ∧ ∃ (fp : Addr) (z3 z4 z5 : Option V), σ' = [some (.int (sz : Int)), some (.int (m : Int)), some (.ref fp), z3, z4, z5] ∧ H fp = none ∧ IsLT G fp (chF sz j) := ⟨_, rfl⟩
    refine loopR Pv (by
      rw [hP]
      refine ⟨e0.trans e1, _, _, _, _, rfl, ex_free e0 n1, _, t1, rfl, fun i l hi => ?_⟩
      cases i with
      | zero => cases hi; exact ⟨T0, rfl, e1 _ _ t0⟩
      | succ i => simp [chF] at hi) ?_ ?_
    · intro j σ' G hj h
      rw [hP] at h
      obtain ⟨eG, fp, z3, z4, z5, rfl, _, xs, hfp, hA⟩ := h
      have hj : j < m := by omega
      obtain ⟨csz, cin⟩ := ch_small sz hs j (by omega)
      walk_at "rd"
      rw [r_lc2]
      walk_at "rd"
      refine ⟨⟨_, .of hfp⟩, fun Dd hD => ?_⟩
      obtain ⟨Wv, hW⟩ : ∃ W : Nat → Hp → Prop, W = fun (i : Nat) G' => Ex G G' ∧ ∃ acc, G' Dd = some (.lst acc) ∧ AccT G' acc (((chF sz j).take i).flatMap (ext sz)) := ⟨_, rfl⟩
      have eW : ∀ {G' : Hp} {ys : List V}, Ex G G' → Ex G (upd G' Dd (.lst ys)) := fun {G' ys} e x o hx => by
        rw [upd_ne (ne_of_none hx hD)]
        exact e _ _ hx
      refine lc2_it (walk_list (xs := xs)) Wv (by rw [hW]; exact ⟨eW (Ex.refl _), [], upd_same, rfl, fun i l hi => by simp at hi⟩) (fun i G' _ h => by rw [hW] at h; exact .of (h.1 _ _ hfp)) ?_ ?_
      · intro i x G' G'' hi h y
        rw [hW] at h
        obtain ⟨e1, acc, hacc, hT⟩ := h
        obtain ⟨rfl, hx⟩ := y
        have hi2 : i < (chF sz j).length := by rw [← hA.1]; exact hi
        obtain ⟨a, ha, hLa⟩ := hA.2 i _ (List.getElem?_eq_getElem hi2)
        obtain ⟨l, hl⟩ : ∃ l, l = (chF sz j)[i] := ⟨_, rfl⟩
        rw [← hl] at hLa
        obtain ⟨llen, lin⟩ := cin l (by rw [hl]; exact List.getElem_mem hi2)
        rw [ha] at hx
        cases hx
        have etk : (chF sz j).take (i + 1) = (chF sz j).take i ++ [l] := by rw [List.take_add_one, List.getElem?_eq_getElem hi2, hl]; rfl
        walk_at "rd"
        have hLa1 := e1 _ _ hLa
        obtain ⟨R0, hR⟩ : ∃ R : VK, R = fun y Gq => y = .int (nxt l : Int) ∧ Gq = G'' := ⟨_, rfl⟩
        refine ⟨R0, ⟨_, rfl, a, rfl, _, .of hLa1, ?_⟩, ?_⟩
        · cases hl0 : l with
          | nil =>
            rw [if_neg (by simp [natsV, hl0])]
            rw [hR]
            exact ⟨by rw [hl0]; rfl, rfl⟩
          | cons x0 l0 =>
            rw [if_pos (by simp [natsV, hl0])]
            walk_at "rd"
            have e9 : atI (natsV l) (-1) = some (.int ((l.getLastD 0 : Nat) : Int)) := by
              unfold atI natsV
              have : ixN (l.map fun i : Nat => V.int (i : Int)).length (-1) = some (l.length - 1) := by
                unfold ixN
                rw [if_neg (by decide), List.length_map, if_pos (by rw [hl0]; simp; omega)]
                congr 1
                rw [hl0]
                simp
                omega
              rw [this]
              show ((l.map fun i : Nat => V.int (i : Int))[l.length - 1]?) = _
              rw [List.getElem?_map, ← List.getLast?_eq_getElem?, hl0]
              simp [List.getLastD_eq_getLast?, List.getLast?_cons]
            refine q_ixT (.of hLa1) e9 ?_
            walk_at "rd"
            rw [hR]
            refine ⟨?_, rfl⟩
            unfold nxt
            rw [hl0]
            rfl
        · intro y Gq hy
          rw [hR] at hy
          obtain ⟨rfl, rfl⟩ := hy
          have nx1 : nxt l ≤ 4 := by
            unfold nxt
            split
            · omega
            · rename_i h0
              cases hl0 : l with
              | nil => rw [hl0] at h0; simp at h0
              | cons x0 l0 =>
                have : l.getLastD 0 ∈ l := by rw [hl0, List.getLastD_eq_getLast?, List.getLast?_eq_some_getLast (by simp)]; exact List.getLast_mem _
                have := lin _ this
                rw [← hl0]
                omega
          walk_at "rd"
          refine ⟨by omega, by omega, by omega, by omega, ?_⟩
          obtain ⟨Uv, hU⟩ : ∃ U : Nat → Hp → Prop, U = fun (q : Nat) G' => Ex G G' ∧ ∃ acc, G' Dd = some (.lst acc) ∧ AccT G' acc (((chF sz j).take i).flatMap (ext sz) ++ (ext sz l).take q) := ⟨_, rfl⟩
          refine lc2_in (walk_range) Uv (by rw [hU]; exact ⟨e1, acc, hacc, by rw [List.take_zero, List.append_nil]; exact hT⟩) (fun _ _ _ _ => trivial) ?_ ?_
          · intro q x G3 G4 hq h y
            rw [hU] at h
            obtain ⟨e3, acc3, hacc3, hT3⟩ := h
            obtain ⟨rfl, rfl⟩ := y
            have hq2 : q < sz - nxt l := by omega
            walk_at "rd"
            rw [r_star]
            walk_at "rd"
            have bl := ext_len sz ((chF sz j).take i)
            have bt : ((chF sz j).take i).length ≤ 3 := by rw [List.length_take]; omega
            have bm : ((chF sz j).take i).length * sz ≤ 3 * 3 := Nat.mul_le_mul bt (by omega)
            have ba : acc3.length ≤ 100 := by
              rw [hT3.1, List.length_append, List.length_take]
              omega
            refine ⟨natsV l, .inl (.of (e3 _ _ hLa)), Nat.le_trans (show _ ≤ 1000 by simp [natsV]; omega) (by decide), fun T G5 n5 e5 t5 => ⟨acc3, e5 _ _ hacc3, Nat.lt_of_lt_of_le (show _ < 1000 by omega) (by decide), ?_⟩⟩
            rw [hU]
            refine ⟨eW (e3.trans e5), _, upd_same, ?_⟩
            have TD : T ≠ Dd := fun z => by rw [z, hacc3] at n5; cases n5
            have ext1 : (ext sz l).take (q + 1) = (ext sz l).take q ++ [l ++ [nxt l + q]] := by
              rw [List.take_add_one]
              unfold ext
              rw [List.getElem?_map, List.getElem?_range hq2]
              rfl
            rw [ext1, ← List.append_assoc]
            refine AccT.snoc (hT3.ex fun b ys hb => ?_) ?_
            · have bD : b ≠ Dd := fun z => by rw [z, hacc3] at hb; cases hb
              rw [upd_ne bD]
              exact e5 _ _ hb
            · rw [upd_ne TD, t5]
              simp [natsV]
          · intro G3 h
            rw [hU] at h
            obtain ⟨e3, acc3, hacc3, hT3⟩ := h
            rw [hW]
            refine ⟨e3, acc3, hacc3, ?_⟩
            rw [etk, List.flatMap_append]
            have : (ext sz l).take ((sz : Int) - (nxt l : Int)).toNat = ext sz l := by
              apply List.take_of_length_le
              simp [ext]
            rw [this] at hT3
            simpa using hT3
      · intro G' h
        rw [hW] at h
        obtain ⟨e1, acc, hacc, hT⟩ := h
        walk_at "rd"
        rw [hP]
        refine ⟨eG.trans e1, Dd, _, _, _, rfl, ex_free eG hD, acc, hacc, ?_⟩
        rw [hA.1, List.take_length] at hT
        exact hT
    · intro σ' G h
      rw [hP] at h
      obtain ⟨eG, fp, z3, z4, z5, rfl, nfp, hL⟩ := h
      walk_at "rd"
      exact k fp G eG nfp (by simpa using hL)
def neverB (M : List (List Int)) (s : Nat) : Bool := (List.range s).all fun m => (chF s (m + 1)).all fun l => decide (0 ≤ lap (m + 1) (subM M l))
def tstB (M : List (List Int)) (m : Nat) (l : List Nat) : Bool := decide (0 ≤ lap m (subM M l))
def bsF (M : List (List Int)) (s i : Nat) : List Bool := (List.range i).flatMap fun m => (chF s (m + 1)).map (tstB M (m + 1))
theorem bs_all (M : List (List Int)) (s : Nat) : (bsF M s s).all id = neverB M s := by
  unfold bsF neverB
  rw [List.all_flatMap]
  congr 1
  funext m
  rw [List.all_map]
  rfl
theorem bs_len (M : List (List Int)) {s i : Nat} (hs : s < 4) (hi : i ≤ 3) : (bsF M s i).length ≤ 3 * i := by
  induction i with
  | zero => simp [bsF]
  | succ i ih =>
    have := ih (by omega)
    have e : bsF M s (i + 1) = bsF M s i ++ (chF s (i + 1)).map (tstB M (i + 1)) := by
      unfold bsF
      rw [List.range_succ, List.flatMap_append]
      simp
    have c := (ch_small s hs (i + 1) (by omega)).1
    rw [e, List.length_append, List.length_map]
    omega
def spNever : Sp := fun vs H Q _ => ∃ (p : Addr) (M : List (List Int)) (s : Nat), vs = [.ref p] ∧ IsTab H p M ∧ SqM M s 200 ∧ s ≤ 3 ∧ ∀ H', Ex H H' → Q (.bl (neverB M s)) H'
theorem scNever : FnScope ["table", "size", "j", "i", "many", "some"] ["table"] (defScope (top 42)) := ⟨rfl, rfl, rfl, by decide +kernel, rfl, by decide +kernel, by decide +kernel⟩
theorem has_never (B : Bi mg) (h_minor : Has P w K mg base "_minor" 5 ["table"] (spMin 4)) (hchoices : Has P w K mg base "choices" 1 ["most", "many"] spChoices) (D : Df K mg "_never_below" (top 42) ["table"]) : Has P w K mg base "_never_below" 6 ["table"] spNever := by
  have sc := scNever
  refine .of D fun f fd F => F.ok sc (fun vs H Q E h => ?_) (fun cdv A outer s H vs Q E hr h => ?_)
  · obtain ⟨p, M, s, rfl, _⟩ := h
    rfl
  · obtain ⟨p, M, sz, rfl, hT, hM, h3, k⟩ := h
    refine ⟨_, (pss_cons (ps_set (i := 1) sc.nd rfl (by first | exact Or.inl rfl | exact Or.inr rfl) (pe_callB (kLen (K := K)) (by rfl) B.len (by decide +kernel) (pa_cons (pv 0) pa_nil)))
      (pss_one (ps_ret (pe_callB (kAll (K := K) rfl) (by rfl) B.all (by decide +kernel) (pa_cons (pe_lc2 (own := [("many", 4), ("some", 5)]) (vs1 := [5]) (g := gName 4) (g1 := gName 5) (tt := tYes) (tt1 := tYes) rfl sc.nd (pi_range2 (by rfl) B.range (pa_cons pe_int (pa_cons (pe_op op_add (pv 1) pe_int) pa_nil))) (blkOk_by (N := (["table", "size", "j", "i", "many", "some"] : List Str)) (sc := defScope (top 42)) (by decide +kernel)) (by decide) (fun _ _ _ _ _ => (pg_name (i := 4) sc.nd rfl (by first | exact Or.inl rfl | exact Or.inr rfl))) (fun _ _ _ _ _ => pts_nil) (fun _ _ _ _ _ => (kPiL (K := K) (pe_has hchoices (hr.mono (by decide)) (pa_cons (pv 1) (pa_cons (pv 4) pa_nil))))) (fun _ _ _ _ _ => (pg_name (i := 5) sc.nd rfl (by first | exact Or.inl rfl | exact Or.inr rfl))) (fun _ _ _ _ _ => pts_nil) (fun _ _ _ _ _ => (pe_cmpR op_ge (pe_has h_minor (hr.mono (by decide)) (pa_cons (pe_lc (own := [("i", 3)]) (g := gName 3) (tt := tYes) rfl sc.nd (kPiT (K := K) (pv 5)) (blkOk_by (by kernel_rfl)) (fun _ _ _ _ _ => (pg_name (i := 3) sc.nd rfl (by first | exact Or.inl rfl | exact Or.inr rfl))) (fun _ _ _ _ _ => pts_nil) (fun _ _ _ _ _ => (PE.mon (pe_lc (own := [("j", 2)]) (g := gName 2) (tt := tYes) rfl sc.nd (kPiT (K := K) (pv 5)) (blkOk_by (by kernel_rfl)) (fun _ _ _ _ _ => (pg_name (i := 2) sc.nd rfl (by first | exact Or.inl rfl | exact Or.inr rfl))) (fun _ _ _ _ _ => pts_nil) (fun _ _ _ _ _ => (PE.mon (pe_ix (ixL (K := K)) (pe_ix (ixL (K := K)) (pv 0) (pv 3) (fun _ _ => rfl)) (pv 2) (fun _ _ => rfl)))))))) pa_nil)) pe_int (nomark _)))) pa_nil))))), ?_⟩
    walk_at "rd"
    obtain ⟨xs, hp, hl, hx⟩ := id hT
    refine ⟨xs, .inl (.of hp), ?_⟩
    rw [hl, hM.1, r_lc2]
    walk_at "rd"
    refine ⟨by decide, by decide, by omega, by omega, fun Dd hD => ?_⟩
    obtain ⟨Wv, hW⟩ : ∃ W : Nat → Hp → Prop, W = fun (i : Nat) G' => Ex H G' ∧ G' Dd = some (.lst ((bsF M sz i).map V.bl)) := ⟨_, rfl⟩
    have eW : ∀ {G' : Hp} {ys : List V}, Ex H G' → Ex H (upd G' Dd (.lst ys)) := fun {G' ys} e x o hx => by
      rw [upd_ne (ne_of_none hx hD)]
      exact e _ _ hx
    refine lc2_it walk_range Wv (by rw [hW]; exact ⟨eW (Ex.refl _), upd_same⟩) (fun _ _ _ _ => trivial) ?_ ?_
    · intro i x G' G'' hi h y
      rw [hW] at h
      obtain ⟨e1, hacc⟩ := h
      obtain ⟨rfl, rfl⟩ := y
      have hi : i < sz := by omega
      walk_at "rd"
      refine ⟨sz, i + 1, by congr 3; omega, by omega, by omega, fun cp G2 e2 ncp ⟨cl, hcp, hA⟩ => ⟨cp, rfl, ⟨_, .of hcp⟩, ?_⟩⟩
      obtain ⟨csz, cin⟩ := ch_small sz (by omega) (i + 1) (by omega)
      obtain ⟨Uv, hU⟩ : ∃ U : Nat → Hp → Prop, U = fun (q : Nat) G' => Ex H G' ∧ (∀ b o, b ≠ Dd → G2 b = some o → G' b = some o) ∧ G' Dd = some (.lst ((bsF M sz i ++ ((chF sz (i + 1)).take q).map (tstB M (i + 1))).map V.bl)) := ⟨_, rfl⟩
      have D2 := e2 _ _ hacc
      have cpD : cp ≠ Dd := fun z => by rw [z, hacc] at ncp; cases ncp
      refine lc2_in (walk_list (xs := cl)) Uv (by rw [hU]; exact ⟨e1.trans e2, fun _ _ _ h => h, by rw [D2]; simp⟩) (fun q G' _ h => by rw [hU] at h; exact .of (h.2.1 _ _ cpD hcp)) ?_ ?_
      · intro q x G3 G4 hq h y
        rw [hU] at h
        obtain ⟨e3, e23, hacc3⟩ := h
        obtain ⟨rfl, hx0⟩ := y
        have hq2 : q < (chF sz (i + 1)).length := by rw [← hA.1]; exact hq
        obtain ⟨a, ha, hLa⟩ := hA.2 q _ (List.getElem?_eq_getElem hq2)
        obtain ⟨l, hl0⟩ : ∃ l, l = (chF sz (i + 1))[q] := ⟨_, rfl⟩
        rw [← hl0] at hLa
        obtain ⟨llen, lin⟩ := cin l (by rw [hl0]; exact List.getElem_mem hq2)
        rw [ha] at hx0
        cases hx0
        have etk : (chF sz (i + 1)).take (q + 1) = (chF sz (i + 1)).take q ++ [l] := by rw [List.take_add_one, List.getElem?_eq_getElem hq2, hl0]; rfl
        have hLa4 := e23 _ _ (fun z => by rw [z, D2] at hLa; cases hLa) hLa
        walk_at "rd"
        have getl : ∀ {i : Nat} {x : V}, (natsV l)[i]? = some x → ∃ j, l[i]? = some j ∧ x = .int (j : Int) ∧ j < sz := by
          intro i x hx
          unfold natsV at hx
          rw [List.getElem?_map] at hx
          cases hq : l[i]? with
          | none => rw [hq] at hx; cases hx
          | some j =>
            rw [hq] at hx
            cases hx
            exact ⟨j, rfl, rfl, lin j (List.mem_of_getElem? hq)⟩
        have nl : (natsV l).length = l.length := by simp [natsV]
        have hT4 := hT.ex e3
        refine ⟨⟨_, .of hLa4⟩, fun Dq hDq => lcTb (rowF Dq fun i => l.map fun j => mE M (l.getD i 0) j) rowF_but hDq (.of hLa4) (by omega) (fun _ => rfl) ?_ ?_⟩
        · intro i1 x G5 hx1 e5 ⟨acc, hacc5⟩
          obtain ⟨li, hli, rfl, lis⟩ := getl hx1
          obtain ⟨R0, hR⟩ : ∃ R : VK, R = fun y G' => Ex G5 G' ∧ rowF Dq (fun i => l.map fun j => mE M (l.getD i 0) j) i1 y G' := ⟨_, rfl⟩
          refine ⟨R0, ?_, fun y G' h => by rw [hR] at h; exact h⟩
          walk_at "rd"
          refine ⟨⟨_, .of (e5 _ _ hLa4)⟩, fun D6 hD6 => lcTn (fun i y _ => ∃ lj, l[i]? = some lj ∧ y = .int (mE M li lj)) (fun _ _ _ _ _ h => h) hD6 (.of (e5 _ _ hLa4)) (by omega) (fun _ => rfl) ?_ ?_⟩
          · intro j x2 G6 hx2 e6
            obtain ⟨lj, hlj, rfl, ljs⟩ := getl hx2
            obtain ⟨R1, hR1⟩ : ∃ R : VK, R = fun y G' => G' = G6 ∧ y = .int (mE M li lj) := ⟨_, rfl⟩
            refine ⟨R1, ?_, fun y G' h => by rw [hR1] at h; obtain ⟨rfl, h⟩ := h; exact ⟨Ex.refl _, lj, hlj, h⟩⟩
            walk_at "rd"
            refine q_ixTab (hT4.ex (e5.trans e6)) hM lis fun a ha => ?_
            refine ha lj ljs _ _ (Ex.refl _) ?_
            rw [hR1]
            exact ⟨rfl, rfl⟩
          · intro G6 ys e6 hy hl2 hr2
            rw [hR]
            refine ⟨e6, D6, rfl, fun z => ?_, ?_⟩
            · rw [z, hacc5] at hD6
              cases hD6
            · have ey : ys = (l.map fun j => mE M li j).map V.int := by
                apply List.ext_getElem?
                intro q
                by_cases hq : q < ys.length
                · obtain ⟨lj, h1, h2⟩ := hr2 q _ (List.getElem?_eq_getElem hq)
                  rw [List.getElem?_eq_getElem hq, h2, List.getElem?_map, List.getElem?_map, h1]
                  rfl
                · rw [List.getElem?_eq_none (by omega), List.getElem?_eq_none (by simp; omega)]
              rw [hy, ey]
              have : l.getD i1 0 = li := by rw [List.getD_eq_getElem?_getD, hli]; rfl
              show _ = some (HO.lst (((l.map fun j => mE M (l.getD i1 0) j)).map V.int))
              rw [this]
        · intro G5 ys e5 hy hly hr5
          have tt := tab_of hy hly hr5
          have es : ((List.range (natsV l).length).map fun i => l.map fun j => mE M (l.getD i 0) j) = subM M l := by
            unfold subM
            apply List.ext_getElem?
            intro q
            by_cases hq : q < l.length
            · rw [List.getElem?_map, List.getElem?_map, List.getElem?_range (by omega), List.getElem?_eq_getElem hq]
              simp only [Option.map_some]
              rw [List.getD_eq_getElem?_getD, List.getElem?_eq_getElem hq]
              rfl
            · rw [List.getElem?_eq_none (by simp; omega), List.getElem?_eq_none (by simp; omega)]
          rw [es] at tt
          have sq := sub_sq hM lin
          rw [llen] at sq
          refine ⟨Dq, _, i + 1, rfl, tt, sq, by omega, by omega, fun G6 e6 => ?_⟩
          walk_at "rd"
          have bl := bs_len M (s := sz) (i := i) (by omega) (by omega)
          refine ⟨_, e6 _ _ (e5 _ _ hacc3), Nat.lt_of_lt_of_le (show _ < 1000 by simp; omega) (by decide), ?_⟩
          rw [hU]
          have e56 := e5.trans e6
          refine ⟨eW (e3.trans e56), fun b o hbD hb => ?_, ?_⟩
          · rw [upd_ne hbD]
            exact e56 _ _ (e23 _ _ hbD hb)
          · rw [upd_same, etk]
            simp [tstB]
      · intro G3 h
        rw [hU] at h
        obtain ⟨e3, e23, hacc3⟩ := h
        rw [hW]
        refine ⟨e3, ?_⟩
        rw [hacc3, hA.1, List.take_length]
        have : bsF M sz (i + 1) = bsF M sz i ++ (chF sz (i + 1)).map (tstB M (i + 1)) := by
          unfold bsF
          rw [List.range_succ, List.flatMap_append]
          simp
        rw [this]
    · intro G' h
      rw [hW] at h
      obtain ⟨e1, hacc⟩ := h
      refine ⟨Dd, bsF M sz sz, rfl, .of ?_, ?_⟩
      · rw [show ((sz : Int) + 1 - 1).toNat = sz by omega] at hacc
        exact hacc
      · rw [bs_all]
        exact k _ e1
def alwB (cs : List Int) (n : Nat) : Bool := neverB (genT (n / 2 + 1) (nearF (yesF cs) n)) (n / 2 + 1) && neverB (genT (farS n) (farF (yesF cs) n)) (farS n)
theorem genT_congr {s : Nat} {f g : Nat → Nat → Int} (h : ∀ i < s, ∀ j < s, f i j = g i j) : genT s f = genT s g := by
  unfold genT
  apply List.map_congr_left
  intro i hi
  apply List.map_congr_left
  intro j hj
  exact h i (List.mem_range.mp hi) j (List.mem_range.mp hj)
theorem yes_le {cs : List Int} {n j : Nat} (h : NumL cs (n + 1) (2 ^ 110)) (hn : n < 6) (hj : j ≤ n) : 0 ≤ yesF cs j ∧ yesF cs j ≤ 2 ^ 130 := by
  obtain ⟨w0, w1⟩ := way_le h hn hj
  have f1 := fac_le j (by omega)
  have f2 := fac_le (cs.length - 1 - j) (by have := h.1; omega)
  unfold yesF
  have h1 : wayS cs j * ((Builtin.Math.factorialNat j : Nat) : Int) ≤ (60 * 2 ^ 110) * 120 := Int.mul_le_mul w1 (by omega) (by omega) (by decide)
  have h0 : 0 ≤ wayS cs j * ((Builtin.Math.factorialNat j : Nat) : Int) := Int.mul_nonneg w0 (by omega)
  have h2 : wayS cs j * ((Builtin.Math.factorialNat j : Nat) : Int) * ((Builtin.Math.factorialNat (cs.length - 1 - j) : Nat) : Int) ≤ ((60 * 2 ^ 110) * 120) * 120 := Int.mul_le_mul h1 (by omega) (by omega) (by decide)
  exact ⟨Int.mul_nonneg h0 (by omega), by omega⟩
theorem near_sy {cs : List Int} {n : Nat} (h : NumL cs (n + 1) (2 ^ 110)) (hn : n < 6) (n1 : 1 ≤ n) : ∀ i < n / 2 + 1, ∀ j < n / 2 + 1, (nearF (yesF cs) n i j).natAbs < 2 ^ 200 := by
  intro i hi j hj
  have b : (2 : Nat) ^ 131 ≤ 2 ^ 200 := Nat.pow_le_pow_right (by decide) (by decide)
  unfold nearF
  split
  · have := yes_le (j := i + j) h hn (by omega)
    omega
  · have := yes_le (j := i + j + 1) h hn (by omega)
    omega
theorem far_sy {cs : List Int} {n : Nat} (h : NumL cs (n + 1) (2 ^ 110)) (hn : n < 6) (n1 : 1 ≤ n) : ∀ i < farS n, ∀ j < farS n, (farF (yesF cs) n i j).natAbs < 2 ^ 200 := by
  intro i hi j hj
  have b : (2 : Nat) ^ 131 ≤ 2 ^ 200 := Nat.pow_le_pow_right (by decide) (by decide)
  unfold farS at hi hj
  unfold farF
  split
  · rename_i hp
    rw [if_pos hp] at hi hj
    have := yes_le (j := i + j + 1) h hn (by omega)
    have := yes_le (j := i + j + 2) h hn (by omega)
    omega
  · rename_i hp
    rw [if_neg hp] at hi hj
    have := yes_le (j := i + j) h hn (by omega)
    have := yes_le (j := i + j + 1) h hn (by omega)
    omega
def spAlways (K : PySem.W.Frag) (C : Addr) : Sp := fun vs H Q _ => ∃ (x : V) (ps : List Int) (n : Nat), vs = [x] ∧ IsRow K C H x ps ∧ NumL ps (n + 1) (2 ^ 110) ∧ 1 ≤ n ∧ n < 6 ∧ ∀ H', Ex H H' → Q (.bl (alwB ps n)) H'
theorem scAlways : FnScope ["row", "chances", "size", "less", "one", "two"] ["row"] (defScope (top 29)) := ⟨rfl, rfl, rfl, by decide +kernel, rfl, by decide +kernel, by decide +kernel⟩
theorem ok_always {C : Addr} (B : Bi mg) (RT : RowT P w K mg base C) (hcheck_row : Has P w K mg base "check_row" 1 ["row"] (spCheckRow K C)) (hyes_sums : Has P w K mg base "yes_sums" 1 ["counts"] (spYes K))
    (h_table : Has P w K mg base "_table" 1 ["chances", "size"] spTable) (h_never_below : Has P w K mg base "_never_below" 6 ["table"] spNever)
    {f : Addr} {fd : FuncData} (F : Fun K "always" "always" (top 29) f fd) : FnOk P w K mg base CX0 7 f fd ["row"] (spAlways K C) := by
  have sc := scAlways
  refine F.ok sc (fun vs H Q E h => ?_) (fun cdv A outer s H vs Q E hr h => ?_)
  · obtain ⟨x, ps, j, rfl, _⟩ := h
    rfl
  · obtain ⟨x, ps, n, rfl, hrow, hN, n1, hn, k⟩ := h
    refine ⟨_, (pss_cons (ps_expr (pe_has hcheck_row (hr.mono (by decide)) (pa_cons (pv 0) pa_nil)))
      (pss_cons (ps_set (i := 1) sc.nd rfl (by first | exact Or.inl rfl | exact Or.inr rfl) (pe_has hyes_sums (hr.mono (by decide)) (pa_cons (kCounts RT (hr.mono (by decide)) (pv 0)) pa_nil)))
      (pss_cons (ps_set (i := 2) sc.nd rfl (by first | exact Or.inl rfl | exact Or.inr rfl) (pe_op op_fdivW (kDraws RT (hr.mono (by decide)) (pv 0)) pe_int))
      (pss_cons (ps_setLc (i := 3) (own := [("one", 4), ("two", 5)]) (g := gTup K 2 (gCons (gName 4) (gCons (gName 5) gNil))) (tt := tYes) rfl sc.nd rfl rfl (sw_true rfl rfl rfl (by decide +kernel)) (kZip (K := K) (by rfl) B.zip (pa_cons (pv 1) (pa_cons (pe_slice (slL (K := K)) (pv 1) (po_some pe_int) po_none) pa_nil))) (blkOk_by (N := (["row", "chances", "size", "less", "one", "two"] : List Str)) (sc := defScope (top 29)) (by decide +kernel)) (fun _ _ _ _ _ => (pg_tup rfl (pgs_cons (pg_name (i := 4) sc.nd rfl (by first | exact Or.inl rfl | exact Or.inr rfl)) (pgs_cons (pg_name (i := 5) sc.nd rfl (by first | exact Or.inl rfl | exact Or.inr rfl)) pgs_nil)))) (fun _ _ _ _ _ => pts_nil) (fun _ _ _ _ _ => (PE.mon (pe_op op_sub (pv 4) (pv 5)))))
      (pss_cons (ps_if (pt_cmpR op_eq (pe_op op_mod (kDraws RT (hr.mono (by decide)) (pv 0)) pe_int) pe_int (nomark _)) (pss_one (ps_ret (pe_and (pe_has h_never_below (hr.mono (by decide)) (pa_cons (pe_has h_table (hr.mono (by decide)) (pa_cons (pv 1) (pa_cons (pe_op op_add (pv 2) pe_int) pa_nil))) pa_nil)) (pe_one (pe_has h_never_below (hr.mono (by decide)) (pa_cons (pe_has h_table (hr.mono (by decide)) (pa_cons (pe_slice (slL (K := K)) (pv 3) (po_some pe_int) po_none) (pa_cons (pv 2) pa_nil))) pa_nil)))))) pss_nil)
      (pss_one (ps_ret (pe_and (pe_has h_never_below (hr.mono (by decide)) (pa_cons (pe_has h_table (hr.mono (by decide)) (pa_cons (pe_slice (slL (K := K)) (pv 1) (po_some pe_int) po_none) (pa_cons (pe_op op_add (pv 2) pe_int) pa_nil))) pa_nil)) (pe_one (pe_has h_never_below (hr.mono (by decide)) (pa_cons (pe_has h_table (hr.mono (by decide)) (pa_cons (pv 3) (pa_cons (pe_op op_add (pv 2) pe_int) pa_nil))) pa_nil))))))))))), ?_⟩
    walk_at "rd"
    refine ⟨x, ps, rfl, hrow, ?_⟩
    walk_at "rd"
    refine ⟨_, hrow, fun y ⟨p, ey, hS⟩ => ?_⟩
    subst ey
    have lps : ps.length = n + 1 := hN.1
    have ed : ((ps.length : Nat) : Int) - 1 = (n : Int) := by omega
    refine ⟨p, ps, n, rfl, hS, hN, n1, hn, fun l G1 e1 hl => ?_⟩
    refine ⟨_, hrow.kp e1.kp, ?_⟩
    rw [ed]
    refine ⟨⟨by omega, log_sm (by omega) (by omega)⟩, l, _, rfl, .of hl, fun l2 G2 n2 e2 hl2 => ?_⟩
    rw [show (1 : Int) = ((1 : Nat) : Int) from rfl, cut_drop] at hl2
    have hl' := e2 _ _ hl
    refine ⟨true, true, l, rfl, l2, rfl, ⟨_, .of hl'⟩, ⟨_, .of hl2⟩, fun Dd hD => ?_⟩
    have lY : (((List.range (n + 1)).map (yesF ps)).map V.int).length = n + 1 := by simp
    have getY : ∀ i < n + 1, (((List.range (n + 1)).map (yesF ps)).map V.int)[i]? = some (.int (yesF ps i)) := fun i hi => by
      rw [List.getElem?_map, List.getElem?_map, List.getElem?_range hi]
      rfl
    refine lcZ (xs := ((List.range (n + 1)).map (yesF ps)).map V.int) (ys := (((List.range (n + 1)).map (yesF ps)).map V.int).drop 1) (n := n) (by rw [List.length_drop, lY]; omega) (fun i y _ => y = .int (yesF ps i - yesF ps (i + 1))) (fun _ _ _ _ _ h => h) hD (k1 := true) (k2 := true) (.of hl') (.of hl2) (by omega) (gm_tup (gm_cons gm_name (gm_cons gm_name gm_nil))) ?_ ?_
    · intro i x1 y1 T G3 hx1 hy1 e3 hT
      have hi : i < n := by
        have := (List.getElem?_eq_some_iff.mp hy1).1
        rw [List.length_drop, lY] at this
        omega
      rw [getY i (by omega)] at hx1
      cases hx1
      rw [List.getElem?_drop, show 1 + i = i + 1 by omega, getY (i + 1) (by omega)] at hy1
      cases hy1
      walk_at "rd"
      refine ⟨_, .of hT, rfl, ?_⟩
      walk_at "rd"
      obtain ⟨R1, hR1⟩ : ∃ R : VK, R = fun v H' => v = .int (yesF ps i - yesF ps (i + 1)) ∧ H' = G3 := ⟨_, rfl⟩
      refine ⟨R1, ?_, fun v H' h => by rw [hR1] at h; obtain ⟨rfl, rfl⟩ := h; exact ⟨Ex.refl _, rfl⟩⟩
      walk_at "rd"
      rw [hR1]
      exact ⟨rfl, rfl⟩
    · intro G3 ys e3 hy hly hr3
      rw [ints_of hly hr3] at hy
      have e123 := (e1.trans e2).trans e3
      refine ⟨_, hrow.kp e123.kp, by decide, ?_⟩
      rw [ed]
      have hl3 := e3 _ _ hl'
      have half : ((n : Int)) / 2 + 1 = ((n / 2 + 1 : Nat) : Int) := by omega
      have yD : ∀ q, q ≤ n → ((List.range (n + 1)).map (yesF ps)).getD q 0 = yesF ps q := fun q hq => by
        rw [List.getD_eq_getElem?_getD, List.getElem?_map, List.getElem?_range (by omega)]
        rfl
      have zD : ∀ q, q < n → ((List.range n).map fun i => yesF ps i - yesF ps (i + 1)).getD q 0 = yesF ps q - yesF ps (q + 1) := fun q hq => by
        rw [List.getD_eq_getElem?_getD, List.getElem?_map, List.getElem?_range (by omega)]
        rfl
      have nearB := near_sy hN hn n1
      have farB := far_sy hN hn n1
      by_cases hpar : (n : Int) % 2 = 0
      · rw [if_pos hpar]
        have np2 : n % 2 = 0 := by omega
        have es : farS n = n / 2 := by unfold farS; rw [if_pos np2]
        refine ⟨l, _, n / 2 + 1, by congr 3, hl3, by omega, fun i hi => by simp; omega, fun t4 G4 e4 tt => ?_⟩
        have q1 : genT (n / 2 + 1) (fun i j => ((List.range (n + 1)).map (yesF ps)).getD (i + j) 0) = genT (n / 2 + 1) (nearF (yesF ps) n) := genT_congr fun i hi j hj => by
          rw [yD _ (by omega)]
          unfold nearF
          rw [if_pos np2]
        rw [q1] at tt
        refine ⟨t4, _, n / 2 + 1, rfl, tt, genT_sq nearB, by omega, fun G5 e5 => ⟨_, rfl, ?_⟩⟩
        have kk := fun H' e => k H' e
        unfold alwB at kk
        cases hb : neverB (genT (n / 2 + 1) (nearF (yesF ps) n)) (n / 2 + 1) with
        | false =>
          rw [if_neg (by decide)]
          have := kk G5 ((e123.trans e4).trans e5)
          rw [hb, Bool.false_and] at this
          exact this
        | true =>
          rw [if_pos rfl]
          have hy5 := e5 _ _ (e4 _ _ hy)
          refine ⟨Dd, _, rfl, .of hy5, fun l6 G6 n6 e6 hl6 => ?_⟩
          rw [show (1 : Int) = ((1 : Nat) : Int) from rfl, cut_drop, ← List.map_drop] at hl6
          refine ⟨l6, _, n / 2, by congr 3, hl6, by omega, fun i hi => by simp; omega, fun t7 G7 e7 t77 => ?_⟩
          have q2 : genT (n / 2) (fun i j => (((List.range n).map fun i => yesF ps i - yesF ps (i + 1)).drop 1).getD (i + j) 0) = genT (farS n) (farF (yesF ps) n) := by
            rw [es]
            refine genT_congr fun i hi j hj => ?_
            rw [List.getD_eq_getElem?_getD, List.getElem?_drop, ← List.getD_eq_getElem?_getD, show 1 + (i + j) = i + j + 1 by omega, zD _ (by omega)]
            unfold farF
            rw [if_pos np2]
          rw [q2] at t77
          refine ⟨t7, _, farS n, rfl, t77, genT_sq farB, by omega, fun G8 e8 => ?_⟩
          have := kk G8 (((((e123.trans e4).trans e5).trans e6).trans e7).trans e8)
          rw [hb, Bool.true_and] at this
          exact this
      · rw [if_neg hpar]
        have np2 : ¬ n % 2 = 0 := by omega
        have es : farS n = n / 2 + 1 := by unfold farS; rw [if_neg np2]
        refine ⟨l, _, rfl, .of hl3, fun l3 G3' n3 e3' hl3' => ?_⟩
        rw [show (1 : Int) = ((1 : Nat) : Int) from rfl, cut_drop, ← List.map_drop] at hl3'
        refine ⟨l3, _, n / 2 + 1, by congr 3, hl3', by omega, fun i hi => by simp; omega, fun t4 G4 e4 tt => ?_⟩
        have q1 : genT (n / 2 + 1) (fun i j => (((List.range (n + 1)).map (yesF ps)).drop 1).getD (i + j) 0) = genT (n / 2 + 1) (nearF (yesF ps) n) := genT_congr fun i hi j hj => by
          rw [List.getD_eq_getElem?_getD, List.getElem?_drop, ← List.getD_eq_getElem?_getD, show 1 + (i + j) = i + j + 1 by omega, yD _ (by omega)]
          unfold nearF
          rw [if_neg np2]
        rw [q1] at tt
        refine ⟨t4, _, n / 2 + 1, rfl, tt, genT_sq nearB, by omega, fun G5 e5 => ⟨_, rfl, ?_⟩⟩
        have kk := fun H' e => k H' e
        unfold alwB at kk
        cases hb : neverB (genT (n / 2 + 1) (nearF (yesF ps) n)) (n / 2 + 1) with
        | false =>
          rw [if_neg (by decide)]
          have := kk G5 (((e123.trans e3').trans e4).trans e5)
          rw [hb, Bool.false_and] at this
          exact this
        | true =>
          rw [if_pos rfl]
          have hy5 := e5 _ _ (e4 _ _ (e3' _ _ hy))
          refine ⟨Dd, _, n / 2 + 1, by congr 3, hy5, by omega, fun i hi => by simp; omega, fun t7 G7 e7 t77 => ?_⟩
          have q2 : genT (n / 2 + 1) (fun i j => ((List.range n).map fun i => yesF ps i - yesF ps (i + 1)).getD (i + j) 0) = genT (farS n) (farF (yesF ps) n) := by
            rw [es]
            refine genT_congr fun i hi j hj => ?_
            rw [zD _ (by omega)]
            unfold farF
            rw [if_neg np2]
          rw [q2] at t77
          refine ⟨t7, _, farS n, rfl, t77, genT_sq farB, by omega, fun G8 e8 => ?_⟩
          have := kk G8 (((((e123.trans e3').trans e4).trans e5).trans e7).trans e8)
          rw [hb, Bool.true_and] at this
          exact this
theorem mE_off {M : List (List Int)} {s b i k j : Nat} (h : SqM M (s + 1) b) (hi : i < s) (hk : k < s) (hj : j < s + 1) : mE (offM M j) i k = mE M (i + 1) (if k < j then k else k + 1) := by
  obtain ⟨r, hr, rl, _, rj⟩ := h.row (i := i + 1) (by omega)
  have e1 : (offM M j).getD i [] = r.take j ++ r.drop (j + 1) := by
    unfold offM
    rw [List.getD_eq_getElem?_getD, List.getElem?_map, List.getElem?_drop, show 1 + i = i + 1 by omega, hr]
    rfl
  have e2 : M.getD (i + 1) [] = r := by rw [List.getD_eq_getElem?_getD, hr]; rfl
  unfold mE
  rw [e1, e2, List.getD_eq_getElem?_getD, List.getD_eq_getElem?_getD]
  congr 1
  by_cases hkj : k < j
  · rw [if_pos hkj, List.getElem?_append_left (by rw [List.length_take]; omega), List.getElem?_take_of_lt hkj]
  · rw [if_neg hkj, List.getElem?_append_right (by rw [List.length_take]; omega), List.length_take, List.getElem?_drop]
    congr 1
    omega
theorem lap_one {M : List (List Int)} {b : Nat} (h : SqM M 1 b) : lap 1 M = mE M 0 0 := by
  simp [lap, sg]
theorem lap_two {M : List (List Int)} {b : Nat} (h : SqM M 2 b) : lap 2 M = mE M 0 0 * mE M 1 1 - mE M 0 1 * mE M 1 0 := by
  have e : lap 2 M = sg 0 * mE M 0 0 * lap 1 (offM M 0) + (sg 1 * mE M 0 1 * lap 1 (offM M 1) + 0) := rfl
  rw [e, lap_one (off_sq h (by omega)), lap_one (off_sq h (by omega)), mE_off h (by omega) (by omega) (by omega), mE_off h (by omega) (by omega) (by omega)]
  simp [sg]
  grind
theorem lap_three {M : List (List Int)} {b : Nat} (h : SqM M 3 b) : lap 3 M = mE M 0 0 * (mE M 1 1 * mE M 2 2 - mE M 1 2 * mE M 2 1) - mE M 0 1 * (mE M 1 0 * mE M 2 2 - mE M 1 2 * mE M 2 0) + mE M 0 2 * (mE M 1 0 * mE M 2 1 - mE M 1 1 * mE M 2 0) := by
  have e : lap 3 M = sg 0 * mE M 0 0 * lap 2 (offM M 0) + (sg 1 * mE M 0 1 * lap 2 (offM M 1) + (sg 2 * mE M 0 2 * lap 2 (offM M 2) + 0)) := rfl
  have o0 := off_sq (j := 0) h (by omega)
  have o1 := off_sq (j := 1) h (by omega)
  have o2 := off_sq (j := 2) h (by omega)
  rw [e, lap_two o0, lap_two o1, lap_two o2]
  simp only [mE_off h (show 0 < 2 by omega) (show 0 < 2 by omega) (show 0 < 3 by omega), mE_off h (show 0 < 2 by omega) (show 1 < 2 by omega) (show 0 < 3 by omega), mE_off h (show 1 < 2 by omega) (show 0 < 2 by omega) (show 0 < 3 by omega), mE_off h (show 1 < 2 by omega) (show 1 < 2 by omega) (show 0 < 3 by omega),
    mE_off h (show 0 < 2 by omega) (show 0 < 2 by omega) (show 1 < 3 by omega), mE_off h (show 0 < 2 by omega) (show 1 < 2 by omega) (show 1 < 3 by omega), mE_off h (show 1 < 2 by omega) (show 0 < 2 by omega) (show 1 < 3 by omega), mE_off h (show 1 < 2 by omega) (show 1 < 2 by omega) (show 1 < 3 by omega),
    mE_off h (show 0 < 2 by omega) (show 0 < 2 by omega) (show 2 < 3 by omega), mE_off h (show 0 < 2 by omega) (show 1 < 2 by omega) (show 2 < 3 by omega), mE_off h (show 1 < 2 by omega) (show 0 < 2 by omega) (show 2 < 3 by omega), mE_off h (show 1 < 2 by omega) (show 1 < 2 by omega) (show 2 < 3 by omega)]
  have s0 : sg 0 = 1 := rfl
  have s1 : sg 1 = -1 := rfl
  have s2 : sg 2 = 1 := rfl
  rw [s0, s1, s2]
  simp
  grind
theorem det_three {M : List (List Int)} (h : M.length = 3) : detM M = mE M 0 0 * (mE M 1 1 * mE M 2 2 - mE M 1 2 * mE M 2 1) - mE M 0 1 * (mE M 1 0 * mE M 2 2 - mE M 1 2 * mE M 2 0) + mE M 0 2 * (mE M 1 0 * mE M 2 1 - mE M 1 1 * mE M 2 0) := by
  unfold detM
  rw [if_neg (by omega), if_neg (by omega)]
  simp [quads, quadV]
  grind
theorem lap_det {M : List (List Int)} {s b : Nat} (h : SqM M s b) (h1 : 1 ≤ s) (h3 : s ≤ 3) : lap s M = detM M := by
  have hl := h.1
  have : s = 1 ∨ s = 2 ∨ s = 3 := by omega
  rcases this with rfl | rfl | rfl
  · rw [lap_one h]
    unfold detM
    rw [if_pos hl]
  · rw [lap_two h]
    unfold detM
    rw [if_neg (by omega), if_pos hl]
  · rw [lap_three h, det_three hl]
theorem lots_eq : ∀ s < 4, (lotsF s).map natsL = (List.range s).flatMap fun m => chF s (m + 1) := by decide +kernel
theorem never_above {M : List (List Int)} {s b : Nat} (h : SqM M s b) (h3 : s ≤ 3) : neverB M s = aboveB M s := by
  unfold neverB aboveB
  have e : ((lotsF s).all fun l => decide (0 ≤ detM (subM M (natsL l)))) = ((lotsF s).map natsL).all fun l => decide (0 ≤ detM (subM M l)) := by
    rw [List.all_map]
    rfl
  rw [e, lots_eq s (by omega), List.all_flatMap]
  rw [Bool.eq_iff_iff, List.all_eq_true, List.all_eq_true]
  have each : ∀ m ∈ List.range s, ((chF s (m + 1)).all fun l => decide (0 ≤ lap (m + 1) (subM M l))) = ((chF s (m + 1)).all fun l => decide (0 ≤ detM (subM M l))) := by
    intro m hm
    have hm := List.mem_range.mp hm
    have c := (ch_small s (by omega) (m + 1) (by omega)).2
    rw [Bool.eq_iff_iff, List.all_eq_true, List.all_eq_true]
    have one : ∀ l ∈ chF s (m + 1), lap (m + 1) (subM M l) = detM (subM M l) := fun l hl => by
      have sq := sub_sq h (c l hl).2
      rw [(c l hl).1] at sq
      exact lap_det sq (by omega) (by omega)
    exact ⟨fun q l hl => by rw [← one l hl]; exact q l hl, fun q l hl => by rw [one l hl]; exact q l hl⟩
  exact ⟨fun q m hm => by rw [← each m hm]; exact q m hm, fun q m hm => by rw [each m hm]; exact q m hm⟩
theorem mE_sub {M : List (List Int)} {l : List Nat} {i j a b : Nat} (hi : l[i]? = some a) (hj : l[j]? = some b) : mE (subM M l) i j = mE M a b := by
  have e1 : (subM M l).getD i [] = l.map fun j => mE M a j := by
    unfold subM
    rw [List.getD_eq_getElem?_getD, List.getElem?_map, hi]
    rfl
  show ((subM M l).getD i []).getD j 0 = _
  rw [e1, List.getD_eq_getElem?_getD, List.getElem?_map, hj]
  rfl
theorem det_of1 {M : List (List Int)} {a : Nat} : detM (subM M [a]) = mE M a a := by
  unfold detM
  rw [if_pos (by simp [subM]), mE_sub (i := 0) (j := 0) rfl rfl]
theorem det_of2 {M : List (List Int)} {a b : Nat} : detM (subM M [a, b]) = mE M a a * mE M b b - mE M a b * mE M b a := by
  unfold detM
  rw [if_neg (by simp [subM]), if_pos (by simp [subM]), mE_sub (i := 0) (j := 0) rfl rfl, mE_sub (i := 1) (j := 1) rfl rfl, mE_sub (i := 0) (j := 1) rfl rfl, mE_sub (i := 1) (j := 0) rfl rfl]
theorem det_of3 {M : List (List Int)} {a b c : Nat} : detM (subM M [a, b, c]) = mE M a a * (mE M b b * mE M c c - mE M b c * mE M c b) - mE M a b * (mE M b a * mE M c c - mE M b c * mE M c a) + mE M a c * (mE M b a * mE M c b - mE M b b * mE M c a) := by
  rw [det_three rfl, mE_sub (i := 0) (j := 0) rfl rfl, mE_sub (i := 1) (j := 1) rfl rfl, mE_sub (i := 0) (j := 1) rfl rfl, mE_sub (i := 1) (j := 0) rfl rfl, mE_sub (i := 0) (j := 2) rfl rfl, mE_sub (i := 2) (j := 0) rfl rfl, mE_sub (i := 1) (j := 2) rfl rfl, mE_sub (i := 2) (j := 1) rfl rfl, mE_sub (i := 2) (j := 2) rfl rfl]
theorem lots_cases {s : Nat} {l : List Int} (h : l ∈ lotsF s) : (∃ a, natsL l = [a] ∧ a < s) ∨ (∃ a b, natsL l = [a, b] ∧ a < s ∧ b < s) ∨ ∃ a b c, natsL l = [a, b, c] ∧ a < s ∧ b < s ∧ c < s := by
  have h := List.mem_filter.mp h
  have h1 := h.1
  have h2 := of_decide_eq_true h.2
  simp only [lots7, List.mem_cons, List.not_mem_nil, or_false] at h1
  rcases h1 with rfl | rfl | rfl | rfl | rfl | rfl | rfl
  · exact .inl ⟨0, rfl, by simp at h2; omega⟩
  · exact .inl ⟨1, rfl, by simp at h2; omega⟩
  · exact .inl ⟨2, rfl, by simp at h2; omega⟩
  · exact .inr (.inl ⟨0, 1, rfl, by simp at h2; omega, by simp at h2; omega⟩)
  · exact .inr (.inl ⟨0, 2, rfl, by simp at h2; omega, by simp at h2; omega⟩)
  · exact .inr (.inl ⟨1, 2, rfl, by simp at h2; omega, by simp at h2; omega⟩)
  · exact .inr (.inr ⟨0, 1, 2, rfl, by simp at h2; omega, by simp at h2; omega, by simp at h2; omega⟩)
theorem sign_eq {c d x y : Int} (hc : 0 < c) (hd : 0 < d) (h : c * x = d * y) : (0 ≤ x ↔ 0 ≤ y) := by
  constructor
  · intro hx
    have : 0 ≤ d * y := by rw [← h]; exact Int.mul_nonneg (by omega) hx
    exact Int.nonneg_of_mul_nonneg_right this hd
  · intro hy
    have : 0 ≤ c * x := by rw [h]; exact Int.mul_nonneg (by omega) hy
    exact Int.nonneg_of_mul_nonneg_right this hc
theorem above_prop {M N : List (List Int)} {s : Nat} {c d : Int} (hc : 0 < c) (hd : 0 < d) (h : ∀ i < s, ∀ j < s, c * mE M i j = d * mE N i j) : aboveB M s = aboveB N s := by
  unfold aboveB
  have each : ∀ l ∈ lotsF s, (0 ≤ detM (subM M (natsL l)) ↔ 0 ≤ detM (subM N (natsL l))) := by
    intro l hl
    have c2 : 0 < c * c := Int.mul_pos hc hc
    have d2 : 0 < d * d := Int.mul_pos hd hd
    have c3 : 0 < c * c * c := Int.mul_pos c2 hc
    have d3 : 0 < d * d * d := Int.mul_pos d2 hd
    rcases lots_cases hl with ⟨a, e, ha⟩ | ⟨a, b, e, ha, hb⟩ | ⟨a, b, z, e, ha, hb, hz⟩
    · rw [e, det_of1, det_of1]
      exact sign_eq hc hd (h a ha a ha)
    · rw [e, det_of2, det_of2]
      refine sign_eq c2 d2 ?_
      have h1 := h a ha a ha
      have h2 := h b hb b hb
      have h3 := h a ha b hb
      have h4 := h b hb a ha
      grind
    · rw [e, det_of3, det_of3]
      refine sign_eq c3 d3 ?_
      have h1 := h a ha a ha
      have h2 := h b hb b hb
      have h3 := h a ha b hb
      have h4 := h b hb a ha
      have h5 := h a ha z hz
      have h6 := h b hb z hz
      have h7 := h z hz a ha
      have h8 := h z hz b hb
      have h9 := h z hz z hz
      have three : ∀ x1 y1 x2 y2 x3 y3 : Int, c * x1 = d * y1 → c * x2 = d * y2 → c * x3 = d * y3 → c * c * c * (x1 * (x2 * x3)) = d * d * d * (y1 * (y2 * y3)) := by
        intro x1 y1 x2 y2 x3 y3 e1 e2 e3
        have : c * c * c * (x1 * (x2 * x3)) = (c * x1) * ((c * x2) * (c * x3)) := by grind
        rw [this, e1, e2, e3]
        grind
      have t1 := three _ _ _ _ _ _ h1 h2 h9
      have t2 := three _ _ _ _ _ _ h1 h6 h8
      have t3 := three _ _ _ _ _ _ h3 h4 h9
      have t4 := three _ _ _ _ _ _ h3 h6 h7
      have t5 := three _ _ _ _ _ _ h5 h4 h8
      have t6 := three _ _ _ _ _ _ h5 h2 h7
      simp only [Int.mul_sub, Int.mul_add]
      omega
  rw [Bool.eq_iff_iff, List.all_eq_true, List.all_eq_true]
  exact ⟨fun q l hl => decide_eq_true ((each l hl).mp (of_decide_eq_true (q l hl))), fun q l hl => decide_eq_true ((each l hl).mpr (of_decide_eq_true (q l hl)))⟩
theorem above_two {M : List (List Int)} {s : Nat} {α β : Int} {X Y : Nat → Int} (ha : 0 ≤ α) (hb : 0 ≤ β) (h : ∀ i < s, ∀ j < s, mE M i j = α * (X i * X j) + β * (Y i * Y j)) : aboveB M s = true := by
  unfold aboveB
  rw [List.all_eq_true]
  intro l hl
  refine decide_eq_true ?_
  have sqn : ∀ z : Int, 0 ≤ z * z := fun z => by
    rcases Int.le_total 0 z with hz | hz
    · exact Int.mul_nonneg hz hz
    · exact Int.mul_nonneg_of_nonpos_of_nonpos hz hz
  rcases lots_cases hl with ⟨a, e, la⟩ | ⟨a, b, e, la, lb⟩ | ⟨a, b, z, e, la, lb, lz⟩
  · rw [e, det_of1, h a la a la]
    exact Int.add_nonneg (Int.mul_nonneg ha (sqn _)) (Int.mul_nonneg hb (sqn _))
  · rw [e, det_of2, h a la a la, h a la b lb, h b lb a la, h b lb b lb]
    have : (α * (X a * X a) + β * (Y a * Y a)) * (α * (X b * X b) + β * (Y b * Y b)) - (α * (X a * X b) + β * (Y a * Y b)) * (α * (X b * X a) + β * (Y b * Y a)) = (α * β) * ((X a * Y b - X b * Y a) * (X a * Y b - X b * Y a)) := by grind
    rw [this]
    exact Int.mul_nonneg (Int.mul_nonneg ha hb) (sqn _)
  · rw [e, det_of3, h a la a la, h a la b lb, h a la z lz, h b lb a la, h b lb b lb, h b lb z lz, h z lz a la, h z lz b lb, h z lz z lz]
    refine Int.le_of_eq ?_
    grind
theorem wayS_scale (k : Int) (cs : List Int) (j : Nat) : wayS (cs.map (k * ·)) j = k * wayS cs j := by
  unfold wayS
  rw [List.length_map, ← sum_scale, List.map_map]
  congr 1
  apply List.map_congr_left
  intro i _
  have : (cs.map (k * ·)).getD i 0 = k * cs.getD i 0 := by
    rw [List.getD_eq_getElem?_getD, List.getD_eq_getElem?_getD, List.getElem?_map]
    cases cs[i]? <;> simp
  show (cs.map (k * ·)).getD i 0 * _ = k * (cs.getD i 0 * _)
  rw [this, Int.mul_assoc]
theorem fac_chs : ∀ n < 6, ∀ j < n + 1, 0 < chs n j ∧ chs n j * (60 / chs n j) = 60 ∧ Builtin.Math.factorialNat n * (60 / chs n j) = 60 * (Builtin.Math.factorialNat j * Builtin.Math.factorialNat (n - j)) := by decide +kernel
theorem yes_mom {cs : List Int} {n j : Nat} (hl : cs.length = n + 1) (hn : n < 6) (hj : j ≤ n) : ((Builtin.Math.factorialNat n : Nat) : Int) * momL cs j = 60 * ((gcdL cs : Nat) : Int) * yesF (plainL cs) j := by
  obtain ⟨c0, c1, c2⟩ := fac_chs n hn j (by omega)
  obtain ⟨C, hC⟩ : ∃ C, C = chs n j := ⟨_, rfl⟩
  obtain ⟨d, hd⟩ : ∃ d, d = 60 / chs n j := ⟨_, rfl⟩
  rw [← hd] at c1 c2
  rw [← hC] at c0 c1
  obtain ⟨W, hW⟩ : ∃ W, W = wayS (plainL cs) j := ⟨_, rfl⟩
  obtain ⟨g, hg⟩ : ∃ g : Int, g = ((gcdL cs : Nat) : Int) := ⟨_, rfl⟩
  have e1 : wayS cs j = g * W := by
    rw [hW, hg, ← wayS_scale, plainL_mul]
  have e2 : momL cs j = g * W * (d : Int) := by
    unfold momL
    rw [hl, show n + 1 - 1 = n by omega, ← hC, e1, show (60 : Int) = (C : Int) * (d : Int) by rw [← Int.natCast_mul, c1]; rfl]
    rw [show g * W * ((C : Int) * (d : Int)) = (C : Int) * (g * W * (d : Int)) by grind]
    exact Int.mul_ediv_cancel_left _ (by omega)
  rw [e2]
  unfold yesF
  rw [plainL_len, hl, show n + 1 - 1 = n by omega, ← hW, ← hg]
  have c3 : ((Builtin.Math.factorialNat n : Nat) : Int) * (d : Int) = 60 * (((Builtin.Math.factorialNat j : Nat) : Int) * ((Builtin.Math.factorialNat (n - j) : Nat) : Int)) := by
    rw [← Int.natCast_mul, ← Int.natCast_mul, c2]
    simp
  grind
theorem mE_genT {s i j : Nat} {f : Nat → Nat → Int} (hi : i < s) (hj : j < s) : mE (genT s f) i j = f i j := by
  have e1 : (genT s f).getD i [] = (List.range s).map (f i) := by
    unfold genT
    rw [List.getD_eq_getElem?_getD, List.getElem?_map, List.getElem?_range hi]
    rfl
  unfold mE
  rw [e1, List.getD_eq_getElem?_getD, List.getElem?_map, List.getElem?_range hj]
  rfl
theorem num_plain {cs : List Int} {m : Nat} {b : Int} (h : NumL cs m b) (g : 0 < gcdL cs) : NumL (plainL cs) m b := by
  refine ⟨by rw [plainL_len]; exact h.1, fun c hc => ?_⟩
  obtain ⟨c0, h0, rfl⟩ := List.mem_map.mp hc
  obtain ⟨p0, p1⟩ := h.2 c0 h0
  refine ⟨Int.ediv_nonneg p0 (by omega), ?_⟩
  have := Int.ediv_le_self ((gcdL cs : Nat) : Int) p0
  omega
theorem alw_due {cs : List Int} {n : Nat} (h : NumL cs (n + 1) (2 ^ 110)) (hn : n < 6) (n1 : 1 ≤ n) (g : 0 < gcdL cs) : alwB (plainL cs) n = dueB (momL cs) n := by
  have hp := num_plain h g
  have s1 : n / 2 + 1 ≤ 3 := by omega
  have s2 : farS n ≤ 3 := by unfold farS; split <;> omega
  have ym := fun (j : Nat) (hj : j ≤ n) => yes_mom (j := j) h.1 hn hj
  have fp := (fac_le n hn).1
  have gp : 0 < 60 * ((gcdL cs : Nat) : Int) := by omega
  unfold alwB dueB
  rw [never_above (genT_sq (near_sy hp hn n1)) s1, never_above (genT_sq (far_sy hp hn n1)) s2]
  congr 1
  · refine above_prop gp (show 0 < ((Builtin.Math.factorialNat n : Nat) : Int) by omega) fun i hi j hj => ?_
    rw [mE_genT hi hj, mE_genT hi hj]
    unfold nearF
    split
    · rw [ym _ (by omega)]
    · rw [ym _ (by omega)]
  · refine above_prop gp (show 0 < ((Builtin.Math.factorialNat n : Nat) : Int) by omega) fun i hi j hj => ?_
    rw [mE_genT hi hj, mE_genT hi hj]
    unfold farS at hi hj
    unfold farF
    split
    · rename_i hpp
      rw [if_pos hpp] at hi hj
      rw [Int.mul_sub, Int.mul_sub, ym _ (by omega), ym _ (by omega)]
    · rename_i hpp
      rw [if_neg hpp] at hi hj
      rw [Int.mul_sub, Int.mul_sub, ym _ (by omega), ym _ (by omega)]
theorem way_coin : ∀ t < 5, ∀ r < 5, ∀ n < 6, ∀ j < n + 1, wayS (coinCs t r n) j = ((chs n j * (t ^ j * (t + r) ^ (n - j)) : Nat) : Int) := by decide +kernel
theorem sum_lin (A B : Int) (f g : Nat → Int) : ∀ l : List Nat, (l.map fun k => A * f k + B * g k).sum = A * (l.map f).sum + B * (l.map g).sum
  | [] => by simp
  | x :: l => by
    have := sum_lin A B f g l
    simp only [List.map_cons, List.sum_cons]
    rw [this]
    grind
def pw (t v n j : Nat) : Int := (t : Int) ^ j * (v : Int) ^ (n - j)
theorem mom_two {A B : Int} {t r t' r' n j : Nat} (ht : t < 5) (hr : r < 5) (ht' : t' < 5) (hr' : r' < 5) (hn : n < 6) (hj : j ≤ n) : momL (twoC A B t r t' r' n) j = 60 * A * pw t (t + r) n j + 60 * B * pw t' (t' + r') n j := by
  have hl : (twoC A B t r t' r' n).length = n + 1 := by simp [twoC]
  have g1 : ∀ (t r k : Nat), k < n + 1 → (coinCs t r n).getD k 0 = coinC t r n k := fun t r k hk => by
    unfold coinCs
    rw [List.getD_eq_getElem?_getD, List.getElem?_map, List.getElem?_range hk]
    rfl
  have e1 : wayS (twoC A B t r t' r' n) j = A * wayS (coinCs t r n) j + B * wayS (coinCs t' r' n) j := by
    unfold wayS
    rw [hl, show (coinCs t r n).length = n + 1 by simp [coinCs], show (coinCs t' r' n).length = n + 1 by simp [coinCs], ← sum_lin]
    congr 1
    apply List.map_congr_left
    intro k hk
    have hk := List.mem_range.mp hk
    rw [g1 t r k hk, g1 t' r' k hk]
    have : (twoC A B t r t' r' n).getD k 0 = A * coinC t r n k + B * coinC t' r' n k := by
      unfold twoC
      rw [List.getD_eq_getElem?_getD, List.getElem?_map, List.getElem?_range hk]
      rfl
    rw [this]
    grind
  have c0 := (fac_chs n hn j (by omega)).1
  unfold momL
  rw [hl, show n + 1 - 1 = n by omega, e1, way_coin t ht r hr n hn j (by omega), way_coin t' ht' r' hr' n hn j (by omega)]
  have p1 : ((chs n j * (t ^ j * (t + r) ^ (n - j)) : Nat) : Int) = (chs n j : Int) * pw t (t + r) n j := by
    unfold pw
    simp
  have p2 : ((chs n j * (t' ^ j * (t' + r') ^ (n - j)) : Nat) : Int) = (chs n j : Int) * pw t' (t' + r') n j := by
    unfold pw
    simp
  rw [p1, p2, show (A * ((chs n j : Int) * pw t (t + r) n j) + B * ((chs n j : Int) * pw t' (t' + r') n j)) * 60 = (chs n j : Int) * (60 * A * pw t (t + r) n j + 60 * B * pw t' (t' + r') n j) by grind]
  exact Int.mul_ediv_cancel_left _ (by omega)
def xF (t v h i : Nat) : Int := (t : Int) ^ i * (v : Int) ^ (h - i)
theorem pw_near0 {t v n h i j : Nat} (e : n = 2 * h) (hi : i ≤ h) (hj : j ≤ h) : pw t v n (i + j) = xF t v h i * xF t v h j := by
  unfold pw xF
  rw [show n - (i + j) = (h - i) + (h - j) by omega, Int.pow_add, Int.pow_add]
  grind
theorem pw_near1 {t v n h i j : Nat} (e : n = 2 * h + 1) (hi : i ≤ h) (hj : j ≤ h) : pw t v n (i + j + 1) = t * (xF t v h i * xF t v h j) := by
  unfold pw xF
  rw [show n - (i + j + 1) = (h - i) + (h - j) by omega, Int.pow_add, Int.pow_add, Int.pow_add]
  grind
theorem pw_far0 {t r n h i j : Nat} (e : n = 2 * h) (hi : i < h) (hj : j < h) : pw t (t + r) n (i + j + 1) - pw t (t + r) n (i + j + 2) = t * r * (xF t (t + r) (h - 1) i * xF t (t + r) (h - 1) j) := by
  unfold pw xF
  rw [show n - (i + j + 1) = (h - 1 - i) + (h - 1 - j) + 1 by omega, show n - (i + j + 2) = (h - 1 - i) + (h - 1 - j) by omega]
  simp only [Int.pow_add, Int.natCast_add]
  grind
theorem pw_far1 {t r n h i j : Nat} (e : n = 2 * h + 1) (hi : i ≤ h) (hj : j ≤ h) : pw t (t + r) n (i + j) - pw t (t + r) n (i + j + 1) = r * (xF t (t + r) h i * xF t (t + r) h j) := by
  unfold pw xF
  rw [show n - (i + j) = (h - i) + (h - j) + 1 by omega, show n - (i + j + 1) = (h - i) + (h - j) by omega]
  simp only [Int.pow_add, Int.natCast_add]
  grind
theorem due_two {A B : Int} {t r t' r' n : Nat} (hA : 1 ≤ A) (hB : 1 ≤ B) (ht : t < 5) (hr : r < 5) (ht' : t' < 5) (hr' : r' < 5) (hn : n < 6) (n1 : 1 ≤ n) : dueB (momL (twoC A B t r t' r' n)) n = true := by
  have mt := fun (j : Nat) (hj : j ≤ n) => mom_two (A := A) (B := B) (j := j) ht hr ht' hr' hn hj
  have a0 : ∀ z : Nat, 0 ≤ 60 * A * (z : Int) := fun z => Int.mul_nonneg (by omega) (by omega)
  have b0 : ∀ z : Nat, 0 ≤ 60 * B * (z : Int) := fun z => Int.mul_nonneg (by omega) (by omega)
  unfold dueB
  rw [Bool.and_eq_true]
  by_cases hp : n % 2 = 0
  · have e : n = 2 * (n / 2) := by omega
    constructor
    · refine above_two (α := 60 * A * ((1 : Nat) : Int)) (β := 60 * B * ((1 : Nat) : Int)) (X := xF t (t + r) (n / 2)) (Y := xF t' (t' + r') (n / 2)) (a0 _) (b0 _) fun i hi j hj => ?_
      rw [mE_genT hi hj]
      unfold nearF
      rw [if_pos hp, mt _ (by omega), pw_near0 e (by omega) (by omega), pw_near0 e (by omega) (by omega)]
      simp
    · have es : farS n = n / 2 := by unfold farS; rw [if_pos hp]
      rw [es]
      refine above_two (α := 60 * A * ((t * r : Nat) : Int)) (β := 60 * B * ((t' * r' : Nat) : Int)) (X := xF t (t + r) (n / 2 - 1)) (Y := xF t' (t' + r') (n / 2 - 1)) (a0 _) (b0 _) fun i hi j hj => ?_
      rw [mE_genT hi hj]
      unfold farF
      rw [if_pos hp, mt _ (by omega), mt _ (by omega)]
      have q1 := pw_far0 (t := t) (r := r) e hi hj
      have q2 := pw_far0 (t := t') (r := r') e hi hj
      rw [Int.natCast_mul, Int.natCast_mul]
      grind
  · have e : n = 2 * (n / 2) + 1 := by omega
    constructor
    · refine above_two (α := 60 * A * (t : Int)) (β := 60 * B * (t' : Int)) (X := xF t (t + r) (n / 2)) (Y := xF t' (t' + r') (n / 2)) (a0 _) (b0 _) fun i hi j hj => ?_
      rw [mE_genT hi hj]
      unfold nearF
      rw [if_neg hp, mt _ (by omega), pw_near1 e (by omega) (by omega), pw_near1 e (by omega) (by omega)]
      grind
    · have es : farS n = n / 2 + 1 := by unfold farS; rw [if_neg hp]
      rw [es]
      refine above_two (α := 60 * A * (r : Int)) (β := 60 * B * (r' : Int)) (X := xF t (t + r) (n / 2)) (Y := xF t' (t' + r') (n / 2)) (a0 _) (b0 _) fun i hi j hj => ?_
      rw [mE_genT hi hj]
      unfold farF
      rw [if_neg hp, mt _ (by omega), mt _ (by omega)]
      have q1 := pw_far1 (t := t) (r := r) e (show i ≤ n / 2 by omega) (show j ≤ n / 2 by omega)
      have q2 := pw_far1 (t := t') (r := r') e (show i ≤ n / 2 by omega) (show j ≤ n / 2 by omega)
      grind
def SzL (ss : List Int) (b : Nat) : Prop := ∀ x ∈ ss, x.natAbs < 2 ^ b
def stepL (ss : List Int) (a : Int) : List Int := (List.range (ss.length - 1)).map fun j => ss.getD (j + 1) 0 + ((j : Int) - a) * ss.getD j 0
def timesL (ss ps : List Int) : List Int := ps.foldl stepL ss
theorem SzL.get {ss : List Int} {b j : Nat} (h : SzL ss b) (hj : j < ss.length) : ss[j]? = some (ss.getD j 0) ∧ (ss.getD j 0).natAbs < 2 ^ b := by
  rw [List.getD_eq_getElem?_getD, List.getElem?_eq_getElem hj]
  exact ⟨rfl, h _ (List.getElem_mem hj)⟩
theorem SzL.step {ss : List Int} {a : Int} {b c : Nat} (h : SzL ss b) (ha : a.natAbs < 2 ^ c) (hl : ss.length ≤ 6) : SzL (stepL ss a) (b + c + 4) := by
  intro x hx
  obtain ⟨j, hj, rfl⟩ := List.mem_map.mp hx
  have hj := List.mem_range.mp hj
  have h1 := (h.get (j := j) (by omega)).2
  have h2 := (h.get (j := j + 1) (by omega)).2
  have h3 : ((j : Int) - a).natAbs ≤ 6 * 2 ^ c := by
    have : 1 ≤ 2 ^ c := Nat.one_le_two_pow
    omega
  have h4 : (((j : Int) - a) * ss.getD j 0).natAbs ≤ 6 * 2 ^ c * 2 ^ b := by
    rw [Int.natAbs_mul]
    exact Nat.mul_le_mul h3 (Nat.le_of_lt h1)
  have e : 2 ^ (b + c + 4) = 16 * (2 ^ c * 2 ^ b) := by
    rw [Nat.pow_add, Nat.pow_add]
    have : 2 ^ b * 2 ^ c = 2 ^ c * 2 ^ b := Nat.mul_comm _ _
    omega
  have h5 : 2 ^ b ≤ 2 ^ c * 2 ^ b := Nat.le_mul_of_pos_left _ (Nat.two_pow_pos c)
  have h6 := Int.natAbs_add_le (ss.getD (j + 1) 0) (((j : Int) - a) * ss.getD j 0)
  rw [Nat.mul_assoc] at h4
  omega
def spTimes (K : PySem.W.Frag) : Sp := fun vs H Q _ => ∃ (s p : Addr) (ss ps : List Int) (b c : Nat), vs = [.ref s, .ref p] ∧ H s = some (.lst (ss.map V.int)) ∧ H p = some (.lst (ps.map V.int)) ∧ SzL ss b ∧ SzL ps c ∧ ss.length ≤ 6 ∧ ps.length ≤ 6 ∧ b ≤ 10000 ∧ c ≤ 2000 ∧ ∀ q H', Ex H H' → H' q = some (.lst ((timesL ss ps).map V.int)) → Q (.ref q) H'
theorem scTimes : FnScope ["sums", "points", "at", "j"] ["sums", "points"] (defScope (top 34)) := ⟨rfl, rfl, rfl, by decide +kernel, rfl, by decide +kernel, by decide +kernel⟩
theorem has_times (B : Bi mg) (D : Df K mg "times" (top 34) ["sums", "points"]) : Has P w K mg base "times" 1 ["sums", "points"] (spTimes K) := by
  have sc := scTimes
  refine .of D fun f fd F => F.ok sc (fun vs H Q E h => ?_) (fun cdv A outer s H vs Q E hr h => ?_)
  · obtain ⟨s, p, ss, ps, b, c, rfl, _⟩ := h
    rfl
  · obtain ⟨s0, p, ss, ps, b, c, rfl, hs, hp, bs, bp, ls, lp, b1, c1, k⟩ := h
    refine ⟨_, (pss_cons (ps_for PassesOwn.never rfl (pi_list (pv 1)) (pg_name (i := 2) sc.nd rfl (by first | exact Or.inl rfl | exact Or.inr rfl))
      (pss_one (ps_set (i := 0) sc.nd rfl (by first | exact Or.inl rfl | exact Or.inr rfl) (pe_lc (own := [("j", 3)]) (g := gName 3) (tt := tYes) rfl sc.nd (pi_range1 (by rfl) B.range (pa_cons (pe_op op_sub (pe_callB (kLen (K := K)) (by rfl) B.len (by decide +kernel) (pa_cons (pv 0) pa_nil)) pe_int) pa_nil)) (blkOk_by (N := (["sums", "points", "at", "j"] : List Str)) (sc := defScope (top 34)) (by decide +kernel)) (fun _ _ _ _ _ => (pg_name (i := 3) sc.nd rfl (by first | exact Or.inl rfl | exact Or.inr rfl))) (fun _ _ _ _ _ => pts_nil) (fun _ _ _ _ _ => (PE.mon (pe_op op_add (pe_ix (ixL (K := K)) (pv 0) (pe_op op_add (pv 3) pe_int) (fun _ _ => rfl)) (pe_op op_mulS (pe_op op_sub (pv 3) (pv 2)) (pe_ix (ixL (K := K)) (pv 0) (pv 3) (fun _ _ => rfl))))))))))
      (pss_one (ps_ret (pv 0)))), ?_⟩
    walk_at "rd"
    refine ⟨⟨_, .of hp⟩, ?_⟩
    obtain ⟨Pv, hP⟩ : ∃ P : Nat → L2.St → Hp → Prop, P = fun (i : Nat) σ' G => Ex H G ∧ ∃ (q : Addr) (z2 z3 : Option V), σ' = [some (.ref q), some (.ref p), z2, z3] ∧ G q = some (.lst ((timesL ss (ps.take i)).map V.int)) ∧ SzL (timesL ss (ps.take i)) (b + i * (c + 4)) ∧ (timesL ss (ps.take i)).length ≤ 6 := ⟨_, rfl⟩
    refine loopL (xs := ps.map V.int) Pv (by rw [hP]; exact ⟨Ex.refl _, s0, _, _, rfl, hs, by simpa [timesL] using bs, by simpa [timesL] using ls⟩) (fun i σ' G _ h => by rw [hP] at h; exact .of (h.1 _ _ hp)) ?_ ?_
    · intro i x σ' G hx h
      rw [hP] at h
      obtain ⟨e, q, z2, z3, rfl, hq, bq, lq⟩ := h
      rw [List.getElem?_map] at hx
      cases ha : ps[i]? with
      | none => rw [ha] at hx; cases hx
      | some a =>
        rw [ha] at hx
        cases hx
        have hi : i < ps.length := (List.getElem?_eq_some_iff.mp ha).1
        have ba := bp a (List.mem_of_getElem? ha)
        have etk : timesL ss (ps.take (i + 1)) = stepL (timesL ss (ps.take i)) a := by
          unfold timesL
          rw [List.take_add_one, ha, List.foldl_append]
          rfl
        obtain ⟨cur, hcur⟩ : ∃ cur, cur = timesL ss (ps.take i) := ⟨_, rfl⟩
        rw [← hcur] at hq bq lq etk
        walk_at "rd"
        refine ⟨_, .inl (.of hq), ?_⟩
        rw [List.length_map]
        refine ⟨by omega, by omega, fun Dd hD => lcR (fun j y _ => y = .int (cur.getD (j + 1) 0 + ((j : Int) - a) * cur.getD j 0)) (fun _ _ _ _ _ h => h) hD (by omega) (fun _ => rfl) ?_ ?_⟩
        · intro j G2 hj e2
          obtain ⟨g1, g2⟩ := bq.get (j := j) (by omega)
          obtain ⟨g3, g4⟩ := bq.get (j := j + 1) (by omega)
          obtain ⟨R0, hR⟩ : ∃ R : VK, R = fun y G' => G' = G2 ∧ y = .int (cur.getD (j + 1) 0 + ((j : Int) - a) * cur.getD j 0) := ⟨_, rfl⟩
          refine ⟨R0, ?_, fun y G' h => by rw [hR] at h; obtain ⟨rfl, h⟩ := h; exact ⟨Ex.refl _, h⟩⟩
          walk_at "rd"
          rw [show (j : Int) + 1 = ((j + 1 : Nat) : Int) by omega]
          refine q_ixL (.of (e2 _ _ hq)) (at_num g3) ?_
          walk_at "rd"
          refine q_ixL (.of (e2 _ _ hq)) (at_num g1) ?_
          walk_at "rd"
          have i5 : i * (c + 4) ≤ 5 * 2004 := Nat.mul_le_mul (by omega) (by omega)
          refine ⟨cmul (c + 3) (b + i * (c + 4)) (by
            have : 1 ≤ 2 ^ c := Nat.one_le_two_pow
            rw [Nat.pow_add]
            omega) g2 (by omega), ?_⟩
          rw [hR]
          exact ⟨rfl, rfl⟩
        · intro G2 ys e2 hy hl2 hr2
          rw [ints_of hl2 hr2] at hy
          rw [hP]
          have hst := bq.step ba lq
          refine ⟨e.trans e2, Dd, _, _, rfl, ?_, ?_, ?_⟩
          · rw [hy, etk]
            unfold stepL
            rw [show ((cur.length : Int) - 1).toNat = cur.length - 1 by omega]
          · rw [etk]
            intro x hx
            refine Nat.lt_of_lt_of_le (hst x hx) (Nat.pow_le_pow_right (by decide) ?_)
            rw [Nat.succ_mul]
            omega
          · rw [etk]
            simp [stepL]
            omega
    · intro σ' G h
      rw [hP] at h
      obtain ⟨e, q, z2, z3, rfl, hq, _⟩ := h
      rw [List.length_map, List.take_length] at hq
      walk_at "rd"
      exact k q G e hq
def spPlace : Sp := fun vs H Q _ => ∃ (p : Addr) (a : Int), vs = [.int a, .ref p] ∧ H p = some (.lst []) ∧ Q (.int a) H
theorem scPlace : FnScope ["at", "taken", "one"] ["at", "taken"] (defScope (top 45)) := ⟨rfl, rfl, rfl, by decide +kernel, rfl, by decide +kernel, by decide +kernel⟩
theorem has_place (B : Bi mg) (D : Df K mg "_place" (top 45) ["at", "taken"]) : Has P w K mg base "_place" 1 ["at", "taken"] spPlace := by
  have sc := scPlace
  refine .of D fun f fd F => F.ok sc (fun vs H Q E h => ?_) (fun cdv A outer s H vs Q E hr h => ?_)
  · obtain ⟨p, a, rfl, _⟩ := h
    rfl
  · obtain ⟨p, a, rfl, hp, k⟩ := h
    refine ⟨_, (pss_cons (ps_for PassesOwn.never rfl (pi_list (pv 1)) (pg_name (i := 2) sc.nd rfl (by first | exact Or.inl rfl | exact Or.inr rfl))
      (pss_one (ps_if (pt_cmpR op_ge (pv 0) (pv 2) (nomark _)) (pss_one (ps_aug (i := 0) sc.nd rfl (by first | exact Or.inl rfl | exact Or.inr rfl) pe_int ip_add)) pss_nil)))
      (pss_one (ps_ret (pv 0)))), ?_⟩
    walk_at "rd"
    refine ⟨⟨_, .of hp⟩, ?_⟩
    obtain ⟨Pv, hP⟩ : ∃ P : Nat → L2.St → Hp → Prop, P = fun (i : Nat) σ' G => G = H ∧ σ' = [some (.int a), some (.ref p), none] := ⟨_, rfl⟩
    refine loopL (xs := []) Pv (by rw [hP]; exact ⟨rfl, rfl⟩) (fun i σ' G _ h => by rw [hP] at h; rw [h.1]; exact .of hp) (fun i x σ' G hx => by simp at hx) ?_
    intro σ' G h
    rw [hP] at h
    obtain ⟨rfl, rfl⟩ := h
    walk_at "rd"
    exact k
theorem lcEmpty {J : Addr} {g : TG} {tt : TT} {te : TE} {vs : List Nat} {σ : L2.St} {H1 : Hp} {Dd : Addr} {Q : VK} (hx : H1 J = some (.lst [])) (hD : H1 Dd = none) (q : ∀ G, Ex H1 G → G Dd = some (.lst []) → Q (.ref Dd) G) : LcW (Itl K J) g tt te vs σ H1 Dd Q :=
  lc_it (Qd := fun H => Q (.ref Dd) H) (walk_list (K := K) (a := J) (xs := [])) (fun _ G => G = upd H1 Dd (.lst [])) rfl (fun i G _ e => by
    subst e
    refine .of ?_
    rw [upd_ne (ne_of_none hx hD)]
    exact hx) (fun i x H H' hi => by simp at hi) (fun G e => by
    subst e
    exact q _ (Ex.new hD) upd_same)
def spSide : Sp := fun vs H Q _ => ∃ (r p o : Addr) (s0 s1 a b : Int), vs = [.ref r, .ref p, .ref o] ∧ H r = some (.lst [.int s0, .int s1]) ∧ H p = some (.lst [.int a, .int b]) ∧ H o = some (.lst []) ∧ s0.natAbs < 2 ^ 5000 ∧ a.natAbs < 2 ^ 5000 ∧ b.natAbs < 2 ^ 5000 ∧ 0 ≤ b * s0 - s1 ∧ 0 ≤ s1 - a * s0 ∧ ∀ H', Ex H H' → Q (.int 0) H'
theorem scSide : FnScope ["rest", "pair", "others", "at", "lower", "upper"] ["rest", "pair", "others"] (defScope (top 46)) := ⟨rfl, rfl, rfl, by decide +kernel, rfl, by decide +kernel, by decide +kernel⟩
theorem has_side (B : Bi mg) (D : Df K mg "_side" (top 46) ["rest", "pair", "others"]) : Has P w K mg base "_side" 1 ["rest", "pair", "others"] spSide := by
  have sc := scSide
  refine .of D fun f fd F => F.ok sc (fun vs H Q E h => ?_) (fun cdv A outer s H vs Q E hr h => ?_)
  · obtain ⟨r, p, o, s0, s1, a, b, rfl, _⟩ := h
    rfl
  · obtain ⟨r, p, o, s0, s1, a, b, rfl, hrr, hp, ho, z0, za, zb, hlo, hup, k⟩ := h
    refine ⟨_, (pss_cons (ps_if (pt_cmpR op_eq (pe_op op_mod (pe_callB (kLen (K := K)) (by rfl) B.len (by decide +kernel) (pa_cons (pe_lc (own := [("at", 3)]) (g := gName 3)  rfl sc.nd (pi_list (pv 2)) (blkOk_by (N := (["rest", "pair", "others", "at", "lower", "upper"] : List Str)) (sc := defScope (top 46)) (by decide +kernel)) (fun _ _ _ _ _ => (pg_name (i := 3) sc.nd rfl (by first | exact Or.inl rfl | exact Or.inr rfl))) (fun _ _ _ _ _ => pts_one (pt_cmpR op_lt (pv 3) (pe_ix (ixL (K := K)) (pv 1) pe_int (fun _ _ => rfl)) (nomark _))) (fun _ _ _ _ _ => (PE.mon (pv 3)))) pa_nil)) pe_int) pe_int (nomark _)) (pss_one (ps_ret (pe_un un_neg pe_int))) pss_nil)
      (pss_cons (ps_set (i := 4) sc.nd rfl (by first | exact Or.inl rfl | exact Or.inr rfl) (pe_op op_sub (pe_op op_mulS (pe_ix (ixL (K := K)) (pv 1) pe_int (fun _ _ => rfl)) (pe_ix (ixL (K := K)) (pv 0) pe_int (fun _ _ => rfl))) (pe_ix (ixL (K := K)) (pv 0) pe_int (fun _ _ => rfl))))
      (pss_cons (ps_set (i := 5) sc.nd rfl (by first | exact Or.inl rfl | exact Or.inr rfl) (pe_op op_sub (pe_ix (ixL (K := K)) (pv 0) pe_int (fun _ _ => rfl)) (pe_op op_mulS (pe_ix (ixL (K := K)) (pv 1) pe_int (fun _ _ => rfl)) (pe_ix (ixL (K := K)) (pv 0) pe_int (fun _ _ => rfl)))))
      (pss_cons (ps_if (PW.pt (pw_and (pt_cmpR op_ge (pv 4) pe_int (nomark _)) (pw_and1 (pt_cmpR op_ge (pv 5) pe_int (nomark _))))) (pss_one (ps_ret pe_int)) pss_nil)
      (pss_cons (ps_if (PW.pt (pw_and (pt_cmpR op_lt (pv 4) pe_int (nomark _)) (pw_and1 (pt_val (pe_callB (kAll (K := K) rfl) (by rfl) B.all (by decide +kernel) (pa_cons (pe_lc (own := [("at", 3)]) (g := gName 3) (tt := tYes) rfl sc.nd (pi_list (pv 2)) (blkOk_by (N := (["rest", "pair", "others", "at", "lower", "upper"] : List Str)) (sc := defScope (top 46)) (by decide +kernel)) (fun _ _ _ _ _ => (pg_name (i := 3) sc.nd rfl (by first | exact Or.inl rfl | exact Or.inr rfl))) (fun _ _ _ _ _ => pts_nil) (fun _ _ _ _ _ => (PE.mon (pe_cmpR op_gt (pv 3) (pe_ix (ixL (K := K)) (pv 1) pe_int (fun _ _ => rfl)) (nomark _))))) pa_nil)))))) (pss_one (ps_ret pe_int)) pss_nil)
      (pss_one (ps_ret (pe_un un_neg pe_int)))))))), ?_⟩
    walk_at "rd"
    refine ⟨⟨_, .of ho⟩, fun Dd hD => lcEmpty ho hD fun G e t => ?_⟩
    refine ⟨Dd, rfl, [], .inl (.of t), by decide, ?_⟩
    rw [if_neg (by decide)]
    refine q_ixL (.of (e _ _ hp)) rfl ?_
    refine q_ixL (.of (e _ _ hrr)) rfl ?_
    walk_at "rd"
    refine ⟨cmul 5000 5000 zb z0, ?_⟩
    refine q_ixL (.of (e _ _ hrr)) rfl ?_
    walk_at "rd"
    refine q_ixL (.of (e _ _ hrr)) rfl ?_
    refine q_ixL (.of (e _ _ hp)) rfl ?_
    refine q_ixL (.of (e _ _ hrr)) rfl ?_
    walk_at "rd"
    refine ⟨cmul 5000 5000 za z0, ?_⟩
    walk_at "rd"
    rw [if_pos hlo, if_pos hup]
    exact k G e
def spAbout : Sp := fun vs H Q _ => ∃ (l t : Addr) (s0 s1 : Int), vs = [.ref l, .int 1, .ref t] ∧ H l = some (.lst [.int s0, .int s1]) ∧ H t = some (.lst []) ∧ 0 < s0 ∧ s0.natAbs < 2 ^ 5000 ∧ ∀ H', Ex H H' → Q (.int (s1 / s0)) H'
theorem scAbout : FnScope ["sums", "many", "taken", "near", "one"] ["sums", "many", "taken"] (defScope (top 47)) := ⟨rfl, rfl, rfl, by decide +kernel, rfl, by decide +kernel, by decide +kernel⟩
theorem scLower : FnScope ["sums", "more", "double", "middle", "last"] ["sums"] (defScope (top 48)) := ⟨rfl, rfl, rfl, by decide +kernel, rfl, by decide +kernel, by decide +kernel⟩
def spNo : Sp := fun _ _ _ _ => False
theorem has_lower (D : Df K mg "_lower_root" (top 48) ["sums"]) : Has P w K mg base "_lower_root" 1 ["sums"] spNo := by
  have sc := scLower
  exact .of D fun f fd F => F.ok sc (fun vs H Q E h => h.elim) (fun cdv A outer s H vs Q E hr h => h.elim)
theorem has_about (B : Bi mg) (h_lower_root : Has P w K mg base "_lower_root" 1 ["sums"] spNo) (D : Df K mg "_about" (top 47) ["sums", "many", "taken"]) : Has P w K mg base "_about" 2 ["sums", "many", "taken"] spAbout := by
  have sc := scAbout
  refine .of D fun f fd F => F.ok sc (fun vs H Q E h => ?_) (fun cdv A outer s H vs Q E hr h => ?_)
  · obtain ⟨l, t, s0, s1, rfl, _⟩ := h
    rfl
  · obtain ⟨l, t, s0, s1, rfl, hl, ht, s0p, z1, k⟩ := h
    refine ⟨_, (pss_cons (ps_set (i := 3) sc.nd rfl (by first | exact Or.inl rfl | exact Or.inr rfl) pe_int)
      (pss_cons (ps_if (pt_cmpR op_gt (pe_ix (ixL (K := K)) (pv 0) pe_int (fun _ _ => rfl)) pe_int (nomark _)) (pss_one (ps_set (i := 3) sc.nd rfl (by first | exact Or.inl rfl | exact Or.inr rfl) (PE.mon (pe_ifExp (pt_cmpR op_eq (pv 1) pe_int (nomark _)) (pe_op op_fdivW (pe_ix (ixL (K := K)) (pv 0) pe_int (fun _ _ => rfl)) (pe_ix (ixL (K := K)) (pv 0) pe_int (fun _ _ => rfl))) (pe_has h_lower_root (hr.mono (by decide)) (pa_cons (pv 0) pa_nil)))))) pss_nil)
      (pss_one (ps_ret (pe_op op_sub (pv 3) (pe_callB (kLen (K := K)) (by rfl) B.len (by decide +kernel) (pa_cons (pe_lc (own := [("one", 4)]) (g := gName 4)  rfl sc.nd (pi_list (pv 2)) (blkOk_by (N := (["sums", "many", "taken", "near", "one"] : List Str)) (sc := defScope (top 47)) (by decide +kernel)) (fun _ _ _ _ _ => (pg_name (i := 4) sc.nd rfl (by first | exact Or.inl rfl | exact Or.inr rfl))) (fun _ _ _ _ _ => pts_one (pt_cmpR op_le (pv 4) (pv 3) (nomark _))) (fun _ _ _ _ _ => (PE.mon (pv 4)))) pa_nil))))))), ?_⟩
    walk_at "rd"
    refine q_ixL (.of hl) rfl ?_
    walk_at "rd"
    rw [if_pos s0p]
    obtain ⟨R0, hR⟩ : ∃ R : VK, R = fun y G' => G' = H ∧ y = .int (s1 / s0) := ⟨_, rfl⟩
    refine ⟨R0, ?_, fun y G' h => ?_⟩
    · walk_at "rd"
      refine q_ixL (.of hl) rfl ?_
      refine q_ixL (.of hl) rfl ?_
      walk_at "rd"
      refine ⟨⟨s0p, log_lt (Nat.lt_of_lt_of_le z1 (Nat.pow_le_pow_right (by decide) (by decide)))⟩, ?_⟩
      rw [hR]
      exact ⟨rfl, rfl⟩
    · rw [hR] at h
      obtain ⟨rfl, rfl⟩ := h
      refine ⟨⟨_, .of ht⟩, fun Dd hD => lcEmpty ht hD fun G e t2 => ?_⟩
      refine ⟨Dd, rfl, [], .inl (.of t2), ?_⟩
      walk_at "rd"
      simpa using k G e
def spPairs0 : Sp := fun vs H Q _ => ∃ (s t : Addr) (l m : Int), vs = [.ref s, .int 0, .int l, .int m, .ref t] ∧ ∀ q H', Ex H H' → H q = none → H' q = some (.lst []) → Q (.ref q) H'
theorem scPairs : FnScope ["sums", "many", "least", "most", "taken", "low", "high", "at", "step", "pair", "others", "side"] ["sums", "many", "least", "most", "taken"] (defScope (top 44)) := ⟨rfl, rfl, rfl, by decide +kernel, rfl, by decide +kernel, by decide +kernel⟩
theorem has_pairsN (D : Df K mg "_pairs" (top 44) ["sums", "many", "least", "most", "taken"]) : Has P w K mg base "_pairs" 2 ["sums", "many", "least", "most", "taken"] spNo := by
  have sc := scPairs
  exact .of D fun f fd F => F.ok sc (fun vs H Q E h => h.elim) (fun cdv A outer s H vs Q E hr h => h.elim)
theorem ok_pairs0 (B : Bi mg) (z_sorted : mg "sorted" = none) (h_about : Has P w K mg base "_about" 2 ["sums", "many", "taken"] spAbout) (h_place : Has P w K mg base "_place" 1 ["at", "taken"] spPlace) (htimes : Has P w K mg base "times" 1 ["sums", "points"] (spTimes K)) (h_side : Has P w K mg base "_side" 1 ["rest", "pair", "others"] spSide)
    (h_pairs : Has P w K mg base "_pairs" 2 ["sums", "many", "least", "most", "taken"] spNo) {f : Addr} {fd : FuncData} (F : Fun K "_pairs" "_pairs" (top 44) f fd) : FnOk P w K mg base CX0 3 f fd ["sums", "many", "least", "most", "taken"] spPairs0 := by
  have sc := scPairs
  refine F.ok sc (fun vs H Q E h => ?_) (fun cdv A outer s H vs Q E hr h => ?_)
  · obtain ⟨s, t, l, m, rfl, _⟩ := h
    rfl
  · obtain ⟨s0, t, l, m, rfl, k⟩ := h
    refine ⟨_, (pss_cons (ps_if (pt_cmpR op_eq (pv 1) pe_int (nomark _)) (pss_one (ps_ret (pe_lstN pa_nil))) pss_nil)
      (pss_cons (ps_set (i := 5) sc.nd rfl (by first | exact Or.inl rfl | exact Or.inr rfl) (pv 2))
      (pss_cons (ps_set (i := 6) sc.nd rfl (by first | exact Or.inl rfl | exact Or.inr rfl) (pe_op op_add (pe_op op_sub (pe_op op_sub (pv 3) (pe_callB (kLen (K := K)) (by rfl) B.len (by decide +kernel) (pa_cons (pv 4) pa_nil))) (pe_op op_mulS pe_int (pv 1))) pe_int))
      (pss_cons (ps_set (i := 7) sc.nd rfl (by first | exact Or.inl rfl | exact Or.inr rfl) (pe_op op_fdivW (pe_op op_add (pv 5) (pv 6)) pe_int))
      (pss_cons (ps_set (i := 8) sc.nd rfl (by first | exact Or.inl rfl | exact Or.inr rfl) (pe_op op_add (pe_op op_sub (pv 6) (pv 5)) pe_int))
      (pss_cons (ps_if (pt_cmpR op_lt (pv 1) pe_int (nomark _)) (pss_cons (ps_set (i := 7) sc.nd rfl (by first | exact Or.inl rfl | exact Or.inr rfl) (pe_callB (call_max2 rfl) (by rfl) B.max (by decide +kernel) (pa_cons (pv 5) (pa_cons (pe_callB (call_min2 rfl) (by rfl) B.min (by decide +kernel) (pa_cons (pv 6) (pa_cons (pe_has h_about (hr.mono (by decide)) (pa_cons (pv 0) (pa_cons (pv 1) (pa_cons (pv 4) pa_nil)))) pa_nil))) pa_nil))))
      (pss_one (ps_set (i := 8) sc.nd rfl (by first | exact Or.inl rfl | exact Or.inr rfl) pe_int))) pss_nil)
      (pss_one (ps_while PassesOwn.never (PT.mon (pt_val pe_bl)) (pss_cons (ps_set (i := 9) sc.nd rfl (by first | exact Or.inl rfl | exact Or.inr rfl) (pe_lstN (pa_cons (pe_has h_place (hr.mono (by decide)) (pa_cons (pv 7) (pa_cons (pv 4) pa_nil))) (pa_cons (pe_has h_place (hr.mono (by decide)) (pa_cons (pe_op op_add (pv 7) pe_int) (pa_cons (pv 4) pa_nil))) pa_nil))))
      (pss_cons (ps_set (i := 10) sc.nd rfl (by first | exact Or.inl rfl | exact Or.inr rfl) (pe_has h_pairs (hr.mono (by decide)) (pa_cons (pe_has htimes (hr.mono (by decide)) (pa_cons (pv 0) (pa_cons (pv 9) pa_nil))) (pa_cons (pe_op op_sub (pv 1) pe_int) (pa_cons (pv 2) (pa_cons (pv 3) (pa_cons (pe_callB (kSrt (K := K)) (by rfl) z_sorted (by decide +kernel) (pa_cons (pe_lstN (kStar (K := K) (pv 4) (kStar (K := K) (pv 9) pa_nil))) pa_nil)) pa_nil)))))))
      (pss_cons (ps_set (i := 11) sc.nd rfl (by first | exact Or.inl rfl | exact Or.inr rfl) (pe_has h_side (hr.mono (by decide)) (pa_cons (pe_has htimes (hr.mono (by decide)) (pa_cons (pv 0) (pa_cons (pv 10) pa_nil))) (pa_cons (pv 9) (pa_cons (pv 10) pa_nil)))))
      (pss_cons (ps_if (PW.pt (pw_or (pt_cmpR op_eq (pv 11) pe_int (nomark _)) (pw_or1 (pt_cmpR op_ge (pv 5) (pv 6) (nomark _))))) (pss_one (ps_ret (pe_callB (kSrt (K := K)) (by rfl) z_sorted (by decide +kernel) (pa_cons (pe_lstN (kStar (K := K) (pv 9) (kStar (K := K) (pv 10) pa_nil))) pa_nil)))) pss_nil)
      (pss_cons (ps_if (pt_cmpR op_gt (pv 11) pe_int (nomark _)) (pss_one (ps_set (i := 5) sc.nd rfl (by first | exact Or.inl rfl | exact Or.inr rfl) (pe_op op_add (pv 7) pe_int))) (pss_one (ps_set (i := 6) sc.nd rfl (by first | exact Or.inl rfl | exact Or.inr rfl) (pe_op op_sub (pv 7) pe_int))))
      (pss_cons (ps_set (i := 7) sc.nd rfl (by first | exact Or.inl rfl | exact Or.inr rfl) (pe_callB (call_max2 rfl) (by rfl) B.max (by decide +kernel) (pa_cons (pe_op op_sub (pv 7) (pv 8)) (pa_cons (pe_callB (call_min2 rfl) (by rfl) B.min (by decide +kernel) (pa_cons (pe_op op_add (pv 7) (pv 8)) (pa_cons (pe_op op_fdivW (pe_op op_add (pv 5) (pv 6)) pe_int) pa_nil))) pa_nil))))
      (pss_one (ps_set (i := 8) sc.nd rfl (by first | exact Or.inl rfl | exact Or.inr rfl) (pe_op op_mulS pe_int (pv 8)))))))))))))))))), ?_⟩
    walk_at "rd"
    refine ⟨by decide, fun q G nq e tq => ?_⟩
    exact k q G e nq tq
def atF (s0 s1 : Int) (N : Nat) : Int := if s1 / s0 ≤ (N : Int) - 1 then s1 / s0 else (N : Int) - 1
def spPairs1 : Sp := fun vs H Q _ => ∃ (s t : Addr) (s0 s1 : Int) (N : Nat), vs = [.ref s, .int 1, .int 0, .int (N : Int), .ref t] ∧ H s = some (.lst [.int s0, .int s1]) ∧ H t = some (.lst []) ∧ 0 < s0 ∧ 0 ≤ s1 ∧ s1 ≤ N * s0 ∧ 1 ≤ N ∧ s0.natAbs < 2 ^ 1000 ∧ s1.natAbs < 2 ^ 2000 ∧ N < 2 ^ 1000 ∧ ∀ q H', Ex H H' → H q = none → H' q = some (.lst [.int (atF s0 s1 N), .int (atF s0 s1 N + 1)]) → Q (.ref q) H'
theorem at_ok {s0 s1 : Int} {N : Nat} (h0 : 0 < s0) (h1 : 0 ≤ s1) (h2 : s1 ≤ N * s0) (hN : 1 ≤ N) : 0 ≤ atF s0 s1 N ∧ atF s0 s1 N ≤ (N : Int) - 1 ∧ 0 ≤ (atF s0 s1 N + 1) * s0 - s1 ∧ 0 ≤ s1 - atF s0 s1 N * s0 := by
  have q0 : 0 ≤ s1 / s0 := Int.ediv_nonneg h1 (by omega)
  have q1 := Int.ediv_mul_le s1 (Int.ne_of_gt h0)
  have q2 := Int.lt_ediv_add_one_mul_self s1 h0
  unfold atF
  split
  · rename_i h
    exact ⟨q0, h, by omega, by omega⟩
  · rename_i h
    have : ((N : Int) - 1) * s0 ≤ s1 / s0 * s0 := Int.mul_le_mul_of_nonneg_right (by omega) (by omega)
    exact ⟨by omega, Int.le_refl _, by rw [show (N : Int) - 1 + 1 = N by omega]; omega, by omega⟩
theorem srt2 {ns : List Int} {a : Int} (h : ns.Perm [a, a + 1]) (hp : ns.Pairwise (· ≤ ·)) : ns = [a, a + 1] := by
  have hl := h.length_eq
  match ns, hl with
  | [x, y], _ =>
    have h1 : a ∈ [x, y] := h.mem_iff.mpr (by simp)
    have h2 : a + 1 ∈ [x, y] := h.mem_iff.mpr (by simp)
    have h3 : x ≤ y := by
      cases hp with
      | cons q _ => exact q y (by simp)
    simp only [List.mem_cons, List.not_mem_nil, or_false] at h1 h2
    have : x = a ∧ y = a + 1 := by omega
    rw [this.1, this.2]
theorem ok_pairs1 (B : Bi mg) (z_sorted : mg "sorted" = none) (h_about : Has P w K mg base "_about" 2 ["sums", "many", "taken"] spAbout) (h_place : Has P w K mg base "_place" 1 ["at", "taken"] spPlace) (htimes : Has P w K mg base "times" 1 ["sums", "points"] (spTimes K)) (h_side : Has P w K mg base "_side" 1 ["rest", "pair", "others"] spSide)
    (h_pairs : Has P w K mg base "_pairs" 3 ["sums", "many", "least", "most", "taken"] spPairs0) {f : Addr} {fd : FuncData} (F : Fun K "_pairs" "_pairs" (top 44) f fd) : FnOk P w K mg base CX0 4 f fd ["sums", "many", "least", "most", "taken"] spPairs1 := by
  have sc := scPairs
  refine F.ok sc (fun vs H Q E h => ?_) (fun cdv A outer s H vs Q E hr h => ?_)
  · obtain ⟨s, t, s0, s1, N, rfl, _⟩ := h
    rfl
  · obtain ⟨s, t, s0, s1, N, rfl, hs, ht, z0, z1, z2, hN, b0, b1, bN, k⟩ := h
    refine ⟨_, (pss_cons (ps_if (pt_cmpR op_eq (pv 1) pe_int (nomark _)) (pss_one (ps_ret (pe_lstN pa_nil))) pss_nil)
      (pss_cons (ps_set (i := 5) sc.nd rfl (by first | exact Or.inl rfl | exact Or.inr rfl) (pv 2))
      (pss_cons (ps_set (i := 6) sc.nd rfl (by first | exact Or.inl rfl | exact Or.inr rfl) (pe_op op_add (pe_op op_sub (pe_op op_sub (pv 3) (pe_callB (kLen (K := K)) (by rfl) B.len (by decide +kernel) (pa_cons (pv 4) pa_nil))) (pe_op op_mulS pe_int (pv 1))) pe_int))
      (pss_cons (ps_set (i := 7) sc.nd rfl (by first | exact Or.inl rfl | exact Or.inr rfl) (pe_op op_fdivW (pe_op op_add (pv 5) (pv 6)) pe_int))
      (pss_cons (ps_set (i := 8) sc.nd rfl (by first | exact Or.inl rfl | exact Or.inr rfl) (pe_op op_add (pe_op op_sub (pv 6) (pv 5)) pe_int))
      (pss_cons (ps_if (pt_cmpR op_lt (pv 1) pe_int (nomark _)) (pss_cons (ps_set (i := 7) sc.nd rfl (by first | exact Or.inl rfl | exact Or.inr rfl) (pe_callB (call_max2 rfl) (by rfl) B.max (by decide +kernel) (pa_cons (pv 5) (pa_cons (pe_callB (call_min2 rfl) (by rfl) B.min (by decide +kernel) (pa_cons (pv 6) (pa_cons (pe_has h_about (hr.mono (by decide)) (pa_cons (pv 0) (pa_cons (pv 1) (pa_cons (pv 4) pa_nil)))) pa_nil))) pa_nil))))
      (pss_one (ps_set (i := 8) sc.nd rfl (by first | exact Or.inl rfl | exact Or.inr rfl) pe_int))) pss_nil)
      (pss_one (ps_while PassesOwn.never (PT.mon (pt_val pe_bl)) (pss_cons (ps_set (i := 9) sc.nd rfl (by first | exact Or.inl rfl | exact Or.inr rfl) (pe_lstN (pa_cons (pe_has h_place (hr.mono (by decide)) (pa_cons (pv 7) (pa_cons (pv 4) pa_nil))) (pa_cons (pe_has h_place (hr.mono (by decide)) (pa_cons (pe_op op_add (pv 7) pe_int) (pa_cons (pv 4) pa_nil))) pa_nil))))
      (pss_cons (ps_set (i := 10) sc.nd rfl (by first | exact Or.inl rfl | exact Or.inr rfl) (pe_has h_pairs (hr.mono (by decide)) (pa_cons (pe_has htimes (hr.mono (by decide)) (pa_cons (pv 0) (pa_cons (pv 9) pa_nil))) (pa_cons (pe_op op_sub (pv 1) pe_int) (pa_cons (pv 2) (pa_cons (pv 3) (pa_cons (pe_callB (kSrt (K := K)) (by rfl) z_sorted (by decide +kernel) (pa_cons (pe_lstN (kStar (K := K) (pv 4) (kStar (K := K) (pv 9) pa_nil))) pa_nil)) pa_nil)))))))
      (pss_cons (ps_set (i := 11) sc.nd rfl (by first | exact Or.inl rfl | exact Or.inr rfl) (pe_has h_side (hr.mono (by decide)) (pa_cons (pe_has htimes (hr.mono (by decide)) (pa_cons (pv 0) (pa_cons (pv 10) pa_nil))) (pa_cons (pv 9) (pa_cons (pv 10) pa_nil)))))
      (pss_cons (ps_if (PW.pt (pw_or (pt_cmpR op_eq (pv 11) pe_int (nomark _)) (pw_or1 (pt_cmpR op_ge (pv 5) (pv 6) (nomark _))))) (pss_one (ps_ret (pe_callB (kSrt (K := K)) (by rfl) z_sorted (by decide +kernel) (pa_cons (pe_lstN (kStar (K := K) (pv 9) (kStar (K := K) (pv 10) pa_nil))) pa_nil)))) pss_nil)
      (pss_cons (ps_if (pt_cmpR op_gt (pv 11) pe_int (nomark _)) (pss_one (ps_set (i := 5) sc.nd rfl (by first | exact Or.inl rfl | exact Or.inr rfl) (pe_op op_add (pv 7) pe_int))) (pss_one (ps_set (i := 6) sc.nd rfl (by first | exact Or.inl rfl | exact Or.inr rfl) (pe_op op_sub (pv 7) pe_int))))
      (pss_cons (ps_set (i := 7) sc.nd rfl (by first | exact Or.inl rfl | exact Or.inr rfl) (pe_callB (call_max2 rfl) (by rfl) B.max (by decide +kernel) (pa_cons (pe_op op_sub (pv 7) (pv 8)) (pa_cons (pe_callB (call_min2 rfl) (by rfl) B.min (by decide +kernel) (pa_cons (pe_op op_add (pv 7) (pv 8)) (pa_cons (pe_op op_fdivW (pe_op op_add (pv 5) (pv 6)) pe_int) pa_nil))) pa_nil))))
      (pss_one (ps_set (i := 8) sc.nd rfl (by first | exact Or.inl rfl | exact Or.inr rfl) (pe_op op_mulS pe_int (pv 8)))))))))))))))))), ?_⟩
    walk_at "rd"
    rw [if_neg (by decide)]
    refine ⟨[], .inl (.of ht), cmulL, ?_⟩
    rw [show ((N : Int) - (([] : List V).length : Int) - 2 * 1 + 1) = (N : Int) - 1 by simp; omega]
    refine ⟨⟨by omega, log_sm (by omega) (by omega)⟩, ?_⟩
    rw [if_pos (by decide)]
    have bs0 : s0.natAbs < 2 ^ 5000 := Nat.lt_of_lt_of_le b0 (Nat.pow_le_pow_right (by decide) (by decide))
    refine ⟨s, t, s0, s1, rfl, hs, ht, z0, bs0, fun G e => ⟨_, rfl, ?_⟩⟩
    obtain ⟨a0, a1, a2, a3⟩ := at_ok z0 z1 z2 hN
    have eat : (if (if s1 / s0 < (N : Int) - 1 then s1 / s0 else (N : Int) - 1) > 0 then (if s1 / s0 < (N : Int) - 1 then s1 / s0 else (N : Int) - 1) else 0) = atF s0 s1 N := by
      have q0 : 0 ≤ s1 / s0 := Int.ediv_nonneg z1 (by omega)
      unfold atF
      split <;> split <;> (try split) <;> omega
    rw [eat]
    obtain ⟨A0, hA0⟩ : ∃ A0, A0 = atF s0 s1 N := ⟨_, rfl⟩
    rw [← hA0] at a0 a1 a2 a3 k ⊢
    refine ⟨fun _ σ' G' => σ' = _ ∧ G' = G, ⟨0, rfl, rfl⟩, ?_⟩
    rintro m σ' G' ⟨rfl, rfl⟩
    refine ⟨fun b G2 => b = true ∧ G2 = G', ⟨_, rfl, rfl, rfl⟩, fun b G2 hb => ?_⟩
    rw [hb.1, hb.2]
    show if true = true then _ else _
    rw [if_pos rfl]
    refine ⟨fun _ _ => False, fun _ _ h => h.elim, ?_⟩
    walk_at "rd"
    have ht1 := e _ _ ht
    have hs1 := e _ _ hs
    refine ⟨t, A0, rfl, ht1, ?_⟩
    walk_at "rd"
    refine ⟨t, A0 + 1, rfl, ht1, ?_⟩
    refine ⟨by decide, fun pr G2 n2 e2 t2 => ?_⟩
    walk_at "rd"
    have bA : A0.natAbs < 2 ^ 1000 := by omega
    have bA1 : (A0 + 1).natAbs < 2 ^ 1001 := by
      have : (2 : Nat) ^ 1001 = 2 * 2 ^ 1000 := by rw [Nat.pow_succ]; omega
      omega
    have szS : SzL [s0, s1] 2000 := fun x hx => by
      simp only [List.mem_cons, List.not_mem_nil, or_false] at hx
      rcases hx with rfl | rfl
      · exact Nat.lt_of_lt_of_le b0 (Nat.pow_le_pow_right (by decide) (by decide))
      · exact b1
    have szP : SzL [A0, A0 + 1] 1001 := fun x hx => by
      simp only [List.mem_cons, List.not_mem_nil, or_false] at hx
      rcases hx with rfl | rfl
      · exact Nat.lt_of_lt_of_le bA (Nat.pow_le_pow_right (by decide) (by decide))
      · exact bA1
    refine ⟨s, pr, [s0, s1], [A0, A0 + 1], 2000, 1001, rfl, e2 _ _ hs1, t2, szS, szP, by simp, by simp, by decide, by decide, fun q3 G3 e3 t3 => ?_⟩
    try dsimp only
    rw [r_star]
    walk_at "rd"
    refine ⟨[], .inr (.of (e3 _ _ (e2 _ _ ht1))), ?_⟩
    try dsimp only
    rw [r_star]
    walk_at "rd"
    refine ⟨[.int A0, .int (A0 + 1)], .inr (.of (e3 _ _ t2)), ?_⟩
    refine ⟨by simp; decide, fun l4 G4 n4 e4 t4 => ?_⟩
    refine ⟨l4, [A0, A0 + 1], rfl, .of t4, fun ns' _ _ l5 G5 n5 e5 t5 => ?_⟩
    refine ⟨q3, l5, _, _, rfl, fun q6 G6 e6 n6 t6 => ?_⟩
    walk_at "rd"
    have e26 := ((e3.trans e4).trans e5).trans e6
    refine ⟨s, q6, [s0, s1], [], 2000, 0, rfl, (e2.trans e26) _ _ hs1, t6, szS, fun x hx => by simp at hx, by simp, by simp, by decide, by decide, fun q7 G7 e7 t7 => ?_⟩
    walk_at "rd"
    have t2' := (e26.trans e7) _ _ t2
    refine ⟨q7, pr, q6, s0, s1, A0, A0 + 1, rfl, t7, t2', e7 _ _ t6, bs0, Nat.lt_of_lt_of_le bA (Nat.pow_le_pow_right (by decide) (by decide)), Nat.lt_of_lt_of_le bA1 (Nat.pow_le_pow_right (by decide) (by decide)), a2, a3, fun G8 e8 => ?_⟩
    walk_at "rd"
    try dsimp only
    rw [r_star]
    walk_at "rd"
    refine ⟨[.int A0, .int (A0 + 1)], .inr (.of (e8 _ _ t2')), ?_⟩
    try dsimp only
    rw [r_star]
    walk_at "rd"
    refine ⟨[], .inr (.of (e8 _ _ (e7 _ _ t6))), ?_⟩
    refine ⟨by simp; decide, fun l9 G9 n9 e9 t9 => ?_⟩
    refine ⟨l9, [A0, A0 + 1], rfl, .of t9, fun ns' hp1 hp2 l10 G10 n10 e10 t10 => ?_⟩
    rw [srt2 hp1 hp2] at t10
    have eall := (((e.trans e2).trans e26).trans e7).trans (e8.trans e9)
    exact k l10 G10 (eall.trans e10) (ex_free eall n10) t10
def orS (a b : Sp) : Sp := fun vs H Q E => a vs H Q E ∨ b vs H Q E
theorem FnOk_or {k : Nat} {f : Addr} {fd : FuncData} {ps : List Str} {a b : Sp} (x : FnOk P w K mg base CX0 k f fd ps a) (y : FnOk P w K mg base CX0 k f fd ps b) : FnOk P w K mg base CX0 k f fd ps (orS a b) :=
  ⟨fun vs H Q E h => h.elim (x.len vs H Q E) (y.len vs H Q E), fun A o s H args us vs Q E hr he hb hv h => h.elim (x.run A o s H args us vs Q E hr he hb hv) (y.run A o s H args us vs Q E hr he hb hv)⟩
theorem has_pairs (B : Bi mg) (z_sorted : mg "sorted" = none) (h_about : Has P w K mg base "_about" 2 ["sums", "many", "taken"] spAbout) (h_place : Has P w K mg base "_place" 1 ["at", "taken"] spPlace) (htimes : Has P w K mg base "times" 1 ["sums", "points"] (spTimes K)) (h_side : Has P w K mg base "_side" 1 ["rest", "pair", "others"] spSide)
    (D : Df K mg "_pairs" (top 44) ["sums", "many", "least", "most", "taken"]) : Has P w K mg base "_pairs" 4 ["sums", "many", "least", "most", "taken"] (orS spPairs0 spPairs1) := by
  have hN := has_pairsN (P := P) (w := w) (base := base) D
  have h0 : Has P w K mg base "_pairs" 3 ["sums", "many", "least", "most", "taken"] spPairs0 := Has.of D fun f fd F => ok_pairs0 B z_sorted h_about h_place htimes h_side hN F
  exact Has.of D fun f fd F => FnOk_or ((ok_pairs0 B z_sorted h_about h_place htimes h_side hN F).mono (by decide)) (ok_pairs1 B z_sorted h_about h_place htimes h_side h0 F)
def lowF (s0 s1 : Int) (N m : Nat) : List Int := if m = 1 then [0] else [atF s0 s1 N, atF s0 s1 N + 1]
def higF (N m : Nat) : List Int := if m = 1 then [(N : Int)] else [0, (N : Int)]
structure Sums2 (s0 s1 s2 : Int) (N : Nat) : Prop where
  p0 : 0 < s0
  p1 : 0 ≤ s1
  q1 : s1 ≤ N * s0
  n2 : 2 ≤ N
  b0 : s0.natAbs < 2 ^ 1000
  b1 : s1.natAbs < 2 ^ 2000
  b2 : s2.natAbs < 2 ^ 4000
  bN : N < 2 ^ 1000
def spLow (K : PySem.W.Frag) : Sp := fun vs H Q _ => ∃ (s : Addr) (s0 s1 s2 : Int) (N m : Nat), vs = [.ref s, .int (m : Int), .int (N : Int)] ∧ H s = some (.lst ([s0, s1, s2].map V.int)) ∧ Sums2 s0 s1 s2 N ∧ (m = 1 ∨ m = 2) ∧ ∀ q H', Ex H H' → H' q = some (.lst ((lowF s0 s1 N m).map V.int)) → Q (.ref q) H'
theorem scLow : FnScope ["sums", "many", "slips", "told"] ["sums", "many", "slips"] (defScope (top 36)) := ⟨rfl, rfl, rfl, by decide +kernel, rfl, by decide +kernel, by decide +kernel⟩
theorem Sums2.sz {s0 s1 s2 : Int} {N : Nat} (h : Sums2 s0 s1 s2 N) : SzL [s0, s1, s2] 4000 := fun x hx => by
  simp only [List.mem_cons, List.not_mem_nil, or_false] at hx
  rcases hx with rfl | rfl | rfl
  · exact Nat.lt_of_lt_of_le h.b0 (Nat.pow_le_pow_right (by decide) (by decide))
  · exact Nat.lt_of_lt_of_le h.b1 (Nat.pow_le_pow_right (by decide) (by decide))
  · exact h.b2
theorem SzL.take {l : List Int} {b : Nat} (h : SzL l b) (k : Nat) : SzL (l.take k) b := fun x hx => h x (List.mem_of_mem_take hx)
theorem has_low (B : Bi mg) (htimes : Has P w K mg base "times" 1 ["sums", "points"] (spTimes K)) (h_pairs : Has P w K mg base "_pairs" 4 ["sums", "many", "least", "most", "taken"] (orS spPairs0 spPairs1)) (D : Df K mg "lowest_points" (top 36) ["sums", "many", "slips"]) : Has P w K mg base "lowest_points" 5 ["sums", "many", "slips"] (spLow K) := by
  have sc := scLow
  refine .of D fun f fd F => F.ok sc (fun vs H Q E h => ?_) (fun cdv A outer s H vs Q E hr h => ?_)
  · obtain ⟨s, s0, s1, s2, N, m, rfl, _⟩ := h
    rfl
  · obtain ⟨s, s0, s1, s2, N, m, rfl, hs, S, hm, k⟩ := h
    refine ⟨_, (pss_cons (ps_set (i := 3) sc.nd rfl (by first | exact Or.inl rfl | exact Or.inr rfl) (pe_slice (slL (K := K)) (pv 0) po_none (po_some (pv 1))))
      (pss_cons (ps_if (pt_cmpR op_eq (pe_op op_mod (pv 1) pe_int) pe_int (nomark _)) (pss_one (ps_ret (pe_has h_pairs (hr.mono (by decide)) (pa_cons (pv 3) (pa_cons (pe_op op_fdivW (pv 1) pe_int) (pa_cons pe_int (pa_cons (pv 2) (pa_cons (pe_lstN pa_nil) pa_nil)))))))) pss_nil)
      (pss_one (ps_ret (pe_lstN (pa_cons pe_int (kStar (K := K) (pe_has h_pairs (hr.mono (by decide)) (pa_cons (pe_has htimes (hr.mono (by decide)) (pa_cons (pv 3) (pa_cons (pe_lstN (pa_cons pe_int pa_nil)) pa_nil))) (pa_cons (pe_op op_fdivW (pv 1) pe_int) (pa_cons pe_int (pa_cons (pv 2) (pa_cons (pe_lstN pa_nil) pa_nil)))))) pa_nil))))))), ?_⟩
    walk_at "rd"
    refine ⟨s, _, rfl, .of hs, fun tl G n1 e1 t1 => ?_⟩
    rw [cut_take, ← List.map_take] at t1
    rcases hm with rfl | rfl
    · refine ⟨by decide, ?_⟩
      rw [if_neg (by decide)]
      rw [r_star]
      walk_at "rd"
      refine ⟨by decide, fun z G2 n2 e2 t2 => ?_⟩
      refine ⟨tl, z, _, [0], 4000, 1, rfl, e2 _ _ t1, t2, S.sz.take 1, fun x hx => by simp at hx; subst hx; decide, by simp, by simp, by decide, by decide, fun q3 G3 e3 t3 => ?_⟩
      refine ⟨⟨by decide, by decide⟩, ?_⟩
      refine ⟨by decide, fun z4 G4 n4 e4 t4 => ?_⟩
      refine .inl ⟨q3, z4, 1, N, rfl, fun q5 G5 e5 n5 t5 => ?_⟩
      refine ⟨q5, rfl, [], .inr (.of t5), by decide, fun q6 G6 n6 e6 t6 => ?_⟩
      exact k q6 G6 (((((e1.trans e2).trans e3).trans e4).trans e5).trans e6) t6
    · refine ⟨by decide, ?_⟩
      rw [if_pos (by decide)]
      refine ⟨⟨by decide, by decide⟩, ?_⟩
      refine ⟨by decide, fun z4 G4 n4 e4 t4 => ?_⟩
      refine .inr ⟨tl, z4, s0, s1, N, rfl, e4 _ _ t1, t4, S.p0, S.p1, S.q1, by have := S.n2; omega, S.b0, S.b1, S.bN, fun q5 G5 e5 n5 t5 => ?_⟩
      refine k q5 G5 ((e1.trans e4).trans e5) ?_
      rw [t5]
      unfold lowF
      rw [if_neg (by decide)]
      rfl
def spHig (K : PySem.W.Frag) : Sp := fun vs H Q _ => ∃ (s : Addr) (s0 s1 s2 : Int) (N m : Nat), vs = [.ref s, .int (m : Int), .int (N : Int)] ∧ H s = some (.lst ([s0, s1, s2].map V.int)) ∧ Sums2 s0 s1 s2 N ∧ (m = 1 ∨ m = 2) ∧ ∀ q H', Ex H H' → H' q = some (.lst ((higF N m).map V.int)) → Q (.ref q) H'
theorem scHig : FnScope ["sums", "many", "slips", "told", "one"] ["sums", "many", "slips"] (defScope (top 37)) := ⟨rfl, rfl, rfl, by decide +kernel, rfl, by decide +kernel, by decide +kernel⟩
theorem neg_ints {ys : List V} {cur : List Int} (hl : ys.length = cur.length) (h : ∀ (i : Nat) y, ys[i]? = some y → ∃ c, cur[i]? = some c ∧ y = .int (-c)) : ys = (cur.map fun c => -c).map V.int := by
  apply List.ext_getElem?
  intro i
  by_cases hi : i < ys.length
  · obtain ⟨c, h1, h2⟩ := h i _ (List.getElem?_eq_getElem hi)
    rw [List.getElem?_eq_getElem hi, h2, List.getElem?_map, List.getElem?_map, h1]
    rfl
  · rw [List.getElem?_eq_none (by omega), List.getElem?_eq_none (by simp; omega)]
theorem has_hig (B : Bi mg) (htimes : Has P w K mg base "times" 1 ["sums", "points"] (spTimes K)) (h_pairs : Has P w K mg base "_pairs" 4 ["sums", "many", "least", "most", "taken"] (orS spPairs0 spPairs1)) (D : Df K mg "highest_points" (top 37) ["sums", "many", "slips"]) : Has P w K mg base "highest_points" 5 ["sums", "many", "slips"] (spHig K) := by
  have sc := scHig
  refine .of D fun f fd F => F.ok sc (fun vs H Q E h => ?_) (fun cdv A outer s H vs Q E hr h => ?_)
  · obtain ⟨s, s0, s1, s2, N, m, rfl, _⟩ := h
    rfl
  · obtain ⟨s, s0, s1, s2, N, m, rfl, hs, S, hm, k⟩ := h
    refine ⟨_, (pss_cons (ps_setLc (i := 3) (own := [("one", 4)]) (g := gName 4) (tt := tYes) rfl sc.nd rfl rfl (sw_true rfl rfl rfl (by decide +kernel)) (pi_list (pe_has htimes (hr.mono (by decide)) (pa_cons (pe_slice (slL (K := K)) (pv 0) po_none (po_some (pv 1))) (pa_cons (pe_lstN (pa_cons (pv 2) pa_nil)) pa_nil)))) (blkOk_by (N := (["sums", "many", "slips", "told", "one"] : List Str)) (sc := defScope (top 37)) (by decide +kernel)) (fun _ _ _ _ _ => (pg_name (i := 4) sc.nd rfl (by first | exact Or.inl rfl | exact Or.inr rfl))) (fun _ _ _ _ _ => pts_nil) (fun _ _ _ _ _ => (PE.mon (pe_un un_neg (pv 4)))))
      (pss_cons (ps_if (pt_cmpR op_eq (pe_op op_mod (pv 1) pe_int) pe_int (nomark _)) (pss_one (ps_ret (pe_lstN (kStar (K := K) (pe_has h_pairs (hr.mono (by decide)) (pa_cons (pv 3) (pa_cons (pe_op op_fdivW (pv 1) pe_int) (pa_cons pe_int (pa_cons (pe_op op_sub (pv 2) pe_int) (pa_cons (pe_lstN pa_nil) pa_nil)))))) (pa_cons (pv 2) pa_nil))))) pss_nil)
      (pss_one (ps_ret (pe_lstN (pa_cons pe_int (kStar (K := K) (pe_has h_pairs (hr.mono (by decide)) (pa_cons (pe_has htimes (hr.mono (by decide)) (pa_cons (pv 3) (pa_cons (pe_lstN (pa_cons pe_int pa_nil)) pa_nil))) (pa_cons (pe_op op_sub (pe_op op_fdivW (pv 1) pe_int) pe_int) (pa_cons pe_int (pa_cons (pe_op op_sub (pv 2) pe_int) (pa_cons (pe_lstN pa_nil) pa_nil)))))) (pa_cons (pv 2) pa_nil)))))))), ?_⟩
    walk_at "rd"
    refine ⟨s, _, rfl, .of hs, fun tl G n1 e1 t1 => ?_⟩
    rw [cut_take, ← List.map_take] at t1
    refine ⟨by decide, fun z G2 n2 e2 t2 => ?_⟩
    have szN : SzL [(N : Int)] 1001 := fun x hx => by
      simp only [List.mem_cons, List.not_mem_nil, or_false] at hx
      subst hx
      exact Nat.lt_of_lt_of_le (show ((N : Int)).natAbs < 2 ^ 1000 by rw [Int.natAbs_natCast]; exact S.bN) (Nat.pow_le_pow_right (by decide) (by decide))
    have lt3 : (([s0, s1, s2] : List Int).take m).length ≤ 6 := by rw [List.length_take]; simp; omega
    refine ⟨tl, z, _, [(N : Int)], 4000, 1001, rfl, e2 _ _ t1, t2, S.sz.take m, szN, lt3, by simp, by decide, by decide, fun q3 G3 e3 t3 => ?_⟩
    obtain ⟨cur, hcur⟩ : ∃ cur, cur = timesL (([s0, s1, s2] : List Int).take m) [(N : Int)] := ⟨_, rfl⟩
    rw [← hcur] at t3
    have lcur : cur.length ≤ 6 := by rw [hcur]; simp [timesL, stepL]; omega
    have bcur : SzL cur 5005 := by
      rw [hcur]
      exact (S.sz.take m).step (szN _ (by simp)) lt3
    refine ⟨q3, rfl, ⟨_, .of t3⟩, fun Dd hD => lcLn (fun i y _ => ∃ c, cur[i]? = some c ∧ y = .int (-c)) (fun _ _ _ _ _ h => h) hD (.of t3) (by rw [List.length_map]; omega) (fun _ => rfl) ?_ ?_⟩
    · intro i x G4 hx e4
      rw [List.getElem?_map] at hx
      cases hc : cur[i]? with
      | none => rw [hc] at hx; cases hx
      | some c =>
        rw [hc] at hx
        cases hx
        obtain ⟨R0, hR⟩ : ∃ R : VK, R = fun y G' => G' = G4 ∧ y = .int (-c) := ⟨_, rfl⟩
        refine ⟨R0, ?_, fun y G' h => by rw [hR] at h; obtain ⟨rfl, h⟩ := h; exact ⟨Ex.refl _, c, rfl, h⟩⟩
        walk_at "rd"
        rw [hR]
        exact ⟨rfl, rfl⟩
    · intro G4 ys e4 hy hl hr4
      rw [List.length_map] at hl
      rw [neg_ints hl hr4] at hy
      have e04 := ((e1.trans e2).trans e3).trans e4
      rcases hm with rfl | rfl
      · refine ⟨by decide, ?_⟩
        rw [if_pos (by decide)]
        rw [r_star]
        walk_at "rd"
        refine ⟨⟨by decide, by decide⟩, ?_⟩
        refine ⟨by decide, fun z5 G5 n5 e5 t5 => ?_⟩
        refine .inl ⟨Dd, z5, 0, (N : Int) - 1, rfl, fun q6 G6 e6 n6 t6 => ?_⟩
        refine ⟨q6, rfl, [], .inr (.of t6), Nat.le_trans (show _ ≤ 5 by simp) (by decide), fun q7 G7 n7 e7 t7 => ?_⟩
        exact k q7 G7 (((e04.trans e5).trans e6).trans e7) t7
      · refine ⟨by decide, ?_⟩
        rw [if_neg (by decide)]
        rw [r_star]
        walk_at "rd"
        refine ⟨by decide, fun z5 G5 n5 e5 t5 => ?_⟩
        refine ⟨Dd, z5, _, [0], 5005, 1, rfl, e5 _ _ hy, t5, fun x hx => by obtain ⟨c, hc, rfl⟩ := List.mem_map.mp hx; rw [Int.natAbs_neg]; exact bcur c hc, fun x hx => by simp at hx; subst hx; decide, by rw [List.length_map]; exact lcur, by simp, by decide, by decide, fun q6 G6 e6 t6 => ?_⟩
        refine ⟨⟨by decide, by decide⟩, ?_⟩
        refine ⟨by decide, fun z7 G7 n7 e7 t7 => ?_⟩
        refine .inl ⟨q6, z7, 1, (N : Int) - 1, rfl, fun q8 G8 e8 n8 t8 => ?_⟩
        refine ⟨q8, rfl, [], .inr (.of t8), Nat.le_trans (show _ ≤ 5 by simp) (by decide), fun q9 G9 n9 e9 t9 => ?_⟩
        exact k q9 G9 (((((e04.trans e5).trans e6).trans e7).trans e8).trans e9) t9
def spMean (K : PySem.W.Frag) : Sp := fun vs H Q _ => ∃ (s p : Addr) (ss ps : List Int) (N t : Nat), vs = [.ref s, .ref p, .int (N : Int)] ∧ H s = some (.lst (ss.map V.int)) ∧ H p = some (.lst (ps.map V.int)) ∧ SzL ss 4000 ∧ SzL ps 1001 ∧ ps.length < ss.length ∧ ss.length ≤ 6 ∧ (∀ i < t, (N : Int) - (i : Int) ∈ ps) ∧ (N : Int) - (t : Int) ∉ ps ∧ ∀ H', Ex H H' → Q (.int (sg t * (timesL (ss.take (ps.length + 1)) ps).getD 0 0)) H'
theorem scMean : FnScope ["sums", "points", "slips", "turn", "free"] ["sums", "points", "slips"] (defScope (top 35)) := ⟨rfl, rfl, rfl, by decide +kernel, rfl, by decide +kernel, by decide +kernel⟩
theorem times_len : ∀ (ps ss : List Int), (timesL ss ps).length = ss.length - ps.length
  | [], ss => by simp [timesL]
  | a :: ps, ss => by
    have e : timesL ss (a :: ps) = timesL (stepL ss a) ps := rfl
    rw [e, times_len ps]
    simp [stepL]
    omega
theorem has_mean (B : Bi mg) (htimes : Has P w K mg base "times" 1 ["sums", "points"] (spTimes K)) (D : Df K mg "mean_on" (top 35) ["sums", "points", "slips"]) : Has P w K mg base "mean_on" 2 ["sums", "points", "slips"] (spMean K) := by
  have sc := scMean
  refine .of D fun f fd F => F.ok sc (fun vs H Q E h => ?_) (fun cdv A outer s H vs Q E hr h => ?_)
  · obtain ⟨s, p, ss, ps, N, t, rfl, _⟩ := h
    rfl
  · obtain ⟨s, p, ss, ps, N, t, rfl, hs, hp, bs, bp, lp, ls, hin, hout, k⟩ := h
    refine ⟨_, (pss_cons (ps_set (i := 3) sc.nd rfl (by first | exact Or.inl rfl | exact Or.inr rfl) pe_int)
      (pss_cons (ps_set (i := 4) sc.nd rfl (by first | exact Or.inl rfl | exact Or.inr rfl) (pv 2))
      (pss_cons (ps_while PassesOwn.never (PT.mon (pt_cmpR (kIn (K := K)) (pv 4) (pv 1) (by rfl))) (pss_cons (ps_set (i := 3) sc.nd rfl (by first | exact Or.inl rfl | exact Or.inr rfl) (pe_un un_neg (pv 3)))
      (pss_one (ps_aug (i := 4) sc.nd rfl (by first | exact Or.inl rfl | exact Or.inr rfl) pe_int ip_sub))))
      (pss_one (ps_ret (pe_op op_mulS (pv 3) (pe_ix (ixL (K := K)) (pe_has htimes (hr.mono (by decide)) (pa_cons (pe_slice (slL (K := K)) (pv 0) po_none (po_some (pe_op op_add (pe_callB (kLen (K := K)) (by rfl) B.len (by decide +kernel) (pa_cons (pv 1) pa_nil)) pe_int))) (pa_cons (pv 1) pa_nil))) pe_int (fun _ _ => rfl)))))))), ?_⟩
    walk_at "rd"
    refine ⟨fun m σ' G => ∃ j, j ≤ t ∧ m = t - j ∧ σ' = [some (.ref s), some (.ref p), some (.int (N : Int)), some (.int (sg j)), some (.int ((N : Int) - (j : Int)))] ∧ G = H, ⟨t, 0, by omega, by omega, by simp [sg], rfl⟩, ?_⟩
    rintro m σ' G ⟨j, hj, rfl, rfl, rfl⟩
    refine ⟨fun b G' => b = (ps.any fun n => n == (N : Int) - (j : Int)) ∧ G' = G, ?_, ?_⟩
    · walk_at "rd"
      exact ⟨p, _, ps, rfl, rfl, .of hp, _, rfl, rfl, rfl⟩
    · intro b G' hb
      rw [hb.1, hb.2]
      cases ha : (ps.any fun n => n == (N : Int) - (j : Int)) with
      | true =>
        show if true = true then _ else _
        rw [if_pos rfl]
        have jt : j < t := by
          rcases Nat.lt_or_ge j t with h | h
          · exact h
          · have : j = t := by omega
            subst this
            obtain ⟨n, hn, e⟩ := List.any_eq_true.mp ha
            have : n = (N : Int) - (j : Int) := by simpa using e
            rw [this] at hn
            exact (hout hn).elim
        refine ⟨fun σ' G' => σ' = [some (.ref s), some (.ref p), some (.int (N : Int)), some (.int (sg (j + 1))), some (.int ((N : Int) - ((j + 1 : Nat) : Int)))] ∧ G' = G, fun σ2 H2 ⟨h1, h2⟩ => ⟨t - (j + 1), by omega, j + 1, by omega, rfl, h1, h2⟩, ?_⟩
        walk_at "rd"
        rw [r_aug]
        walk_at "rd"
        refine ⟨_, _, rfl, rfl, ?_⟩
        refine ⟨(sg_succ j).symm, ?_, rfl⟩
        congr 1
        show (N : Int) - (j : Int) - 1 = _
        omega
      | false =>
        show if false = true then _ else _
        rw [if_neg (by decide)]
        have jt : j = t := by
          rcases Nat.lt_or_ge j t with h | h
          · have := List.any_eq_false.mp ha _ (hin j h)
            simp at this
          · omega
        subst jt
        walk_at "rd"
        refine ⟨_, .inl (.of hp), ?_⟩
        refine ⟨s, _, rfl, .of hs, fun l G2 n2 e2 t2 => ?_⟩
        rw [List.length_map, show ((ps.length : Nat) : Int) + 1 = ((ps.length + 1 : Nat) : Int) by omega, cut_take, ← List.map_take] at t2
        refine ⟨l, p, _, ps, 4000, 1001, rfl, t2, e2 _ _ hp, bs.take _, bp, by rw [List.length_take]; omega, by omega, by decide, by decide, fun q G3 e3 t3 => ?_⟩
        have l1 : (timesL (ss.take (ps.length + 1)) ps).length = 1 := by
          rw [times_len, List.length_take]
          omega
        have g0 : (timesL (ss.take (ps.length + 1)) ps)[0]? = some ((timesL (ss.take (ps.length + 1)) ps).getD 0 0) := by
          rw [List.getD_eq_getElem?_getD, List.getElem?_eq_getElem (by omega)]
          rfl
        refine q_ixL (.of t3) (at_num g0) ?_
        have sa := sg_abs j
        walk_at "rd"
        refine ⟨cmulL (by omega) (by omega), ?_⟩
        exact k G3 (e2.trans e3)
def fF (s0 s1 s2 a : Int) : Int := (s2 + (1 - a) * s1) + (0 - (a + 1)) * (s1 + (0 - a) * s0)
theorem t10 {s0 s1 s2 : Int} : (timesL (([s0, s1, s2] : List Int).take 2) [0]).getD 0 0 = s1 := by
  simp [timesL, stepL]
theorem t1N {s0 s1 s2 N : Int} : (timesL (([s0, s1, s2] : List Int).take 2) [N]).getD 0 0 = s1 + (0 - N) * s0 := by
  simp [timesL, stepL]
theorem t2a {s0 s1 s2 a : Int} : (timesL (([s0, s1, s2] : List Int).take 3) [a, a + 1]).getD 0 0 = fF s0 s1 s2 a := by
  simp [timesL, stepL, fF, List.range_succ]
theorem t2N {s0 s1 s2 N : Int} : (timesL (([s0, s1, s2] : List Int).take 3) [0, N]).getD 0 0 = (s2 + (1 - 0) * s1) + (0 - N) * (s1 + (0 - 0) * s0) := by
  simp [timesL, stepL, List.range_succ]
def spBroken (K : PySem.W.Frag) : Sp := fun vs H Q _ => ∃ (s : Addr) (s0 s1 s2 : Int) (N : Nat), vs = [.ref s, .int (N : Int)] ∧ H s = some (.lst ([s0, s1, s2].map V.int)) ∧ Sums2 s0 s1 s2 N ∧ 0 ≤ ((N : Int) - 1) * s1 - s2 ∧ ∀ H', Ex H H' → (0 ≤ fF s0 s1 s2 (atF s0 s1 N) → Q .non H') ∧ (fF s0 s1 s2 (atF s0 s1 N) < 0 → ∀ q, Q (.ref q) H')
theorem scBroken : FnScope ["sums", "slips", "many", "points"] ["sums", "slips"] (defScope (top 38)) := ⟨rfl, rfl, rfl, by decide +kernel, rfl, by decide +kernel, by decide +kernel⟩
theorem has_broken (B : Bi mg) (hlowest_points : Has P w K mg base "lowest_points" 5 ["sums", "many", "slips"] (spLow K)) (hhighest_points : Has P w K mg base "highest_points" 5 ["sums", "many", "slips"] (spHig K)) (hmean_on : Has P w K mg base "mean_on" 2 ["sums", "points", "slips"] (spMean K)) (D : Df K mg "broken_points" (top 38) ["sums", "slips"]) : Has P w K mg base "broken_points" 6 ["sums", "slips"] (spBroken K) := by
  have sc := scBroken
  refine .of D fun f fd F => F.ok sc (fun vs H Q E h => ?_) (fun cdv A outer s H vs Q E hr h => ?_)
  · obtain ⟨s, s0, s1, s2, N, rfl, _⟩ := h
    rfl
  · obtain ⟨s, s0, s1, s2, N, rfl, hs, S, hc, k⟩ := h
    refine ⟨_, (pss_cons (ps_for PassesOwn.never rfl (pi_range2 (by rfl) B.range (pa_cons pe_int (pa_cons (pe_callB (kLen (K := K)) (by rfl) B.len (by decide +kernel) (pa_cons (pv 0) pa_nil)) pa_nil))) (pg_name (i := 2) sc.nd rfl (by first | exact Or.inl rfl | exact Or.inr rfl))
      (pss_one (ps_for PassesOwn.never rfl (pi_tup (pe_tupN (pa_cons (pe_has hlowest_points (hr.mono (by decide)) (pa_cons (pv 0) (pa_cons (pv 2) (pa_cons (pv 1) pa_nil)))) (pa_cons (pe_has hhighest_points (hr.mono (by decide)) (pa_cons (pv 0) (pa_cons (pv 2) (pa_cons (pv 1) pa_nil)))) pa_nil)))) (pg_name (i := 3) sc.nd rfl (by first | exact Or.inl rfl | exact Or.inr rfl))
      (pss_one (ps_if (pt_cmpR op_lt (pe_has hmean_on (hr.mono (by decide)) (pa_cons (pv 0) (pa_cons (pv 3) (pa_cons (pv 1) pa_nil)))) pe_int (nomark _)) (pss_one (ps_ret (pv 3))) pss_nil)))))
      (pss_one (ps_ret pe_non))), ?_⟩
    walk_at "rd"
    refine ⟨_, .inl (.of hs), by decide, by decide, by simp, by simp, ?_⟩
    obtain ⟨a0, a1, a2, a3⟩ := at_ok S.p0 S.p1 S.q1 (by have := S.n2; omega)
    obtain ⟨A0, hA0⟩ : ∃ A0, A0 = atF s0 s1 N := ⟨_, rfl⟩
    rw [← hA0] at a0 a1 a2 a3 k
    obtain ⟨Fv, hFv⟩ : ∃ Fv, Fv = fF s0 s1 s2 A0 := ⟨_, rfl⟩
    rw [← hFv] at k
    have n2 := S.n2
    obtain ⟨Pv, hP⟩ : ∃ P : Nat → L2.St → Hp → Prop, P = fun (i : Nat) σ' G => Ex H G ∧ ∃ (z2 z3 : Option V), σ' = [some (.ref s), some (.int (N : Int)), z2, z3] ∧ (i = 2 → 0 ≤ Fv) := ⟨_, rfl⟩
    refine loopR Pv (by rw [hP]; exact ⟨Ex.refl _, _, _, rfl, fun z => by omega⟩) ?_ ?_
    · intro i σ' G hi h
      rw [hP] at h
      obtain ⟨e, z2, z3, rfl, _⟩ := h
      have hi : i < 2 := hi
      walk_at "rd"
      have hm : (i + 1 = 1 ∨ i + 1 = 2) := by omega
      rw [show (1 : Int) + (i : Int) = ((i + 1 : Nat) : Int) by omega]
      refine ⟨s, s0, s1, s2, N, i + 1, rfl, e _ _ hs, S, hm, fun lo G2 e2 t2 => ?_⟩
      refine ⟨s, s0, s1, s2, N, i + 1, rfl, e2 _ _ (e _ _ hs), S, hm, fun hg G3 e3 t3 => ?_⟩
      refine ⟨by decide, fun T G4 n4 e4 t4 => ?_⟩
      refine ⟨T, rfl, ⟨_, .of t4⟩, ?_⟩
      have e24 := (e2.trans e3).trans e4
      have hs4 := e24 _ _ (e _ _ hs)
      have lo4 := e4 _ _ (e3 _ _ t2)
      have hg4 := e4 _ _ t3
      obtain ⟨Uv, hU⟩ : ∃ U : Nat → L2.St → Hp → Prop, U = fun (j : Nat) σ' G' => Ex G4 G' ∧ ∃ (z : Option V), σ' = [some (.ref s), some (.int (N : Int)), some (.int ((i + 1 : Nat) : Int)), z] ∧ (1 ≤ j → i = 1 → 0 ≤ Fv) := ⟨_, rfl⟩
      have nb : ((N : Int)).natAbs < 2 ^ 1000 := by rw [Int.natAbs_natCast]; exact S.bN
      have p01 : (2 : Nat) ^ 1001 = 2 * 2 ^ 1000 := by rw [Nat.pow_succ]; omega
      refine loopT (xs := [V.ref lo, V.ref hg]) Uv (by rw [hU]; exact ⟨Ex.refl _, _, rfl, fun z => by omega⟩) (fun j σ' G' _ h => by rw [hU] at h; exact .of (h.1 _ _ t4)) ?_ ?_
      · intro j x σ' G5 hx h
        rw [hU] at h
        obtain ⟨e5, z, rfl, hF⟩ := h
        match j, hx with
        | 0, hx =>
          cases hx
          walk_at "rd"
          by_cases h1 : i = 0
          · subst h1
            refine ⟨s, lo, _, [0], N, 0, rfl, e5 _ _ hs4, e5 _ _ lo4, S.sz, fun x hx => by simp at hx; subst hx; decide, by simp, by simp, fun q hq => by omega, by simp; omega, fun G6 e6 => ?_⟩
            walk_at "rd"
            rw [t10]
            rw [if_neg (by have := S.p1; simp [sg]; omega)]
            rw [hU]
            exact ⟨e5.trans e6, _, rfl, fun _ z => by omega⟩
          · have h1 : i = 1 := by omega
            subst h1
            have lo5 : G5 lo = some (.lst ([A0, A0 + 1].map V.int)) := by
              rw [e5 _ _ lo4]
              unfold lowF
              rw [if_neg (by decide), ← hA0]
            have szP : SzL [A0, A0 + 1] 1001 := fun x hx => by
              simp only [List.mem_cons, List.not_mem_nil, or_false] at hx
              rcases hx with rfl | rfl <;> omega
            have fin : ∀ t : Nat, sg t = 1 → ∀ G6, Ex G5 G6 → (if sg t * (timesL (([s0, s1, s2] : List Int).take 3) [A0, A0 + 1]).getD 0 0 < 0 then Q (.ref lo) G6 else Uv 1 [some (.ref s), some (.int (N : Int)), some (.int ((1 + 1 : Nat) : Int)), some (.ref lo)] G6) := by
              intro t ht G6 e6
              rw [ht, t2a, ← hFv, Int.one_mul]
              by_cases neg : Fv < 0
              · rw [if_pos neg]
                exact (k G6 ((((e.trans e24).trans e5).trans e6))).2 neg lo
              · rw [if_neg neg, hU]
                exact ⟨e5.trans e6, _, rfl, fun _ _ => by omega⟩
            by_cases hN : A0 + 1 = (N : Int)
            · refine ⟨s, lo, _, [A0, A0 + 1], N, 2, rfl, e5 _ _ hs4, lo5, S.sz, szP, by simp, by simp, fun q hq => ?_, ?_, fun G6 e6 => ?_⟩
              · have : q = 0 ∨ q = 1 := by omega
                rcases this with rfl | rfl
                · simp; omega
                · simp; omega
              · simp; omega
              · walk_at "rd"
                exact fin 2 rfl G6 e6
            · refine ⟨s, lo, _, [A0, A0 + 1], N, 0, rfl, e5 _ _ hs4, lo5, S.sz, szP, by simp, by simp, fun q hq => by omega, ?_, fun G6 e6 => ?_⟩
              · simp; omega
              · walk_at "rd"
                exact fin 0 rfl G6 e6
        | 1, hx =>
          cases hx
          walk_at "rd"
          by_cases h1 : i = 0
          · subst h1
            refine ⟨s, hg, _, [(N : Int)], N, 1, rfl, e5 _ _ hs4, e5 _ _ hg4, S.sz, fun x hx => by simp at hx; subst hx; omega, by simp, by simp, fun q hq => (by rw [show q = 0 by omega]; simp), by simp; omega, fun G6 e6 => ?_⟩
            walk_at "rd"
            rw [t1N]
            rw [if_neg (by
              have := S.q1
              have e1 : sg 1 * (s1 + (0 - (N : Int)) * s0) = (N : Int) * s0 - s1 := by
                have : sg 1 = -1 := rfl
                rw [this]
                grind
              rw [e1]
              omega)]
            rw [hU]
            exact ⟨e5.trans e6, _, rfl, fun _ z => by omega⟩
          · have h1 : i = 1 := by omega
            subst h1
            refine ⟨s, hg, _, [0, (N : Int)], N, 1, rfl, e5 _ _ hs4, e5 _ _ hg4, S.sz, fun x hx => ?_, by simp, by simp, fun q hq => ?_, by simp; omega, fun G6 e6 => ?_⟩
            · simp only [List.mem_cons, List.not_mem_nil, or_false] at hx
              rcases hx with rfl | rfl
              · decide
              · omega
            · have : q = 0 := by omega
              subst this
              simp
            walk_at "rd"
            rw [t2N]
            rw [if_neg (by
              have e1 : sg 1 * ((s2 + (1 - 0) * s1) + (0 - (N : Int)) * (s1 + (0 - 0) * s0)) = ((N : Int) - 1) * s1 - s2 := by
                have : sg 1 = -1 := rfl
                rw [this]
                grind
              rw [e1]
              omega)]
            rw [hU]
            exact ⟨e5.trans e6, _, rfl, fun _ z => hF (by omega) z⟩
        | _ + 2, hx => simp at hx
      · intro σ' G5 h
        rw [hU] at h
        obtain ⟨e5, z, rfl, hF⟩ := h
        walk_at "rd"
        rw [hP]
        exact ⟨(e.trans e24).trans e5, _, _, rfl, fun z => hF (by simp) (by omega)⟩
    · intro σ' G h
      rw [hP] at h
      obtain ⟨e, z2, z3, rfl, h2⟩ := h
      walk_at "rd"
      exact (k G e).1 (h2 rfl)
theorem lcEl {g : TG} {te : TE} {vs : List Nat} {σ : L2.St} {H1 : Hp} {Dd : Addr} {Q : VK} {a : Addr} {xs : List V} (R : Nat → V → Hp → Prop) (hR : ∀ i y H H', Kp H H' → R i y H → R i y H') (hD : H1 Dd = none) (hx : SqL K H1 a xs) (hz : xs.length ≤ 100000) (hm : GMono g)
    (hs : ∀ (i : Nat) y T H, xs[i]? = some y → Ex H1 H → H T = some (.tup [.int (i : Nat), y]) → g (.ref T) (wipe σ vs) H fun σ2 H2 => wipe σ2 vs = wipe σ vs ∧ tmE te σ2 H2 fun y H4 => Ex H H4 ∧ R i y H4)
    (hd : LcEnd H1 Dd xs.length R Q) : LcW (Ite K a) g tYes (tmE te) vs σ H1 Dd Q :=
  lcP (walk_enum (K := K) (a := a) (xs := xs)) R hR hD (fun H e => sqL_ex hx e) hz hm (fun i x y T H _ h1 h2 e t => by
    cases h1
    exact hs i y T H h2 e t) hd
theorem prm0 (N : Nat) : prm N 0 = 1 := rfl
theorem prm1 (N : Nat) : prm N 1 = (N : Int) := by
  show 1 * ((N : Int) - ((0 : Nat) : Int)) = N
  simp
theorem prm2 (N : Nat) : prm N 2 = (N : Int) * ((N : Int) - 1) := by
  show 1 * ((N : Int) - ((0 : Nat) : Int)) * ((N : Int) - ((1 : Nat) : Int)) = _
  simp
def sumsL (cs : List Int) (N : Nat) : List Int := (List.range cs.length).map fun j => yesF cs j * prm N j
def spSums (K : PySem.W.Frag) : Sp := fun vs H Q _ => ∃ (p : Addr) (cs : List Int) (N : Nat), vs = [.ref p, .int (N : Int)] ∧ SqT K H p (cs.map V.int) ∧ NumL cs 3 (2 ^ 110) ∧ 2 ≤ N ∧ N < 2 ^ 1000 ∧ ∀ l H', Ex H H' → H' l = some (.lst ((sumsL cs N).map V.int)) → Q (.ref l) H'
theorem scSums : FnScope ["counts", "slips", "j", "chance"] ["counts", "slips"] (defScope (top 33)) := ⟨rfl, rfl, rfl, by decide +kernel, rfl, by decide +kernel, by decide +kernel⟩
theorem has_sums (B : Bi mg) (c_perm : mg "perm" = some (.builtin "math.perm")) (hyes_sums : Has P w K mg base "yes_sums" 1 ["counts"] (spYes K)) (D : Df K mg "row_sums" (top 33) ["counts", "slips"]) : Has P w K mg base "row_sums" 2 ["counts", "slips"] (spSums K) := by
  have sc := scSums
  refine .of D fun f fd F => F.ok sc (fun vs H Q E h => ?_) (fun cdv A outer s H vs Q E hr h => ?_)
  · obtain ⟨p, cs, N, rfl, _⟩ := h
    rfl
  · obtain ⟨p, cs, N, rfl, hp, hN, n2, bN, k⟩ := h
    refine ⟨_, (pss_one (ps_ret (pe_lc (own := [("j", 2), ("chance", 3)]) (g := gTup K 2 (gCons (gName 2) (gCons (gName 3) gNil))) (tt := tYes) rfl sc.nd (pi_enum (by rfl) B.enumerate (pa_cons (pe_has hyes_sums (hr.mono (by decide)) (pa_cons (pv 0) pa_nil)) pa_nil)) (blkOk_by (N := (["counts", "slips", "j", "chance"] : List Str)) (sc := defScope (top 33)) (by decide +kernel)) (fun _ _ _ _ _ => (pg_tup rfl (pgs_cons (pg_name (i := 2) sc.nd rfl (by first | exact Or.inl rfl | exact Or.inr rfl)) (pgs_cons (pg_name (i := 3) sc.nd rfl (by first | exact Or.inl rfl | exact Or.inr rfl)) pgs_nil)))) (fun _ _ _ _ _ => pts_nil) (fun _ _ _ _ _ => (PE.mon (pe_op op_mulS (pv 3) (pe_callBfun cr_perm (by rfl) c_perm (pa_cons (pv 1) (pa_cons (pv 2) pa_nil))))))))), ?_⟩
    walk_at "rd"
    rw [r_enumL]
    walk_at "rd"
    refine ⟨p, cs, 2, rfl, hp, hN, by decide, by decide, fun l G e hl => ⟨l, rfl, ⟨_, .of hl⟩, fun Dd hD => ?_⟩⟩
    have lY : (((List.range (2 + 1)).map (yesF cs)).map V.int).length = 3 := by simp
    have getY : ∀ i < 3, (((List.range (2 + 1)).map (yesF cs)).map V.int)[i]? = some (.int (yesF cs i)) := fun i hi => by
      rw [List.getElem?_map, List.getElem?_map, List.getElem?_range (by omega)]
      rfl
    refine lcEl (fun i y _ => y = .int (yesF cs i * prm N i)) (fun _ _ _ _ _ h => h) hD (.of hl) (by rw [lY]; omega) (gm_tup (gm_cons gm_name (gm_cons gm_name gm_nil))) ?_ ?_
    · intro i y T G3 hy e3 hT
      have hi : i < 3 := by rw [← lY]; exact (List.getElem?_eq_some_iff.mp hy).1
      rw [getY i hi] at hy
      cases hy
      walk_at "rd"
      refine ⟨_, .of hT, rfl, ?_⟩
      walk_at "rd"
      obtain ⟨R1, hR1⟩ : ∃ R : VK, R = fun v H' => v = .int (yesF cs i * prm N i) ∧ H' = G3 := ⟨_, rfl⟩
      refine ⟨R1, ?_, fun v H' h => by rw [hR1] at h; obtain ⟨rfl, rfl⟩ := h; exact ⟨Ex.refl _, rfl⟩⟩
      walk_at "rd"
      refine ⟨N, i, rfl, by omega, by omega, Nat.lt_of_lt_of_le bN (Nat.pow_le_pow_right (by decide) (by decide)), ?_⟩
      walk_at "rd"
      have yl := yes_le (j := i) (n := 2) hN (by decide) (by omega)
      have nb : ((N : Int)).natAbs < 2 ^ 1000 := by rw [Int.natAbs_natCast]; exact bN
      have pb : (prm N i).natAbs < 2 ^ 2001 := by
        have : i = 0 ∨ i = 1 ∨ i = 2 := by omega
        rcases this with rfl | rfl | rfl
        · rw [prm0]
          exact Nat.lt_of_lt_of_le (show ((1 : Int)).natAbs < 2 ^ 1 by decide) (Nat.pow_le_pow_right (by decide) (by decide))
        · rw [prm1]
          exact Nat.lt_of_lt_of_le nb (Nat.pow_le_pow_right (by decide) (by decide))
        · rw [prm2]
          exact lt2_mono (wide_lt (a := 1000) (b := 1000) nb (by omega)) (by decide)
      refine ⟨cmul 131 2001 (by omega) pb, ?_⟩
      rw [hR1]
      exact ⟨rfl, rfl⟩
    · intro G3 ys e3 hy hly hr3
      rw [lY] at hly
      rw [ints_of hly hr3] at hy
      refine k Dd G3 (e.trans e3) ?_
      rw [hy]
      unfold sumsL
      rw [hN.1]
def S0 (cs : List Int) : Int := 2 * (cs.getD 0 0 + cs.getD 1 0 + cs.getD 2 0)
def S1 (cs : List Int) (N : Nat) : Int := (cs.getD 1 0 + 2 * cs.getD 2 0) * N
def S2 (cs : List Int) (N : Nat) : Int := 2 * cs.getD 2 0 * ((N : Int) * ((N : Int) - 1))
def comeB (cs : List Int) (N : Nat) : Bool := decide (2 ≤ N) && decide (0 ≤ fF (S0 cs) (S1 cs N) (S2 cs N) (atF (S0 cs) (S1 cs N) N))
theorem three_of {cs : List Int} {b : Int} (h : NumL cs 3 b) : ∃ c0 c1 c2, cs = [c0, c1, c2] ∧ (0 ≤ c0 ∧ c0 ≤ b) ∧ (0 ≤ c1 ∧ c1 ≤ b) ∧ (0 ≤ c2 ∧ c2 ≤ b) := by
  match cs, h with
  | [a, b', c], h => exact ⟨a, b', c, rfl, h.2 a (by simp), h.2 b' (by simp), h.2 c (by simp)⟩
  | [], h => exact absurd h.1 (by simp)
  | [_], h => exact absurd h.1 (by simp)
  | [_, _], h => exact absurd h.1 (by simp)
  | _ :: _ :: _ :: _ :: _, h => exact absurd h.1 (by simp)
theorem sums_eq {cs : List Int} {N : Nat} (h : NumL cs 3 (2 ^ 110)) : sumsL cs N = [S0 cs, S1 cs N, S2 cs N] := by
  obtain ⟨c0, c1, c2, rfl, _⟩ := three_of h
  have f0 : Builtin.Math.factorialNat 0 = 1 := by decide +kernel
  have f1 : Builtin.Math.factorialNat 1 = 1 := by decide +kernel
  have f2 : Builtin.Math.factorialNat 2 = 2 := by decide +kernel
  have r3 : List.range 3 = [0, 1, 2] := rfl
  simp only [sumsL, S0, S1, S2, List.length_cons, List.length_nil, r3, List.map_cons, List.map_nil, yesF, wayS, prm0, prm1, prm2, f0, f1, f2]
  simp [chs, r3, f0, f1, f2]
  grind
theorem sums_ok {cs : List Int} {N : Nat} (h : NumL cs 3 (2 ^ 110)) (s0 : 0 < cs.sum) (n2 : 2 ≤ N) (bN : N < 2 ^ 1000) : Sums2 (S0 cs) (S1 cs N) (S2 cs N) N ∧ 0 ≤ ((N : Int) - 1) * S1 cs N - S2 cs N := by
  obtain ⟨c0, c1, c2, rfl, h0, h1, h2⟩ := three_of h
  have es : ([c0, c1, c2] : List Int).sum = c0 + c1 + c2 := by simp; omega
  rw [es] at s0
  have nb : ((N : Int)).natAbs < 2 ^ 1000 := by rw [Int.natAbs_natCast]; exact bN
  simp only [S0, S1, S2, List.getD_cons_zero, List.getD_cons_succ]
  refine ⟨⟨by omega, Int.mul_nonneg (by omega) (by omega), ?_, n2, ?_, ?_, ?_, bN⟩, ?_⟩
  · rw [Int.mul_comm]
    exact Int.mul_le_mul_of_nonneg_left (by omega) (by omega)
  · exact Nat.lt_of_lt_of_le (show _ < 2 ^ 120 by omega) (Nat.pow_le_pow_right (by decide) (by decide))
  · exact lt2_mono (wide_lt (a := 120) (b := 1000) (by omega) nb) (by decide)
  · have q1 : ((N : Int) - 1).natAbs < 2 ^ 1000 := by omega
    exact lt2_mono (wide_lt (a := 120) (b := 2000) (by omega) (wide_lt nb q1)) (by decide)
  · have : ((N : Int) - 1) * ((c1 + 2 * c2) * N) - 2 * c2 * ((N : Int) * ((N : Int) - 1)) = ((N : Int) - 1) * (N * c1) := by grind
    rw [this]
    exact Int.mul_nonneg (by omega) (Int.mul_nonneg (by omega) (by omega))
def spDoes (K : PySem.W.Frag) (C : Addr) : Sp := fun vs H Q _ => ∃ (x : V) (ps : List Int) (N : Nat), vs = [x, .int (N : Int)] ∧ IsRow K C H x ps ∧ NumL ps 3 (2 ^ 110) ∧ 0 < ps.sum ∧ N < 2 ^ 1000 ∧ ∀ H', Ex H H' → Q (.bl (comeB ps N)) H'
theorem scDoes : FnScope ["row", "slips"] ["row", "slips"] (defScope (top 31)) := ⟨rfl, rfl, rfl, by decide +kernel, rfl, by decide +kernel, by decide +kernel⟩
theorem has_does {C : Addr} (B : Bi mg) (RT : RowT P w K mg base C) (hrow_sums : Has P w K mg base "row_sums" 2 ["counts", "slips"] (spSums K)) (hbroken_points : Has P w K mg base "broken_points" 6 ["sums", "slips"] (spBroken K)) (D : Df K mg "does_come" (top 31) ["row", "slips"]) : Has P w K mg base "does_come" 7 ["row", "slips"] (spDoes K C) := by
  have sc := scDoes
  refine .of D fun f fd F => F.ok sc (fun vs H Q E h => ?_) (fun cdv A outer s H vs Q E hr h => ?_)
  · obtain ⟨x, ps, N, rfl, _⟩ := h
    rfl
  · obtain ⟨x, ps, N, rfl, hrow, hN, sp, bN, k⟩ := h
    refine ⟨_, (pss_one (ps_ret (pe_and (pe_cmpR op_ge (pv 1) (kDraws RT (hr.mono (by decide)) (pv 0)) (nomark _)) (pe_one (pe_cmpR op_isN (pe_has hbroken_points (hr.mono (by decide)) (pa_cons (pe_has hrow_sums (hr.mono (by decide)) (pa_cons (kCounts RT (hr.mono (by decide)) (pv 0)) (pa_cons (pv 1) pa_nil))) (pa_cons (pv 1) pa_nil))) pe_non (nomark _)))))), ?_⟩
    walk_at "rd"
    have l3 := hN.1
    refine ⟨ps, hrow, ?_⟩
    unfold comeB at k
    by_cases h2 : 2 ≤ N
    · rw [if_pos (by omega)]
      refine ⟨ps, hrow, fun y ⟨p, ey, hS⟩ => ?_⟩
      subst ey
      refine ⟨p, ps, N, rfl, hS, hN, h2, bN, fun l G e hl => ?_⟩
      rw [sums_eq hN] at hl
      obtain ⟨so, sx⟩ := sums_ok hN sp h2 bN
      refine ⟨l, _, _, _, N, rfl, hl, so, sx, fun G2 e2 => ⟨fun hF => ?_, fun hF q => ?_⟩⟩
      · have := k G2 (e.trans e2)
        rw [decide_eq_true h2, decide_eq_true hF] at this
        exact this
      · have := k G2 (e.trans e2)
        rw [decide_eq_true h2, decide_eq_false (by omega)] at this
        exact this
    · rw [if_neg (by omega)]
      have := k H (Ex.refl _)
      rw [decide_eq_false h2, Bool.false_and] at this
      exact this
theorem scChk : FnScope ["row", "slips"] ["row", "slips"] (defScope (top 40)) := ⟨rfl, rfl, rfl, by decide +kernel, rfl, by decide +kernel, by decide +kernel⟩
def spChk (K : PySem.W.Frag) (C : Addr) : Sp := fun vs H Q _ => ∃ (x : V) (ps : List Int) (N : Nat), vs = [x, .int (N : Int)] ∧ IsRow K C H x ps ∧ 1 ≤ N ∧ N ≤ 10 ^ 30 ∧ Q .non H
theorem has_chk {C : Addr} {t2 : Tok} (B : Bi mg) (c_MOST_SLIPS : mg "MOST_SLIPS" = some (.int 1000000000000000000000000000000 t2)) (hcheck_row : Has P w K mg base "check_row" 1 ["row"] (spCheckRow K C)) (hcheck_number : Has P w K mg base "check_number" 2 ["given", "least", "most"] spNum) (D : Df K mg "_check" (top 40) ["row", "slips"]) : Has P w K mg base "_check" 3 ["row", "slips"] (spChk K C) := by
  have sc := scChk
  refine .of D fun f fd F => F.ok sc (fun vs H Q E h => ?_) (fun cdv A outer s H vs Q E hr h => ?_)
  · obtain ⟨x, ps, N, rfl, _⟩ := h
    rfl
  · obtain ⟨x, ps, N, rfl, hrow, n1, n30, k⟩ := h
    refine ⟨_, (pss_cons (ps_expr (pe_has hcheck_row (hr.mono (by decide)) (pa_cons (pv 0) pa_nil)))
      (pss_one (ps_expr (pe_has hcheck_number (hr.mono (by decide)) (pa_cons (pv 1) (pa_cons pe_int (pa_cons (pe_glob (v := .int 1000000000000000000000000000000) rfl c_MOST_SLIPS ⟨_, rfl⟩) pa_nil))))))), ?_⟩
    walk_at "rd"
    refine ⟨x, ps, rfl, hrow, ?_⟩
    walk_at "rd"
    refine ⟨(N : Int), 1, _, rfl, by omega, ?_, k⟩
    have : (10 : Nat) ^ 30 = 1000000000000000000000000000000 := by decide
    omega
theorem scComes : FnScope ["row", "slips"] ["row", "slips"] (defScope (top 28)) := ⟨rfl, rfl, rfl, by decide +kernel, rfl, by decide +kernel, by decide +kernel⟩
def spComes (K : PySem.W.Frag) (C : Addr) : Sp := fun vs H Q _ => ∃ (x : V) (ps : List Int) (N : Nat), vs = [x, .int (N : Int)] ∧ IsRow K C H x ps ∧ NumL ps 3 (2 ^ 110) ∧ 0 < ps.sum ∧ 1 ≤ N ∧ N ≤ 10 ^ 30 ∧ ∀ H', Ex H H' → Q (.bl (comeB ps N)) H'
theorem has_comes {C : Addr} (B : Bi mg) (h_check : Has P w K mg base "_check" 3 ["row", "slips"] (spChk K C)) (hdoes_come : Has P w K mg base "does_come" 7 ["row", "slips"] (spDoes K C)) (D : Df K mg "comes" (top 28) ["row", "slips"]) : Has P w K mg base "comes" 8 ["row", "slips"] (spComes K C) := by
  have sc := scComes
  refine .of D fun f fd F => F.ok sc (fun vs H Q E h => ?_) (fun cdv A outer s H vs Q E hr h => ?_)
  · obtain ⟨x, ps, N, rfl, _⟩ := h
    rfl
  · obtain ⟨x, ps, N, rfl, hrow, hN, sp, n1, n30, k⟩ := h
    refine ⟨_, (pss_cons (ps_expr (pe_has h_check (hr.mono (by decide)) (pa_cons (pv 0) (pa_cons (pv 1) pa_nil))))
      (pss_one (ps_ret (pe_has hdoes_come (hr.mono (by decide)) (pa_cons (pv 0) (pa_cons (pv 1) pa_nil)))))), ?_⟩
    walk_at "rd"
    refine ⟨x, ps, N, rfl, hrow, n1, n30, ?_⟩
    walk_at "rd"
    refine ⟨x, ps, N, rfl, hrow, hN, sp, Nat.lt_of_le_of_lt n30 (Nat.lt_of_lt_of_le (show 10 ^ 30 < 2 ^ 100 by decide) (Nat.pow_le_pow_right (by decide) (by decide))), k⟩
theorem come_two {ps : List Int} (h : NumL ps 3 (2 ^ 110)) (sp : 0 < ps.sum) : comeB ps 2 = true := by
  obtain ⟨so, _⟩ := sums_ok h sp (Nat.le_refl 2) (Nat.lt_of_lt_of_le (show 2 < 2 ^ 2 by decide) (Nat.pow_le_pow_right (by decide) (by decide)))
  obtain ⟨a0, a1, a2, a3⟩ := at_ok so.p0 so.p1 so.q1 (by decide)
  unfold comeB
  rw [decide_eq_true (Nat.le_refl 2), Bool.true_and]
  refine decide_eq_true ?_
  obtain ⟨A, hA⟩ : ∃ A, A = atF (S0 ps) (S1 ps 2) 2 := ⟨_, rfl⟩
  rw [← hA] at a0 a1 ⊢
  obtain ⟨c0, c1, c2, rfl, h0, h1, h2⟩ := three_of h
  have : A = 0 ∨ A = 1 := by omega
  simp only [S0, S1, S2, List.getD_cons_zero, List.getD_cons_succ]
  rcases this with rfl | rfl
  · unfold fF
    omega
  · unfold fF
    omega
def dis (ps : List Int) : Int := (ps.getD 1 0 + 2 * ps.getD 2 0) * (ps.getD 1 0 + 2 * ps.getD 2 0) - 4 * ((ps.getD 0 0 + ps.getD 1 0 + ps.getD 2 0) * ps.getD 2 0)
theorem far_aux {W f c1 c2 n A : Int} (hf : f = c1 + 2 * c2) (W0 : 0 < W) (hd : 1 ≤ f * f - 4 * (W * c2)) (np : 0 < n) (big : 2 * W * c1 < n) (a2 : 0 ≤ (A + 1) * (2 * W) - f * n) (a3 : 0 ≤ f * n - A * (2 * W)) : fF (2 * W) (f * n) (2 * c2 * (n * (n - 1))) A < 0 := by
  have r0 : 0 ≤ (f * n - A * (2 * W)) * (2 * W - (f * n - A * (2 * W))) := Int.mul_nonneg a3 (by
    have : 2 * W - (f * n - A * (2 * W)) = (A + 1) * (2 * W) - f * n := by grind
    omega)
  have key : 2 * W * fF (2 * W) (f * n) (2 * c2 * (n * (n - 1))) A = n * (2 * W * c1 - n * (f * f - 4 * (W * c2))) - (f * n - A * (2 * W)) * (2 * W - (f * n - A * (2 * W))) := by
    have e : c1 = f - 2 * c2 := by omega
    rw [e]
    unfold fF
    grind
  have b2 : n * 1 ≤ n * (f * f - 4 * (W * c2)) := Int.mul_le_mul_of_nonneg_left hd (by omega)
  have b5 : n * (2 * W * c1 - n * (f * f - 4 * (W * c2))) < 0 := Int.mul_neg_of_pos_of_neg np (by omega)
  rcases Int.lt_or_le (fF (2 * W) (f * n) (2 * c2 * (n * (n - 1))) A) 0 with q | q
  · exact q
  · have l0 : 0 ≤ 2 * W * fF (2 * W) (f * n) (2 * c2 * (n * (n - 1))) A := Int.mul_nonneg (by omega) q
    omega
theorem come_far {ps : List Int} {N : Nat} (h : NumL ps 3 (2 ^ 110)) (sp : 0 < ps.sum) (hd : 1 ≤ dis ps) (bN : N < 2 ^ 1000) (big : 2 ^ 224 ≤ N) : comeB ps N = false := by
  have n2 : 2 ≤ N := Nat.le_trans (show 2 ≤ 2 ^ 224 by decide) big
  obtain ⟨so, _⟩ := sums_ok h sp n2 bN
  obtain ⟨a0, a1, a2, a3⟩ := at_ok so.p0 so.p1 so.q1 (by omega)
  have p0 := so.p0
  unfold comeB
  rw [decide_eq_true n2, Bool.true_and]
  refine decide_eq_false ?_
  obtain ⟨A, hA⟩ : ∃ A, A = atF (S0 ps) (S1 ps N) N := ⟨_, rfl⟩
  rw [← hA] at a0 a1 a2 a3 ⊢
  obtain ⟨c0, c1, c2, rfl, h0, h1, h2⟩ := three_of h
  simp only [S0, S1, S2, dis, List.getD_cons_zero, List.getD_cons_succ] at p0 hd a2 a3 ⊢
  have b1 : 2 * (c0 + c1 + c2) * c1 ≤ (6 * 2 ^ 110) * 2 ^ 110 := Int.mul_le_mul (by omega) h1.2 h1.1 (by decide)
  have b3 : (6 * 2 ^ 110) * 2 ^ 110 < (2 : Int) ^ 224 := by decide
  have b4 : (2 : Int) ^ 224 ≤ (N : Int) := by
    have : ((2 ^ 224 : Nat) : Int) ≤ (N : Int) := by omega
    simpa using this
  have := far_aux (W := c0 + c1 + c2) (f := c1 + 2 * c2) (c1 := c1) (c2 := c2) (n := (N : Int)) (A := A) rfl (by omega) hd (by omega) (by omega) a2 a3
  omega
theorem yes3 (c0 c1 c2 : Int) : yesF [c0, c1, c2] 0 = 2 * (c0 + c1 + c2) ∧ yesF [c0, c1, c2] 1 = c1 + 2 * c2 ∧ yesF [c0, c1, c2] 2 = 2 * c2 := by
  have f0 : Builtin.Math.factorialNat 0 = 1 := by decide +kernel
  have f1 : Builtin.Math.factorialNat 1 = 1 := by decide +kernel
  have f2 : Builtin.Math.factorialNat 2 = 2 := by decide +kernel
  have r3 : List.range 3 = [0, 1, 2] := rfl
  refine ⟨?_, ?_, ?_⟩
  · simp [yesF, wayS, chs, r3, f0, f1, f2]
    omega
  · simp [yesF, wayS, chs, r3, f0, f1, f2]
    omega
  · simp [yesF, wayS, chs, r3, f0, f1, f2]
    omega
theorem alw_two {ps : List Int} (h : NumL ps 3 (2 ^ 110)) : alwB ps 2 = decide (dis ps ≤ 0) := by
  have e1 := never_above (genT_sq (near_sy (n := 2) h (by decide) (by decide))) (by decide)
  have e2 := never_above (genT_sq (far_sy (n := 2) h (by decide) (by decide))) (by decide)
  obtain ⟨c0, c1, c2, rfl, h0, h1, h2⟩ := three_of h
  obtain ⟨y0, y1, y2⟩ := yes3 c0 c1 c2
  unfold alwB
  rw [e1, e2]
  have m : ∀ i < 2, ∀ j < 2, mE (genT (2 / 2 + 1) (nearF (yesF [c0, c1, c2]) 2)) i j = yesF [c0, c1, c2] (i + j) := fun i hi j hj => by
    rw [mE_genT hi hj]
    rfl
  have m' : mE (genT (farS 2) (farF (yesF [c0, c1, c2]) 2)) 0 0 = yesF [c0, c1, c2] 1 - yesF [c0, c1, c2] 2 := by
    rw [mE_genT (by decide) (by decide)]
    rfl
  unfold aboveB
  rw [show lotsF (2 / 2 + 1) = [[0], [1], [0, 1]] by decide, show lotsF (farS 2) = [[0]] by decide]
  simp only [List.all_cons, List.all_nil]
  rw [show natsL [0] = [0] from rfl, show natsL [1] = [1] from rfl, show natsL [0, 1] = [0, 1] from rfl, det_of1, det_of1, det_of1, det_of2, m']
  rw [m 0 (by decide) 0 (by decide), m 1 (by decide) 1 (by decide), m 0 (by decide) 1 (by decide), m 1 (by decide) 0 (by decide)]
  rw [show 0 + 0 = 0 from rfl, show 1 + 1 = 2 from rfl, show 0 + 1 = 1 from rfl, y0, y1, y2]
  rw [decide_eq_true (show 0 ≤ 2 * (c0 + c1 + c2) by omega), decide_eq_true (show 0 ≤ 2 * c2 by omega), decide_eq_true (show 0 ≤ c1 + 2 * c2 - 2 * c2 by omega)]
  simp only [Bool.true_and, Bool.and_true]
  have ed : 2 * (c0 + c1 + c2) * (2 * c2) - (c1 + 2 * c2) * (c1 + 2 * c2) = -dis [c0, c1, c2] := by
    simp only [dis, List.getD_cons_zero, List.getD_cons_succ]
    grind
  rw [ed, decide_eq_decide]
  omega
theorem isq_in {l h m : Nat} (l2 : 2 ≤ l) (hh : 2 * l < h) (m1 : m * m ≤ l * h) (m2 : l * h < (m + 1) * (m + 1)) : l < m ∧ m < h := by
  have lh : l * (2 * l + 1) ≤ l * h := Nat.mul_le_mul_left _ hh
  have l4 : 2 * l ≤ l * l := Nat.mul_le_mul_right _ l2
  have e1 : l * (2 * l + 1) = 2 * (l * l) + l := by grind
  have e2 : (l + 1) * (l + 1) = l * l + 2 * l + 1 := by grind
  constructor
  · rcases Nat.lt_or_ge l m with q | q
    · exact q
    · have := Nat.mul_le_mul (show m + 1 ≤ l + 1 by omega) (show m + 1 ≤ l + 1 by omega)
      omega
  · rcases Nat.lt_or_ge m h with q | q
    · exact q
    · have q1 := Nat.mul_le_mul q q
      have q2 : l * h < h * h := Nat.mul_lt_mul_of_pos_right (by omega) (by omega)
      omega
theorem scGreat : FnScope ["row", "low", "high", "middle"] ["row"] (defScope (top 30)) := ⟨rfl, rfl, rfl, by decide +kernel, rfl, by decide +kernel, by decide +kernel⟩
def spGreat (K : PySem.W.Frag) (C : Addr) : Sp := fun vs H Q _ => ∃ (x : V) (ps : List Int), vs = [x] ∧ IsRow K C H x ps ∧ NumL ps 3 (2 ^ 110) ∧ 0 < ps.sum ∧ (∀ H', Ex H H' → alwB ps 2 = true → Q .non H') ∧ ∀ (N : Nat) H', Ex H H' → alwB ps 2 = false → 2 ≤ N → N < 2 ^ 900 → comeB ps N = true → comeB ps (N + 1) = false → Q (.int (N : Int)) H'
theorem has_great {C : Addr} (B : Bi mg) (RT : RowT P w K mg base C) (c_isqrt : mg "isqrt" = some (.builtin "math.isqrt")) (halways : Has P w K mg base "always" 7 ["row"] (spAlways K C)) (hdoes_come : Has P w K mg base "does_come" 7 ["row", "slips"] (spDoes K C)) (D : Df K mg "greatest" (top 30) ["row"]) : Has P w K mg base "greatest" 8 ["row"] (spGreat K C) := by
  have sc := scGreat
  refine .of D fun f fd F => F.ok sc (fun vs H Q E h => ?_) (fun cdv A outer s H vs Q E hr h => ?_)
  · obtain ⟨x, ps, rfl, _⟩ := h
    rfl
  · obtain ⟨x, ps, rfl, hrow, hN, sp, ka, kg⟩ := h
    refine ⟨_, (pss_cons (ps_if (pt_val (pe_has halways (hr.mono (by decide)) (pa_cons (pv 0) pa_nil))) (pss_one (ps_ret pe_non)) pss_nil)
      (pss_cons (ps_par (i := 1) (j := 2) (by rfl) sc.nd rfl rfl (by decide) rfl rfl (pa_cons (kDraws RT (hr.mono (by decide)) (pv 0)) (pa_cons (pe_op op_mulS pe_int (kDraws RT (hr.mono (by decide)) (pv 0))) pa_nil)) (by rfl))
      (pss_cons (ps_while PassesOwn.never (PT.mon (pt_val (pe_has hdoes_come (hr.mono (by decide)) (pa_cons (pv 0) (pa_cons (pv 2) pa_nil))))) (pss_one (ps_par (i := 1) (j := 2) (by rfl) sc.nd rfl rfl (by decide) rfl rfl (pa_cons (pv 2) (pa_cons (pe_op op_mulS (pv 2) (pv 2)) pa_nil)) (by rfl))))
      (pss_cons (ps_while PassesOwn.never (PT.mon (pt_cmpR op_gt (pe_op op_sub (pv 2) (pv 1)) pe_int (nomark _))) (pss_cons (ps_set (i := 3) sc.nd rfl (by first | exact Or.inl rfl | exact Or.inr rfl) (PE.mon (pe_ifExp (pt_cmpR op_gt (pv 2) (pe_op op_mulS pe_int (pv 1)) (nomark _)) (pe_callBfun cr_isqrt (by rfl) c_isqrt (pa_cons (pe_op op_mulS (pv 1) (pv 2)) pa_nil)) (pe_op op_fdivW (pe_op op_add (pv 1) (pv 2)) pe_int))))
      (pss_one (ps_if (pt_val (pe_has hdoes_come (hr.mono (by decide)) (pa_cons (pv 0) (pa_cons (pv 3) pa_nil)))) (pss_one (ps_set (i := 1) sc.nd rfl (by first | exact Or.inl rfl | exact Or.inr rfl) (pv 3))) (pss_one (ps_set (i := 2) sc.nd rfl (by first | exact Or.inl rfl | exact Or.inr rfl) (pv 3)))))))
      (pss_one (ps_ret (pv 1))))))), ?_⟩
    walk_at "rd"
    have l3 := hN.1
    have e1 : ((ps.length : Nat) : Int) - 1 = 2 := by omega
    have aw := alw_two hN
    refine ⟨x, ps, 2, rfl, hrow, hN, by decide, by decide, fun G e => ⟨_, rfl, ?_⟩⟩
    cases ha : alwB ps 2 with
    | true =>
      rw [if_pos rfl]
      exact ka G e ha
    | false =>
      rw [if_neg (by decide)]
      have dp : 1 ≤ dis ps := by
        rw [ha] at aw
        have := of_decide_eq_false aw.symm
        omega
      refine ⟨ps, hrow.kp e.kp, ps, hrow.kp e.kp, cmulL, ?_⟩
      rw [e1]
      have p45 : 2 ^ 450 < 2 ^ 1000 := Nat.pow_lt_pow_right (by decide) (by decide)
      have p22 : 2 ^ 224 * 2 ^ 224 ≤ 2 ^ 450 := by
        rw [← Nat.pow_add]
        exact Nat.pow_le_pow_right (by decide) (by decide)
      have hrow' : ∀ {G' : Hp}, Ex H G' → IsRow K C G' x ps := fun e => hrow.kp e.kp
      refine ⟨fun m σ' G' => Ex H G' ∧ ∃ lo hi : Nat, m = 2 ^ 450 - hi ∧ 2 ≤ lo ∧ lo < hi ∧ 4 ≤ hi ∧ hi ≤ 2 ^ 450 ∧ comeB ps lo = true ∧ ∃ z, σ' = [some x, some (.int (lo : Int)), some (.int (hi : Int)), z], ⟨_, e, 2, 4, rfl, by decide, by decide, by decide, Nat.le_trans (show 4 ≤ 2 ^ 2 by decide) (Nat.pow_le_pow_right (by decide) (by decide)), come_two hN sp, _, rfl⟩, ?_⟩
      rintro m σ' G' ⟨e', lo, hi, rfl, lo2, lh, hi4, hi45, clo, z, rfl⟩
      have hib : hi < 2 ^ 1000 := Nat.lt_of_le_of_lt hi45 p45
      refine ⟨fun b G2 => b = comeB ps hi ∧ Ex H G2, ?_, ?_⟩
      · walk_at "rd"
        exact ⟨x, ps, hi, rfl, hrow' e', hN, sp, hib, fun G2 e2 => ⟨_, rfl, rfl, e'.trans e2⟩⟩
      · intro b G2 hb
        obtain ⟨rfl, e2⟩ := hb
        cases hc : comeB ps hi with
        | true =>
          show if true = true then _ else _
          rw [if_pos rfl]
          have hbig : hi < 2 ^ 224 := by
            rcases Nat.lt_or_ge hi (2 ^ 224) with q | q
            · exact q
            · rw [come_far hN sp dp hib q] at hc
              cases hc
          have hh : hi * hi ≤ 2 ^ 450 := Nat.le_trans (Nat.mul_le_mul (Nat.le_of_lt hbig) (Nat.le_of_lt hbig)) p22
          have h4 : hi * 4 ≤ hi * hi := Nat.mul_le_mul_left _ hi4
          refine ⟨fun σ3 G3 => Ex H G3 ∧ ∃ z, σ3 = [some x, some (.int (hi : Int)), some (.int ((hi * hi : Nat) : Int)), z], ?_, ?_⟩
          · rintro σ3 G3 ⟨e3, z3, rfl⟩
            exact ⟨2 ^ 450 - hi * hi, by omega, e3, hi, hi * hi, rfl, by omega, by omega, by omega, hh, hc, z3, rfl⟩
          · walk_at "rd"
            refine ⟨cmul 1000 1000 (by rw [Int.natAbs_natCast]; exact hib) (by rw [Int.natAbs_natCast]; exact hib), ?_⟩
            walk_at "rd"
            exact ⟨e2, by rw [Int.natCast_mul]⟩
        | false =>
          show if false = true then _ else _
          rw [if_neg (by decide)]
          walk_at "rd"
          refine ⟨fun m σ' G' => Ex H G' ∧ ∃ lo hi : Nat, m = hi - lo ∧ 2 ≤ lo ∧ lo < hi ∧ hi ≤ 2 ^ 450 ∧ comeB ps lo = true ∧ comeB ps hi = false ∧ ∃ z, σ' = [some x, some (.int (lo : Int)), some (.int (hi : Int)), z], ⟨_, e2, lo, hi, rfl, lo2, lh, hi45, clo, hc, z, rfl⟩, ?_⟩
          rintro m σ' G3 ⟨e3, l, h, rfl, l2, llh, h45, cl, chh, z3, rfl⟩
          have hb' : h < 2 ^ 1000 := Nat.lt_of_le_of_lt h45 p45
          have lb' : l < 2 ^ 1000 := Nat.lt_trans llh hb'
          refine ⟨fun b G4 => b = decide (1 < (h : Int) - (l : Int)) ∧ G4 = G3, ?_, ?_⟩
          · walk_at "rd"
          · intro b G4 hb
            obtain ⟨hb1, rfl⟩ := hb
            rw [hb1]
            by_cases big : 1 < (h : Int) - (l : Int)
            · rw [decide_eq_true big]
              show if true = true then _ else _
              rw [if_pos rfl]
              refine ⟨fun σ4 G4 => Ex H G4 ∧ ∃ mid : Nat, l < mid ∧ mid < h ∧ ((comeB ps mid = true ∧ ∃ z, σ4 = [some x, some (.int (mid : Int)), some (.int (h : Int)), z]) ∨ (comeB ps mid = false ∧ ∃ z, σ4 = [some x, some (.int (l : Int)), some (.int (mid : Int)), z])), ?_, ?_⟩
              · rintro σ4 G5 ⟨e5, mid, m1, m2, ⟨cm, z5, rfl⟩ | ⟨cm, z5, rfl⟩⟩
                · exact ⟨h - mid, by omega, e5, mid, h, rfl, by omega, m2, h45, cm, chh, z5, rfl⟩
                · exact ⟨mid - l, by omega, e5, l, mid, rfl, l2, m1, by omega, cl, cm, z5, rfl⟩
              · walk_at "rd"
                obtain ⟨R0, hR⟩ : ∃ R : VK, R = fun y G' => G' = G4 ∧ ∃ mid : Nat, y = .int (mid : Int) ∧ l < mid ∧ mid < h := ⟨_, rfl⟩
                refine ⟨R0, ?_, ?_⟩
                · walk_at "rd"
                  refine ⟨cmulL, ?_⟩
                  by_cases far : 2 * (l : Int) < (h : Int)
                  · rw [if_pos far]
                    refine ⟨cmul 1000 1000 (by rw [Int.natAbs_natCast]; exact lb') (by rw [Int.natAbs_natCast]; exact hb'), ?_⟩
                    have lhb : l * h < 2 ^ 2000 := by
                      have h1 := Nat.mul_lt_mul_of_lt_of_lt lb' hb'
                      rw [← Nat.pow_add] at h1
                      exact h1
                    refine ⟨l * h, by rw [Int.natCast_mul], lhb, fun mm q1 q2 => ?_⟩
                    rw [hR]
                    obtain ⟨w1, w2⟩ := isq_in l2 (show 2 * l < h by omega) q1 q2
                    exact ⟨rfl, mm, rfl, w1, w2⟩
                  · rw [if_neg far]
                    refine ⟨⟨by decide, by decide⟩, ?_⟩
                    rw [hR]
                    exact ⟨rfl, (l + h) / 2, by congr 1, by omega, by omega⟩
                · intro y G5 hy
                  rw [hR] at hy
                  obtain ⟨rfl, mid, rfl, w1, w2⟩ := hy
                  walk_at "rd"
                  refine ⟨x, ps, mid, rfl, hrow' e3, hN, sp, Nat.lt_trans w2 hb', fun G6 e6 => ?_⟩
                  walk_at "rd"
                  cases cm : comeB ps mid with
                  | true =>
                    rw [if_pos rfl]
                    refine ⟨e3.trans e6, mid, w1, w2, ?_⟩; first | exact .inl ⟨cm, rfl⟩ | exact .inl cm | (trace_state; fail)
                  | false =>
                    rw [if_neg (by decide)]
                    refine ⟨e3.trans e6, mid, w1, w2, ?_⟩; first | exact .inr ⟨cm, rfl⟩ | exact .inr cm | (trace_state; fail)
            · rw [decide_eq_false big]
              show if false = true then _ else _
              rw [if_neg (by decide)]
              walk_at "rd"
              have hl1 : h = l + 1 := by omega
              rw [hl1] at chh
              exact kg l G4 e3 ha l2 (Nat.lt_of_lt_of_le (Nat.lt_of_lt_of_le llh h45) (Nat.pow_le_pow_right (by decide) (by decide))) cl chh
end

section
variable {P : Program} {w : World} {K : PySem.W.Frag} {mg : Str → Option Value} {base : Heap}
/-! ### _law_due -/
def gF (s0 s1 s2 a : Int) : Int := s2 - 2 * a * s1 + a * (a + 1) * s0
def okA (s0 s1 s2 : Int) (N : Nat) (a : Int) : Prop := 0 ≤ a → a < N → 0 ≤ gF s0 s1 s2 a
theorem gf_f (s0 s1 s2 a : Int) : fF s0 s1 s2 a = gF s0 s1 s2 a := by
  unfold fF gF
  grind
theorem ok_iff {s0 s1 s2 : Int} {N : Nat} (S : Sums2 s0 s1 s2 N) : 0 ≤ fF s0 s1 s2 (atF s0 s1 N) ↔ okA s0 s1 s2 N (s1 / s0 - 1) ∧ okA s0 s1 s2 N (s1 / s0) ∧ okA s0 s1 s2 N (s1 / s0 + 1) := by
  have h0 := S.p0
  have h1 := S.p1
  have h2 := S.q1
  have n2 := S.n2
  have q0 : 0 ≤ s1 / s0 := Int.ediv_nonneg h1 (by omega)
  have q1 := Int.ediv_mul_le s1 (Int.ne_of_gt h0)
  have q2 := Int.lt_ediv_add_one_mul_self s1 h0
  obtain ⟨q, hq⟩ : ∃ q, q = s1 / s0 := ⟨_, rfl⟩
  have qN : q ≤ N := by
    rcases Int.lt_or_le (N : Int) q with z | z
    · have : ((N : Int) + 1) * s0 ≤ q * s0 := Int.mul_le_mul_of_nonneg_right (by omega) (by omega)
      rw [hq] at this
      have e : ((N : Int) + 1) * s0 = N * s0 + s0 := by grind
      omega
    · exact z
  rw [gf_f]
  unfold atF
  rw [← hq] at q0 q1 q2 ⊢
  have u1 : gF s0 s1 s2 (q + 1) = gF s0 s1 s2 q + 2 * ((q + 1) * s0 - s1) := by unfold gF; grind
  have u2 : gF s0 s1 s2 (q - 1) = gF s0 s1 s2 q + 2 * (s1 - q * s0) := by unfold gF; grind
  unfold okA
  by_cases z : q ≤ (N : Int) - 1
  · rw [if_pos z]
    constructor
    · intro h
      exact ⟨fun _ _ => by omega, fun _ _ => h, fun _ _ => by omega⟩
    · intro h
      exact h.2.1 q0 (by omega)
  · rw [if_neg z]
    have e : q = (N : Int) := by omega
    constructor
    · intro h
      exact ⟨fun _ _ => by rw [e]; exact h, fun _ _ => by omega, fun _ _ => by omega⟩
    · intro h
      have := h.1 (by omega) (by omega)
      rw [e] at this
      exact this
theorem due_iff {s0 s1 s2 : Int} {N : Nat} (S : Sums2 s0 s1 s2 N) : 0 ≤ fF s0 s1 s2 (atF s0 s1 N) ↔ 0 ≤ gF s0 s1 s2 (s1 / s0) := by
  have h0 := S.p0
  have h1 := S.p1
  have h2 := S.q1
  have q0 : 0 ≤ s1 / s0 := Int.ediv_nonneg h1 (by omega)
  have q1 := Int.ediv_mul_le s1 (Int.ne_of_gt h0)
  obtain ⟨q, hq⟩ : ∃ q, q = s1 / s0 := ⟨_, rfl⟩
  rw [gf_f]
  unfold atF
  rw [← hq] at q0 q1 ⊢
  have qN : q ≤ (N : Int) := by
    have := Int.ediv_le_ediv h0 h2
    rw [Int.mul_ediv_cancel _ (by omega), ← hq] at this
    exact this
  by_cases z : q ≤ (N : Int) - 1
  · rw [if_pos z]
  · rw [if_neg z]
    have e : q = (N : Int) := by omega
    rw [e] at q1 ⊢
    have u : gF s0 s1 s2 (N : Int) = gF s0 s1 s2 ((N : Int) - 1) + 2 * ((N : Int) * s0 - s1) := by unfold gF; grind
    omega
def spDueQ (K : PySem.W.Frag) : Sp := fun vs H Q _ => ∃ (p : Addr) (cs : List Int) (N : Nat), vs = [.ref p, .int (N : Int)] ∧ SqT K H p (cs.map V.int) ∧ NumL cs 3 (2 ^ 110) ∧ 0 < cs.sum ∧ 2 ≤ N ∧ N < 2 ^ 1000 ∧ ∀ H', Ex H H' → Q (.bl (comeB cs N)) H'
theorem scDueQ : FnScope ["some", "top", "whole", "mean", "low", "pairs_here", "over", "least_here"] ["some", "top"] (defScope (top 57)) := ⟨rfl, rfl, rfl, by decide +kernel, rfl, by decide +kernel, by decide +kernel⟩
theorem has_dueq (B : Bi mg) (D : Df K mg "_law_due" (top 57) ["some", "top"]) : Has P w K mg base "_law_due" 1 ["some", "top"] (spDueQ K) := by
  have sc := scDueQ
  refine .of D fun f fd F => F.ok sc (fun vs H Q E h => ?_) (fun cdv A outer s H vs Q E hr h => ?_)
  · obtain ⟨p, cs, N, rfl, _⟩ := h
    rfl
  · obtain ⟨p, cs, N, rfl, hp, hN, sp, n2, bN, k⟩ := h
    refine ⟨_, (pss_cons (ps_set (i := 2) sc.nd rfl (by first | exact Or.inl rfl | exact Or.inr rfl) (pe_callB (kSum (K := K) rfl) (by rfl) B.sum (by decide +kernel) (pa_cons (pv 0) pa_nil)))
      (pss_cons (ps_set (i := 3) sc.nd rfl (by first | exact Or.inl rfl | exact Or.inr rfl) (pe_tupN (pa_cons (pe_op op_mulS (pv 1) (pe_op op_add (pe_ix (ixT (K := K)) (pv 0) pe_int (fun _ _ => rfl)) (pe_op op_mulS pe_int (pe_ix (ixT (K := K)) (pv 0) pe_int (fun _ _ => rfl))))) (pa_cons (pe_op op_mulS pe_int (pv 2)) pa_nil))))
      (pss_cons (ps_set (i := 4) sc.nd rfl (by first | exact Or.inl rfl | exact Or.inr rfl) (pe_op op_fdivW (pe_ix (ixT (K := K)) (pv 3) pe_int (fun _ _ => rfl)) (pe_ix (ixT (K := K)) (pv 3) pe_int (fun _ _ => rfl))))
      (pss_cons (ps_set (i := 5) sc.nd rfl (by first | exact Or.inl rfl | exact Or.inr rfl) (pe_tupN (pa_cons (pe_op op_mulS (pe_op op_mulS (pe_ix (ixT (K := K)) (pv 0) pe_int (fun _ _ => rfl)) (pv 1)) (pe_op op_sub (pv 1) pe_int)) (pa_cons (pe_op op_mulS pe_int (pv 2)) pa_nil))))
      (pss_cons (ps_set (i := 6) sc.nd rfl (by first | exact Or.inl rfl | exact Or.inr rfl) (pe_op op_sub (pe_ix (ixT (K := K)) (pv 3) pe_int (fun _ _ => rfl)) (pe_op op_mulS (pv 4) (pe_ix (ixT (K := K)) (pv 3) pe_int (fun _ _ => rfl)))))
      (pss_cons (ps_set (i := 7) sc.nd rfl (by first | exact Or.inl rfl | exact Or.inr rfl) (pe_tupN (pa_cons (pe_op op_add (pe_op op_mulS (pe_op op_mulS (pv 4) (pe_op op_sub (pv 4) pe_int)) (pe_ix (ixT (K := K)) (pv 3) pe_int (fun _ _ => rfl))) (pe_op op_mulS (pe_op op_mulS pe_int (pv 6)) (pv 4))) (pa_cons (pe_op op_mulS pe_int (pe_ix (ixT (K := K)) (pv 3) pe_int (fun _ _ => rfl))) pa_nil))))
      (pss_one (ps_ret (pe_cmpR op_ge (pe_op op_mulS (pe_ix (ixT (K := K)) (pv 5) pe_int (fun _ _ => rfl)) (pe_ix (ixT (K := K)) (pv 7) pe_int (fun _ _ => rfl))) (pe_op op_mulS (pe_ix (ixT (K := K)) (pv 7) pe_int (fun _ _ => rfl)) (pe_ix (ixT (K := K)) (pv 5) pe_int (fun _ _ => rfl))) (nomark _)))))))))), ?_⟩
    walk_at "rd"
    obtain ⟨so, _⟩ := sums_ok hN sp n2 bN
    obtain ⟨c0, c1, c2, rfl, h0, h1, h2⟩ := three_of hN
    have nb : ((N : Int)).natAbs < 2 ^ 1000 := by rw [Int.natAbs_natCast]; exact bN
    have n1b : ((N : Int) - 1).natAbs < 2 ^ 1000 := by omega
    have g1 : atI ([c0, c1, c2].map V.int) 1 = some (.int c1) := rfl
    have g2 : atI ([c0, c1, c2].map V.int) 2 = some (.int c2) := rfl
    have es : ([c0, c1, c2] : List Int).sum = c0 + c1 + c2 := by simp; omega
    refine ⟨p, _, rfl, .inr hp, ?_⟩
    walk_at "rd"
    refine q_ixT hp g1 ?_
    refine q_ixT hp g2 ?_
    walk_at "rd"
    refine ⟨cmulL, ?_⟩
    walk_at "rd"
    refine ⟨cmul 1000 120 nb (by omega), ?_⟩
    refine ⟨cmulL, ?_⟩
    have v0 : 2 * ([c0, c1, c2] : List Int).sum = S0 [c0, c1, c2] := by
      rw [es]
      rfl
    have v1 : (N : Int) * (c1 + 2 * c2) = S1 [c0, c1, c2] N := by
      show _ = (c1 + 2 * c2) * (N : Int)
      rw [Int.mul_comm]
    have v2 : 2 * (c2 * (N : Int) * ((N : Int) - 1)) = S2 [c0, c1, c2] N := by
      show _ = 2 * c2 * ((N : Int) * ((N : Int) - 1))
      grind
    rw [v0, v1]
    have ck : comeB [c0, c1, c2] N = decide (0 ≤ fF (S0 [c0, c1, c2]) (S1 [c0, c1, c2] N) (S2 [c0, c1, c2] N) (atF (S0 [c0, c1, c2]) (S1 [c0, c1, c2] N) N)) := by
      unfold comeB
      rw [decide_eq_true n2, Bool.true_and]
    rw [ck] at k
    have iff := due_iff so
    obtain ⟨s0, e0⟩ : ∃ s0, s0 = S0 [c0, c1, c2] := ⟨_, rfl⟩
    obtain ⟨s1, e1⟩ : ∃ s1, s1 = S1 [c0, c1, c2] N := ⟨_, rfl⟩
    obtain ⟨s2, e2⟩ : ∃ s2, s2 = S2 [c0, c1, c2] N := ⟨_, rfl⟩
    rw [← e2] at v2
    rw [← e0, ← e1, ← e2] at so iff k
    rw [← e0, ← e1]
    have v0' : 2 * (c0 + c1 + c2) = s0 := by rw [e0]; rfl
    have q0 : 0 ≤ s1 / s0 := Int.ediv_nonneg so.p1 (by have := so.p0; omega)
    have q1 := Int.ediv_mul_le s1 (Int.ne_of_gt so.p0)
    have q2 := Int.lt_ediv_add_one_mul_self s1 so.p0
    have qN : s1 / s0 ≤ (N : Int) := by
      have := Int.ediv_le_ediv so.p0 so.q1
      rw [Int.mul_ediv_cancel _ (by have := so.p0; omega)] at this
      exact this
    have dv : CDivW s1 s0 := ⟨so.p0, log_lt (Nat.lt_of_lt_of_le so.b0 (Nat.pow_le_pow_right (by decide) (by decide)))⟩
    refine ⟨by decide, fun T G n e t => ?_⟩
    have hpG := sqT_kp hp e.kp
    have m0 : atI [V.int s1, V.int s0] 0 = some (.int s1) := rfl
    have m1 : atI [V.int s1, V.int s0] 1 = some (.int s0) := rfl
    refine q_ixT (.of t) m0 ?_
    refine q_ixT (.of t) m1 ?_
    walk_at "rd"
    refine ⟨dv, ?_⟩
    obtain ⟨q, hq⟩ : ∃ q, q = s1 / s0 := ⟨_, rfl⟩
    rw [← hq] at iff q0 q1 q2 qN ⊢
    refine q_ixT hpG g2 ?_
    walk_at "rd"
    refine ⟨cmul 120 1000 (by omega) nb, ?_⟩
    have cN : (c2 * (N : Int)).natAbs < 2 ^ 1120 := wide_lt (a := 120) (b := 1000) (by omega) nb
    refine ⟨cmul 1120 1000 cN n1b, ?_⟩
    refine ⟨cmulL, ?_⟩
    refine ⟨by decide, fun T2 G2 nn2 ee2 t2 => ?_⟩
    have t' := ee2 _ _ t
    have qb : q.natAbs < 2 ^ 1000 := by omega
    have sb0 := so.b0
    have over : 0 ≤ s1 - q * s0 ∧ s1 - q * s0 < s0 := by
      have : (q + 1) * s0 = q * s0 + s0 := by grind
      omega
    have ob : (s1 - q * s0).natAbs < 2 ^ 1000 := by omega
    have q1b : (q - 1).natAbs < 2 ^ 1001 := by
      have p01 : (2 : Nat) ^ 1001 = 2 * 2 ^ 1000 := by rw [Nat.pow_succ]; omega
      omega
    have Pb : (c2 * (N : Int) * ((N : Int) - 1)).natAbs < 2 ^ 2120 := wide_lt cN n1b
    refine q_ixT (.of t') m0 ?_
    refine q_ixT (.of t') m1 ?_
    walk_at "rd"
    refine ⟨cmul 1000 1000 qb sb0, ?_⟩
    walk_at "rd"
    refine ⟨cmul 1000 1001 qb q1b, ?_⟩
    refine q_ixT (.of t') m1 ?_
    walk_at "rd"
    have qq : (q * (q - 1)).natAbs < 2 ^ 2001 := wide_lt qb q1b
    have qqs : (q * (q - 1) * s0).natAbs < 2 ^ 3001 := wide_lt qq sb0
    refine ⟨cmul 2001 1000 qq sb0, ?_⟩
    refine ⟨cmulL, ?_⟩
    have o2 : (2 * (s1 - q * s0)).natAbs < 2 ^ 1001 := by
      have p01 : (2 : Nat) ^ 1001 = 2 * 2 ^ 1000 := by rw [Nat.pow_succ]; omega
      omega
    refine ⟨cmul 1001 1000 o2 qb, ?_⟩
    walk_at "rd"
    have o2q : (2 * (s1 - q * s0) * q).natAbs < 2 ^ 2001 := wide_lt o2 qb
    refine q_ixT (.of t') m1 ?_
    walk_at "rd"
    refine ⟨cmulL, ?_⟩
    refine ⟨by decide, fun T3 G3 nn3 ee3 t3 => ?_⟩
    have u0 : ∀ a b : Int, atI [V.int a, V.int b] 0 = some (.int a) := fun a b => rfl
    have u1 : ∀ a b : Int, atI [V.int a, V.int b] 1 = some (.int b) := fun a b => rfl
    refine q_ixT (.of (ee3 _ _ t2)) (u0 _ _) ?_
    refine q_ixT (.of t3) (u1 _ _) ?_
    walk_at "rd"
    have s02 : (2 * s0).natAbs < 2 ^ 1001 := by
      have p01 : (2 : Nat) ^ 1001 = 2 * 2 ^ 1000 := by rw [Nat.pow_succ]; omega
      omega
    refine ⟨cmul 2120 1001 Pb s02, ?_⟩
    refine q_ixT (.of t3) (u0 _ _) ?_
    refine q_ixT (.of (ee3 _ _ t2)) (u1 _ _) ?_
    walk_at "rd"
    have lb : (q * (q - 1) * s0 + 2 * (s1 - q * s0) * q).natAbs < 2 ^ 3002 := by
      have a1 := Int.natAbs_add_le (q * (q - 1) * s0) (2 * (s1 - q * s0) * q)
      have a2 : (2 : Nat) ^ 2001 ≤ 2 ^ 3001 := Nat.pow_le_pow_right (by decide) (by decide)
      have a3 : (2 : Nat) ^ 3002 = 2 * 2 ^ 3001 := by rw [Nat.pow_succ]; omega
      omega
    refine ⟨cmul 3002 1000 lb sb0, ?_⟩
    walk_at "rd"
    have kk := k G3 ((e.trans ee2).trans ee3)
    have alg : c2 * (N : Int) * ((N : Int) - 1) * (2 * s0) - (q * (q - 1) * s0 + 2 * (s1 - q * s0) * q) * s0 = s0 * gF s0 s1 s2 q := by
      rw [← v2]
      unfold gF
      grind
    have fin : decide ((q * (q - 1) * s0 + 2 * (s1 - q * s0) * q) * s0 ≤ c2 * (N : Int) * ((N : Int) - 1) * (2 * s0)) = decide (0 ≤ fF s0 s1 s2 (atF s0 s1 N)) := by
      rw [decide_eq_decide, iff]
      have := sign_eq (c := 1) (d := s0) (x := s0 * gF s0 s1 s2 q) (y := gF s0 s1 s2 q) (by decide) so.p0 (by rw [Int.one_mul])
      omega
    rw [fin]
    exact kk
end

section
/-! ### greatest of (c, 2 * c + 1, c) -/
theorem come_near {c : Int} {N : Nat} (c1 : 1 ≤ c) (cb : c ≤ 2 ^ 108) (n2 : 2 ≤ N) (bN : N < 2 ^ 1000) : comeB [c, 2 * c + 1, c] N = decide ((N : Int) ≤ 4 * c + 2) := by
  have hN : NumL [c, 2 * c + 1, c] 3 (2 ^ 110) := ⟨rfl, fun x hx => by
    simp only [List.mem_cons, List.not_mem_nil, or_false] at hx
    rcases hx with rfl | rfl | rfl <;> omega⟩
  obtain ⟨so, _⟩ := sums_ok hN (by simp; omega) n2 bN
  have iff := due_iff so
  unfold comeB
  rw [decide_eq_true n2, Bool.true_and, decide_eq_decide, iff]
  have e0 : S0 [c, 2 * c + 1, c] = (4 * c + 1) * 2 := by
    simp only [S0, List.getD_cons_zero, List.getD_cons_succ]
    omega
  have e1 : S1 [c, 2 * c + 1, c] N = (4 * c + 1) * (N : Int) := by
    simp only [S1, List.getD_cons_zero, List.getD_cons_succ]
    rw [show 2 * c + 1 + 2 * c = 4 * c + 1 by omega]
  have e2 : S2 [c, 2 * c + 1, c] N = 2 * c * ((N : Int) * ((N : Int) - 1)) := by
    simp only [S2, List.getD_cons_zero, List.getD_cons_succ]
  rw [e0, e1, e2, Int.mul_ediv_mul_of_pos _ _ (by omega)]
  obtain ⟨h, hh⟩ : ∃ h : Int, h = (N : Int) / 2 := ⟨_, rfl⟩
  rw [← hh]
  have hc : (N : Int) = 2 * h ∨ (N : Int) = 2 * h + 1 := by omega
  have h1 : 1 ≤ h := by omega
  rcases hc with e | e
  · rw [e]
    have u : gF ((4 * c + 1) * 2) ((4 * c + 1) * (2 * h)) (2 * c * (2 * h * (2 * h - 1))) h = h * (4 * c + 2 - 2 * h) := by unfold gF; grind
    rw [u]
    have := sign_eq (c := 1) (d := h) (x := h * (4 * c + 2 - 2 * h)) (y := 4 * c + 2 - 2 * h) (by decide) (by omega) (by rw [Int.one_mul])
    omega
  · rw [e]
    have u : gF ((4 * c + 1) * 2) ((4 * c + 1) * (2 * h + 1)) (2 * c * ((2 * h + 1) * (2 * h + 1 - 1))) h = 2 * h * (2 * c - h) := by unfold gF; grind
    rw [u]
    have := sign_eq (c := 1) (d := 2 * h) (x := 2 * h * (2 * c - h)) (y := 2 * c - h) (by decide) (by omega) (by rw [Int.one_mul])
    omega
theorem great_near {c : Int} {N : Nat} (c1 : 1 ≤ c) (cb : c ≤ 2 ^ 108) (n2 : 2 ≤ N) (bN : N < 2 ^ 900) (h1 : comeB [c, 2 * c + 1, c] N = true) (h2 : comeB [c, 2 * c + 1, c] (N + 1) = false) : (N : Int) = 4 * c + 2 := by
  have p : (2 : Nat) ^ 900 < 2 ^ 1000 := Nat.pow_lt_pow_right (by decide) (by decide)
  rw [come_near c1 cb n2 (by omega)] at h1
  rw [come_near c1 cb (by omega) (by omega)] at h2
  have a := of_decide_eq_true h1
  have b := of_decide_eq_false h2
  omega
end

section
variable {P : Program} {w : World} {K : PySem.W.Frag} {mg : Str → Option Value} {base : Heap}
def spLowB (K : PySem.W.Frag) : Sp := fun vs H Q _ => ∃ (s : Addr) (s0 s1 s2 : Int) (N m : Nat), vs = [.ref s, .int (m : Int), .int (N : Int)] ∧ H s = some (.lst ([s0, s1, s2].map V.int)) ∧ (SzL [s0, s1, s2] 4000 ∧ 2 ≤ N ∧ N < 2 ^ 1000 ∧ (m = 2 → Sums2 s0 s1 s2 N)) ∧ (m = 1 ∨ m = 2) ∧ ∀ q H', Ex H H' → H' q = some (.lst ((lowF s0 s1 N m).map V.int)) → Q (.ref q) H'
theorem has_lowB (B : Bi mg) (htimes : Has P w K mg base "times" 1 ["sums", "points"] (spTimes K)) (h_pairs : Has P w K mg base "_pairs" 4 ["sums", "many", "least", "most", "taken"] (orS spPairs0 spPairs1)) (D : Df K mg "lowest_points" (top 36) ["sums", "many", "slips"]) : Has P w K mg base "lowest_points" 5 ["sums", "many", "slips"] (spLowB K) := by
  have sc := scLow
  refine .of D fun f fd F => F.ok sc (fun vs H Q E h => ?_) (fun cdv A outer s H vs Q E hr h => ?_)
  · obtain ⟨s, s0, s1, s2, N, m, rfl, _⟩ := h
    rfl
  · obtain ⟨s, s0, s1, s2, N, m, rfl, hs, ⟨sz, n2, bN, S2⟩, hm, k⟩ := h
    refine ⟨_, (pss_cons (ps_set (i := 3) sc.nd rfl (by first | exact Or.inl rfl | exact Or.inr rfl) (pe_slice (slL (K := K)) (pv 0) po_none (po_some (pv 1))))
      (pss_cons (ps_if (pt_cmpR op_eq (pe_op op_mod (pv 1) pe_int) pe_int (nomark _)) (pss_one (ps_ret (pe_has h_pairs (hr.mono (by decide)) (pa_cons (pv 3) (pa_cons (pe_op op_fdivW (pv 1) pe_int) (pa_cons pe_int (pa_cons (pv 2) (pa_cons (pe_lstN pa_nil) pa_nil)))))))) pss_nil)
      (pss_one (ps_ret (pe_lstN (pa_cons pe_int (kStar (K := K) (pe_has h_pairs (hr.mono (by decide)) (pa_cons (pe_has htimes (hr.mono (by decide)) (pa_cons (pv 3) (pa_cons (pe_lstN (pa_cons pe_int pa_nil)) pa_nil))) (pa_cons (pe_op op_fdivW (pv 1) pe_int) (pa_cons pe_int (pa_cons (pv 2) (pa_cons (pe_lstN pa_nil) pa_nil)))))) pa_nil))))))), ?_⟩
    walk_at "rd"
    refine ⟨s, _, rfl, .of hs, fun tl G n1 e1 t1 => ?_⟩
    rw [cut_take, ← List.map_take] at t1
    rcases hm with rfl | rfl
    · refine ⟨by decide, ?_⟩
      rw [if_neg (by decide)]
      rw [r_star]
      walk_at "rd"
      refine ⟨by decide, fun z G2 n2 e2 t2 => ?_⟩
      refine ⟨tl, z, _, [0], 4000, 1, rfl, e2 _ _ t1, t2, sz.take 1, fun x hx => by simp at hx; subst hx; decide, by simp, by simp, by decide, by decide, fun q3 G3 e3 t3 => ?_⟩
      refine ⟨⟨by decide, by decide⟩, ?_⟩
      refine ⟨by decide, fun z4 G4 n4 e4 t4 => ?_⟩
      refine .inl ⟨q3, z4, 1, N, rfl, fun q5 G5 e5 n5 t5 => ?_⟩
      refine ⟨q5, rfl, [], .inr (.of t5), by decide, fun q6 G6 n6 e6 t6 => ?_⟩
      exact k q6 G6 (((((e1.trans e2).trans e3).trans e4).trans e5).trans e6) t6
    · refine ⟨by decide, ?_⟩
      rw [if_pos (by decide)]
      refine ⟨⟨by decide, by decide⟩, ?_⟩
      refine ⟨by decide, fun z4 G4 n4 e4 t4 => ?_⟩
      refine .inr ⟨tl, z4, s0, s1, N, rfl, e4 _ _ t1, t4, (S2 rfl).p0, (S2 rfl).p1, (S2 rfl).q1, by omega, (S2 rfl).b0, (S2 rfl).b1, bN, fun q5 G5 e5 n5 t5 => ?_⟩
      refine k q5 G5 ((e1.trans e4).trans e5) ?_
      rw [t5]
      unfold lowF
      rw [if_neg (by decide)]
      rfl
def spHigB (K : PySem.W.Frag) : Sp := fun vs H Q _ => ∃ (s : Addr) (s0 s1 s2 : Int) (N m : Nat), vs = [.ref s, .int (m : Int), .int (N : Int)] ∧ H s = some (.lst ([s0, s1, s2].map V.int)) ∧ (SzL [s0, s1, s2] 4000 ∧ 2 ≤ N ∧ N < 2 ^ 1000 ∧ (m = 2 → Sums2 s0 s1 s2 N)) ∧ (m = 1 ∨ m = 2) ∧ ∀ q H', Ex H H' → H' q = some (.lst ((higF N m).map V.int)) → Q (.ref q) H'
theorem has_higB (B : Bi mg) (htimes : Has P w K mg base "times" 1 ["sums", "points"] (spTimes K)) (h_pairs : Has P w K mg base "_pairs" 4 ["sums", "many", "least", "most", "taken"] (orS spPairs0 spPairs1)) (D : Df K mg "highest_points" (top 37) ["sums", "many", "slips"]) : Has P w K mg base "highest_points" 5 ["sums", "many", "slips"] (spHigB K) := by
  have sc := scHig
  refine .of D fun f fd F => F.ok sc (fun vs H Q E h => ?_) (fun cdv A outer s H vs Q E hr h => ?_)
  · obtain ⟨s, s0, s1, s2, N, m, rfl, _⟩ := h
    rfl
  · obtain ⟨s, s0, s1, s2, N, m, rfl, hs, ⟨sz, n2, bN, S2⟩, hm, k⟩ := h
    refine ⟨_, (pss_cons (ps_setLc (i := 3) (own := [("one", 4)]) (g := gName 4) (tt := tYes) rfl sc.nd rfl rfl (sw_true rfl rfl rfl (by decide +kernel)) (pi_list (pe_has htimes (hr.mono (by decide)) (pa_cons (pe_slice (slL (K := K)) (pv 0) po_none (po_some (pv 1))) (pa_cons (pe_lstN (pa_cons (pv 2) pa_nil)) pa_nil)))) (blkOk_by (N := (["sums", "many", "slips", "told", "one"] : List Str)) (sc := defScope (top 37)) (by decide +kernel)) (fun _ _ _ _ _ => (pg_name (i := 4) sc.nd rfl (by first | exact Or.inl rfl | exact Or.inr rfl))) (fun _ _ _ _ _ => pts_nil) (fun _ _ _ _ _ => (PE.mon (pe_un un_neg (pv 4)))))
      (pss_cons (ps_if (pt_cmpR op_eq (pe_op op_mod (pv 1) pe_int) pe_int (nomark _)) (pss_one (ps_ret (pe_lstN (kStar (K := K) (pe_has h_pairs (hr.mono (by decide)) (pa_cons (pv 3) (pa_cons (pe_op op_fdivW (pv 1) pe_int) (pa_cons pe_int (pa_cons (pe_op op_sub (pv 2) pe_int) (pa_cons (pe_lstN pa_nil) pa_nil)))))) (pa_cons (pv 2) pa_nil))))) pss_nil)
      (pss_one (ps_ret (pe_lstN (pa_cons pe_int (kStar (K := K) (pe_has h_pairs (hr.mono (by decide)) (pa_cons (pe_has htimes (hr.mono (by decide)) (pa_cons (pv 3) (pa_cons (pe_lstN (pa_cons pe_int pa_nil)) pa_nil))) (pa_cons (pe_op op_sub (pe_op op_fdivW (pv 1) pe_int) pe_int) (pa_cons pe_int (pa_cons (pe_op op_sub (pv 2) pe_int) (pa_cons (pe_lstN pa_nil) pa_nil)))))) (pa_cons (pv 2) pa_nil)))))))), ?_⟩
    walk_at "rd"
    refine ⟨s, _, rfl, .of hs, fun tl G n1 e1 t1 => ?_⟩
    rw [cut_take, ← List.map_take] at t1
    refine ⟨by decide, fun z G2 n2 e2 t2 => ?_⟩
    have szN : SzL [(N : Int)] 1001 := fun x hx => by
      simp only [List.mem_cons, List.not_mem_nil, or_false] at hx
      subst hx
      exact Nat.lt_of_lt_of_le (show ((N : Int)).natAbs < 2 ^ 1000 by rw [Int.natAbs_natCast]; exact bN) (Nat.pow_le_pow_right (by decide) (by decide))
    have lt3 : (([s0, s1, s2] : List Int).take m).length ≤ 6 := by rw [List.length_take]; simp; omega
    refine ⟨tl, z, _, [(N : Int)], 4000, 1001, rfl, e2 _ _ t1, t2, sz.take m, szN, lt3, by simp, by decide, by decide, fun q3 G3 e3 t3 => ?_⟩
    obtain ⟨cur, hcur⟩ : ∃ cur, cur = timesL (([s0, s1, s2] : List Int).take m) [(N : Int)] := ⟨_, rfl⟩
    rw [← hcur] at t3
    have lcur : cur.length ≤ 6 := by rw [hcur]; simp [timesL, stepL]; omega
    have bcur : SzL cur 5005 := by
      rw [hcur]
      exact (sz.take m).step (szN _ (by simp)) lt3
    refine ⟨q3, rfl, ⟨_, .of t3⟩, fun Dd hD => lcLn (fun i y _ => ∃ c, cur[i]? = some c ∧ y = .int (-c)) (fun _ _ _ _ _ h => h) hD (.of t3) (by rw [List.length_map]; omega) (fun _ => rfl) ?_ ?_⟩
    · intro i x G4 hx e4
      rw [List.getElem?_map] at hx
      cases hc : cur[i]? with
      | none => rw [hc] at hx; cases hx
      | some c =>
        rw [hc] at hx
        cases hx
        obtain ⟨R0, hR⟩ : ∃ R : VK, R = fun y G' => G' = G4 ∧ y = .int (-c) := ⟨_, rfl⟩
        refine ⟨R0, ?_, fun y G' h => by rw [hR] at h; obtain ⟨rfl, h⟩ := h; exact ⟨Ex.refl _, c, rfl, h⟩⟩
        walk_at "rd"
        rw [hR]
        exact ⟨rfl, rfl⟩
    · intro G4 ys e4 hy hl hr4
      rw [List.length_map] at hl
      rw [neg_ints hl hr4] at hy
      have e04 := ((e1.trans e2).trans e3).trans e4
      rcases hm with rfl | rfl
      · refine ⟨by decide, ?_⟩
        rw [if_pos (by decide)]
        rw [r_star]
        walk_at "rd"
        refine ⟨⟨by decide, by decide⟩, ?_⟩
        refine ⟨by decide, fun z5 G5 n5 e5 t5 => ?_⟩
        refine .inl ⟨Dd, z5, 0, (N : Int) - 1, rfl, fun q6 G6 e6 n6 t6 => ?_⟩
        refine ⟨q6, rfl, [], .inr (.of t6), Nat.le_trans (show _ ≤ 5 by simp) (by decide), fun q7 G7 n7 e7 t7 => ?_⟩
        exact k q7 G7 (((e04.trans e5).trans e6).trans e7) t7
      · refine ⟨by decide, ?_⟩
        rw [if_neg (by decide)]
        rw [r_star]
        walk_at "rd"
        refine ⟨by decide, fun z5 G5 n5 e5 t5 => ?_⟩
        refine ⟨Dd, z5, _, [0], 5005, 1, rfl, e5 _ _ hy, t5, fun x hx => by obtain ⟨c, hc, rfl⟩ := List.mem_map.mp hx; rw [Int.natAbs_neg]; exact bcur c hc, fun x hx => by simp at hx; subst hx; decide, by rw [List.length_map]; exact lcur, by simp, by decide, by decide, fun q6 G6 e6 t6 => ?_⟩
        refine ⟨⟨by decide, by decide⟩, ?_⟩
        refine ⟨by decide, fun z7 G7 n7 e7 t7 => ?_⟩
        refine .inl ⟨q6, z7, 1, (N : Int) - 1, rfl, fun q8 G8 e8 n8 t8 => ?_⟩
        refine ⟨q8, rfl, [], .inr (.of t8), Nat.le_trans (show _ ≤ 5 by simp) (by decide), fun q9 G9 n9 e9 t9 => ?_⟩
        exact k q9 G9 (((((e04.trans e5).trans e6).trans e7).trans e8).trans e9) t9
def spBrokenA (K : PySem.W.Frag) : Sp := fun vs H Q _ => ∃ (s : Addr) (s0 s1 s2 : Int) (N : Nat), vs = [.ref s, .int (N : Int)] ∧ H s = some (.lst ([s0, s1, s2].map V.int)) ∧ Sums2 s0 s1 s2 N ∧ 0 ≤ ((N : Int) - 1) * s1 - s2 ∧ ∀ H', Ex H H' → (0 ≤ fF s0 s1 s2 (atF s0 s1 N) → Q .non H') ∧ (fF s0 s1 s2 (atF s0 s1 N) < 0 → ∀ q, H' q = some (.lst ([atF s0 s1 N, atF s0 s1 N + 1].map V.int)) → Q (.ref q) H')
theorem ok_brokenA (B : Bi mg) (hlowest_points : Has P w K mg base "lowest_points" 5 ["sums", "many", "slips"] (spLowB K)) (hhighest_points : Has P w K mg base "highest_points" 5 ["sums", "many", "slips"] (spHigB K)) (hmean_on : Has P w K mg base "mean_on" 2 ["sums", "points", "slips"] (spMean K)) {f : Addr} {fd : FuncData} (F : Fun K "broken_points" "broken_points" (top 38) f fd) : FnOk P w K mg base CX0 6 f fd ["sums", "slips"] (spBrokenA K) := by
  have sc := scBroken
  refine F.ok sc (fun vs H Q E h => ?_) (fun cdv A outer s H vs Q E hr h => ?_)
  · obtain ⟨s, s0, s1, s2, N, rfl, _⟩ := h
    rfl
  · obtain ⟨s, s0, s1, s2, N, rfl, hs, S, hc, k⟩ := h
    refine ⟨_, (pss_cons (ps_for PassesOwn.never rfl (pi_range2 (by rfl) B.range (pa_cons pe_int (pa_cons (pe_callB (kLen (K := K)) (by rfl) B.len (by decide +kernel) (pa_cons (pv 0) pa_nil)) pa_nil))) (pg_name (i := 2) sc.nd rfl (by first | exact Or.inl rfl | exact Or.inr rfl))
      (pss_one (ps_for PassesOwn.never rfl (pi_tup (pe_tupN (pa_cons (pe_has hlowest_points (hr.mono (by decide)) (pa_cons (pv 0) (pa_cons (pv 2) (pa_cons (pv 1) pa_nil)))) (pa_cons (pe_has hhighest_points (hr.mono (by decide)) (pa_cons (pv 0) (pa_cons (pv 2) (pa_cons (pv 1) pa_nil)))) pa_nil)))) (pg_name (i := 3) sc.nd rfl (by first | exact Or.inl rfl | exact Or.inr rfl))
      (pss_one (ps_if (pt_cmpR op_lt (pe_has hmean_on (hr.mono (by decide)) (pa_cons (pv 0) (pa_cons (pv 3) (pa_cons (pv 1) pa_nil)))) pe_int (nomark _)) (pss_one (ps_ret (pv 3))) pss_nil)))))
      (pss_one (ps_ret pe_non))), ?_⟩
    walk_at "rd"
    refine ⟨_, .inl (.of hs), by decide, by decide, by simp, by simp, ?_⟩
    obtain ⟨a0, a1, a2, a3⟩ := at_ok S.p0 S.p1 S.q1 (by have := S.n2; omega)
    obtain ⟨A0, hA0⟩ : ∃ A0, A0 = atF s0 s1 N := ⟨_, rfl⟩
    rw [← hA0] at a0 a1 a2 a3 k
    obtain ⟨Fv, hFv⟩ : ∃ Fv, Fv = fF s0 s1 s2 A0 := ⟨_, rfl⟩
    rw [← hFv] at k
    have n2 := S.n2
    obtain ⟨Pv, hP⟩ : ∃ P : Nat → L2.St → Hp → Prop, P = fun (i : Nat) σ' G => Ex H G ∧ ∃ (z2 z3 : Option V), σ' = [some (.ref s), some (.int (N : Int)), z2, z3] ∧ (i = 2 → 0 ≤ Fv) := ⟨_, rfl⟩
    refine loopR Pv (by rw [hP]; exact ⟨Ex.refl _, _, _, rfl, fun z => by omega⟩) ?_ ?_
    · intro i σ' G hi h
      rw [hP] at h
      obtain ⟨e, z2, z3, rfl, _⟩ := h
      have hi : i < 2 := hi
      walk_at "rd"
      have hm : (i + 1 = 1 ∨ i + 1 = 2) := by omega
      rw [show (1 : Int) + (i : Int) = ((i + 1 : Nat) : Int) by omega]
      refine ⟨s, s0, s1, s2, N, i + 1, rfl, e _ _ hs, ⟨S.sz, S.n2, S.bN, fun _ => S⟩, hm, fun lo G2 e2 t2 => ?_⟩
      refine ⟨s, s0, s1, s2, N, i + 1, rfl, e2 _ _ (e _ _ hs), ⟨S.sz, S.n2, S.bN, fun _ => S⟩, hm, fun hg G3 e3 t3 => ?_⟩
      refine ⟨by decide, fun T G4 n4 e4 t4 => ?_⟩
      refine ⟨T, rfl, ⟨_, .of t4⟩, ?_⟩
      have e24 := (e2.trans e3).trans e4
      have hs4 := e24 _ _ (e _ _ hs)
      have lo4 := e4 _ _ (e3 _ _ t2)
      have hg4 := e4 _ _ t3
      obtain ⟨Uv, hU⟩ : ∃ U : Nat → L2.St → Hp → Prop, U = fun (j : Nat) σ' G' => Ex G4 G' ∧ ∃ (z : Option V), σ' = [some (.ref s), some (.int (N : Int)), some (.int ((i + 1 : Nat) : Int)), z] ∧ (1 ≤ j → i = 1 → 0 ≤ Fv) := ⟨_, rfl⟩
      have nb : ((N : Int)).natAbs < 2 ^ 1000 := by rw [Int.natAbs_natCast]; exact S.bN
      have p01 : (2 : Nat) ^ 1001 = 2 * 2 ^ 1000 := by rw [Nat.pow_succ]; omega
      refine loopT (xs := [V.ref lo, V.ref hg]) Uv (by rw [hU]; exact ⟨Ex.refl _, _, rfl, fun z => by omega⟩) (fun j σ' G' _ h => by rw [hU] at h; exact .of (h.1 _ _ t4)) ?_ ?_
      · intro j x σ' G5 hx h
        rw [hU] at h
        obtain ⟨e5, z, rfl, hF⟩ := h
        match j, hx with
        | 0, hx =>
          cases hx
          walk_at "rd"
          by_cases h1 : i = 0
          · subst h1
            refine ⟨s, lo, _, [0], N, 0, rfl, e5 _ _ hs4, e5 _ _ lo4, S.sz, fun x hx => by simp at hx; subst hx; decide, by simp, by simp, fun q hq => by omega, by simp; omega, fun G6 e6 => ?_⟩
            walk_at "rd"
            rw [t10]
            rw [if_neg (by have := S.p1; simp [sg]; omega)]
            rw [hU]
            exact ⟨e5.trans e6, _, rfl, fun _ z => by omega⟩
          · have h1 : i = 1 := by omega
            subst h1
            have lo5 : G5 lo = some (.lst ([A0, A0 + 1].map V.int)) := by
              rw [e5 _ _ lo4]
              unfold lowF
              rw [if_neg (by decide), ← hA0]
            have szP : SzL [A0, A0 + 1] 1001 := fun x hx => by
              simp only [List.mem_cons, List.not_mem_nil, or_false] at hx
              rcases hx with rfl | rfl <;> omega
            have fin : ∀ t : Nat, sg t = 1 → ∀ G6, Ex G5 G6 → (if sg t * (timesL (([s0, s1, s2] : List Int).take 3) [A0, A0 + 1]).getD 0 0 < 0 then Q (.ref lo) G6 else Uv 1 [some (.ref s), some (.int (N : Int)), some (.int ((1 + 1 : Nat) : Int)), some (.ref lo)] G6) := by
              intro t ht G6 e6
              rw [ht, t2a, ← hFv, Int.one_mul]
              by_cases neg : Fv < 0
              · rw [if_pos neg]
                exact (k G6 ((((e.trans e24).trans e5).trans e6))).2 neg lo (e6 _ _ lo5)
              · rw [if_neg neg, hU]
                exact ⟨e5.trans e6, _, rfl, fun _ _ => by omega⟩
            by_cases hN : A0 + 1 = (N : Int)
            · refine ⟨s, lo, _, [A0, A0 + 1], N, 2, rfl, e5 _ _ hs4, lo5, S.sz, szP, by simp, by simp, fun q hq => ?_, ?_, fun G6 e6 => ?_⟩
              · have : q = 0 ∨ q = 1 := by omega
                rcases this with rfl | rfl
                · simp; omega
                · simp; omega
              · simp; omega
              · walk_at "rd"
                exact fin 2 rfl G6 e6
            · refine ⟨s, lo, _, [A0, A0 + 1], N, 0, rfl, e5 _ _ hs4, lo5, S.sz, szP, by simp, by simp, fun q hq => by omega, ?_, fun G6 e6 => ?_⟩
              · simp; omega
              · walk_at "rd"
                exact fin 0 rfl G6 e6
        | 1, hx =>
          cases hx
          walk_at "rd"
          by_cases h1 : i = 0
          · subst h1
            refine ⟨s, hg, _, [(N : Int)], N, 1, rfl, e5 _ _ hs4, e5 _ _ hg4, S.sz, fun x hx => by simp at hx; subst hx; omega, by simp, by simp, fun q hq => (by rw [show q = 0 by omega]; simp), by simp; omega, fun G6 e6 => ?_⟩
            walk_at "rd"
            rw [t1N]
            rw [if_neg (by
              have := S.q1
              have e1 : sg 1 * (s1 + (0 - (N : Int)) * s0) = (N : Int) * s0 - s1 := by
                have : sg 1 = -1 := rfl
                rw [this]
                grind
              rw [e1]
              omega)]
            rw [hU]
            exact ⟨e5.trans e6, _, rfl, fun _ z => by omega⟩
          · have h1 : i = 1 := by omega
            subst h1
            refine ⟨s, hg, _, [0, (N : Int)], N, 1, rfl, e5 _ _ hs4, e5 _ _ hg4, S.sz, fun x hx => ?_, by simp, by simp, fun q hq => ?_, by simp; omega, fun G6 e6 => ?_⟩
            · simp only [List.mem_cons, List.not_mem_nil, or_false] at hx
              rcases hx with rfl | rfl
              · decide
              · omega
            · have : q = 0 := by omega
              subst this
              simp
            walk_at "rd"
            rw [t2N]
            rw [if_neg (by
              have e1 : sg 1 * ((s2 + (1 - 0) * s1) + (0 - (N : Int)) * (s1 + (0 - 0) * s0)) = ((N : Int) - 1) * s1 - s2 := by
                have : sg 1 = -1 := rfl
                rw [this]
                grind
              rw [e1]
              omega)]
            rw [hU]
            exact ⟨e5.trans e6, _, rfl, fun _ z => hF (by omega) z⟩
        | _ + 2, hx => simp at hx
      · intro σ' G5 h
        rw [hU] at h
        obtain ⟨e5, z, rfl, hF⟩ := h
        walk_at "rd"
        rw [hP]
        exact ⟨(e.trans e24).trans e5, _, _, rfl, fun z => hF (by simp) (by omega)⟩
    · intro σ' G h
      rw [hP] at h
      obtain ⟨e, z2, z3, rfl, h2⟩ := h
      walk_at "rd"
      exact (k G e).1 (h2 rfl)
def spBrokenB (K : PySem.W.Frag) : Sp := fun vs H Q _ => ∃ (s : Addr) (s1 s2 : Int) (N : Nat), vs = [.ref s, .int (N : Int)] ∧ H s = some (.lst ([0, s1, s2].map V.int)) ∧ 0 < s1 ∧ SzL [0, s1, s2] 4000 ∧ 2 ≤ N ∧ N < 2 ^ 1000 ∧ ∀ q H', Ex H H' → H' q = some (.lst [.int (N : Int)]) → Q (.ref q) H'
theorem ok_brokenB (B : Bi mg) (hlowest_points : Has P w K mg base "lowest_points" 5 ["sums", "many", "slips"] (spLowB K)) (hhighest_points : Has P w K mg base "highest_points" 5 ["sums", "many", "slips"] (spHigB K)) (hmean_on : Has P w K mg base "mean_on" 2 ["sums", "points", "slips"] (spMean K)) {f : Addr} {fd : FuncData} (F : Fun K "broken_points" "broken_points" (top 38) f fd) : FnOk P w K mg base CX0 6 f fd ["sums", "slips"] (spBrokenB K) := by
  have sc := scBroken
  refine F.ok sc (fun vs H Q E h => ?_) (fun cdv A outer s H vs Q E hr h => ?_)
  · obtain ⟨s, s1, s2, N, rfl, _⟩ := h
    rfl
  · obtain ⟨s, s1, s2, N, rfl, hs, p1, sz, n2, bN, k⟩ := h
    refine ⟨_, (pss_cons (ps_for PassesOwn.never rfl (pi_range2 (by rfl) B.range (pa_cons pe_int (pa_cons (pe_callB (kLen (K := K)) (by rfl) B.len (by decide +kernel) (pa_cons (pv 0) pa_nil)) pa_nil))) (pg_name (i := 2) sc.nd rfl (by first | exact Or.inl rfl | exact Or.inr rfl))
      (pss_one (ps_for PassesOwn.never rfl (pi_tup (pe_tupN (pa_cons (pe_has hlowest_points (hr.mono (by decide)) (pa_cons (pv 0) (pa_cons (pv 2) (pa_cons (pv 1) pa_nil)))) (pa_cons (pe_has hhighest_points (hr.mono (by decide)) (pa_cons (pv 0) (pa_cons (pv 2) (pa_cons (pv 1) pa_nil)))) pa_nil)))) (pg_name (i := 3) sc.nd rfl (by first | exact Or.inl rfl | exact Or.inr rfl))
      (pss_one (ps_if (pt_cmpR op_lt (pe_has hmean_on (hr.mono (by decide)) (pa_cons (pv 0) (pa_cons (pv 3) (pa_cons (pv 1) pa_nil)))) pe_int (nomark _)) (pss_one (ps_ret (pv 3))) pss_nil)))))
      (pss_one (ps_ret pe_non))), ?_⟩
    walk_at "rd"
    refine ⟨_, .inl (.of hs), by decide, by decide, by simp, by simp, ?_⟩
    obtain ⟨Pv, hP⟩ : ∃ P : Nat → L2.St → Hp → Prop, P = fun (i : Nat) σ' G => i = 0 ∧ Ex H G ∧ ∃ (z2 z3 : Option V), σ' = [some (.ref s), some (.int (N : Int)), z2, z3] := ⟨_, rfl⟩
    refine loopR Pv (by rw [hP]; exact ⟨rfl, Ex.refl _, _, _, rfl⟩) ?_ ?_
    · intro i σ' G hi h
      rw [hP] at h
      obtain ⟨rfl, e, z2, z3, rfl⟩ := h
      walk_at "rd"
      refine ⟨s, 0, s1, s2, N, 1, rfl, e _ _ hs, ⟨sz, n2, bN, fun z => by omega⟩, .inl rfl, fun lo G2 e2 t2 => ?_⟩
      refine ⟨s, 0, s1, s2, N, 1, rfl, e2 _ _ (e _ _ hs), ⟨sz, n2, bN, fun z => by omega⟩, .inl rfl, fun hg G3 e3 t3 => ?_⟩
      refine ⟨by decide, fun T G4 n4 e4 t4 => ?_⟩
      refine ⟨T, rfl, ⟨_, .of t4⟩, ?_⟩
      have e24 := (e2.trans e3).trans e4
      have hs4 := e24 _ _ (e _ _ hs)
      have lo4 := e4 _ _ (e3 _ _ t2)
      have hg4 := e4 _ _ t3
      have nb : ((N : Int)).natAbs < 2 ^ 1000 := by rw [Int.natAbs_natCast]; exact bN
      have p01 : (2 : Nat) ^ 1001 = 2 * 2 ^ 1000 := by rw [Nat.pow_succ]; omega
      obtain ⟨Uv, hU⟩ : ∃ U : Nat → L2.St → Hp → Prop, U = fun (j : Nat) σ' G' => j ≤ 1 ∧ Ex G4 G' ∧ ∃ (z : Option V), σ' = [some (.ref s), some (.int (N : Int)), some (.int 1), z] := ⟨_, rfl⟩
      refine loopT (xs := [V.ref lo, V.ref hg]) Uv (by rw [hU]; exact ⟨by decide, Ex.refl _, _, rfl⟩) (fun j σ' G' _ h => by rw [hU] at h; exact .of (h.2.1 _ _ t4)) ?_ ?_
      · intro j x σ' G5 hx h
        rw [hU] at h
        obtain ⟨_, e5, z, rfl⟩ := h
        match j, hx with
        | 0, hx =>
          cases hx
          walk_at "rd"
          refine ⟨s, lo, _, [0], N, 0, rfl, e5 _ _ hs4, e5 _ _ lo4, sz, fun x hx => by simp at hx; subst hx; decide, by simp, by simp, fun q hq => by omega, by simp; omega, fun G6 e6 => ?_⟩
          walk_at "rd"
          rw [t10]
          rw [if_neg (by simp [sg]; omega)]
          rw [hU]
          exact ⟨by decide, e5.trans e6, _, rfl⟩
        | 1, hx =>
          cases hx
          walk_at "rd"
          refine ⟨s, hg, _, [(N : Int)], N, 1, rfl, e5 _ _ hs4, e5 _ _ hg4, sz, fun x hx => by simp at hx; subst hx; omega, by simp, by simp, fun q hq => (by rw [show q = 0 by omega]; simp), by simp; omega, fun G6 e6 => ?_⟩
          walk_at "rd"
          rw [t1N]
          rw [if_pos (by
            have : sg 1 = -1 := rfl
            rw [this]
            omega)]
          exact k hg G6 (((e.trans e24).trans e5).trans e6) ((e5.trans e6) _ _ hg4)
        | _ + 2, hx => simp at hx
      · intro σ' G5 h
        rw [hU] at h
        exact absurd h.1 (by simp)
    · intro σ' G h
      rw [hP] at h
      exact absurd h.1 (by simp)
theorem has_broken2 (B : Bi mg) (hlowest_points : Has P w K mg base "lowest_points" 5 ["sums", "many", "slips"] (spLowB K)) (hhighest_points : Has P w K mg base "highest_points" 5 ["sums", "many", "slips"] (spHigB K)) (hmean_on : Has P w K mg base "mean_on" 2 ["sums", "points", "slips"] (spMean K)) (D : Df K mg "broken_points" (top 38) ["sums", "slips"]) : Has P w K mg base "broken_points" 6 ["sums", "slips"] (orS (spBrokenA K) (spBrokenB K)) :=
  Has.of D fun f fd F => FnOk_or (ok_brokenA B hlowest_points hhighest_points hmean_on F) (ok_brokenB B hlowest_points hhighest_points hmean_on F)
end

section
/-! ### the shares' arithmetic of (1, 2, 1) at N = 2 h -/
theorem part_mean {h a b t x : Int} (ht : t * (4 * (a * (a + 1))) = b * (2 * h * (4 * a - (2 * h - 1)))) : 4 * (a * (a + 1)) * gF (8 * t) (4 * (2 * h) * b) (2 * (2 * h * (2 * h - 1)) * b) x = 8 * (2 * h) * b * ((a - x) * ((2 * h - 1) * (a + x + 1) - 4 * (a * x))) := by
  unfold gF
  grind
theorem part_next {h a x : Int} (h1 : 1 ≤ h) (ha : h ≤ a) (hx : x = 2 * (a * (a + 1)) / (4 * a - (2 * h - 1))) : h ≤ x ∧ x ≤ a ∧ (x = a → a = h) := by
  obtain ⟨D, hD⟩ : ∃ D, D = 4 * a - (2 * h - 1) := ⟨_, rfl⟩
  rw [← hD] at hx
  have D0 : 0 < D := by omega
  have q1 := Int.ediv_mul_le (2 * (a * (a + 1))) (Int.ne_of_gt D0)
  have q2 := Int.lt_ediv_add_one_mul_self (2 * (a * (a + 1))) D0
  rw [← hx] at q1 q2
  have up : 2 * (a * (a + 1)) < (a + 1) * D := by
    have e : (a + 1) * D - 2 * (a * (a + 1)) = (a + 1) * (2 * a - (2 * h - 1)) := by rw [hD]; grind
    have : 0 < (a + 1) * (2 * a - (2 * h - 1)) := Int.mul_pos (by omega) (by omega)
    omega
  have lo : h * D ≤ 2 * (a * (a + 1)) := by
    have e : 2 * (a * (a + 1)) - h * D = 2 * ((a - h) * (a - h)) + (2 * a - h) := by rw [hD]; grind
    have : 0 ≤ (a - h) * (a - h) := Int.mul_nonneg (by omega) (by omega)
    omega
  refine ⟨?_, ?_, fun e => ?_⟩
  · rcases Int.lt_or_le x h with z | z
    · have : (x + 1) * D ≤ h * D := Int.mul_le_mul_of_nonneg_right (by omega) (by omega)
      omega
    · exact z
  · rcases Int.lt_or_le a x with z | z
    · have : (a + 1) * D ≤ x * D := Int.mul_le_mul_of_nonneg_right (by omega) (by omega)
      omega
    · exact z
  · rw [e] at q1
    have e2 : 2 * (a * (a + 1)) - a * D = a * ((2 * h + 1) - 2 * a) := by rw [hD]; grind
    have z : 0 ≤ a * ((2 * h + 1) - 2 * a) := by omega
    have := Int.nonneg_of_mul_nonneg_right z (by omega)
    omega
theorem part_low {h a x : Int} (h1 : 1 ≤ h) (hx : h ≤ x) (xa : x < a) : (a - x) * ((2 * h - 1) * (a + x + 1) - 4 * (a * x)) < 0 := by
  have p1 : h * a ≤ x * a := Int.mul_le_mul_of_nonneg_right hx (by omega)
  have p2 : h * x ≤ a * x := Int.mul_le_mul_of_nonneg_right (by omega) (by omega)
  refine Int.mul_neg_of_pos_of_neg (by omega) ?_
  have e : (2 * h - 1) * (a + x + 1) - 4 * (a * x) = 2 * (h * a - x * a) + 2 * (h * x - a * x) + (2 * h - a - x - 1) := by grind
  omega
end

section
variable {P : Program} {w : World} {K : PySem.W.Frag} {mg : Str → Option Value} {base : Heap}
/-! ### _sums_of_lots, _part_and_points -/
def spSumsLots (K : PySem.W.Frag) (C : Addr) : Sp := fun vs H Q _ => ∃ (x : V) (ps : List Int) (N : Nat), vs = [x, .int (N : Int)] ∧ IsRow K C H x ps ∧ NumL ps 3 (2 ^ 110) ∧ 0 < ps.sum ∧ N < 2 ^ 1000 ∧ comeB ps N = true ∧ ∀ l H', Ex H H' → H' l = some (.lst ((sumsL ps N).map V.int)) → Q (.ref l) H'
theorem scSumsLots : FnScope ["row", "slips", "sums"] ["row", "slips"] (defScope (top 52)) := ⟨rfl, rfl, rfl, by decide +kernel, rfl, by decide +kernel, by decide +kernel⟩
theorem has_sums_lots {C : Addr} (B : Bi mg) (RT : RowT P w K mg base C) (hrow_sums : Has P w K mg base "row_sums" 2 ["counts", "slips"] (spSums K)) (hbroken_points : Has P w K mg base "broken_points" 6 ["sums", "slips"] (orS (spBrokenA K) (spBrokenB K))) (D : Df K mg "_sums_of_lots" (top 52) ["row", "slips"]) : Has P w K mg base "_sums_of_lots" 7 ["row", "slips"] (spSumsLots K C) := by
  have sc := scSumsLots
  refine .of D fun f fd F => F.ok sc (fun vs H Q E h => ?_) (fun cdv A outer s H vs Q E hr h => ?_)
  · obtain ⟨x, ps, N, rfl, _⟩ := h
    rfl
  · obtain ⟨x, ps, N, rfl, hrow, hN, sp, bN, cm, k⟩ := h
    refine ⟨_, (pss_cons (ps_set (i := 2) sc.nd rfl (by first | exact Or.inl rfl | exact Or.inr rfl) (pe_has hrow_sums (hr.mono (by decide)) (pa_cons (kCounts RT (hr.mono (by decide)) (pv 0)) (pa_cons (pv 1) pa_nil))))
      (pss_cons (ps_if (pt_cmpR op_notN (pe_has hbroken_points (hr.mono (by decide)) (pa_cons (pv 2) (pa_cons (pv 1) pa_nil))) pe_non (nomark _)) (pss_one ps_never) pss_nil)
      (pss_one (ps_ret (pv 2))))), ?_⟩
    walk_at "rd"
    unfold comeB at cm
    rw [Bool.and_eq_true, decide_eq_true_eq, decide_eq_true_eq] at cm
    obtain ⟨h2, hF⟩ := cm
    refine ⟨ps, hrow, fun y ⟨p, ey, hS⟩ => ?_⟩
    subst ey
    refine ⟨p, ps, N, rfl, hS, hN, h2, bN, fun l G e hl => ?_⟩
    have hl' := hl
    rw [sums_eq hN] at hl'
    obtain ⟨so, sx⟩ := sums_ok hN sp h2 bN
    walk_at "rd"
    refine .inl ⟨l, _, _, _, N, rfl, hl', so, sx, fun G2 e2 => ⟨fun _ => ?_, fun hF2 => absurd hF2 (by omega)⟩⟩
    show if ¬V.non = V.non then False else Q (V.ref l) G2
    rw [if_neg (by simp)]
    exact k l G2 (e.trans e2) (e2 _ _ hl)

theorem cross {T B : Int} (hb : 0 < B) : ((T : Rat) / (B : Rat)).num * B = T * ((((T : Rat) / (B : Rat)).den : Nat) : Int) := by
  have g0 : ((Int.gcd B T : Nat) : Int) ≠ 0 := by
    have : Int.gcd B T ≠ 0 := fun z => by
      have := (Int.gcd_eq_zero_iff.mp z).1
      omega
    omega
  rw [div_num hb, div_den hb]
  obtain ⟨u, hu⟩ := Int.gcd_dvd_right (a := B) (b := T)
  obtain ⟨v, hv⟩ := Int.gcd_dvd_left (a := B) (b := T)
  generalize ((Int.gcd B T : Nat) : Int) = g at *
  have e1 : T / g = u := by rw [hu]; exact Int.mul_ediv_cancel_left u g0
  have e2 : B / g = v := by rw [hv]; exact Int.mul_ediv_cancel_left v g0
  rw [e1, e2, hu, hv]
  grind
/-- the sums less those of the urn without yes -/
def lessL (N : Int) : List Int := [0, 4 * N, 2 * (N * (N - 1))]
def partR (N a : Int) : Rat := ((2 * N * (4 * a - (N - 1)) : Int) : Rat) / ((8 * (a * (a + 1)) : Int) : Rat)
theorem part_sz {N : Int} {h a : Nat} (h1 : 1 ≤ h) (ha : h ≤ a) (hN : N = 2 * (h : Int)) (haN : (a : Int) ≤ N - 1) (Nb : N.natAbs < 2 ^ 111) : (partR N a).num.natAbs < 2 ^ 240 ∧ ((((partR N a).den : Nat) : Int)).natAbs < 2 ^ 240 := by
  have ab : (a : Int).natAbs < 2 ^ 111 := by omega
  have a1b : ((a : Int) + 1).natAbs < 2 ^ 111 := by omega
  have aab := wide_lt ab a1b
  have p3 : (2 : Nat) ^ 114 = 8 * 2 ^ 111 := by decide
  have p4 : (2 : Nat) ^ 112 = 2 * 2 ^ 111 := by decide
  have p5 : (2 : Nat) ^ 240 = 2 ^ 18 * 2 ^ 222 := by decide
  have t1 : (4 * (a : Int) - (N - 1)).natAbs < 2 ^ 114 := by omega
  have t2 : (2 * N).natAbs < 2 ^ 112 := by omega
  have t3 := wide_lt t2 t1
  have B0 : 0 < 8 * ((a : Int) * ((a : Int) + 1)) := Int.mul_pos (by decide) (Int.mul_pos (by omega) (by omega))
  have z := sz_div (n := 240) B0 (lt2_mono t3 (by decide)) (by omega)
  exact ⟨z.1, den_lt z⟩
theorem part_pos {h a b t : Int} (h1 : 1 ≤ h) (ha : h ≤ a) (haN : a ≤ 2 * h - 1) (b0 : 0 < b) (ht : t * (4 * (a * (a + 1))) = b * (2 * h * (4 * a - (2 * h - 1)))) : 0 < t ∧ b ≤ 2 * t := by
  have A0 : 0 < 4 * (a * (a + 1)) := Int.mul_pos (by decide) (Int.mul_pos (by omega) (by omega))
  have q1 : 0 ≤ (a - h) * ((2 * h - 1) - a) := Int.mul_nonneg (by omega) (by omega)
  have q2 : 0 < h * a := Int.mul_pos (by omega) (by omega)
  have e : 2 * h * (4 * a - (2 * h - 1)) - 2 * (a * (a + 1)) = 2 * ((a - h) * ((2 * h - 1) - a)) + 2 * (h * a) := by grind
  have T0 : 2 * (a * (a + 1)) ≤ 2 * h * (4 * a - (2 * h - 1)) := by omega
  have r1 : b * (2 * (a * (a + 1))) ≤ b * (2 * h * (4 * a - (2 * h - 1))) := Int.mul_le_mul_of_nonneg_left T0 (by omega)
  have key : 0 ≤ (2 * t - b) * (2 * (a * (a + 1))) := by
    have : (2 * t - b) * (2 * (a * (a + 1))) = t * (4 * (a * (a + 1))) - b * (2 * (a * (a + 1))) := by grind
    omega
  have := Int.nonneg_of_mul_nonneg_left key (by omega)
  omega
theorem part_fin {h : Nat} (h1 : 1 ≤ h) : (partR (2 * (h : Int)) (h : Int)).num = 2 * (h : Int) + 1 ∧ (((partR (2 * (h : Int)) (h : Int)).den : Nat) : Int) = 2 * (h : Int) + 2 := by
  have eT : 2 * (2 * (h : Int)) * (4 * (h : Int) - (2 * (h : Int) - 1)) = 4 * (h : Int) * (2 * (h : Int) + 1) := by grind
  have eB : 8 * ((h : Int) * ((h : Int) + 1)) = 4 * (h : Int) * (2 * (h : Int) + 2) := by grind
  have B0 : 0 < 4 * (h : Int) * (2 * (h : Int) + 2) := Int.mul_pos (by omega) (by omega)
  have g1 : Int.gcd (2 * (h : Int) + 2) (2 * (h : Int) + 1) = 1 := by
    have d := Int.dvd_sub (Int.gcd_dvd_left (a := 2 * (h : Int) + 2) (b := 2 * (h : Int) + 1)) (Int.gcd_dvd_right (a := 2 * (h : Int) + 2) (b := 2 * (h : Int) + 1))
    rw [show (2 * (h : Int) + 2) - (2 * (h : Int) + 1) = 1 by omega] at d
    have l := Int.le_of_dvd (by decide) d
    have p : 0 < Int.gcd (2 * (h : Int) + 2) (2 * (h : Int) + 1) := Int.gcd_pos_of_ne_zero_left _ (by omega)
    omega
  have g : ((Int.gcd (4 * (h : Int) * (2 * (h : Int) + 2)) (4 * (h : Int) * (2 * (h : Int) + 1)) : Nat) : Int) = 4 * (h : Int) := by
    rw [Int.gcd_mul_left, g1]
    omega
  unfold partR
  rw [eT, eB, div_num B0, div_den B0, g]
  exact ⟨Int.mul_ediv_cancel_left _ (by omega), Int.mul_ediv_cancel_left _ (by omega)⟩
theorem part_half {N : Int} (h1 : 1 ≤ N) : (((4 * N : Int) : Rat) / ((8 * N : Int) : Rat)).num = 1 ∧ (((((4 * N : Int) : Rat) / ((8 * N : Int) : Rat)).den : Nat) : Int) = 2 := by
  have B0 : 0 < 8 * N := by omega
  have g : ((Int.gcd (8 * N) (4 * N) : Nat) : Int) = 4 * N := by
    rw [show 8 * N = 4 * N * 2 by omega]
    conv => lhs; rw [show 4 * N = 4 * N * 1 by omega]
    rw [show 4 * N * 1 * 2 = 4 * N * 2 by omega, Int.gcd_mul_left, show Int.gcd 2 1 = 1 by decide]
    omega
  rw [div_num B0, div_den B0, g, Int.ediv_self (by omega)]
  exact ⟨rfl, by rw [show 8 * N = 4 * N * 2 by omega]; exact Int.mul_ediv_cancel_left _ (by omega)⟩
def spPart (K : PySem.W.Frag) : Sp := fun vs H Q _ => ∃ (s m : Addr) (h : Nat), vs = [.ref s, .ref m, .int ((2 * h : Nat) : Int)] ∧ H s = some (.lst ((lessL ((2 * h : Nat) : Int)).map V.int)) ∧ H m = some (.lst (([8, 0, 0] : List Int).map V.int)) ∧ 1 ≤ h ∧ h < 2 ^ 110 ∧ ∀ r t p H', Ex H H' → H' r = some (.tup [.ref t, p]) → H' t = some (.tup [.int (2 * (h : Int) + 1), .int (2 * (h : Int) + 2)]) → Q (.ref r) H'
theorem scPart : FnScope ["sums", "more", "slips", "top", "bottom", "reached", "points", "one", "two", "gain"] ["sums", "more", "slips"] (defScope (top 53)) := ⟨rfl, rfl, rfl, by decide +kernel, rfl, by decide +kernel, by decide +kernel⟩
theorem has_part (B : Bi mg) (hbroken_points : Has P w K mg base "broken_points" 6 ["sums", "slips"] (orS (spBrokenA K) (spBrokenB K))) (hmean_on : Has P w K mg base "mean_on" 2 ["sums", "points", "slips"] (spMean K)) (hlowest : Has P w K mg base "lowest" 1 ["top", "bottom"] (spLowest K)) (D : Df K mg "_part_and_points" (top 53) ["sums", "more", "slips"]) : Has P w K mg base "_part_and_points" 7 ["sums", "more", "slips"] (spPart K) := by
  have sc := scPart
  refine .of D fun f fd F => F.ok sc (fun vs H Q E h => ?_) (fun cdv A outer s H vs Q E hr h => ?_)
  · obtain ⟨s, m, h, rfl, _⟩ := h
    rfl
  · obtain ⟨s, m, h, rfl, hs, hm, h1, hb, k⟩ := h
    refine ⟨_, (pss_cons (ps_asg (pe_tupN (pa_cons pe_int (pa_cons pe_int pa_nil))) (pg_tup rfl (pgs_cons (pg_name (i := 3) sc.nd rfl (by first | exact Or.inl rfl | exact Or.inr rfl)) (pgs_cons (pg_name (i := 4) sc.nd rfl (by first | exact Or.inl rfl | exact Or.inr rfl)) pgs_nil))))
      (pss_cons (ps_set (i := 5) sc.nd rfl (by first | exact Or.inl rfl | exact Or.inr rfl) (pe_lstN pa_nil))
      (pss_one (ps_while PassesOwn.never (PT.mon (pt_val pe_bl)) (pss_cons (ps_set (i := 6) sc.nd rfl (by first | exact Or.inl rfl | exact Or.inr rfl) (pe_has hbroken_points (hr.mono (by decide)) (pa_cons (pe_lc (own := [("one", 7), ("two", 8)]) (g := gTup K 2 (gCons (gName 7) (gCons (gName 8) gNil))) (tt := tYes) rfl sc.nd (kZip (K := K) (by rfl) B.zip (pa_cons (pv 0) (pa_cons (pv 1) pa_nil))) (blkOk_by (N := (["sums", "more", "slips", "top", "bottom", "reached", "points", "one", "two", "gain"] : List Str)) (sc := defScope (top 53)) (by decide +kernel)) (fun _ _ _ _ _ => (pg_tup rfl (pgs_cons (pg_name (i := 7) sc.nd rfl (by first | exact Or.inl rfl | exact Or.inr rfl)) (pgs_cons (pg_name (i := 8) sc.nd rfl (by first | exact Or.inl rfl | exact Or.inr rfl)) pgs_nil)))) (fun _ _ _ _ _ => pts_nil) (fun _ _ _ _ _ => (PE.mon (pe_op op_add (pe_op op_mulS (pv 4) (pv 7)) (pe_op op_mulS (pv 3) (pv 8)))))) (pa_cons (pv 2) pa_nil))))
      (pss_cons (ps_if (pt_cmpR op_isN (pv 6) pe_non (nomark _)) (pss_one (ps_ret (pe_tupN (pa_cons (pe_tupN (pa_cons (pv 3) (pa_cons (pv 4) pa_nil))) (pa_cons (pv 5) pa_nil))))) pss_nil)
      (pss_cons (ps_set (i := 9) sc.nd rfl (by first | exact Or.inl rfl | exact Or.inr rfl) (pe_has hmean_on (hr.mono (by decide)) (pa_cons (pv 1) (pa_cons (pv 6) (pa_cons (pv 2) pa_nil)))))
      (pss_cons (ps_if (pt_cmpR op_le (pv 9) pe_int (nomark _)) (pss_one (ps_ret pe_non)) pss_nil)
      (pss_cons (ps_asg (pe_has hlowest (hr.mono (by decide)) (pa_cons (pe_un un_neg (pe_has hmean_on (hr.mono (by decide)) (pa_cons (pv 0) (pa_cons (pv 6) (pa_cons (pv 2) pa_nil))))) (pa_cons (pv 9) pa_nil))) (pg_tup rfl (pgs_cons (pg_name (i := 3) sc.nd rfl (by first | exact Or.inl rfl | exact Or.inr rfl)) (pgs_cons (pg_name (i := 4) sc.nd rfl (by first | exact Or.inl rfl | exact Or.inr rfl)) pgs_nil))))
      (pss_one (ps_set (i := 5) sc.nd rfl (by first | exact Or.inl rfl | exact Or.inr rfl) (pv 6)))))))))))), ?_⟩
    walk_at "rd"
    have p01 : (2 : Nat) ^ 111 = 2 * 2 ^ 110 := by decide
    obtain ⟨N, hNe⟩ : ∃ N : Int, N = ((2 * h : Nat) : Int) := ⟨_, rfl⟩
    rw [← hNe] at hs ⊢
    have N2 : N = 2 * (h : Int) := by omega
    have Nb : N.natAbs < 2 ^ 111 := by omega
    have N1b : (N - 1).natAbs < 2 ^ 111 := by omega
    have NNb : (N * (N - 1)).natAbs < 2 ^ 222 := wide_lt Nb N1b
    have bX : ∀ i < 3, ((lessL N).getD i 0).natAbs < 2 ^ 240 := fun i hi => by
      have p : (2 : Nat) ^ 240 = 2 ^ 18 * 2 ^ 222 := by decide
      have p2 : (2 : Nat) ^ 240 = 2 ^ 129 * 2 ^ 111 := by decide
      have : i = 0 ∨ i = 1 ∨ i = 2 := by omega
      rcases this with rfl | rfl | rfl <;> (simp only [lessL, List.getD_cons_zero, List.getD_cons_succ]; omega)
    refine ⟨by decide, fun T G0 n0 e0 t0 => ⟨T, rfl, _, .of t0, rfl, ?_⟩⟩
    walk_at "rd"
    refine ⟨by decide, fun re G n e1 tre => ?_⟩
    have e := e0.trans e1
    refine ⟨fun mm σ' G' => Ex H G' ∧ ∃ (t b : Int) (re : Addr) (z6 z7 z8 z9 : Option V), σ' = [some (.ref s), some (.ref m), some (.int N), some (.int t), some (.int b), some (.ref re), z6, z7, z8, z9] ∧
      ((mm = 2 * h + 1 ∧ t = 0 ∧ b = 1) ∨ (mm = 2 * h ∧ t = 1 ∧ b = 2) ∨ ∃ a : Nat, mm = a ∧ h ≤ a ∧ (a : Int) ≤ N - 1 ∧ t = (partR N a).num ∧ b = (((partR N a).den : Nat) : Int)), ⟨2 * h + 1, e, 0, 1, re, _, _, _, _, rfl, .inl ⟨rfl, rfl, rfl⟩⟩, ?_⟩
    rintro mm σ' G' ⟨e', t, b, re, z6, z7, z8, z9, rfl, hst⟩
    refine ⟨fun bb G2 => bb = true ∧ G2 = G', ⟨_, rfl, rfl, rfl⟩, fun bb G2 hbb => ?_⟩
    rw [hbb.1, hbb.2]
    show if true = true then _ else _
    rw [if_pos rfl]
    refine ⟨fun σ3 G3 => Ex H G3 ∧ ∃ (t b : Int) (re : Addr) (z6 z7 z8 z9 : Option V), σ3 = [some (.ref s), some (.ref m), some (.int N), some (.int t), some (.int b), some (.ref re), z6, z7, z8, z9] ∧
      ((mm = 2 * h + 1 ∧ t = 1 ∧ b = 2) ∨ ∃ a : Nat, a < mm ∧ h ≤ a ∧ (a : Int) ≤ N - 1 ∧ t = (partR N a).num ∧ b = (((partR N a).den : Nat) : Int)), ?_, ?_⟩
    · rintro σ3 G3 ⟨e3, t, b, re, z6, z7, z8, z9, rfl, ⟨q1, q2, q3⟩ | ⟨a, q1, q2⟩⟩
      · exact ⟨2 * h, by omega, e3, t, b, re, z6, z7, z8, z9, rfl, .inr (.inl ⟨rfl, q2, q3⟩)⟩
      · exact ⟨a, by omega, e3, t, b, re, z6, z7, z8, z9, rfl, .inr (.inr ⟨a, rfl, q2⟩)⟩
    walk_at "rd"
    obtain ⟨cs, hcs⟩ : ∃ cs : List Int, cs = [b * 0 + t * 8, b * (4 * N) + t * 0, b * (2 * (N * (N - 1))) + t * 0] := ⟨_, rfl⟩
    have tb : t.natAbs < 2 ^ 240 ∧ b.natAbs < 2 ^ 240 := by
      have pp : (2 : Nat) ≤ 2 ^ 239 := by decide
      have pq : (2 : Nat) ^ 240 = 2 * 2 ^ 239 := by decide
      rcases hst with ⟨_, rfl, rfl⟩ | ⟨_, rfl, rfl⟩ | ⟨a, _, ha, haN, rfl, rfl⟩
      · exact ⟨by decide, by decide⟩
      · exact ⟨by decide, by decide⟩
      · exact part_sz h1 ha (by omega) haN Nb
    have cget : ∀ (i : Nat) (u v : Int), (lessL N)[i]? = some u → ([8, 0, 0] : List Int)[i]? = some v → cs[i]? = some (b * u + t * v) ∧ u.natAbs < 2 ^ 240 ∧ v.natAbs < 2 ^ 4 := fun i u v hu hv => by
      rw [hcs]
      have b0 := bX 0 (by decide)
      have b1 := bX 1 (by decide)
      have b2 := bX 2 (by decide)
      match i, hu, hv with
      | 0, hu, hv => cases hu; cases hv; exact ⟨rfl, b0, by decide⟩
      | 1, hu, hv => cases hu; cases hv; exact ⟨rfl, b1, by decide⟩
      | 2, hu, hv => cases hu; cases hv; exact ⟨rfl, b2, by decide⟩
      | _ + 3, hu, hv => simp at hv
    refine ⟨true, ⟨_, .of (e' _ _ hs)⟩, true, ⟨_, .of (e' _ _ hm)⟩, fun Dd hD => ?_⟩
    refine lcZ (xs := (lessL N).map V.int) (ys := ([8, 0, 0] : List Int).map V.int) (n := 3) rfl (fun i y _ => ∃ c, cs[i]? = some c ∧ y = .int c) (fun _ _ _ _ _ h => h) hD (k1 := true) (k2 := true) (.of (e' _ _ hs)) (.of (e' _ _ hm)) (by decide) (gm_tup (gm_cons gm_name (gm_cons gm_name gm_nil))) ?_ ?_
    · intro i x1 y1 T G3 hx1 hy1 e3 hT
      obtain ⟨u, hu, rfl⟩ := map_int_get hx1
      obtain ⟨v, hv, rfl⟩ := map_int_get hy1
      obtain ⟨c1, c2, c3⟩ := cget i u v hu hv
      walk_at "rd"
      refine ⟨_, .of hT, rfl, ?_⟩
      walk_at "rd"
      obtain ⟨R1, hR1⟩ : ∃ R : VK, R = fun y H' => y = .int (b * u + t * v) ∧ H' = G3 := ⟨_, rfl⟩
      refine ⟨R1, ?_, fun y H' h => by rw [hR1] at h; obtain ⟨rfl, rfl⟩ := h; exact ⟨Ex.refl _, _, c1, rfl⟩⟩
      walk_at "rd"
      refine ⟨cmul 240 240 tb.2 c2, ?_⟩
      refine ⟨cmul 240 4 tb.1 c3, ?_⟩
      rw [hR1]
      exact ⟨rfl, rfl⟩
    · intro G3 ys e3 hy hly hr3
      have ey : ys = cs.map V.int := by
        have := ints_of_map (f := fun c => c) (by rw [hly, hcs]; rfl) hr3
        rw [this, List.map_id']
      rw [ey] at hy
      have eall := e'.trans e3
      have hs3 := eall _ _ hs
      have hm3 := eall _ _ hm
      have broke : ∀ (W : VK) (EE : XK), (∀ G4, Ex G3 G4 → t = 2 * (h : Int) + 1 → b = 2 * (h : Int) + 2 → W .non G4) →
          (∀ q G4, Ex G3 G4 → mm = 2 * h + 1 → G4 q = some (.lst ([N].map V.int)) → W (.ref q) G4) →
          (∀ (x : Nat) q G4, Ex G3 G4 → h ≤ x → (x : Int) ≤ N - 1 → x < mm → G4 q = some (.lst ([(x : Int), (x : Int) + 1].map V.int)) → W (.ref q) G4) →
          orS (spBrokenA K) (spBrokenB K) [V.ref Dd, V.int N] G3 W EE := by
        intro W EE k0 k1 k2
        have hN2 : (2 : Nat) ≤ 2 * h := by omega
        have hNb : 2 * h < 2 ^ 1000 := Nat.lt_of_lt_of_le (show 2 * h < 2 ^ 111 by omega) (Nat.pow_le_pow_right (by decide) (by decide))
        have lift : ∀ {x : Int} {i : Nat}, x.natAbs < 2 ^ 600 → 600 ≤ i → x.natAbs < 2 ^ i := fun h1 h2 => lt2_mono h1 h2
        rcases hst with ⟨q1, rfl, rfl⟩ | ⟨q1, rfl, rfl⟩ | ⟨a, hma, ha, haN, ht, hb⟩
        · have ec : cs = [0, 4 * N, 2 * (N * (N - 1))] := by
            rw [hcs]
            simp
          rw [ec] at hy
          refine .inr ⟨Dd, 4 * N, 2 * (N * (N - 1)), 2 * h, by rw [hNe], hy, by omega, ?_, hN2, hNb, fun q H' e4 hq => k1 q H' e4 q1 (by rw [hq, hNe]; rfl)⟩
          intro x hx
          simp only [List.mem_cons, List.not_mem_nil, or_false] at hx
          have c1 := bX 1 (by decide)
          have c2 := bX 2 (by decide)
          rcases hx with rfl | rfl | rfl
          · exact Nat.pow_pos (by decide)
          · exact lt2_mono c1 (by decide)
          · exact lt2_mono c2 (by decide)
        · have ec : cs = [8, 8 * N, 4 * (N * (N - 1))] := by
            rw [hcs]
            simp
            constructor <;> grind
          rw [ec] at hy
          have c2 := bX 2 (by decide)
          simp only [lessL, List.getD_cons_zero, List.getD_cons_succ] at c2
          have S : Sums2 8 (8 * N) (4 * (N * (N - 1))) (2 * h) := ⟨by decide, by omega, by omega, hN2, Nat.lt_of_lt_of_le (show _ < 2 ^ 4 by decide) (Nat.pow_le_pow_right (by decide) (by decide)), lt2_mono (n := 115) (by
            have : (2 : Nat) ^ 115 = 16 * 2 ^ 111 := by decide
            omega) (by decide), lt2_mono (n := 242) (by
            have : (2 : Nat) ^ 242 = 4 * 2 ^ 240 := by decide
            omega) (by decide), hNb⟩
          have ea : atF 8 (8 * N) (2 * h) = N - 1 := by
            unfold atF
            rw [Int.mul_ediv_cancel_left _ (by decide), if_neg (by omega)]
            omega
          have pNN : 0 < N * (N - 1) := Int.mul_pos (by omega) (by omega)
          refine .inl ⟨Dd, _, _, _, 2 * h, by rw [hNe], hy, S, ?_, fun H' e4 => ⟨fun hF => ?_, fun hF q hq => ?_⟩⟩
          · have : (((2 * h : Nat) : Int) - 1) * (8 * N) - 4 * (N * (N - 1)) = 4 * (N * (N - 1)) := by
              rw [← hNe]
              grind
            omega
          · rw [ea] at hF
            have : fF 8 (8 * N) (4 * (N * (N - 1))) (N - 1) = -(4 * (N * (N - 1))) := by
              rw [gf_f]
              unfold gF
              grind
            omega
          · rw [ea] at hq
            refine k2 (2 * h - 1) q H' e4 (by omega) (by omega) (by omega) ?_
            rw [hq]
            have : (((2 * h - 1 : Nat) : Int)) = N - 1 := by omega
            rw [this]
        · have a1 : (1 : Int) ≤ a := by omega
          have B0 : 0 < 8 * ((a : Int) * ((a : Int) + 1)) := Int.mul_pos (by decide) (Int.mul_pos (by omega) (by omega))
          have cr := cross (T := 2 * N * (4 * (a : Int) - (N - 1))) B0
          have cr' : t * (8 * ((a : Int) * ((a : Int) + 1))) = 2 * N * (4 * (a : Int) - (N - 1)) * b := by
            rw [ht, hb]
            exact cr
          have b0 : 0 < b := by rw [hb]; exact den_pos _
          have ht' : t * (4 * ((a : Int) * ((a : Int) + 1))) = b * (2 * (h : Int) * (4 * (a : Int) - (2 * (h : Int) - 1))) := by
            rw [N2] at cr'
            have : 2 * (t * (4 * ((a : Int) * ((a : Int) + 1)))) = 2 * (b * (2 * (h : Int) * (4 * (a : Int) - (2 * (h : Int) - 1)))) := by grind
            omega
          obtain ⟨t0, tb2⟩ := part_pos (by omega) (by omega) (by omega) b0 ht'
          have ec : cs = [8 * t, 4 * (2 * (h : Int)) * b, 2 * (2 * (h : Int) * (2 * (h : Int) - 1)) * b] := by
            rw [hcs, N2]
            simp
            refine ⟨?_, ?_, ?_⟩ <;> grind
          rw [ec] at hy
          have hz : ∀ i < 3, (cs.getD i 0).natAbs < 2 ^ 600 := fun i hi => by
            have w1 := wide_lt tb.2 (bX 1 (by decide))
            have w2 := wide_lt tb.2 (bX 2 (by decide))
            have p1 : (2 : Nat) ^ 600 = 2 ^ 120 * 2 ^ 480 := by decide
            have p2 : (2 : Nat) ^ 600 = 2 ^ 360 * 2 ^ 240 := by decide
            simp only [lessL, List.getD_cons_zero, List.getD_cons_succ] at w1 w2
            rw [hcs]
            have : i = 0 ∨ i = 1 ∨ i = 2 := by omega
            rcases this with rfl | rfl | rfl <;> (simp only [List.getD_cons_zero, List.getD_cons_succ]; omega)
          rw [ec] at hz
          have z0 := hz 0 (by decide)
          have z1 := hz 1 (by decide)
          have z2 := hz 2 (by decide)
          simp only [List.getD_cons_zero, List.getD_cons_succ] at z0 z1 z2
          have hb0 : 0 ≤ (h : Int) * b := Int.mul_nonneg (by omega) (by omega)
          have S : Sums2 (8 * t) (4 * (2 * (h : Int)) * b) (2 * (2 * (h : Int) * (2 * (h : Int) - 1)) * b) (2 * h) := ⟨by omega, by
            have : 4 * (2 * (h : Int)) * b = 8 * (h * b) := by grind
            omega, by
            have e1 : ((2 * h : Nat) : Int) * (8 * t) - 4 * (2 * (h : Int)) * b = 8 * (h * (2 * t - b)) := by
              rw [← hNe, N2]
              grind
            have : 0 ≤ (h : Int) * (2 * t - b) := Int.mul_nonneg (by omega) (by omega)
            omega, hN2, lt2_mono z0 (by decide), lt2_mono z1 (by decide), lt2_mono z2 (by decide), hNb⟩
          obtain ⟨x, hx⟩ : ∃ x, x = 2 * ((a : Int) * (a + 1)) / (4 * a - (2 * h - 1)) := ⟨_, rfl⟩
          obtain ⟨x1, x2, x3⟩ := part_next (by omega) (by omega) hx
          have ex : 4 * (2 * (h : Int)) * b / (8 * t) = x := by
            have d0 : (0 : Int) < 4 * a - (2 * h - 1) := by omega
            have e1 : 4 * (2 * (h : Int)) * b * (4 * a - (2 * h - 1)) = 8 * t * (2 * ((a : Int) * (a + 1))) := by grind
            rw [hx, ← Int.mul_ediv_mul_of_pos_left _ (8 * t) d0, e1, Int.mul_ediv_mul_of_pos _ _ (by omega)]
          have ea : atF (8 * t) (4 * (2 * (h : Int)) * b) (2 * h) = x := by
            unfold atF
            rw [ex, if_pos (by omega)]
          have mean := part_mean (x := x) ht'
          have A0 : (0 : Int) < 4 * ((a : Int) * (a + 1)) := by omega
          have hbp : (0 : Int) < 8 * (2 * h) * b := Int.mul_pos (by omega) b0
          refine .inl ⟨Dd, _, _, _, 2 * h, by rw [hNe], hy, S, ?_, fun H' e4 => ⟨fun hF => ?_, fun hF q hq => ?_⟩⟩
          · have : (((2 * h : Nat) : Int) - 1) * (4 * (2 * (h : Int)) * b) - 2 * (2 * (h : Int) * (2 * (h : Int) - 1)) * b = 4 * ((2 * h - 1) * (h * b)) := by
              rw [← hNe, N2]
              grind
            have : 0 ≤ (2 * (h : Int) - 1) * (h * b) := Int.mul_nonneg (by omega) hb0
            omega
          · rw [ea, gf_f] at hF
            have xa : x = a := by
              rcases Int.lt_or_le x a with z | z
              · have l1 := part_low (h := (h : Int)) (by omega) x1 z
                have l2 := Int.mul_neg_of_pos_of_neg hbp l1
                have l3 := Int.mul_nonneg (Int.le_of_lt A0) hF
                omega
              · omega
            have ah := x3 xa
            rw [ah] at ht hb
            obtain ⟨f1, f2⟩ := part_fin (h := h) h1
            exact k0 H' e4 (by rw [ht, N2]; exact f1) (by rw [hb, N2]; exact f2)
          · rw [ea, gf_f] at hF
            rw [ea] at hq
            obtain ⟨xn, hxn⟩ : ∃ xn : Nat, x = (xn : Int) := ⟨x.toNat, by omega⟩
            have xa : x < a := by
              rcases Int.lt_or_le x a with z | z
              · exact z
              · have : x = a := by omega
                rw [this, Int.sub_self, Int.zero_mul, Int.mul_zero] at mean
                have l3 := Int.mul_neg_of_pos_of_neg A0 hF
                rw [this] at l3
                omega
            refine k2 xn q H' e4 (by omega) (by omega) (by omega) ?_
            rw [hq, hxn]
      have szm : SzL ([8, 0, 0] : List Int) 4000 := fun x hx => by
        refine Nat.lt_of_lt_of_le (show _ < 2 ^ 4 from ?_) (Nat.pow_le_pow_right (by decide) (by decide))
        simp only [List.mem_cons, List.not_mem_nil, or_false] at hx
        rcases hx with rfl | rfl | rfl <;> decide
      have szl : SzL (lessL N) 4000 := fun x hx => by
        obtain ⟨i, hi, e⟩ := List.mem_iff_getElem.mp hx
        have := bX i hi
        rw [List.getD_eq_getElem?_getD, List.getElem?_eq_getElem hi] at this
        rw [← e]
        exact lt2_mono this (by decide)
      have szp : SzL [N] 1001 := fun x hx => by
        rw [List.mem_singleton.mp hx]
        exact lt2_mono Nb (by decide)
      refine broke _ _ ?_ ?_ ?_
      · intro G4 e4 ht hb
        show if V.non = V.non then _ else _
        rw [if_pos rfl]
        refine ⟨by decide, fun T1 G5 n5 e5 t5 => ⟨by decide, fun r G6 n6 e6 t6 => ?_⟩⟩
        rw [ht, hb] at t5
        exact k r T1 _ G6 (((eall.trans e4).trans e5).trans e6) t6 (e6 _ _ t5)
      · intro q G4 e4 hmm hq
        show if V.ref q = V.non then _ else _
        rw [if_neg (by simp)]
        have g8 : sg 1 * (timesL (List.take 2 ([8, 0, 0] : List Int)) [N]).getD 0 0 = 8 * N := by
          rw [t1N]
          show (-1 : Int) * _ = _
          omega
        have g4 : sg 1 * (timesL (List.take 2 (lessL N)) [N]).getD 0 0 = -(4 * N) := by
          unfold lessL
          rw [t1N]
          show (-1 : Int) * _ = _
          omega
        refine ⟨m, q, [8, 0, 0], [N], 2 * h, 1, by rw [hNe], e4 _ _ hm3, hq, szm, szp, by simp, by simp, fun i hi => by simp; omega, by simp; omega, fun G5 e5 => ?_⟩
        walk_at "rd"
        rw [g8, if_neg (by omega)]
        refine ⟨s, q, lessL N, [N], 2 * h, 1, by rw [hNe], (e4.trans e5) _ _ hs3, e5 _ _ hq, szl, szp, by simp [lessL], by simp [lessL], fun i hi => by simp; omega, by simp; omega, fun G6 e6 => ?_⟩
        walk_at "rd"
        rw [g4]
        have p8 : (2 : Nat) ^ 114 = 8 * 2 ^ 111 := by decide
        refine ⟨4 * N, 8 * N, by rw [Int.neg_neg], by omega, Nat.lt_of_lt_of_le (show _ < 2 ^ 114 by omega) (Nat.pow_le_pow_right (by decide) (by decide)), fun y G7 e7 hy7 => ?_⟩
        obtain ⟨p, rfl, hS⟩ := hy7
        refine ⟨p, rfl, _, hS, rfl, ?_⟩
        unfold fr
        walk_at "rd"
        obtain ⟨f1, f2⟩ := part_half (N := N) (by omega)
        exact ⟨(((eall.trans e4).trans e5).trans e6).trans e7, ⟨_, rfl⟩, .inl ⟨hmm, f1, f2⟩⟩
      · intro x q G4 e4 hx hxN xm hq
        show if V.ref q = V.non then _ else _
        rw [if_neg (by simp)]
        have xx0 : 0 < (x : Int) * ((x : Int) + 1) := Int.mul_pos (by omega) (by omega)
        have szx : SzL [(x : Int), (x : Int) + 1] 1001 := fun y hy => by
          simp only [List.mem_cons, List.not_mem_nil, or_false] at hy
          refine Nat.lt_of_lt_of_le (show _ < 2 ^ 112 from ?_) (Nat.pow_le_pow_right (by decide) (by decide))
          have : (2 : Nat) ^ 112 = 2 * 2 ^ 111 := by decide
          rcases hy with rfl | rfl <;> omega
        obtain ⟨tt, ht1, ht2, hsg⟩ : ∃ tt : Nat, (∀ i < tt, ((2 * h : Nat) : Int) - (i : Int) ∈ [(x : Int), (x : Int) + 1]) ∧ ((2 * h : Nat) : Int) - (tt : Int) ∉ [(x : Int), (x : Int) + 1] ∧ sg tt = 1 := by
          by_cases z : (x : Int) + 1 = N
          · refine ⟨2, fun i hi => ?_, ?_, rfl⟩
            · have : i = 0 ∨ i = 1 := by omega
              rcases this with rfl | rfl <;> (simp; omega)
            · simp
              omega
          · refine ⟨0, fun i hi => by omega, ?_, rfl⟩
            simp
            omega
        have g8 : sg tt * (timesL (List.take 3 ([8, 0, 0] : List Int)) [(x : Int), (x : Int) + 1]).getD 0 0 = 8 * ((x : Int) * ((x : Int) + 1)) := by
          rw [hsg, t2a]
          unfold fF
          grind
        have g4 : sg tt * (timesL (List.take 3 (lessL N)) [(x : Int), (x : Int) + 1]).getD 0 0 = -(2 * N * (4 * (x : Int) - (N - 1))) := by
          unfold lessL
          rw [hsg, t2a]
          unfold fF
          grind
        refine ⟨m, q, [8, 0, 0], [(x : Int), (x : Int) + 1], 2 * h, tt, by rw [hNe], e4 _ _ hm3, hq, szm, szx, by simp, by simp, ht1, ht2, fun G5 e5 => ?_⟩
        walk_at "rd"
        rw [g8, if_neg (by omega)]
        refine ⟨s, q, lessL N, [(x : Int), (x : Int) + 1], 2 * h, tt, by rw [hNe], (e4.trans e5) _ _ hs3, e5 _ _ hq, szl, szx, by simp [lessL], by simp [lessL], ht1, ht2, fun G6 e6 => ?_⟩
        walk_at "rd"
        rw [g4]
        have xb := wide_lt (i := (x : Int)) (j := (x : Int) + 1) (a := 111) (b := 111) (by omega) (by omega)
        refine ⟨2 * N * (4 * (x : Int) - (N - 1)), 8 * ((x : Int) * ((x : Int) + 1)), by rw [Int.neg_neg], by omega, Nat.lt_of_lt_of_le (show _ < 2 ^ 225 from ?_) (Nat.pow_le_pow_right (by decide) (by decide)), fun y G7 e7 hy7 => ?_⟩
        · have : (2 : Nat) ^ 225 = 8 * 2 ^ 222 := by decide
          omega
        obtain ⟨p, rfl, hS⟩ := hy7
        refine ⟨p, rfl, _, hS, rfl, ?_⟩
        unfold fr
        walk_at "rd"
        exact ⟨(((eall.trans e4).trans e5).trans e6).trans e7, ⟨_, rfl⟩, .inr ⟨x, xm, hx, hxN, rfl, rfl⟩⟩
end

section
variable {P : Program} {w : World} {K : PySem.W.Frag} {mg : Str → Option Value} {base : Heap}
/-! ### share_and_points, most_share -/
theorem come_half {h : Nat} (h1 : 1 ≤ h) (bN : 2 * h < 2 ^ 1000) : comeB [1, 2, 1] (2 * h) = true := by
  have hN : NumL [1, 2, 1] 3 (2 ^ 110) := ⟨rfl, fun x hx => by
    simp only [List.mem_cons, List.not_mem_nil, or_false] at hx
    rcases hx with rfl | rfl | rfl <;> decide⟩
  obtain ⟨so, _⟩ := sums_ok hN (by decide) (show 2 ≤ 2 * h by omega) bN
  have iff := due_iff so
  unfold comeB
  rw [decide_eq_true (show 2 ≤ 2 * h by omega), Bool.true_and]
  refine decide_eq_true (iff.mpr ?_)
  have e0 : S0 [1, 2, 1] = 8 := rfl
  have e1 : S1 [1, 2, 1] (2 * h) = 8 * (h : Int) := by
    simp [S1]
    omega
  have e2 : S2 [1, 2, 1] (2 * h) = 2 * (2 * (h : Int) * (2 * (h : Int) - 1)) := by
    simp [S2]
  rw [e0, e1, e2, Int.mul_ediv_cancel_left _ (by decide)]
  have : gF 8 (8 * (h : Int)) (2 * (2 * (h : Int) * (2 * (h : Int) - 1))) h = 4 * h := by
    unfold gF
    grind
  omega
def spShare (K : PySem.W.Frag) (C : Addr) : Sp := fun vs H Q _ => ∃ (x : V) (h : Nat), vs = [x, .int ((2 * h : Nat) : Int), .int 0] ∧ IsRow K C H x [1, 2, 1] ∧ 1 ≤ h ∧ h ≤ 10 ^ 29 ∧ ∀ r t p H', Ex H H' → H' r = some (.tup [.ref t, p]) → H' t = some (.tup [.int 1, .int (2 * (h : Int) + 2)]) → Q (.ref r) H'
theorem scShare : FnScope ["row", "slips", "yes", "sums", "urn", "j", "top", "bottom", "points", "one", "two"] ["row", "slips", "yes"] (defScope (top 51)) := ⟨rfl, rfl, rfl, by decide +kernel, rfl, by decide +kernel, by decide +kernel⟩
theorem has_share {C : Addr} {t2 : Tok} (B : Bi mg) (RT : RowT P w K mg base C) (c_perm : mg "perm" = some (.builtin "math.perm")) (c_MOST_SLIPS : mg "MOST_SLIPS" = some (.int 1000000000000000000000000000000 t2)) (hcheck_row : Has P w K mg base "check_row" 1 ["row"] (spCheckRow K C)) (hcheck_number : Has P w K mg base "check_number" 2 ["given", "least", "most"] spNum)
    (h_sums_of_lots : Has P w K mg base "_sums_of_lots" 7 ["row", "slips"] (spSumsLots K C)) (h_part_and_points : Has P w K mg base "_part_and_points" 7 ["sums", "more", "slips"] (spPart K)) (D : Df K mg "share_and_points" (top 51) ["row", "slips", "yes"]) : Has P w K mg base "share_and_points" 8 ["row", "slips", "yes"] (spShare K C) := by
  have sc := scShare
  refine .of D fun f fd F => F.ok sc (fun vs H Q E h => ?_) (fun cdv A outer s H vs Q E hr h => ?_)
  · obtain ⟨x, h, rfl, _⟩ := h
    rfl
  · obtain ⟨x, h, rfl, hrow, h1, hb, k⟩ := h
    refine ⟨_, (pss_cons (ps_expr (pe_has hcheck_row (hr.mono (by decide)) (pa_cons (pv 0) pa_nil)))
      (pss_cons (ps_expr (pe_has hcheck_number (hr.mono (by decide)) (pa_cons (pv 1) (pa_cons (kDraws RT (hr.mono (by decide)) (pv 0)) (pa_cons (pe_glob (v := .int 1000000000000000000000000000000) rfl c_MOST_SLIPS ⟨_, rfl⟩) pa_nil)))))
      (pss_cons (ps_expr (pe_has hcheck_number (hr.mono (by decide)) (pa_cons (pv 2) (pa_cons pe_int (pa_cons (pv 1) pa_nil)))))
      (pss_cons (ps_set (i := 3) sc.nd rfl (by first | exact Or.inl rfl | exact Or.inr rfl) (pe_has h_sums_of_lots (hr.mono (by decide)) (pa_cons (pv 0) (pa_cons (pv 1) pa_nil))))
      (pss_cons (ps_setLc (i := 4) (own := [("j", 5)]) (g := gName 5) (tt := tYes) rfl sc.nd rfl rfl (sw_true rfl rfl rfl (by decide +kernel)) (pi_range1 (by rfl) B.range (pa_cons (pe_callB (kLen (K := K)) (by rfl) B.len (by decide +kernel) (pa_cons (pv 3) pa_nil)) pa_nil)) (blkOk_by (N := (["row", "slips", "yes", "sums", "urn", "j", "top", "bottom", "points", "one", "two"] : List Str)) (sc := defScope (top 51)) (by decide +kernel)) (fun _ _ _ _ _ => (pg_name (i := 5) sc.nd rfl (by first | exact Or.inl rfl | exact Or.inr rfl))) (fun _ _ _ _ _ => pts_nil) (fun _ _ _ _ _ => (PE.mon (pe_op op_mulS (pe_ix (ixL (K := K)) (pv 3) pe_int (fun _ _ => rfl)) (pe_callBfun cr_permA (by rfl) c_perm (pa_cons (pv 2) (pa_cons (pv 5) pa_nil)))))))
      (pss_cons (ps_asg (pe_has h_part_and_points (hr.mono (by decide)) (pa_cons (pe_lc (own := [("one", 9), ("two", 10)]) (g := gTup K 2 (gCons (gName 9) (gCons (gName 10) gNil))) (tt := tYes) rfl sc.nd (kZip (K := K) (by rfl) B.zip (pa_cons (pv 3) (pa_cons (pv 4) pa_nil))) (blkOk_by (N := (["row", "slips", "yes", "sums", "urn", "j", "top", "bottom", "points", "one", "two"] : List Str)) (sc := defScope (top 51)) (by decide +kernel)) (fun _ _ _ _ _ => (pg_tup rfl (pgs_cons (pg_name (i := 9) sc.nd rfl (by first | exact Or.inl rfl | exact Or.inr rfl)) (pgs_cons (pg_name (i := 10) sc.nd rfl (by first | exact Or.inl rfl | exact Or.inr rfl)) pgs_nil)))) (fun _ _ _ _ _ => pts_nil) (fun _ _ _ _ _ => (PE.mon (pe_op op_sub (pv 9) (pv 10))))) (pa_cons (pv 4) (pa_cons (pv 1) pa_nil)))) (pg_tup rfl (pgs_cons (pg_tup rfl (pgs_cons (pg_name (i := 6) sc.nd rfl (by first | exact Or.inl rfl | exact Or.inr rfl)) (pgs_cons (pg_name (i := 7) sc.nd rfl (by first | exact Or.inl rfl | exact Or.inr rfl)) pgs_nil))) (pgs_cons (pg_name (i := 8) sc.nd rfl (by first | exact Or.inl rfl | exact Or.inr rfl)) pgs_nil))))
      (pss_one (ps_ret (pe_tupN (pa_cons (pe_tupN (pa_cons (pe_op op_sub (pv 7) (pv 6)) (pa_cons (pv 7) pa_nil))) (pa_cons (pv 8) pa_nil))))))))))), ?_⟩
    walk_at "rd"
    refine ⟨x, _, rfl, hrow, ?_⟩
    walk_at "rd"
    refine ⟨_, hrow, ?_⟩
    have p30 : (2 : Int) * 10 ^ 29 ≤ 1000000000000000000000000000000 := by decide
    have p29 : ((10 ^ 29 : Nat) : Int) = (10 : Int) ^ 29 := rfl
    have h110 : h < 2 ^ 110 := Nat.lt_of_le_of_lt hb (by decide)
    refine ⟨_, _, _, rfl, by simp; omega, by omega, ?_⟩
    walk_at "rd"
    refine ⟨0, 0, _, rfl, by decide, by omega, ?_⟩
    have bN : 2 * h < 2 ^ 1000 := Nat.lt_of_lt_of_le (show 2 * h < 2 ^ 111 by omega) (Nat.pow_le_pow_right (by decide) (by decide))
    have hN : NumL [1, 2, 1] 3 (2 ^ 110) := ⟨rfl, fun x hx => by
      simp only [List.mem_cons, List.not_mem_nil, or_false] at hx
      rcases hx with rfl | rfl | rfl <;> decide⟩
    refine ⟨x, [1, 2, 1], 2 * h, rfl, hrow, hN, by decide, bN, come_half h1 bN, fun l G e hl => ?_⟩
    rw [sums_eq hN] at hl
    have es : [S0 [1, 2, 1], S1 [1, 2, 1] (2 * h), S2 [1, 2, 1] (2 * h)] = [8, 4 * ((2 * h : Nat) : Int), 2 * (((2 * h : Nat) : Int) * (((2 * h : Nat) : Int) - 1))] := by
      simp [S0, S1, S2]
    rw [es] at hl
    obtain ⟨N, hNe⟩ : ∃ N : Int, N = ((2 * h : Nat) : Int) := ⟨_, rfl⟩
    rw [← hNe] at hl
    refine ⟨l, rfl, _, .inl (.of hl), by simp, by simp, fun Dd hD => ?_⟩
    refine lcR (fun i y _ => y = .int (8 * prmA 0 i)) (fun _ _ _ _ _ h => h) hD (by simp) (fun _ => rfl) ?_ ?_
    · intro i G2 hi e2
      have hi3 : i < 3 := by simpa using hi
      obtain ⟨R0, hR⟩ : ∃ R : VK, R = fun y G' => G' = G2 ∧ y = .int (8 * prmA 0 i) := ⟨_, rfl⟩
      refine ⟨R0, ?_, fun y G' h => by rw [hR] at h; obtain ⟨rfl, h⟩ := h; exact ⟨Ex.refl _, h⟩⟩
      walk_at "rd"
      refine q_ixL (.of (e2 _ _ hl)) (i := 0) rfl ?_
      walk_at "rd"
      refine ⟨0, i, by simp, by omega, by decide, ?_⟩
      walk_at "rd"
      refine ⟨cmulL, ?_⟩
      rw [hR]
      exact ⟨rfl, rfl⟩
    · intro G2 ys e2 hy hly hr2
      have ey : ys = ([8, 0, 0] : List Int).map V.int := by
        have := ints_of (n := 3) (by simpa using hly) hr2
        rw [this]
        rfl
      rw [ey] at hy
      have hl2 := e2 _ _ hl
      refine ⟨true, true, l, rfl, Dd, rfl, ⟨_, .of hl2⟩, ⟨_, .of hy⟩, fun D2 hD2 => ?_⟩
      refine lcZ (xs := ([8, 4 * N, 2 * (N * (N - 1))] : List Int).map V.int) (ys := ([8, 0, 0] : List Int).map V.int) (n := 3) rfl (fun i y _ => y = .int ((lessL N).getD i 0)) (fun _ _ _ _ _ h => h) hD2 (k1 := true) (k2 := true) (.of hl2) (.of hy) (by decide) (gm_tup (gm_cons gm_name (gm_cons gm_name gm_nil))) ?_ ?_
      · intro i x1 y1 T G3 hx1 hy1 e3 hT
        obtain ⟨u, hu, rfl⟩ := map_int_get hx1
        obtain ⟨v, hv, rfl⟩ := map_int_get hy1
        have ev : u - v = (lessL N).getD i 0 := by
          match i, hu, hv with
          | 0, hu, hv => cases hu; cases hv; rfl
          | 1, hu, hv => cases hu; cases hv; simp [lessL]
          | 2, hu, hv => cases hu; cases hv; simp [lessL]
          | _ + 3, hu, hv => simp at hv
        walk_at "rd"
        refine ⟨_, .of hT, rfl, ?_⟩
        walk_at "rd"
        obtain ⟨R1, hR1⟩ : ∃ R : VK, R = fun y H' => y = .int (u - v) ∧ H' = G3 := ⟨_, rfl⟩
        refine ⟨R1, ?_, fun y H' h => by rw [hR1] at h; obtain ⟨rfl, rfl⟩ := h; exact ⟨Ex.refl _, by rw [ev]⟩⟩
        walk_at "rd"
        rw [hR1]
        exact ⟨rfl, rfl⟩
      · intro G3 ys e3 hy3 hly3 hr3
        have ey3 : ys = (lessL N).map V.int := by
          rw [ints_of (n := 3) hly3 hr3]
          rfl
        rw [ey3] at hy3
        refine ⟨D2, Dd, h, rfl, by rw [← hNe]; exact hy3, e3 _ _ hy, h1, h110, fun r t p G4 e4 hr4 ht4 => ?_⟩
        refine ⟨r, rfl, _, .of hr4, rfl, ?_⟩
        walk_at "rd"
        refine ⟨_, .of ht4, rfl, ?_⟩
        walk_at "rd"
        refine ⟨by decide, fun T1 G5 n5 e5 t5 => ⟨by decide, fun r2 G6 n6 e6 t6 => ?_⟩⟩
        rw [show 2 * (h : Int) + 2 - (2 * (h : Int) + 1) = 1 by omega] at t5
        exact k r2 T1 _ G6 (((((e.trans e2).trans e3).trans e4).trans e5).trans e6) t6 (e6 _ _ t5)
def spMost (K : PySem.W.Frag) (C : Addr) : Sp := fun vs H Q _ => ∃ (x : V) (h : Nat), vs = [x, .int ((2 * h : Nat) : Int), .int 0] ∧ IsRow K C H x [1, 2, 1] ∧ 1 ≤ h ∧ h ≤ 10 ^ 29 ∧ ∀ t H', Ex H H' → H' t = some (.tup [.int 1, .int (2 * (h : Int) + 2)]) → Q (.ref t) H'
theorem scMost : FnScope ["row", "slips", "yes"] ["row", "slips", "yes"] (defScope (top 50)) := ⟨rfl, rfl, rfl, by decide +kernel, rfl, by decide +kernel, by decide +kernel⟩
theorem has_most {C : Addr} (hshare_and_points : Has P w K mg base "share_and_points" 8 ["row", "slips", "yes"] (spShare K C)) (D : Df K mg "most_share" (top 50) ["row", "slips", "yes"]) : Has P w K mg base "most_share" 9 ["row", "slips", "yes"] (spMost K C) := by
  have sc := scMost
  refine .of D fun f fd F => F.ok sc (fun vs H Q E h => ?_) (fun cdv A outer s H vs Q E hr h => ?_)
  · obtain ⟨x, h, rfl, _⟩ := h
    rfl
  · obtain ⟨x, h, rfl, hrow, h1, hb, k⟩ := h
    refine ⟨_, (pss_one (ps_ret (pe_ix (ixT (K := K)) (pe_has hshare_and_points (hr.mono (by decide)) (pa_cons (pv 0) (pa_cons (pv 1) (pa_cons (pv 2) pa_nil)))) pe_int (fun _ _ => rfl)))), ?_⟩
    walk_at "rd"
    refine ⟨x, h, rfl, hrow, h1, hb, fun r t p G e hr4 ht4 => ?_⟩
    have g0 : ∀ a b : V, atI [a, b] 0 = some a := fun a b => rfl
    refine q_ixT (.of hr4) (g0 _ _) ?_
    exact k t G e ht4
end

section
variable {P : Program} {w : World} {K : PySem.W.Frag} {mg : Str → Option Value} {base : Heap}
/-! ### _law_right -/
theorem lcIf {tt : TT} {te : TE} {vs : List Nat} {σ : L2.St} {H1 : Hp} {Dd p : Addr} {Q : VK} {j : Nat} (T : Int → Bool) {M : List Int} (hD : H1 Dd = none) (hT : H1 p = some (.lst (M.map V.int))) (hz : M.length ≤ 1000)
    (hw : ∀ x, wipe ((wipe σ vs).set j (some x)) vs = wipe σ vs)
    (hs : ∀ (a : Int) (H : Hp) (S : Bool → Hp → Prop), a ∈ M → Ex H1 H → (∀ H3, Ex H H3 → S (T a) H3) → tt ((wipe σ vs).set j (some (.int a))) H S)
    (hv : ∀ (x : V) (H : Hp) (S : VK), S x H → te ((wipe σ vs).set j (some x)) H S)
    (hd : ∀ H, Ex H1 H → H Dd = some (.lst ((M.filter T).map V.int)) → Q (.ref Dd) H) : LcW (Itl K p) (gName j) tt (tmE te) vs σ H1 Dd Q := by
  refine lc_list (xs := M.map V.int) (fun i H => Ex H1 H ∧ H Dd = some (.lst (((M.take i).filter T).map V.int))) ⟨Ex.new hD, upd_same⟩ (fun i H _ h => .of (h.1 _ _ hT)) (fun i x H hi h => ?_) (fun H h => ?_)
  · obtain ⟨e, hA⟩ := h
    rw [List.getElem?_map] at hi
    cases ha : M[i]? with
    | none => rw [ha] at hi; cases hi
    | some a =>
      rw [ha] at hi
      cases hi
      have etk : M.take (i + 1) = M.take i ++ [a] := by rw [List.take_add_one, ha]; rfl
      have lacc : ((M.take i).filter T).length ≤ 1000 := by
        refine Nat.le_trans (List.length_filter_le _ _) ?_
        rw [List.length_take]
        omega
      refine ⟨hw _, hs a H _ (List.mem_of_getElem? ha) e fun H3 e3 => ?_⟩
      have e13 := e.trans e3
      rw [etk, List.filter_append]
      cases hT2 : T a with
      | true =>
        rw [if_pos rfl]
        refine ⟨fun y H' => y = .int a ∧ H' = H3, hv _ _ _ ⟨rfl, rfl⟩, ?_⟩
        rintro y H' ⟨rfl, rfl⟩
        refine ⟨_, e3 _ _ hA, Nat.lt_of_lt_of_le (show _ < 1000000 by rw [List.length_map]; omega) (by decide), fun b o hb => ?_, ?_⟩
        · rw [upd_ne (ne_of_none hb hD)]
          exact e13 _ _ hb
        · have f1 : [a].filter T = [a] := by simp [hT2]
          rw [upd_same, f1, List.map_append]
          rfl
      | false =>
        rw [if_neg (by decide)]
        have f1 : [a].filter T = [] := by simp [hT2]
        rw [f1, List.append_nil]
        exact ⟨e13, e3 _ _ hA⟩
  · obtain ⟨e, hA⟩ := h
    rw [List.length_map, List.take_length] at hA
    exact hd H e hA
theorem dis_scale (k : Int) (cs : List Int) : dis (cs.map (k * ·)) = k * k * dis cs := by
  have g : ∀ i, (cs.map (k * ·)).getD i 0 = k * cs.getD i 0 := fun i => by
    rw [List.getD_eq_getElem?_getD, List.getD_eq_getElem?_getD, List.getElem?_map]
    cases cs[i]? <;> simp
  unfold dis
  rw [g 0, g 1, g 2]
  grind
theorem come_scale {k : Int} (hk : 0 < k) (cs : List Int) (N : Nat) : comeB (cs.map (k * ·)) N = comeB cs N := by
  have g : ∀ i, (cs.map (k * ·)).getD i 0 = k * cs.getD i 0 := fun i => by
    rw [List.getD_eq_getElem?_getD, List.getD_eq_getElem?_getD, List.getElem?_map]
    cases cs[i]? <;> simp
  have e0 : S0 (cs.map (k * ·)) = k * S0 cs := by unfold S0; rw [g 0, g 1, g 2]; grind
  have e1 : S1 (cs.map (k * ·)) N = k * S1 cs N := by unfold S1; rw [g 1, g 2]; grind
  have e2 : S2 (cs.map (k * ·)) N = k * S2 cs N := by unfold S2; rw [g 2]; grind
  have ea : atF (k * S0 cs) (k * S1 cs N) N = atF (S0 cs) (S1 cs N) N := by
    unfold atF
    rw [Int.mul_ediv_mul_of_pos _ _ hk]
  have ef : fF (k * S0 cs) (k * S1 cs N) (k * S2 cs N) (atF (S0 cs) (S1 cs N) N) = k * fF (S0 cs) (S1 cs N) (S2 cs N) (atF (S0 cs) (S1 cs N) N) := by
    unfold fF
    grind
  unfold comeB
  rw [e0, e1, e2, ea, ef]
  congr 1
  rw [decide_eq_decide]
  exact sign_eq (c := 1) (d := k) (by decide) hk (by rw [Int.one_mul])
theorem pos_ex : ∀ {cs : List Int}, 0 < cs.sum → ∃ c ∈ cs, 0 < c
  | [], h => by simp at h
  | c :: cs, h => by
    by_cases hc : 0 < c
    · exact ⟨c, List.mem_cons_self, hc⟩
    · rw [List.sum_cons] at h
      obtain ⟨d, hd, dp⟩ := pos_ex (cs := cs) (by omega)
      exact ⟨d, List.mem_cons_of_mem _ hd, dp⟩
theorem gcd_of {cs : List Int} (h : 0 < cs.sum) : 0 < gcdL cs := by
  obtain ⟨c, hc, cp⟩ := pos_ex h
  exact gcdL_pos ⟨c, hc, by omega⟩
theorem rowok_of {cs : List Int} (h : NumL cs 3 (2 ^ 110)) (s0 : 0 < cs.sum) : RowOk cs := by
  refine ⟨by rw [h.1]; omega, by rw [h.1]; omega, fun c hc => (h.2 c hc).1, gcd_of s0, ?_⟩
  obtain ⟨c, hc, cp⟩ := pos_ex s0
  have h1 := gcdL_le hc cp
  have h2 := (h.2 c hc).2
  refine Nat.lt_of_lt_of_le (show gcdL cs < 2 ^ 111 by omega) (Nat.pow_le_pow_right (by decide) (by decide))
theorem plain_sum {cs : List Int} (s0 : 0 < cs.sum) : 0 < (plainL cs).sum := by
  have e : ((gcdL cs : Nat) : Int) * (plainL cs).sum = cs.sum := by rw [← sum_scale, plainL_mul]
  rcases Int.lt_or_le 0 (plainL cs).sum with h | h
  · exact h
  · have := Int.mul_le_mul_of_nonneg_left h (show 0 ≤ ((gcdL cs : Nat) : Int) by omega)
    omega
theorem come_plain {cs : List Int} (s0 : 0 < cs.sum) (N : Nat) : comeB (plainL cs) N = comeB cs N := by
  have := come_scale (k := ((gcdL cs : Nat) : Int)) (by have := gcd_of s0; omega) (plainL cs) N
  rw [plainL_mul] at this
  exact this.symm
theorem dis_plain {cs : List Int} (s0 : 0 < cs.sum) : (dis (plainL cs) ≤ 0 ↔ dis cs ≤ 0) := by
  have e := dis_scale ((gcdL cs : Nat) : Int) (plainL cs)
  rw [plainL_mul] at e
  have g := gcd_of s0
  have gp : 0 < ((gcdL cs : Nat) : Int) * ((gcdL cs : Nat) : Int) := Int.mul_pos (by omega) (by omega)
  have := sign_eq (c := 1) (d := ((gcdL cs : Nat) : Int) * ((gcdL cs : Nat) : Int)) (x := -dis cs) (y := -dis (plainL cs)) (by decide) gp (by rw [e]; grind)
  omega
def GreatR (ps : List Int) (y : V) : Prop := (alwB ps 2 = true ∧ y = .non) ∨ (alwB ps 2 = false ∧ ∃ N : Nat, y = .int (N : Int) ∧ 2 ≤ N ∧ N < 2 ^ 900 ∧ comeB ps N = true ∧ comeB ps (N + 1) = false)
theorem great_of {C : Addr} {x : V} {ps : List Int} {H : Hp} {Q : VK} {E : XK} (hr : IsRow K C H x ps) (hN : NumL ps 3 (2 ^ 110)) (sp : 0 < ps.sum) (all : ∀ y H', Ex H H' → GreatR ps y → Q y H') : spGreat K C [x] H Q E :=
  ⟨x, ps, rfl, hr, hN, sp, fun H' e a => all _ H' e (.inl ⟨a, rfl⟩), fun N H' e a n2 b c d => all _ H' e (.inr ⟨a, N, rfl, n2, b, c, d⟩)⟩
theorem GreatR.is {ps : List Int} {y : V} (h : GreatR ps y) : decide (y = V.non) = alwB ps 2 := by
  rcases h with ⟨a, rfl⟩ | ⟨a, N, rfl, _⟩
  · rw [a]; rfl
  · rw [a]; rfl
end

section
variable {P : Program} {w : World} {K : PySem.W.Frag} {mg : Str → Option Value} {base : Heap}
/-! ### _law_right -/
theorem plain_near {c : Int} (h : 1 ≤ c) : plainL [c, 2 * c + 1, c] = [c, 2 * c + 1, c] := by
  have g : gcdL [c, 2 * c + 1, c] = 1 := gcdL_eq (fun x _ => ⟨x, by simp⟩) fun d hd => by
    have d1 := hd c (by simp)
    have d2 := hd (2 * c + 1) (by simp)
    have d3 : (d : Int) ∣ (2 * c + 1) - 2 * c := Int.dvd_sub d2 (Int.dvd_mul_of_dvd_right d1)
    rw [show 2 * c + 1 - 2 * c = 1 by omega] at d3
    exact Int.ofNat_dvd.mp d3
  unfold plainL
  rw [g]
  simp
def menuL (a b : Int) : List Int := [0, 1, 2, 3, 7, 20, 1000000000 + a, 1000000000000000000000000000000 - b]
theorem menu_at {a b r : Int} (a0 : 0 ≤ a) (a1 : a < 99) (b0 : 0 ≤ b) (b1 : b < 99) (r0 : 0 ≤ r) (r1 : r < 8) : ∃ c : Int, atI ((menuL a b).map V.int) r = some (.int c) ∧ 0 ≤ c ∧ c ≤ 2 ^ 110 := by
  have : r = 0 ∨ r = 1 ∨ r = 2 ∨ r = 3 ∨ r = 4 ∨ r = 5 ∨ r = 6 ∨ r = 7 := by omega
  have p : (1000000000000000000000000000000 : Int) ≤ 2 ^ 110 := by decide
  rcases this with rfl | rfl | rfl | rfl | rfl | rfl | rfl | rfl
  · exact ⟨_, rfl, by decide, by decide⟩
  · exact ⟨_, rfl, by decide, by decide⟩
  · exact ⟨_, rfl, by decide, by decide⟩
  · exact ⟨_, rfl, by decide, by decide⟩
  · exact ⟨_, rfl, by decide, by decide⟩
  · exact ⟨_, rfl, by decide, by decide⟩
  · exact ⟨_, rfl, by omega, by omega⟩
  · exact ⟨_, rfl, by omega, by omega⟩
end

section
variable {P : Program} {w : World} {K : PySem.W.Frag} {mg : Str → Option Value} {base : Heap}
def spRight : Sp := fun vs H Q _ => ∃ v, vs = [.ref v] ∧ VatAt H v ∧ ∀ H', Gv v H H' → Q (.bl true) H'
theorem scRight : FnScope ["vat", "again", "menu", "some", "k", "mine", "tops", "most", "each", "top", "count"] ["vat"] (defScope (top 58)) := ⟨rfl, rfl, rfl, by decide +kernel, rfl, by decide +kernel, by decide +kernel⟩
theorem has_right {C : Addr} (B : Bi mg) (RT : RowT P w K mg base C) (h_law_dip : Has P w K mg base "_law_dip" 1 ["vat", "many"] spDip)
    (h_law_due : Has P w K mg base "_law_due" 1 ["some", "top"] (spDueQ K)) (halways : Has P w K mg base "always" 7 ["row"] (spAlways K C)) (hgreatest : Has P w K mg base "greatest" 8 ["row"] (spGreat K C)) (hcomes : Has P w K mg base "comes" 8 ["row", "slips"] (spComes K C))
    (hmost_share : Has P w K mg base "most_share" 9 ["row", "slips", "yes"] (spMost K C))
    (D : Df K mg "_law_right" (top 58) ["vat"]) : HasG P w K mg base "_law_right" 10 ["vat"] spRight := by
  have sc := scRight
  refine .of D fun f fd F => okG F sc (fun vs H Q E h => ?_) (fun cdv A outer s H vs Q E hgd hr h => ?_)
  · obtain ⟨v, rfl, _⟩ := h
    rfl
  · obtain ⟨v, rfl, hv, k⟩ := h
    refine ⟨_, (pss_cons (ps_for PassesOwn.never rfl (pi_range1 (by rfl) B.range (pa_cons pe_int pa_nil)) (pg_name (i := 1) sc.nd rfl (by first | exact Or.inl rfl | exact Or.inr rfl))
      (pss_cut (ps_set (i := 2) sc.nd rfl (by first | exact Or.inl rfl | exact Or.inr rfl) (pe_lstN (pa_cons pe_int (pa_cons pe_int (pa_cons pe_int (pa_cons pe_int (pa_cons pe_int (pa_cons pe_int (pa_cons (pe_op op_add (pe_pow (i := 10) (j := 9) (c := 1000000000) pe_int pe_int ⟨by decide, by decide, by decide⟩ (by decide +kernel)) (pe_has h_law_dip (hr.mono (by decide)) (pa_cons (pv 0) (pa_cons pe_int pa_nil)))) (pa_cons (pe_op op_sub (pe_pow (i := 10) (j := 30) (c := 1000000000000000000000000000000) pe_int pe_int ⟨by decide, by decide, by decide⟩ (by decide +kernel)) (pe_has h_law_dip (hr.mono (by decide)) (pa_cons (pv 0) (pa_cons pe_int pa_nil)))) pa_nil))))))))))
      (pss_cons (ps_set (i := 3) sc.nd rfl (by first | exact Or.inl rfl | exact Or.inr rfl) (pe_callTy (kTuple (K := K)) (by rfl) B.tuple (by decide +kernel) (pa_cons (pe_lc (own := [("k", 4)]) (g := gName 4) (tt := tYes) rfl sc.nd (pi_range1 (by rfl) B.range (pa_cons pe_int pa_nil)) (blkOk_by (N := (["vat", "again", "menu", "some", "k", "mine", "tops", "most", "each", "top", "count"] : List Str)) (sc := defScope (top 58)) (by decide +kernel)) (fun _ _ _ _ _ => (pg_name (i := 4) sc.nd rfl (by first | exact Or.inl rfl | exact Or.inr rfl))) (fun _ _ _ _ _ => pts_nil) (fun _ _ _ _ _ => (PE.mon (pe_ix (ixL (K := K)) (pv 2) (pe_has h_law_dip (hr.mono (by decide)) (pa_cons (pv 0) (pa_cons pe_int pa_nil))) (fun _ _ => rfl))))) pa_nil)))
      (pss_cons (ps_set (i := 3) sc.nd rfl (by first | exact Or.inl rfl | exact Or.inr rfl) (PE.mon (pe_ifExp (pt_cmpR op_gt (pe_callB (kSum (K := K) rfl) (by rfl) B.sum (by decide +kernel) (pa_cons (pv 3) pa_nil)) pe_int (nomark _)) (pv 3) (pe_tupN (pa_cons pe_int (pa_cons pe_int (pa_cons pe_int pa_nil)))))))
      (pss_cons (ps_set (i := 5) sc.nd rfl (by first | exact Or.inl rfl | exact Or.inr rfl) (kRow RT (hr.mono (by decide)) (pa_cons (pv 3) pa_nil)))
      (pss_cut (ps_set (i := 6) sc.nd rfl (by first | exact Or.inl rfl | exact Or.inr rfl) (pe_lstN (pa_cons pe_int (pa_cons pe_int (pa_cons pe_int (pa_cons (pe_op op_add pe_int (pe_has h_law_dip (hr.mono (by decide)) (pa_cons (pv 0) (pa_cons pe_int pa_nil)))) (pa_cons (pe_pow (i := 10) (j := 30) (c := 1000000000000000000000000000000) pe_int pe_int ⟨by decide, by decide, by decide⟩ (by decide +kernel)) (pa_cons (pe_op op_add (pe_pow (i := 10) (j := 9) (c := 1000000000) pe_int pe_int ⟨by decide, by decide, by decide⟩ (by decide +kernel)) (pe_has h_law_dip (hr.mono (by decide)) (pa_cons (pv 0) (pa_cons (pe_pow (i := 10) (j := 9) (c := 1000000000) pe_int pe_int ⟨by decide, by decide, by decide⟩ (by decide +kernel)) pa_nil)))) (pa_cons (pe_less (c := 999999999999999999999999999999) (pe_pow (i := 10) (j := 30) (c := 1000000000000000000000000000000) pe_int pe_int ⟨by decide, by decide, by decide⟩ (by decide +kernel)) pe_int (by decide +kernel)) pa_nil)))))))))
      (pss_cons (ps_set (i := 7) sc.nd rfl (by first | exact Or.inl rfl | exact Or.inr rfl) (pe_has hgreatest (hr.mono (by decide)) (pa_cons (pv 5) pa_nil)))
      (pss_cut (ps_if (pt_cmpR op_notN (pv 7) pe_non (nomark _)) (pss_one (ps_set (i := 6) sc.nd rfl (by first | exact Or.inl rfl | exact Or.inr rfl) (pe_op op_catN (pv 6) (pe_lc (own := [("each", 8)]) (g := gName 8)  rfl sc.nd (pi_list (pe_lstN (pa_cons (pv 7) (pa_cons (pe_op op_add (pv 7) pe_int) pa_nil)))) (blkOk_by (N := (["vat", "again", "menu", "some", "k", "mine", "tops", "most", "each", "top", "count"] : List Str)) (sc := defScope (top 58)) (by decide +kernel)) (fun _ _ _ _ _ => (pg_name (i := 8) sc.nd rfl (by first | exact Or.inl rfl | exact Or.inr rfl))) (fun _ _ _ _ _ => pts_one (pt_chain op_lt op_le pe_int (pv 8) (pe_pow (i := 10) (j := 30) (c := 1000000000000000000000000000000) pe_int pe_int ⟨by decide, by decide, by decide⟩ (by decide +kernel)))) (fun _ _ _ _ _ => (PE.mon (pv 8))))))) pss_nil)
      (pss_cons (ps_for PassesOwn.never rfl (pi_list (pv 6)) (pg_name (i := 9) sc.nd rfl (by first | exact Or.inl rfl | exact Or.inr rfl))
      (pss_one (ps_if (pt_cmpR op_ne (pe_callB cr_reprB (by rfl) B.repr (by decide +kernel) (pa_cons (pe_has hcomes (hr.mono (by decide)) (pa_cons (pv 5) (pa_cons (pv 9) pa_nil))) pa_nil)) (pe_callB cr_reprB (by rfl) B.repr (by decide +kernel) (pa_cons (pe_has h_law_due (hr.mono (by decide)) (pa_cons (pv 3) (pa_cons (pv 9) pa_nil))) pa_nil)) (nomark _)) (pss_one (ps_ret pe_bl)) pss_nil)))
      (pss_one (ps_if (pt_cmpR op_ne (pe_has halways (hr.mono (by decide)) (pa_cons (pv 5) pa_nil)) (pe_cmpR op_ge (pe_op op_mulS (pe_op op_mulS pe_int (pe_ix (ixT (K := K)) (pv 3) pe_int (fun _ _ => rfl))) (pe_callB (kSum (K := K) rfl) (by rfl) B.sum (by decide +kernel) (pa_cons (pv 3) pa_nil))) (pe_op op_powW (pe_op op_add (pe_ix (ixT (K := K)) (pv 3) pe_int (fun _ _ => rfl)) (pe_op op_mulS pe_int (pe_ix (ixT (K := K)) (pv 3) pe_int (fun _ _ => rfl)))) pe_int) (nomark _)) (nomark _)) (pss_one (ps_ret pe_bl)) pss_nil)))))))))))
      (pss_cons (ps_set (i := 10) sc.nd rfl (by first | exact Or.inl rfl | exact Or.inr rfl) (pe_op op_add pe_int (pe_has h_law_dip (hr.mono (by decide)) (pa_cons (pv 0) (pa_cons (pe_ix (ixL (K := K)) (pe_lstN (pa_cons pe_int (pa_cons (pe_pow (i := 10) (j := 6) (c := 1000000) pe_int pe_int ⟨by decide, by decide, by decide⟩ (by decide +kernel)) (pa_cons (pe_pow (i := 10) (j := 28) (c := 10000000000000000000000000000) pe_int pe_int ⟨by decide, by decide, by decide⟩ (by decide +kernel)) pa_nil)))) (pe_has h_law_dip (hr.mono (by decide)) (pa_cons (pv 0) (pa_cons pe_int pa_nil))) (fun _ _ => rfl)) pa_nil)))))
      (pss_cons (ps_if (pt_cmpR op_ne (pe_has hgreatest (hr.mono (by decide)) (pa_cons (kRow RT (hr.mono (by decide)) (pa_cons (pe_tupN (pa_cons (pv 10) (pa_cons (pe_op op_add (pe_op op_mulS pe_int (pv 10)) pe_int) (pa_cons (pv 10) pa_nil)))) pa_nil)) pa_nil)) (pe_op op_add (pe_op op_mulS pe_int (pv 10)) pe_int) (nomark _)) (pss_one (ps_ret pe_bl)) pss_nil)
      (pss_cons (ps_set (i := 9) sc.nd rfl (by first | exact Or.inl rfl | exact Or.inr rfl) (pe_op op_mulS pe_int (pe_op op_add pe_int (pe_has h_law_dip (hr.mono (by decide)) (pa_cons (pv 0) (pa_cons (pe_ix (ixL (K := K)) (pe_lstN (pa_cons pe_int (pa_cons (pe_pow (i := 10) (j := 29) (c := 100000000000000000000000000000) pe_int pe_int ⟨by decide, by decide, by decide⟩ (by decide +kernel)) pa_nil))) (pe_has h_law_dip (hr.mono (by decide)) (pa_cons (pv 0) (pa_cons pe_int pa_nil))) (fun _ _ => rfl)) pa_nil))))))
      (pss_one (ps_ret (pe_cmpR (kEq (K := K) hr.units) (pe_has hmost_share (hr.mono (by decide)) (pa_cons (kRow RT (hr.mono (by decide)) (pa_cons (pe_tupN (pa_cons pe_int (pa_cons pe_int (pa_cons pe_int pa_nil)))) pa_nil)) (pa_cons (pv 9) (pa_cons pe_int pa_nil)))) (pe_tupN (pa_cons pe_int (pa_cons (pe_op op_add (pv 9) pe_int) pa_nil))) (nomark _)))))))), ?_⟩
    walk_at "rd"
    refine ⟨by decide, by decide, ?_⟩
    have lg : ∀ {i : Int}, 0 ≤ i → i ≤ 2 ^ 100 → i.natAbs.log2 < 9000 := fun h0 h1 => log_lt (Nat.lt_of_lt_of_le (show _ < 2 ^ 101 by omega) (Nat.pow_le_pow_right (by decide) (by decide)))
    obtain ⟨Pv, hP⟩ : ∃ P : Nat → L2.St → Hp → Prop, P = fun j σ' G => ∃ s1 s2 s3 s4 s5 s6 s7 s8 s9 s10 : Option V, σ' = [some (.ref v), s1, s2, s3, s4, s5, s6, s7, s8, s9, s10] ∧ Gv v H G := ⟨_, rfl⟩
    refine loopR Pv (by rw [hP]; exact ⟨_, _, _, _, _, _, _, _, _, _, rfl, .refl hv⟩) ?_ ?_
    · intro j σ' G hj h
      rw [hP] at h
      obtain ⟨s1, s2, s3, s4, s5, s6, s7, s8, s9, s10, rfl, gG⟩ := h
      walk_at "rd"
      obtain ⟨M1, hM1⟩ : ∃ M1 : L2.St → Hp → Prop, M1 = fun σ' G' => ∃ (M : Addr) (a b : Int), 0 ≤ a ∧ a < 99 ∧ 0 ≤ b ∧ b < 99 ∧ M ≠ v ∧ G' M = some (.lst ((menuL a b).map V.int)) ∧ Gv v H G' ∧ σ' = [some (.ref v), some (.int (j : Int)), some (.ref M), s3, s4, s5, s6, s7, s8, s9, s10] := ⟨_, rfl⟩
      refine ⟨M1, ?_, ?_⟩
      · walk_at "rd"
        refine ⟨v, 99, rfl, gG.new, by decide, lg (by decide) (by decide), fun a G1 g1 a0 a1 => ?_⟩
        walk_at "rd"
        refine ⟨v, 99, rfl, g1.new, by decide, lg (by decide) (by decide), fun b G2 g2 b0 b1 => ?_⟩
        walk_at "rd"
        refine ⟨by decide, fun M G3 n3 e3 t3 => ?_⟩
        rw [hM1]
        exact ⟨M, a, b, a0, a1, b0, b1, vat_ne n3 g2.new, t3, ((gG.trans g1).trans g2).ex e3, rfl⟩
      intro σ' G3 h
      rw [hM1] at h
      obtain ⟨M, a, b, a0, a1, b0, b1, Mv, t3, gG3, rfl⟩ := h
      walk_at "rd"
      refine ⟨by decide, by decide, fun Dd hD => lcRv (v := v) (fun _ y _ => ∃ c : Int, y = .int c ∧ 0 ≤ c ∧ c ≤ 2 ^ 110) (fun _ _ _ _ _ h => h) hD gG3.new (by decide) (fun _ => rfl) ?_ ?_⟩
      · intro j G4 hj g4
        obtain ⟨R0, hR⟩ : ∃ R : VK, R = fun y G' => (∃ c : Int, y = .int c ∧ 0 ≤ c ∧ c ≤ 2 ^ 110) ∧ Gv v G4 G' := ⟨_, rfl⟩
        refine ⟨R0, ?_, fun y G' h => by rw [hR] at h; exact ⟨h.2, h.1⟩⟩
        walk_at "rd"
        refine ⟨v, 8, rfl, g4.new, by decide, lg (by decide) (by decide), fun r G5 g5 r0 r1 => ?_⟩
        obtain ⟨c, hc, c0, c1⟩ := menu_at a0 a1 b0 b1 r0 r1
        refine q_ixL (.of ((g4.trans g5).lst Mv t3)) hc ?_
        rw [hR]
        exact ⟨⟨c, rfl, c0, c1⟩, g5⟩
      · intro G4 ys g4 hy hly hr2
        obtain ⟨cs0, rfl, bG⟩ := ints_ex (G := G4) hr2
        have lc : cs0.length = 3 := by simpa using hly
        have gG4 := gG3.trans g4
        refine ⟨Dd, _, rfl, .of hy, fun T0 G5 n5 e5 t5 => ?_⟩
        obtain ⟨R0, hR⟩ : ∃ R : VK, R = fun y G' => Ex G5 G' ∧ ∃ p cs, y = V.ref p ∧ SqT K G' p (cs.map V.int) ∧ NumL cs 3 (2 ^ 110) ∧ 0 < cs.sum := ⟨_, rfl⟩
        refine ⟨R0, ?_, ?_⟩
        · walk_at "rd"
          refine ⟨T0, cs0, rfl, .inr (.of t5), ?_⟩
          walk_at "rd"
          by_cases hs : 0 < cs0.sum
          · rw [if_pos hs, hR]
            exact ⟨Ex.refl _, T0, cs0, rfl, .of t5, ⟨lc, bG⟩, hs⟩
          · rw [if_neg hs]
            refine ⟨by decide, fun T1 G6 n6 e6 t6 => ?_⟩
            rw [hR]
            exact ⟨e6, T1, [1, 1, 1], rfl, .of t6, ⟨rfl, fun x hx => by
              simp only [List.mem_cons, List.not_mem_nil, or_false] at hx
              rcases hx with rfl | rfl | rfl <;> decide⟩, by decide⟩
        intro y G6 hy6
        rw [hR] at hy6
        obtain ⟨e6, p, cs, rfl, hp, hN, sp⟩ := hy6
        have gG6 := (gG4.ex e5).ex e6
        have ad := alw_two (num_plain hN (gcd_of sp))
        have dp := dis_plain sp
        have cp := fun N => come_plain sp N
        have np := num_plain hN (gcd_of sp)
        have psp := plain_sum sp
        have rok := rowok_of hN sp
        obtain ⟨c0, c1, c2, ec3, h0, h1, h2⟩ := three_of hN
        have i1 : atI (cs.map V.int) 1 = some (.int c1) := by rw [ec3]; rfl
        have i2 : atI (cs.map V.int) 2 = some (.int c2) := by rw [ec3]; rfl
        have es : cs.sum = c0 + c1 + c2 := by rw [ec3]; simp; omega
        have ed : dis cs = (c1 + 2 * c2) * (c1 + 2 * c2) - 4 * ((c0 + c1 + c2) * c2) := by rw [ec3]; rfl
        walk_at "rd"
        refine ⟨cs, ⟨p, rfl, hp⟩, rok, fun x G7 e7 hrow => ?_⟩
        have gG7 := gG6.ex e7
        have hp7 := sqT_kp hp e7.kp
        obtain ⟨M2, hM2⟩ : ∃ M2 : L2.St → Hp → Prop, M2 = fun σ' G' => ∃ (L : Addr) (nums : List Int), G' L = some (.lst (nums.map V.int)) ∧ nums.length ≤ 7 ∧ (∀ a ∈ nums, 3 ≤ a ∧ a ≤ 1000000000000000000000000000000) ∧ Gv v G7 G' ∧ σ' = [some (.ref v), some (.int (j : Int)), some (.ref M), some (.ref p), s4, some x, some (.ref L), s7, s8, s9, s10] := ⟨_, rfl⟩
        refine ⟨M2, ?_, ?_⟩
        · walk_at "rd"
          refine ⟨v, 40, rfl, gG7.new, by decide, lg (by decide) (by decide), fun d G8 g8 d0 d1 => ?_⟩
          walk_at "rd"
          refine ⟨v, 1000000000, rfl, g8.new, by decide, lg (by decide) (by decide), fun d2 G9 g9 d20 d21 => ?_⟩
          walk_at "rd"
          refine ⟨by decide, fun L G10 n10 e10 t10 => ?_⟩
          rw [hM2]
          refine ⟨L, [3, 4, 5, 3 + d, 1000000000000000000000000000000, 1000000000 + d2, 999999999999999999999999999999], t10, by simp, fun a ha => ?_, (g8.trans g9).ex e10, rfl⟩
          simp only [List.mem_cons, List.not_mem_nil, or_false] at ha
          rcases ha with rfl | rfl | rfl | rfl | rfl | rfl | rfl <;> omega
        intro σ' G10 h
        rw [hM2] at h
        obtain ⟨L, nums, t10, ln, bn, gv, rfl⟩ := h
        have gG10 := gG7.trans gv
        have row10 := hrow.kp gv.kp
        have hp10 := sqT_kp hp7 gv.kp
        walk_at "rd"
        refine great_of row10 np psp fun y G11 e11 hy => ?_
        have yis := hy.is
        obtain ⟨M3, hM3⟩ : ∃ M3 : L2.St → Hp → Prop, M3 = fun σ' G' => ∃ (L : Addr) (nums : List Int) (z7 z8 z9 z10 : Option V), G' L = some (.lst (nums.map V.int)) ∧ nums.length ≤ 9 ∧ (∀ a ∈ nums, 3 ≤ a ∧ a ≤ 1000000000000000000000000000000) ∧ Ex G10 G' ∧ σ' = [some (.ref v), some (.int (j : Int)), some (.ref M), some (.ref p), s4, some x, some (.ref L), z7, z8, z9, z10] := ⟨_, rfl⟩
        refine ⟨M3, ?_, ?_⟩
        · walk_at "rd"
          have t11 := e11 _ _ t10
          rcases hy with ⟨ha, rfl⟩ | ⟨ha, N, rfl, n2, nb, cN, cN1⟩
          · rw [if_neg (by simp), hM3]
            exact ⟨L, nums, _, _, _, _, t11, by omega, bn, e11, rfl⟩
          · rw [if_pos (by simp)]
            walk_at "rd"
            refine ⟨by decide, fun L9 G12 n12 e12 t12 => ⟨L9, rfl, ⟨_, .of t12⟩, fun D3 hD3 => ?_⟩⟩
            refine lcIf (M := [(N : Int), (N : Int) + 1]) (fun a => decide (2 < a) && decide (a ≤ 1000000000000000000000000000000)) hD3 t12 (by simp) (fun _ => rfl) ?_ (fun x G S q => by walk_at "rd"; exact q) ?_
            · intro a G13 S _ e13 q
              have := q G13 (Ex.refl _)
              walk_at "rd"
              by_cases q1 : 2 < a
              · rw [if_pos q1]
                rw [decide_eq_true q1, Bool.true_and] at this
                exact this
              · rw [if_neg q1]
                rw [decide_eq_false q1, Bool.false_and] at this
                exact this
            · intro G13 e13 t13
              have lf := List.length_filter_le (fun a : Int => decide (2 < a) && decide (a ≤ 1000000000000000000000000000000)) [(N : Int), (N : Int) + 1]
              simp only [List.length_cons, List.length_nil] at lf
              refine ⟨L, D3, _, _, rfl, rfl, (e12.trans e13) _ _ t11, t13, Nat.le_trans (show _ ≤ 9 by
                rw [List.length_map, List.length_map]
                omega) (by decide), fun L14 G14 n14 e14 t14 => ?_⟩
              rw [hM3]
              refine ⟨L14, nums ++ [(N : Int), (N : Int) + 1].filter (fun a => decide (2 < a) && decide (a ≤ 1000000000000000000000000000000)), _, _, _, _, by rw [t14, List.map_append], by rw [List.length_append]; omega, fun a ha => ?_, ((e11.trans e12).trans e13).trans e14, rfl⟩
              rcases List.mem_append.mp ha with ha | ha
              · exact bn a ha
              · have := (List.mem_filter.mp ha).2
                rw [Bool.and_eq_true] at this
                have q1 := of_decide_eq_true this.1
                have q2 := of_decide_eq_true this.2
                omega
        intro σ' G12 h
        rw [hM3] at h
        obtain ⟨L, nums, z7, z8, z9, z10, t12, ln, bn, e12, rfl⟩ := h
        walk_at "rd"
        refine ⟨⟨_, .of t12⟩, ?_⟩
        obtain ⟨Uv, hU⟩ : ∃ U : Nat → L2.St → Hp → Prop, U = fun j' σ' G' => Ex G12 G' ∧ ∃ z : Option V, σ' = [some (.ref v), some (.int (j : Int)), some (.ref M), some (.ref p), s4, some x, some (.ref L), z7, z8, z, z10] := ⟨_, rfl⟩
        refine loopL (xs := nums.map V.int) Uv (by rw [hU]; exact ⟨Ex.refl _, _, rfl⟩) (fun i σ' G' _ h => by rw [hU] at h; exact .of (h.1 _ _ t12)) ?_ ?_
        · intro i x1 σ' G13 hx h
          rw [hU] at h
          obtain ⟨e13, z, rfl⟩ := h
          obtain ⟨a1, ha1, rfl⟩ := map_int_get hx
          obtain ⟨a3, a30⟩ := bn a1 (List.mem_of_getElem? ha1)
          obtain ⟨an, rfl⟩ : ∃ an : Nat, a1 = (an : Int) := ⟨a1.toNat, by omega⟩
          have p30 : (10 : Nat) ^ 30 = 1000000000000000000000000000000 := by decide
          have e1013 := e12.trans e13
          walk_at "rd"
          refine ⟨x, _, an, rfl, row10.kp e1013.kp, np, psp, by omega, by omega, fun G14 e14 => ?_⟩
          refine ⟨_, rfl, ?_⟩
          refine ⟨p, cs, an, rfl, sqT_kp hp10 (e1013.trans e14).kp, hN, sp, by omega, Nat.lt_of_lt_of_le (show an < 2 ^ 100 by omega) (Nat.pow_le_pow_right (by decide) (by decide)), fun G15 e15 => ?_⟩
          refine ⟨_, rfl, ?_⟩
          rw [cp an]
          walk_at "rd"
          rw [hU]
          refine ⟨(e13.trans e14).trans e15, _, rfl⟩
        · intro σ' G13 h
          rw [hU] at h
          obtain ⟨e13, z, rfl⟩ := h
          have e1013 := e12.trans e13
          walk_at "rd"
          refine ⟨x, _, 2, rfl, row10.kp e1013.kp, np, by decide, by decide, fun G14 e14 => ?_⟩
          have hp14 := sqT_kp hp10 (e1013.trans e14).kp
          refine q_ixT hp14 i2 ?_
          walk_at "rd"
          refine ⟨cmulL, ?_⟩
          refine ⟨p, cs, rfl, .inr hp14, ?_⟩
          walk_at "rd"
          rw [es]
          refine ⟨cmul 120 120 (by omega) (by omega), ?_⟩
          refine q_ixT hp14 i1 ?_
          refine q_ixT hp14 i2 ?_
          walk_at "rd"
          refine ⟨cmulL, ?_⟩
          walk_at "rd"
          refine ⟨⟨by decide, by decide, Nat.lt_of_lt_of_le (show (c1 + 2 * c2).natAbs < 2 ^ 120 by omega) (Nat.pow_le_pow_right (by decide) (by decide))⟩, ?_⟩
          have edue : decide ((c1 + 2 * c2) ^ Int.toNat 2 ≤ 4 * c2 * (c0 + c1 + c2)) = alwB (plainL cs) 2 := by
            rw [ad, decide_eq_decide, dp, ed]
            have q1 : (c1 + 2 * c2) ^ Int.toNat 2 = (c1 + 2 * c2) * (c1 + 2 * c2) := by
              show (c1 + 2 * c2) ^ 2 = _
              grind
            have q2 : 4 * c2 * (c0 + c1 + c2) = 4 * ((c0 + c1 + c2) * c2) := by grind
            omega
          rw [edue]
          refine ⟨rfl, _, rfl, ?_⟩
          rw [show (!decide (V.bl (alwB (plainL cs) 2) = V.bl (alwB (plainL cs) 2))) = false by simp, if_neg (by decide), hP]
          exact ⟨_, _, _, _, _, _, _, _, _, _, rfl, gG10.ex (e1013.trans e14)⟩
    · intro σ' G h
      rw [hP] at h
      obtain ⟨s1, s2, s3, s4, s5, s6, s7, s8, s9, s10, rfl, gG⟩ := h
      walk_at "rd"
      refine ⟨by decide, fun L1 G1 n1 e1 t1 => ?_⟩
      have gG1 := gG.ex e1
      refine ⟨v, 3, rfl, gG1.new, by decide, lg (by decide) (by decide), fun a G2 g2 a0 a1 => ?_⟩
      have L1v := vat_ne n1 gG.new
      obtain ⟨m, hm, m0, m1⟩ : ∃ m : Int, atI [V.int 9, .int 1000000, .int 10000000000000000000000000000] a = some (.int m) ∧ 0 < m ∧ m ≤ 10000000000000000000000000000 := by
        have : a = 0 ∨ a = 1 ∨ a = 2 := by omega
        rcases this with rfl | rfl | rfl
        · exact ⟨_, rfl, by decide, by decide⟩
        · exact ⟨_, rfl, by decide, by decide⟩
        · exact ⟨_, rfl, by decide, by decide⟩
      refine q_ixL (.of (g2.lst L1v t1)) hm ?_
      walk_at "rd"
      refine ⟨v, m, rfl, g2.new, m0, lg (by omega) (by omega), fun d G3 g3 d0 d1 => ?_⟩
      walk_at "rd"
      have c28 : (10000000000000000000000000000 : Int) + 1 ≤ 2 ^ 108 := by decide
      have c110 : 3 * (2 : Int) ^ 108 ≤ 2 ^ 110 := by decide
      obtain ⟨c, hc⟩ : ∃ c, c = 1 + d := ⟨_, rfl⟩
      rw [← hc]
      have c1 : 1 ≤ c := by omega
      have cb : c ≤ 2 ^ 108 := by omega
      have gG3 := (gG1.trans g2).trans g3
      have cm2 : CMulS 2 c := cmulL
      have cm4 : CMulS 4 c := cmulL
      have hN : NumL [c, 2 * c + 1, c] 3 (2 ^ 110) := ⟨rfl, fun x hx => by
        simp only [List.mem_cons, List.not_mem_nil, or_false] at hx
        rcases hx with rfl | rfl | rfl <;> omega⟩
      have sp : 0 < ([c, 2 * c + 1, c] : List Int).sum := by simp; omega
      refine ⟨cm2, by decide, fun T4 G4 n4 e4 t4 => ?_⟩
      refine ⟨[c, 2 * c + 1, c], ⟨T4, rfl, .of t4⟩, rowok_of hN sp, fun x G5 e5 hrow => ?_⟩
      rw [plain_near c1] at hrow
      have gG5 := (gG3.ex e4).ex e5
      refine great_of hrow hN sp fun y G6 e6 hy => ?_
      have gG6 := gG5.ex e6
      have ey : y = .int (4 * c + 2) := by
        have dd : alwB [c, 2 * c + 1, c] 2 = false := by
          rw [alw_two hN]
          refine decide_eq_false ?_
          have : dis [c, 2 * c + 1, c] = 4 * c + 1 := by
            simp only [dis, List.getD_cons_zero, List.getD_cons_succ]
            grind
          omega
        rcases hy with ⟨h, _⟩ | ⟨_, N, rfl, n2, nb, h1, h2⟩
        · rw [dd] at h
          cases h
        · rw [great_near c1 cb n2 nb h1 h2]
      rw [ey]
      refine ⟨cm4, ?_⟩
      walk_at "rd"
      refine ⟨by decide, fun L7 G7 n7 e7 t7 => ?_⟩
      have gG7 := gG6.ex e7
      refine ⟨v, 2, rfl, gG7.new, by decide, lg (by decide) (by decide), fun a G8 g8 b0 b1 => ?_⟩
      have L7v := vat_ne n7 gG6.new
      obtain ⟨m2, hm2, m20, m21⟩ : ∃ m : Int, atI [V.int 9, .int 100000000000000000000000000000] a = some (.int m) ∧ 0 < m ∧ m ≤ 100000000000000000000000000000 := by
        have : a = 0 ∨ a = 1 := by omega
        rcases this with rfl | rfl
        · exact ⟨_, rfl, by decide, by decide⟩
        · exact ⟨_, rfl, by decide, by decide⟩
      refine q_ixL (.of (g8.lst L7v t7)) hm2 ?_
      refine ⟨v, m2, rfl, g8.new, m20, lg (by omega) (by omega), fun d2 G9 g9 d20 d21 => ?_⟩
      walk_at "rd"
      refine ⟨cmulL, ?_⟩
      refine ⟨by decide, fun T10 G10 n10 e10 t10 => ?_⟩
      have h3 : NumL [1, 2, 1] 3 (2 ^ 110) := ⟨rfl, fun x hx => by
        simp only [List.mem_cons, List.not_mem_nil, or_false] at hx
        rcases hx with rfl | rfl | rfl <;> decide⟩
      refine ⟨[1, 2, 1], ⟨T10, rfl, .of t10⟩, rowok_of h3 (by decide), fun x2 G11 e11 hrow2 => ?_⟩
      rw [show plainL [1, 2, 1] = [1, 2, 1] by decide] at hrow2
      obtain ⟨h, hh⟩ : ∃ h : Nat, 1 + d2 = (h : Int) := ⟨(1 + d2).toNat, by omega⟩
      rw [hh]
      have p29 : (10 : Nat) ^ 29 = 100000000000000000000000000000 := by decide
      refine ⟨x2, h, by rw [Int.natCast_mul]; rfl, hrow2, by omega, by omega, fun t G12 e12 ht => ?_⟩
      walk_at "rd"
      refine ⟨by decide, fun T13 G13 n13 e13 t13 => ?_⟩
      refine ⟨.tuple [.int 1, .int (2 * (h : Int) + 2)], .tup (.of (e13 _ _ ht)) (.cons (.int _) (.cons (.int _) .nil)), .tup (.of t13) (.cons (.int _) (.cons (.int _) .nil)), rfl, ?_⟩
      exact k _ ((((((gG7.trans g8).trans g9).ex e10).ex e11).ex e12).ex e13)
end

section
variable {P : Program} {w : World} {K : PySem.W.Frag} {mg : Str → Option Value} {base : Heap}
/-! ### _law_quiet, law -/
theorem scQuiet : FnScope ["vat", "is_right"] ["vat"] (defScope (top 59)) := ⟨rfl, rfl, rfl, by decide +kernel, rfl, by decide +kernel, by decide +kernel⟩
theorem has_quiet (h_law_right : HasG P w K mg base "_law_right" 10 ["vat"] spRight) (D : Df K mg "_law_quiet" (top 59) ["vat"]) : HasG P w K mg base "_law_quiet" 11 ["vat"] spRight := by
  have sc := scQuiet
  refine .of D fun f fd F => okG F sc (fun vs H Q E h => ?_) (fun cdv A outer s H vs Q E hgd hr h => ?_)
  · obtain ⟨v, rfl, _⟩ := h
    rfl
  · obtain ⟨v, rfl, hv, k⟩ := h
    refine ⟨_, (pss_cons (ps_try_thru0 (pss_one (ps_set (i := 1) sc.nd rfl (by first | exact Or.inl rfl | exact Or.inr rfl) (pe_hasG h_law_right hgd (hr.mono (by decide)) (pa_cons (pv 0) pa_nil)))))
      (pss_one (ps_ret (pv 1)))), ?_⟩
    walk_at "rd"
    refine ⟨v, rfl, hv, fun H' g => ?_⟩
    walk_at "rd"
    exact k _ g
def spLaw (K : PySem.W.Frag) : Sp := fun vs H Q _ => ∃ (a : Addr) (ns : List Int), vs = [.ref a] ∧ SqL K H a (ns.map V.int) ∧ ns.length ≤ 63 ∧ ∀ H', Q (.bl true) H'
theorem scLaw : FnScope ["script", "at"] ["script"] (defScope (top 60)) := ⟨rfl, rfl, rfl, by decide +kernel, rfl, by decide +kernel, by decide +kernel⟩
theorem ok_law (B : Bi mg) (h_law_vat : Has P w K mg base "_law_vat" 1 ["script", "at"] (spVat K)) (h_law_quiet : HasG P w K mg base "_law_quiet" 11 ["vat"] spRight) {f : Addr} {fd : FuncData} (F : Fun K "law" "law" (top 60) f fd) : FnG P w K mg base 12 f fd ["script"] (spLaw K) := by
  have sc := scLaw
  refine okG F sc (fun vs H Q E h => ?_) (fun cdv A outer s H vs Q E hgd hr h => ?_)
  · obtain ⟨a, ns, rfl, _⟩ := h
    rfl
  · obtain ⟨a, ns, rfl, hS, hlen, k⟩ := h
    refine ⟨_, (pss_one (ps_ret (pe_callB (kAll (K := K) rfl) (by rfl) B.all (by decide +kernel) (pa_cons (pe_lc (own := [("at", 1)]) (g := gName 1) (tt := tYes) rfl sc.nd (pi_range1 (by rfl) B.range (pa_cons (pe_callB (call_max2 rfl) (by rfl) B.max (by decide +kernel) (pa_cons pe_int (pa_cons (pe_callB (call_min2 rfl) (by rfl) B.min (by decide +kernel) (pa_cons (pe_callB (kLen (K := K)) (by rfl) B.len (by decide +kernel) (pa_cons (pv 0) pa_nil)) (pa_cons pe_int pa_nil))) pa_nil))) pa_nil)) (blkOk_by (N := (["script", "at"] : List Str)) (sc := defScope (top 60)) (by decide +kernel)) (fun _ _ _ _ _ => (pg_name (i := 1) sc.nd rfl (by first | exact Or.inl rfl | exact Or.inr rfl))) (fun _ _ _ _ _ => pts_nil) (fun _ _ _ _ _ => (PE.mon (pe_hasG h_law_quiet hgd (hr.mono (by decide)) (pa_cons (pe_has h_law_vat (hr.mono (by decide)) (pa_cons (pv 0) (pa_cons (pv 1) pa_nil))) pa_nil))))) pa_nil)))), ?_⟩
    walk_at "rd"
    refine ⟨_, .inl hS, ?_⟩
    rw [List.length_map]
    generalize hm : (if (if _ < ((ns.length : Nat) : Int) then _ else ((ns.length : Nat) : Int)) > 2 then (if _ < ((ns.length : Nat) : Int) then _ else ((ns.length : Nat) : Int)) else (2 : Int)) = m
    have m5 : 0 ≤ m ∧ m ≤ 5 := by
      rw [← hm]
      repeat' split
      all_goals omega
    refine ⟨by omega, by omega, fun Dd hD => lcR (fun _ y _ => y = .bl true) (fun _ _ _ _ _ h => h) hD (by omega) (fun _ => rfl) ?_ ?_⟩
    · intro i G hi e
      obtain ⟨R0, hR⟩ : ∃ R : VK, R = fun y G' => Ex G G' ∧ y = .bl true := ⟨_, rfl⟩
      refine ⟨R0, ?_, fun y G' h => by rw [hR] at h; exact h⟩
      walk_at "rd"
      refine ⟨a, ns, _, rfl, sqL_ex hS e, hlen, by omega, by omega, fun v G2 n2 e2 hv => ⟨v, rfl, hv, fun G3 g => ?_⟩⟩
      rw [hR]
      exact ⟨Gv.out n2 e2 g, rfl⟩
    · intro G ys e hy hl hr2
      have ey : ys = (List.replicate m.toNat true).map V.bl := by
        apply List.ext_getElem?
        intro i
        by_cases hi : i < ys.length
        · rw [List.getElem?_eq_getElem hi, hr2 i _ (List.getElem?_eq_getElem hi)]
          simp [List.getElem?_replicate, show i < m.toNat by omega]
        · rw [List.getElem?_eq_none (by omega), List.getElem?_eq_none (by simp; omega)]
      rw [ey] at hy
      refine ⟨Dd, _, rfl, .of hy, ?_⟩
      have : (List.replicate m.toNat true).all id = true := by simp
      rw [this]
      exact k _
end

/-! ### the end -/
theorem all_mk {l : PySem.W.OpenLaw} {w : World} {K : PySem.W.Frag} {h : Heap} {mg : Str → Option Value} {fa : Addr} (X : K.In h) (G : h.Ns mainGlobals mg) (hfa : mg "law" = some (.ref fa))
    {f1 : Addr} {od1 an1 : Option Addr} {sl1 : Array (Option Value)} {oc1 kV1 dc1 pm1 cd1 ct1 : Value}
    {f2 : Addr} {od2 an2 : Option Addr} {sl2 : Array (Option Value)} {oc2 kV2 dc2 pm2 cd2 ct2 : Value}
    {f3 : Addr} {od3 an3 : Option Addr} {sl3 : Array (Option Value)} {oc3 kV3 dc3 pm3 cd3 ct3 : Value}
    {f4 : Addr} {od4 an4 : Option Addr} {sl4 : Array (Option Value)} {oc4 kV4 dc4 pm4 cd4 ct4 : Value}
    {f5 : Addr} {od5 an5 : Option Addr} {sl5 : Array (Option Value)} {oc5 kV5 dc5 pm5 cd5 ct5 : Value}
    {f6 : Addr} {od6 an6 : Option Addr} {sl6 : Array (Option Value)} {oc6 kV6 dc6 pm6 cd6 ct6 : Value}
    {f7 : Addr} {od7 an7 : Option Addr} {sl7 : Array (Option Value)} {oc7 kV7 dc7 pm7 cd7 ct7 : Value}
    {f8 : Addr} {od8 an8 : Option Addr} {sl8 : Array (Option Value)} {oc8 kV8 dc8 pm8 cd8 ct8 : Value}
    {f9 : Addr} {od9 an9 : Option Addr} {sl9 : Array (Option Value)} {oc9 kV9 dc9 pm9 cd9 ct9 : Value}
    {f10 : Addr} {od10 an10 : Option Addr} {sl10 : Array (Option Value)} {oc10 kV10 dc10 pm10 cd10 ct10 : Value}
    {f11 : Addr} {od11 an11 : Option Addr} {sl11 : Array (Option Value)} {oc11 kV11 dc11 pm11 cd11 ct11 : Value}
    {f12 : Addr} {od12 an12 : Option Addr} {sl12 : Array (Option Value)} {oc12 kV12 dc12 pm12 cd12 ct12 : Value}
    {f13 : Addr} {od13 an13 : Option Addr} {sl13 : Array (Option Value)} {oc13 kV13 dc13 pm13 cd13 ct13 : Value}
    {f14 : Addr} {od14 an14 : Option Addr} {sl14 : Array (Option Value)} {oc14 kV14 dc14 pm14 cd14 ct14 : Value}
    {f15 : Addr} {od15 an15 : Option Addr} {sl15 : Array (Option Value)} {oc15 kV15 dc15 pm15 cd15 ct15 : Value}
    {f16 : Addr} {od16 an16 : Option Addr} {sl16 : Array (Option Value)} {oc16 kV16 dc16 pm16 cd16 ct16 : Value}
    {f17 : Addr} {od17 an17 : Option Addr} {sl17 : Array (Option Value)} {oc17 kV17 dc17 pm17 cd17 ct17 : Value}
    {f18 : Addr} {od18 an18 : Option Addr} {sl18 : Array (Option Value)} {oc18 kV18 dc18 pm18 cd18 ct18 : Value}
    {f19 : Addr} {od19 an19 : Option Addr} {sl19 : Array (Option Value)} {oc19 kV19 dc19 pm19 cd19 ct19 : Value}
    {f20 : Addr} {od20 an20 : Option Addr} {sl20 : Array (Option Value)} {oc20 kV20 dc20 pm20 cd20 ct20 : Value}
    {f21 : Addr} {od21 an21 : Option Addr} {sl21 : Array (Option Value)} {oc21 kV21 dc21 pm21 cd21 ct21 : Value}
    {f22 : Addr} {od22 an22 : Option Addr} {sl22 : Array (Option Value)} {oc22 kV22 dc22 pm22 cd22 ct22 : Value}
    {f23 : Addr} {od23 an23 : Option Addr} {sl23 : Array (Option Value)} {oc23 kV23 dc23 pm23 cd23 ct23 : Value}
    {f24 : Addr} {od24 an24 : Option Addr} {sl24 : Array (Option Value)} {oc24 kV24 dc24 pm24 cd24 ct24 : Value}
    {f25 : Addr} {od25 an25 : Option Addr} {sl25 : Array (Option Value)} {oc25 kV25 dc25 pm25 cd25 ct25 : Value}
    {f26 : Addr} {od26 an26 : Option Addr} {sl26 : Array (Option Value)} {oc26 kV26 dc26 pm26 cd26 ct26 : Value}
    {f27 : Addr} {od27 an27 : Option Addr} {sl27 : Array (Option Value)} {oc27 kV27 dc27 pm27 cd27 ct27 : Value}
    {f28 : Addr} {od28 an28 : Option Addr} {sl28 : Array (Option Value)} {oc28 kV28 dc28 pm28 cd28 ct28 : Value}
    {f29 : Addr} {od29 an29 : Option Addr} {sl29 : Array (Option Value)} {oc29 kV29 dc29 pm29 cd29 ct29 : Value}
    {f30 : Addr} {od30 an30 : Option Addr} {sl30 : Array (Option Value)} {oc30 kV30 dc30 pm30 cd30 ct30 : Value}
    {f31 : Addr} {od31 an31 : Option Addr} {sl31 : Array (Option Value)} {oc31 kV31 dc31 pm31 cd31 ct31 : Value}
    {f32 : Addr} {od32 an32 : Option Addr} {sl32 : Array (Option Value)} {oc32 kV32 dc32 pm32 cd32 ct32 : Value}
    {f33 : Addr} {od33 an33 : Option Addr} {sl33 : Array (Option Value)} {oc33 kV33 dc33 pm33 cd33 ct33 : Value}
    {f34 : Addr} {od34 an34 : Option Addr} {sl34 : Array (Option Value)} {oc34 kV34 dc34 pm34 cd34 ct34 : Value}
    {f35 : Addr} {od35 an35 : Option Addr} {sl35 : Array (Option Value)} {oc35 kV35 dc35 pm35 cd35 ct35 : Value}
    {f36 : Addr} {od36 an36 : Option Addr} {sl36 : Array (Option Value)} {oc36 kV36 dc36 pm36 cd36 ct36 : Value}
    {C : Addr}
    {f37 : Addr} {od37 an37 : Option Addr} {sl37 : Array (Option Value)} {oc37 kV37 dc37 pm37 cd37 ct37 : Value}
    {f38 : Addr} {od38 an38 : Option Addr} {sl38 : Array (Option Value)} {oc38 kV38 dc38 pm38 cd38 ct38 : Value}
    {f39 p39 : Addr} {r39 : List Value} {od39 an39 : Option Addr} {sl39 : Array (Option Value)} {oc39 kV39 dc39 pm39 cd39 ct39 : Value}
    {f40 p40 : Addr} {r40 : List Value} {od40 an40 : Option Addr} {sl40 : Array (Option Value)} {oc40 kV40 dc40 pm40 cd40 ct40 : Value}
    {N : Addr} {nm qn : Str} {bs : List Value} {hdct : Bool} {sn : List Str} {sub : List Value} {ab : Bool} {col : Option Bool} {dd : Option Addr} {q0 q1 q2 q3 q5 : Option Value} {newId : String}
    {tk tk2 : Tok}
    (a1 : PySem.W.nsIn K mainGlobals "is_whole" = some (some (.ref f1)))
    (l1 : K.lookup f1 = some ⟨oc1, od1, .func (PySem.W.fnOf "is_whole" "is_whole" (defArgs (top 14)) (defBody (top 14)) (defScope (top 14)) .none kV1 dc1 pm1 an1 cd1 ct1), sl1⟩)
    (c1 : PySem.W.codeIn K cd1 "is_whole" = true)
    (k1 : PySem.W.keepIn K (.ref f1) = true)
    (a2 : PySem.W.nsIn K mainGlobals "check_number" = some (some (.ref f2)))
    (l2 : K.lookup f2 = some ⟨oc2, od2, .func (PySem.W.fnOf "check_number" "check_number" (defArgs (top 15)) (defBody (top 15)) (defScope (top 15)) .none kV2 dc2 pm2 an2 cd2 ct2), sl2⟩)
    (c2 : PySem.W.codeIn K cd2 "check_number" = true)
    (k2 : PySem.W.keepIn K (.ref f2) = true)
    (a3 : PySem.W.nsIn K mainGlobals "lowest" = some (some (.ref f3)))
    (l3 : K.lookup f3 = some ⟨oc3, od3, .func (PySem.W.fnOf "lowest" "lowest" (defArgs (top 16)) (defBody (top 16)) (defScope (top 16)) .none kV3 dc3 pm3 an3 cd3 ct3), sl3⟩)
    (c3 : PySem.W.codeIn K cd3 "lowest" = true)
    (k3 : PySem.W.keepIn K (.ref f3) = true)
    (a4 : PySem.W.nsIn K mainGlobals "check_row" = some (some (.ref f4)))
    (l4 : K.lookup f4 = some ⟨oc4, od4, .func (PySem.W.fnOf "check_row" "check_row" (defArgs (top 24)) (defBody (top 24)) (defScope (top 24)) .none kV4 dc4 pm4 an4 cd4 ct4), sl4⟩)
    (c4 : PySem.W.codeIn K cd4 "check_row" = true)
    (k4 : PySem.W.keepIn K (.ref f4) = true)
    (a5 : PySem.W.nsIn K mainGlobals "_check_counts" = some (some (.ref f5)))
    (l5 : K.lookup f5 = some ⟨oc5, od5, .func (PySem.W.fnOf "_check_counts" "_check_counts" (defArgs (top 25)) (defBody (top 25)) (defScope (top 25)) .none kV5 dc5 pm5 an5 cd5 ct5), sl5⟩)
    (c5 : PySem.W.codeIn K cd5 "_check_counts" = true)
    (k5 : PySem.W.keepIn K (.ref f5) = true)
    (a6 : PySem.W.nsIn K mainGlobals "comes" = some (some (.ref f6)))
    (l6 : K.lookup f6 = some ⟨oc6, od6, .func (PySem.W.fnOf "comes" "comes" (defArgs (top 28)) (defBody (top 28)) (defScope (top 28)) .none kV6 dc6 pm6 an6 cd6 ct6), sl6⟩)
    (c6 : PySem.W.codeIn K cd6 "comes" = true)
    (k6 : PySem.W.keepIn K (.ref f6) = true)
    (a7 : PySem.W.nsIn K mainGlobals "always" = some (some (.ref f7)))
    (l7 : K.lookup f7 = some ⟨oc7, od7, .func (PySem.W.fnOf "always" "always" (defArgs (top 29)) (defBody (top 29)) (defScope (top 29)) .none kV7 dc7 pm7 an7 cd7 ct7), sl7⟩)
    (c7 : PySem.W.codeIn K cd7 "always" = true)
    (k7 : PySem.W.keepIn K (.ref f7) = true)
    (a8 : PySem.W.nsIn K mainGlobals "greatest" = some (some (.ref f8)))
    (l8 : K.lookup f8 = some ⟨oc8, od8, .func (PySem.W.fnOf "greatest" "greatest" (defArgs (top 30)) (defBody (top 30)) (defScope (top 30)) .none kV8 dc8 pm8 an8 cd8 ct8), sl8⟩)
    (c8 : PySem.W.codeIn K cd8 "greatest" = true)
    (k8 : PySem.W.keepIn K (.ref f8) = true)
    (a9 : PySem.W.nsIn K mainGlobals "does_come" = some (some (.ref f9)))
    (l9 : K.lookup f9 = some ⟨oc9, od9, .func (PySem.W.fnOf "does_come" "does_come" (defArgs (top 31)) (defBody (top 31)) (defScope (top 31)) .none kV9 dc9 pm9 an9 cd9 ct9), sl9⟩)
    (c9 : PySem.W.codeIn K cd9 "does_come" = true)
    (k9 : PySem.W.keepIn K (.ref f9) = true)
    (a10 : PySem.W.nsIn K mainGlobals "yes_sums" = some (some (.ref f10)))
    (l10 : K.lookup f10 = some ⟨oc10, od10, .func (PySem.W.fnOf "yes_sums" "yes_sums" (defArgs (top 32)) (defBody (top 32)) (defScope (top 32)) .none kV10 dc10 pm10 an10 cd10 ct10), sl10⟩)
    (c10 : PySem.W.codeIn K cd10 "yes_sums" = true)
    (k10 : PySem.W.keepIn K (.ref f10) = true)
    (a11 : PySem.W.nsIn K mainGlobals "row_sums" = some (some (.ref f11)))
    (l11 : K.lookup f11 = some ⟨oc11, od11, .func (PySem.W.fnOf "row_sums" "row_sums" (defArgs (top 33)) (defBody (top 33)) (defScope (top 33)) .none kV11 dc11 pm11 an11 cd11 ct11), sl11⟩)
    (c11 : PySem.W.codeIn K cd11 "row_sums" = true)
    (k11 : PySem.W.keepIn K (.ref f11) = true)
    (a12 : PySem.W.nsIn K mainGlobals "times" = some (some (.ref f12)))
    (l12 : K.lookup f12 = some ⟨oc12, od12, .func (PySem.W.fnOf "times" "times" (defArgs (top 34)) (defBody (top 34)) (defScope (top 34)) .none kV12 dc12 pm12 an12 cd12 ct12), sl12⟩)
    (c12 : PySem.W.codeIn K cd12 "times" = true)
    (k12 : PySem.W.keepIn K (.ref f12) = true)
    (a13 : PySem.W.nsIn K mainGlobals "mean_on" = some (some (.ref f13)))
    (l13 : K.lookup f13 = some ⟨oc13, od13, .func (PySem.W.fnOf "mean_on" "mean_on" (defArgs (top 35)) (defBody (top 35)) (defScope (top 35)) .none kV13 dc13 pm13 an13 cd13 ct13), sl13⟩)
    (c13 : PySem.W.codeIn K cd13 "mean_on" = true)
    (k13 : PySem.W.keepIn K (.ref f13) = true)
    (a14 : PySem.W.nsIn K mainGlobals "lowest_points" = some (some (.ref f14)))
    (l14 : K.lookup f14 = some ⟨oc14, od14, .func (PySem.W.fnOf "lowest_points" "lowest_points" (defArgs (top 36)) (defBody (top 36)) (defScope (top 36)) .none kV14 dc14 pm14 an14 cd14 ct14), sl14⟩)
    (c14 : PySem.W.codeIn K cd14 "lowest_points" = true)
    (k14 : PySem.W.keepIn K (.ref f14) = true)
    (a15 : PySem.W.nsIn K mainGlobals "highest_points" = some (some (.ref f15)))
    (l15 : K.lookup f15 = some ⟨oc15, od15, .func (PySem.W.fnOf "highest_points" "highest_points" (defArgs (top 37)) (defBody (top 37)) (defScope (top 37)) .none kV15 dc15 pm15 an15 cd15 ct15), sl15⟩)
    (c15 : PySem.W.codeIn K cd15 "highest_points" = true)
    (k15 : PySem.W.keepIn K (.ref f15) = true)
    (a16 : PySem.W.nsIn K mainGlobals "broken_points" = some (some (.ref f16)))
    (l16 : K.lookup f16 = some ⟨oc16, od16, .func (PySem.W.fnOf "broken_points" "broken_points" (defArgs (top 38)) (defBody (top 38)) (defScope (top 38)) .none kV16 dc16 pm16 an16 cd16 ct16), sl16⟩)
    (c16 : PySem.W.codeIn K cd16 "broken_points" = true)
    (k16 : PySem.W.keepIn K (.ref f16) = true)
    (a17 : PySem.W.nsIn K mainGlobals "choices" = some (some (.ref f17)))
    (l17 : K.lookup f17 = some ⟨oc17, od17, .func (PySem.W.fnOf "choices" "choices" (defArgs (top 39)) (defBody (top 39)) (defScope (top 39)) .none kV17 dc17 pm17 an17 cd17 ct17), sl17⟩)
    (c17 : PySem.W.codeIn K cd17 "choices" = true)
    (k17 : PySem.W.keepIn K (.ref f17) = true)
    (a18 : PySem.W.nsIn K mainGlobals "_check" = some (some (.ref f18)))
    (l18 : K.lookup f18 = some ⟨oc18, od18, .func (PySem.W.fnOf "_check" "_check" (defArgs (top 40)) (defBody (top 40)) (defScope (top 40)) .none kV18 dc18 pm18 an18 cd18 ct18), sl18⟩)
    (c18 : PySem.W.codeIn K cd18 "_check" = true)
    (k18 : PySem.W.keepIn K (.ref f18) = true)
    (a19 : PySem.W.nsIn K mainGlobals "_table" = some (some (.ref f19)))
    (l19 : K.lookup f19 = some ⟨oc19, od19, .func (PySem.W.fnOf "_table" "_table" (defArgs (top 41)) (defBody (top 41)) (defScope (top 41)) .none kV19 dc19 pm19 an19 cd19 ct19), sl19⟩)
    (c19 : PySem.W.codeIn K cd19 "_table" = true)
    (k19 : PySem.W.keepIn K (.ref f19) = true)
    (a20 : PySem.W.nsIn K mainGlobals "_never_below" = some (some (.ref f20)))
    (l20 : K.lookup f20 = some ⟨oc20, od20, .func (PySem.W.fnOf "_never_below" "_never_below" (defArgs (top 42)) (defBody (top 42)) (defScope (top 42)) .none kV20 dc20 pm20 an20 cd20 ct20), sl20⟩)
    (c20 : PySem.W.codeIn K cd20 "_never_below" = true)
    (k20 : PySem.W.keepIn K (.ref f20) = true)
    (a21 : PySem.W.nsIn K mainGlobals "_minor" = some (some (.ref f21)))
    (l21 : K.lookup f21 = some ⟨oc21, od21, .func (PySem.W.fnOf "_minor" "_minor" (defArgs (top 43)) (defBody (top 43)) (defScope (top 43)) .none kV21 dc21 pm21 an21 cd21 ct21), sl21⟩)
    (c21 : PySem.W.codeIn K cd21 "_minor" = true)
    (k21 : PySem.W.keepIn K (.ref f21) = true)
    (a22 : PySem.W.nsIn K mainGlobals "_pairs" = some (some (.ref f22)))
    (l22 : K.lookup f22 = some ⟨oc22, od22, .func (PySem.W.fnOf "_pairs" "_pairs" (defArgs (top 44)) (defBody (top 44)) (defScope (top 44)) .none kV22 dc22 pm22 an22 cd22 ct22), sl22⟩)
    (c22 : PySem.W.codeIn K cd22 "_pairs" = true)
    (k22 : PySem.W.keepIn K (.ref f22) = true)
    (a23 : PySem.W.nsIn K mainGlobals "_place" = some (some (.ref f23)))
    (l23 : K.lookup f23 = some ⟨oc23, od23, .func (PySem.W.fnOf "_place" "_place" (defArgs (top 45)) (defBody (top 45)) (defScope (top 45)) .none kV23 dc23 pm23 an23 cd23 ct23), sl23⟩)
    (c23 : PySem.W.codeIn K cd23 "_place" = true)
    (k23 : PySem.W.keepIn K (.ref f23) = true)
    (a24 : PySem.W.nsIn K mainGlobals "_side" = some (some (.ref f24)))
    (l24 : K.lookup f24 = some ⟨oc24, od24, .func (PySem.W.fnOf "_side" "_side" (defArgs (top 46)) (defBody (top 46)) (defScope (top 46)) .none kV24 dc24 pm24 an24 cd24 ct24), sl24⟩)
    (c24 : PySem.W.codeIn K cd24 "_side" = true)
    (k24 : PySem.W.keepIn K (.ref f24) = true)
    (a25 : PySem.W.nsIn K mainGlobals "_about" = some (some (.ref f25)))
    (l25 : K.lookup f25 = some ⟨oc25, od25, .func (PySem.W.fnOf "_about" "_about" (defArgs (top 47)) (defBody (top 47)) (defScope (top 47)) .none kV25 dc25 pm25 an25 cd25 ct25), sl25⟩)
    (c25 : PySem.W.codeIn K cd25 "_about" = true)
    (k25 : PySem.W.keepIn K (.ref f25) = true)
    (a26 : PySem.W.nsIn K mainGlobals "_lower_root" = some (some (.ref f26)))
    (l26 : K.lookup f26 = some ⟨oc26, od26, .func (PySem.W.fnOf "_lower_root" "_lower_root" (defArgs (top 48)) (defBody (top 48)) (defScope (top 48)) .none kV26 dc26 pm26 an26 cd26 ct26), sl26⟩)
    (c26 : PySem.W.codeIn K cd26 "_lower_root" = true)
    (k26 : PySem.W.keepIn K (.ref f26) = true)
    (a27 : PySem.W.nsIn K mainGlobals "most_share" = some (some (.ref f27)))
    (l27 : K.lookup f27 = some ⟨oc27, od27, .func (PySem.W.fnOf "most_share" "most_share" (defArgs (top 50)) (defBody (top 50)) (defScope (top 50)) .none kV27 dc27 pm27 an27 cd27 ct27), sl27⟩)
    (c27 : PySem.W.codeIn K cd27 "most_share" = true)
    (k27 : PySem.W.keepIn K (.ref f27) = true)
    (a28 : PySem.W.nsIn K mainGlobals "share_and_points" = some (some (.ref f28)))
    (l28 : K.lookup f28 = some ⟨oc28, od28, .func (PySem.W.fnOf "share_and_points" "share_and_points" (defArgs (top 51)) (defBody (top 51)) (defScope (top 51)) .none kV28 dc28 pm28 an28 cd28 ct28), sl28⟩)
    (c28 : PySem.W.codeIn K cd28 "share_and_points" = true)
    (k28 : PySem.W.keepIn K (.ref f28) = true)
    (a29 : PySem.W.nsIn K mainGlobals "_sums_of_lots" = some (some (.ref f29)))
    (l29 : K.lookup f29 = some ⟨oc29, od29, .func (PySem.W.fnOf "_sums_of_lots" "_sums_of_lots" (defArgs (top 52)) (defBody (top 52)) (defScope (top 52)) .none kV29 dc29 pm29 an29 cd29 ct29), sl29⟩)
    (c29 : PySem.W.codeIn K cd29 "_sums_of_lots" = true)
    (k29 : PySem.W.keepIn K (.ref f29) = true)
    (a30 : PySem.W.nsIn K mainGlobals "_part_and_points" = some (some (.ref f30)))
    (l30 : K.lookup f30 = some ⟨oc30, od30, .func (PySem.W.fnOf "_part_and_points" "_part_and_points" (defArgs (top 53)) (defBody (top 53)) (defScope (top 53)) .none kV30 dc30 pm30 an30 cd30 ct30), sl30⟩)
    (c30 : PySem.W.codeIn K cd30 "_part_and_points" = true)
    (k30 : PySem.W.keepIn K (.ref f30) = true)
    (a31 : PySem.W.nsIn K mainGlobals "_law_vat" = some (some (.ref f31)))
    (l31 : K.lookup f31 = some ⟨oc31, od31, .func (PySem.W.fnOf "_law_vat" "_law_vat" (defArgs (top 55)) (defBody (top 55)) (defScope (top 55)) .none kV31 dc31 pm31 an31 cd31 ct31), sl31⟩)
    (c31 : PySem.W.codeIn K cd31 "_law_vat" = true)
    (k31 : PySem.W.keepIn K (.ref f31) = true)
    (a32 : PySem.W.nsIn K mainGlobals "_law_dip" = some (some (.ref f32)))
    (l32 : K.lookup f32 = some ⟨oc32, od32, .func (PySem.W.fnOf "_law_dip" "_law_dip" (defArgs (top 56)) (defBody (top 56)) (defScope (top 56)) .none kV32 dc32 pm32 an32 cd32 ct32), sl32⟩)
    (c32 : PySem.W.codeIn K cd32 "_law_dip" = true)
    (k32 : PySem.W.keepIn K (.ref f32) = true)
    (a33 : PySem.W.nsIn K mainGlobals "_law_due" = some (some (.ref f33)))
    (l33 : K.lookup f33 = some ⟨oc33, od33, .func (PySem.W.fnOf "_law_due" "_law_due" (defArgs (top 57)) (defBody (top 57)) (defScope (top 57)) .none kV33 dc33 pm33 an33 cd33 ct33), sl33⟩)
    (c33 : PySem.W.codeIn K cd33 "_law_due" = true)
    (k33 : PySem.W.keepIn K (.ref f33) = true)
    (a34 : PySem.W.nsIn K mainGlobals "_law_right" = some (some (.ref f34)))
    (l34 : K.lookup f34 = some ⟨oc34, od34, .func (PySem.W.fnOf "_law_right" "_law_right" (defArgs (top 58)) (defBody (top 58)) (defScope (top 58)) .none kV34 dc34 pm34 an34 cd34 ct34), sl34⟩)
    (c34 : PySem.W.codeIn K cd34 "_law_right" = true)
    (k34 : PySem.W.keepIn K (.ref f34) = true)
    (a35 : PySem.W.nsIn K mainGlobals "_law_quiet" = some (some (.ref f35)))
    (l35 : K.lookup f35 = some ⟨oc35, od35, .func (PySem.W.fnOf "_law_quiet" "_law_quiet" (defArgs (top 59)) (defBody (top 59)) (defScope (top 59)) .none kV35 dc35 pm35 an35 cd35 ct35), sl35⟩)
    (c35 : PySem.W.codeIn K cd35 "_law_quiet" = true)
    (k35 : PySem.W.keepIn K (.ref f35) = true)
    (a36 : PySem.W.nsIn K mainGlobals "law" = some (some (.ref f36)))
    (l36 : K.lookup f36 = some ⟨oc36, od36, .func (PySem.W.fnOf "law" "law" (defArgs (top 60)) (defBody (top 60)) (defScope (top 60)) .none kV36 dc36 pm36 an36 cd36 ct36), sl36⟩)
    (c36 : PySem.W.codeIn K cd36 "law" = true)
    (k36 : PySem.W.keepIn K (.ref f36) = true)
    (aC : PySem.W.nsIn K mainGlobals "Row" = some (some (.ref C)))
    (pg : PySem.W.plainGet K C Str.empty = true)
    (hd : PySem.W.hasDictIn K C = true)
    (po : PySem.W.plainOver K C = true)
    (sa : PySem.W.findIn K (.ref C) "__setattr__" = some (some (.builtin "object.__setattr__")))
    (mk : PySem.W.makesIn K C = true)
    (kc : PySem.W.keepIn K (.ref C) = true)
    (nC : PySem.W.findIn K (.ref C) "_counts" = some none)
    (xa : PySem.W.findIn K (.ref C) "__class__" = some (some (.builtin "object.__class__")))
    (xn : PySem.W.specialIn K (.builtin "object.__class__") "__get__" = some (some (.builtin "getset_descriptor.__get__")))
    (xt : PySem.W.takesIn K (.builtin "object.__class__") = some true)
    (xm : PySem.W.mroIn K C (.type "object") = some true)
    (a37 : PySem.W.findIn K (.ref C) "__init__" = some (some (.ref f37)))
    (i37 : PySem.W.isFn K (.ref f37) = true)
    (l37 : K.lookup f37 = some ⟨oc37, od37, .func (PySem.W.fnOf "__init__" "Row.__init__" (defArgs (inClass (top 23) 0)) (defBody (inClass (top 23) 0)) (defScope (inClass (top 23) 0)) .none kV37 dc37 pm37 an37 cd37 ct37), sl37⟩)
    (c37 : PySem.W.codeIn K cd37 "Row.__init__" = true)
    (k37 : PySem.W.keepIn K (.ref f37) = true)
    (a38 : PySem.W.findIn K (.ref C) "__eq__" = some (some (.ref f38)))
    (i38 : PySem.W.isFn K (.ref f38) = true)
    (l38 : K.lookup f38 = some ⟨oc38, od38, .func (PySem.W.fnOf "__eq__" "Row.__eq__" (defArgs (inClass (top 23) 7)) (defBody (inClass (top 23) 7)) (defScope (inClass (top 23) 7)) .none kV38 dc38 pm38 an38 cd38 ct38), sl38⟩)
    (c38 : PySem.W.codeIn K cd38 "Row.__eq__" = true)
    (k38 : PySem.W.keepIn K (.ref f38) = true)
    (a39 : PySem.W.findIn K (.ref C) "counts" = some (some (.ref p39)))
    (g39 : PySem.W.specialIn K (.ref p39) "__get__" = some (some (.builtin "property.__get__")))
    (t39 : PySem.W.takesIn K (.ref p39) = some true)
    (r39r : PySem.W.recIn K p39 "property" = some (.ref f39 :: r39))
    (l39 : K.lookup f39 = some ⟨oc39, od39, .func (PySem.W.fnOf "counts" "Row.counts" (defArgs (inClass (top 23) 2)) (defBody (inClass (top 23) 2)) (defScope (inClass (top 23) 2)) .none kV39 dc39 pm39 an39 cd39 ct39), sl39⟩)
    (c39 : PySem.W.codeIn K cd39 "Row.counts" = true)
    (k39 : PySem.W.keepIn K (.ref f39) = true)
    (a40 : PySem.W.findIn K (.ref C) "draws" = some (some (.ref p40)))
    (g40 : PySem.W.specialIn K (.ref p40) "__get__" = some (some (.builtin "property.__get__")))
    (t40 : PySem.W.takesIn K (.ref p40) = some true)
    (r40r : PySem.W.recIn K p40 "property" = some (.ref f40 :: r40))
    (l40 : K.lookup f40 = some ⟨oc40, od40, .func (PySem.W.fnOf "draws" "Row.draws" (defArgs (inClass (top 23) 4)) (defBody (inClass (top 23) 4)) (defScope (inClass (top 23) 4)) .none kV40 dc40 pm40 an40 cd40 ct40), sl40⟩)
    (c40 : PySem.W.codeIn K cd40 "Row.draws" = true)
    (k40 : PySem.W.keepIn K (.ref f40) = true)
    (lC : K.lookup C = some (excClassObj nm qn C N bs [.type "object"] hdct sn sub ab col dd q0 q1 q2 q3 q5 newId))
    (okN : PySem.W.nsOkIn K N = true)
    (n1 : PySem.W.nsIn K N "__eq__" = some (some (.ref f38)))
    (n2 : PySem.W.nsIn K N "__ne__" = some none)
    (ocf : oc38 = .type "function")
    (c_gcd : PySem.W.nsIn K mainGlobals "gcd" = some (some (.builtin "math.gcd")))
    (c_comb : PySem.W.nsIn K mainGlobals "comb" = some (some (.builtin "math.comb")))
    (c_factorial : PySem.W.nsIn K mainGlobals "factorial" = some (some (.builtin "math.factorial")))
    (c_perm : PySem.W.nsIn K mainGlobals "perm" = some (some (.builtin "math.perm")))
    (c_isqrt : PySem.W.nsIn K mainGlobals "isqrt" = some (some (.builtin "math.isqrt")))
    (c_MOST_DRAWS : PySem.W.nsIn K mainGlobals "MOST_DRAWS" = some (some (.int 5 tk)))
    (c_MOST_SLIPS : PySem.W.nsIn K mainGlobals "MOST_SLIPS" = some (some (.int 1000000000000000000000000000000 tk2)))
    (z_len : PySem.W.nsIn K mainGlobals "len" = some none)
    (z_abs : PySem.W.nsIn K mainGlobals "abs" = some none)
    (z_max : PySem.W.nsIn K mainGlobals "max" = some none)
    (z_min : PySem.W.nsIn K mainGlobals "min" = some none)
    (z_sum : PySem.W.nsIn K mainGlobals "sum" = some none)
    (z_range : PySem.W.nsIn K mainGlobals "range" = some none)
    (z_tuple : PySem.W.nsIn K mainGlobals "tuple" = some none)
    (z_int : PySem.W.nsIn K mainGlobals "int" = some none)
    (z_divmod : PySem.W.nsIn K mainGlobals "divmod" = some none)
    (z_all : PySem.W.nsIn K mainGlobals "all" = some none)
    (z_repr : PySem.W.nsIn K mainGlobals "repr" = some none)
    (z_isinstance : PySem.W.nsIn K mainGlobals "isinstance" = some none)
    (z_enumerate : PySem.W.nsIn K mainGlobals "enumerate" = some none)
    (z_bool : PySem.W.nsIn K mainGlobals "bool" = some none)
    (z_zip : PySem.W.nsIn K mainGlobals "zip" = some none)
    (z_str : PySem.W.nsIn K mainGlobals "str" = some none)
    (z_list : PySem.W.nsIn K mainGlobals "list" = some none)
    (z_sorted : PySem.W.nsIn K mainGlobals "sorted" = some none)
    : ∃ fd : FuncData, (∀ (s : Shared) (u : Value), BindsTo s fd ⟨[u], []⟩ [("script", u)]) ∧ ∀ base : Heap, K.In base → base.Ns mainGlobals mg → FnG l.prog w K mg base 12 fa fd ["script"] (spLaw K) := by
  have e := hfa.symm.trans (PySem.W.mg_of X G a36)
  cases e
  have Dis_whole : Df K mg "is_whole" (top 14) ["value"] := ⟨f1, _, fun_mk (st := (top 14)) l1 c1 k1, PySem.W.mg_of X G a1, (fun_mk (st := (top 14)) l1 c1 k1).binds (ps := ["value"]) fun _ _ _ _ _ _ us hl => match us, hl with | [_], _ => rfl⟩
  have Dcheck_number : Df K mg "check_number" (top 15) ["given", "least", "most"] := ⟨f2, _, fun_mk (st := (top 15)) l2 c2 k2, PySem.W.mg_of X G a2, (fun_mk (st := (top 15)) l2 c2 k2).binds (ps := ["given", "least", "most"]) fun _ _ _ _ _ _ us hl => match us, hl with | [_, _, _], _ => rfl⟩
  have Dlowest : Df K mg "lowest" (top 16) ["top", "bottom"] := ⟨f3, _, fun_mk (st := (top 16)) l3 c3 k3, PySem.W.mg_of X G a3, (fun_mk (st := (top 16)) l3 c3 k3).binds (ps := ["top", "bottom"]) fun _ _ _ _ _ _ us hl => match us, hl with | [_, _], _ => rfl⟩
  have Dcheck_row : Df K mg "check_row" (top 24) ["row"] := ⟨f4, _, fun_mk (st := (top 24)) l4 c4 k4, PySem.W.mg_of X G a4, (fun_mk (st := (top 24)) l4 c4 k4).binds (ps := ["row"]) fun _ _ _ _ _ _ us hl => match us, hl with | [_], _ => rfl⟩
  have D_check_counts : Df K mg "_check_counts" (top 25) ["counts"] := ⟨f5, _, fun_mk (st := (top 25)) l5 c5 k5, PySem.W.mg_of X G a5, (fun_mk (st := (top 25)) l5 c5 k5).binds (ps := ["counts"]) fun _ _ _ _ _ _ us hl => match us, hl with | [_], _ => rfl⟩
  have Dcomes : Df K mg "comes" (top 28) ["row", "slips"] := ⟨f6, _, fun_mk (st := (top 28)) l6 c6 k6, PySem.W.mg_of X G a6, (fun_mk (st := (top 28)) l6 c6 k6).binds (ps := ["row", "slips"]) fun _ _ _ _ _ _ us hl => match us, hl with | [_, _], _ => rfl⟩
  have Dalways : Df K mg "always" (top 29) ["row"] := ⟨f7, _, fun_mk (st := (top 29)) l7 c7 k7, PySem.W.mg_of X G a7, (fun_mk (st := (top 29)) l7 c7 k7).binds (ps := ["row"]) fun _ _ _ _ _ _ us hl => match us, hl with | [_], _ => rfl⟩
  have Dgreatest : Df K mg "greatest" (top 30) ["row"] := ⟨f8, _, fun_mk (st := (top 30)) l8 c8 k8, PySem.W.mg_of X G a8, (fun_mk (st := (top 30)) l8 c8 k8).binds (ps := ["row"]) fun _ _ _ _ _ _ us hl => match us, hl with | [_], _ => rfl⟩
  have Ddoes_come : Df K mg "does_come" (top 31) ["row", "slips"] := ⟨f9, _, fun_mk (st := (top 31)) l9 c9 k9, PySem.W.mg_of X G a9, (fun_mk (st := (top 31)) l9 c9 k9).binds (ps := ["row", "slips"]) fun _ _ _ _ _ _ us hl => match us, hl with | [_, _], _ => rfl⟩
  have Dyes_sums : Df K mg "yes_sums" (top 32) ["counts"] := ⟨f10, _, fun_mk (st := (top 32)) l10 c10 k10, PySem.W.mg_of X G a10, (fun_mk (st := (top 32)) l10 c10 k10).binds (ps := ["counts"]) fun _ _ _ _ _ _ us hl => match us, hl with | [_], _ => rfl⟩
  have Drow_sums : Df K mg "row_sums" (top 33) ["counts", "slips"] := ⟨f11, _, fun_mk (st := (top 33)) l11 c11 k11, PySem.W.mg_of X G a11, (fun_mk (st := (top 33)) l11 c11 k11).binds (ps := ["counts", "slips"]) fun _ _ _ _ _ _ us hl => match us, hl with | [_, _], _ => rfl⟩
  have Dtimes : Df K mg "times" (top 34) ["sums", "points"] := ⟨f12, _, fun_mk (st := (top 34)) l12 c12 k12, PySem.W.mg_of X G a12, (fun_mk (st := (top 34)) l12 c12 k12).binds (ps := ["sums", "points"]) fun _ _ _ _ _ _ us hl => match us, hl with | [_, _], _ => rfl⟩
  have Dmean_on : Df K mg "mean_on" (top 35) ["sums", "points", "slips"] := ⟨f13, _, fun_mk (st := (top 35)) l13 c13 k13, PySem.W.mg_of X G a13, (fun_mk (st := (top 35)) l13 c13 k13).binds (ps := ["sums", "points", "slips"]) fun _ _ _ _ _ _ us hl => match us, hl with | [_, _, _], _ => rfl⟩
  have Dlowest_points : Df K mg "lowest_points" (top 36) ["sums", "many", "slips"] := ⟨f14, _, fun_mk (st := (top 36)) l14 c14 k14, PySem.W.mg_of X G a14, (fun_mk (st := (top 36)) l14 c14 k14).binds (ps := ["sums", "many", "slips"]) fun _ _ _ _ _ _ us hl => match us, hl with | [_, _, _], _ => rfl⟩
  have Dhighest_points : Df K mg "highest_points" (top 37) ["sums", "many", "slips"] := ⟨f15, _, fun_mk (st := (top 37)) l15 c15 k15, PySem.W.mg_of X G a15, (fun_mk (st := (top 37)) l15 c15 k15).binds (ps := ["sums", "many", "slips"]) fun _ _ _ _ _ _ us hl => match us, hl with | [_, _, _], _ => rfl⟩
  have Dbroken_points : Df K mg "broken_points" (top 38) ["sums", "slips"] := ⟨f16, _, fun_mk (st := (top 38)) l16 c16 k16, PySem.W.mg_of X G a16, (fun_mk (st := (top 38)) l16 c16 k16).binds (ps := ["sums", "slips"]) fun _ _ _ _ _ _ us hl => match us, hl with | [_, _], _ => rfl⟩
  have Dchoices : Df K mg "choices" (top 39) ["most", "many"] := ⟨f17, _, fun_mk (st := (top 39)) l17 c17 k17, PySem.W.mg_of X G a17, (fun_mk (st := (top 39)) l17 c17 k17).binds (ps := ["most", "many"]) fun _ _ _ _ _ _ us hl => match us, hl with | [_, _], _ => rfl⟩
  have D_check : Df K mg "_check" (top 40) ["row", "slips"] := ⟨f18, _, fun_mk (st := (top 40)) l18 c18 k18, PySem.W.mg_of X G a18, (fun_mk (st := (top 40)) l18 c18 k18).binds (ps := ["row", "slips"]) fun _ _ _ _ _ _ us hl => match us, hl with | [_, _], _ => rfl⟩
  have D_table : Df K mg "_table" (top 41) ["chances", "size"] := ⟨f19, _, fun_mk (st := (top 41)) l19 c19 k19, PySem.W.mg_of X G a19, (fun_mk (st := (top 41)) l19 c19 k19).binds (ps := ["chances", "size"]) fun _ _ _ _ _ _ us hl => match us, hl with | [_, _], _ => rfl⟩
  have D_never_below : Df K mg "_never_below" (top 42) ["table"] := ⟨f20, _, fun_mk (st := (top 42)) l20 c20 k20, PySem.W.mg_of X G a20, (fun_mk (st := (top 42)) l20 c20 k20).binds (ps := ["table"]) fun _ _ _ _ _ _ us hl => match us, hl with | [_], _ => rfl⟩
  have D_minor : Df K mg "_minor" (top 43) ["table"] := ⟨f21, _, fun_mk (st := (top 43)) l21 c21 k21, PySem.W.mg_of X G a21, (fun_mk (st := (top 43)) l21 c21 k21).binds (ps := ["table"]) fun _ _ _ _ _ _ us hl => match us, hl with | [_], _ => rfl⟩
  have D_pairs : Df K mg "_pairs" (top 44) ["sums", "many", "least", "most", "taken"] := ⟨f22, _, fun_mk (st := (top 44)) l22 c22 k22, PySem.W.mg_of X G a22, (fun_mk (st := (top 44)) l22 c22 k22).binds (ps := ["sums", "many", "least", "most", "taken"]) fun _ _ _ _ _ _ us hl => match us, hl with | [_, _, _, _, _], _ => rfl⟩
  have D_place : Df K mg "_place" (top 45) ["at", "taken"] := ⟨f23, _, fun_mk (st := (top 45)) l23 c23 k23, PySem.W.mg_of X G a23, (fun_mk (st := (top 45)) l23 c23 k23).binds (ps := ["at", "taken"]) fun _ _ _ _ _ _ us hl => match us, hl with | [_, _], _ => rfl⟩
  have D_side : Df K mg "_side" (top 46) ["rest", "pair", "others"] := ⟨f24, _, fun_mk (st := (top 46)) l24 c24 k24, PySem.W.mg_of X G a24, (fun_mk (st := (top 46)) l24 c24 k24).binds (ps := ["rest", "pair", "others"]) fun _ _ _ _ _ _ us hl => match us, hl with | [_, _, _], _ => rfl⟩
  have D_about : Df K mg "_about" (top 47) ["sums", "many", "taken"] := ⟨f25, _, fun_mk (st := (top 47)) l25 c25 k25, PySem.W.mg_of X G a25, (fun_mk (st := (top 47)) l25 c25 k25).binds (ps := ["sums", "many", "taken"]) fun _ _ _ _ _ _ us hl => match us, hl with | [_, _, _], _ => rfl⟩
  have D_lower_root : Df K mg "_lower_root" (top 48) ["sums"] := ⟨f26, _, fun_mk (st := (top 48)) l26 c26 k26, PySem.W.mg_of X G a26, (fun_mk (st := (top 48)) l26 c26 k26).binds (ps := ["sums"]) fun _ _ _ _ _ _ us hl => match us, hl with | [_], _ => rfl⟩
  have Dmost_share : Df K mg "most_share" (top 50) ["row", "slips", "yes"] := ⟨f27, _, fun_mk (st := (top 50)) l27 c27 k27, PySem.W.mg_of X G a27, (fun_mk (st := (top 50)) l27 c27 k27).binds (ps := ["row", "slips", "yes"]) fun _ _ _ _ _ _ us hl => match us, hl with | [_, _, _], _ => rfl⟩
  have Dshare_and_points : Df K mg "share_and_points" (top 51) ["row", "slips", "yes"] := ⟨f28, _, fun_mk (st := (top 51)) l28 c28 k28, PySem.W.mg_of X G a28, (fun_mk (st := (top 51)) l28 c28 k28).binds (ps := ["row", "slips", "yes"]) fun _ _ _ _ _ _ us hl => match us, hl with | [_, _, _], _ => rfl⟩
  have D_sums_of_lots : Df K mg "_sums_of_lots" (top 52) ["row", "slips"] := ⟨f29, _, fun_mk (st := (top 52)) l29 c29 k29, PySem.W.mg_of X G a29, (fun_mk (st := (top 52)) l29 c29 k29).binds (ps := ["row", "slips"]) fun _ _ _ _ _ _ us hl => match us, hl with | [_, _], _ => rfl⟩
  have D_part_and_points : Df K mg "_part_and_points" (top 53) ["sums", "more", "slips"] := ⟨f30, _, fun_mk (st := (top 53)) l30 c30 k30, PySem.W.mg_of X G a30, (fun_mk (st := (top 53)) l30 c30 k30).binds (ps := ["sums", "more", "slips"]) fun _ _ _ _ _ _ us hl => match us, hl with | [_, _, _], _ => rfl⟩
  have D_law_vat : Df K mg "_law_vat" (top 55) ["script", "at"] := ⟨f31, _, fun_mk (st := (top 55)) l31 c31 k31, PySem.W.mg_of X G a31, (fun_mk (st := (top 55)) l31 c31 k31).binds (ps := ["script", "at"]) fun _ _ _ _ _ _ us hl => match us, hl with | [_, _], _ => rfl⟩
  have D_law_dip : Df K mg "_law_dip" (top 56) ["vat", "many"] := ⟨f32, _, fun_mk (st := (top 56)) l32 c32 k32, PySem.W.mg_of X G a32, (fun_mk (st := (top 56)) l32 c32 k32).binds (ps := ["vat", "many"]) fun _ _ _ _ _ _ us hl => match us, hl with | [_, _], _ => rfl⟩
  have D_law_due : Df K mg "_law_due" (top 57) ["some", "top"] := ⟨f33, _, fun_mk (st := (top 57)) l33 c33 k33, PySem.W.mg_of X G a33, (fun_mk (st := (top 57)) l33 c33 k33).binds (ps := ["some", "top"]) fun _ _ _ _ _ _ us hl => match us, hl with | [_, _], _ => rfl⟩
  have D_law_right : Df K mg "_law_right" (top 58) ["vat"] := ⟨f34, _, fun_mk (st := (top 58)) l34 c34 k34, PySem.W.mg_of X G a34, (fun_mk (st := (top 58)) l34 c34 k34).binds (ps := ["vat"]) fun _ _ _ _ _ _ us hl => match us, hl with | [_], _ => rfl⟩
  have D_law_quiet : Df K mg "_law_quiet" (top 59) ["vat"] := ⟨f35, _, fun_mk (st := (top 59)) l35 c35 k35, PySem.W.mg_of X G a35, (fun_mk (st := (top 59)) l35 c35 k35).binds (ps := ["vat"]) fun _ _ _ _ _ _ us hl => match us, hl with | [_], _ => rfl⟩
  have F__init__ := fun_mk (st := (inClass (top 23) 0)) l37 c37 k37
  have b__init__ := F__init__.binds (ps := ["self", "counts"]) fun _ _ _ _ _ _ us hl => match us, hl with | [_, _], _ => rfl
  have F__eq__ := fun_mk (st := (inClass (top 23) 7)) l38 c38 k38
  have b__eq__ := F__eq__.binds (ps := ["self", "other"]) fun _ _ _ _ _ _ us hl => match us, hl with | [_, _], _ => rfl
  have Fcounts := fun_mk (st := (inClass (top 23) 2)) l39 c39 k39
  have bcounts := Fcounts.binds (ps := ["self"]) fun _ _ _ _ _ _ us hl => match us, hl with | [_], _ => rfl
  have Pcounts : PropOf K C "counts" p39 f39 := ⟨a39, g39, t39, _, r39r⟩
  have Fdraws := fun_mk (st := (inClass (top 23) 4)) l40 c40 k40
  have bdraws := Fdraws.binds (ps := ["self"]) fun _ _ _ _ _ _ us hl => match us, hl with | [_], _ => rfl
  have Pdraws : PropOf K C "draws" p40 f40 := ⟨a40, g40, t40, _, r40r⟩
  have c_gcd := PySem.W.mg_of X G c_gcd
  have c_comb := PySem.W.mg_of X G c_comb
  have c_factorial := PySem.W.mg_of X G c_factorial
  have c_perm := PySem.W.mg_of X G c_perm
  have c_isqrt := PySem.W.mg_of X G c_isqrt
  have c_MOST_DRAWS := PySem.W.mg_of X G c_MOST_DRAWS
  have c_MOST_SLIPS := PySem.W.mg_of X G c_MOST_SLIPS
  have z_sorted := PySem.W.mg_none_of X G z_sorted
  have B : Bi mg := ⟨PySem.W.mg_none_of X G z_len, PySem.W.mg_none_of X G z_abs, PySem.W.mg_none_of X G z_max, PySem.W.mg_none_of X G z_min, PySem.W.mg_none_of X G z_sum, PySem.W.mg_none_of X G z_range, PySem.W.mg_none_of X G z_tuple, PySem.W.mg_none_of X G z_int, PySem.W.mg_none_of X G z_divmod, PySem.W.mg_none_of X G z_all, PySem.W.mg_none_of X G z_repr, PySem.W.mg_none_of X G z_isinstance, PySem.W.mg_none_of X G z_enumerate, PySem.W.mg_none_of X G z_bool, PySem.W.mg_none_of X G z_zip, PySem.W.mg_none_of X G z_str, PySem.W.mg_none_of X G z_list⟩
  have RC : RowC K mg C := ⟨⟨pg, hd, po, sa⟩, nC, PySem.W.mg_of X G aC, xa, xn, xt, xm⟩
  have NE := (⟨f38, N, _, nm, qn, bs, hdct, sn, sub, ab, col, dd, q0, q1, q2, q3, q5, newId, a38, lC, okN, n1, n2, l38, ocf⟩ : ∃ (f N : Addr) (of : Obj) (nm q : Str) (bs : List Value) (hdct : Bool) (sn : List Str) (sub : List Value) (ab : Bool) (col : Option Bool) (dd : Option Addr) (k0 k1 k2 k3 k5 : Option Value) (newId : String), PySem.W.findIn K (.ref C) "__eq__" = some (some (.ref f)) ∧ K.lookup C = some (excClassObj nm q C N bs [.type "object"] hdct sn sub ab col dd k0 k1 k2 k3 k5 newId) ∧ PySem.W.nsOkIn K N = true ∧ PySem.W.nsIn K N "__eq__" = some (some (.ref f)) ∧ PySem.W.nsIn K N "__ne__" = some none ∧ K.lookup f = some of ∧ of.cls = .type "function")
  have MK : Mk K C f37 := ⟨mk, a37, i37, kc⟩
  have EQ1 := a38
  have EQ2 := i38
  refine ⟨PySem.W.fnOf "law" "law" (defArgs (top 60)) (defBody (top 60)) (defScope (top 60)) .none kV36 dc36 pm36 an36 cd36 ct36, fun s u => BindsTo.of_eq (by first | rfl | with_unfolding_all rfl), fun base _ _ => ?_⟩
  have h_law_vat := has_vat (P := l.prog) (w := w) (base := base) B D_law_vat
  have h_law_dip := has_dip (P := l.prog) (w := w) (base := base) B D_law_dip
  have his_whole := has_whole (P := l.prog) (w := w) (base := base) B Dis_whole
  have h_check_counts := has_check B c_MOST_DRAWS his_whole D_check_counts
  have RT : RowT l.prog w K mg base C := ⟨RC, ⟨_, _, MK, ok_init F__init__ B RC c_gcd h_check_counts, b__init__⟩, ⟨_, _, _, Pcounts, ok_get Fcounts RC, bcounts⟩, ⟨_, _, _, Pdraws, ok_draws Fdraws B RC, bdraws⟩, ⟨_, _, EQ1, EQ2, ok_eq F__eq__ B RC, b__eq__⟩, NE⟩
  have hcheck_number := has_num his_whole Dcheck_number
  have hcheck_row := has_check_row (P := l.prog) (w := w) (base := base) B RC Dcheck_row
  have hyes_sums := has_yes (P := l.prog) (w := w) (base := base) B c_comb c_factorial Dyes_sums
  have h_table := has_table (P := l.prog) (w := w) (base := base) B D_table
  have m0 := has_min0 (P := l.prog) (w := w) (base := base) D_minor
  have m1 := has_minS B m0 D_minor
  have m2 := has_minS B m1 D_minor
  have m3 := has_minS B m2 D_minor
  have m4 := has_minS B m3 D_minor
  have hchoices := has_choices (P := l.prog) (w := w) (base := base) B Dchoices
  have h_never_below := has_never B m4 hchoices D_never_below
  have halways := Has.of Dalways fun f fd F => ok_always B RT hcheck_row hyes_sums h_table h_never_below F
  have htimes := has_times (P := l.prog) (w := w) (base := base) B Dtimes
  have h_place := has_place (P := l.prog) (w := w) (base := base) B D_place
  have h_side := has_side (P := l.prog) (w := w) (base := base) B D_side
  have h_lower_root := has_lower (P := l.prog) (w := w) (base := base) D_lower_root
  have h_about := has_about B h_lower_root D_about
  have h_pairs := has_pairs B z_sorted h_about h_place htimes h_side D_pairs
  have hlowest_points := has_low B htimes h_pairs Dlowest_points
  have hhighest_points := has_hig B htimes h_pairs Dhighest_points
  have hmean_on := has_mean B htimes Dmean_on
  have hbroken_points := has_broken B hlowest_points hhighest_points hmean_on Dbroken_points
  have hrow_sums := has_sums B c_perm hyes_sums Drow_sums
  have hdoes_come := has_does B RT hrow_sums hbroken_points Ddoes_come
  have h_check := has_chk B c_MOST_SLIPS hcheck_row hcheck_number D_check
  have hcomes := has_comes B h_check hdoes_come Dcomes
  have hgreatest := has_great B RT c_isqrt halways hdoes_come Dgreatest
  have h_law_due := has_dueq (P := l.prog) (w := w) (base := base) B D_law_due
  have hlowest := has_lowest (P := l.prog) (w := w) (base := base) c_gcd Dlowest
  have hlowB := has_lowB B htimes h_pairs Dlowest_points
  have hhigB := has_higB B htimes h_pairs Dhighest_points
  have hbroken2 := has_broken2 B hlowB hhigB hmean_on Dbroken_points
  have h_sums_of_lots := has_sums_lots B RT hrow_sums hbroken2 D_sums_of_lots
  have h_part_and_points := has_part B hbroken2 hmean_on hlowest D_part_and_points
  have hshare_and_points := has_share B RT c_perm c_MOST_SLIPS hcheck_row hcheck_number h_sums_of_lots h_part_and_points Dshare_and_points
  have hmost_share := has_most hshare_and_points Dmost_share
  have h_law_right := has_right B RT h_law_dip h_law_due halways hgreatest hcomes hmost_share D_law_right
  have h_law_quiet := has_quiet h_law_right D_law_quiet
  exact ok_law B h_law_vat h_law_quiet (fun_mk l36 c36 k36)
end Dm
open PySem PySem.W PyProof.Rows in
set_option maxRecDepth 100000 in
set_option maxHeartbeats 0 in
theorem PySem.Challenge.cw_drawnmore_k76_whole_two_draws_holds : PySem.Challenge.rw_drawnmore_k76_whole_two_draws.Holds := by
  w_on; o_law; k_head; (case hw => w_witness2)
  k_fill
  refine Dm.walkG (l := PySem.Challenge.rw_drawnmore_k76_whole_two_draws) (n := 63) (k := 12) (x := "script") (sp := Dm.spLaw) rfl (by decide) rfl ⟨rfl, by decide, by decide⟩ (fun w h Y => PySem.W.kIn_of Y) ?F (fun K H a ns hl hS => ⟨a, ns, rfl, hS, hl, fun _ => rfl⟩)
  case F =>
    intro w mg fa h KX G hmg
    refine' Dm.all_mk KX G hmg ?a1 ?l1 ?c1 ?k1 ?a2 ?l2 ?c2 ?k2 ?a3 ?l3 ?c3 ?k3 ?a4 ?l4 ?c4 ?k4 ?a5 ?l5 ?c5 ?k5 ?a6 ?l6 ?c6 ?k6 ?a7 ?l7 ?c7 ?k7 ?a8 ?l8 ?c8 ?k8 ?a9 ?l9 ?c9 ?k9 ?a10 ?l10 ?c10 ?k10 ?a11 ?l11 ?c11 ?k11 ?a12 ?l12 ?c12 ?k12 ?a13 ?l13 ?c13 ?k13 ?a14 ?l14 ?c14 ?k14 ?a15 ?l15 ?c15 ?k15 ?a16 ?l16 ?c16 ?k16 ?a17 ?l17 ?c17 ?k17 ?a18 ?l18 ?c18 ?k18 ?a19 ?l19 ?c19 ?k19 ?a20 ?l20 ?c20 ?k20 ?a21 ?l21 ?c21 ?k21 ?a22 ?l22 ?c22 ?k22 ?a23 ?l23 ?c23 ?k23 ?a24 ?l24 ?c24 ?k24 ?a25 ?l25 ?c25 ?k25 ?a26 ?l26 ?c26 ?k26 ?a27 ?l27 ?c27 ?k27 ?a28 ?l28 ?c28 ?k28 ?a29 ?l29 ?c29 ?k29 ?a30 ?l30 ?c30 ?k30 ?a31 ?l31 ?c31 ?k31 ?a32 ?l32 ?c32 ?k32 ?a33 ?l33 ?c33 ?k33 ?a34 ?l34 ?c34 ?k34 ?a35 ?l35 ?c35 ?k35 ?a36 ?l36 ?c36 ?k36 ?aC ?pg ?hd ?po ?sa ?mk ?kc ?nC ?xa ?xn ?xt ?xm ?a37 ?i37 ?l37 ?c37 ?k37 ?a38 ?i38 ?l38 ?c38 ?k38 ?a39 ?g39 ?t39 ?r39r ?l39 ?c39 ?k39 ?a40 ?g40 ?t40 ?r40r ?l40 ?c40 ?k40 ?lC ?okN ?n1 ?n2 ?ocf ?c_gcd ?c_comb ?c_factorial ?c_perm ?c_isqrt ?c_MOST_DRAWS ?c_MOST_SLIPS ?z_len ?z_abs ?z_max ?z_min ?z_sum ?z_range ?z_tuple ?z_int ?z_divmod ?z_all ?z_repr ?z_isinstance ?z_enumerate ?z_bool ?z_zip ?z_str ?z_list ?z_sorted
    (case a1 => k_is)
    (case l1 => k_is)
    (case c1 => k_is)
    (case k1 => k_is)
    (case a2 => k_is)
    (case l2 => k_is)
    (case c2 => k_is)
    (case k2 => k_is)
    (case a3 => k_is)
    (case l3 => k_is)
    (case c3 => k_is)
    (case k3 => k_is)
    (case a4 => k_is)
    (case l4 => k_is)
    (case c4 => k_is)
    (case k4 => k_is)
    (case a5 => k_is)
    (case l5 => k_is)
    (case c5 => k_is)
    (case k5 => k_is)
    (case a6 => k_is)
    (case l6 => k_is)
    (case c6 => k_is)
    (case k6 => k_is)
    (case a7 => k_is)
    (case l7 => k_is)
    (case c7 => k_is)
    (case k7 => k_is)
    (case a8 => k_is)
    (case l8 => k_is)
    (case c8 => k_is)
    (case k8 => k_is)
    (case a9 => k_is)
    (case l9 => k_is)
    (case c9 => k_is)
    (case k9 => k_is)
    (case a10 => k_is)
    (case l10 => k_is)
    (case c10 => k_is)
    (case k10 => k_is)
    (case a11 => k_is)
    (case l11 => k_is)
    (case c11 => k_is)
    (case k11 => k_is)
    (case a12 => k_is)
    (case l12 => k_is)
    (case c12 => k_is)
    (case k12 => k_is)
    (case a13 => k_is)
    (case l13 => k_is)
    (case c13 => k_is)
    (case k13 => k_is)
    (case a14 => k_is)
    (case l14 => k_is)
    (case c14 => k_is)
    (case k14 => k_is)
    (case a15 => k_is)
    (case l15 => k_is)
    (case c15 => k_is)
    (case k15 => k_is)
    (case a16 => k_is)
    (case l16 => k_is)
    (case c16 => k_is)
    (case k16 => k_is)
    (case a17 => k_is)
    (case l17 => k_is)
    (case c17 => k_is)
    (case k17 => k_is)
    (case a18 => k_is)
    (case l18 => k_is)
    (case c18 => k_is)
    (case k18 => k_is)
    (case a19 => k_is)
    (case l19 => k_is)
    (case c19 => k_is)
    (case k19 => k_is)
    (case a20 => k_is)
    (case l20 => k_is)
    (case c20 => k_is)
    (case k20 => k_is)
    (case a21 => k_is)
    (case l21 => k_is)
    (case c21 => k_is)
    (case k21 => k_is)
    (case a22 => k_is)
    (case l22 => k_is)
    (case c22 => k_is)
    (case k22 => k_is)
    (case a23 => k_is)
    (case l23 => k_is)
    (case c23 => k_is)
    (case k23 => k_is)
    (case a24 => k_is)
    (case l24 => k_is)
    (case c24 => k_is)
    (case k24 => k_is)
    (case a25 => k_is)
    (case l25 => k_is)
    (case c25 => k_is)
    (case k25 => k_is)
    (case a26 => k_is)
    (case l26 => k_is)
    (case c26 => k_is)
    (case k26 => k_is)
    (case a27 => k_is)
    (case l27 => k_is)
    (case c27 => k_is)
    (case k27 => k_is)
    (case a28 => k_is)
    (case l28 => k_is)
    (case c28 => k_is)
    (case k28 => k_is)
    (case a29 => k_is)
    (case l29 => k_is)
    (case c29 => k_is)
    (case k29 => k_is)
    (case a30 => k_is)
    (case l30 => k_is)
    (case c30 => k_is)
    (case k30 => k_is)
    (case a31 => k_is)
    (case l31 => k_is)
    (case c31 => k_is)
    (case k31 => k_is)
    (case a32 => k_is)
    (case l32 => k_is)
    (case c32 => k_is)
    (case k32 => k_is)
    (case a33 => k_is)
    (case l33 => k_is)
    (case c33 => k_is)
    (case k33 => k_is)
    (case a34 => k_is)
    (case l34 => k_is)
    (case c34 => k_is)
    (case k34 => k_is)
    (case a35 => k_is)
    (case l35 => k_is)
    (case c35 => k_is)
    (case k35 => k_is)
    (case a36 => k_is)
    (case l36 => k_is)
    (case c36 => k_is)
    (case k36 => k_is)
    (case aC => k_is)
    (case pg => k_is)
    (case hd => k_is)
    (case po => k_is)
    (case sa => k_is)
    (case mk => k_is)
    (case kc => k_is)
    (case nC => k_is)
    (case xa => k_is)
    (case xn => k_is)
    (case xt => k_is)
    (case xm => k_is)
    (case a37 => k_is)
    (case i37 => k_is)
    (case l37 => k_is)
    (case c37 => k_is)
    (case k37 => k_is)
    (case a38 => k_is)
    (case i38 => k_is)
    (case l38 => k_is)
    (case c38 => k_is)
    (case k38 => k_is)
    (case a39 => k_is)
    (case g39 => k_is)
    (case t39 => k_is)
    (case r39r => k_is)
    (case l39 => k_is)
    (case c39 => k_is)
    (case k39 => k_is)
    (case a40 => k_is)
    (case g40 => k_is)
    (case t40 => k_is)
    (case r40r => k_is)
    (case l40 => k_is)
    (case c40 => k_is)
    (case k40 => k_is)
    (case lC => k_is)
    (case okN => kernel_rfl)
    (case n1 => k_is)
    (case n2 => k_is)
    (case ocf => rfl)
    (case c_gcd => k_is)
    (case c_comb => k_is)
    (case c_factorial => k_is)
    (case c_perm => k_is)
    (case c_isqrt => k_is)
    (case c_MOST_DRAWS => k_is)
    (case c_MOST_SLIPS => k_is)
    (case z_len => k_is)
    (case z_abs => k_is)
    (case z_max => k_is)
    (case z_min => k_is)
    (case z_sum => k_is)
    (case z_range => k_is)
    (case z_tuple => k_is)
    (case z_int => k_is)
    (case z_divmod => k_is)
    (case z_all => k_is)
    (case z_repr => k_is)
    (case z_isinstance => k_is)
    (case z_enumerate => k_is)
    (case z_bool => k_is)
    (case z_zip => k_is)
    (case z_str => k_is)
    (case z_list => k_is)
    (case z_sorted => k_is)
