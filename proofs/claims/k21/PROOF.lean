import PyProof.Rows.All
import Wide.All
import OpenK.AllK
import Wide.FinOn
import PySem.Challenge.RW_drawnmore_k21_whole_comes_by_all_points
import HandS.ForMost
import HandS.ForExc
import HandS.Property
import HandS.IsInst
import HandS.Gcd
import HandS.Wide
import HandS.WideBits
import PyProof.ReprRoads
import PyProof.InstNe
import KE.GoesEnum
import KE.KTupSum
import HandS.Walk
import KE.GoesMore
import KE.GoesZip
import KE.KMathGC
import HandS.Zip
import HandS.Style
import HandS.TupAny
import HandS.Conv
import HandS.Star
import HandS.TupLe
import Flt.RightSqrt
import HandS.SortInts
import PyProof.CallFns
set_option Elab.async false
set_option linter.all false
set_option maxRecDepth 100000
set_option maxHeartbeats 8000000
namespace Dm
open PySem PySem.Spec PyProof.Rows L2

/-! ## promises that hold where no guard is under way -/
structure FnG (P : Program) (w : World) (K : PySem.W.Frag) (mg : Str → Option Value) (base : Heap) (k : Nat)
    (f : Addr) (fd : FuncData) (ps : List Str) (sp : Sp) : Prop where
  len : ∀ vs H Q E, sp vs H Q E → vs.length = ps.length
  run : ∀ (A : Around) (outer : List Env) (s : Shared) (H : Hp) (args : Args) (us : List Value) (vs : List V) (Q : VK) (E : XK),
    A.guards = some [] → Room k A → Env0 P w K mg base A outer s H → BindsTo s fd args (ps.zip us) → Vals vs us → sp vs H Q E →
    codeAny (model P w) A (.call (.ref f) args) (CR CX0 outer P w H s Q E) s

section
variable {P : Program} {w : World} {K : PySem.W.Frag} {mg : Str → Option Value} {base : Heap}

/-- a def by its body, its caller's stack free of guards -/
theorem okG {x qual : Str} {st : Stmt} {f : Addr} {fd : FuncData} {N ps : List Str} {k : Nat} {sp : Sp}
    (F : Fun K x qual st f fd) (S : FnScope N ps (defScope st))
    (hlen : ∀ vs H Q E, sp vs H Q E → vs.length = ps.length)
    (hb : ∀ (cdv : Value) (A : Around) (outer : List Env) (s : Shared) (H : Hp) (vs : List V) (Q : VK) (E : XK),
      A.guards = some [] → Room k (A.deeper (envOfC qual (defScope st) s.heap.objs.size f cdv)) → sp vs H Q E →
      ∃ t, PSs (cxOf CX0 P w K mg base N qual (defScope st) f cdv A outer s H E).nox (defBody st) t ∧
        t { nx := fun _ H' => Q .non H', rt := Q } (start N vs) H) :
    FnG P w K mg base (k + 1) f fd ps sp := by
  obtain ⟨oc, od, kV, doc, pm, an, cdv, ct, osl, rfl, look, hcode⟩ := F.ex
  constructor
  · exact hlen
  intro A outer s H args us vs Q E hgd hrm env0 hbinds rel hsp
  have hl := hlen _ _ _ _ hsp
  have inK : K.In s.heap := env0.mod.kin.keeps fun a o h => (env0.bs a o h).1
  have nolim : s.heap.NoLimit := env0.mod.nolimit.keeps fun a o h => (env0.bs a o h).1
  have kinds : ∀ y ∈ ps.zip us, (defScope st).names.lookup y.1 = some .local ∨
      ((defScope st).names.lookup y.1 = some .cell ∧ ((cellsFrom (s.heap.objs.size + 1) (defScope st).names []).lookup y.1).isSome = true) := by
    intro ⟨n, v⟩ hy
    cases S.par n (List.of_mem_zip hy).1 with
    | inl q => exact .inl q
    | inr q => exact .inr ⟨q, PySem.W.cellsFrom_some _ _ _ (.inl q)⟩
  apply codeAny_call_function hrm.depth (inK _ _ look) rfl S.co S.gen rfl
    (PySem.W.codeRec_of inK hcode) (hbinds _ _ _ _ ?_)
  refine wpAny_newFunctionEnv_cells S.kind kinds fun env henv s1 ic => ?_
  subst henv
  refine ⟨nolim.keeps ic.toInCall.keep, codeAny_func ?_⟩
  obtain ⟨t, ht, hq⟩ := hb cdv A outer s H vs Q E hgd (hrm.deeper _) hsp
  have I := inv_start (CX := CX0) (E := E) S hrm.hd env0 hl rel ic
  refine wpAny_mono (ht.nox.run [] s1 (start N vs) H _ I hq) (fun fl s' hs => ?_) fun _ _ hs => hs
  have done : ∀ {σ' : L2.St} {H' : Hp} {v : V} {u : Value},
      Inv (cxOf CX0 P w K mg base N qual (defScope st) f cdv A outer s H E) [] σ' H' s' → RelV v u → Q v H' →
      CE outer P w H s Q u s' := fun J rv q => ⟨_, _, J.os, J.bare, J.base, J.hok, rv, q⟩
  cases fl with
  | ret u =>
    obtain ⟨v, σ', H', J, rv, q⟩ := hs
    exact done J rv q
  | next =>
    obtain ⟨σ', H', J, q⟩ := hs
    exact done (v := V.non) (u := Value.none) J rfl q
  | brk =>
    obtain ⟨_, _, _, q⟩ := hs
    exact q.elim
  | cont =>
    obtain ⟨_, _, _, q⟩ := hs
    exact q.elim

theorem FnG.of {k : Nat} {f : Addr} {fd : FuncData} {ps : List Str} {sp : Sp} (F : FnOk P w K mg base CX0 k f fd ps sp) :
    FnG P w K mg base k f fd ps sp := ⟨F.len, fun A o s H a us vs Q E _ => F.run A o s H a us vs Q E⟩

/-- the global x is a def that keeps sp -/
def Has (P : Program) (w : World) (K : PySem.W.Frag) (mg : Str → Option Value) (base : Heap) (x : Str) (k : Nat) (ps : List Str) (sp : Sp) : Prop :=
  ∃ f fd, FnOk P w K mg base CX0 k f fd ps sp ∧ mg x = some (.ref f) ∧ PySem.W.keepIn K (.ref f) = true ∧ Binds K fd ps []
def HasG (P : Program) (w : World) (K : PySem.W.Frag) (mg : Str → Option Value) (base : Heap) (x : Str) (k : Nat) (ps : List Str) (sp : Sp) : Prop :=
  ∃ f fd, FnG P w K mg base k f fd ps sp ∧ mg x = some (.ref f) ∧ PySem.W.keepIn K (.ref f) = true ∧ Binds K fd ps []
/-- the def st of the text stands under its name -/
def Df (K : PySem.W.Frag) (mg : Str → Option Value) (x : Str) (st : Stmt) (ps : List Str) : Prop :=
  ∃ f fd, Fun K x x st f fd ∧ mg x = some (.ref f) ∧ Binds K fd ps []
end

section
variable {X : Cx}
def tF (sp : Sp) (t : TA) : TE := fun σ H Q => t σ H fun vs H1 => sp vs H1 Q E0
theorem pe_has {x : Str} {k : Nat} {ps : List Str} {sp : Sp} {p pos : Pos} {e : Expr} {es : List Expr} {t : TA}
    (h : Has X.prog X.w X.K X.mg X.base x k ps sp) (hr : Room k X.A) (ha : PA X (e :: es) t) (hg : Gl X x := by rfl)
    (hdb : (x == ("__debug__" : Str)) = false := by decide)
    (he : starEach (e :: es) X.env = (false, eval e X.env) :: starEach es X.env := by rfl)
    (hpl : (backTo pos (starEach es X.env)).any (·.1) = false := by rfl) :
    PE X (.Call (.Name x p) (e :: es) [] pos) (tF sp t) := by
  obtain ⟨f, fd, F, hm, hk, hb⟩ := h
  have q := pe_call (X := X) (p := p) (pos := pos) F hr hg hm hk hb .nil (pass0 (X := X)) ha hdb he hpl
  refine ⟨fun pins s σ H Q I hq => q.run pins s σ H Q I ?_⟩
  show t σ H fun vs H1 => sp (vs ++ []) H1 Q E0
  simp only [List.append_nil]
  exact hq
theorem pe_hasG {x : Str} {k : Nat} {ps : List Str} {sp : Sp} {p pos : Pos} {e : Expr} {es : List Expr} {t : TA}
    (h : HasG X.prog X.w X.K X.mg X.base x k ps sp) (hgd : X.A.guards = some []) (hr : Room k X.A) (ha : PA X (e :: es) t) (hg : Gl X x := by rfl)
    (hdb : (x == ("__debug__" : Str)) = false := by decide)
    (he : starEach (e :: es) X.env = (false, eval e X.env) :: starEach es X.env := by rfl)
    (hpl : (backTo pos (starEach es X.env)).any (·.1) = false := by rfl) :
    PE X (.Call (.Name x p) (e :: es) [] pos) (tF sp t) := by
  obtain ⟨f, fd, F, hm, hk, hb⟩ := h
  refine ⟨fun pins s σ H Q I hq => ?_⟩
  apply wpAny_Call_Name_kw (ld_glob I hg hm ?_ hdb)
  apply PySem.W.callWith_K (h₀ := X.base) I.ok.mod.kin hk ?_ he hpl
  refine thn (ha.run pos pins s σ H _ I hq) fun us s1 ⟨vs, H1, I1, rel, hsp⟩ => ⟨I1.kIn, ?_⟩
  have hl : us.length = ps.length := by rw [← rel.length]; exact F.len _ _ _ _ hsp
  have bnd := hb s1 us I1.kIn (by rw [List.append_nil]; exact hl)
  rw [List.append_nil] at bnd
  refine wpAny_call (codeAny_mono (F.run X.A X.stack s1 H1 ⟨us, []⟩ us vs Q E0 hgd hr I1.env0 bnd rel hsp) fun r s' hc => ?_)
  cases r with
  | error er => exact ((pass0 (X := X)) pins σ H1 s1 er s' I1 hc)
  | ok fl =>
    cases fl with
    | ret u => exact I1.after hc
    | next => exact hc.elim
    | brk => exact hc.elim
    | cont => exact hc.elim

theorem PE.imp {e : Expr} {t t' : TE} (h : PE X e t) (hi : ∀ σ H Q, t' σ H Q → t σ H Q) : PE X e t' :=
  ⟨fun pins s σ H Q I hq => h.run pins s σ H Q I (hi σ H Q hq)⟩
theorem PT.imp {e : Expr} {t t' : TT} (h : PT X e t) (hi : ∀ σ H Q, t' σ H Q → t σ H Q) : PT X e t' :=
  ⟨fun pins s σ H Q I hq => h.run pins s σ H Q I (hi σ H Q hq)⟩
end


/-- the law's call, its def kept where no guard is under way -/
theorem law_callG {P : Program} {w : World} {K : PySem.W.Frag} {mg mb : Str → Option Value} {k : Nat} {fa a : Addr} {fd : FuncData} {x : Str} {sp : Sp} {s : Shared} {vs : List Value} {ns : List Int}
    (inK : K.In s.heap) (gl : s.heap.Ns mainGlobals mg) (bl : s.heap.Ns builtinsNs mb)
    (bb : ∀ y : Str, y ≠ "__name__" → mb y = bootBuiltins y) (nolim : s.heap.NoLimit) (gens : s.gens = #[])
    (obj : s.heap.get? a = some { cls := .type "list", data := .seq vs.toArray }) (ia : IntsAre vs ns) (short : ns.length ≤ sizeLine) (hrm : Room k callerA)
    (F : ∀ base : Heap, K.In base → base.Ns mainGlobals mg → FnG P w K mg base k fa fd [x] sp)
    (bind : ∀ (s : Shared) (u : Value), BindsTo s fd ⟨[u], []⟩ [(x, u)])
    (hsp : ∀ H : Hp, SqL K H a (ns.map V.int) → sp [.ref a] H (fun v _ => v = .bl true) fun _ _ _ => False) :
    codeAny (model P w) callerA (.call (.ref fa) ⟨[.ref a], []⟩)
      (fun r s' => r = .ok (.ret (.bool true)) ∧ OldK s.heap s'.heap ∧ s'.os = s.os ∧ AllBare s'.gens) s := by
  have vals := vals_ints ia
  have many := ia.length
  have main : ∀ H : Hp, Only H → SqL K H a (ns.map V.int) → HOk P w H s.heap → (∀ b, H b ≠ none → b = a) → (H a ≠ none → K.lookup a = none) →
      codeAny (model P w) callerA (.call (.ref fa) ⟨[.ref a], []⟩)
        (fun r s' => r = .ok (.ret (.bool true)) ∧ OldK s.heap s'.heap ∧ s'.os = s.os ∧ AllBare s'.gens) s := by
    intro H only script hok alone notK
    have dictFree : ∀ {b : Addr} {o : Obj} {es : Array DictEntry} {ep : Nat},
        s.heap.get? b = some o → o.data = .dict es ep → H b = none := by
      intro b o es ep e d
      cases q : H b with
      | none => rfl
      | some u =>
        have eb := alone b (by rw [q]; simp)
        subst eb
        rw [obj] at e
        cases e
        have d2 : Data.seq vs.toArray _ = Data.dict es ep := d
        cases d2
    have nsOf : ∀ {b : Addr} {m : Str → Option Value}, s.heap.Ns b m → (hidT s.heap H).Ns b m := by
      intro b m ⟨o, es, ep, e, d, r⟩
      exact ⟨o, es, ep, hidT_get e (dictFree e d), d, r⟩
    have inB : K.In (hidT s.heap H) := by
      intro b o e
      refine hidT_get (inK b o e) ?_
      cases q : H b with
      | none => rfl
      | some u =>
        have eb := alone b (by rw [q]; simp)
        subst eb
        have z := notK (by rw [q]; simp)
        rw [z] at e
        cases e
    have md : Mod K mg (hidT s.heap H) := by
      obtain ⟨mc, h1, h2⟩ := nolim
      exact ⟨inB, nsOf gl, ⟨mb, nsOf bl, bb⟩, ⟨mc, nsOf h1, h2⟩⟩
    have env0 : Env0 P w K mg (hidT s.heap H) callerA [] s H :=
      ⟨rfl, md, fun b o e => of_hidT e, Nat.le_of_eq (hidT_size _ _), trivial, fun b z => absurd (show b ∈ ([] : List Addr) from z) (by simp), hok, .of_eq gens⟩
    have run := (F _ inB (nsOf gl)).run callerA [] s H ⟨[.ref a], []⟩ [.ref a] [.ref a] _ _ rfl hrm env0 (bind s (.ref a)) (.cons rfl .nil) (hsp H script)
    refine codeAny_mono run fun r s' h => ?_
    cases r with
    | error e => exact h.elim
    | ok fl =>
      cases fl with
      | next => exact h.elim
      | brk => exact h.elim
      | cont => exact h.elim
      | ret u =>
        obtain ⟨v, H', os, bare, un, hok2, rel, q⟩ := h
        have q2 : v = .bl true := q
        subst q2
        obtain rfl : u = Value.bool true := rel
        refine ⟨rfl, OldK.of_keep fun b o e => ?_, os, bare⟩
        cases q : H b with
        | none =>
          have nn : b ∉ frs ([] : List Env) := fun z => absurd (show b ∈ ([] : List Addr) from z) (by simp)
          exact un.keep b o e q nn (by simp)
        | some u =>
          rcases only b with z | ⟨ob, xs, z⟩
          · rw [q] at z
            cases z
          · obtain ⟨e1, _⟩ := hok b _ z
            obtain ⟨e2, _⟩ := hok2 b _ (un.frzs b ob _ z)
            rw [e] at e1
            cases e1
            exact e2
  cases hk : K.lookup a with
  | some o =>
    have e := inK a o hk
    rw [obj] at e
    cases e
    refine main (fun _ => none) (fun _ => .inl rfl) (.inr ⟨_, vs.toArray, _, hk, rfl, rfl, rfl, ?_, ?_⟩) (fun b u z => ?_) (fun b z => absurd rfl z) fun z => absurd rfl z
    · rw [List.size_toArray, many]
      exact short
    · simpa using vals
    · have z2 : (none : Option HO) = some u := z
      cases z2
  | none =>
    refine main (fun b => if b = a then some (.frz { cls := .type "list", data := .seq vs.toArray } (.lst (ns.map V.int))) else none)
      (fun b => ?_) (.inl (.inr ⟨{ cls := .type "list", data := .seq vs.toArray }, if_pos rfl⟩)) (fun b u z => ?_) (fun b z => ?_) fun _ => hk
    · by_cases eb : b = a
      · exact .inr ⟨_, _, if_pos eb⟩
      · exact .inl (if_neg eb)
    · by_cases eb : b = a
      · have z2 := (if_pos eb).symm.trans z
        cases z2
        subst eb
        exact ⟨obj, by rw [List.length_map]; exact short, vs, _, vals, obj⟩
      · have z2 := (if_neg eb).symm.trans z
        cases z2
    · by_cases eb : b = a
      · exact eb
      · exact absurd (if_neg eb) z

/-- the goal behind the head -/
theorem walkG {l : PySem.W.OpenLaw} {n k : Nat} {q : Program} {loose : List Str} {XP : (Str → Option Value) → Heap → Prop} {YP : World → Heap → Prop} {d : DefRec} {K : Params → PySem.W.Frag} {sp : PySem.W.Frag → Sp} {x : Str}
    (hn : l.most = some n) (hn2 : n ≤ sizeLine) (hdf : d.params.defaults = []) (hrm : Room k callerA)
    (hY : ∀ (w : World) (h : Heap), YP w h → (K w.params).In h)
    (F : ∀ (w : World) (mg : Str → Option Value) (fa : Addr) (h : Heap), (K w.params).In h → h.Ns mainGlobals mg → mg d.name = some (.ref fa) →
      ∃ fd : FuncData, (∀ (s : Shared) (u : Value), BindsTo s fd ⟨[u], []⟩ [(x, u)]) ∧
        ∀ base : Heap, (K w.params).In base → base.Ns mainGlobals mg → FnG l.prog w (K w.params) mg base k fa fd [x] (sp (K w.params)))
    (hsp : ∀ (K : PySem.W.Frag) (H : Hp) (a : Addr) (ns : List Int), ns.length ≤ n → SqL K H a (ns.map V.int) → sp K [.ref a] H (fun v _ => v = .bl true) fun _ _ _ => False) :
    PySem.W.WalkO q loose XP YP l.row.toRowW d [] (fun f vs => PySem.call f vs) := by
  refine Att.attach_call hn hdf fun w s₀ s₁ mg mb fa o pm cd doc a vs ns G Y ho hd hcd hmg hobj hints hlen hg => ?_
  obtain ⟨fd, hb, hF⟩ := F w mg fa _ (hY w _ Y) G.T.g hmg
  exact law_callG (hY w _ Y) G.T.g G.T.b G.T.builtins G.T.nolimit hg hobj hints (Nat.le_trans hlen hn2) hrm hF hb fun H hS => hsp _ H a ns hlen hS

/-! enumerate of a tuple, sum of a tuple -/

/-- behind enumerate(t): the tuple's iterator, the enumerate object -/
def enumSt (s : Shared) (t : Addr) : Shared :=
  { s with heap := Heap.push (s.heap.push { cls := .type "tuple_iterator", data := .fields #[.ref t, .int 0 0] }) { cls := .type "enumerate", data := .fields #[.none, .bool false, .ref s.heap.objs.size, rawInt 0, .none, .none] } }
theorem meets_enumT (t : Addr) (items : Array Value) :
    Meets (Builtin.«enumerate.__new__» ⟨[.type "enumerate", .ref t], []⟩) (fun _ R s => s.heap.IsTuple t items ∧
      R (.ok (.ret (.ref (s.heap.push { cls := .type "tuple_iterator", data := .fields #[.ref t, .int 0 0] }).objs.size)))
        (enumSt s t)) :=
  .of_wp fun prog w A R s h => by
    obtain ⟨hp, g, d, tk, os⟩ := s
    obtain ⟨ht, h⟩ := h
    have sub := sub_enumerate
    have q1 : ∀ {A' : Around} {E : Value → Shared → Prop} {Q : Value → Shared → Prop},
        Q (.ref hp.objs.size) ⟨hp.push { cls := .type "tuple_iterator", data := .fields #[.ref t, .int 0 0] }, g, d, tk, os⟩ →
        wpAny (model prog w) A' (pyIter (.ref t)) Q E ⟨hp, g, d, tk, os⟩ :=
      fun q => wpAny_pyIter_tuple (s := ⟨hp, g, d, tk, os⟩) ht q
    wp_walk using q1
    refine wpAny_stack_any fun st => wpAny_pure ?_
    split
    · rename_i c _ _ _ _ _
      cases (c == Value.type "enumerate") <;> (wp_walk using q1; exact ⟨_, rfl, h⟩)
    · wp_walk using q1
      exact ⟨_, rfl, h⟩

section
variable {prog : Program} {w : World} {A : Around} {E : Value → Shared → Prop} {s : Shared}
theorem call_enumT {l : Addr} {items : Array Value} {Q : Value → Shared → Prop} (hL : s.heap.IsTuple l items)
    (h : ∀ h', IsEnum h' (s.heap.objs.size + 1) s.heap.objs.size 0 .none → h'.IsTupleIter s.heap.objs.size l 0 →
      (∀ b o, s.heap.get? b = some o → h'.get? b = some o) → Q (.ref (s.heap.objs.size + 1)) { s with heap := h' }) :
    wpAny (model prog w) A (call (.type "enumerate") [.ref l]) Q E s := by
  refine callType_new F.called_enumerate (by decide) (F.typeCall_enumerate_1 _) (F.newCall_enumerate_1 _)
    (fun obj => F.args_object_init_2 obj _) F.entry_enumerate_new (meets_enumT l items) ⟨hL, ?_⟩
  have sz : (s.heap.push { cls := .type "tuple_iterator", data := .fields #[.ref l, .int 0 0] }).objs.size = s.heap.objs.size + 1 := Heap.size_push ..
  show _ ∧ _
  rw [sz]
  have got := Heap.get?_push_size (s.heap.push { cls := .type "tuple_iterator", data := .fields #[.ref l, .int 0 0] })
    (o := { cls := .type "enumerate", data := .fields #[.none, .bool false, .ref s.heap.objs.size, rawInt 0, .none, .none] }) rfl
  rw [sz] at got
  have en : IsEnum ((s.heap.push { cls := .type "tuple_iterator", data := .fields #[.ref l, .int 0 0] }).push
      { cls := .type "enumerate", data := .fields #[.none, .bool false, .ref s.heap.objs.size, rawInt 0, .none, .none] })
      (s.heap.objs.size + 1) s.heap.objs.size 0 .none := got
  have itr : Heap.IsTupleIter ((s.heap.push { cls := .type "tuple_iterator", data := .fields #[.ref l, .int 0 0] }).push
      { cls := .type "enumerate", data := .fields #[.none, .bool false, .ref s.heap.objs.size, rawInt 0, .none, .none] }) s.heap.objs.size l 0 :=
    ⟨_, Heap.get?_push_of_some _ (Heap.get?_push_size _ rfl), rfl, rfl⟩
  exact ⟨⟨_, got, rfl⟩, h _ en itr fun b o x => Heap.get?_push_of_some _ (Heap.get?_push_of_some _ x)⟩
end

/-- the tuple at a, each item in a new pair with its place -/
def Iet (K : PySem.W.Frag) (a : Addr) : It :=
  ⟨fun i H => ∃ (xs : List V) (x : V), SqT K H a xs ∧ xs[i]? = some x,
   fun i H v H' => ∃ T x, v = .ref T ∧ H T = none ∧ H' = upd H T (.tup [.int (i : Nat), x]) ∧ ∀ xs, SqT K H a xs → xs[i]? = some x,
   fun i H => ∃ xs : List V, SqT K H a xs ∧ xs.length ≤ i⟩

theorem turn_enumT {P : Program} {w : World} {K : PySem.W.Frag} {elts : List Expr} {kk : Nat} {tpos : Pos} (a e it : Addr) :
    Turn P w K (.Tuple elts kk tpos) (Iet K a) [e, it] e (fun i h => (∃ old, IsEnum h e it ((i : Nat) : Int) old) ∧ h.IsTupleIter it a i ∧ e ≠ it) where
  mem := by simp
  obj := by
    intro i h st b hb
    obtain ⟨⟨old, he⟩, ⟨o, ho, hc, hd⟩, _⟩ := st
    have eb : b = e ∨ b = it := by simpa using hb
    cases eb with
    | inl z =>
      rw [z]
      exact ⟨_, he, fun v q => nomatch q⟩
    | inr z =>
      rw [z]
      refine ⟨o, ho, fun v q => ?_⟩
      rw [hd] at q
      cases q
  keep := fun i h h' st k =>
    let ⟨⟨old, he⟩, hi, hne⟩ := st
    ⟨⟨old, k e (by simp) _ he⟩, hi.at fun o q => k it (by simp) o q, hne⟩
  item := by
    intro X hP hw hK hc i pins s σ H E I hf st hg
    subst hP hw hK
    obtain ⟨⟨old, he⟩, hit, hne⟩ := st
    obtain ⟨xs, x, hq, hx⟩ := hg
    obtain ⟨its, rv, p, hz⟩ := I.tuple hq
    obtain ⟨u, hu, ru⟩ := rv.get hx
    have hel : e < s.heap.objs.size := Heap.lt_size he
    have hil : it < s.heap.objs.size := by
      obtain ⟨_, q, _⟩ := hit
      exact Heap.lt_size q
    have isT : s.heap.IsTuple a its.toArray := p
    have ane : a ≠ it := by
      intro z
      obtain ⟨o1, h1, c1, _⟩ := isT
      obtain ⟨o2, h2, c2, _⟩ := hit
      rw [z, h2] at h1
      cases h1
      rw [c1] at c2
      exact absurd c2 (by decide)
    have aee : e ≠ a := by
      intro z
      obtain ⟨o1, h1, c1, _⟩ := isT
      have h2 : s.heap.get? e = _ := he
      rw [z, h1] at h2
      have c2 : Value.type "tuple" = Value.type "enumerate" := c1.symm.trans (congrArg Obj.cls (Option.some.inj h2))
      exact absurd c2 (by decide)
    have D := Draws.tuple (prog := X.prog) (w := X.w) (A := X.A.in1) (I.ok.hd hc) it a ane its.toArray
    have hlt : i < its.toArray.size := by
      have := (List.getElem?_eq_some_iff.mp hu).1
      simpa using this
    refine wpAny_pyNext_enum_itemD D he ⟨hit, isT⟩ hlt hne (by simp [hne, aee]) fun x' h' tk hP ho hst' hT hsz hk => ?_
    have ex : x' = u := by
      have z : its.toArray[i]? = some x' := hP
      rw [List.getElem?_toArray, hu] at z
      cases z
      rfl
    subst ex
    refine ⟨_, rfl, wpAny_letOwnedTupleGo_enum (s := { s with heap := h', toks := tk + 1 }) ho fun h'' he' sb => ?_⟩
    have hT2 : h''.get? s.heap.objs.size = some { cls := .type "tuple", data := .seq #[.int i tk, x'] } := (sb.2 _ (Nat.ne_of_gt hel)).trans hT
    have new : ObjOk X.prog X.w (upd H s.heap.objs.size (.tup [.int (i : Nat), x])) h'' s.heap.objs.size (.tup [.int (i : Nat), x]) := by
      refine ⟨by show 2 ≤ sizeLine; decide, [.int i tk, x'], ?_, ⟨_, hT2, rfl, _, rfl⟩⟩
      exact .cons ⟨_, rfl⟩ (.cons ru .nil)
    have I1 : Inv X pins σ (upd H s.heap.objs.size (.tup [.int (i : Nat), x])) { s with heap := h'', toks := tk + 1 } := by
      refine I.turnedNew (ch := [e, it]) (fun b ob hb q => ?_) hf (Nat.le_refl _) new
      have b1 : b ≠ e := fun z => hb (by simp [z])
      have b2 : b ≠ it := fun z => hb (by simp [z])
      exact (sb.2 b b1).trans (hk b ob b1 b2 q)
    refine ⟨.ref s.heap.objs.size, _, I1, rfl, ⟨_, x, rfl, I.hok.fresh (Nat.le_refl _), rfl, fun ys hy => ?_⟩, ⟨⟨x', ?_⟩, ?_, hne⟩, fun b hb => ?_⟩
    · rw [I.tuple_inj hy hq]
      exact hx
    · have e1 : ((i + 1 : Nat) : Int) = (i : Int) + 1 := by omega
      rw [e1]
      exact he'
    · exact hst'.1.at fun o q => (sb.2 it (Ne.symm hne)).trans q
    · have small : b < s.heap.objs.size := by
        have eb : b = e ∨ b = it := by simpa using hb
        cases eb with
        | inl z => rw [z]; exact hel
        | inr z => rw [z]; exact hil
      rw [upd_ne (Nat.ne_of_lt small)]
      exact (hf b hb).1
  done := by
    intro X hP hw hK hc i pins s σ H E I hf st hg
    subst hP hw hK
    obtain ⟨⟨old, he⟩, hit, hne⟩ := st
    obtain ⟨xs, hq, hx⟩ := hg
    obtain ⟨its, rv, p, hz⟩ := I.tuple hq
    obtain ⟨f0, f1, f2, f3, f4, f5⟩ := hf it (by simp)
    have isT : s.heap.IsTuple a its.toArray := p
    have hl := rv.length
    -- past the end the iterator's place does not matter: i is at least the length
    have hd : wpAny (model X.prog X.w) X.A (pyNext (.ref e)) (fun r s1 => r = none ∧ Inv X pins σ H s1) E s := by
      have hT : s.TypeIs (.ref e) "enumerate" := ⟨_, he, rfl⟩
      unfold pyNext
      refine wpAny_bind (wpAny_attempt (wpAny_callSpecial?_slot (name := Str.ofString "__next__") hT F.slot_enumerate_next
        (wpAny_call_entry F.slot_enumerate_next hT F.entry_enumerate_next ?_ (F.args_enumerate_next_1 _))))
      show wpAny _ _ (field (.ref e) 2 >>= _) _ _ _
      refine wpAny_bind (wpAny_field he rfl (x := .ref it) rfl ?_)
      refine wpAny_bind (wpAny_nextOf_tuple_end (I.ok.hd hc) hit isT (by simp; omega) fun h' x eb hx' => ?_)
      obtain ⟨o, ho, hcl⟩ := hx'
      refine wpAny_bind (wpAny_isInstance (T := "StopIteration") (b := true) ⟨o, ho, hcl⟩ isSubtype_stop ?_)
      exact wpAny_pure ⟨rfl, I.turned (t' := s.toks) (fun b o hb q => eb b o hb q) f0 f1 f3 f4 f5⟩
    exact hd
  self := fun A i s Q E st h => let ⟨⟨_, he⟩, _⟩ := st; wpAny_pyIter_enum he h

def iEnumT (K : PySem.W.Frag) (ta : TA) : TI := fun σ H R => ta σ H fun vs H1 => ∃ a xs, vs = [.ref a] ∧ SqT K H1 a xs ∧ R (Iet K a) H1
theorem pi_enumT {X : Cx} {e : Expr} {ta : TA} {p pos tpos : Pos} {elts : List Expr} {kk : Nat} (hg : Gl X "enumerate") (hm : X.mg "enumerate" = none) (ha : PA X [e] ta)
    (hs : starEach [e] X.env = [(false, eval e X.env)] := by rfl) :
    PI X (.Tuple elts kk tpos) (.Call (.Name "enumerate" p) [e] [] pos) (iEnumT X.K ta) := by
  refine ⟨fun pins s σ H R I h => ?_⟩
  refine Call_ (ld_blt I hg hm boot_enumerate ?_)
  refine PyProof.Rows.callWith_type1 (thn (ha.run pos pins s σ H _ I h) fun us s1 ⟨vs, H1, I1, r1, q1⟩ => ?_) hs rfl
  obtain ⟨a, xs, ex, hq, q⟩ := q1
  subst ex
  have eu := Vals.ref1 r1
  subst eu
  obtain ⟨its, rv, p', hz⟩ := I1.tuple hq
  refine call_enumT (show s1.heap.IsTuple a its.toArray from p') fun h' he hit hk => wpAny_pyIter_enum he ?_
  have I2 : Inv X pins σ H1 { s1 with heap := h' } := I1.kept (t' := s1.toks) hk
  refine ⟨s1.heap.objs.size + 1, [s1.heap.objs.size + 1, s1.heap.objs.size], _, _, H1, rfl, I2,
    turn_enumT a (s1.heap.objs.size + 1) s1.heap.objs.size, ⟨⟨.none, he⟩, hit, Nat.succ_ne_self _⟩, fun b hb => ?_, q⟩
  have eb : b = s1.heap.objs.size + 1 ∨ b = s1.heap.objs.size := by simpa using hb
  have hle : s1.heap.objs.size ≤ b := by
    cases eb with
    | inl z => rw [z]; exact Nat.le_add_right _ _
    | inr z => rw [z]; exact Nat.le_refl _
  exact I1.fpOk hle (I1.hok.fresh hle)
theorem walk_enumT {K : PySem.W.Frag} {a : Addr} {xs : List V} :
    Walk (Iet K a) xs.length (fun H => SqT K H a xs) (YPair (fun i => some (.int (i : Nat))) (fun i => xs[i]?)) := by
  refine ⟨fun i _ hi q => ⟨xs, xs[i], q, by simp [hi]⟩, fun _ q => ⟨xs, q, Nat.le_refl _⟩, fun i H v H' _ q y => ?_⟩
  obtain ⟨T, x, h1, h2, h3, h4⟩ := y
  exact ⟨T, .int (i : Nat), x, h1, h2, h3, rfl, h4 xs q⟩

section
variable {X : Cx}
def rSumN (K : PySem.W.Frag) : List V → Hp → VK → Prop := fun vs H Q => ∃ (a : Addr) (ns : List Int), vs = [V.ref a] ∧ (SqL K H a (ns.map V.int) ∨ SqT K H a (ns.map V.int)) ∧ Q (.int ns.sum) H
theorem cr_sumN (hc : X.calm = true) : CallR X (.builtin "sum") (rSumN X.K) := by
  intro pins s σ H vs us Q I r h
  obtain ⟨a, ns, rfl, hs, q⟩ := h
  cases hs with
  | inl hs => exact cr_sum hc pins s σ H _ us Q I r ⟨a, ns, rfl, hs, q⟩
  | inr hs =>
    obtain ⟨its, rv, hl, _⟩ := I.tuple hs
    have isT : s.heap.IsTuple a its.toArray := hl
    rw [Vals.ref1 r]
    have hi := rv.ints
    obtain ⟨xs, e⟩ := hi.allInts.items
    have hn : numsOf (intItems xs).toList = ns := by
      rw [← e]
      exact hi.numsOf
    rw [nums_intItems] at hn
    rw [e] at isT
    refine PySem.W.ktm_sumG (I.ok.hd hc) isT fun h' tk t' hk => ⟨.int ns.sum, H, I.kept hk, ?_, q⟩
    refine ⟨t', ?_⟩
    rw [preSum_eq, List.take_of_length_le (by simp), hn]
end

/-! heaps that grow; rules whose readings say it -/

/-! ### relations of heaps -/
def Ex (H H' : Hp) : Prop := ∀ a o, H a = some o → H' a = some o
/-- all but lists are kept -/
def Kp (H H' : Hp) : Prop := ∀ a o, H a = some o → (∀ xs, o ≠ .lst xs) → H' a = some o
theorem Ex.refl (H : Hp) : Ex H H := fun _ _ h => h
theorem Ex.trans {H H1 H2 : Hp} (a : Ex H H1) (b : Ex H1 H2) : Ex H H2 := fun x o h => b x o (a x o h)
theorem Ex.new {H : Hp} {p : Addr} {o : HO} (h : H p = none) : Ex H (upd H p o) := fun a u e => by
  rw [upd_ne (ne_of_none e h)]
  exact e
theorem Ex.kp {H H' : Hp} (e : Ex H H') : Kp H H' := fun a o h _ => e a o h
theorem Ex.free {H H' : Hp} (e : Ex H H') {l : Addr} (h : H' l = none) : H l = none := by
  cases q : H l with
  | none => rfl
  | some o =>
    rw [e l o q] at h
    cases h
theorem Kp.refl (H : Hp) : Kp H H := fun _ _ h _ => h
theorem Kp.trans {H H1 H2 : Hp} (a : Kp H H1) (b : Kp H1 H2) : Kp H H2 := fun x o h n => b x o (a x o h n) n

/-- the draws' list: a figure, a seed, a counter -/
def VatAt (H : Hp) (v : Addr) : Prop := ∃ a b c : Int, H v = some (.lst [.int a, .int b, .int c]) ∧ 0 ≤ a ∧ 0 ≤ b ∧ 0 ≤ c
/-- what calls that draw leave -/
structure Gv (v : Addr) (H H' : Hp) : Prop where
  old : VatAt H v
  keep : ∀ a o, a ≠ v → H a = some o → H' a = some o
  new : VatAt H' v
theorem VatAt.ex {H H' : Hp} {v : Addr} (h : VatAt H v) (e : Ex H H') : VatAt H' v := by
  obtain ⟨a, b, c, h1, h2⟩ := h
  exact ⟨a, b, c, e _ _ h1, h2⟩
theorem Gv.kp {v : Addr} {H H' : Hp} (g : Gv v H H') : Kp H H' := fun a o h n => by
  refine g.keep a o (fun z => ?_) h
  obtain ⟨x, y, w, h1, _⟩ := g.old
  rw [z, h1] at h
  exact n _ (Option.some.inj h).symm
theorem Gv.of {v : Addr} {H H' : Hp} (h : VatAt H v) (e : Ex H H') : Gv v H H' := ⟨h, fun a o _ q => e a o q, h.ex e⟩
theorem Gv.refl {v : Addr} {H : Hp} (h : VatAt H v) : Gv v H H := Gv.of h (Ex.refl H)
theorem Gv.trans {v : Addr} {H H1 H2 : Hp} (a : Gv v H H1) (b : Gv v H1 H2) : Gv v H H2 :=
  ⟨a.old, fun x o n h => b.keep x o n (a.keep x o n h), b.new⟩
theorem Gv.ex {v : Addr} {H H1 H2 : Hp} (a : Gv v H H1) (b : Ex H1 H2) : Gv v H H2 := a.trans (Gv.of a.new b)
/-- where the list is new nothing old is changed -/
theorem Gv.out {v : Addr} {H H1 H2 : Hp} (n : H v = none) (e : Ex H H1) (g : Gv v H1 H2) : Ex H H2 := fun a o h =>
  g.keep a o (fun z => by rw [z, n] at h; cases h) (e a o h)
theorem Gv.lst {v l : Addr} {H H' : Hp} {xs : List V} (g : Gv v H H') (n : l ≠ v) (h : H l = some (.lst xs)) : H' l = some (.lst xs) := g.keep l _ n h

theorem sqT_kp {K : PySem.W.Frag} {H H' : Hp} {a : Addr} {xs : List V} (h : SqT K H a xs) (e : Kp H H') : SqT K H' a xs := by
  rcases h with (h | ⟨o, h⟩) | h
  · exact .inl (.inl (e _ _ h (fun _ z => nomatch z)))
  · exact .inl (.inr ⟨o, e _ _ h (fun _ z => nomatch z)⟩)
  · exact .inr h
theorem sqL_ex {K : PySem.W.Frag} {H H' : Hp} {a : Addr} {xs : List V} (h : SqL K H a xs) (e : Ex H H') : SqL K H' a xs := by
  rcases h with (h | ⟨o, h⟩) | h
  · exact .inl (.inl (e _ _ h))
  · exact .inl (.inr ⟨o, e _ _ h⟩)
  · exact .inr h

/-! ### new objects, told by what they hold -/
section
variable {X : Cx} {f : Value} {g : Value → Value → Sem Value}
theorem CallR.imp {r r' : List V → Hp → VK → Prop} (h : CallR X f r) (hi : ∀ vs H Q, r' vs H Q → r vs H Q) : CallR X f r' :=
  fun pins s σ H xs us Q I rel q => h pins s σ H xs us Q I rel (hi _ _ _ q)
theorem OpR.imp {r r' : R2} (h : OpR X g r) (hi : ∀ x y H Q, r' x y H Q → r x y H Q) : OpR X g r' :=
  fun pins s σ H x y v u Q I rx ry q => h pins s σ H x y v u Q I rx ry (hi _ _ _ _ q)
theorem SlR.imp {r r' : V → Option Int → Option Int → Hp → VK → Prop} (h : SlR X r) (hi : ∀ x lo hi H Q, r' x lo hi H Q → r x lo hi H Q) : SlR X r' :=
  fun pins s σ H x v vl vu lo hi' sl Q I rx hs pl pu q => h pins s σ H x v vl vu lo hi' sl Q I rx hs pl pu (hi _ _ _ _ _ q)

/-- a new object o, all else as it was -/
def New (H : Hp) (o : HO) (Q : VK) : Prop := ∀ p H', H p = none → Ex H H' → H' p = some o → Q (.ref p) H'
theorem New.at {H : Hp} {o : HO} {Q : VK} (h : New H o Q) : ∀ p, H p = none → Q (.ref p) (upd H p o) :=
  fun p n => h p _ n (Ex.new n) upd_same

def nLst (t : TA) : TE := fun σ H Q => t σ H fun xs H1 => xs.length ≤ sizeLine ∧ New H1 (.lst xs) Q
def nTup (t : TA) : TE := fun σ H Q => t σ H fun xs H1 => xs.length ≤ sizeLine ∧ New H1 (.tup xs) Q
end
section
variable {X : Cx} {es : List Expr} {t : TA} {pos : Pos}
/-- a reading closed under what follows from the wanted -/
def tm (t : TA) : TA := fun σ H R => ∃ R0 : List V → Hp → Prop, t σ H R0 ∧ ∀ vs H', R0 vs H' → R vs H'
theorem PA.mon (h : PA X es t) : PA X es (tm t) := by
  refine ⟨fun pos pins s σ H R I ⟨R0, h0, hi⟩ => thn (h.run pos pins s σ H R0 I h0) fun us s' q => ?_⟩
  obtain ⟨vs, H', I', rel, z⟩ := q
  exact ⟨vs, H', I', rel, hi vs H' z⟩
theorem pe_lstN (h : PA X es t) : PE X (.List es pos) (nLst t) :=
  ⟨fun pins s σ H Q I hq => (pe_lst (PA.mon h)).run pins s σ H Q I ⟨_, hq, fun vs H' ⟨z, n⟩ => ⟨z, n.at⟩⟩⟩
theorem pe_tupN {k : Nat} (h : PA X es t) : PE X (.Tuple es k pos) (nTup t) :=
  ⟨fun pins s σ H Q I hq => (pe_tup (PA.mon h)).run pins s σ H Q I ⟨_, hq, fun vs H' ⟨z, n⟩ => ⟨z, n.at⟩⟩⟩

/-- tuple(x) of a list, of a tuple -/
def rTupleN (K : PySem.W.Frag) : List V → Hp → VK → Prop := fun vs H Q => ∃ p ys, vs = [.ref p] ∧ SqL K H p ys ∧ New H (.tup ys) Q
theorem call_tupleN : CallR X (.type "tuple") (rTupleN X.K) :=
  CallR.imp call_tuple_of fun vs H Q ⟨p, ys, e, h, n⟩ => ⟨p, ys, e, .inl ⟨h, n.at⟩⟩
def rListN (K : PySem.W.Frag) : List V → Hp → VK → Prop := fun vs H Q => ∃ p ys, vs = [.ref p] ∧ (SqL K H p ys ∨ SqT K H p ys) ∧ New H (.lst ys) Q
theorem call_list_ofN : CallR X (.type "list") (rListN X.K) :=
  CallR.imp call_list_of fun vs H Q ⟨p, ys, e, h, n⟩ => ⟨p, ys, e, h, n.at⟩
/-- divmod by a positive number below 2 ^ 9000 -/
def rDivmodN : List V → Hp → VK → Prop := fun vs H Q => ∃ i j, vs = [.int i, .int j] ∧ 0 < j ∧ j.natAbs.log2 < 9000 ∧ New H (.tup [.int (i / j), .int (i % j)]) Q
theorem call_divmodN : CallR X (.builtin "divmod") rDivmodN :=
  CallR.imp call_divmodW fun vs H Q ⟨i, j, e, h0, h1, n⟩ => ⟨i, j, e, ⟨h0, PyProof.noPylong_of_log2 h1⟩, n.at⟩
/-- xs + ys, two lists that may be written -/
def rCatN : R2 := fun x y H Q => ∃ l b xs zs, x = .ref l ∧ y = .ref b ∧ H l = some (.lst xs) ∧ H b = some (.lst zs) ∧ xs.length + zs.length ≤ sizeLine ∧ New H (.lst (xs ++ zs)) Q
theorem op_catN : OpR X (binaryOp .Add) rCatN :=
  OpR.imp op_cat fun x y H Q ⟨l, b, xs, zs, e1, e2, h1, h2, z, n⟩ => ⟨l, b, xs, zs, e1, e2, h1, h2, z, n.at⟩
def rRepN : R2 := fun x y H Q => ∃ l k xs, x = .ref l ∧ y = .int k ∧ H l = some (.lst xs) ∧ 0 ≤ k ∧ k < 2 ^ 63 ∧ xs.length * k.toNat ≤ sizeLine ∧ New H (.lst (List.replicate k.toNat xs).flatten) Q
theorem op_repN : OpR X (binaryOp .Mult) rRepN :=
  OpR.imp op_rep fun x y H Q ⟨l, k, xs, e1, e2, h1, h2, h3, z, n⟩ => ⟨l, k, xs, e1, e2, h1, by omega, h3, z, n.at⟩
def rSlN (K : PySem.W.Frag) : V → Option Int → Option Int → Hp → VK → Prop := fun x lo hi H Q => ∃ a xs, x = .ref a ∧ SqL K H a xs ∧ New H (.lst (cutV xs lo hi)) Q
theorem sl_listN : SlR X (rSlN X.K) := SlR.imp sl_list fun x lo hi H Q ⟨a, xs, e, h, n⟩ => ⟨a, xs, e, h, n.at⟩
end

/-! ### data -/
/-- v tells d in H -/
abbrev Is (K : PySem.W.Frag) (H : Hp) (v : V) (d : PyData) : Prop := Dp K H v d
mutual
theorem dp_kp {K : PySem.W.Frag} {H H' : Hp} (e : Ex H H') : ∀ (d : PyData) (v : V), Dp K H v d → Dp K H' v d
  | .none, _, h => by cases h; exact .non
  | .bool _, _, h => by cases h; exact .bl _
  | .int _, _, h => by cases h; exact .int _
  | .str _, _, h => by cases h; exact .str _
  | .list ds, _, h => by
    cases h with
    | lst hs ha => exact .lst (sqL_ex hs e) (dpAll_kp e ds _ ha)
  | .tuple ds, _, h => by
    cases h with
    | tup hs ha => exact .tup (sqT_kp hs e.kp) (dpAll_kp e ds _ ha)
  | .dict _, _, h => by cases h
theorem dpAll_kp {K : PySem.W.Frag} {H H' : Hp} (e : Ex H H') : ∀ (ds : List PyData) (vs : List V), DpAll K H vs ds → DpAll K H' vs ds
  | [], _, h => by cases h; exact .nil
  | d :: ds, _, h => by
    cases h with
    | cons h1 h2 => exact .cons (dp_kp e d _ h1) (dpAll_kp e ds _ h2)
end
theorem dp_ints {K : PySem.W.Frag} {H : Hp} : ∀ ns : List Int, DpAll K H (ns.map V.int) (ns.map PyData.int)
  | [] => .nil
  | _ :: ns => .cons (.int _) (dp_ints ns)
/-- data without lists is kept by all that keeps tuples -/
def noList : PyData → Bool
  | .list _ => false
  | .tuple ds => noLists ds
  | _ => true
where noLists : List PyData → Bool
  | [] => true
  | d :: ds => noList d && noLists ds
mutual
theorem dp_keep {K : PySem.W.Frag} {H H' : Hp} (e : Kp H H') : ∀ (d : PyData) (v : V), noList d = true → Dp K H v d → Dp K H' v d
  | .none, _, _, h => by cases h; exact .non
  | .bool _, _, _, h => by cases h; exact .bl _
  | .int _, _, _, h => by cases h; exact .int _
  | .str _, _, _, h => by cases h; exact .str _
  | .list ds, _, n, _ => by simp [noList] at n
  | .tuple ds, _, n, h => by
    cases h with
    | tup hs ha => exact .tup (sqT_kp hs e) (dpAll_keep e ds _ (by simpa [noList] using n) ha)
  | .dict _, _, _, h => by cases h
theorem dpAll_keep {K : PySem.W.Frag} {H H' : Hp} (e : Kp H H') : ∀ (ds : List PyData) (vs : List V), noList.noLists ds = true → DpAll K H vs ds → DpAll K H' vs ds
  | [], _, _, h => by cases h; exact .nil
  | d :: ds, _, n, h => by
    cases h with
    | cons h1 h2 =>
      simp only [noList.noLists, Bool.and_eq_true] at n
      exact .cons (dp_keep e d _ n.1 h1) (dpAll_keep e ds _ n.2 h2)
end

section
variable {X : Cx}
/-- != of two that tell one and the same -/
def rNeN (K : PySem.W.Frag) : R2 := fun x y H Q => ∃ d, Dp K H x d ∧ Dp K H y d ∧ SeqAt.shaped d = true ∧ Q (.bl false) H
theorem op_neDN (hu : X.A.units + 64 < cLine) : OpR X (compareOp .NotEq) (rNeN X.K) :=
  OpR.imp (op_neD hu) fun x y H Q ⟨d, h1, h2, z, q⟩ => ⟨d, d, h1, h2, z, z, by rw [SeqAt.eqv_refl _ (SeqAt.canLay_of_shaped z)]; exact q⟩
def rEqN (K : PySem.W.Frag) : R2 := fun x y H Q => ∃ d, Dp K H x d ∧ Dp K H y d ∧ SeqAt.shaped d = true ∧ Q (.bl true) H
theorem op_eqDN (hu : X.A.units + 64 < cLine) : OpR X (compareOp .Eq) (rEqN X.K) :=
  OpR.imp (op_eqD hu) fun x y H Q ⟨d, h1, h2, z, q⟩ => ⟨d, d, h1, h2, z, z, by rw [SeqAt.eqv_refl _ (SeqAt.canLay_of_shaped z)]; exact q⟩
end

/-! ### repr -/
mutual
def costD : PyData → Nat
  | .none => 4
  | .bool _ => 5
  | .int _ => 1930
  | .str x => (reprText x).length
  | .list ds => costs ds + 3
  | .tuple ds => costs ds + 3
  | .dict _ => 0
def costs : List PyData → Nat
  | [] => 0
  | d :: ds => costD d + 2 + costs ds
end
theorem listText_len : ∀ ts : List Str, (listText ts).length ≤ piled ts + 2
  | [] => by decide +kernel
  | t :: r => by
    have e1 : ("[" : Str).length = 1 := rfl
    have e2 : ("]" : Str).length = 1 := rfl
    have e3 : ("" : Str).length = 0 := rfl
    unfold listText
    rw [strLen_append]
    show (textFrom (0 + 1) (("[" : Str) ++ (if (0 : Nat) > 0 then ", " else "" : String) ++ t) r).length + _ ≤ _
    rw [textFrom_length_pos _ _ _ (Nat.succ_pos 0), if_neg (by decide), strLen_append, strLen_append, e1, e2, piled_cons]
    show 1 + ("" : Str).length + t.length + piled r + 1 ≤ _
    rw [e3]
    omega
theorem tupleText_len (ts : List Str) : (tupleText ts).length ≤ piled ts + 3 := by
  have e3 : (((if ts.length == 1 then ",)" else ")" : String) : Str)).length ≤ 2 := by split <;> decide +kernel
  have e1 : ("(" : Str).length = 1 := rfl
  unfold tupleText
  rw [strLen_append, strLen_append, e1]
  by_cases h : ts = []
  · subst h
    decide +kernel
  · have := join_length_add ts h
    omega
mutual
theorem shown_cost : ∀ d : PyData, d.showable = true → d.hasDict = false → d.shown.length ≤ costD d
  | .none, _, _ => by decide +kernel
  | .bool b, _, _ => by cases b <;> decide +kernel
  | .int i, h, _ => by
    have h1 : i.natAbs.log2 < 1920 := by simpa [PyData.showable] using h
    have h2 := int_text_length_le (k := 1920) (by decide) h1
    show (Str.ofString (toString i)).length ≤ 1930
    rw [PySem.ofString_length]
    omega
  | .str x, _, _ => Nat.le_refl _
  | .list ds, h, n => by
    have q := showns_cost ds (by simpa [PyData.showable] using h) (by simpa [PyData.hasDict] using n)
    have q2 := listText_len (PyData.shownAll ds)
    show (listText (PyData.shownAll ds)).length ≤ costs ds + 3
    omega
  | .tuple ds, h, n => by
    have q := showns_cost ds (by simpa [PyData.showable] using h) (by simpa [PyData.hasDict] using n)
    have q2 := tupleText_len (PyData.shownAll ds)
    show (tupleText (PyData.shownAll ds)).length ≤ costs ds + 3
    omega
  | .dict _, _, n => by simp [PyData.hasDict] at n
theorem showns_cost : ∀ ds : List PyData, PyData.showableAll ds = true → PyData.hasDictAll ds = false → piled (PyData.shownAll ds) ≤ costs ds
  | [], _, _ => Nat.le_refl _
  | d :: ds, h, n => by
    simp only [PyData.showableAll, Bool.and_eq_true] at h
    simp only [PyData.hasDictAll, Bool.or_eq_false_iff] at n
    have q1 := shown_cost d h.1 n.1
    have q2 := showns_cost ds h.2 n.2
    show piled (d.shown :: PyData.shownAll ds) ≤ costD d + 2 + costs ds
    rw [piled_cons]
    omega
end
section
variable {X : Cx}
/-- repr of data that is a list or a tuple -/
def rRepr (K : PySem.W.Frag) : List V → Hp → VK → Prop := fun vs H Q => ∃ a d, vs = [V.ref a] ∧ Dp K H (.ref a) d ∧ d.showable = true ∧ d.hasDict = false ∧ d.depth ≤ 20 ∧ costD d ≤ sizeLine ∧ Q (.str d.shown) H
theorem cr_repr (hg : X.A.guards = some []) (hu : X.A.units + 64 < cLine) : CallR X (.builtin "repr") (rRepr X.K) := by
  intro pins s σ H vs us Q I r h
  obtain ⟨a, d, rfl, hd, h1, h2, h3, h4, q⟩ := h
  obtain ⟨as, rd⟩ := Dp.reads I d (.ref a) (.ref a) hd rfl
  rw [Vals.ref1 r]
  have sz := shown_cost d h1 h2
  refine repr_of_reads' rd h1 (fun z => ?_) hg (by omega) (fun _ _ e => e) (fun h' u tk hk => ⟨.str d.shown, H, I.kept hk, ⟨u, rfl⟩, q⟩) (by omega)
  rw [h2] at z
  cases z
end

/-! readings run by rewriting -/

def LoopW (J : It) (g : TG) (tb : TS) (D : Ends) (σ : L2.St) (H1 : Hp) : Prop :=
  ∃ W : Nat → Nat → L2.St → Hp → Prop, (∃ m, W 0 m σ H1) ∧ ∀ (i m : Nat) (σ : L2.St) (H : Hp), W i m σ H →
    (J.stop i H ∧ D.nx σ H) ∨ (J.go i H ∧ ∃ N : L2.St → Hp → Prop, (∀ (σ' : L2.St) (H' : Hp), N σ' H' → ∃ m', m' < m ∧ W (i + 1) m' σ' H') ∧
      ∀ (x : V) (H' : Hp), J.yld i H x H' → g x σ H' fun σ2 H2 => tb { nx := N, rt := D.rt, bk := D.nx, ct := N } σ2 H2)
def LcW (J : It) (g : TG) (tt : TT) (te : TE) (vs : List Nat) (σ : L2.St) (H1 : Hp) (D : Addr) (Q : VK) : Prop :=
  ∃ W : Nat → Nat → Hp → Prop, (∃ m, W 0 m (upd H1 D (.lst []))) ∧ ∀ (i m : Nat) (H : Hp), W i m H →
    (J.stop i H ∧ Q (V.ref D) H) ∨ (J.go i H ∧ ∃ Nx : Hp → Prop, (∀ (H' : Hp), Nx H' → ∃ m', m' < m ∧ W (i + 1) m' H') ∧
      ∀ (x : V) (H' : Hp), J.yld i H x H' → g x (wipe σ vs) H' fun σ2 H2 => wipe σ2 vs = wipe σ vs ∧ tt σ2 H2 fun b H3 =>
        if b = true then te σ2 H3 fun y H4 => ∃ acc, H4 D = some (.lst acc) ∧ acc.length < sizeLine ∧ Nx (upd H4 D (.lst (acc ++ [y]))) else Nx H3)
section
variable {X : Cx}
def tmE (t : TE) : TE := fun σ H R => ∃ R0 : VK, t σ H R0 ∧ ∀ v H', R0 v H' → R v H'
theorem PE.mon {e : Expr} {t : TE} (h : PE X e t) : PE X e (tmE t) := by
  refine ⟨fun pins s σ H R I ⟨R0, h0, hi⟩ => thn (h.run pins s σ H R0 I h0) fun u s' q => ?_⟩
  obtain ⟨v, H', I', rel, z⟩ := q
  exact ⟨v, H', I', rel, hi v H' z⟩
def tmT (t : TT) : TT := fun σ H R => ∃ R0 : Bool → Hp → Prop, t σ H R0 ∧ ∀ v H', R0 v H' → R v H'
theorem PT.mon {e : Expr} {t : TT} (h : PT X e t) : PT X e (tmT t) := by
  refine ⟨fun pins s σ H R I ⟨R0, h0, hi⟩ => thn (h.run pins s σ H R0 I h0) fun u s' q => ?_⟩
  obtain ⟨H', I', z⟩ := q
  exact ⟨H', I', hi u H' z⟩
def tCut (t u : TS) : TS := fun D σ H => ∃ Mid : L2.St → Hp → Prop, t { nx := Mid, rt := D.rt, bk := D.bk, ct := D.ct } σ H ∧ ∀ σ' H', Mid σ' H' → u D σ' H'
theorem pss_cut {st : Stmt} {rest : List Stmt} {t u : TS} (h1 : PS X st t) (h2 : PSs X rest u) : PSs X (st :: rest) (tCut t u) := by
  refine ⟨fun pins s σ H D I ⟨Mid, hm, hu⟩ => ?_⟩
  refine wpAny_execs_cons (thn (h1.run pins s σ H { nx := Mid, rt := D.rt, bk := D.bk, ct := D.ct } I hm) fun fl s1 q => ?_)
  cases fl with
  | next =>
    obtain ⟨σ', H', I', z⟩ := q
    exact h2.run pins s1 σ' H' D I' (hu σ' H' z)
  | ret v => exact q
  | brk => exact q
  | cont => exact q
end
section
variable {t u : TS} {D : Ends} {σ : L2.St} {H : Hp} {te ta tb tc : TE} {g : TG} {Q : VK} {tt tu : TT} {K : PySem.W.Frag} {wi : TI} {tx tr : TA} {to th : TO} {R : Bool → Hp → Prop}
theorem r_seq : tSeq t u D σ H = t { nx := u D, rt := D.rt, bk := D.bk, ct := D.ct } σ H := rfl
theorem r_asg : tAsg te g D σ H = te σ H fun x H1 => g x σ H1 D.nx := rfl
theorem r_name {i : Nat} {v : V} {S : L2.St → Hp → Prop} : gName i v σ H S = S (σ.set i (some v)) H := rfl
theorem r_ifS : tIfS tt t u D σ H = tt σ H fun b H1 => if b = true then t D σ H1 else u D σ H1 := rfl
theorem r_next : tNext D σ H = D.nx σ H := rfl
theorem r_ret : tRet te D σ H = te σ H D.rt := rfl
theorem r_retN : tRetN D σ H = D.rt V.non H := rfl
theorem r_drop : tDrop te D σ H = te σ H fun _ H1 => D.nx σ H1 := rfl
theorem r_test : tTest te σ H R = te σ H fun x H1 => ∃ k, x = V.bl k ∧ R k H1 := rfl
theorem r_B : tB te σ H R = te σ H fun x H1 => ∃ k, x = V.bl k ∧ R k H1 := rfl
theorem r_if : tIf tt ta tb σ H Q = tt σ H fun c H1 => if c = true then ta σ H1 Q else tb σ H1 Q := rfl
theorem r_cons {S : List V → Hp → Prop} : tCons ta tx σ H S = ta σ H fun x H1 => tx σ H1 fun xs H2 => S (x :: xs) H2 := rfl
theorem r_nil {S : List V → Hp → Prop} : tNil σ H S = S [] H := rfl
theorem r_cb {r : List V → Hp → VK → Prop} : tCB r tx σ H Q = tx σ H fun vs H1 => r vs H1 Q := rfl
theorem r_tF {sp : Sp} : tF sp tx σ H Q = tx σ H fun vs H1 => sp vs H1 Q E0 := rfl
theorem r_part {S : Option Int → Hp → Prop} : tPart te σ H S = te σ H fun x H1 => ∃ i, x = V.int i ∧ S (some i) H1 := rfl
theorem r_nopart {S : Option Int → Hp → Prop} : tNoPart σ H S = S none H := rfl
theorem r_sl {r : V → Option Int → Option Int → Hp → VK → Prop} : L2.tSl r te to th σ H Q = te σ H fun x H1 => to σ H1 fun l H2 => th σ H2 fun u H3 => r x l u H3 Q := rfl
theorem r_par {i j : Nat} : tPar i j tx D σ H = tx σ H fun vs H1 => ∃ v w, vs = [v, w] ∧ D.nx ((σ.set i (some v)).set j (some w)) H1 := rfl
theorem r_chain {r r' : R2} : tChain r r' ta tb tc σ H Q = ta σ H fun x H1 => tb σ H1 fun y H2 => r x y H2 fun z H3 => ∃ k, z = V.bl k ∧ if k = true then tc σ H3 fun w' H4 => r' y w' H4 Q else Q (V.bl false) H3 := rfl
theorem r_or : tOr tt tu σ H R = tt σ H fun c H1 => if c = true then R true H1 else tu σ H1 R := rfl
theorem r_and : tAnd tt tu σ H R = tt σ H fun c H1 => if c = true then tu σ H1 R else R false H1 := rfl
theorem r_not : tNot tt σ H R = tt σ H fun c H1 => R (!c) H1 := rfl
theorem r_orV : tOrV ta tb σ H Q = ta σ H fun x H1 => ∃ c, x = V.bl c ∧ if c = true then Q (.bl true) H1 else tb σ H1 Q := rfl
theorem r_andV : tAndV ta tb σ H Q = ta σ H fun x H1 => ∃ c, x = V.bl c ∧ if c = true then tb σ H1 Q else Q (.bl false) H1 := rfl
theorem r_notV : tNotV ta σ H Q = ta σ H fun x H1 => ∃ c, x = V.bl c ∧ Q (.bl (!c)) H1 := rfl
theorem r_op {r : R2} : tOp r ta tb σ H Q = ta σ H fun x H1 => tb σ H1 fun y H2 => r x y H2 Q := rfl
theorem r_un {r : V → Hp → VK → Prop} : tUn r ta σ H Q = ta σ H fun x H1 => r x H1 Q := rfl
theorem r_var {i : Nat} : tVar i σ H Q = ∃ v, σ[i]? = some (some v) ∧ Q v H := rfl
theorem r_c {v : V} : tC v σ H Q = Q v H := rfl
theorem r_yes {R : Bool → Hp → Prop} : tYes σ H R = R true H := rfl
theorem r_sfld {tv : TE} {f : Str} : sFld K ta tv f D σ H = tv σ H fun y H1 => ta σ H1 fun x H2 => ∃ a C dx fs, x = V.ref a ∧ H2 a = some (HO.ins C dx fs) ∧ Cls K C ∧ NoAttr K C f ∧ fs.length < 1000 ∧ D.nx σ (upd H2 a (HO.ins C dx (putF f y fs))) := rfl
theorem r_never : tNever D σ H ↔ False := Iff.rfl
theorem r_I0 {f : Int → Int → V} {i j : Int} : rI0 f (.int i) (.int j) H Q ↔ Q (f i j) H := by simp [rI0]
theorem r_I {C : Int → Int → Prop} {f : Int → Int → V} {i j : Int} : rI C f (.int i) (.int j) H Q ↔ C i j ∧ Q (f i j) H := by simp [rI]
theorem r_U {f : Int → V} {i : Int} : rU f (.int i) H Q ↔ Q (f i) H := by simp [rU]
theorem r_eqI {i j : Int} : rEq (.int i) (.int j) H Q ↔ Q (.bl (decide (i = j))) H := by simp [rEq, scal]
theorem r_neI {i j : Int} : rNe (.int i) (.int j) H Q ↔ Q (.bl (!decide (i = j))) H := by simp [rNe, scal]
theorem r_eqS {x y : Str} : rEq (.str x) (.str y) H Q ↔ Q (.bl (decide (x = y))) H := by simp [rEq, scal]
theorem r_neS {x y : Str} : rNe (.str x) (.str y) H Q ↔ Q (.bl (!decide (x = y))) H := by simp [rNe, scal]
theorem r_lst {es : TA} : nLst es σ H Q = es σ H fun xs H1 => xs.length ≤ sizeLine ∧ New H1 (.lst xs) Q := rfl
theorem r_tup {es : TA} : nTup es σ H Q = es σ H fun xs H1 => xs.length ≤ sizeLine ∧ New H1 (.tup xs) Q := rfl
theorem r_for {D : Ends} : tFor wi g t D σ H = wi σ H fun J H1 => LoopW J g t D σ H1 := rfl
theorem r_lc {vs : List Nat} : tLc wi g tt te vs σ H Q = wi σ H fun J H1 => ∀ Dd, H1 Dd = none → LcW J g tt te vs σ H1 Dd Q := rfl
theorem r_list {S : It → Hp → Prop} : iList K te σ H S = te σ H fun x H1 => ∃ a, x = V.ref a ∧ (∃ xs, SqL K H1 a xs) ∧ S (Itl K a) H1 := rfl
theorem r_tupI {S : It → Hp → Prop} : iTup K te σ H S = te σ H fun x H1 => ∃ a, x = V.ref a ∧ (∃ xs, SqT K H1 a xs) ∧ S (Itt K a) H1 := rfl
theorem r_rng1 {S : It → Hp → Prop} : iRng1 tx σ H S = tx σ H fun vs H1 => ∃ j, vs = [V.int j] ∧ -2 ^ 62 ≤ j ∧ j < 2 ^ 62 ∧ S (Itr 0 j.toNat) H1 := rfl
theorem r_rng2 {S : It → Hp → Prop} : iRng2 tx σ H S = tx σ H fun vs H1 => ∃ i j : Int, vs = [.int i, .int j] ∧ (-(2 ^ 62) ≤ i ∧ i < 2 ^ 62 ∧ -(2 ^ 62) ≤ j ∧ j < 2 ^ 62) ∧ S (Itr i (j - i).toNat) H1 := rfl
theorem r_enumT {S : It → Hp → Prop} : iEnumT K tx σ H S = tx σ H fun vs H1 => ∃ a xs, vs = [.ref a] ∧ SqT K H1 a xs ∧ S (Iet K a) H1 := rfl
theorem r_bm {T : String} {r : V → List V → Hp → VK → Prop} : tBM K T r te tx σ H Q = te σ H fun x H1 => tyV K T x H1 ∧ tx σ H1 fun xs H2 => r x xs H2 Q := rfl
theorem r_fld {f : Str} : tFld K ta f σ H Q = ta σ H fun x H1 => ∃ a C dx fs v, x = V.ref a ∧ H1 a = some (HO.ins C dx fs) ∧ Cls K C ∧ NoAttr K C f ∧ List.lookup f fs = some v ∧ Q v H1 := rfl
theorem r_subT {o i : TE} {s : TSet} {v : V} {S : L2.St → Hp → Prop} : gSub o i s v σ H S = o σ H fun x H1 => i σ H1 fun y H2 => s x y v H2 fun H3 => S σ H3 := rfl
theorem r_gtup {n : Nat} {ts : TGs} {v : V} {S : L2.St → Hp → Prop} : gTup K n ts v σ H S = ∃ a xs, v = .ref a ∧ SqT K H a xs ∧ xs.length = n ∧ ts xs σ H S := rfl
theorem r_gcons {ts : TGs} {v : V} {xs : List V} {S : L2.St → Hp → Prop} : gCons g ts (v :: xs) σ H S ↔ g v σ H fun σ' H' => ts xs σ' H' S := by
  constructor
  · rintro ⟨w, r, e, h⟩
    cases e
    exact h
  · exact fun h => ⟨v, xs, rfl, h⟩
theorem r_gnil {S : L2.St → Hp → Prop} : gNil [] σ H S ↔ S σ H := by
  simp [gNil]
section
variable {P : Program} {w : World} {mg : Str → Option Value} {base : Heap} {N : List Str} {q : Str} {sc : Scope} {f : Addr} {cd : Value} {A : Around} {outer : List Env} {s : Shared} {E : XK}
theorem r_K0 : (cxOf CX0 P w K mg base N q sc f cd A outer s H E).K = K := rfl
theorem r_K : (cxOf CX0 P w K mg base N q sc f cd A outer s H E).nox.K = K := rfl
theorem r_Kb {s' : Shared} {H' : Hp} {sc' : Scope} {ce : Env} {fp : List Addr} : (((cxOf CX0 P w K mg base N q sc f cd A outer s H E).nox).blk s' H' sc' ce fp).K = K := rfl
end
/-- loops -/
theorem loopL {a : Addr} {xs : List V} {tb : TS} (Pv : Nat → L2.St → Hp → Prop) (h0 : Pv 0 σ H) (hl : ∀ i σ H, i ≤ xs.length → Pv i σ H → SqL K H a xs)
    (hs : ∀ i x σ H, xs[i]? = some x → Pv i σ H → g x σ H fun σ2 H2 => tb { nx := Pv (i + 1), rt := D.rt, bk := D.nx, ct := Pv (i + 1) } σ2 H2) (hd : ∀ σ H, Pv xs.length σ H → D.nx σ H) : LoopW (Itl K a) g tb D σ H := for_list Pv h0 hl hs hd
theorem loopT {a : Addr} {xs : List V} {tb : TS} (Pv : Nat → L2.St → Hp → Prop) (h0 : Pv 0 σ H) (hl : ∀ i σ H, i ≤ xs.length → Pv i σ H → SqT K H a xs)
    (hs : ∀ i x σ H, xs[i]? = some x → Pv i σ H → g x σ H fun σ2 H2 => tb { nx := Pv (i + 1), rt := D.rt, bk := D.nx, ct := Pv (i + 1) } σ2 H2) (hd : ∀ σ H, Pv xs.length σ H → D.nx σ H) : LoopW (Itt K a) g tb D σ H := for_tup Pv h0 hl hs hd
theorem loopR {lo : Int} {n : Nat} {tb : TS} (Pv : Nat → L2.St → Hp → Prop) (h0 : Pv 0 σ H)
    (hs : ∀ i σ H, i < n → Pv i σ H → g (.int (lo + i)) σ H fun σ2 H2 => tb { nx := Pv (i + 1), rt := D.rt, bk := D.nx, ct := Pv (i + 1) } σ2 H2) (hd : ∀ σ H, Pv n σ H → D.nx σ H) : LoopW (Itr lo n) g tb D σ H := for_range Pv h0 hs hd
theorem loopE {a : Addr} {xs : List V} {tb : TS} (Pv : Nat → L2.St → Hp → Prop) (h0 : Pv 0 σ H) (hl : ∀ i σ H, i ≤ xs.length → Pv i σ H → SqT K H a xs)
    (hs : ∀ i x σ H T H', xs[i]? = some x → Pv i σ H → Ex H H' → H' T = some (.tup [.int (i : Nat), x]) → g (.ref T) σ H' fun σ2 H2 => tb { nx := Pv (i + 1), rt := D.rt, bk := D.nx, ct := Pv (i + 1) } σ2 H2) (hd : ∀ σ H, Pv xs.length σ H → D.nx σ H) : LoopW (Iet K a) g tb D σ H :=
  for_it (walk_enumT (K := K) (a := a) (xs := xs)) Pv h0 hl (fun i v σ H H' hi hp y => by
    obtain ⟨T, x, z, rfl, hn, rfl, h1, h2⟩ := y
    cases h1
    exact hs i z σ H T _ h2 hp (Ex.new hn) upd_same) hd
end

/-! comprehensions; small rules of values -/
section
variable {g : TG} {te : TE} {vs : List Nat} {σ : L2.St} {H1 : Hp} {Dd : Addr} {Q : VK} {K : PySem.W.Frag} {a : Addr} {xs : List V}
/-- the state of a comprehension: what is made so far tells R -/
def LcJ (H1 : Hp) (Dd : Addr) (R : Nat → V → Hp → Prop) (i : Nat) (H : Hp) : Prop :=
  ∃ acc : List V, H Dd = some (.lst acc) ∧ acc.length = i ∧ Ex H1 H ∧ ∀ (j : Nat) y, acc[j]? = some y → R j y H
theorem lcJ_turn {R : Nat → V → Hp → Prop} (hR : ∀ i y H H', Kp H H' → R i y H → R i y H') (hD : H1 Dd = none) {i : Nat} {H H4 : Hp} {y : V}
    (p : LcJ H1 Dd R i H) (e : Ex H H4) (r : R i y H4) (hi : i < 1000000) :
    ∃ acc, H4 Dd = some (.lst acc) ∧ acc.length < sizeLine ∧ LcJ H1 Dd R (i + 1) (upd H4 Dd (.lst (acc ++ [y]))) := by
  obtain ⟨acc, h1, h2, h3, h4⟩ := p
  have k : Kp H4 (upd H4 Dd (.lst (acc ++ [y]))) := fun b o hb n => by
    rw [upd_ne]
    · exact hb
    · intro z
      rw [z, e _ _ h1] at hb
      exact n _ (Option.some.inj hb).symm
  refine ⟨acc, e _ _ h1, Nat.lt_of_lt_of_le (show acc.length < 1000000 by omega) (by decide), acc ++ [y], upd_same, by simp [h2], fun b o hb => ?_, fun j z hz => ?_⟩
  · rw [upd_ne (ne_of_none hb hD)]
    exact e _ _ (h3 _ _ hb)
  · by_cases hj : j < acc.length
    · rw [List.getElem?_append_left hj] at hz
      exact hR _ _ _ _ (e.kp.trans k) (h4 j z hz)
    · have hj2 : j = acc.length := by
        have := (List.getElem?_eq_some_iff.mp hz).1
        rw [List.length_append, List.length_singleton] at this
        omega
      subst hj2
      rw [List.getElem?_append_right (Nat.le_refl _), Nat.sub_self] at hz
      cases hz
      rw [h2]
      exact hR _ _ _ _ k r
theorem lcJ_start {R : Nat → V → Hp → Prop} (hD : H1 Dd = none) : LcJ H1 Dd R 0 (upd H1 Dd (.lst [])) :=
  ⟨[], upd_same, rfl, Ex.new hD, fun j y h => by simp at h⟩
/-- what is wanted behind a comprehension -/
def LcEnd (H1 : Hp) (Dd : Addr) (n : Nat) (R : Nat → V → Hp → Prop) (Q : VK) : Prop :=
  ∀ H ys, Ex H1 H → H Dd = some (.lst ys) → ys.length = n → (∀ (i : Nat) y, ys[i]? = some y → R i y H) → Q (.ref Dd) H
theorem lcL {J0 : Prop} (R : Nat → V → Hp → Prop) (hR : ∀ i y H H', Kp H H' → R i y H → R i y H') (hD : H1 Dd = none) (hx : SqL K H1 a xs) (hz : xs.length ≤ 100000)
    (hs : ∀ (i : Nat) x H, xs[i]? = some x → Ex H1 H → g x (wipe σ vs) H fun σ2 H2 => wipe σ2 vs = wipe σ vs ∧ tmE te σ2 H2 fun y H4 => Ex H H4 ∧ R i y H4)
    (hg : ∀ (i : Nat) x H S S', xs[i]? = some x → (∀ σ2 H2, S σ2 H2 → S' σ2 H2) → g x (wipe σ vs) H S → g x (wipe σ vs) H S')
    (hd : LcEnd H1 Dd xs.length R Q) : LcW (Itl K a) g tYes (tmE te) vs σ H1 Dd Q :=
  lc_list (xs := xs) (LcJ H1 Dd R) (lcJ_start hD) (fun i H _ ⟨_, _, _, e, _⟩ => sqL_ex hx e) (fun i x H hi p => by
    obtain ⟨acc, q1, q2, q3, q4⟩ := id p
    refine hg i x H _ _ hi (fun σ2 H2 ⟨w, z⟩ => ⟨w, ?_⟩) (hs i x H hi q3)
    show tmE te σ2 H2 _
    obtain ⟨R0, z1, z2⟩ := z
    exact ⟨R0, z1, fun y H4 r0 => lcJ_turn hR hD p (z2 y H4 r0).1 (z2 y H4 r0).2 (by have := (List.getElem?_eq_some_iff.mp hi).1; omega)⟩)
    fun H ⟨acc, q1, q2, q3, q4⟩ => hd H acc q3 q1 q2 q4
theorem lcT (R : Nat → V → Hp → Prop) (hR : ∀ i y H H', Kp H H' → R i y H → R i y H') (hD : H1 Dd = none) (hx : SqT K H1 a xs) (hz : xs.length ≤ 100000)
    (hs : ∀ (i : Nat) x H, xs[i]? = some x → Ex H1 H → g x (wipe σ vs) H fun σ2 H2 => wipe σ2 vs = wipe σ vs ∧ tmE te σ2 H2 fun y H4 => Ex H H4 ∧ R i y H4)
    (hg : ∀ (i : Nat) x H S S', xs[i]? = some x → (∀ σ2 H2, S σ2 H2 → S' σ2 H2) → g x (wipe σ vs) H S → g x (wipe σ vs) H S')
    (hd : LcEnd H1 Dd xs.length R Q) : LcW (Itt K a) g tYes (tmE te) vs σ H1 Dd Q :=
  lc_tup (xs := xs) (LcJ H1 Dd R) (lcJ_start hD) (fun i H _ ⟨_, _, _, e, _⟩ => sqT_kp hx e.kp) (fun i x H hi p => by
    obtain ⟨acc, q1, q2, q3, q4⟩ := id p
    refine hg i x H _ _ hi (fun σ2 H2 ⟨w, z⟩ => ⟨w, ?_⟩) (hs i x H hi q3)
    show tmE te σ2 H2 _
    obtain ⟨R0, z1, z2⟩ := z
    exact ⟨R0, z1, fun y H4 r0 => lcJ_turn hR hD p (z2 y H4 r0).1 (z2 y H4 r0).2 (by have := (List.getElem?_eq_some_iff.mp hi).1; omega)⟩)
    fun H ⟨acc, q1, q2, q3, q4⟩ => hd H acc q3 q1 q2 q4
theorem lcR {lo : Int} {n : Nat} {j : Nat} (R : Nat → V → Hp → Prop) (hR : ∀ i y H H', Kp H H' → R i y H → R i y H') (hD : H1 Dd = none) (hz : n ≤ 100000)
    (hw : ∀ x, wipe ((wipe σ vs).set j (some x)) vs = wipe σ vs)
    (hs : ∀ (i : Nat) H, i < n → Ex H1 H → tmE te ((wipe σ vs).set j (some (.int (lo + i)))) H fun y H4 => Ex H H4 ∧ R i y H4)
    (hd : LcEnd H1 Dd n R Q) : LcW (Itr lo n) (gName j) tYes (tmE te) vs σ H1 Dd Q :=
  lc_range (LcJ H1 Dd R) (lcJ_start hD) (fun i H hi p => by
    obtain ⟨acc, q1, q2, q3, q4⟩ := id p
    refine ⟨hw _, ?_⟩
    obtain ⟨R0, z1, z2⟩ := hs i H hi q3
    exact ⟨R0, z1, fun y H4 r0 => lcJ_turn hR hD p (z2 y H4 r0).1 (z2 y H4 r0).2 (by omega)⟩)
    fun H ⟨acc, q1, q2, q3, q4⟩ => hd H acc q3 q1 q2 q4
/-- a name as the target -/
theorem lcLn {j : Nat} (R : Nat → V → Hp → Prop) (hR : ∀ i y H H', Kp H H' → R i y H → R i y H') (hD : H1 Dd = none) (hx : SqL K H1 a xs) (hz : xs.length ≤ 100000)
    (hw : ∀ x, wipe ((wipe σ vs).set j (some x)) vs = wipe σ vs)
    (hs : ∀ (i : Nat) x H, xs[i]? = some x → Ex H1 H → tmE te ((wipe σ vs).set j (some x)) H fun y H4 => Ex H H4 ∧ R i y H4)
    (hd : LcEnd H1 Dd xs.length R Q) : LcW (Itl K a) (gName j) tYes (tmE te) vs σ H1 Dd Q :=
  lcL (J0 := True) R hR hD hx hz (fun i x H hi e => ⟨hw x, hs i x H hi e⟩) (fun _ _ _ _ _ _ h q => h _ _ q) hd
theorem lcTn {j : Nat} (R : Nat → V → Hp → Prop) (hR : ∀ i y H H', Kp H H' → R i y H → R i y H') (hD : H1 Dd = none) (hx : SqT K H1 a xs) (hz : xs.length ≤ 100000)
    (hw : ∀ x, wipe ((wipe σ vs).set j (some x)) vs = wipe σ vs)
    (hs : ∀ (i : Nat) x H, xs[i]? = some x → Ex H1 H → tmE te ((wipe σ vs).set j (some x)) H fun y H4 => Ex H H4 ∧ R i y H4)
    (hd : LcEnd H1 Dd xs.length R Q) : LcW (Itt K a) (gName j) tYes (tmE te) vs σ H1 Dd Q :=
  lcT R hR hD hx hz (fun i x H hi e => ⟨hw x, hs i x H hi e⟩) (fun _ _ _ _ _ _ h q => h _ _ q) hd
end
section
variable {K : PySem.W.Frag} {H : Hp} {Q : VK} {p : Addr} {xs : List V} {i : Int} {v : V}
theorem q_ixL (h : SqL K H p xs) (e : atI xs i = some v) (q : Q v H) : rIxL K (.ref p) (.int i) H Q := ⟨p, xs, i, v, rfl, rfl, h, e, q⟩
theorem q_ixT (h : SqT K H p xs) (e : atI xs i = some v) (q : Q v H) : rIxT K (.ref p) (.int i) H Q := ⟨p, xs, i, v, rfl, rfl, h, e, q⟩
theorem at_int {ns : List Int} {i : Int} (h0 : 0 ≤ i) (h : i < ns.length) : ∃ z, ns[i.toNat]? = some z ∧ atI (ns.map V.int) i = some (.int z) := by
  obtain ⟨n, rfl⟩ := Int.eq_ofNat_of_zero_le h0
  have hn : n < ns.length := by omega
  refine ⟨ns[n], by simp [hn], at_of (j := n) rfl ?_⟩
  simp [hn]
/-- products: both together short, or one of them small -/
def CMulS (i j : Int) : Prop := CMulX i j ∨ CMul i j
theorem op_mulS {X : Cx} : OpR X (binaryOp .Mult) (rI CMulS fun i j => .int (i * j)) := fun pins s σ H x y v u Q I rx ry ⟨i, j, e1, e2, c, q⟩ =>
  c.elim (fun c => op_mulX pins s σ H x y v u Q I rx ry ⟨i, j, e1, e2, c, q⟩) fun c => op_mul pins s σ H x y v u Q I rx ry ⟨i, j, e1, e2, c, q⟩
theorem cmul {i j : Int} (a b : Nat) (ha : i.natAbs < 2 ^ a) (hb : j.natAbs < 2 ^ b) (h : a + b ≤ 134217728 := by decide) : CMulS i j := .inl (mulx_ok ha hb h)
theorem cmulL {i j : Int} (h1 : -(2 ^ 64) < i := by first | decide | omega) (h2 : i < 2 ^ 64 := by first | decide | omega) : CMulS i j := .inr (.inl ⟨h1, h2⟩)
theorem cmulR {i j : Int} (h1 : -(2 ^ 64) < j := by first | decide | omega) (h2 : j < 2 ^ 64 := by first | decide | omega) : CMulS i j := .inr (.inr ⟨h1, h2⟩)
theorem ints_cut {ns : List Int} {lo hi : Option Int} {x : V} (h : x ∈ cutV (ns.map V.int) lo hi) : ∃ z, x = .int z := by
  unfold cutV at h
  have h2 := List.mem_of_mem_drop (List.mem_of_mem_take h)
  obtain ⟨z, _, e⟩ := List.mem_map.mp h2
  exact ⟨z, e.symm⟩
theorem call_intN {X : Cx} : CallR X (.type "int") (fun xs H Q => ∃ i, xs = [V.int i] ∧ Q (.int i) H) :=
  CallR.imp call_int1 fun _ _ _ h => .inl h
theorem r_set {o i v : V} {S : Hp → Prop} : rSetL o i v H S = ∃ p xs k j, o = .ref p ∧ i = .int k ∧ H p = some (.lst xs) ∧ ixN xs.length k = some j ∧ S (upd H p (.lst (xs.set j v))) := rfl
theorem sizeLine_le {n : Nat} (h : n ≤ 1000000) : n ≤ sizeLine := Nat.le_trans h (by decide)
end

/-! fractions in lowest terms are rational numbers; plain counts -/

/-- a fraction as a tuple's items -/
def fr (r : Rat) : List V := [.int r.num, .int ((r.den : Nat) : Int)]
def frD (r : Rat) : PyData := .tuple [.int r.num, .int ((r.den : Nat) : Int)]
/-- both parts below 2 ^ n -/
def sz (r : Rat) (n : Nat) : Prop := r.num.natAbs < 2 ^ n ∧ r.den < 2 ^ n

theorem nac {k : Int} (hk : 0 < k) : ((k.natAbs : Nat) : Int) = k := by omega
theorem div_num {t b : Int} (hb : 0 < b) : ((t : Rat) / (b : Rat)).num = t / ((Int.gcd b t : Nat) : Int) := by
  rw [← Rat.divInt_eq_div, Rat.num_divInt, Int.sign_eq_one_of_pos hb, Int.one_mul]
theorem div_den {t b : Int} (hb : 0 < b) : ((((t : Rat) / (b : Rat)).den : Nat) : Int) = b / ((Int.gcd b t : Nat) : Int) := by
  rw [← Rat.divInt_eq_div, Rat.den_divInt, if_neg (by omega), Int.natCast_ediv, nac hb]
theorem part_eq {t b : Int} (hb : 0 < b) : [V.int (t / ((Int.gcd b t : Nat) : Int)), V.int (b / ((Int.gcd b t : Nat) : Int))] = fr ((t : Rat) / (b : Rat)) := by
  unfold fr
  rw [div_num hb, div_den hb]
theorem natAbs_div_le (t : Int) (g : Nat) : (t / (g : Int)).natAbs ≤ t.natAbs ∨ g = 0 := by
  by_cases h : g = 0
  · exact .inr h
  · left
    have := Int.natAbs_ediv_le_natAbs t (g : Int)
    omega
theorem sz_div {t b : Int} {n : Nat} (hb : 0 < b) (h1 : t.natAbs < 2 ^ n) (h2 : b.natAbs < 2 ^ n) : sz ((t : Rat) / (b : Rat)) n := by
  have q1 := Int.natAbs_ediv_le_natAbs t ((Int.gcd b t : Nat) : Int)
  have q2 := Int.natAbs_ediv_le_natAbs b ((Int.gcd b t : Nat) : Int)
  have e1 := div_num (t := t) hb
  have e2 := div_den (t := t) hb
  constructor
  · rw [e1]
    omega
  · have : (((t : Rat) / (b : Rat)).den) = (b / ((Int.gcd b t : Nat) : Int)).natAbs := by
      rw [← e2]
      simp
    omega
theorem sz_mono {r : Rat} {n m : Nat} (h : sz r n) (e : n ≤ m) : sz r m :=
  ⟨Nat.lt_of_lt_of_le h.1 (Nat.pow_le_pow_right (by decide) e), Nat.lt_of_lt_of_le h.2 (Nat.pow_le_pow_right (by decide) e)⟩
theorem den_pos (r : Rat) : (0 : Int) < ((r.den : Nat) : Int) := by
  have := r.den_pos
  omega
theorem add_parts (s r : Rat) : (((s.num * ((r.den : Nat) : Int) + r.num * ((s.den : Nat) : Int) : Int) : Rat)) / (((((s.den : Nat) : Int) * ((r.den : Nat) : Int) : Int)) : Rat) = s + r := by
  rw [Rat.add_def', Rat.mkRat_eq_div]
  congr 1
theorem mul_parts (s r : Rat) : (((s.num * r.num : Int) : Rat)) / (((((s.den : Nat) : Int) * ((r.den : Nat) : Int) : Int)) : Rat) = s * r := by
  rw [Rat.mul_def', Rat.mkRat_eq_div]
  congr 1
theorem add_lt2 {a b : Int} {n : Nat} (h1 : a.natAbs < 2 ^ n) (h2 : b.natAbs < 2 ^ n) : (a + b).natAbs < 2 ^ (n + 1) := by
  have : (2 : Nat) ^ (n + 1) = 2 ^ n + 2 ^ n := by rw [Nat.pow_succ]; omega
  omega
theorem lt2_mono {a : Int} {n m : Nat} (h : a.natAbs < 2 ^ n) (e : n ≤ m) : a.natAbs < 2 ^ m := Nat.lt_of_lt_of_le h (Nat.pow_le_pow_right (by decide) e)
theorem den_lt {r : Rat} {n : Nat} (h : sz r n) : (((r.den : Nat) : Int)).natAbs < 2 ^ n := by
  have := h.2
  simpa using this
theorem sz_add {s r : Rat} {n m : Nat} (h1 : sz s n) (h2 : sz r m) : sz (s + r) (n + m + 1) := by
  rw [← add_parts]
  refine sz_div (Int.mul_pos (den_pos s) (den_pos r)) ?_ ?_
  · refine add_lt2 (wide_lt h1.1 (den_lt h2)) ?_
    rw [Nat.add_comm]
    exact wide_lt h2.1 (den_lt h1)
  · exact lt2_mono (wide_lt (den_lt h1) (den_lt h2)) (by omega)
theorem sz_mul {s r : Rat} {n m : Nat} (h1 : sz s n) (h2 : sz r m) : sz (s * r) (n + m) := by
  rw [← mul_parts]
  exact sz_div (Int.mul_pos (den_pos s) (den_pos r)) (wide_lt h1.1 h2.1) (wide_lt (den_lt h1) (den_lt h2))
/-- the sum, from the left -/
def sumR (rs : List Rat) : Rat := rs.foldl (· + ·) 0
theorem sumR_take {rs : List Rat} {i : Nat} {r : Rat} (h : rs[i]? = some r) : sumR (rs.take (i + 1)) = sumR (rs.take i) + r := by
  unfold sumR
  rw [List.take_add_one, h]
  simp
theorem sz_sum {n : Nat} : ∀ (rs : List Rat) (i : Nat), (∀ r ∈ rs, sz r n) → i ≤ rs.length → sz (sumR (rs.take i)) (i * (n + 1) + 1)
  | rs, 0, _, _ => by
    have e : 2 ^ (0 * (n + 1) + 1) = 2 := by rw [Nat.zero_mul]
    simp only [List.take_zero]
    unfold sz
    rw [e]
    constructor <;> decide
  | rs, i + 1, h, hi => by
    have hr : rs[i]? = some rs[i] := List.getElem?_eq_getElem (by omega)
    rw [sumR_take hr]
    refine sz_mono (sz_add (sz_sum rs i h (by omega)) (h _ (List.getElem_mem _))) ?_
    rw [Nat.add_mul]
    omega

/-! ### plain counts -/
def gcdL (cs : List Int) : Nat := cs.foldl (fun (g : Nat) c => Int.gcd (g : Int) c) 0
def plainL (cs : List Int) : List Int := cs.map fun c => c / ((gcdL cs : Nat) : Int)
theorem gcdL_take {cs : List Int} {i : Nat} {c : Int} (h : cs[i]? = some c) : gcdL (cs.take (i + 1)) = Int.gcd ((gcdL (cs.take i) : Nat) : Int) c := by
  unfold gcdL
  rw [List.take_add_one, h]
  simp
theorem gcdF_dvd : ∀ (cs : List Int) (g : Nat), cs.foldl (fun (g : Nat) c => Int.gcd (g : Int) c) g ∣ g ∧ ∀ c ∈ cs, ((cs.foldl (fun (g : Nat) c => Int.gcd (g : Int) c) g : Nat) : Int) ∣ c
  | [], g => ⟨Nat.dvd_refl _, fun _ h => by simp at h⟩
  | c :: cs, g => by
    obtain ⟨h1, h2⟩ := gcdF_dvd cs (Int.gcd (g : Int) c)
    have d1 : Int.gcd (g : Int) c ∣ g := by
      have := Int.gcd_dvd_left (a := (g : Int)) (b := c)
      exact Int.ofNat_dvd.mp this
    have d2 : ((Int.gcd (g : Int) c : Nat) : Int) ∣ c := Int.gcd_dvd_right ..
    refine ⟨Nat.dvd_trans h1 d1, fun x hx => ?_⟩
    rcases List.mem_cons.mp hx with rfl | hx
    · exact Int.dvd_trans (Int.ofNat_dvd.mpr h1) d2
    · exact h2 x hx
theorem gcdL_dvd {cs : List Int} {c : Int} (h : c ∈ cs) : ((gcdL cs : Nat) : Int) ∣ c := (gcdF_dvd cs 0).2 c h
theorem dvd_gcdF : ∀ (cs : List Int) (g d : Nat), d ∣ g → (∀ c ∈ cs, (d : Int) ∣ c) → d ∣ cs.foldl (fun (g : Nat) c => Int.gcd (g : Int) c) g
  | [], g, d, h, _ => h
  | c :: cs, g, d, h, hc => by
    refine dvd_gcdF cs _ d ?_ fun x hx => hc x (List.mem_cons_of_mem _ hx)
    exact Int.dvd_gcd (Int.ofNat_dvd.mpr h) (hc c List.mem_cons_self)
theorem dvd_gcdL {cs : List Int} {d : Nat} (h : ∀ c ∈ cs, (d : Int) ∣ c) : d ∣ gcdL cs := dvd_gcdF cs 0 d (Nat.dvd_zero d) h
/-- the common divisor is told by its divisors -/
theorem gcdL_eq {cs : List Int} {g : Nat} (h1 : ∀ c ∈ cs, (g : Int) ∣ c) (h2 : ∀ d : Nat, (∀ c ∈ cs, (d : Int) ∣ c) → d ∣ g) : gcdL cs = g :=
  Nat.dvd_antisymm (h2 _ fun _ hc => gcdL_dvd hc) (dvd_gcdL h1)
theorem gcdL_pos {cs : List Int} (h : ∃ c ∈ cs, c ≠ 0) : 0 < gcdL cs := by
  obtain ⟨c, hc, hn⟩ := h
  apply Nat.pos_of_ne_zero
  intro z
  have := gcdL_dvd hc
  rw [z] at this
  exact hn (Int.zero_dvd.mp this)
theorem gcdL_le {cs : List Int} {c : Int} (hc : c ∈ cs) (h : 0 < c) : ((gcdL cs : Nat) : Int) ≤ c := Int.le_of_dvd h (gcdL_dvd hc)
/-- so many times as great -/
theorem gcdL_scale (cs : List Int) {k : Int} (hk : 0 < k) : ((gcdL (cs.map (k * ·)) : Nat) : Int) = k * ((gcdL cs : Nat) : Int) := by
  have key : gcdL (cs.map (k * ·)) = k.natAbs * gcdL cs := by
    apply gcdL_eq
    · intro c hc
      obtain ⟨x, hx, rfl⟩ := List.mem_map.mp hc
      rw [Int.natCast_mul, nac hk]
      exact Int.mul_dvd_mul_left k (gcdL_dvd hx)
    · intro d hd
      have kd : k.natAbs ∣ gcdL (cs.map (k * ·)) := by
        apply dvd_gcdL
        intro c hc
        obtain ⟨x, hx, rfl⟩ := List.mem_map.mp hc
        rw [nac hk]
        exact Int.dvd_mul_right k x
      obtain ⟨m, hm⟩ := kd
      have hm2 : m ∣ gcdL cs := by
        apply dvd_gcdL
        intro c hc
        have h1 := gcdL_dvd (cs := cs.map (k * ·)) (c := k * c) (List.mem_map.mpr ⟨c, hc, rfl⟩)
        rw [hm, Int.natCast_mul, nac hk] at h1
        exact Int.dvd_of_mul_dvd_mul_left (by omega) h1
      have h3 : d ∣ gcdL (cs.map (k * ·)) := dvd_gcdL hd
      rw [hm] at h3
      exact Nat.dvd_trans h3 (Nat.mul_dvd_mul_left _ hm2)
  rw [key, Int.natCast_mul, nac hk]
theorem plainL_scale (cs : List Int) {k : Int} (hk : 0 < k) : plainL (cs.map (k * ·)) = plainL cs := by
  unfold plainL
  rw [List.map_map, gcdL_scale cs hk]
  apply List.map_congr_left
  intro c _
  exact Int.mul_ediv_mul_of_pos _ _ hk
theorem plainL_len (cs : List Int) : (plainL cs).length = cs.length := List.length_map _
/-- the counts are so many times the plain ones -/
theorem plainL_mul (cs : List Int) : (plainL cs).map (((gcdL cs : Nat) : Int) * ·) = cs := by
  unfold plainL
  rw [List.map_map]
  conv => rhs; rw [← List.map_id cs]
  apply List.map_congr_left
  intro c hc
  exact Int.mul_ediv_cancel' (gcdL_dvd hc)
theorem plainL_plain (cs : List Int) (h : 0 < gcdL cs) : gcdL (plainL cs) = 1 := by
  have e := gcdL_scale (plainL cs) (k := ((gcdL cs : Nat) : Int)) (by omega)
  rw [plainL_mul] at e
  have hp : (0 : Int) < ((gcdL cs : Nat) : Int) := by omega
  have : ((gcdL cs : Nat) : Int) * 1 = ((gcdL cs : Nat) : Int) * ((gcdL (plainL cs) : Nat) : Int) := by rw [Int.mul_one]; exact e
  have := Int.eq_of_mul_eq_mul_left (by omega) this
  omega
theorem plainL_twice (cs : List Int) (h : 0 < gcdL cs) : plainL (plainL cs) = plainL cs := by
  have e := plainL_plain cs h
  conv => lhs; unfold plainL
  rw [show gcdL (List.map (fun c => c / ((gcdL cs : Nat) : Int)) cs) = 1 from e]
  simp [plainL]
/-- counts in one proportion are alike -/
theorem plainL_prop {cs ds : List Int} {a b : Int} (ha : 0 < a) (hb : 0 < b) (h : cs.map (a * ·) = ds.map (b * ·)) : plainL cs = plainL ds := by
  rw [← plainL_scale cs ha, h, plainL_scale ds hb]

/-! data that can be shown and compared -/
/-- d can be laid, shown within c signs, compared; k deep -/
structure Gd (d : PyData) (k c : Nat) : Prop where
  lay : d.canLay0 = true
  sh : d.showable = true
  nd : d.hasDict = false
  dp : d.depth ≤ k
  co : costD d ≤ c
theorem Gd.int {i : Int} (h : i.natAbs.log2 < 1920) : Gd (.int i) 0 1930 :=
  ⟨by simp [PyData.canLay0], by simp [PyData.showable, h], by simp [PyData.hasDict], Nat.le_of_eq (by simp [PyData.depth]), Nat.le_of_eq (by simp [costD])⟩
theorem Gd.bool (b : Bool) : Gd (.bool b) 0 1930 :=
  ⟨by simp [PyData.canLay0], by simp [PyData.showable], by simp [PyData.hasDict], Nat.le_of_eq (by simp [PyData.depth]), by simp [costD]⟩
theorem gds {k c : Nat} : ∀ {ds : List PyData}, (∀ d ∈ ds, Gd d k c) → PyData.canLayAll0 ds = true ∧ PyData.showableAll ds = true ∧ PyData.hasDictAll ds = false ∧ PyData.depthAll ds ≤ k ∧ costs ds ≤ ds.length * (c + 2)
  | [], _ => ⟨by simp [PyData.canLayAll0], by simp [PyData.showableAll], by simp [PyData.hasDictAll], by simp [PyData.depthAll], by simp [costs]⟩
  | d :: ds, h => by
    obtain ⟨h1, h2, h3, h4, h5⟩ := gds fun x hx => h x (List.mem_cons_of_mem _ hx)
    obtain ⟨g1, g2, g3, g4, g5⟩ := h d List.mem_cons_self
    refine ⟨by simp [PyData.canLayAll0, g1, h1], by simp [PyData.showableAll, g2, h2], by simp [PyData.hasDictAll, g3, h3], ?_, ?_⟩
    · simp only [PyData.depthAll]
      omega
    · simp only [costs, List.length_cons]
      rw [Nat.add_mul]
      omega
theorem Gd.tuple {k c n : Nat} {ds : List PyData} (h : ∀ d ∈ ds, Gd d k c) (hn : ds.length ≤ n) : Gd (.tuple ds) (k + 1) (n * (c + 2) + 3) := by
  obtain ⟨h1, h2, h3, h4, h5⟩ := gds h
  refine ⟨by simpa [PyData.canLay0] using h1, by simpa [PyData.showable] using h2, by simpa [PyData.hasDict] using h3, ?_, ?_⟩
  · simp only [PyData.depth]
    omega
  · simp only [costD]
    have := Nat.mul_le_mul_right (c + 2) hn
    omega
theorem Gd.list {k c n : Nat} {ds : List PyData} (h : ∀ d ∈ ds, Gd d k c) (hn : ds.length ≤ n) : Gd (.list ds) (k + 1) (n * (c + 2) + 3) := by
  obtain ⟨h1, h2, h3, h4, h5⟩ := gds h
  refine ⟨by simpa [PyData.canLay0] using h1, by simpa [PyData.showable] using h2, by simpa [PyData.hasDict] using h3, ?_, ?_⟩
  · simp only [PyData.depth]
    omega
  · simp only [costD]
    have := Nat.mul_le_mul_right (c + 2) hn
    omega
theorem Gd.mono {d : PyData} {k c k' c' : Nat} (h : Gd d k c) (hk : k ≤ k') (hc : c ≤ c') : Gd d k' c' := ⟨h.lay, h.sh, h.nd, Nat.le_trans h.dp hk, Nat.le_trans h.co hc⟩
theorem Gd.shaped {d : PyData} {k c : Nat} (h : Gd d k c) (hk : k ≤ 64) : SeqAt.shaped d = true := by
  unfold SeqAt.shaped
  rw [h.lay]
  simp only [Bool.true_and, decide_eq_true_eq]
  exact Nat.le_trans h.dp hk
theorem log1920 {i : Int} (h : i.natAbs < 2 ^ 1900) : i.natAbs.log2 < 1920 := Nat.lt_of_lt_of_le (PySem.Flt.log2_lt_of (k := 1900) (by decide) h) (show 1900 ≤ 1920 by decide)
theorem gd_ints {cs : List Int} {n : Nat} (hn : cs.length ≤ n) (h : ∀ c ∈ cs, c.natAbs < 2 ^ 1900) : Gd (.tuple (cs.map PyData.int)) 1 (n * 1932 + 3) :=
  Gd.tuple (k := 0) (c := 1930) (fun d hd => by
    obtain ⟨c, hc, rfl⟩ := List.mem_map.mp hd
    exact .int (log1920 (h c hc))) (by rw [List.length_map]; exact hn)
theorem gd_fr {r : Rat} (h : sz r 1900) : Gd (frD r) 1 4000 := by
  have g : Gd (.tuple [.int r.num, .int ((r.den : Nat) : Int)]) 1 (2 * (1930 + 2) + 3) :=
    Gd.tuple (k := 0) (c := 1930) (n := 2) (fun d hd => by
      simp only [List.mem_cons, List.not_mem_nil, or_false] at hd
      rcases hd with rfl | rfl
      · exact .int (log1920 h.1)
      · exact .int (log1920 (den_lt h))) (Nat.le_refl 2)
  exact g.mono (Nat.le_refl 1) (by decide)
section
variable {X : Cx}
def rReprG (K : PySem.W.Frag) : List V → Hp → VK → Prop := fun vs H Q => ∃ v d k c, vs = [v] ∧ Dp K H v d ∧ (∃ a, v = V.ref a) ∧ Gd d k c ∧ k ≤ 20 ∧ c ≤ 10000000 ∧ Q (.str d.shown) H
theorem cr_reprG (hg : X.A.guards = some []) (hu : X.A.units + 64 < cLine) : CallR X (.builtin "repr") (rReprG X.K) :=
  CallR.imp (cr_repr hg hu) fun vs H Q ⟨v, d, k, c, e, h, ⟨a, ea⟩, g, hk, hc, q⟩ =>
    ⟨a, d, by rw [e, ea], by rw [← ea]; exact h, g.sh, g.nd, Nat.le_trans g.dp hk, Nat.le_trans g.co (Nat.le_trans hc (by decide)), q⟩
end

/-! ### the rules with the written part named: their readings do not hang on a block -/
section
variable {X : Cx} {K : PySem.W.Frag}
theorem ixL (h : X.K = K := by rfl) : IxR X (rIxL K) := by
  subst h
  exact ix_list
theorem ixT (h : X.K = K := by rfl) : IxR X (rIxT K) := by
  subst h
  exact ix_tup
def rLen (K : PySem.W.Frag) : List V → Hp → VK → Prop := fun xs H Q => ∃ p ys, xs = [.ref p] ∧ (SqL K H p ys ∨ SqT K H p ys) ∧ Q (.int ys.length) H
theorem kLen (h : X.K = K := by rfl) : CallR X (.builtin "len") (rLen K) := by
  subst h
  exact call_len_seq
theorem kSum (hc : X.calm = true) (h : X.K = K := by rfl) : CallR X (.builtin "sum") (rSumN K) := by
  subst h
  exact cr_sumN hc
theorem kAll (hc : X.calm = true) (h : X.K = K := by rfl) : CallR X (.builtin "all") (rAll K) := by
  subst h
  exact cr_all hc
theorem kTuple (h : X.K = K := by rfl) : CallR X (.type "tuple") (rTupleN K) := by
  subst h
  exact call_tupleN
theorem kList (h : X.K = K := by rfl) : CallR X (.type "list") (rListN K) := by
  subst h
  exact call_list_ofN
theorem kRepr (hg : X.A.guards = some []) (hu : X.A.units + 64 < cLine) (h : X.K = K := by rfl) : CallR X (.builtin "repr") (rReprG K) := by
  subst h
  exact cr_reprG hg hu
theorem kIsi (h : X.K = K := by rfl) : CallR X (.builtin "isinstance") (rIsi K) := by
  subst h
  exact call_isi
theorem kNe (hu : X.A.units + 64 < cLine) (h : X.K = K := by rfl) : OpR X (compareOp .NotEq) (rNeN K) := by
  subst h
  exact op_neDN hu
theorem kEq (hu : X.A.units + 64 < cLine) (h : X.K = K := by rfl) : OpR X (compareOp .Eq) (rEqN K) := by
  subst h
  exact op_eqDN hu
theorem slL (h : X.K = K := by rfl) : L2.SlR X (rSlN K) := by
  subst h
  exact sl_listN
theorem kFld {e : Expr} {f : Str} {pos : Pos} {ta : TE} (he : PE X e ta) (hb : attributeBase e f X.env (eval e X.env) = eval e X.env) (h : X.K = K := by rfl) : PE X (.Attribute e f pos) (tFld K ta f) := by
  subst h
  exact pe_fld he hb
theorem r_len {xs : List V} {H : Hp} {Q : VK} : rLen K xs H Q = ∃ p ys, xs = [.ref p] ∧ (SqL K H p ys ∨ SqT K H p ys) ∧ Q (.int ys.length) H := rfl
end

/-! zip of lists and tuples in any order; comb, lcm; words alone; a tuple turned about -/

/-- a list (true) or a tuple -/
def SqB (K : PySem.W.Frag) : Bool → Hp → Addr → List V → Prop
  | true => SqL K
  | false => SqT K
def IsB : Bool → Heap → Addr → Array Value → Prop
  | true => Heap.IsList
  | false => Heap.IsTuple
def ItB : Bool → Heap → Addr → Addr → Nat → Prop
  | true => Heap.IsListIter
  | false => Heap.IsTupleIter
def oB : Bool → Addr → Obj
  | true, l => { cls := .type "list_iterator", data := .fields #[.ref l, .int 0 0] }
  | false, l => { cls := .type "tuple_iterator", data := .fields #[.ref l, .int 0 0] }
theorem sqB_kp {K : PySem.W.Frag} {k : Bool} {H H' : Hp} {a : Addr} {xs : List V} (h : SqB K k H a xs) (e : Ex H H') : SqB K k H' a xs := by
  cases k
  · exact sqT_kp h e.kp
  · exact sqL_ex h e
theorem side {X : Cx} {pins : List (Addr × Obj)} {σ : L2.St} {H : Hp} {s : Shared} {k : Bool} {a : Addr} {xs : List V} (I : Inv X pins σ H s) (h : SqB X.K k H a xs) :
    ∃ its : List Value, Vals xs its ∧ IsB k s.heap a its.toArray ∧ a < s.heap.objs.size := by
  cases k
  · obtain ⟨its, rv, p, _⟩ := I.tuple h
    have p' : s.heap.IsTuple a its.toArray := p
    obtain ⟨_, e, _⟩ := id p'
    exact ⟨its, rv, p', Heap.lt_size e⟩
  · obtain ⟨its, rv, p, _⟩ := I.list h
    exact ⟨its, rv, p.isList, p.lt⟩
theorem sqB_inj {X : Cx} {pins : List (Addr × Obj)} {σ : L2.St} {H : Hp} {s : Shared} {k : Bool} {a : Addr} {xs ys : List V} (I : Inv X pins σ H s) (h : SqB X.K k H a xs) (h2 : SqB X.K k H a ys) : xs = ys := by
  cases k
  · exact I.tuple_inj h h2
  · exact I.list_inj h h2
theorem drawsB {prog : Program} {w : World} {A : Around} (k : Bool) (hh : A.handled = none) (it l : Addr) (hne : l ≠ it) (items : Array Value) :
    Draws prog w A it [it, l] items.size (fun i v => items[i]? = some v) (fun i h => ItB k h it l i ∧ IsB k h l items) := by
  cases k
  · exact Draws.tuple hh it l hne items
  · exact Draws.list hh it l hne items
theorem beginsB (k : Bool) (l : Addr) (items : Array Value) : Begins (.ref l) (oB k l) (fun h => IsB k h l items) := by
  cases k
  · exact begins_tuple l items
  · exact begins_list l items
theorem itB_new {k : Bool} {h : Heap} {it l : Addr} (e : h.get? it = some (oB k l)) : ItB k h it l 0 := by
  cases k
  · exact ⟨_, e, rfl, rfl⟩
  · exact ⟨_, e, rfl, rfl⟩
theorem itB_at {k : Bool} {h h' : Heap} {it l : Addr} {i : Nat} (x : ItB k h it l i) (e : ∀ o, h.get? it = some o → h'.get? it = some o) : ItB k h' it l i := by
  cases k
  · exact Heap.IsTupleIter.at x e
  · exact Heap.IsListIter.at x e
theorem itB_obj {k : Bool} {h : Heap} {it l : Addr} {i : Nat} (x : ItB k h it l i) : ∃ o, h.get? it = some o ∧ ∃ fs, o.data = .fields fs := by
  cases k
  · obtain ⟨o, e, _, d⟩ := x
    exact ⟨o, e, _, d⟩
  · obtain ⟨o, e, _, d⟩ := x
    exact ⟨o, e, _, d⟩
theorem isB_ne {k k2 : Bool} {h : Heap} {a it l : Addr} {i : Nat} {xs : Array Value} (x : IsB k h a xs) (y : ItB k2 h it l i) : a ≠ it := by
  intro z
  subst z
  obtain ⟨o, e, fs, d⟩ := itB_obj y
  cases k
  · obtain ⟨o2, e2, _, _, d2⟩ := x
    rw [e2] at e
    cases e
    rw [d2] at d
    cases d
  · obtain ⟨o2, e2, _, _, d2⟩ := x
    rw [e2] at e
    cases e
    rw [d2] at d
    cases d

/-- both as they stand at each turn, the items in new pairs -/
def ItzB (K : PySem.W.Frag) (k1 k2 : Bool) (a b : Addr) : It :=
  ⟨fun i H => ∃ (xs ys : List V) (x y : V), (SqB K k1 H a xs ∧ SqB K k2 H b ys) ∧ xs[i]? = some x ∧ ys[i]? = some y,
    fun i H v H' => ∃ T x y, v = .ref T ∧ H T = none ∧ H' = upd H T (.tup [x, y]) ∧ (∀ xs, SqB K k1 H a xs → xs[i]? = some x) ∧ ∀ ys, SqB K k2 H b ys → ys[i]? = some y,
    fun i H => ∃ xs ys : List V, (SqB K k1 H a xs ∧ SqB K k2 H b ys) ∧ i = min xs.length ys.length⟩
def zSt (k1 k2 : Bool) (a b z TI TO i1 i2 : Addr) (i : Nat) (h : Heap) : Prop :=
  (IsZip h z TI TO .none ∧ IsTupOf2 h TI (.ref i1) (.ref i2)) ∧ (∃ x y, IsTupOf2 h TO x y) ∧ ItB k1 h i1 a i ∧ ItB k2 h i2 b i
theorem five {c z TI TO i1 i2 : Addr} (h : c ∈ [z, TI, TO, i1, i2]) : c = z ∨ c = TI ∨ c = TO ∨ c = i1 ∨ c = i2 := by
  simpa using h
theorem turn_zipB {P : Program} {w : World} {K : PySem.W.Frag} {elts : List Expr} {kk : Nat} {tpos : Pos} {k1 k2 : Bool} {a b z TI TO i1 i2 : Addr} (S : ZipSep2 z TI TO i1 i2 [i1, a] [i2, b]) :
    Turn P w K (.Tuple elts kk tpos) (ItzB K k1 k2 a b) [z, TI, TO, i1, i2] z (zSt k1 k2 a b z TI TO i1 i2) where
  mem := List.mem_cons_self ..
  obj := by
    intro i h st c hc
    obtain ⟨⟨hz, hTI⟩, ⟨x, y, hTO⟩, h1, h2⟩ := st
    obtain ⟨o1, e1, f1, d1⟩ := itB_obj h1
    obtain ⟨o2, e2, f2, d2⟩ := itB_obj h2
    rcases five hc with q | q | q | q | q <;> subst q
    · exact ⟨_, hz, fun v q => nomatch q⟩
    · exact ⟨_, hTI, fun v q => nomatch q⟩
    · exact ⟨_, hTO, fun v q => nomatch q⟩
    · refine ⟨o1, e1, fun v q => ?_⟩
      rw [d1] at q
      cases q
    · refine ⟨o2, e2, fun v q => ?_⟩
      rw [d2] at q
      cases q
  keep := by
    intro i h h' st k
    obtain ⟨⟨hz, hTI⟩, ⟨x, y, hTO⟩, h1, h2⟩ := st
    exact ⟨⟨k _ (by simp) _ hz, k _ (by simp) _ hTI⟩, ⟨x, y, k _ (by simp) _ hTO⟩, itB_at h1 fun o q => k _ (by simp) o q, itB_at h2 fun o q => k _ (by simp) o q⟩
  item := by
    intro X hP hw hK hc i pins s σ H E I hf st hg
    subst hP hw hK
    obtain ⟨⟨hz, hTI⟩, ⟨x0, y0, hTO⟩, h1, h2⟩ := st
    obtain ⟨xs, ys, x, y, ⟨qx, qy⟩, hx, hy⟩ := hg
    obtain ⟨us, rx, px, _⟩ := side I qx
    obtain ⟨vs, ry, py, _⟩ := side I qy
    have hzl : z < s.heap.objs.size := Heap.lt_size hz
    have lx : i < us.toArray.size := by
      have := (List.getElem?_eq_some_iff.mp hx).1
      have := rx.length
      simp
      omega
    have ly : i < vs.toArray.size := by
      have := (List.getElem?_eq_some_iff.mp hy).1
      have := ry.length
      simp
      omega
    have hh : X.A.in1.handled = none := I.ok.hd hc
    have D1 := drawsB (prog := X.prog) (w := X.w) k1 hh i1 a (isB_ne px h1) us.toArray
    have D2 := drawsB (prog := X.prog) (w := X.w) k2 hh i2 b (isB_ne py h2) vs.toArray
    refine wpAny_pyNext_zipD2_item S D1 D2 hz hTI hTO (show _ ∧ _ from ⟨h1, px⟩) (show _ ∧ _ from ⟨h2, py⟩) lx ly
      fun u v h' tk pu pv z' TO' s1' s2' hT hsz hk => ?_
    obtain ⟨u', eu, ru⟩ := rx.get hx
    obtain ⟨v', ev, rv⟩ := ry.get hy
    have eu2 : us.toArray[i]? = some u := pu
    have ev2 : vs.toArray[i]? = some v := pv
    rw [List.getElem?_toArray, eu] at eu2
    rw [List.getElem?_toArray, ev] at ev2
    cases eu2
    cases ev2
    refine ⟨_, rfl, wpAny_letOwnedTupleGo_zip (s := { s with heap := h', toks := tk }) z' fun h'' z'' sb => ?_⟩
    have away : ∀ c, c ≠ z → ∀ o, h'.get? c = some o → h''.get? c = some o := fun c n o q => (sb.2 c n).trans q
    have nT : s.heap.objs.size ≠ z := Nat.ne_of_gt hzl
    have new : ObjOk X.prog X.w (upd H s.heap.objs.size (.tup [x, y])) h'' s.heap.objs.size (.tup [x, y]) := by
      refine ⟨show 2 ≤ sizeLine by decide, [u, v], ?_, ⟨_, away _ nT _ hT, rfl, _, rfl⟩⟩
      exact .cons ru (.cons rv .nil)
    have I1 : Inv X pins σ (upd H s.heap.objs.size (.tup [x, y])) { s with heap := h'', toks := tk } := by
      refine I.turnedNew (t' := tk) (ch := [z, TI, TO, i1, i2]) (fun c o hb q => ?_) hf (Nat.le_refl _) new
      have nz : c ≠ z := fun e => hb (by simp [e])
      refine away c nz o (hk c o nz ?_ ?_ ?_ q)
      · exact fun e => hb (by simp [e])
      · exact fun e => hb (by simp [e])
      · exact fun e => hb (by simp [e])
    refine ⟨.ref s.heap.objs.size, _, I1, rfl, ⟨_, x, y, rfl, I.hok.fresh (Nat.le_refl _), rfl, fun l hl => ?_, fun l hl => ?_⟩, ⟨⟨z'', ?_⟩, ⟨u, v, away _ S.TOz _ TO'⟩, ?_, ?_⟩, fun c hcm => ?_⟩
    · rw [sqB_inj I hl qx]
      exact hx
    · rw [sqB_inj I hl qy]
      exact hy
    · exact away _ S.TIz _ (hk _ _ S.TIz S.TITO S.TIi1 S.TIi2 hTI)
    · exact itB_at s1'.1 fun o q => away _ (Ne.symm S.zi1) o q
    · exact itB_at s2'.1 fun o q => away _ (Ne.symm S.zi2) o q
    · have hlt : c < s.heap.objs.size := by
        obtain ⟨o1, e1, _⟩ := itB_obj h1
        obtain ⟨o2, e2, _⟩ := itB_obj h2
        rcases five hcm with q | q | q | q | q <;> subst q
        · exact hzl
        · exact Heap.lt_size hTI
        · exact Heap.lt_size hTO
        · exact Heap.lt_size e1
        · exact Heap.lt_size e2
      rw [upd_ne (Nat.ne_of_lt hlt)]
      exact (hf c hcm).1
  done := by
    intro X hP hw hK hc i pins s σ H E I hf st hg
    subst hP hw hK
    obtain ⟨⟨hz, hTI⟩, ⟨x0, y0, hTO⟩, h1, h2⟩ := st
    obtain ⟨xs, ys, ⟨qx, qy⟩, hi⟩ := hg
    obtain ⟨us, rx, px, _⟩ := side I qx
    obtain ⟨vs, ry, py, _⟩ := side I qy
    have lx : xs.length = us.toArray.size := by rw [List.size_toArray]; exact rx.length
    have ly : ys.length = vs.toArray.size := by rw [List.size_toArray]; exact ry.length
    have hh : X.A.in1.handled = none := I.ok.hd hc
    have D1 := drawsB (prog := X.prog) (w := X.w) k1 hh i1 a (isB_ne px h1) us.toArray
    have D2 := drawsB (prog := X.prog) (w := X.w) k2 hh i2 b (isB_ne py h2) vs.toArray
    refine wpAny_pyNext_zipD2_end (i := i) S D1 D2 hz hTI hTO (show _ ∧ _ from ⟨h1, px⟩) (show _ ∧ _ from ⟨h2, py⟩) (by omega) (by omega) (by omega)
      fun h' tk hk => ⟨rfl, ?_⟩
    refine I.turnedL (t' := tk) (ch := [z, TI, TO, i1, i2]) (fun c o hb q => hk c o ?_ ?_ ?_ ?_ q) hf
    · exact fun e => hb (by simp [e])
    · exact fun e => hb (by simp [e])
    · exact fun e => hb (by simp [e])
    · exact fun e => hb (by simp [e])
  self := fun A i s Q E st h => wpAny_pyIter_zip st.1.1 h

def iZipB (K : PySem.W.Frag) (ta : TA) : TI := fun σ H R => ta σ H fun vs H1 => ∃ k1 k2 a b xs ys, vs = [.ref a, .ref b] ∧ SqB K k1 H1 a xs ∧ SqB K k2 H1 b ys ∧ R (ItzB K k1 k2 a b) H1
theorem pi_zipB {X : Cx} {e e2 : Expr} {ta : TA} {p pos tpos : Pos} {elts : List Expr} {kk : Nat} (hg : Gl X "zip") (hm : X.mg "zip" = none) (ha : PA X [e, e2] ta)
    (hs : starEach [e, e2] X.env = (false, eval e X.env) :: starEach [e2] X.env := by rfl) (hpl : (backTo pos (starEach [e2] X.env)).any (·.1) = false := by rfl) :
    PI X (.Tuple elts kk tpos) (.Call (.Name "zip" p) [e, e2] [] pos) (iZipB X.K ta) := by
  refine ⟨fun pins s σ H R I h => ?_⟩
  refine Call_ (ld_blt I hg hm PyProof.Rows.boot_zip ?_)
  refine PyProof.Rows.callWith_type1 (thn (ha.run pos pins s σ H _ I h) fun us s1 ⟨vs, H1, I1, r1, q1⟩ => ?_) hs hpl
  obtain ⟨k1, k2, a, b, xs, ys, ex, qx, qy, q⟩ := q1
  subst ex
  cases r1 with
  | cons r rr =>
    cases rr with
    | cons r' rr =>
      cases rr
      cases r
      cases r'
      obtain ⟨ws, rx, px, la⟩ := side I1 qx
      obtain ⟨zs, ry, py, lb⟩ := side I1 qy
      refine zip_begins2 (beginsB k1 a ws.toArray) (beginsB k2 b zs.toArray) px py fun h' hz hTI hTO o1 o2 hsz hk => wpAny_pyIter_zip hz ?_
      have I2 : Inv X pins σ H1 { s1 with heap := h' } := I1.kept (t' := s1.toks) hk
      have S := zip_sep2 (N := s1.heap.objs.size) (fp1 := [a]) (fp2 := [b]) (by simpa using la) (by simpa using lb)
      refine ⟨_, _, _, _, H1, rfl, I2, turn_zipB (k1 := k1) (k2 := k2) S, ⟨⟨hz, hTI⟩, ⟨_, _, hTO⟩, itB_new o1, itB_new o2⟩, fun c hcm => ?_, q⟩
      have hle : s1.heap.objs.size ≤ c := by
        rcases five hcm with e | e | e | e | e <;> subst e
        · exact Nat.le_add_right _ _
        · exact Nat.le_add_right _ _
        · exact Nat.le_add_right _ _
        · exact Nat.le_refl _
        · exact Nat.le_add_right _ _
      exact I1.fpOk hle (I1.hok.fresh hle)
theorem walk_zipB {K : PySem.W.Frag} {k1 k2 : Bool} {a b : Addr} {xs ys : List V} {n : Nat} (hn : n = min xs.length ys.length) :
    Walk (ItzB K k1 k2 a b) n (fun H => SqB K k1 H a xs ∧ SqB K k2 H b ys) (YPair (fun i => xs[i]?) (fun i => ys[i]?)) := by
  subst hn
  refine ⟨fun i _ hi q => ?_, fun _ q => ⟨xs, ys, q, rfl⟩, fun i H v H' _ q y => ?_⟩
  · have h1 : i < xs.length := by omega
    have h2 : i < ys.length := by omega
    exact ⟨xs, ys, xs[i], ys[i], q, by simp [h1], by simp [h2]⟩
  · obtain ⟨T, x, z, h1, h2, h3, h4, h5⟩ := y
    exact ⟨T, x, z, h1, h2, h3, h4 xs q.1, h5 ys q.2⟩
theorem kZip {X : Cx} {K : PySem.W.Frag} {e e2 : Expr} {ta : TA} {p pos tpos : Pos} {elts : List Expr} {kk : Nat} (hg : Gl X "zip") (hm : X.mg "zip" = none) (ha : PA X [e, e2] ta) (h : X.K = K := by rfl)
    (hs : starEach [e, e2] X.env = (false, eval e X.env) :: starEach [e2] X.env := by rfl) (hpl : (backTo pos (starEach [e2] X.env)).any (·.1) = false := by rfl) :
    PI X (.Tuple elts kk tpos) (.Call (.Name "zip" p) [e, e2] [] pos) (iZipB K ta) := by
  subst h
  exact pi_zipB hg hm ha hs hpl
theorem kEnumT {X : Cx} {K : PySem.W.Frag} {e : Expr} {ta : TA} {p pos tpos : Pos} {elts : List Expr} {kk : Nat} (hg : Gl X "enumerate") (hm : X.mg "enumerate" = none) (ha : PA X [e] ta) (h : X.K = K := by rfl)
    (hs : starEach [e] X.env = [(false, eval e X.env)] := by rfl) :
    PI X (.Tuple elts kk tpos) (.Call (.Name "enumerate" p) [e] [] pos) (iEnumT K ta) := by
  subst h
  exact pi_enumT hg hm ha hs

section
variable {g : TG} {te : TE} {vs : List Nat} {σ : L2.St} {H H1 : Hp} {Dd : Addr} {Q : VK} {K : PySem.W.Frag} {D : Ends}
/-! ### targets pass what is wanted on -/
def GMono (g : TG) : Prop := ∀ v σ H S S', (∀ σ2 H2, S σ2 H2 → S' σ2 H2) → g v σ H S → g v σ H S'
def GsMono (g : TGs) : Prop := ∀ v σ H S S', (∀ σ2 H2, S σ2 H2 → S' σ2 H2) → g v σ H S → g v σ H S'
theorem gm_name {i : Nat} : GMono (gName i) := fun _ _ _ _ _ h q => h _ _ q
theorem gm_nil : GsMono gNil := fun _ _ _ _ _ h q => ⟨q.1, h _ _ q.2⟩
theorem gm_cons {t : TG} {u : TGs} (a : GMono t) (b : GsMono u) : GsMono (gCons t u) := fun _ σ H S S' h ⟨v, r, e, q⟩ =>
  ⟨v, r, e, a _ _ _ _ _ (fun σ2 H2 z => b _ _ _ _ _ h z) q⟩
theorem gm_tup {n : Nat} {t : TGs} (a : GsMono t) : GMono (gTup K n t) := fun _ σ H S S' h ⟨p, xs, e, q, l, z⟩ => ⟨p, xs, e, q, l, a _ _ _ _ _ h z⟩
/-! ### loops and comprehensions over pairs -/
theorem loopZ {k1 k2 : Bool} {a b : Addr} {xs ys : List V} {n : Nat} {tb : TS} (hn : n = min xs.length ys.length) (Pv : Nat → L2.St → Hp → Prop) (h0 : Pv 0 σ H) (hl : ∀ i σ H, i ≤ n → Pv i σ H → SqB K k1 H a xs ∧ SqB K k2 H b ys)
    (hs : ∀ i x y σ H T H', xs[i]? = some x → ys[i]? = some y → Pv i σ H → Ex H H' → H' T = some (.tup [x, y]) → g (.ref T) σ H' fun σ2 H2 => tb { nx := Pv (i + 1), rt := D.rt, bk := D.nx, ct := Pv (i + 1) } σ2 H2)
    (hd : ∀ σ H, Pv n σ H → D.nx σ H) : LoopW (ItzB K k1 k2 a b) g tb D σ H :=
  for_it (walk_zipB hn) Pv h0 hl (fun i v σ H H' hi hp y => by
    obtain ⟨T, x, z, rfl, hn, rfl, h1, h2⟩ := y
    exact hs i x z σ H T _ h1 h2 hp (Ex.new hn) upd_same) hd
theorem lcP {J : It} {n : Nat} {G : Hp → Prop} {fx fy : Nat → Option V} (w : Walk J n G (YPair fx fy)) (R : Nat → V → Hp → Prop) (hR : ∀ i y H H', Kp H H' → R i y H → R i y H') (hD : H1 Dd = none) (hG : ∀ H, Ex H1 H → G H) (hz : n ≤ 100000)
    (hm : GMono g)
    (hs : ∀ (i : Nat) x y T H, i < n → fx i = some x → fy i = some y → Ex H1 H → H T = some (.tup [x, y]) → g (.ref T) (wipe σ vs) H fun σ2 H2 => wipe σ2 vs = wipe σ vs ∧ tmE te σ2 H2 fun y H4 => Ex H H4 ∧ R i y H4)
    (hd : LcEnd H1 Dd n R Q) : LcW J g tYes (tmE te) vs σ H1 Dd Q :=
  lc_it (Qd := fun H => Q (.ref Dd) H) w (LcJ H1 Dd R) (lcJ_start hD) (fun i H _ ⟨_, _, _, e, _⟩ => hG H e) (fun i v H H' hi p y => by
    obtain ⟨T, x, z, rfl, hn, rfl, h1, h2⟩ := y
    obtain ⟨acc, q1, q2, q3, q4⟩ := id p
    have e : Ex H (upd H T (.tup [x, z])) := Ex.new hn
    refine hm _ _ _ _ _ (fun σ2 H2 ⟨w, u⟩ => ⟨w, ?_⟩) (hs i x z T _ hi h1 h2 (q3.trans e) upd_same)
    show tmE te σ2 H2 _
    obtain ⟨R0, z1, z2⟩ := u
    exact ⟨R0, z1, fun y H4 r0 => lcJ_turn hR hD p (e.trans (z2 y H4 r0).1) (z2 y H4 r0).2 (by omega)⟩)
    fun H ⟨acc, q1, q2, q3, q4⟩ => hd H acc q3 q1 q2 q4
/-- over enumerate of a tuple -/
theorem lcE {a : Addr} {xs : List V} (R : Nat → V → Hp → Prop) (hR : ∀ i y H H', Kp H H' → R i y H → R i y H') (hD : H1 Dd = none) (hx : SqT K H1 a xs) (hz : xs.length ≤ 100000) (hm : GMono g)
    (hs : ∀ (i : Nat) y T H, xs[i]? = some y → Ex H1 H → H T = some (.tup [.int (i : Nat), y]) → g (.ref T) (wipe σ vs) H fun σ2 H2 => wipe σ2 vs = wipe σ vs ∧ tmE te σ2 H2 fun y H4 => Ex H H4 ∧ R i y H4)
    (hd : LcEnd H1 Dd xs.length R Q) : LcW (Iet K a) g tYes (tmE te) vs σ H1 Dd Q :=
  lcP (walk_enumT (K := K) (a := a) (xs := xs)) R hR hD (fun H e => sqT_kp hx e.kp) hz hm (fun i x y T H _ h1 h2 e t => by
    cases h1
    exact hs i y T H h2 e t) hd
theorem lcZ {k1 k2 : Bool} {a b : Addr} {xs ys : List V} {n : Nat} (hn : n = min xs.length ys.length) (R : Nat → V → Hp → Prop) (hR : ∀ i y H H', Kp H H' → R i y H → R i y H') (hD : H1 Dd = none)
    (hx : SqB K k1 H1 a xs) (hy : SqB K k2 H1 b ys) (hz : n ≤ 100000) (hm : GMono g)
    (hs : ∀ (i : Nat) x y T H, xs[i]? = some x → ys[i]? = some y → Ex H1 H → H T = some (.tup [x, y]) → g (.ref T) (wipe σ vs) H fun σ2 H2 => wipe σ2 vs = wipe σ vs ∧ tmE te σ2 H2 fun y H4 => Ex H H4 ∧ R i y H4)
    (hd : LcEnd H1 Dd n R Q) : LcW (ItzB K k1 k2 a b) g tYes (tmE te) vs σ H1 Dd Q :=
  lcP (walk_zipB hn) R hR hD (fun H e => ⟨sqB_kp hx e, sqB_kp hy e⟩) hz hm (fun i x y T H _ h1 h2 e t => hs i x y T H h1 h2 e t) hd
theorem r_zipB {tx : TA} {S : It → Hp → Prop} : iZipB K tx σ H S = tx σ H fun vs H1 => ∃ k1 k2 a b xs ys, vs = [.ref a, .ref b] ∧ SqB K k1 H1 a xs ∧ SqB K k2 H1 b ys ∧ S (ItzB K k1 k2 a b) H1 := rfl
end

/-! ### comb, lcm -/
theorem fp_abs {n : Int} {c : Nat} (h0 : 0 ≤ n) (hn : n.natAbs ≤ 2 ^ c) (k : Nat) : (k : Int) ≤ n → (Builtin.Math.fallingProduct n k).natAbs ≤ 2 ^ (c * k) := by
  induction k with
  | zero =>
    intro _
    rw [PySem.W.mc_fp_zero]
    simp
  | succ k ih =>
    intro h
    rw [PySem.W.mc_fp_succ, Int.natAbs_mul, Nat.mul_succ, Nat.pow_add]
    have h1 := ih (by omega)
    have h2 : (n - (k : Int)).natAbs ≤ 2 ^ c := by omega
    exact Nat.mul_le_mul h1 h2
theorem lg {m c : Nat} (h : m ≤ 2 ^ c) (hc : c < 100000000) : m.log2 < bitsLine := by
  have p : 0 < 2 ^ c := Nat.two_pow_pos c
  have h2 : m < 2 ^ (c + 1) := by
    rw [Nat.pow_succ]
    omega
  by_cases h0 : m = 0
  · subst h0
    show (0 : Nat).log2 < 2 ^ 27
    decide +kernel
  have := (Nat.log2_lt h0).mpr h2
  show m.log2 < 2 ^ 27
  omega
/-- the numbers that comb is asked for -/
def CombOk (a b : Int) : Prop := 0 ≤ a ∧ 0 ≤ b ∧ b ≤ 8 ∧ a < 2 ^ 300
theorem gives_comb {a b : Int} (t u : Tok) (h : CombOk a b) : Gives (Builtin.«math.comb» ⟨[.int a t, .int b u], []⟩) (.int (PySem.W.mcComb a b)) := by
  obtain ⟨ha, hb, hs, hl⟩ := h
  by_cases h : b > a
  · rw [PySem.W.mcComb_above h]
    exact PySem.W.mc_run_comb0 a t b u (by omega) (by omega) h
  · have hm : min b (a - b) ≤ 8 := by omega
    have hm0 : 0 ≤ min b (a - b) := by omega
    have hq : PySem.W.mcComb a b = Builtin.Math.fallingProduct a (min b (a - b)).toNat / Builtin.Math.fallingProduct (min b (a - b)) (min b (a - b)).toNat := PySem.W.mcComb_at hb (by omega) rfl
    have h1 : (Builtin.Math.fallingProduct a (min b (a - b)).toNat).natAbs ≤ 2 ^ (300 * (min b (a - b)).toNat) := fp_abs ha (by omega) _ (by omega)
    have h2 : (PySem.W.mcComb a b).natAbs ≤ (Builtin.Math.fallingProduct a (min b (a - b)).toNat).natAbs := by
      rw [hq]
      exact Int.natAbs_ediv_le_natAbs _ _
    have hs : (PySem.W.mcComb a b).natAbs.log2 < bitsLine := lg (Nat.le_trans h2 h1) (by omega)
    have h3 : ¬min b (a - b) > Builtin.Math.maxSsize := by show ¬min b (a - b) > 2 ^ 63 - 1; omega
    have h4 : ¬min b (a - b) > Builtin.Math.manyFactors := by show ¬min b (a - b) > 20000; omega
    rw [hq] at hs ⊢
    exact PySem.W.mc_run_comb a t b u (by omega) (by omega) h h3 h4 (by omega) hs
section
variable {X : Cx}
def rComb : List V → Hp → VK → Prop := fun vs H Q => ∃ a b : Int, vs = [.int a, .int b] ∧ CombOk a b ∧ Q (.int (PySem.W.mcComb a b)) H
theorem cr_comb : CallR X (.builtin "math.comb") rComb := by
  intro pins s σ H vs us Q I r h
  obtain ⟨a, b, rfl, ok, q⟩ := h
  obtain ⟨t, u, rfl⟩ := Vals.int2 r
  exact call_function_meets PySem.W.MGF.kind_comb PySem.W.MGF.plain_comb PySem.W.MGF.entry_comb (PySem.W.MGF.args_comb _ _) (gives_comb t u ok).meets ⟨.int _, H, I.tok _, ⟨_, rfl⟩, q⟩
def rLcm : List V → Hp → VK → Prop := fun vs H Q => ∃ a b : Int, vs = [.int a, .int b] ∧ a.natAbs < 2 ^ 13000 ∧ b.natAbs < 2 ^ 13000 ∧ Q (.int ((Nat.lcm a.natAbs b.natAbs : Nat) : Int)) H
theorem log_le {m c : Nat} (h : m < 2 ^ c) : m.log2 ≤ c := by
  by_cases h0 : m = 0
  · subst h0
    exact Nat.zero_le _
  exact Nat.le_of_lt ((Nat.log2_lt h0).mpr h)
theorem lcm_le (m n : Nat) : m.lcm n ≤ m * n := Nat.div_le_self _ _
theorem cr_lcm : CallR X (.builtin "math.lcm") rLcm := by
  intro pins s σ H vs us Q I r h
  obtain ⟨a, b, rfl, la, lb, q⟩ := h
  obtain ⟨t, u, rfl⟩ := Vals.int2 r
  have hl : (Nat.lcm a.natAbs b.natAbs) ≤ 2 ^ 26000 := by
    have h1 := lcm_le a.natAbs b.natAbs
    have h2 := Nat.mul_le_mul (Nat.le_of_lt la) (Nat.le_of_lt lb)
    rw [← Nat.pow_add] at h2
    exact Nat.le_trans h1 h2
  have h1 : (max 1 a.natAbs).log2 ≤ 13000 := log_le (by
    have : 1 < 2 ^ 13000 := Nat.one_lt_two_pow (by decide)
    omega)
  have h2 : (max a.natAbs b.natAbs).log2 ≤ 13000 := log_le (by omega)
  have e : Nat.lcm 1 a.natAbs = a.natAbs := PySem.W.mc_lcm_one _
  have g := PySem.W.mg_run_lcm a t b u (by omega) (by omega) (by rw [e]; exact lg hl (by decide))
  rw [e] at g
  exact call_function_meets PySem.W.MGF.kind_lcm PySem.W.MGF.plain_lcm PySem.W.MGF.entry_lcm (PySem.W.MGF.args_lcm _ _) g.meets ⟨.int _, H, I.tok _, ⟨_, rfl⟩, q⟩

/-! ### words alone -/
/-- the written values put in the parameters' order: ix tells for each parameter which of them -/
def arr {α : Type} (ix : List Nat) (ws : List α) : List α := ix.filterMap (ws[·]?)
theorem arr_vals {zs : List V} {ws : List Value} (r : Vals zs ws) : ∀ ix : List Nat, Vals (arr ix zs) (arr ix ws)
  | [] => .nil
  | i :: ix => by
    have ih := arr_vals r ix
    unfold arr at ih ⊢
    have hl := r.length
    cases h : zs[i]? with
    | none =>
      have h2 : ws[i]? = none := by
        rw [List.getElem?_eq_none_iff] at h ⊢
        omega
      rw [List.filterMap_cons, List.filterMap_cons, h, h2]
      exact ih
    | some z =>
      obtain ⟨u, hu, ru⟩ := r.get h
      rw [List.filterMap_cons, List.filterMap_cons, h, hu]
      exact .cons ru ih
def KwOk (fd : FuncData) (ps ks : List Str) (ix : List Nat) : Prop := ∀ (s : Shared) (ws : List Value), ws.length = ks.length → BindsTo s fd ⟨[], ks.zip ws⟩ (ps.zip (arr ix ws))
def HasW (P : Program) (w : World) (K : PySem.W.Frag) (mg : Str → Option Value) (base : Heap) (x : Str) (k : Nat) (ps : List Str) (sp : Sp) (ks : List Str) (ix : List Nat) : Prop :=
  ∃ f fd, FnOk P w K mg base CX0 k f fd ps sp ∧ mg x = some (.ref f) ∧ PySem.W.keepIn K (.ref f) = true ∧ KwOk fd ps ks ix
/-- the def st of the text, called by words -/
def DfW (K : PySem.W.Frag) (mg : Str → Option Value) (x : Str) (st : Stmt) (ps ks : List Str) (ix : List Nat) : Prop :=
  ∃ f fd, Fun K x x st f fd ∧ mg x = some (.ref f) ∧ KwOk fd ps ks ix
theorem HasW.of {P : Program} {w : World} {K : PySem.W.Frag} {mg : Str → Option Value} {base : Heap} {x : Str} {st : Stmt} {ps ks : List Str} {ix : List Nat} {k : Nat} {sp : Sp} (D : DfW K mg x st ps ks ix)
    (h : ∀ f fd, Fun K x x st f fd → FnOk P w K mg base CX0 k f fd ps sp) : HasW P w K mg base x k ps sp ks ix := by
  obtain ⟨f, fd, F, hm, hb⟩ := D
  exact ⟨f, fd, h f fd F, hm, F.kp, hb⟩
def tW (sp : Sp) (m : Nat) (ix : List Nat) (tk : TA) : TE := fun σ H Q => tk σ H fun zs H1 => zs.length = m ∧ sp (arr ix zs) H1 Q E0
theorem pe_hasW {x : Str} {k : Nat} {ps ks : List Str} {ix : List Nat} {sp : Sp} {p pos : Pos} {kws : List Keyword} {tk : TA}
    (h : HasW X.prog X.w X.K X.mg X.base x k ps sp ks ix) (hr : Room k X.A) (hkw : PK X kws tk) (hg : Gl X x := by rfl)
    (hdb : (x == ("__debug__" : Str)) = false := by decide)
    (hall : (backToKw pos (keywordEach kws X.env)).all (·.1.isSome) = true := by rfl) (hks : (backToKw pos (keywordEach kws X.env)).filterMap (·.1) = ks := by rfl)
    (hpl : ((backTo pos (starEach [] X.env)).any (·.1) || (backToKw pos (keywordEach kws X.env)).any (·.1.isNone)) = false := by rfl) :
    PE X (.Call (.Name x p) [] kws pos) (tW sp ks.length ix tk) := by
  obtain ⟨f, fd, F, hm, hk, hb⟩ := h
  refine ⟨fun pins s σ H Q I h => ?_⟩
  apply wpAny_Call_Name_kw (ld_glob I hg hm ?_ hdb)
  apply PySem.W.callWith_KW0 (h₀ := X.base) I.ok.mod.kin hk hall ?_ hpl
  refine thn (hkw.run pos pins s σ H _ I h) fun ws s2 ⟨zs, H2, I2, rz, l, hsp⟩ => ⟨I2.kIn, ?_⟩
  rw [hks]
  have r2 := arr_vals rz ix
  have bnd := hb s2 ws (by rw [← rz.length]; exact l)
  refine wpAny_call (codeAny_mono (F.run X.A X.stack s2 H2 ⟨[], ks.zip ws⟩ (arr ix ws) (arr ix zs) Q E0 hr I2.env0 bnd r2 hsp) fun r s' hc => ?_)
  cases r with
  | error er => exact ((pass0 (X := X)) pins σ H2 s2 er s' I2 hc)
  | ok fl =>
    cases fl with
    | ret u => exact I2.after hc
    | next => exact hc.elim
    | brk => exact hc.elim
    | cont => exact hc.elim
theorem r_tW {sp : Sp} {m : Nat} {ix : List Nat} {tk : TA} {σ : L2.St} {H : Hp} {Q : VK} : tW sp m ix tk σ H Q = tk σ H fun zs H1 => zs.length = m ∧ sp (arr ix zs) H1 Q E0 := rfl
end

/-! ### a tuple turned about -/
theorem fm_congr {α β : Type} {f g : α → Option β} : ∀ {l : List α}, (∀ x ∈ l, f x = g x) → l.filterMap f = l.filterMap g
  | [], _ => rfl
  | a :: l, h => by
    rw [List.filterMap_cons, List.filterMap_cons, h a (List.mem_cons_self ..), fm_congr fun x hx => h x (List.mem_cons_of_mem _ hx)]
theorem rev_pick (xs : Array Value) : ((List.range xs.size).filterMap fun (m : Nat) => xs[(((xs.size : Int) - 1) + (m : Int) * (-1)).toNat]?).toArray = xs.toList.reverse.toArray := by
  congr 1
  apply List.ext_getElem?
  intro i
  have e : (List.range xs.size).filterMap (fun (m : Nat) => xs[(((xs.size : Int) - 1) + (m : Int) * (-1)).toNat]?) = (List.range xs.size).filterMap (fun m => xs.toList.reverse[m]?) := by
    apply fm_congr
    intro m hm
    replace hm := List.mem_range.mp hm
    have z : (((xs.size : Int) - 1) + (m : Int) * (-1)).toNat = xs.size - 1 - m := by omega
    rw [z, List.getElem?_reverse (by simpa using hm)]
    simp
  rw [e]
  have : (List.range xs.size).filterMap (fun m => xs.toList.reverse[m]?) = xs.toList.reverse := by
    have h : ∀ (l : List Value), (List.range l.length).filterMap (fun m => l[m]?) = l := by
      intro l
      induction l with
      | nil => rfl
      | cons a l ih =>
        rw [List.length_cons, List.range_succ_eq_map, List.filterMap_cons]
        simp only [List.getElem?_cons_zero, List.filterMap_map]
        congr 1
    have h2 := h xs.toList.reverse
    rw [List.length_reverse, Array.length_toList] at h2
    exact h2
  rw [this]
section
variable {prog : Program} {w : World} {A : Around} {E : Value → Shared → Prop} {s : Shared}
theorem adjust_rev (n : Nat) : Builtin.Slice.sliceAdjust none none (-1) (n : Int) = ((n : Int) - 1, -1) := by
  unfold Builtin.Slice.sliceAdjust
  simp
theorem places_rev (n : Nat) : Builtin.Slice.slicePlaces ((n : Int) - 1) (-1) (-1) = n := by
  unfold Builtin.Slice.slicePlaces
  have h1 : ¬ ((-1 : Int) > 0) := by omega
  rw [if_neg h1]
  split
  · have : ((n : Int) - 1 - -1 - 1) / (- -1) = (n : Int) - 1 := by
      rw [show (- -1 : Int) = 1 by decide, Int.ediv_one]
      omega
    rw [this]
    omega
  · omega
theorem item_rev {t sl : Addr} {items : Array Value} {vl vu vs : Value} {Q : Value → Shared → Prop} (ht : IsTup s.heap t items) (hs : s.heap.IsSliceOf sl vl vu vs) (pl : IsPart vl none) (pu : IsPart vu none) (ps : IsPart vs (some (-1)))
    (h : Q (.ref s.heap.objs.size) { s with heap := s.heap.push { cls := .type "tuple", data := .seq items.toList.reverse.toArray } })
    (hsz : items.size ≤ sizeLine) : wpAny (model prog w) A (getItem (.ref t) (.ref sl)) Q E s := by
  have hok : sizeOk (.seq items.toList.reverse.toArray) := by
    show items.toList.reverse.toArray.size ≤ sizeLine
    simpa using hsz
  obtain ⟨os, hos, hcs, hds⟩ := id hs
  have hTs : s.TypeIs (.ref sl) "slice" := ⟨os, hos, hcs⟩
  have hTt : s.TypeIs (.ref t) "tuple" := let ⟨o, ho, hc, _⟩ := ht; ⟨o, ho, hc⟩
  unfold getItem
  try with_reducible refine wpAny_holding ?_
  first | refine wpAny_bind (wpAny_pure ?_) | skip
  refine wpAny_bind (wpAny_sequenceKey hTt (by decide) ?_)
  apply wpAny_bind
  apply wpAny_callSpecial?_slot (name := Str.ofString "__getitem__") hTt PyProof.Rows.slot_tuple_getitem
  apply wpAny_call_entry PyProof.Rows.slot_tuple_getitem hTt PyProof.Rows.entry_tuple_getitem ?_ (PyProof.Rows.args_tuple_getitem _ _)
  show wpAny _ _ (Builtin.Tuple.tupleItemsOf (.ref t) >>= _) _ _ s
  refine wpAny_bind (tupleItemsOf_ ht ?_)
  refine wpAny_bind (wpAny_typeOf hTs ?_)
  rw [if_pos (by decide)]
  apply wpAny_bind
  unfold Builtin.Slice.sliceApplied Builtin.Slice.sliceFields
  apply wpAny_bind
  refine wpAny_bind (wpAny_field hos hds (x := vl) rfl ?_)
  refine wpAny_bind (wpAny_field hos hds (x := vu) rfl ?_)
  refine wpAny_bind (wpAny_field hos hds (x := vs) rfl (wpAny_pure ?_))
  refine wpAny_bind (HT.slicePart_ ps ?_)
  show wpAny _ _ (if ((-1 : Int) == 0) = true then _ else _) _ _ s
  rw [if_neg (by decide)]
  refine wpAny_bind (HT.slicePart_ pl ?_)
  refine wpAny_bind (HT.slicePart_ pu ?_)
  refine wpAny_bind (wpAny_pure ?_)
  show wpAny _ _ (match Builtin.Slice.sliceAdjust none none (-1) (items.size : Int) with | (lo, hi) => pure (lo, (-1 : Int), Builtin.Slice.slicePlaces lo hi (-1))) _ _ s
  rw [adjust_rev]
  show wpAny _ _ (pure ((items.size : Int) - 1, (-1 : Int), Builtin.Slice.slicePlaces ((items.size : Int) - 1) (-1) (-1))) _ _ s
  rw [places_rev]
  refine wpAny_pure ?_
  have no : ¬ ((((items.size : Int) - 1 == 0) && ((-1 : Int) == 1) && (items.size == items.size)) = true) := by
    intro q
    rw [Bool.and_eq_true, Bool.and_eq_true] at q
    exact absurd q.1.2 (by decide)
  show wpAny _ _ (if (((items.size : Int) - 1 == 0) && ((-1 : Int) == 1) && (items.size == items.size)) = true then _ else _) _ _ s
  rw [if_neg no, rev_pick]
  first
    | exact wpAny_bind (m := Builtin.Tuple.tupleExact _) (wpAny_newObj_type (wpAny_pure ⟨_, rfl, wpAny_pure h⟩) hok)
    | exact wpAny_bind (m := Builtin.Tuple.tupleExact _) (wpAny_newObj_type (wpAny_bind (wpAny_pure (wpAny_pure ⟨_, rfl, wpAny_pure h⟩))) hok)
    | exact wpAny_bind (wpAny_bind (m := Builtin.Tuple.tupleExact _) (wpAny_newObj_type (wpAny_pure (wpAny_pure ⟨_, rfl, wpAny_pure h⟩)) hok))
    | exact wpAny_bind (wpAny_bind (m := Builtin.Tuple.tupleExact _) (wpAny_newObj_type (wpAny_pure ⟨_, rfl, wpAny_pure h⟩) hok))
end
section
variable {X : Cx}
def tRevT (K : PySem.W.Frag) (te : TE) : TE := fun σ H Q => te σ H fun x H1 => ∃ a xs, x = .ref a ∧ SqT K H1 a xs ∧ New H1 (.tup xs.reverse) Q
theorem pe_revT {e : Expr} {te : TE} {k : Nat} {p1 p2 p3 pos : Pos} (he : PE X e te) : PE X (.Subscript e (.Slice none none (some (.UnaryOp .USub (.Constant (.int 1) k p1) p2)) p3) pos) (tRevT X.K te) := by
  refine ⟨fun pins s σ H Q I h => ?_⟩
  refine Subscript_ (thn (he.run pins s σ H _ I h) fun v s1 ⟨x, H1, I1, r1, q1⟩ => ?_)
  obtain ⟨a, xs, ex, hx, q⟩ := q1
  subst ex
  cases r1
  have hst : PO X (some (.UnaryOp .USub (.Constant (.int 1) k p1) p2)) (tPart (tUn (rU fun i => .int (-i)) (tC (.int 1)))) := po_some (pe_un un_neg pe_int)
  apply wpAny_Slice
  refine thn (po_none.run pins s1 σ H1 (fun o H2 => o = none ∧ H2 = H1) I1 ⟨rfl, rfl⟩) fun vl s2 ⟨l, H2, I2, pl, el, e2⟩ => ?_
  cases el
  cases e2
  refine thn (po_none.run pins s2 σ H1 (fun o H2 => o = none ∧ H2 = H1) I2 ⟨rfl, rfl⟩) fun vu s3 ⟨u, H3, I3, pu, eu, e3⟩ => ?_
  cases eu
  cases e3
  refine thn (hst.run pins s3 σ H1 (fun o H2 => o = some (-1) ∧ H2 = H1) I3 ⟨1, rfl, -1, rfl, rfl, rfl⟩) fun vs s4 ⟨o, H4, I4, ps, eo, e4⟩ => ?_
  cases eo
  cases e4
  let so : Obj := { cls := .type "slice", data := .fields #[vl, vu, vs] }
  have I5 : Inv X pins σ H1 { s4 with heap := s4.heap.push so } := I4.kept (t' := s4.toks) fun b ob q => Heap.get?_push_of_some _ q
  obtain ⟨its, r, ht, hz⟩ := I5.tuple hx
  have hlen := r.length
  have hT : ({ s4 with heap := s4.heap.push so } : Shared).TypeIs (.ref a) "tuple" := let ⟨o, ho, hc, _⟩ := ht; ⟨o, ho, hc⟩
  show wpAny (model X.prog X.w) X.A (subscriptTail e (.Slice none none (some (.UnaryOp .USub (.Constant (.int 1) k p1) p2)) p3) (.ref a) (.ref s4.heap.objs.size)) (EP X pins σ Q) X.xe { s4 with heap := s4.heap.push so }
  refine tail_any (ops := [.ref a, .ref s4.heap.objs.size]) hT PyProof.Rows.slot_tuple_getitem.lookup ?_ (by with_unfolding_all rfl)
  refine item_rev ht (Heap.IsSliceOf.new _ vl vu vs) pl pu ps ?_ (by rw [List.size_toArray]; omega)
  refine ⟨.ref _, _, I5.laid (t' := s4.toks) (o := .tup xs.reverse) (fun b ob q => Heap.get?_push_of_some _ q) (Nat.le_refl _) ?_, rfl, ?_⟩
  · exact ⟨by rw [List.length_reverse]; omega, _, by simpa using r.reverse, IsTup.new _ _⟩
  · exact q.at _ (I5.hok.fresh (Nat.le_refl _))
theorem kRevT {K : PySem.W.Frag} {e : Expr} {te : TE} {k : Nat} {p1 p2 p3 pos : Pos} (he : PE X e te) (h : X.K = K := by rfl) : PE X (.Subscript e (.Slice none none (some (.UnaryOp .USub (.Constant (.int 1) k p1) p2)) p3) pos) (tRevT K te) := by
  subst h
  exact pe_revT he
theorem r_revT {K : PySem.W.Frag} {te : TE} {σ : L2.St} {H : Hp} {Q : VK} : tRevT K te σ H Q = te σ H fun x H1 => ∃ a xs, x = .ref a ∧ SqT K H1 a xs ∧ New H1 (.tup xs.reverse) Q := rfl
end
section
variable {P : Program} {w : World} {K : PySem.W.Frag} {mg : Str → Option Value} {base : Heap} {N : List Str} {q : Str} {sc : Scope} {f : Addr} {cd : Value} {A : Around} {outer : List Env} {s : Shared} {H : Hp} {E : XK}
theorem r_Kbb {s' s2 : Shared} {H' H2 : Hp} {sc' sc2 : Scope} {ce ce2 : Env} {fp fp2 : List Addr} : ((((cxOf CX0 P w K mg base N q sc f cd A outer s H E).nox).blk s' H' sc' ce fp).blk s2 H2 sc2 ce2 fp2).K = K := rfl
end

/-! ### ways to choose, small -/
def chs : Nat → Nat → Nat
  | _, 0 => 1
  | 0, _ + 1 => 0
  | n + 1, k + 1 => chs n k + chs n (k + 1)
theorem comb_chs {a b : Nat} (ha : a < 6) (hb : b < 6) : PySem.W.mcComb (a : Int) (b : Int) = ((chs a b : Nat) : Int) := by
  have h : ∀ a < 6, ∀ b < 6, PySem.W.mcComb ((a : Nat) : Int) ((b : Nat) : Int) = ((chs a b : Nat) : Int) := by decide +kernel
  exact h a ha b hb
theorem chs_le {a b : Nat} (ha : a < 6) (hb : b < 6) : chs a b ≤ 10 := by
  have h : ∀ a < 6, ∀ b < 6, chs a b ≤ 10 := by decide +kernel
  exact h a ha b hb
theorem chs_pos {a b : Nat} (ha : a < 6) (hb : b ≤ a) : 0 < chs a b := by
  have h : ∀ a < 6, ∀ b < a + 1, 0 < chs a b := by decide +kernel
  exact h a ha b (by omega)
theorem comb_ok {a b : Nat} (ha : a < 6) (hb : b < 6) : CombOk (a : Int) (b : Int) := ⟨by omega, by omega, by omega, by omega⟩
/-! ### all-yes chances -/
def hitsL (ps : List Int) (j : Nat) : List Int := ps.mapIdx fun k c => c * ((chs k j : Nat) : Int)
def ay (ps : List Int) (j : Nat) : Rat := (((hitsL ps j).sum : Int) : Rat) / ((ps.sum * ((chs (ps.length - 1) j : Nat) : Int) : Int) : Rat)
/-! ### blending -/
abbrev Zs := List (List Int × Rat)
def denW (z : List Int × Rat) : Int := z.1.sum * ((z.2.den : Nat) : Int)
def botF (zs : Zs) : Nat := zs.foldl (fun B z => Nat.lcm B (denW z).natAbs) 1
def wgt (B : Nat) (z : List Int × Rat) : Int := z.2.num * ((B : Int) / denW z)
def colW (B : Nat) (k : Nat) (zs : Zs) : List Int := zs.map fun z => wgt B z * z.1.getD k 0
def blendL (m : Nat) (zs : Zs) : List Int := (List.range m).map fun k => (colW (botF zs) k zs).sum
theorem botF_take {zs : Zs} {i : Nat} {z : List Int × Rat} (h : zs[i]? = some z) : botF (zs.take (i + 1)) = Nat.lcm (botF (zs.take i)) (denW z).natAbs := by
  unfold botF
  rw [List.take_add_one, h]
  simp
theorem lcm0 {a b : Nat} (ha : 0 < a) (hb : 0 < b) : 0 < Nat.lcm a b := Nat.lcm_pos ha hb
theorem botG (zs : Zs) : ∀ (B : Nat), 0 < B → (∀ z ∈ zs, 0 < denW z) → 0 < zs.foldl (fun B z => Nat.lcm B (denW z).natAbs) B ∧ B ∣ zs.foldl (fun B z => Nat.lcm B (denW z).natAbs) B ∧ ∀ z ∈ zs, (denW z).natAbs ∣ zs.foldl (fun B z => Nat.lcm B (denW z).natAbs) B := by
  induction zs with
  | nil => exact fun B h _ => ⟨h, Nat.dvd_refl _, fun r h => by simp at h⟩
  | cons z zs ih =>
    intro B hB hz
    have hd := hz z (List.mem_cons_self ..)
    obtain ⟨h1, h2, h3⟩ := ih (Nat.lcm B (denW z).natAbs) (lcm0 hB (by omega)) fun x hx => hz x (List.mem_cons_of_mem _ hx)
    refine ⟨h1, Nat.dvd_trans (Nat.dvd_lcm_left _ _) h2, fun x hx => ?_⟩
    rcases List.mem_cons.mp hx with rfl | hx
    · exact Nat.dvd_trans (Nat.dvd_lcm_right _ _) h2
    · exact h3 x hx
structure BlendOk (zs : Zs) (N m : Nat) (cs : List Int) (S : Int) : Prop where
  n0 : 0 < zs.length
  n1 : zs.length ≤ 8
  nN : N ≤ 800
  m0 : 2 ≤ m
  m1 : m ≤ 6
  len : ∀ z ∈ zs, z.1.length = m
  tp : ∀ z ∈ zs, 0 < z.1.sum
  ds : ∀ z ∈ zs, (denW z).natAbs < 2 ^ N
  tn : ∀ z ∈ zs, ∀ t ∈ z.1, 0 ≤ t ∧ t.natAbs < 2 ^ N
  rn : ∀ z ∈ zs, 0 ≤ z.2.num ∧ z.2.num.natAbs < 2 ^ N
  cl : cs.length = m
  S0 : 0 < S
  pr : ∀ k < m, (zs.map fun z => z.2 * ((z.1.getD k 0 : Int) : Rat) / ((z.1.sum : Int) : Rat)).sum = ((cs.getD k 0 : Int) : Rat) / (S : Rat)
  cp : ∃ c ∈ cs, c ≠ 0
theorem denW_pos {z : List Int × Rat} (h : 0 < z.1.sum) : 0 < denW z := Int.mul_pos h (den_pos _)
theorem botF_lt {N : Nat} : ∀ (zs : Zs) (i : Nat), (∀ z ∈ zs, (denW z).natAbs < 2 ^ N) → i ≤ zs.length → botF (zs.take i) < 2 ^ (i * N + 1)
  | zs, 0, _, _ => by
    rw [Nat.zero_mul, List.take_zero]
    show 1 < 2 ^ (0 + 1)
    decide
  | zs, i + 1, h, hi => by
    have hr : zs[i]? = some zs[i] := List.getElem?_eq_getElem (by omega)
    rw [botF_take hr]
    have h1 := botF_lt zs i h (by omega)
    have h2 := h _ (List.getElem_mem (h := show i < zs.length by omega))
    have e : (i + 1) * N + 1 = (i * N + 1) + N := by rw [Nat.add_mul]; omega
    rw [e, Nat.pow_add]
    exact Nat.lt_of_le_of_lt (lcm_le _ _) (Nat.mul_lt_mul'' h1 h2)
theorem botF_pos {zs : Zs} (h : ∀ z ∈ zs, 0 < z.1.sum) : 0 < botF zs := (botG zs 1 Nat.one_pos fun z hz => denW_pos (h z hz)).1
theorem botF_dvd {zs : Zs} (h : ∀ z ∈ zs, 0 < z.1.sum) {z : List Int × Rat} (hz : z ∈ zs) : denW z ∣ ((botF zs : Nat) : Int) :=
  Int.natAbs_dvd.mp (Int.ofNat_dvd.mpr ((botG zs 1 Nat.one_pos fun z hz => denW_pos (h z hz)).2.2 z hz))
theorem wgt_rat {B : Nat} {z : List Int × Rat} (h : 0 < z.1.sum) (hd : denW z ∣ (B : Int)) (t : Int) :
    ((wgt B z * t : Int) : Rat) = ((B : Int) : Rat) * (z.2 * (t : Rat) / ((z.1.sum : Int) : Rat)) := by
  obtain ⟨q, hq⟩ := hd
  have d0 := denW_pos h
  have e : (B : Int) / denW z = q := by rw [hq]; exact Int.mul_ediv_cancel_left _ (by omega)
  unfold wgt
  rw [e]
  have eB : ((B : Int) : Rat) = ((z.1.sum : Int) : Rat) * (((z.2.den : Nat) : Int) : Rat) * (q : Rat) := by
    rw [hq]
    unfold denW
    rw [Rat.intCast_mul, Rat.intCast_mul]
  rw [eB, Rat.intCast_mul, Rat.intCast_mul]
  have en : ((z.2.num : Int) : Rat) = z.2 * (((z.2.den : Nat) : Int) : Rat) := by
    have := Rat.num_divInt_den z.2
    rw [Rat.divInt_eq_div] at this
    have hn : (((z.2.den : Nat) : Int) : Rat) ≠ 0 := fun x => by
      have := congrArg Rat.num x
      have := den_pos z.2
      simp at *
      omega
    have h2 : ((z.2.num : Int) : Rat) / (((z.2.den : Nat) : Int) : Rat) = z.2 := this
    grind
  have hs : ((z.1.sum : Int) : Rat) ≠ 0 := fun x => by
    have := congrArg Rat.num x
    simp at this
    omega
  rw [en]
  grind
theorem col_rat {B : Nat} (k : Nat) : ∀ (zs : Zs), (∀ z ∈ zs, 0 < z.1.sum ∧ denW z ∣ (B : Int)) →
    (((colW B k zs).sum : Int) : Rat) = ((B : Int) : Rat) * (zs.map fun z => z.2 * ((z.1.getD k 0 : Int) : Rat) / ((z.1.sum : Int) : Rat)).sum
  | [], _ => by
    simp [colW]
  | z :: zs, h => by
    have ih := col_rat (B := B) k zs fun x hx => h x (List.mem_cons_of_mem _ hx)
    obtain ⟨h1, h2⟩ := h z (List.mem_cons_self ..)
    have e : colW B k (z :: zs) = wgt B z * z.1.getD k 0 :: colW B k zs := rfl
    rw [e, List.sum_cons, Rat.intCast_add, ih, wgt_rat h1 h2, List.map_cons, List.sum_cons]
    grind
theorem blend_col {zs : Zs} {N m : Nat} {cs : List Int} {S : Int} (h : BlendOk zs N m cs S) {k : Nat} (hk : k < m) : S * (colW (botF zs) k zs).sum = ((botF zs : Nat) : Int) * cs.getD k 0 := by
  have e := col_rat (B := botF zs) k zs fun z hz => ⟨h.tp z hz, botF_dvd h.tp hz⟩
  rw [h.pr k hk] at e
  have hS : ((S : Int) : Rat) ≠ 0 := fun x => by
    have := congrArg Rat.num x
    have := h.S0
    simp at *
    omega
  have e2 : ((S * (colW (botF zs) k zs).sum : Int) : Rat) = ((((botF zs : Nat) : Int) * cs.getD k 0 : Int) : Rat) := by
    rw [Rat.intCast_mul, Rat.intCast_mul, e]
    grind
  exact Rat.intCast_inj.mp e2
theorem blend_plain {zs : Zs} {N m : Nat} {cs : List Int} {S : Int} (h : BlendOk zs N m cs S) : (blendL m zs).map (S * ·) = cs.map (((botF zs : Nat) : Int) * ·) := by
  apply List.ext_getElem?
  intro k
  by_cases hk : k < m
  · have hc : cs[k]? = some (cs.getD k 0) := by
      have hl : k < cs.length := by rw [h.cl]; exact hk
      rw [List.getD_eq_getElem?_getD, List.getElem?_eq_getElem hl]
      rfl
    have e := blend_col h hk
    rw [List.getElem?_map, List.getElem?_map, hc]
    simp only [blendL, List.getElem?_map, List.getElem?_range hk, Option.map_some]
    rw [e]
  · rw [List.getElem?_eq_none (by simp [blendL]; omega), List.getElem?_eq_none (by simp [h.cl]; omega)]
theorem sum_abs_lt {n : Nat} : ∀ (xs : List Int) (a : Nat), (∀ x ∈ xs, x.natAbs < 2 ^ n) → xs.length ≤ a → xs.sum.natAbs ≤ a * 2 ^ n
  | [], a, _, _ => by simp
  | x :: xs, 0, _, h => by simp at h
  | x :: xs, a + 1, h, hl => by
    have ih := sum_abs_lt xs a (fun y hy => h y (List.mem_cons_of_mem _ hy)) (by simpa using hl)
    have h1 := h x (List.mem_cons_self ..)
    rw [List.sum_cons, Nat.add_mul]
    omega
theorem mc_abs {a b : Int} {c : Nat} (h0 : 0 ≤ a) (ha : a.natAbs ≤ 2 ^ c) (hb : 0 ≤ b) (hb8 : b ≤ 8) : (PySem.W.mcComb a b).natAbs < 2 ^ (c * 8 + 1) := by
  by_cases h : b > a
  · rw [PySem.W.mcComb_above h]
    exact Nat.two_pow_pos _
  · have hm : min b (a - b) ≤ 8 := by omega
    have hq : PySem.W.mcComb a b = PySem.Builtin.Math.fallingProduct a (min b (a - b)).toNat / PySem.Builtin.Math.fallingProduct (min b (a - b)) (min b (a - b)).toNat := PySem.W.mcComb_at hb (by omega) rfl
    have h1 : (PySem.Builtin.Math.fallingProduct a (min b (a - b)).toNat).natAbs ≤ 2 ^ (c * (min b (a - b)).toNat) := fp_abs h0 ha _ (by omega)
    have h2 : (PySem.W.mcComb a b).natAbs ≤ (PySem.Builtin.Math.fallingProduct a (min b (a - b)).toNat).natAbs := by
      rw [hq]
      exact Int.natAbs_ediv_le_natAbs _ _
    have h3 : c * (min b (a - b)).toNat ≤ c * 8 := Nat.mul_le_mul_left _ (by omega)
    have h4 := Nat.pow_le_pow_right (show 0 < 2 by decide) h3
    have h5 : 2 ^ (c * 8 + 1) = 2 ^ (c * 8) + 2 ^ (c * 8) := by rw [Nat.pow_succ]; omega
    have := Nat.two_pow_pos (c * 8)
    omega
theorem BlendOk.sl {zs : Zs} {N m : Nat} {cs : List Int} {S : Int} (h : BlendOk zs N m cs S) {z : List Int × Rat} (hz : z ∈ zs) : z.1.sum.natAbs < 2 ^ N := by
  have h1 := h.ds z hz
  unfold denW at h1
  rw [Int.natAbs_mul] at h1
  have h2 : 1 ≤ (((z.2.den : Nat) : Int)).natAbs := by have := den_pos z.2; omega
  have h3 := Nat.mul_le_mul_left z.1.sum.natAbs h2
  omega
theorem BlendOk.dl {zs : Zs} {N m : Nat} {cs : List Int} {S : Int} (h : BlendOk zs N m cs S) {z : List Int × Rat} (hz : z ∈ zs) : (((z.2.den : Nat) : Int)).natAbs < 2 ^ N := by
  have h1 := h.ds z hz
  unfold denW at h1
  rw [Int.natAbs_mul] at h1
  have h2 : 1 ≤ z.1.sum.natAbs := by have := h.tp z hz; omega
  have h3 := Nat.mul_le_mul_right (((z.2.den : Nat) : Int)).natAbs h2
  omega

theorem kMax {X : Cx} {K : PySem.W.Frag} (hc : X.calm = true) (h : X.K = K := by rfl) : CallR X (.builtin "max") (rMax K) := by
  subst h
  exact cr_max hc
/-- a power that is written out, as one value -/
theorem pe_pow {X : Cx} {a b : Expr} {i j c : Int} {pos : Pos} (ha : PE X a (tC (.int i))) (hb : PE X b (tC (.int j))) (h : CPow i j) (e : i ^ j.toNat = c) : PE X (.BinOp a .Pow b pos) (tC (.int c)) :=
  PE.imp (pe_op op_pow ha hb) fun σ H Q q => ⟨i, j, rfl, rfl, h, by
    have q2 : Q (.int c) H := q
    rw [← e] at q2
    exact q2⟩
theorem pe_less {X : Cx} {a b : Expr} {i j c : Int} {pos : Pos} (ha : PE X a (tC (.int i))) (hb : PE X b (tC (.int j))) (e : i - j = c) : PE X (.BinOp a .Sub b pos) (tC (.int c)) :=
  PE.imp (pe_op op_sub ha hb) fun σ H Q q => ⟨i, j, rfl, rfl, by
    have q2 : Q (.int c) H := q
    rw [← e] at q2
    exact q2⟩

/-! comprehensions that draw; a list or a tuple walked, indexed -/
section
variable {g : TG} {te : TE} {vs : List Nat} {σ : L2.St} {H1 : Hp} {Dd v : Addr} {Q : VK} {K : PySem.W.Frag} {a : Addr} {xs : List V} {D : Ends} {H : Hp}
def LcV (v : Addr) (H1 : Hp) (Dd : Addr) (R : Nat → V → Hp → Prop) (i : Nat) (H : Hp) : Prop :=
  ∃ acc : List V, H Dd = some (.lst acc) ∧ acc.length = i ∧ Gv v H1 H ∧ ∀ (j : Nat) y, acc[j]? = some y → R j y H
theorem vat_ne (hD : H1 Dd = none) (hv : VatAt H1 v) : Dd ≠ v := fun z => by
  obtain ⟨x, y, w, h1, _⟩ := hv
  rw [← z, hD] at h1
  cases h1
theorem lcV_turn {R : Nat → V → Hp → Prop} (hR : ∀ i y H H', Kp H H' → R i y H → R i y H') (hD : H1 Dd = none) (hv : VatAt H1 v) {i : Nat} {H H4 : Hp} {y : V}
    (p : LcV v H1 Dd R i H) (e : Gv v H H4) (r : R i y H4) (hi : i < 1000000) :
    ∃ acc, H4 Dd = some (.lst acc) ∧ acc.length < sizeLine ∧ LcV v H1 Dd R (i + 1) (upd H4 Dd (.lst (acc ++ [y]))) := by
  obtain ⟨acc, h1, h2, h3, h4⟩ := p
  have dv := vat_ne hD hv
  have h5 := e.lst dv h1
  have k : Kp H4 (upd H4 Dd (.lst (acc ++ [y]))) := fun b o hb n => by
    rw [upd_ne]
    · exact hb
    · intro z
      rw [z, h5] at hb
      exact n _ (Option.some.inj hb).symm
  refine ⟨acc, h5, Nat.lt_of_lt_of_le (show acc.length < 1000000 by omega) (by decide), acc ++ [y], upd_same, by simp [h2], ⟨hv, fun b o n hb => ?_, ?_⟩, fun j z hz => ?_⟩
  · rw [upd_ne (ne_of_none hb hD)]
    exact (h3.trans e).keep _ _ n hb
  · obtain ⟨x, y, w, q1, q2⟩ := e.new
    exact ⟨x, y, w, by rw [upd_ne (Ne.symm dv)]; exact q1, q2⟩
  · by_cases hj : j < acc.length
    · rw [List.getElem?_append_left hj] at hz
      exact hR _ _ _ _ (e.kp.trans k) (h4 j z hz)
    · have hj2 : j = acc.length := by
        have := (List.getElem?_eq_some_iff.mp hz).1
        rw [List.length_append, List.length_singleton] at this
        omega
      subst hj2
      rw [List.getElem?_append_right (Nat.le_refl _), Nat.sub_self] at hz
      cases hz
      rw [h2]
      exact hR _ _ _ _ k r
theorem lcV_start {R : Nat → V → Hp → Prop} (hD : H1 Dd = none) (hv : VatAt H1 v) : LcV v H1 Dd R 0 (upd H1 Dd (.lst [])) :=
  ⟨[], upd_same, rfl, .of hv (Ex.new hD), fun j y h => by simp at h⟩
/-- what is wanted behind a comprehension that draws -/
def LcEndV (v : Addr) (H1 : Hp) (Dd : Addr) (n : Nat) (R : Nat → V → Hp → Prop) (Q : VK) : Prop :=
  ∀ H ys, Gv v H1 H → H Dd = some (.lst ys) → ys.length = n → (∀ (i : Nat) y, ys[i]? = some y → R i y H) → Q (.ref Dd) H
theorem lcRv {lo : Int} {n : Nat} {j : Nat} (R : Nat → V → Hp → Prop) (hR : ∀ i y H H', Kp H H' → R i y H → R i y H') (hD : H1 Dd = none) (hv : VatAt H1 v) (hz : n ≤ 100000)
    (hw : ∀ x, wipe ((wipe σ vs).set j (some x)) vs = wipe σ vs)
    (hs : ∀ (i : Nat) H, i < n → Gv v H1 H → tmE te ((wipe σ vs).set j (some (.int (lo + i)))) H fun y H4 => Gv v H H4 ∧ R i y H4)
    (hd : LcEndV v H1 Dd n R Q) : LcW (Itr lo n) (gName j) tYes (tmE te) vs σ H1 Dd Q :=
  lc_range (LcV v H1 Dd R) (lcV_start hD hv) (fun i H hi p => by
    obtain ⟨acc, q1, q2, q3, q4⟩ := id p
    refine ⟨hw _, ?_⟩
    obtain ⟨R0, z1, z2⟩ := hs i H hi q3
    exact ⟨R0, z1, fun y H4 r0 => lcV_turn hR hD hv p (z2 y H4 r0).1 (z2 y H4 r0).2 (by omega)⟩)
    fun H ⟨acc, q1, q2, q3, q4⟩ => hd H acc q3 q1 q2 q4
/-! ### a list or a tuple -/
def ItS (K : PySem.W.Frag) : Bool → Addr → It
  | true => Itl K
  | false => Itt K
def iSeq (K : PySem.W.Frag) (tl : TE) : TI := fun σ H R => tl σ H fun x H1 => ∃ a k, x = .ref a ∧ (∃ xs, SqB K k H1 a xs) ∧ R (ItS K k a) H1
theorem r_seqI {tl : TE} {S : It → Hp → Prop} : iSeq K tl σ H S = tl σ H fun x H1 => ∃ a k, x = .ref a ∧ (∃ xs, SqB K k H1 a xs) ∧ S (ItS K k a) H1 := rfl
theorem loopB {k : Bool} {a : Addr} {xs : List V} {tb : TS} (Pv : Nat → L2.St → Hp → Prop) (h0 : Pv 0 σ H) (hl : ∀ i σ H, i ≤ xs.length → Pv i σ H → SqB K k H a xs)
    (hs : ∀ i x σ H, xs[i]? = some x → Pv i σ H → g x σ H fun σ2 H2 => tb { nx := Pv (i + 1), rt := D.rt, bk := D.nx, ct := Pv (i + 1) } σ2 H2) (hd : ∀ σ H, Pv xs.length σ H → D.nx σ H) : LoopW (ItS K k a) g tb D σ H := by
  cases k
  · exact for_tup Pv h0 hl hs hd
  · exact for_list Pv h0 hl hs hd
theorem lcB {k : Bool} (R : Nat → V → Hp → Prop) (hR : ∀ i y H H', Kp H H' → R i y H → R i y H') (hD : H1 Dd = none) (hx : SqB K k H1 a xs) (hz : xs.length ≤ 100000)
    (hs : ∀ (i : Nat) x H, xs[i]? = some x → Ex H1 H → g x (wipe σ vs) H fun σ2 H2 => wipe σ2 vs = wipe σ vs ∧ tmE te σ2 H2 fun y H4 => Ex H H4 ∧ R i y H4)
    (hg : GMono g)
    (hd : LcEnd H1 Dd xs.length R Q) : LcW (ItS K k a) g tYes (tmE te) vs σ H1 Dd Q := by
  cases k
  · exact lcT R hR hD hx hz hs (fun i x H S S' _ h q => hg _ _ _ _ _ h q) hd
  · exact lcL (J0 := True) R hR hD hx hz hs (fun i x H S S' _ h q => hg _ _ _ _ _ h q) hd
theorem sqB_or {k : Bool} {a : Addr} {xs : List V} (h : SqB K k H a xs) : SqL K H a xs ∨ SqT K H a xs := by
  cases k
  · exact .inr h
  · exact .inl h
theorem q_ixB {k : Bool} {p : Addr} {xs : List V} {i : Int} {v : V} (h : SqB K k H p xs) (e : atI xs i = some v) (q : Q v H) : rIxL K (.ref p) (.int i) H Q ∨ rIxT K (.ref p) (.int i) H Q := by
  cases k
  · exact .inr (q_ixT h e q)
  · exact .inl (q_ixL h e q)
end
section
variable {X : Cx} {tg : Expr} {K : PySem.W.Frag}
theorem pi_seq {l : Expr} {tl : TE} (hl : PE X l tl) (h : X.K = K := by rfl) : PI X tg l (iSeq K tl) := by
  subst h
  refine ⟨fun pins s σ H R I h => ?_⟩
  refine thn (hl.run pins s σ H _ I h) fun v s1 ⟨x, H1, I1, r1, q1⟩ => ?_
  obtain ⟨a, k, e, ⟨xs, hq⟩, q⟩ := q1
  subst e
  cases r1
  cases k
  · obtain ⟨its, rv, p, hz⟩ := I1.tuple hq
    refine wpAny_pyIter_tuple (show s1.heap.IsTuple a its.toArray from p) ?_
    refine ⟨s1.heap.objs.size, [s1.heap.objs.size], _, _, H1, rfl, I1.kept (t' := s1.toks) fun b o e => Heap.get?_push_of_some _ e, turn_tuple a _, ⟨_, Heap.get?_push_size _ rfl, rfl, rfl⟩, fun b hb => ?_, q⟩
    have e : b = s1.heap.objs.size := by simpa using hb
    subst e
    exact I1.fpOk (Nat.le_refl _) (I1.hok.fresh (Nat.le_refl _))
  · obtain ⟨its, rv, p, hz⟩ := I1.list hq
    refine wpAny_pyIter_list p.isList ?_
    refine ⟨s1.heap.objs.size, [s1.heap.objs.size], _, _, H1, rfl, I1.kept (t' := s1.toks) fun b o e => Heap.get?_push_of_some _ e, turn_list a _, ⟨_, Heap.get?_push_size _ rfl, rfl, rfl⟩, fun b hb => ?_, q⟩
    have e : b = s1.heap.objs.size := by simpa using hb
    subst e
    exact I1.fpOk (Nat.le_refl _) (I1.hok.fresh (Nat.le_refl _))
def rIxB (K : PySem.W.Frag) : R2 := fun x y H Q => rIxL K x y H Q ∨ rIxT K x y H Q
theorem ixB (h : X.K = K := by rfl) : IxR X (rIxB K) := by
  subst h
  exact ix_list.or ix_tup
theorem call_intB : CallR X (.type "int") (fun xs H Q => (∃ i, xs = [.int i] ∧ Q (.int i) H) ∨ ∃ k, xs = [.bl k] ∧ Q (.int (if k then 1 else 0)) H) := call_int1
end

/-! comprehensions whose items may be lists -/
/-- all but the list d stays -/
def But (d : Addr) (H H' : Hp) : Prop := ∀ a o, (a ≠ d ∨ ∀ xs, o ≠ .lst xs) → H a = some o → H' a = some o
theorem Ex.but {d : Addr} {H H' : Hp} (e : Ex H H') : But d H H' := fun a o _ h => e a o h
theorem But.kp {d : Addr} {H H' : Hp} (b : But d H H') : Kp H H' := fun a o h n => b a o (.inr n) h
theorem But.trans {d : Addr} {H H1 H2 : Hp} (a : But d H H1) (b : But d H1 H2) : But d H H2 := fun x o n h => b x o n (a x o n h)
section
variable {g : TG} {te : TE} {vs : List Nat} {σ : L2.St} {H1 : Hp} {Dd v : Addr} {Q : VK} {K : PySem.W.Frag} {a : Addr} {xs : List V} {D : Ends} {H : Hp}
theorem lcB_turn {R : Nat → V → Hp → Prop} (hR : ∀ i y H H', But Dd H H' → R i y H → R i y H') (hD : H1 Dd = none) {i : Nat} {H H4 : Hp} {y : V}
    (p : LcJ H1 Dd R i H) (e : Ex H H4) (r : R i y H4) (hi : i < 1000000) :
    ∃ acc, H4 Dd = some (.lst acc) ∧ acc.length < sizeLine ∧ LcJ H1 Dd R (i + 1) (upd H4 Dd (.lst (acc ++ [y]))) := by
  obtain ⟨acc, h1, h2, h3, h4⟩ := p
  have k : But Dd H4 (upd H4 Dd (.lst (acc ++ [y]))) := fun b o n hb => by
    rw [upd_ne]
    · exact hb
    · intro z
      rw [z, e _ _ h1] at hb
      rcases n with n | n
      · exact n z
      · exact n _ (Option.some.inj hb).symm
  refine ⟨acc, e _ _ h1, Nat.lt_of_lt_of_le (show acc.length < 1000000 by omega) (by decide), acc ++ [y], upd_same, by simp [h2], fun b o hb => ?_, fun j z hz => ?_⟩
  · rw [upd_ne (ne_of_none hb hD)]
    exact e _ _ (h3 _ _ hb)
  · by_cases hj : j < acc.length
    · rw [List.getElem?_append_left hj] at hz
      exact hR _ _ _ _ (e.but.trans k) (h4 j z hz)
    · have hj2 : j = acc.length := by
        have := (List.getElem?_eq_some_iff.mp hz).1
        rw [List.length_append, List.length_singleton] at this
        omega
      subst hj2
      rw [List.getElem?_append_right (Nat.le_refl _), Nat.sub_self] at hz
      cases hz
      rw [h2]
      exact hR _ _ _ _ k r
/-- over a tuple, by a name -/
theorem lcTb {j : Nat} (R : Nat → V → Hp → Prop) (hR : ∀ i y H H', But Dd H H' → R i y H → R i y H') (hD : H1 Dd = none) (hx : SqT K H1 a xs) (hz : xs.length ≤ 100000)
    (hw : ∀ x, wipe ((wipe σ vs).set j (some x)) vs = wipe σ vs)
    (hs : ∀ (i : Nat) x H, xs[i]? = some x → Ex H1 H → (∃ acc, H Dd = some (.lst acc)) → tmE te ((wipe σ vs).set j (some x)) H fun y H4 => Ex H H4 ∧ R i y H4)
    (hd : LcEnd H1 Dd xs.length R Q) : LcW (Itt K a) (gName j) tYes (tmE te) vs σ H1 Dd Q :=
  lc_tup (xs := xs) (LcJ H1 Dd R) (lcJ_start hD) (fun i H _ ⟨_, _, _, e, _⟩ => sqT_kp hx e.kp) (fun i x H hi p => by
    obtain ⟨acc, q1, q2, q3, q4⟩ := id p
    refine ⟨hw _, ?_⟩
    obtain ⟨R0, z1, z2⟩ := hs i x H hi q3 ⟨_, q1⟩
    exact ⟨R0, z1, fun y H4 r0 => lcB_turn hR hD p (z2 y H4 r0).1 (z2 y H4 r0).2 (by have := (List.getElem?_eq_some_iff.mp hi).1; omega)⟩)
    fun H ⟨acc, q1, q2, q3, q4⟩ => hd H acc q3 q1 q2 q4
/-- over a list, by a name -/
theorem lcLb {j : Nat} (R : Nat → V → Hp → Prop) (hR : ∀ i y H H', But Dd H H' → R i y H → R i y H') (hD : H1 Dd = none) (hx : SqL K H1 a xs) (hz : xs.length ≤ 100000)
    (hw : ∀ x, wipe ((wipe σ vs).set j (some x)) vs = wipe σ vs)
    (hs : ∀ (i : Nat) x H, xs[i]? = some x → Ex H1 H → (∃ acc, H Dd = some (.lst acc)) → tmE te ((wipe σ vs).set j (some x)) H fun y H4 => Ex H H4 ∧ R i y H4)
    (hd : LcEnd H1 Dd xs.length R Q) : LcW (Itl K a) (gName j) tYes (tmE te) vs σ H1 Dd Q :=
  lc_list (xs := xs) (LcJ H1 Dd R) (lcJ_start hD) (fun i H _ ⟨_, _, _, e, _⟩ => sqL_ex hx e) (fun i x H hi p => by
    obtain ⟨acc, q1, q2, q3, q4⟩ := id p
    refine ⟨hw _, ?_⟩
    obtain ⟨R0, z1, z2⟩ := hs i x H hi q3 ⟨_, q1⟩
    exact ⟨R0, z1, fun y H4 r0 => lcB_turn hR hD p (z2 y H4 r0).1 (z2 y H4 r0).2 (by have := (List.getElem?_eq_some_iff.mp hi).1; omega)⟩)
    fun H ⟨acc, q1, q2, q3, q4⟩ => hd H acc q3 q1 q2 q4
/-- over a range -/
theorem lcRb {lo : Int} {n : Nat} {j : Nat} (R : Nat → V → Hp → Prop) (hR : ∀ i y H H', But Dd H H' → R i y H → R i y H') (hD : H1 Dd = none) (hz : n ≤ 100000)
    (hw : ∀ x, wipe ((wipe σ vs).set j (some x)) vs = wipe σ vs)
    (hs : ∀ (i : Nat) H, i < n → Ex H1 H → (∃ acc, H Dd = some (.lst acc)) → tmE te ((wipe σ vs).set j (some (.int (lo + i)))) H fun y H4 => Ex H H4 ∧ R i y H4)
    (hd : LcEnd H1 Dd n R Q) : LcW (Itr lo n) (gName j) tYes (tmE te) vs σ H1 Dd Q :=
  lc_range (LcJ H1 Dd R) (lcJ_start hD) (fun i H hi p => by
    obtain ⟨acc, q1, q2, q3, q4⟩ := id p
    refine ⟨hw _, ?_⟩
    obtain ⟨R0, z1, z2⟩ := hs i H hi q3 ⟨_, q1⟩
    exact ⟨R0, z1, fun y H4 r0 => lcB_turn hR hD p (z2 y H4 r0).1 (z2 y H4 r0).2 (by omega)⟩)
    fun H ⟨acc, q1, q2, q3, q4⟩ => hd H acc q3 q1 q2 q4
theorem sqL_but {d a : Addr} {H H' : Hp} {xs : List V} (h : SqL K H a xs) (n : a ≠ d) (e : But d H H') : SqL K H' a xs := by
  rcases h with (h | ⟨o, h⟩) | h
  · exact .inl (.inl (e _ _ (.inl n) h))
  · exact .inl (.inr ⟨o, e _ _ (.inl n) h⟩)
  · exact .inr h
end

/-! tuples added, data that differ, comprehensions with a test, ways to choose of great numbers -/
section
variable {X : Cx} {K : PySem.W.Frag}
/-- t + u, u not empty -/
def rCatAN (K : PySem.W.Frag) : R2 := fun x y H Q => ∃ a b xs ys, x = .ref a ∧ y = .ref b ∧ SqT K H a xs ∧ SqT K H b ys ∧ ys ≠ [] ∧ xs.length + ys.length ≤ sizeLine ∧
  ∀ p H', Ex H H' → SqT K H' p (xs ++ ys) → Q (.ref p) H'
theorem op_catAN (h : X.K = K := by rfl) : OpR X (binaryOp .Add) (rCatAN K) := by
  subst h
  exact OpR.imp op_catA fun x y H Q ⟨a, b, xs, ys, e1, e2, h1, h2, hy, z, n⟩ => ⟨a, b, xs, ys, e1, e2, h1, h2, z,
    fun q => n b H (Ex.refl H) (by rw [q]; exact h2), fun _ q => absurd q hy, fun _ _ p hp => n p _ (Ex.new hp) (.of upd_same)⟩
theorem op_neB (hu : X.A.units + 64 < cLine) (h : X.K = K := by rfl) : OpR X (compareOp .NotEq) (rNeD K) := by
  subst h
  exact op_neD hu
theorem op_eqB (hu : X.A.units + 64 < cLine) (h : X.K = K := by rfl) : OpR X (compareOp .Eq) (rEqD K) := by
  subst h
  exact op_eqD hu
end
section
variable {g : TG} {te : TE} {tt : TT} {vs : List Nat} {σ : L2.St} {H1 : Hp} {Dd : Addr} {Q : VK} {K : PySem.W.Frag} {a : Addr}
/-- the ints of a tuple for which a test holds -/
theorem lcTf {j : Nat} (p : Int → Bool) {ts : List Int} (hD : H1 Dd = none) (hx : SqT K H1 a (ts.map V.int)) (hz : ts.length ≤ 100000)
    (hw : ∀ x, wipe ((wipe σ vs).set j (some x)) vs = wipe σ vs)
    (hs : ∀ c H (S : Bool → Hp → Prop), S (p c) H → tt ((wipe σ vs).set j (some (.int c))) H S)
    (hv : ∀ c H (S : VK), S (.int c) H → te ((wipe σ vs).set j (some (.int c))) H S)
    (hd : ∀ H, Ex H1 H → H Dd = some (.lst ((ts.filter p).map V.int)) → Q (.ref Dd) H) : LcW (Itt K a) (gName j) tt (tmE te) vs σ H1 Dd Q :=
  lc_tup (xs := ts.map V.int) (fun i H => H Dd = some (.lst (((ts.take i).filter p).map V.int)) ∧ Ex H1 H) ⟨by simp [upd_same], Ex.new hD⟩ (fun i H _ h => sqT_kp hx h.2.kp) (fun i x H hi h => by
    obtain ⟨hl, he⟩ := h
    rw [List.getElem?_map] at hi
    cases hc : ts[i]? with
    | none => rw [hc] at hi; cases hi
    | some c =>
      rw [hc] at hi
      cases hi
      have et : ts.take (i + 1) = ts.take i ++ [c] := by
        rw [List.take_add_one, hc]
        rfl
      refine ⟨hw _, hs c H _ ?_⟩
      cases hp : p c with
      | false =>
        rw [if_neg (by decide)]
        refine ⟨?_, he⟩
        rw [et, List.filter_append, List.filter_cons, hp]
        simpa using hl
      | true =>
        rw [if_pos rfl]
        refine ⟨fun y H' => y = .int c ∧ H' = H, hv c H _ ⟨rfl, rfl⟩, ?_⟩
        rintro y H' ⟨rfl, rfl⟩
        refine ⟨_, hl, ?_, ?_, ?_⟩
        · have h1 := List.length_filter_le p (ts.take i)
          have h2 := List.length_take_le i ts
          rw [List.length_map]
          refine Nat.lt_of_lt_of_le (show _ < 1000000 from ?_) (by decide)
          have h3 : (ts.take i).length ≤ ts.length := by rw [List.length_take]; omega
          omega
        · rw [et, List.filter_append, List.filter_cons, hp]
          simp [upd_same]
        · exact fun b o hb => by
            rw [upd_ne (ne_of_none hb hD)]
            exact he _ _ hb)
    fun H h => by
      rw [List.length_map, List.take_length] at h
      exact hd H h.2 h.1
end
/-! ### ways to choose -/
theorem chs_zero (a : Nat) : chs a 0 = 1 := by cases a <;> rfl
theorem chs_big : ∀ (a k : Nat), a < k → chs a k = 0
  | _, 0, h => by omega
  | 0, k + 1, _ => rfl
  | a + 1, k + 1, h => by
    show chs a k + chs a (k + 1) = 0
    rw [chs_big a k (by omega), chs_big a (k + 1) (by omega)]
theorem chs_self : ∀ a : Nat, chs a a = 1
  | 0 => rfl
  | a + 1 => by
    show chs a a + chs a (a + 1) = 1
    rw [chs_self a, chs_big a (a + 1) (by omega)]
theorem chs_step : ∀ (a k : Nat), ((k : Int) + 1) * ((chs a (k + 1) : Nat) : Int) = ((a : Int) - (k : Int)) * ((chs a k : Nat) : Int)
  | 0, 0 => by decide
  | 0, k + 1 => by
    have h1 : chs 0 (k + 1) = 0 := rfl
    have h2 : chs 0 (k + 1 + 1) = 0 := rfl
    rw [h1, h2]
    simp
  | a + 1, 0 => by
    have ih := chs_step a 0
    have h1 : chs (a + 1) (0 + 1) = chs a 0 + chs a (0 + 1) := rfl
    rw [h1, chs_zero, chs_zero] at *
    push_cast at *
    omega
  | a + 1, k + 1 => by
    have ih := chs_step a (k + 1)
    have ih2 := chs_step a k
    have h1 : chs (a + 1) (k + 1 + 1) = chs a (k + 1) + chs a (k + 1 + 1) := rfl
    have h2 : chs (a + 1) (k + 1) = chs a k + chs a (k + 1) := rfl
    rw [h1, h2]
    generalize chs a (k + 1 + 1) = z at *
    generalize chs a (k + 1) = y at *
    generalize chs a k = x at *
    push_cast at *
    grind
def fct : Nat → Int
  | 0 => 1
  | k + 1 => fct k * ((k : Int) + 1)
theorem fct_pos : ∀ k : Nat, 0 < fct k
  | 0 => by decide
  | k + 1 => Int.mul_pos (fct_pos k) (by omega)
theorem fall_chs (a : Nat) : ∀ k : Nat, Builtin.Math.fallingProduct (a : Int) k = ((chs a k : Nat) : Int) * fct k
  | 0 => by
    rw [PySem.W.mc_fp_zero, chs_zero]
    rfl
  | k + 1 => by
    rw [PySem.W.mc_fp_succ, fall_chs a k]
    have := chs_step a k
    show _ = _ * (fct k * ((k : Int) + 1))
    grind
theorem comb_big {a k : Nat} (hk : k < 6) : PySem.W.mcComb (a : Int) (k : Int) = ((chs a k : Nat) : Int) := by
  by_cases h : k ≤ a
  · by_cases h2 : a < 12
    · have g : ∀ a < 12, ∀ k < 6, PySem.W.mcComb ((a : Nat) : Int) ((k : Nat) : Int) = ((chs a k : Nat) : Int) := by decide +kernel
      exact g a h2 k hk
    · have e := PySem.W.mcComb_at (a := (a : Int)) (b := (k : Int)) (by omega) (by omega) (m := (k : Int)) (by omega)
      rw [e]
      have t : ((k : Int)).toNat = k := by omega
      rw [t, fall_chs a k, fall_chs k k, chs_self]
      have := fct_pos k
      rw [show (((1 : Nat)) : Int) = 1 from rfl, Int.one_mul]
      exact Int.mul_ediv_cancel _ (by omega)
  · rw [PySem.W.mcComb_above (by omega), chs_big a k (by omega)]
    rfl
theorem chs_pow : ∀ (a k : Nat), chs a k ≤ a ^ k
  | a, 0 => by rw [chs_zero]; simp
  | a, k + 1 => by
    by_cases h : a < k
    · rw [chs_big a (k + 1) (by omega)]
      exact Nat.zero_le _
    have ih := chs_pow a k
    have e := chs_step a k
    have h1 : ((a : Int) - (k : Int)) = ((a - k : Nat) : Int) := by omega
    rw [h1] at e
    have e2 : (k + 1) * chs a (k + 1) = (a - k) * chs a k := by
      have : (((k + 1) * chs a (k + 1) : Nat) : Int) = (((a - k) * chs a k : Nat) : Int) := by
        push_cast
        push_cast at e
        exact e
      exact Int.ofNat_inj.mp this
    have h2 : (a - k) * chs a k ≤ a * a ^ k := Nat.mul_le_mul (by omega) ih
    have h3 : 1 * chs a (k + 1) ≤ (k + 1) * chs a (k + 1) := Nat.mul_le_mul_right _ (by omega)
    rw [Nat.pow_succ, Nat.mul_comm]
    omega
theorem chs_lt {a k n : Nat} (ha : a < 2 ^ n) (hk : k ≤ 5) : chs a k < 2 ^ (n * 5 + 1) := by
  have h1 := chs_pow a k
  have h2 : a ^ k ≤ (2 ^ n) ^ k := Nat.pow_le_pow_left (by omega) k
  rw [← Nat.pow_mul] at h2
  have h3 := Nat.pow_le_pow_right (show 0 < 2 by decide) (Nat.mul_le_mul_left n hk)
  have h4 : 2 ^ (n * 5 + 1) = 2 ^ (n * 5) + 2 ^ (n * 5) := by rw [Nat.pow_succ]; omega
  have := Nat.two_pow_pos (n * 5)
  omega
theorem chs_posG {a k : Nat} (h : k ≤ a) : 0 < chs a k := by
  have g : ∀ (a k : Nat), k ≤ a → 0 < chs a k := by
    intro a
    induction a with
    | zero =>
      intro k h
      have : k = 0 := by omega
      subst this
      decide
    | succ a ih =>
      intro k h
      cases k with
      | zero => rw [chs_zero]; decide
      | succ k =>
        have := ih k (by omega)
        show 0 < chs a k + chs a (k + 1)
        omega
  exact g a k h

/-! sums of products of ways to choose -/
/-- f 0 + .. + f (m - 1) -/
def Zs' (m : Nat) (f : Nat → Int) : Int := ((List.range m).map f).sum
theorem Zs_zero (f : Nat → Int) : Zs' 0 f = 0 := rfl
theorem Zs_succ (m : Nat) (f : Nat → Int) : Zs' (m + 1) f = Zs' m f + f m := by
  unfold Zs'
  rw [List.range_succ, List.map_append, List.sum_append]
  simp only [List.map_cons, List.map_nil, List.sum_cons, List.sum_nil]
  omega
theorem Zs_first : ∀ (m : Nat) (f : Nat → Int), Zs' (m + 1) f = f 0 + Zs' m fun k => f (k + 1)
  | 0, f => by rw [Zs_succ, Zs_zero, Zs_zero]; omega
  | m + 1, f => by rw [Zs_succ, Zs_first m f, Zs_succ m]; omega
theorem Zs_congr {m : Nat} {f g : Nat → Int} (h : ∀ k < m, f k = g k) : Zs' m f = Zs' m g := by
  induction m with
  | zero => rfl
  | succ m ih => rw [Zs_succ, Zs_succ, ih fun k hk => h k (by omega), h m (by omega)]
theorem Zs_add (f g : Nat → Int) : ∀ m : Nat, Zs' m (fun k => f k + g k) = Zs' m f + Zs' m g
  | 0 => rfl
  | m + 1 => by rw [Zs_succ, Zs_succ, Zs_succ, Zs_add f g m]; omega
theorem Zs_mul (c : Int) (f : Nat → Int) : ∀ m : Nat, Zs' m (fun k => c * f k) = c * Zs' m f
  | 0 => by rw [Zs_zero, Zs_zero, Int.mul_zero]
  | m + 1 => by rw [Zs_succ, Zs_succ, Zs_mul c f m, Int.mul_add]
/-- the ways to choose d of y and r things, by how many are of the y -/
def vd (y r d : Nat) : Int := Zs' (d + 1) fun k => ((chs y k : Nat) : Int) * ((chs r (d - k) : Nat) : Int)
theorem vd_zero (y r : Nat) : vd y r 0 = 1 := by
  unfold vd
  rw [Zs_succ, Zs_zero, chs_zero, chs_zero]
  rfl
theorem vd_none (r d : Nat) : vd 0 r d = ((chs r d : Nat) : Int) := by
  unfold vd
  rw [Zs_first]
  have e : Zs' d (fun k => ((chs 0 (k + 1) : Nat) : Int) * ((chs r (d - (k + 1)) : Nat) : Int)) = Zs' d (fun k => 0 * ((chs r (d - (k + 1)) : Nat) : Int)) := Zs_congr fun k _ => rfl
  rw [e, Zs_mul, chs_zero]
  simp
theorem vd_step (y r d : Nat) : vd (y + 1) r (d + 1) = vd y r (d + 1) + vd y r d := by
  unfold vd
  rw [Zs_first, Zs_first (d + 1) fun k => ((chs y k : Nat) : Int) * ((chs r (d + 1 - k) : Nat) : Int)]
  have e : Zs' (d + 1) (fun k => ((chs (y + 1) (k + 1) : Nat) : Int) * ((chs r (d + 1 - (k + 1)) : Nat) : Int)) =
      Zs' (d + 1) (fun k => ((chs y (k + 1) : Nat) : Int) * ((chs r (d + 1 - (k + 1)) : Nat) : Int) + ((chs y k : Nat) : Int) * ((chs r (d - k) : Nat) : Int)) := by
    apply Zs_congr
    intro k _
    have h1 : chs (y + 1) (k + 1) = chs y k + chs y (k + 1) := rfl
    have h2 : d + 1 - (k + 1) = d - k := by omega
    rw [h1, h2, Int.natCast_add, Int.add_mul]
    omega
  rw [e, Zs_add, chs_zero, chs_zero]
  omega
theorem vandermonde : ∀ (y r d : Nat), vd y r d = ((chs (y + r) d : Nat) : Int)
  | 0, r, d => by rw [vd_none, Nat.zero_add]
  | y + 1, r, 0 => by rw [vd_zero, chs_zero]; rfl
  | y + 1, r, d + 1 => by
    rw [vd_step, vandermonde y r (d + 1), vandermonde y r d]
    have e : y + 1 + r = y + r + 1 := by omega
    have h1 : chs (y + r + 1) (d + 1) = chs (y + r) d + chs (y + r) (d + 1) := rfl
    rw [e, h1, Int.natCast_add]
    omega
theorem fall_add (a : Int) (j : Nat) : ∀ i : Nat, Builtin.Math.fallingProduct a (j + i) = Builtin.Math.fallingProduct a j * Builtin.Math.fallingProduct (a - (j : Int)) i
  | 0 => by rw [PySem.W.mc_fp_zero, Nat.add_zero, Int.mul_one]
  | i + 1 => by
    rw [show j + (i + 1) = (j + i) + 1 from rfl, PySem.W.mc_fp_succ, PySem.W.mc_fp_succ, fall_add a j i, Int.mul_assoc]
    congr 2
    omega
/-- choosing k of a, then j of these: choosing j of a, then the others -/
theorem revise {a k j : Nat} (hj : j ≤ k) : ((chs a k : Nat) : Int) * ((chs k j : Nat) : Int) = ((chs a j : Nat) : Int) * ((chs (a - j) (k - j) : Nat) : Int) := by
  by_cases ha : j ≤ a
  · have e1 := fall_chs a k
    have e2 := fall_chs a j
    have e3 := fall_chs (a - j) (k - j)
    have e4 := fall_chs k j
    have e5 := fall_chs (k - j) (k - j)
    have e6 := fall_chs k k
    rw [chs_self] at e5 e6
    have s1 := fall_add (a : Int) j (k - j)
    have s2 := fall_add (k : Int) j (k - j)
    rw [show j + (k - j) = k by omega] at s1 s2
    have c1 : (a : Int) - (j : Int) = ((a - j : Nat) : Int) := by omega
    have c2 : (k : Int) - (j : Int) = ((k - j : Nat) : Int) := by omega
    rw [c1] at s1
    rw [c2] at s2
    rw [e1, e2, e3] at s1
    rw [e6, e4, e5] at s2
    have p1 := fct_pos j
    have p2 := fct_pos (k - j)
    have one : (((1 : Nat)) : Int) = 1 := rfl
    rw [one] at s2
    generalize ((chs a k : Nat) : Int) = x at *
    generalize ((chs k j : Nat) : Int) = y at *
    generalize ((chs a j : Nat) : Int) = z at *
    generalize ((chs (a - j) (k - j) : Nat) : Int) = u at *
    generalize fct k = f at *
    generalize fct j = g at *
    generalize fct (k - j) = h at *
    have key : x * y * (g * h) = z * u * (g * h) := by
      have a1 : x * y * (g * h) = x * (y * g * (1 * h)) := by grind
      rw [a1, ← s2]
      have a2 : x * (1 * f) = x * f := by rw [Int.one_mul]
      rw [a2, s1]
      grind
    exact Int.eq_of_mul_eq_mul_right (Int.ne_of_gt (Int.mul_pos p1 p2)) key
  · rw [chs_big a k (by omega), chs_big a j (by omega)]
    simp
/-- the mean of the ways to choose j of the yes among d draws -/
theorem moment {y r d j : Nat} (hj : j ≤ d) : (Zs' (d + 1) fun k => ((chs y k : Nat) : Int) * ((chs r (d - k) : Nat) : Int) * ((chs k j : Nat) : Int)) = ((chs y j : Nat) : Int) * (if j ≤ y then ((chs (y - j + r) (d - j) : Nat) : Int) else 0) := by
  obtain ⟨e, rfl⟩ : ∃ e, d = j + e := ⟨d - j, by omega⟩
  have split : ∀ (j : Nat) (f : Nat → Int), Zs' (j + e + 1) f = Zs' j f + Zs' (e + 1) fun k => f (j + k) := by
    intro j f
    clear hj
    induction e with
    | zero => rw [Zs_succ, Zs_succ, Zs_zero]; simp
    | succ e ih => rw [show j + (e + 1) + 1 = (j + e + 1) + 1 from rfl, Zs_succ, ih, Zs_succ (e + 1)]; simp only [Nat.add_assoc]; omega
  rw [split]
  have z : Zs' j (fun k => ((chs y k : Nat) : Int) * ((chs r (j + e - k) : Nat) : Int) * ((chs k j : Nat) : Int)) = Zs' j (fun k => 0 * ((chs y k : Nat) : Int)) := by
    apply Zs_congr
    intro k hk
    rw [chs_big k j hk]
    simp
  rw [z, Zs_mul, Int.zero_mul, Int.zero_add]
  have t : Zs' (e + 1) (fun k => ((chs y (j + k) : Nat) : Int) * ((chs r (j + e - (j + k)) : Nat) : Int) * ((chs (j + k) j : Nat) : Int)) =
      Zs' (e + 1) (fun k => ((chs y j : Nat) : Int) * (((chs (y - j) k : Nat) : Int) * ((chs r (e - k) : Nat) : Int))) := by
    apply Zs_congr
    intro k _
    have h := revise (a := y) (k := j + k) (j := j) (by omega)
    have e1 : j + k - j = k := by omega
    have e2 : j + e - (j + k) = e - k := by omega
    rw [e1] at h
    rw [e2]
    calc _ = ((chs y (j + k) : Nat) : Int) * ((chs (j + k) j : Nat) : Int) * ((chs r (e - k) : Nat) : Int) := by grind
      _ = _ := by rw [h]; grind
  rw [t, Zs_mul]
  have e3 : j + e - j = e := by omega
  rw [e3]
  by_cases hy : j ≤ y
  · rw [if_pos hy]
    have := vandermonde (y - j) r e
    unfold vd at this
    rw [this]
  · rw [if_neg hy, chs_big y j (by omega)]
    simp

/-! slices of tuples; lists told by an own notion under changes of one list -/
def rSlAN (K : PySem.W.Frag) : V → Option Int → Option Int → Hp → VK → Prop := fun x lo hi H Q => ∃ a xs, x = .ref a ∧ SqT K H a xs ∧ ∀ p H', Ex H H' → SqT K H' p (cutV xs lo hi) → Q (.ref p) H'
theorem sl_tupAN {X : Cx} {K : PySem.W.Frag} (h : X.K = K := by rfl) : L2.SlR X (rSlAN K) := by
  subst h
  refine SlR.imp sl_tupA fun x lo hi H Q ⟨a, xs, e, hS, n⟩ => ⟨a, xs, e, hS, fun w => ?_, fun _ p hp => n p _ (Ex.new hp) (.of upd_same)⟩
  refine n a H (Ex.refl H) ?_
  unfold cutV
  rw [w.1, w.2]
  simpa using hS
theorem cut_take (xs : List V) (n : Nat) : cutV xs none (some (n : Int)) = xs.take n := by
  unfold cutV
  rw [HT.sIx_none, HT.sIx_nat, List.drop_zero, Nat.sub_zero]
  by_cases h : n ≤ xs.length
  · rw [Nat.min_eq_left h]
  · rw [Nat.min_eq_right (by omega), List.take_length, List.take_of_length_le (by omega)]
theorem cut_drop (xs : List V) (n : Nat) : cutV xs (some (n : Int)) none = xs.drop n := by
  unfold cutV
  rw [HT.sIx_none, HT.sIx_nat]
  by_cases h : n ≤ xs.length
  · rw [Nat.min_eq_left h, List.take_of_length_le (by rw [List.length_drop]; omega)]
  · rw [Nat.min_eq_right (by omega), List.drop_eq_nil_of_le (Nat.le_refl _), List.drop_eq_nil_of_le (by omega)]
    simp

/-! walks within a comprehension, their K named -/
section
variable {X : Cx} {K : PySem.W.Frag} {tg e : Expr} {te : TE}
theorem kPiL (he : PE X e te) (h : X.K = K := by rfl) : PI X tg e (iList K te) := by
  subst h
  exact pi_list he
theorem kPiT (he : PE X e te) (h : X.K = K := by rfl) : PI X tg e (iTup K te) := by
  subst h
  exact pi_tup he
end

/-! list(range(n)) as a new list of numbers -/
section
variable {X : Cx} {a : Expr} {ta : TE}
def natV (n : Nat) : List Int := (List.range n).map fun i : Nat => (i : Int)
def tListR (ta : TE) : TE := fun σ H Q => ta σ H fun x H1 => ∃ n : Nat, x = .int (n : Int) ∧ n ≤ 1000 ∧ New H1 (.lst ((natV n).map V.int)) Q
theorem pe_listR {p p2 pos pos2 : Pos} (hc : X.calm = true) (gl : Gl X "list") (ml : X.mg "list" = none) (gr : Gl X "range") (mr : X.mg "range" = none) (ha : PE X a ta)
    (na : starEach [a] X.env = (false, eval a X.env) :: starEach [] X.env := by rfl) :
    PE X (.Call (.Name "list" p) [.Call (.Name "range" p2) [a] [] pos2] [] pos) (tListR ta) := by
  have q := pe_listRg (p := p) (pos := pos) hc gl ml (prg_1 (p := p2) (pos := pos2) gr mr (PE.mon ha) na)
  refine ⟨fun pins s σ H Q I h => q.run pins s σ H Q I ?_⟩
  refine ⟨_, h, ?_⟩
  rintro x H1 ⟨n, rfl, n1, hq⟩
  refine ⟨n, rfl, RgOk.of_le (by decide) (by omega) (by decide) (by omega), fun q nq => ?_⟩
  have e : rgV 0 (n : Int) = (natV n).map V.int := by
    unfold rgV natV
    rw [List.map_map, show ((n : Int) - 0).toNat = n by omega]
    apply List.map_congr_left
    intro i _
    simp
  rw [e]
  exact hq q _ nq (Ex.new nq) upd_same
end

/-! math.factorial; comprehensions of two clauses; a star in a tuple -/
open PySem PySem.Spec PyProof.Rows L2 StX
section
variable {X : Cx}
def rFact : List V → Hp → VK → Prop := fun vs H Q => ∃ n : Nat, vs = [.int (n : Int)] ∧ n ≤ 1000 ∧ Q (.int ((Builtin.Math.factorialNat n : Nat) : Int)) H
theorem cr_fact : CallR X (.builtin "math.factorial") rFact := by
  intro pins s σ H vs us Q I r h
  obtain ⟨n, rfl, hn, q⟩ := h
  cases r with
  | cons r1 r2 =>
    cases r2
    obtain ⟨t, rfl⟩ := r1
    refine PySem.W.mc_factorial (by omega) (by omega) fun _ => ⟨.int _, H, I.tok _, ⟨_, rfl⟩, ?_⟩
    exact q
/-- the inner walk of a comprehension of two clauses -/
def Lc2In (g1 : TG) (tt1 : TT) (te : TE) (vs1 : List Nat) (σ2 : L2.St) (D : Addr) (Nx : Hp → Prop) (J1 : It) (H4 : Hp) : Prop := ∃ W1 : Nat → Nat → Hp → Prop, (∃ m, W1 0 m H4) ∧ ∀ j k H, W1 j k H →
      (J1.stop j H ∧ Nx H) ∨ (J1.go j H ∧ ∃ Nx1 : Hp → Prop, (∀ H', Nx1 H' → ∃ k', k' < k ∧ W1 (j + 1) k' H') ∧ ∀ x H', J1.yld j H x H' → g1 x (wipe σ2 vs1) H' fun σ3 H5 => wipe σ3 vs1 = wipe σ2 vs1 ∧ tt1 σ3 H5 fun b H6 =>
        if b = true then te σ3 H6 fun y H7 => ∃ acc, H7 D = some (.lst acc) ∧ acc.length < sizeLine ∧ Nx1 (upd H7 D (.lst (acc ++ [y]))) else Nx1 H6)
def LcW2 (J : It) (g : TG) (tt : TT) (wi1 : TI) (g1 : TG) (tt1 : TT) (te : TE) (vs vs1 : List Nat) (σ : L2.St) (H1 : Hp) (D : Addr) (Q : VK) : Prop := ∃ W : Nat → Nat → Hp → Prop, (∃ m, W 0 m (upd H1 D (.lst []))) ∧ ∀ i m H, W i m H →
  (J.stop i H ∧ Q (.ref D) H) ∨ (J.go i H ∧ ∃ Nx : Hp → Prop, (∀ H', Nx H' → ∃ m', m' < m ∧ W (i + 1) m' H') ∧ ∀ x H', J.yld i H x H' → g x (wipe σ vs) H' fun σ2 H2 => wipe σ2 vs = wipe σ vs ∧ tt σ2 H2 fun b H3 =>
    if b = true then wi1 σ2 H3 fun J1 H4 => Lc2In g1 tt1 te vs1 σ2 D Nx J1 H4 else Nx H3)
theorem r_lc2 {wi : TI} {g : TG} {tt : TT} {wi1 : TI} {g1 : TG} {tt1 : TT} {te : TE} {vs vs1 : List Nat} {σ : L2.St} {H : Hp} {Q : VK} : tLc2 wi g tt wi1 g1 tt1 te vs vs1 σ H Q = wi σ H fun J H1 => ∀ D, H1 D = none → LcW2 J g tt wi1 g1 tt1 te vs vs1 σ H1 D Q := rfl
theorem r_star {K : PySem.W.Frag} {te : TE} {t : TA} {σ : L2.St} {H : Hp} {Q : List V → Hp → Prop} : tStar K te t σ H Q = te σ H fun x H1 => ∃ p xs, x = V.ref p ∧ (SqT K H1 p xs ∨ SqL K H1 p xs) ∧ t σ H1 fun ys H2 => Q (xs ++ ys) H2 := rfl
section
variable {J : It} {n : Nat} {G : Hp → Prop} {Y : Nat → Hp → V → Hp → Prop}
theorem lc2_it (w : Walk J n G Y) {g : TG} {tt : TT} {wi1 : TI} {g1 : TG} {tt1 : TT} {te : TE} {vs vs1 : List Nat} {σ : L2.St} {H1 : Hp} {D : Addr} {Q : VK} (Pv : Nat → Hp → Prop) (h0 : Pv 0 (upd H1 D (.lst []))) (hG : ∀ i H, i ≤ n → Pv i H → G H)
    (hs : ∀ i x H H', i < n → Pv i H → Y i H x H' → g x (wipe σ vs) H' fun σ2 H2 => wipe σ2 vs = wipe σ vs ∧ tt σ2 H2 fun b H3 => if b = true then wi1 σ2 H3 fun J1 H4 => Lc2In g1 tt1 te vs1 σ2 D (Pv (i + 1)) J1 H4 else Pv (i + 1) H3)
    (hd : ∀ H, Pv n H → Q (.ref D) H) : LcW2 J g tt wi1 g1 tt1 te vs vs1 σ H1 D Q := by
  refine ⟨fun i m H => m = n - i ∧ i ≤ n ∧ Pv i H, ⟨n, by simp, Nat.zero_le _, h0⟩, ?_⟩
  rintro i m H ⟨rfl, hi, p⟩
  have q := hG i H hi p
  by_cases hlt : i < n
  · exact .inr ⟨w.goes i H hlt q, Pv (i + 1), fun H' p' => ⟨n - (i + 1), by omega, rfl, hlt, p'⟩, fun x H' y => hs i x H H' hlt p (w.yields i H x H' hlt q y)⟩
  · have e : i = n := by omega
    subst e
    exact .inl ⟨w.stops H q, hd H p⟩
theorem lc2_in (w : Walk J n G Y) {g1 : TG} {tt1 : TT} {te : TE} {vs1 : List Nat} {σ2 : L2.St} {H4 : Hp} {D : Addr} {Nx : Hp → Prop} (Pv : Nat → Hp → Prop) (h0 : Pv 0 H4) (hG : ∀ i H, i ≤ n → Pv i H → G H)
    (hs : ∀ i x H H', i < n → Pv i H → Y i H x H' → g1 x (wipe σ2 vs1) H' fun σ3 H5 => wipe σ3 vs1 = wipe σ2 vs1 ∧ tt1 σ3 H5 fun b H6 => if b = true then te σ3 H6 fun y H7 => ∃ acc, H7 D = some (.lst acc) ∧ acc.length < sizeLine ∧ Pv (i + 1) (upd H7 D (.lst (acc ++ [y]))) else Pv (i + 1) H6)
    (hd : ∀ H, Pv n H → Nx H) : Lc2In g1 tt1 te vs1 σ2 D Nx J H4 := by
  refine ⟨fun i m H => m = n - i ∧ i ≤ n ∧ Pv i H, ⟨n, by simp, Nat.zero_le _, h0⟩, ?_⟩
  rintro i m H ⟨rfl, hi, p⟩
  have q := hG i H hi p
  by_cases hlt : i < n
  · exact .inr ⟨w.goes i H hlt q, Pv (i + 1), fun H' p' => ⟨n - (i + 1), by omega, rfl, hlt, p'⟩, fun x H' y => hs i x H H' hlt p (w.yields i H x H' hlt q y)⟩
  · have e : i = n := by omega
    subst e
    exact .inl ⟨w.stops H q, hd H p⟩
end
/-- the truth of a tuple -/
theorem pt_truT {K : PySem.W.Frag} {a : Expr} {ta : TE} (ha : PE X a ta) (he : ∀ whole, isTrue a X.env whole = (do let v ← whole; standAt a.pos; holding [v] (truthy v))) (h : X.K = K := by rfl) :
    PT X a (fun σ H Q => ta σ H fun x H' => ∃ p xs, x = .ref p ∧ SqT K H' p xs ∧ Q (!xs.isEmpty) H') := by
  subst h
  refine ⟨fun pins s σ H Q I q => ?_⟩
  refine isTrue_plain (thn ((PE.mon ha).run pins s σ H _ I ⟨_, q, fun y H' z => z⟩) fun v s1 ⟨x, H1, I1, r1, p, xs, e, hx, q1⟩ => ?_) (he _)
  refine tru_ok pins s1 σ H1 x v Q I1 r1 ⟨_, ?_, q1⟩
  subst e
  exact .inr (.inl ⟨xs, hx, rfl⟩)
theorem loopEl {K : PySem.W.Frag} {g : TG} {D : Ends} {σ : L2.St} {H : Hp} {a : Addr} {xs : List V} {tb : TS} (Pv : Nat → L2.St → Hp → Prop) (h0 : Pv 0 σ H) (hl : ∀ i σ H, i ≤ xs.length → Pv i σ H → SqL K H a xs)
    (hs : ∀ i x σ H T H', xs[i]? = some x → Pv i σ H → Ex H H' → H' T = some (.tup [.int (i : Nat), x]) → g (.ref T) σ H' fun σ2 H2 => tb { nx := Pv (i + 1), rt := D.rt, bk := D.nx, ct := Pv (i + 1) } σ2 H2) (hd : ∀ σ H, Pv xs.length σ H → D.nx σ H) : LoopW (Ite K a) g tb D σ H :=
  for_it (walk_enum (K := K) (a := a) (xs := xs)) Pv h0 hl (fun i v σ H H' hi hp y => by
    obtain ⟨T, x, z, rfl, hn, rfl, h1, h2⟩ := y
    cases h1
    exact hs i z σ H T _ h2 hp (Ex.new hn) upd_same) hd
theorem kStar {K : PySem.W.Frag} {e : Expr} {es : List Expr} {te : TE} {t : TA} {p : Pos} (he : PE X e te) (hr : PA X es t) (hs : starEach (.Starred e p :: es) X.env = (true, eval e X.env) :: starEach es X.env := by rfl) (h : X.K = K := by rfl) : PA X (.Starred e p :: es) (tStar K te t) := by
  subst h
  exact pa_star he hr hs
def rNotT : R2 := fun x y H Q => ∃ a b, x = .bl a ∧ y = .bl b ∧ Q (.bl (!decide (a = b))) H
theorem op_notT : OpR X (compareOp .IsNot) rNotT := op_isnot_bl
/-- a loop over enumerate of a list -/
theorem r_enumL {tx : TA} {K : PySem.W.Frag} {σ : L2.St} {H : Hp} {S : It → Hp → Prop} : iEnum K tx σ H S = tx σ H fun vs H1 => ∃ a xs, vs = [.ref a] ∧ SqL K H1 a xs ∧ S (Ite K a) H1 := rfl
end

/-! perm, isqrt, in, sorted, name op= e -/
section
variable {X : Cx}
def prm (a : Nat) (k : Nat) : Int := Builtin.Math.fallingProduct (a : Int) k
def rPerm : List V → Hp → VK → Prop := fun vs H Q => ∃ a k : Nat, vs = [.int (a : Int), .int (k : Int)] ∧ k ≤ a ∧ k ≤ 8 ∧ a < 2 ^ 2000 ∧ Q (.int (prm a k)) H
theorem cr_perm : CallR X (.builtin "math.perm") rPerm := by
  intro pins s σ H vs us Q I r h
  obtain ⟨a, k, rfl, hk, h8, ha, q⟩ := h
  obtain ⟨t, u, rfl⟩ := Vals.int2 r
  have hb : (Builtin.Math.fallingProduct (a : Int) k).natAbs ≤ 2 ^ (2000 * k) := fp_abs (by omega) (by rw [Int.natAbs_natCast]; exact Nat.le_of_lt ha) k (by omega)
  have hs : (Builtin.Math.fallingProduct (a : Int) ((k : Int)).toNat).natAbs.log2 < bitsLine := by
    rw [Int.toNat_natCast]
    exact lg (Nat.le_trans hb (Nat.pow_le_pow_right (by decide) (show 2000 * k ≤ 16000 by omega))) (by decide)
  have g := PySem.W.mc_run_perm (a : Int) t (k : Int) u (by omega) (by omega) (by omega) (by show ¬(k : Int) > 2 ^ 63 - 1; omega) (by show ¬(k : Int) > 20000; omega) hs
  rw [Int.toNat_natCast] at g
  exact call_function_meets PySem.W.MGF.kind_perm PySem.W.MGF.plain_perm PySem.W.MGF.entry_perm (PySem.W.MGF.args_perm _ _) g.meets ⟨.int _, H, I.tok _, ⟨_, rfl⟩, q⟩
def rIsqrt : List V → Hp → VK → Prop := fun vs H Q => ∃ a : Nat, vs = [.int (a : Int)] ∧ a < 2 ^ 2000 ∧ ∀ m : Nat, m * m ≤ a → a < (m + 1) * (m + 1) → Q (.int (m : Int)) H
theorem cr_isqrt : CallR X (.builtin "math.isqrt") rIsqrt := by
  intro pins s σ H vs us Q I r h
  obtain ⟨a, rfl, ha, q⟩ := h
  cases r with
  | cons r1 r2 =>
    cases r2
    obtain ⟨t, rfl⟩ := r1
    have hl : a.log2 ≤ 2000 := log_le ha
    have g := PySem.W.mg_run_isqrt (a : Int) t (by omega) (by rw [Int.toNat_natCast]; omega) (by rw [Int.toNat_natCast]; omega)
    rw [Int.toNat_natCast] at g
    obtain ⟨s1, s2⟩ := PySem.Float64.isqrt_spec a
    exact call_function_meets PySem.W.MGF.kind_isqrt PySem.W.MGF.plain_isqrt PySem.W.MGF.entry_isqrt (PySem.W.MGF.args_isqrt _) g.meets ⟨.int _, H, I.tok _, ⟨_, rfl⟩, q _ s1 s2⟩
/-- a number among a list's numbers -/
def rInI (K : PySem.W.Frag) : R2 := fun x y H Q => ∃ (p : Addr) (i : Int) (ns : List Int), x = .int i ∧ y = .ref p ∧ SqL K H p (ns.map V.int) ∧ Q (.bl (ns.any fun n => n == i)) H
theorem kIn {K : PySem.W.Frag} (h : X.K = K := by rfl) : OpR X (compareOp .In) (rInI K) := by
  subst h
  refine OpR.imp op_in_seq fun x y H Q ⟨p, i, ns, e1, e2, hs, q⟩ => ?_
  subst e1 e2
  refine ⟨p, ns.map V.int, rfl, .inl hs, rfl, by simp [List.all_map, flatV], ?_⟩
  have : inV (.int i) (ns.map V.int) = ns.any fun n => n == i := by
    unfold inV
    rw [List.any_map]
    congr 1
  rw [this]
  exact q
def rSrtN (K : PySem.W.Frag) : List V → Hp → VK → Prop := fun vs H Q => ∃ (a : Addr) (ns : List Int), vs = [V.ref a] ∧ SqL K H a (ns.map V.int) ∧ ∀ ns' : List Int, ns'.Perm ns → ns'.Pairwise (· ≤ ·) → New H (.lst (ns'.map V.int)) Q
theorem kSrt {K : PySem.W.Frag} (h : X.K = K := by rfl) : CallR X (.builtin "sorted") (rSrtN K) := by
  subst h
  exact CallR.imp cr_sortedI fun vs H Q ⟨a, ns, e, hs, q⟩ => ⟨a, ns, e, hs, fun ns' p h1 h2 np => (q ns' h1 h2).at p np⟩
def rReprB : List V → Hp → VK → Prop := fun vs H Q => ∃ b : Bool, vs = [.bl b] ∧ Q (.str (if b = true then "True" else "False")) H
theorem cr_reprB : CallR X (.builtin "repr") rReprB := by
  intro pins s σ H xs us Q I r h
  obtain ⟨b, rfl, q⟩ := h
  cases r with
  | cons r1 r2 =>
    cases r2
    cases r1
    exact PySem.P.repr_of_bool ⟨.str _, H, I.tok _, ⟨_, rfl⟩, q⟩
theorem r_aug {i : Nat} {te : TE} {ti : TIp} {D : Ends} {σ : L2.St} {H : Hp} : tAug i te ti D σ H = ∃ x, σ[i]? = some (some x) ∧ te σ H fun y H1 => ti x y H1 fun z H2 => D.nx (σ.set i (some z)) H2 := rfl
end

local macro_rules | `(tactic| walk_at "rd") => `(tactic| try simp only [r_seq, r_asg, r_name, r_ifS, r_next, r_ret, r_retN, r_drop, r_test, r_B, r_if, r_cons, r_nil, r_cb, r_tF, r_part, r_nopart, r_sl, r_par, r_chain, r_or, r_and, r_not, r_orV, r_andV, r_notV, r_op, r_un, r_var, r_c, r_yes, r_I0, r_I, r_U, r_eqI, r_neI, r_eqS, r_neS, r_lst, r_tup, r_for, r_lc, r_list, r_tupI, r_rng1, r_rng2, r_enumT, r_bm, r_fld, r_subT, r_gtup, r_gcons, r_gnil, r_K0, r_K, r_Kb, wipe, r_never, r_len, r_sfld,
  L2.start, List.map_cons, List.map_nil, List.length_cons, List.length_nil, Nat.reduceAdd, Nat.reduceSub, List.reduceReplicate, List.cons_append, List.nil_append, List.set_cons_zero, List.set_cons_succ, List.getElem?_cons_zero, List.getElem?_cons_succ, Option.some.injEq, exists_eq_left', exists_eq_left, exists_eq_right, exists_eq_right', V.int.injEq, V.ref.injEq, V.bl.injEq, V.str.injEq, List.cons.injEq, and_true, true_and, and_false, false_and, or_false, false_or, exists_false, exists_const, and_assoc, reduceCtorEq, if_true, if_false, Bool.false_eq_true, Bool.not_true, Bool.not_false, Bool.not_eq_true', decide_eq_true_eq, decide_eq_false_iff_not, exists_and_left, exists_and_right, exists_eq_or_imp])
section
variable {P : Program} {w : World} {K : PySem.W.Frag} {mg : Str → Option Value} {base : Heap}
def top (i : Nat) : Stmt := PySem.Challenge.pw_drawnmore_k21_whole_comes_by_all_points.main.body.getD i (.Pass ⟨0, 0, 0, 0⟩)
/-- the built-in names that the text does not bind -/
structure Bi (mg : Str → Option Value) : Prop where
  len : mg "len" = none
  abs : mg "abs" = none
  max : mg "max" = none
  min : mg "min" = none
  sum : mg "sum" = none
  range : mg "range" = none
  tuple : mg "tuple" = none
  int : mg "int" = none
  divmod : mg "divmod" = none
  all : mg "all" = none
  repr : mg "repr" = none
  isinstance : mg "isinstance" = none
  enumerate : mg "enumerate" = none
  bool : mg "bool" = none
  zip : mg "zip" = none
  str : mg "str" = none
  list : mg "list" = none
theorem Has.of {x : Str} {st : Stmt} {ps : List Str} {k : Nat} {sp : Sp} (D : Df K mg x st ps)
    (h : ∀ f fd, Fun K x x st f fd → FnOk P w K mg base CX0 k f fd ps sp) : Has P w K mg base x k ps sp := by
  obtain ⟨f, fd, F, hm, hb⟩ := D
  exact ⟨f, fd, h f fd F, hm, F.kp, hb⟩
theorem HasG.of {x : Str} {st : Stmt} {ps : List Str} {k : Nat} {sp : Sp} (D : Df K mg x st ps)
    (h : ∀ f fd, Fun K x x st f fd → FnG P w K mg base k f fd ps sp) : HasG P w K mg base x k ps sp := by
  obtain ⟨f, fd, F, hm, hb⟩ := D
  exact ⟨f, fd, h f fd F, hm, F.kp, hb⟩

def spVat (K : PySem.W.Frag) : Sp := fun vs H Q _ => ∃ (a : Addr) (ns : List Int) (i : Int), vs = [.ref a, .int i] ∧ SqL K H a (ns.map V.int) ∧ ns.length ≤ 63 ∧ 0 ≤ i ∧ i < 100 ∧
  ∀ v H', H v = none → Ex H H' → VatAt H' v → Q (.ref v) H'
def spDip : Sp := fun vs H Q _ => ∃ (v : Addr) (m : Int), vs = [.ref v, .int m] ∧ VatAt H v ∧ 0 < m ∧ m.natAbs.log2 < 9000 ∧
  ∀ r H', Gv v H H' → 0 ≤ r → r < m → Q (.int r) H'
def spShared : Sp := fun vs H Q _ => ∃ a b : Int, vs = [.int a, .int b] ∧ Q (.int (Int.gcd a b : Nat)) H
def shM : L2.St → Nat
  | [_, some (.int y)] => y.toNat
  | _ => 0
/-- x tells the fraction r -/
def IsFr (K : PySem.W.Frag) (H : Hp) (x : V) (r : Rat) : Prop := ∃ p, x = .ref p ∧ SqT K H p (fr r)
theorem IsFr.kp {H H' : Hp} {x : V} {r : Rat} (h : IsFr K H x r) (e : Kp H H') : IsFr K H' x r := by
  obtain ⟨p, rfl, h⟩ := h
  exact ⟨p, rfl, sqT_kp h e⟩
theorem IsFr.dp {H : Hp} {x : V} {r : Rat} (h : IsFr K H x r) : Dp K H x (frD r) := by
  obtain ⟨p, rfl, h⟩ := h
  exact .tup h (.cons (.int _) (.cons (.int _) .nil))
def spPart (K : PySem.W.Frag) : Sp := fun vs H Q _ => ∃ t b : Int, vs = [.int t, .int b] ∧ 0 < b ∧ b.natAbs < 2 ^ 8990 ∧
  ∀ x H', Ex H H' → IsFr K H' x ((t : Rat) / (b : Rat)) → Q x H'
theorem log_lt {n : Nat} (h : n < 2 ^ 8990) : n.log2 < 9000 := Nat.lt_of_lt_of_le (PySem.Flt.log2_lt_of (k := 8990) (by decide) h) (show 8990 ≤ 9000 by decide)
theorem gcd_small {b t : Int} (hb : 0 < b) (h : b.natAbs < 2 ^ 8990) : 0 < ((Int.gcd b t : Nat) : Int) ∧ (((Int.gcd b t : Nat) : Int)).natAbs < 2 ^ 8990 := by
  have h1 : 0 < Int.gcd b t := Int.gcd_pos_of_ne_zero_left _ (by omega)
  have h2 : Int.gcd b t ≤ b.natAbs := Nat.le_of_dvd (by omega) (Nat.gcd_dvd_left _ _)
  have h3 : (((Int.gcd b t : Nat) : Int)).natAbs = Int.gcd b t := Int.natAbs_natCast _
  constructor
  · omega
  · omega
def IsInts (K : PySem.W.Frag) (H : Hp) (x : V) (cs : List Int) : Prop := ∃ p, x = .ref p ∧ SqT K H p (cs.map V.int)
theorem IsInts.kp {H H' : Hp} {x : V} {cs : List Int} (h : IsInts K H x cs) (e : Kp H H') : IsInts K H' x cs := by
  obtain ⟨p, rfl, h⟩ := h
  exact ⟨p, rfl, sqT_kp h e⟩
def intsD (cs : List Int) : PyData := .tuple (cs.map PyData.int)
theorem IsInts.dp {H : Hp} {x : V} {cs : List Int} (h : IsInts K H x cs) : Dp K H x (intsD cs) := by
  obtain ⟨p, rfl, h⟩ := h
  exact .tup h (dp_ints cs)
/-- a list of ints, told item by item -/
theorem ints_of {ys : List V} {n : Nat} {f : Nat → Int} (hl : ys.length = n) (h : ∀ (i : Nat) y, ys[i]? = some y → y = .int (f i)) : ys = ((List.range n).map f).map V.int := by
  apply List.ext_getElem?
  intro i
  by_cases hi : i < ys.length
  · have hy := List.getElem?_eq_getElem hi
    rw [hy, h i _ hy]
    simp [← hl, hi]
  · rw [List.getElem?_eq_none (by omega), List.getElem?_eq_none (by simp; omega)]
theorem ints_of_map {ys : List V} {cs : List Int} {f : Int → Int} (hl : ys.length = cs.length) (h : ∀ (i : Nat) y, ys[i]? = some y → ∃ c, cs[i]? = some c ∧ y = .int (f c)) : ys = (cs.map f).map V.int := by
  apply List.ext_getElem?
  intro i
  by_cases hi : i < ys.length
  · have hy := List.getElem?_eq_getElem hi
    obtain ⟨c, hc, e⟩ := h i _ hy
    rw [hy, e, List.getElem?_map, List.getElem?_map, hc]
    rfl
  · rw [List.getElem?_eq_none (by omega), List.getElem?_eq_none (by simp; omega)]
theorem map_int_get {cs : List Int} {i : Nat} {x : V} (h : (cs.map V.int)[i]? = some x) : ∃ c, cs[i]? = some c ∧ x = .int c := by
  rw [List.getElem?_map] at h
  cases e : cs[i]? with
  | none => rw [e] at h; cases h
  | some c => rw [e] at h; exact ⟨c, rfl, (Option.some.inj h).symm⟩
def spPlain (K : PySem.W.Frag) : Sp := fun vs H Q _ => ∃ (p : Addr) (cs : List Int), vs = [.ref p] ∧ (SqT K H p (cs.map V.int) ∨ SqL K H p (cs.map V.int)) ∧ cs.length ≤ 1000 ∧ 0 < gcdL cs ∧ gcdL cs < 2 ^ 8990 ∧
  ∀ x H', Ex H H' → IsInts K H' x (plainL cs) → Q x H'
def CountsOk (cs : List Int) : Prop := 2 ≤ cs.length ∧ cs.length ≤ 6 ∧ (∀ c ∈ cs, 0 ≤ c ∧ c ≤ 10 ^ 30) ∧ 0 < cs.sum
theorem sum_ones : ∀ n : Nat, (List.replicate n (1 : Int)).sum = (n : Int)
  | 0 => rfl
  | n + 1 => by
    rw [List.replicate_succ, List.sum_cons, sum_ones n]
    omega
theorem VatAt.ne {H : Hp} {v p : Addr} (h : VatAt H v) (n : H p = none) : p ≠ v := by
  obtain ⟨a, b, c, e, _⟩ := h
  intro z
  rw [z, e] at n
  cases n
theorem Gv.free {v p : Addr} {H H' : Hp} (g : Gv v H H') (h : p ≠ v) (n : H' p = none) : H p = none := by
  cases q : H p with
  | none => rfl
  | some o =>
    rw [g.keep p o h q] at n
    cases n
theorem Gv.upd {v p : Addr} {H H' : Hp} {o : HO} (g : Gv v H H') (n : H p = none) (h : p ≠ v) : Gv v H (L2.upd H' p o) := by
  refine ⟨g.old, fun a u ha e => ?_, ?_⟩
  · rw [upd_ne (ne_of_none e n)]
    exact g.keep a u ha e
  · obtain ⟨a, b, c, e, r⟩ := g.new
    exact ⟨a, b, c, by rw [upd_ne (Ne.symm h)]; exact e, r⟩
def spCounts (K : PySem.W.Frag) : Sp := fun vs H Q _ => ∃ (v : Addr) (i : Int), vs = [.ref v, .int i] ∧ VatAt H v ∧
  ∀ x H' cs, Gv v H H' → IsInts K H' x cs → CountsOk cs → Q x H'
end

section
variable {P : Program} {w : World} {K : PySem.W.Frag} {mg : Str → Option Value} {base : Heap}
/-! ### is_whole, _check_counts -/
def spWhole : Sp := fun vs H Q _ => ∃ i : Int, vs = [.int i] ∧ Q (.bl true) H
theorem scWhole : FnScope ["value"] ["value"] (defScope (top 11)) := ⟨rfl, rfl, rfl, by decide +kernel, rfl, by decide +kernel, by decide +kernel⟩
theorem has_whole (B : Bi mg) (D : Df K mg "is_whole" (top 11) ["value"]) : Has P w K mg base "is_whole" 1 ["value"] spWhole := by
  have sc := scWhole
  refine .of D fun f fd F => F.ok sc (fun vs H Q E h => ?_) (fun cdv A outer s H vs Q E hr h => ?_)
  · obtain ⟨i, rfl, _⟩ := h
    rfl
  · obtain ⟨i, rfl, k⟩ := h
    refine ⟨_, (pss_one (ps_ret (pe_and (pe_callB (kIsi (K := K)) (by rfl) B.isinstance (by decide +kernel) (pa_cons (pv 0) (pa_cons (pe_bltn (v := .ty "int") (by rfl) B.int (by decide +kernel) rfl) pa_nil))) (pe_one (pe_not (pe_callB (kIsi (K := K)) (by rfl) B.isinstance (by decide +kernel) (pa_cons (pv 0) (pa_cons (pe_bltn (v := .ty "bool") (by rfl) B.bool (by decide +kernel) rfl) pa_nil)))))))), ?_⟩
    walk_at "rd"
    refine ⟨_, _, _, _, true, rfl, .ty "int", .base (.int i), kit_ty (by decide +kernel), ?_⟩
    walk_at "rd"
    refine ⟨_, _, _, _, false, rfl, .ty "bool", .base (.int i), kit_ty (by decide +kernel), ?_⟩
    walk_at "rd"
    exact k
theorem ty_tup {H : Hp} {a : Addr} {xs : List V} (h : SqT K H a xs) : TyX K H (.ref a) (.type "tuple") := by
  rcases h with (h | ⟨o, h⟩) | ⟨o, its, n, h, c, _⟩
  · exact .base (.tup h)
  · exact .fTuple h
  · exact .kTuple h c
/-- counts of a row -/
def RowOk (cs : List Int) : Prop := 2 ≤ cs.length ∧ cs.length ≤ 6 ∧ (∀ c ∈ cs, 0 ≤ c) ∧ 0 < gcdL cs ∧ gcdL cs < 2 ^ 8990
def spCheck (K : PySem.W.Frag) : Sp := fun vs H Q _ => ∃ (q : Addr) (cs : List Int), vs = [.ref q] ∧ SqT K H q (cs.map V.int) ∧ RowOk cs ∧ ∀ H', Ex H H' → Q .non H'
theorem scCheck : FnScope ["counts", "yes", "count"] ["counts"] (defScope (top 21)) := ⟨rfl, rfl, rfl, by decide +kernel, rfl, by decide +kernel, by decide +kernel⟩
theorem has_check {t : Tok} (B : Bi mg) (c_MOST_DRAWS : mg "MOST_DRAWS" = some (.int 5 t)) (his_whole : Has P w K mg base "is_whole" 1 ["value"] spWhole) (D : Df K mg "_check_counts" (top 21) ["counts"]) : Has P w K mg base "_check_counts" 2 ["counts"] (spCheck K) := by
  have sc := scCheck
  refine .of D fun f fd F => F.ok sc (fun vs H Q E h => ?_) (fun cdv A outer s H vs Q E hr h => ?_)
  · obtain ⟨q, cs, rfl, _⟩ := h
    rfl
  · obtain ⟨q, cs, rfl, hS, ⟨l0, l1, pos, g0, g1⟩, k⟩ := h
    refine ⟨_, (pss_cons (ps_if (PW.pt (pw_or (pt_not (pt_val (pe_callB (kIsi (K := K)) (by rfl) B.isinstance (by decide +kernel) (pa_cons (pv 0) (pa_cons (pe_bltn (v := .ty "tuple") (by rfl) B.tuple (by decide +kernel) rfl) pa_nil))))) (pw_or1 (pt_cmpR op_lt (pe_callB (kLen (K := K)) (by rfl) B.len (by decide +kernel) (pa_cons (pv 0) pa_nil)) pe_int (nomark _))))) (pss_one ps_never) pss_nil)
      (pss_one (ps_for PassesOwn.never rfl (pi_enumT (by rfl) B.enumerate (pa_cons (pv 0) pa_nil)) (pg_tup rfl (pgs_cons (pg_name (i := 1) sc.nd rfl (by first | exact Or.inl rfl | exact Or.inr rfl)) (pgs_cons (pg_name (i := 2) sc.nd rfl (by first | exact Or.inl rfl | exact Or.inr rfl)) pgs_nil)))
      (pss_one (ps_if (PW.pt (pw_or (pt_not (pt_val (pe_has his_whole (hr.mono (by decide)) (pa_cons (pv 2) pa_nil)))) (pw_or (pt_cmpR op_lt (pv 2) pe_int (nomark _)) (pw_or1 (pt_cmpR op_gt (pv 1) (pe_glob (v := .int 5) rfl c_MOST_DRAWS ⟨_, rfl⟩) (nomark _)))))) (pss_one ps_never) pss_nil))))), ?_⟩
    walk_at "rd"
    refine ⟨_, _, _, _, true, rfl, .ty "tuple", ty_tup hS, kit_ty (by decide +kernel), ?_⟩
    walk_at "rd"
    refine ⟨_, .inr hS, ?_⟩
    rw [List.length_map, if_neg (by omega)]
    obtain ⟨Pv, hP⟩ : ∃ P : Nat → L2.St → Hp → Prop, P = fun j σ' G => Ex H G ∧ ∃ s1 s2 : Option V, σ' = [some (.ref q), s1, s2] := ⟨_, rfl⟩
    refine ⟨⟨_, hS⟩, loopE (xs := cs.map V.int) Pv (by rw [hP]; exact ⟨.refl _, _, _, rfl⟩) (fun j σ' G _ h => by rw [hP] at h; exact sqT_kp hS h.1.kp) ?_ ?_⟩
    · intro j x σ' G T G' hx h e1 t1
      rw [hP] at h
      obtain ⟨e0, s1, s2, rfl⟩ := h
      obtain ⟨c, hc, rfl⟩ := map_int_get hx
      have c0 := pos c (List.mem_of_getElem? hc)
      have hj := (List.getElem?_eq_some_iff.mp hc).1
      walk_at "rd"
      refine ⟨_, .of t1, rfl, ?_⟩
      walk_at "rd"
      refine ⟨c, rfl, ?_⟩
      walk_at "rd"
      rw [if_neg (by omega), if_neg (by omega)]
      rw [hP]
      exact ⟨e0.trans e1, _, _, rfl⟩
    · intro σ' G h
      rw [hP] at h
      exact k _ h.1

/-! ### Row -/
/-- what the text's top says of the class -/
structure RowC (K : PySem.W.Frag) (mg : Str → Option Value) (C : Addr) : Prop where
  cl : Cls K C
  nC : NoAttr K C "_counts"
  mgC : mg "Row" = some (.ref C)
  ha : PySem.W.findIn K (.ref C) "__class__" = some (some (.builtin "object.__class__"))
  hn : PySem.W.specialIn K (.builtin "object.__class__") "__get__" = some (some (.builtin "getset_descriptor.__get__"))
  htk : PySem.W.takesIn K (.builtin "object.__class__") = some true
  hm : PySem.W.mroIn K C (.type "object") = some true
theorem RowC.ty {C a dx : Addr} {H : Hp} {fs : List (Str × V)} (R : RowC K mg C) (e : H a = some (.ins C dx fs)) : TyX K H (.ref a) (.ref C) := .base (.ins e R.cl R.ha R.hn R.htk R.hm)
/-- x is a row whose plain counts are ps -/
def IsRow (K : PySem.W.Frag) (C : Addr) (H : Hp) (x : V) (ps : List Int) : Prop :=
  ∃ a dx q, x = .ref a ∧ H a = some (.ins C dx [("_counts", .ref q)]) ∧ SqT K H q (ps.map V.int)
theorem IsRow.kp {C : Addr} {H H' : Hp} {x : V} {ps : List Int} (h : IsRow K C H x ps) (e : Kp H H') : IsRow K C H' x ps := by
  obtain ⟨a, dx, q, rfl, h1, h2⟩ := h
  exact ⟨a, dx, q, rfl, e _ _ h1 (fun _ z => nomatch z), sqT_kp h2 e⟩
def spInit (K : PySem.W.Frag) (C : Addr) : Sp := fun vs H Q _ => ∃ (a dx q : Addr) (cs : List Int), vs = [.ref a, .ref q] ∧ H a = some (.ins C dx []) ∧ SqT K H q (cs.map V.int) ∧ RowOk cs ∧
  ∀ H', (∀ b o, b ≠ a → H b = some o → H' b = some o) → IsRow K C H' (.ref a) (plainL cs) → Q .non H'
theorem scInit : FnScope ["self", "counts", "common", "count"] ["self", "counts"] (defScope (inClass (top 19) 0)) := ⟨rfl, rfl, rfl, by decide +kernel, rfl, by decide +kernel, by decide +kernel⟩
theorem ok_init {C f : Addr} {fd : FuncData} (F : Fun K "__init__" "Row.__init__" (inClass (top 19) 0) f fd) (B : Bi mg) (RC : RowC K mg C) (c_gcd : mg "gcd" = some (.builtin "math.gcd"))
    (h_check_counts : Has P w K mg base "_check_counts" 2 ["counts"] (spCheck K)) : FnOk P w K mg base CX0 3 f fd ["self", "counts"] (spInit K C) := by
  have sc := scInit
  refine F.ok sc (fun vs H Q E h => ?_) (fun cdv A outer s H vs Q E hr h => ?_)
  · obtain ⟨a, dx, q, cs, rfl, _⟩ := h
    rfl
  · obtain ⟨a, dx, q, cs, rfl, hA, hS, ok, k⟩ := h
    obtain ⟨l0, l1, pos, g0, g1⟩ := id ok
    refine ⟨_, (pss_cons (ps_expr (pe_has h_check_counts (hr.mono (by decide)) (pa_cons (pv 1) pa_nil)))
      (pss_cons (ps_set (i := 2) sc.nd rfl (by first | exact Or.inl rfl | exact Or.inr rfl) pe_int)
      (pss_cons (ps_for PassesOwn.never rfl (pi_tup (pv 1)) (pg_name (i := 3) sc.nd rfl (by first | exact Or.inl rfl | exact Or.inr rfl))
      (pss_one (ps_set (i := 2) sc.nd rfl (by first | exact Or.inl rfl | exact Or.inr rfl) (pe_callBfun cr_gcd (by rfl) c_gcd (pa_cons (pv 2) (pa_cons (pv 3) pa_nil))))))
      (pss_cons (ps_if (pt_cmpR op_eq (pv 2) pe_int (nomark _)) (pss_one ps_never) pss_nil)
      (pss_one (ps_fld (pv 0) (pe_callTy (kTuple (K := K)) (by rfl) B.tuple (by decide +kernel) (pa_cons (pe_lc (own := [("count", 3)]) (g := gName 3) (tt := tYes) rfl sc.nd (pi_tup (pv 1)) (blkOk_by (N := (["self", "counts", "common", "count"] : List Str)) (sc := defScope (inClass (top 19) 0)) (by decide +kernel)) (fun _ _ _ _ _ => (pg_name (i := 3) sc.nd rfl (by first | exact Or.inl rfl | exact Or.inr rfl))) (fun _ _ _ _ _ => pts_nil) (fun _ _ _ _ _ => (PE.mon (pe_op op_fdivW (pv 3) (pv 2))))) pa_nil)) rfl)))))), ?_⟩
    walk_at "rd"
    refine ⟨q, cs, rfl, hS, ok, fun H1 e1 => ?_⟩
    walk_at "rd"
    have hS1 := sqT_kp hS e1.kp
    obtain ⟨Pv, hP⟩ : ∃ P : Nat → L2.St → Hp → Prop, P = fun j σ' G => G = H1 ∧ ∃ t : Option V, σ' = [some (.ref a), some (.ref q), some (.int ((gcdL (cs.take j) : Nat) : Int)), t] := ⟨_, rfl⟩
    refine ⟨⟨_, hS1⟩, loopT (xs := cs.map V.int) Pv (by rw [hP]; exact ⟨rfl, _, rfl⟩) (fun j σ' G _ h => by rw [hP] at h; rw [h.1]; exact hS1) ?_ ?_⟩
    · intro j x σ' G hx h
      rw [hP] at h
      obtain ⟨rfl, t, rfl⟩ := h
      obtain ⟨c, hc, rfl⟩ := map_int_get hx
      walk_at "rd"
      refine ⟨_, _, rfl, ?_⟩
      walk_at "rd"
      rw [hP]
      dsimp only
      rw [gcdL_take hc]
      exact ⟨rfl, _, rfl⟩
    · intro σ' G h
      rw [hP] at h
      obtain ⟨rfl, t, rfl⟩ := h
      rw [List.length_map, List.take_length]
      have gI : (0 : Int) < ((gcdL cs : Nat) : Int) := by omega
      have gL : (((gcdL cs : Nat) : Int)).natAbs.log2 < 9000 := by
        rw [Int.natAbs_natCast]
        exact log_lt g1
      walk_at "rd"
      rw [if_neg (by omega)]
      refine ⟨⟨_, hS1⟩, fun Dd hD => lcTn (fun i y _ => ∃ c, cs[i]? = some c ∧ y = .int (c / ((gcdL cs : Nat) : Int))) (fun _ _ _ _ _ h => h) hD hS1 (by rw [List.length_map]; omega) (fun _ => rfl) ?_ ?_⟩
      · intro i x H2 hx e
        obtain ⟨c, hc, rfl⟩ := map_int_get hx
        obtain ⟨R0, hR⟩ : ∃ R : VK, R = fun v H' => v = .int (c / ((gcdL cs : Nat) : Int)) ∧ H' = H2 := ⟨_, rfl⟩
        refine ⟨R0, ?_, fun v H' h => by rw [hR] at h; obtain ⟨rfl, rfl⟩ := h; exact ⟨Ex.refl _, c, hc, rfl⟩⟩
        walk_at "rd"
        refine ⟨⟨gI, gL⟩, ?_⟩
        rw [hR]
        exact ⟨rfl, rfl⟩
      · intro H2 ys e hy hl hr2
        rw [List.length_map] at hl
        have ey := ints_of_map hl hr2
        refine ⟨Dd, _, rfl, .of hy, fun p H3 n3 e3 t3 => ?_⟩
        rw [ey] at t3
        have e13 := (e1.trans e).trans e3
        have hA3 := e13 _ _ hA
        walk_at "rd"
        refine ⟨_, _, _, hA3, RC.cl, RC.nC, by decide, k _ (fun b o n h => by rw [upd_ne n]; exact e13 _ _ h) ⟨a, dx, p, rfl, upd_same, ?_⟩⟩
        exact .of (by rw [upd_ne (ne_of t3 hA3 (fun z => nomatch z))]; exact t3)

/-! ### the properties -/
def spGet (K : PySem.W.Frag) (C : Addr) : Sp := fun vs H Q _ => ∃ (x : V) (ps : List Int), vs = [x] ∧ IsRow K C H x ps ∧ ∀ y, IsInts K H y ps → Q y H
theorem scGet : FnScope ["self"] ["self"] (defScope (inClass (top 19) 2)) := ⟨rfl, rfl, rfl, by decide +kernel, rfl, by decide +kernel, by decide +kernel⟩
theorem look_counts (q : Addr) : List.lookup ("_counts" : Str) [(("_counts" : Str), V.ref q)] = some (.ref q) := by simp [List.lookup]
theorem ok_get {C f : Addr} {fd : FuncData} (F : Fun K "counts" "Row.counts" (inClass (top 19) 2) f fd) (RC : RowC K mg C) : FnOk P w K mg base CX0 1 f fd ["self"] (spGet K C) := by
  have sc := scGet
  refine F.ok sc (fun vs H Q E h => ?_) (fun cdv A outer s H vs Q E hr h => ?_)
  · obtain ⟨x, ps, rfl, _⟩ := h
    rfl
  · obtain ⟨x, ps, rfl, ⟨a, dx, q, rfl, hA, hS⟩, k⟩ := h
    refine ⟨_, (pss_one (ps_ret (kFld (K := K) (pv 0) rfl))), ?_⟩
    walk_at "rd"
    exact ⟨_, _, _, hA, RC.cl, RC.nC, _, look_counts q, k _ ⟨q, rfl, hS⟩⟩
def spDraws (K : PySem.W.Frag) (C : Addr) : Sp := fun vs H Q _ => ∃ (x : V) (ps : List Int), vs = [x] ∧ IsRow K C H x ps ∧ Q (.int ((ps.length : Nat) - 1 : Int)) H
theorem scDraws : FnScope ["self"] ["self"] (defScope (inClass (top 19) 4)) := ⟨rfl, rfl, rfl, by decide +kernel, rfl, by decide +kernel, by decide +kernel⟩
theorem ok_draws {C f : Addr} {fd : FuncData} (F : Fun K "draws" "Row.draws" (inClass (top 19) 4) f fd) (B : Bi mg) (RC : RowC K mg C) : FnOk P w K mg base CX0 1 f fd ["self"] (spDraws K C) := by
  have sc := scDraws
  refine F.ok sc (fun vs H Q E h => ?_) (fun cdv A outer s H vs Q E hr h => ?_)
  · obtain ⟨x, ps, rfl, _⟩ := h
    rfl
  · obtain ⟨x, ps, rfl, ⟨a, dx, q, rfl, hA, hS⟩, k⟩ := h
    refine ⟨_, (pss_one (ps_ret (pe_op op_sub (pe_callB (kLen (K := K)) (by rfl) B.len (by decide +kernel) (pa_cons (kFld (K := K) (pv 0) rfl) pa_nil)) pe_int))), ?_⟩
    walk_at "rd"
    refine ⟨_, _, _, hA, RC.cl, RC.nC, _, look_counts q, ?_⟩
    walk_at "rd"
    refine ⟨_, .inr hS, ?_⟩
    rw [List.length_map]
    exact k
/-- a tuple whose items tell the fractions -/
def FrsAt (K : PySem.W.Frag) (H : Hp) (xs : List V) (rs : List Rat) : Prop := xs.length = rs.length ∧ ∀ (i : Nat) x, xs[i]? = some x → ∃ r, rs[i]? = some r ∧ IsFr K H x r
theorem FrsAt.kp {H H' : Hp} {xs : List V} {rs : List Rat} (h : FrsAt K H xs rs) (e : Kp H H') : FrsAt K H' xs rs :=
  ⟨h.1, fun i x hx => let ⟨r, h1, h2⟩ := h.2 i x hx; ⟨r, h1, h2.kp e⟩⟩
def IsFrs (K : PySem.W.Frag) (H : Hp) (x : V) (rs : List Rat) : Prop := ∃ p xs, x = .ref p ∧ SqT K H p xs ∧ FrsAt K H xs rs
theorem IsFrs.kp {H H' : Hp} {x : V} {rs : List Rat} (h : IsFrs K H x rs) (e : Kp H H') : IsFrs K H' x rs := by
  obtain ⟨p, xs, rfl, h1, h2⟩ := h
  exact ⟨p, xs, rfl, sqT_kp h1 e, h2.kp e⟩
theorem frs_dp {H : Hp} : ∀ {xs : List V} {rs : List Rat}, FrsAt K H xs rs → DpAll K H xs (rs.map frD)
  | [], [], _ => .nil
  | [], _ :: _, h => by cases h.1
  | _ :: _, [], h => by cases h.1
  | x :: xs, r :: rs, h => by
    refine .cons ?_ (frs_dp ⟨by simpa using h.1, fun i y hy => by simpa using h.2 (i + 1) y (by simpa using hy)⟩)
    obtain ⟨r', e, q⟩ := h.2 0 x rfl
    cases e
    exact q.dp
/-- rates of plain counts -/
def ratesL (ps : List Int) : List Rat := ps.map fun p => ((p : Int) : Rat) / ((ps.sum : Int) : Rat)
end

section
variable {P : Program} {w : World} {K : PySem.W.Frag} {mg : Str → Option Value} {base : Heap}
/-! ### rows compared, the rules of rows -/
def spEqR (K : PySem.W.Frag) (C : Addr) : Sp := fun vs H Q _ => ∃ (x y : V) (ps qs : List Int), vs = [x, y] ∧ IsRow K C H x ps ∧ IsRow K C H y qs ∧ Q (.bl (PyData.eqv (intsD ps) (intsD qs))) H
theorem scEq : FnScope ["self", "other"] ["self", "other"] (defScope (inClass (top 19) 7)) := ⟨rfl, rfl, rfl, by decide +kernel, rfl, by decide +kernel, by decide +kernel⟩
theorem shaped_ints (cs : List Int) : SeqAt.shaped (intsD cs) = true := by
  have h : ∀ cs : List Int, PyData.canLayAll0 (cs.map PyData.int) = true ∧ PyData.depthAll (cs.map PyData.int) = 0 := by
    intro cs
    induction cs with
    | nil => exact ⟨by simp [PyData.canLayAll0], by simp [PyData.depthAll]⟩
    | cons c cs ih => exact ⟨by simp [PyData.canLayAll0, PyData.canLay0, ih.1], by simp [PyData.depthAll, PyData.depth, ih.2]⟩
  unfold SeqAt.shaped intsD
  simp [PyData.canLay0, PyData.depth, (h cs).1, (h cs).2]
theorem ok_eq {C f : Addr} {fd : FuncData} (F : Fun K "__eq__" "Row.__eq__" (inClass (top 19) 7) f fd) (B : Bi mg) (RC : RowC K mg C) : FnOk P w K mg base CX0 1 f fd ["self", "other"] (spEqR K C) := by
  have sc := scEq
  refine F.ok sc (fun vs H Q E h => ?_) (fun cdv A outer s H vs Q E hr h => ?_)
  · obtain ⟨x, y, ps, qs, rfl, _⟩ := h
    rfl
  · obtain ⟨x, y, ps, qs, rfl, ⟨a, dx, p, rfl, hA, hS⟩, ⟨b, dy, q, rfl, hB, hT⟩, k⟩ := h
    refine ⟨_, (pss_one (ps_ret (pe_and (pe_callB (kIsi (K := K)) (by rfl) B.isinstance (by decide +kernel) (pa_cons (pv 1) (pa_cons (pe_glob (v := .ref C) rfl RC.mgC rfl) pa_nil))) (pe_one (pe_cmpR (op_eqD hr.units) (pe_fld (pv 0) rfl) (pe_fld (pv 1) rfl) (nomark _)))))), ?_⟩
    walk_at "rd"
    refine ⟨_, _, _, _, true, rfl, .own C, RC.ty hB, by simp [PySem.W.kitOne], ?_⟩
    walk_at "rd"
    refine ⟨_, _, _, hA, RC.cl, RC.nC, _, look_counts p, _, _, _, hB, RC.cl, RC.nC, _, look_counts q, ?_⟩
    exact ⟨intsD ps, intsD qs, .tup hS (dp_ints _), .tup hT (dp_ints _), shaped_ints _, shaped_ints _, k⟩

/-- the class Row as the text makes it: its parts keep what they promise -/
structure RowT (P : Program) (w : World) (K : PySem.W.Frag) (mg : Str → Option Value) (base : Heap) (C : Addr) : Prop where
  rc : RowC K mg C
  init : ∃ f fd, Mk K C f ∧ FnOk P w K mg base CX0 3 f fd ["self", "counts"] (spInit K C) ∧ Binds K fd ["self", "counts"] []
  counts : ∃ p g fd, PropOf K C "counts" p g ∧ FnOk P w K mg base CX0 1 g fd ["self"] (spGet K C) ∧ Binds K fd ["self"] []
  draws : ∃ p g fd, PropOf K C "draws" p g ∧ FnOk P w K mg base CX0 1 g fd ["self"] (spDraws K C) ∧ Binds K fd ["self"] []
  eq : ∃ f fd, PySem.W.findIn K (.ref C) "__eq__" = some (some (.ref f)) ∧ PySem.W.isFn K (.ref f) = true ∧ FnOk P w K mg base CX0 1 f fd ["self", "other"] (spEqR K C) ∧ Binds K fd ["self", "other"] []
  ne : ∃ (f N : Addr) (of : Obj) (nm q : Str) (bs : List Value) (hdct : Bool) (sn : List Str) (sub : List Value) (ab : Bool) (col : Option Bool) (dd : Option Addr) (k0 k1 k2 k3 k5 : Option Value) (newId : String),
    PySem.W.findIn K (.ref C) "__eq__" = some (some (.ref f)) ∧ K.lookup C = some (excClassObj nm q C N bs [.type "object"] hdct sn sub ab col dd k0 k1 k2 k3 k5 newId) ∧ PySem.W.nsOkIn K N = true ∧
    PySem.W.nsIn K N "__eq__" = some (some (.ref f)) ∧ PySem.W.nsIn K N "__ne__" = some none ∧ K.lookup f = some of ∧ of.cls = .type "function"

theorem ns_some {h : Heap} {N : Addr} {m : Str → Option Value} {n : Str} {v : Value} (X : K.In h) (G : h.Ns N m) (e : PySem.W.nsIn K N n = some (some v)) : m n = some v := by
  obtain ⟨o, es, ep, ho, hd, ok, hf⟩ := G
  unfold PySem.W.nsIn at e
  split at e
  · rename_i q
    have z := X _ _ q
    rw [ho] at z
    cases z
    cases hd
    split at e
    · rename_i en hen
      cases e
      rw [← hf]
      unfold nsFind findBy
      rw [← Array.find?_toList, hen]
      rfl
    · split at e <;> cases e
  · cases e
section
variable {X : Cx} {C : Addr} {e : Expr} {es : List Expr} {te : TE} {t : TA} {p pos : Pos}
/-- Row(e) -/
def tRow (K : PySem.W.Frag) (C : Addr) (t : TA) : TE := fun σ H Q => t σ H fun vs H1 => ∃ (y : V) (cs : List Int), vs = [y] ∧ IsInts K H1 y cs ∧ RowOk cs ∧ ∀ x H2, Ex H1 H2 → IsRow K C H2 x (plainL cs) → Q x H2
theorem pe_row (T : RowT X.prog X.w X.K X.mg X.base C) (hr : Room 4 X.A) (ha : PA X (e :: es) t) (hg : Gl X "Row" := by rfl)
    (he : starEach (e :: es) X.env = (false, eval e X.env) :: starEach es X.env := by rfl) (hpl : (backTo pos (starEach es X.env)).any (·.1) = false := by rfl) :
    PE X (.Call (.Name "Row" p) (e :: es) [] pos) (tRow X.K C t) := by
  obtain ⟨f, fd, M, F, hb⟩ := T.init
  have q := pe_make (X := X) (p := p) (pos := pos) M F hr hg T.rc.mgC hb .nil (pass0 (X := X)) (PA.mon ha) (by decide) he hpl
  refine ⟨fun pins s σ H Q I hq => q.run pins s σ H Q I ⟨_, hq, ?_⟩⟩
  intro vs H1 ⟨y, cs, ev, ⟨qa, ey, hS⟩, ok, k⟩ x dx nx ndx nex
  subst ev ey
  have e1 : Ex H1 (upd (upd H1 dx (.own x)) x (.ins C dx [])) := fun b o h => by
    rw [upd_ne (ne_of_none h nx), upd_ne (ne_of_none h ndx)]
    exact h
  refine ⟨x, dx, qa, cs, rfl, upd_same, sqT_kp hS e1.kp, ok, fun H2 keep hrow => ⟨rfl, k _ _ (fun b o h => ?_) hrow⟩⟩
  exact keep b o (ne_of_none h nx) (e1 b o h)
/-- e.counts -/
def tCounts (K : PySem.W.Frag) (C : Addr) (te : TE) : TE := fun σ H Q => te σ H fun x H1 => ∃ ps, IsRow K C H1 x ps ∧ ∀ y, IsInts K H1 y ps → Q y H1
theorem pe_counts (T : RowT X.prog X.w X.K X.mg X.base C) (hr : Room 2 X.A) (he : PE X e te) (hab : attributeBase e "counts" X.env (eval e X.env) = eval e X.env := by rfl) : PE X (.Attribute e "counts" pos) (tCounts X.K C te) := by
  obtain ⟨pr, g, fd, hp, F, hb⟩ := T.counts
  have q := pe_prop (X := X) (pos := pos) (PE.mon he) T.rc.cl hp F hr hb .nil (pass0 (X := X.nox)) hab
  refine ⟨fun pins s σ H Q I hq => q.run pins s σ H Q I ⟨_, hq, ?_⟩⟩
  intro x H1 ⟨ps, hrow, k⟩
  obtain ⟨a, dx, qa, ex, hA, hS⟩ := id hrow
  exact ⟨a, dx, _, ex, hA, x, ps, by rw [ex], hrow, k⟩
def tDraws (K : PySem.W.Frag) (C : Addr) (te : TE) : TE := fun σ H Q => te σ H fun x H1 => ∃ ps : List Int, IsRow K C H1 x ps ∧ Q (.int ((ps.length : Nat) - 1 : Int)) H1
theorem pe_draws (T : RowT X.prog X.w X.K X.mg X.base C) (hr : Room 2 X.A) (he : PE X e te) (hab : attributeBase e "draws" X.env (eval e X.env) = eval e X.env := by rfl) : PE X (.Attribute e "draws" pos) (tDraws X.K C te) := by
  obtain ⟨pr, g, fd, hp, F, hb⟩ := T.draws
  have q := pe_prop (X := X) (pos := pos) (PE.mon he) T.rc.cl hp F hr hb .nil (pass0 (X := X.nox)) hab
  refine ⟨fun pins s σ H Q I hq => q.run pins s σ H Q I ⟨_, hq, ?_⟩⟩
  intro x H1 ⟨ps, hrow, k⟩
  obtain ⟨a, dx, qa, ex, hA, hS⟩ := id hrow
  exact ⟨a, dx, _, ex, hA, x, ps, by rw [ex], hrow, k⟩
def tRates (K : PySem.W.Frag) (C : Addr) (te : TE) : TE := fun σ H Q => te σ H fun x H1 => ∃ ps : List Int, IsRow K C H1 x ps ∧ ps.length ≤ 1000 ∧ 0 < ps.sum ∧ ps.sum.natAbs < 2 ^ 8990 ∧ ∀ y H', Ex H1 H' → IsFrs K H' y (ratesL ps) → Q y H'
/-- x != y, two rows -/
def rNeRow (K : PySem.W.Frag) (C : Addr) : R2 := fun x y H Q => ∃ ps qs, IsRow K C H x ps ∧ IsRow K C H y qs ∧ Q (.bl (!PyData.eqv (intsD ps) (intsD qs))) H
theorem op_neRow (T : RowT X.prog X.w X.K X.mg X.base C) (hr : Room 2 X.A) : OpR X (compareOp .NotEq) (rNeRow X.K C) := by
  intro pins s σ H x y v u Q I rx ry ⟨ps, qs, ⟨a, dx, p, ex, hA, hS⟩, ⟨b, dy, q, ey, hB, hT⟩, k⟩
  subst ex ey
  obtain rfl : v = Value.ref a := rx
  obtain rfl : u = Value.ref b := ry
  obtain ⟨f, fd, f1, f2, F, hb⟩ := T.eq
  obtain ⟨f', N, of, nm, qn, bs, hdct, sn, sub, ab, col, dd, k0, k1, k2, k3, k5, newId, f3, lC, okN, n1, n2, lf, cf⟩ := T.ne
  have ef : f' = f := by
    rw [f1] at f3
    cases f3
    rfl
  subst ef
  obtain ⟨mA, OA, _⟩ := ins_get I.hok hA
  obtain ⟨mB, OB, _⟩ := ins_get I.hok hB
  have KI := I.kIn
  obtain ⟨hp, g, d, tk, os⟩ := s
  have hns : hp.Ns N (hp.nsMap N) := .of_isNs (PySem.W.isNs_of_in KI okN)
  have nNe : hp.nsMap N "__ne__" = none := PySem.W.ns_none_of KI hns n2
  have nEq : hp.nsMap N "__eq__" = some (.ref f') := ns_some KI hns n1
  have OE : hp.OwnEqNoNe a C f' "object" [.type "object"] :=
    ⟨_, of, nm, qn, N, bs, hdct, sn, sub, ab, col, dd, k0, k1, k2, k3, k5, newId, _, _, OA.obj, rfl, KI _ _ lC, hns, nEq, KI _ _ lf, cf, PySem.F.cmp_object.mro, rfl, nNe⟩
  refine compareOp_ne_ownEq PySem.F.cmp_object OE OB.obj rfl (by have := hr.un; omega) ?_
  have hsp : spEqR X.K C [.ref a, .ref b] H (fun v H' => v = .bl (PyData.eqv (intsD ps) (intsD qs)) ∧ H' = H) E0 :=
    ⟨.ref a, .ref b, ps, qs, rfl, ⟨a, dx, p, rfl, hA, hS⟩, ⟨b, dy, q, rfl, hB, hT⟩, rfl, rfl⟩
  have hl := F.len _ _ _ _ hsp
  have r2 : Vals [V.ref a, V.ref b] [Value.ref a, Value.ref b] := .cons rfl (.cons rfl .nil)
  have bnd := hb ⟨hp, g, d, tk, os⟩ [.ref a, .ref b] KI (by simpa using hl)
  rw [List.append_nil] at bnd
  refine wpAny_call (codeAny_mono (F.run X.A.in1 X.stack ⟨hp, g, d, tk, os⟩ H ⟨[.ref a, .ref b], []⟩ [.ref a, .ref b] [.ref a, .ref b] _ E0 hr.in1 I.env0.in1 bnd r2 hsp) fun res s' hq => ?_)
  cases res with
  | error er => exact (pass0 (X := X)) pins σ H _ er s' I hq
  | ok fl =>
    cases fl with
    | next => exact hq.elim
    | brk => exact hq.elim
    | cont => exact hq.elim
    | ret z =>
      obtain ⟨y, H', I', rz, ez, eh⟩ := I.after hq
      subst ez eh
      obtain rfl : z = Value.bool _ := rz
      exact ⟨_, rfl, .bl (!PyData.eqv (intsD ps) (intsD qs)), _, I', rfl, k⟩
end
end
section
variable {X : Cx} {K : PySem.W.Frag}
section
variable {P : Program} {w : World} {mg : Str → Option Value} {base : Heap} {C : Addr} {e : Expr} {es : List Expr} {te : TE} {t : TA} {p pos : Pos}
/-- where the block stands -/
def At (X : Cx) (P : Program) (w : World) (K : PySem.W.Frag) (mg : Str → Option Value) (base : Heap) : Prop := X.prog = P ∧ X.w = w ∧ X.K = K ∧ X.mg = mg ∧ X.base = base
theorem kRow (T : RowT P w K mg base C) (hr : Room 4 X.A) (ha : PA X (e :: es) t) (hx : At X P w K mg base := by exact ⟨rfl, rfl, rfl, rfl, rfl⟩) (hg : Gl X "Row" := by rfl)
    (he : starEach (e :: es) X.env = (false, eval e X.env) :: starEach es X.env := by rfl) (hpl : (backTo pos (starEach es X.env)).any (·.1) = false := by rfl) :
    PE X (.Call (.Name "Row" p) (e :: es) [] pos) (tRow K C t) := by
  obtain ⟨h1, h2, h3, h4, h5⟩ := hx
  subst h1 h2 h3 h4 h5
  exact pe_row T hr ha hg he hpl
theorem kCounts (T : RowT P w K mg base C) (hr : Room 2 X.A) (he : PE X e te) (hx : At X P w K mg base := by exact ⟨rfl, rfl, rfl, rfl, rfl⟩) (hab : attributeBase e "counts" X.env (eval e X.env) = eval e X.env := by rfl) : PE X (.Attribute e "counts" pos) (tCounts K C te) := by
  obtain ⟨h1, h2, h3, h4, h5⟩ := hx
  subst h1 h2 h3 h4 h5
  exact pe_counts T hr he hab
theorem kDraws (T : RowT P w K mg base C) (hr : Room 2 X.A) (he : PE X e te) (hx : At X P w K mg base := by exact ⟨rfl, rfl, rfl, rfl, rfl⟩) (hab : attributeBase e "draws" X.env (eval e X.env) = eval e X.env := by rfl) : PE X (.Attribute e "draws" pos) (tDraws K C te) := by
  obtain ⟨h1, h2, h3, h4, h5⟩ := hx
  subst h1 h2 h3 h4 h5
  exact pe_draws T hr he hab
theorem kNeRow (T : RowT P w K mg base C) (hr : Room 2 X.A) (hx : At X P w K mg base := by exact ⟨rfl, rfl, rfl, rfl, rfl⟩) : OpR X (compareOp .NotEq) (rNeRow K C) := by
  obtain ⟨h1, h2, h3, h4, h5⟩ := hx
  subst h1 h2 h3 h4 h5
  exact op_neRow T hr
end
section
variable {D : Ends} {σ : L2.St} {H : Hp} {te : TE} {tx : TA} {Q : VK} {C : Addr}
theorem r_counts : tCounts K C te σ H Q = te σ H fun x H1 => ∃ ps, IsRow K C H1 x ps ∧ ∀ y, IsInts K H1 y ps → Q y H1 := rfl
theorem r_draws : tDraws K C te σ H Q = te σ H fun x H1 => ∃ ps : List Int, IsRow K C H1 x ps ∧ Q (.int ((ps.length : Nat) - 1 : Int)) H1 := rfl
theorem r_rates : tRates K C te σ H Q = te σ H fun x H1 => ∃ ps : List Int, IsRow K C H1 x ps ∧ ps.length ≤ 1000 ∧ 0 < ps.sum ∧ ps.sum.natAbs < 2 ^ 8990 ∧ ∀ y H', Ex H1 H' → IsFrs K H' y (ratesL ps) → Q y H' := rfl
theorem r_row : tRow K C tx σ H Q = tx σ H fun vs H1 => ∃ (y : V) (cs : List Int), vs = [y] ∧ IsInts K H1 y cs ∧ RowOk cs ∧ ∀ x H2, Ex H1 H2 → IsRow K C H2 x (plainL cs) → Q x H2 := rfl
end
end

/-! rates of plain counts -/
theorem sum_scale (k : Int) : ∀ cs : List Int, (cs.map (k * ·)).sum = k * cs.sum
  | [] => by simp
  | c :: cs => by
    rw [List.map_cons, List.sum_cons, List.sum_cons, sum_scale k cs, Int.mul_add]
theorem sum_nonneg : ∀ {cs : List Int}, (∀ c ∈ cs, 0 ≤ c) → 0 ≤ cs.sum
  | [], _ => by simp
  | c :: cs, h => by
    have h1 := h c List.mem_cons_self
    have h2 := sum_nonneg fun x hx => h x (List.mem_cons_of_mem c hx)
    rw [List.sum_cons]
    omega
theorem sum_le {b : Int} : ∀ {cs : List Int}, (∀ c ∈ cs, c ≤ b) → cs.sum ≤ (cs.length : Int) * b
  | [], _ => by simp
  | c :: cs, h => by
    have h1 := h c List.mem_cons_self
    have h2 := sum_le fun x hx => h x (List.mem_cons_of_mem c hx)
    rw [List.sum_cons, List.length_cons, Int.natCast_add, Int.add_mul]
    omega
theorem sum_pos_ex : ∀ {cs : List Int}, (∀ c ∈ cs, 0 ≤ c) → 0 < cs.sum → ∃ c ∈ cs, 0 < c
  | [], _, h => by simp at h
  | c :: cs, h, hs => by
    by_cases hc : 0 < c
    · exact ⟨c, List.mem_cons_self, hc⟩
    · have h1 := h c List.mem_cons_self
      rw [List.sum_cons] at hs
      obtain ⟨x, hx, h2⟩ := sum_pos_ex (fun x hx => h x (List.mem_cons_of_mem c hx)) (by omega)
      exact ⟨x, List.mem_cons_of_mem c hx, h2⟩
theorem mem_le_sum : ∀ {cs : List Int} {c : Int}, (∀ x ∈ cs, 0 ≤ x) → c ∈ cs → c ≤ cs.sum
  | x :: cs, c, h, hc => by
    rw [List.sum_cons]
    have h0 := h x List.mem_cons_self
    have h1 := sum_nonneg fun y hy => h y (List.mem_cons_of_mem x hy)
    rcases List.mem_cons.mp hc with rfl | hc
    · omega
    · have := mem_le_sum (fun y hy => h y (List.mem_cons_of_mem x hy)) hc
      omega
/-- top times the whole is the count times the bottom -/
theorem frac_mul {p S : Int} (hS : 0 < S) : ((p : Rat) / (S : Rat)).num * S = p * (((((p : Rat) / (S : Rat)).den : Nat)) : Int) := by
  rw [div_num hS, div_den hS]
  have d1 : ((Int.gcd S p : Nat) : Int) ∣ p := Int.gcd_dvd_right ..
  have d2 : ((Int.gcd S p : Nat) : Int) ∣ S := Int.gcd_dvd_left ..
  obtain ⟨u, hu⟩ := d1
  obtain ⟨v, hv⟩ := d2
  have g0 : ((Int.gcd S p : Nat) : Int) ≠ 0 := by
    intro z
    rw [z, Int.zero_mul] at hv
    omega
  generalize ((Int.gcd S p : Nat) : Int) = g at *
  subst hu hv
  rw [Int.mul_ediv_cancel_left _ g0, Int.mul_ediv_cancel_left _ g0]
  grind
theorem frac_nonneg {p S : Int} (hp : 0 ≤ p) (hS : 0 < S) : 0 ≤ ((p : Rat) / (S : Rat)).num := by
  rw [div_num hS]
  exact Int.ediv_nonneg hp (by omega)
theorem frac_le_one {p S : Int} (hp : p ≤ S) (hS : 0 < S) : ((p : Rat) / (S : Rat)).num ≤ (((((p : Rat) / (S : Rat)).den : Nat)) : Int) := by
  have e := frac_mul (p := p) hS
  have h2 := den_pos ((p : Rat) / (S : Rat))
  generalize (((((p : Rat) / (S : Rat)).den : Nat)) : Int) = d at *
  generalize ((p : Rat) / (S : Rat)).num = t at *
  have h3 : p * d ≤ S * d := Int.mul_le_mul_of_nonneg_right hp (by omega)
  rw [← e, Int.mul_comm S d] at h3
  exact Int.le_of_mul_le_mul_right h3 hS
theorem sumR_div (S : Rat) : ∀ (ps : List Int) (acc : Rat), (ps.map fun p => ((p : Int) : Rat) / S).foldl (· + ·) acc = acc + ((ps.sum : Int) : Rat) / S
  | [], acc => by
    simp only [List.map_nil, List.foldl_nil, List.sum_nil]
    have : (((0 : Int)) : Rat) = 0 := rfl
    rw [this]
    grind
  | p :: ps, acc => by
    rw [List.map_cons, List.foldl_cons, sumR_div S ps, List.sum_cons, Rat.intCast_add]
    grind
theorem cast_ne {S : Int} (h : S ≠ 0) : ((S : Int) : Rat) ≠ 0 := fun z => h (by
  have := congrArg Rat.num z
  simpa using this)
theorem sumR_rates {ps : List Int} (h : 0 < ps.sum) : sumR (ratesL ps) = 1 := by
  unfold sumR ratesL
  rw [sumR_div]
  have := cast_ne (S := ps.sum) (by omega)
  grind
theorem rates_sz {ps : List Int} {n : Nat} (h : 0 < ps.sum) (hs : ps.sum.natAbs < 2 ^ n) (h0 : ∀ p ∈ ps, 0 ≤ p) : ∀ r ∈ ratesL ps, sz r n := by
  intro r hr
  obtain ⟨p, hp, rfl⟩ := List.mem_map.mp hr
  refine sz_div h ?_ hs
  have h1 := mem_le_sum h0 hp
  have h2 := h0 p hp
  omega

local macro_rules | `(tactic| walk_at "rd") => `(tactic| try simp only [r_seq, r_asg, r_name, r_ifS, r_next, r_ret, r_retN, r_drop, r_test, r_B, r_if, r_cons, r_nil, r_cb, r_tF, r_part, r_nopart, r_sl, r_par, r_chain, r_or, r_and, r_not, r_orV, r_andV, r_notV, r_op, r_un, r_var, r_c, r_yes, r_I0, r_I, r_U, r_eqI, r_neI, r_eqS, r_neS, r_lst, r_tup, r_for, r_lc, r_list, r_tupI, r_rng1, r_rng2, r_enumT, r_bm, r_fld, r_subT, r_gtup, r_gcons, r_gnil, r_K0, r_K, r_Kb, r_Kbb, wipe, r_never, not_true_eq_false, not_false_eq_true, Int.zero_add, r_counts, r_draws, r_rates, r_row, r_len, r_sfld, r_zipB, r_revT, r_tW, r_seqI,
  L2.start, List.map_cons, List.map_nil, List.length_cons, List.length_nil, Nat.reduceAdd, Nat.reduceSub, List.reduceReplicate, List.cons_append, List.nil_append, List.set_cons_zero, List.set_cons_succ, List.getElem?_cons_zero, List.getElem?_cons_succ, Option.some.injEq, exists_eq_left', exists_eq_left, exists_eq_right, exists_eq_right', V.int.injEq, V.ref.injEq, V.bl.injEq, V.str.injEq, List.cons.injEq, and_true, true_and, and_false, false_and, or_false, false_or, exists_false, exists_const, and_assoc, reduceCtorEq, if_true, if_false, Bool.false_eq_true, Bool.not_true, Bool.not_false, Bool.not_eq_true', decide_eq_true_eq, decide_eq_false_iff_not, exists_and_left, exists_and_right, exists_eq_or_imp])
section
variable {P : Program} {w : World} {K : PySem.W.Frag} {mg : Str → Option Value} {base : Heap}
def spNum : Sp := fun vs H Q _ => ∃ g lo hi : Int, vs = [.int g, .int lo, .int hi] ∧ lo ≤ g ∧ g ≤ hi ∧ Q .non H
theorem scNum : FnScope ["given", "least", "most"] ["given", "least", "most"] (defScope (top 12)) := ⟨rfl, rfl, rfl, by decide +kernel, rfl, by decide +kernel, by decide +kernel⟩
theorem has_num (his_whole : Has P w K mg base "is_whole" 1 ["value"] spWhole) (D : Df K mg "check_number" (top 12) ["given", "least", "most"]) : Has P w K mg base "check_number" 2 ["given", "least", "most"] spNum := by
  have sc := scNum
  refine .of D fun f fd F => F.ok sc (fun vs H Q E h => ?_) (fun cdv A outer s H vs Q E hr h => ?_)
  · obtain ⟨g, lo, hi, rfl, _⟩ := h
    rfl
  · obtain ⟨g, lo, hi, rfl, h1, h2, k⟩ := h
    refine ⟨_, (pss_one (ps_if (PW.pt (pw_or (pt_not (pt_val (pe_has his_whole (hr.mono (by decide)) (pa_cons (pv 0) pa_nil)))) (pw_or (pt_cmpR op_lt (pv 0) (pv 1) (nomark _)) (pw_or1 (pt_cmpR op_gt (pv 0) (pv 2) (nomark _)))))) (pss_one ps_never) pss_nil)), ?_⟩
    walk_at "rd"
    refine ⟨g, rfl, ?_⟩
    walk_at "rd"
    rw [if_neg (by omega), if_neg (by omega)]
    exact k
def spCheckRow (K : PySem.W.Frag) (C : Addr) : Sp := fun vs H Q _ => ∃ (x : V) (ps : List Int), vs = [x] ∧ IsRow K C H x ps ∧ Q .non H
theorem scCheckRow : FnScope ["row"] ["row"] (defScope (top 20)) := ⟨rfl, rfl, rfl, by decide +kernel, rfl, by decide +kernel, by decide +kernel⟩
theorem has_check_row {C : Addr} (B : Bi mg) (RC : RowC K mg C) (D : Df K mg "check_row" (top 20) ["row"]) : Has P w K mg base "check_row" 1 ["row"] (spCheckRow K C) := by
  have sc := scCheckRow
  refine .of D fun f fd F => F.ok sc (fun vs H Q E h => ?_) (fun cdv A outer s H vs Q E hr h => ?_)
  · obtain ⟨x, ps, rfl, _⟩ := h
    rfl
  · obtain ⟨x, ps, rfl, ⟨a, dx, q, rfl, hA, hS⟩, k⟩ := h
    refine ⟨_, (pss_one (ps_if (pt_not (pt_val (pe_callB (kIsi (K := K)) (by rfl) B.isinstance (by decide +kernel) (pa_cons (pv 0) (pa_cons (pe_glob (v := .ref C) rfl RC.mgC rfl) pa_nil))))) (pss_one ps_never) pss_nil)), ?_⟩
    walk_at "rd"
    refine ⟨_, _, _, _, true, rfl, .own C, RC.ty hA, by simp [PySem.W.kitOne], ?_⟩
    walk_at "rd"
    exact k
structure RowIn (ps : List Int) : Prop where
  l0 : 2 ≤ ps.length
  l1 : ps.length ≤ 6
  nn : ∀ p ∈ ps, 0 ≤ p
  s0 : 0 < ps.sum
  s1 : ps.sum.natAbs < 2 ^ 600
theorem getD_get {ps : List Int} {i : Nat} {c : Int} (h : ps[i]? = some c) : ps.getD i 0 = c := by
  rw [List.getD_eq_getElem?_getD, h]
  rfl
end

section
variable {P : Program} {w : World} {K : PySem.W.Frag} {mg : Str → Option Value} {base : Heap}
theorem ints_ex {G : Hp} {p : Int → Prop} : ∀ {ys : List V}, (∀ (i : Nat) y, ys[i]? = some y → (fun _ y _ => ∃ c : Int, y = .int c ∧ p c : Nat → V → Hp → Prop) i y G) → ∃ cs : List Int, ys = cs.map V.int ∧ ∀ c ∈ cs, p c
  | [], _ => ⟨[], rfl, fun _ h => by simp at h⟩
  | y :: ys, h => by
    obtain ⟨c, e, hc⟩ := h 0 y rfl
    obtain ⟨cs, e2, h2⟩ := ints_ex (G := G) (p := p) (ys := ys) fun i z hz => h (i + 1) z (by simpa using hz)
    refine ⟨c :: cs, by rw [e, e2]; rfl, fun x hx => ?_⟩
    rcases List.mem_cons.mp hx with rfl | hx
    · exact hc
    · exact h2 x hx
theorem log_sm {i : Int} (h0 : 0 ≤ i) (h1 : i ≤ 1000) : i.natAbs.log2 < 9000 := log_lt (Nat.lt_of_lt_of_le (show i.natAbs < 2 ^ 10 by omega) (Nat.pow_le_pow_right (by decide) (by decide)))
def spPick (K : PySem.W.Frag) : Sp := fun vs H Q _ => ∃ (v l : Addr) (xs : List Int), vs = [.ref v, .ref l] ∧ VatAt H v ∧ l ≠ v ∧ H l = some (.lst (xs.map V.int)) ∧ xs ≠ [] ∧ xs.length ≤ 100 ∧ ∀ r H', Gv v H H' → r ∈ xs → Q (.int r) H'
def wyG (a : Int) : Nat → Int
  | 0 => 1
  | k + 1 => wyG a k * (a - (k : Int)) / ((k : Int) + 1)
theorem wy_chs (a : Nat) : ∀ k : Nat, wyG (a : Int) k = ((chs a k : Nat) : Int)
  | 0 => by rw [chs_zero]; rfl
  | k + 1 => by
    show wyG (a : Int) k * ((a : Int) - (k : Int)) / ((k : Int) + 1) = _
    rw [wy_chs a k, Int.mul_comm, ← chs_step a k]
    exact Int.mul_ediv_cancel_left _ (by omega)
def spChoose : Sp := fun vs H Q _ => ∃ a k : Nat, vs = [.int (a : Int), .int (k : Int)] ∧ a < 14 ∧ k < 6 ∧ Q (.int ((chs a k : Nat) : Int)) H
theorem chs_small : ∀ a < 14, ∀ k < 6, chs a k ≤ 1287 := by decide +kernel
/-- a list of so many numbers from 0 on, none above b -/
def NumL (cs : List Int) (n : Nat) (b : Int) : Prop := cs.length = n ∧ ∀ c ∈ cs, 0 ≤ c ∧ c ≤ b
def spUrnL (K : PySem.W.Frag) : Sp := fun vs H Q _ => ∃ (a m n : Nat), vs = [.int (a : Int), .int (m : Int), .int (n : Int)] ∧ m ≤ a ∧ a < 14 ∧ n < 6 ∧ ∀ p H' cs, H p = none → Ex H H' → H' p = some (.lst (cs.map V.int)) → NumL cs (n + 1) 2000000 → Q (.ref p) H'
theorem NumL.get {cs : List Int} {n k : Nat} {b : Int} (h : NumL cs n b) (hk : k < n) : ∃ c, cs[k]? = some c ∧ 0 ≤ c ∧ c ≤ b := by
  have hk : k < cs.length := by rw [h.1]; exact hk
  exact ⟨cs[k], List.getElem?_eq_getElem hk, h.2 _ (List.getElem_mem hk)⟩
theorem at_num {cs : List Int} {k : Nat} {c : Int} (h : cs[k]? = some c) : atI (cs.map V.int) (k : Int) = some (.int c) := at_of (j := k) (by simp [ixN]) (by rw [List.getElem?_map, h]; rfl)
def spMixedL (K : PySem.W.Frag) : Sp := fun vs H Q _ => ∃ (v : Addr) (a n : Nat), vs = [.ref v, .int (a : Int), .int (n : Int)] ∧ VatAt H v ∧ a < 14 ∧ n < 6 ∧ ∀ p H' cs, Gv v H H' → H p = none → p ≠ v → H' p = some (.lst (cs.map V.int)) → NumL cs (n + 1) 24000000 → Q (.ref p) H'
def coinC (t r n k : Nat) : Int := ((chs n k * (t ^ k * r ^ (n - k)) : Nat) : Int)
def coinCs (t r n : Nat) : List Int := (List.range (n + 1)).map (coinC t r n)
theorem coin_small : ∀ t < 5, ∀ r < 5, ∀ n < 6, ∀ k < n + 1, ∀ j < n + 1, chs n k * (t ^ (min j k) * r ^ (j - k)) ≤ 10240 := by decide +kernel
theorem coin_step : ∀ t < 5, ∀ r < 5, ∀ n < 6, ∀ k < n + 1, ∀ j < n, chs n k * (t ^ (min j k) * r ^ (j - k)) * (if j < k then t else r) = chs n k * (t ^ (min (j + 1) k) * r ^ (j + 1 - k)) := by decide +kernel
theorem coin_pos {t r n k : Nat} (ht : 1 ≤ t) (hr : 1 ≤ r) (hn : n < 6) (hk : k ≤ n) : 1 ≤ chs n k * (t ^ k * r ^ (n - k)) := Nat.mul_pos (chs_pos hn hk) (Nat.mul_pos (Nat.pow_pos ht) (Nat.pow_pos hr))
def spCoinL (K : PySem.W.Frag) : Sp := fun vs H Q _ => ∃ (v : Addr) (n : Nat), vs = [.ref v, .int (n : Int)] ∧ VatAt H v ∧ n < 6 ∧ ∀ p H' t r, Gv v H H' → H p = none → p ≠ v → 1 ≤ t → t < 5 → 1 ≤ r → r < 5 → H' p = some (.lst ((coinCs t r n).map V.int)) → Q (.ref p) H'
theorem NumL.mono {cs : List Int} {n : Nat} {a b : Int} (h : NumL cs n a) (e : a ≤ b) : NumL cs n b := ⟨h.1, fun c hc => by have := h.2 c hc; omega⟩
theorem coins_num {t r n : Nat} (ht : t < 5) (hr : r < 5) (hn : n < 6) : NumL (coinCs t r n) (n + 1) 24000000 := by
  refine ⟨by simp [coinCs], fun c hc => ?_⟩
  obtain ⟨k, hk, rfl⟩ := List.mem_map.mp hc
  have hk := List.mem_range.mp hk
  have h := coin_small t ht r hr n hn k hk n (by omega)
  rw [show min n k = k by omega] at h
  unfold coinC
  omega
theorem NumL.set {cs : List Int} {n k : Nat} {a : Int} {c : Int} (h : NumL cs n a) (h0 : 0 ≤ c) (h1 : c ≤ a) : NumL (cs.set k c) n a := by
  refine ⟨by rw [List.length_set]; exact h.1, fun x hx => ?_⟩
  rcases List.mem_or_eq_of_mem_set hx with hx | rfl
  · exact h.2 x hx
  · exact ⟨h0, h1⟩
def spRowL (K : PySem.W.Frag) : Sp := fun vs H Q _ => ∃ (v : Addr) (n : Nat), vs = [.ref v, .int (n : Int)] ∧ VatAt H v ∧ 1 ≤ n ∧ n < 6 ∧ ∀ x H' cs, Gv v H H' → IsInts K H' x cs → NumL cs (n + 1) 24000003 → 0 < cs.sum → Q x H'
theorem coin_sums : ∀ t < 5, ∀ r < 5, ∀ n < 6, (coinCs t r n).sum ≤ 40000 := by decide +kernel
theorem coin_sum1 {t r n : Nat} (t1 : 1 ≤ t) (t5 : t < 5) (r1 : 1 ≤ r) (r5 : r < 5) (hn : n < 6) : 1 ≤ (coinCs t r n).sum := by
  have nn : ∀ c ∈ coinCs t r n, 0 ≤ c := fun c hc => ((coins_num t5 r5 hn).2 c hc).1
  have hm : coinC t r n 0 ∈ coinCs t r n := List.mem_map.mpr ⟨0, List.mem_range.mpr (by omega), rfl⟩
  have h1 := mem_le_sum nn hm
  have h2 := coin_pos t1 r1 hn (Nat.zero_le n)
  unfold coinC at h1
  omega
def twoC (A B : Int) (t r t' r' n : Nat) : List Int := (List.range (n + 1)).map fun k => A * coinC t r n k + B * coinC t' r' n k
theorem two_num {A B : Int} {t r t' r' n : Nat} (hA : 1 ≤ A ∧ A ≤ 120000) (hB : 1 ≤ B ∧ B ≤ 120000) (ht : t < 5) (hr : r < 5) (ht' : t' < 5) (hr' : r' < 5) (t1 : 1 ≤ t) (r1 : 1 ≤ r) (hn : n < 6) : (twoC A B t r t' r' n).length = n + 1 ∧ ∀ c ∈ twoC A B t r t' r' n, 1 ≤ c ∧ c ≤ 2457600000 := by
  refine ⟨by simp [twoC], fun c hc => ?_⟩
  obtain ⟨k, hk, rfl⟩ := List.mem_map.mp hc
  have hk := List.mem_range.mp hk
  have h := coin_small t ht r hr n hn k hk n (by omega)
  have h' := coin_small t' ht' r' hr' n hn k hk n (by omega)
  rw [show min n k = k by omega] at h h'
  have h1 := coin_pos t1 r1 hn (show k ≤ n by omega)
  have p1 : 1 * 1 ≤ A * coinC t r n k := Int.mul_le_mul hA.1 (by unfold coinC; omega) (by decide) (by omega)
  have p2 : A * coinC t r n k ≤ 120000 * 10240 := Int.mul_le_mul hA.2 (by unfold coinC; omega) (by unfold coinC; omega) (by decide)
  have p3 : 0 ≤ B * coinC t' r' n k := Int.mul_nonneg (by omega) (by unfold coinC; omega)
  have p4 : B * coinC t' r' n k ≤ 120000 * 10240 := Int.mul_le_mul hB.2 (by unfold coinC; omega) (by unfold coinC; omega) (by decide)
  omega
def spCoinsL (K : PySem.W.Frag) : Sp := fun vs H Q _ => ∃ (v : Addr) (n : Nat), vs = [.ref v, .int (n : Int)] ∧ VatAt H v ∧ n < 6 ∧ ∀ p H' A B t r t' r', Gv v H H' → H p = none → p ≠ v → 1 ≤ A ∧ A ≤ 120000 → 1 ≤ B ∧ B ≤ 120000 → (1 ≤ t ∧ t < 5 ∧ 1 ≤ r ∧ r < 5) → (1 ≤ t' ∧ t' < 5 ∧ 1 ≤ r' ∧ r' < 5) → H' p = some (.lst ((twoC A B t r t' r' n).map V.int)) → Q (.ref p) H'
def IsTab (H : Hp) (p : Addr) (M : List (List Int)) : Prop := ∃ xs : List V, H p = some (.lst xs) ∧ xs.length = M.length ∧ ∀ (i : Nat) (cs : List Int), M[i]? = some cs → ∃ a, xs[i]? = some (.ref a) ∧ H a = some (.lst (cs.map V.int))
theorem IsTab.ex {H H' : Hp} {p : Addr} {M : List (List Int)} (h : IsTab H p M) (e : Ex H H') : IsTab H' p M := by
  obtain ⟨xs, h1, h2, h3⟩ := h
  refine ⟨xs, e _ _ h1, h2, fun i cs hi => ?_⟩
  obtain ⟨a, h4, h5⟩ := h3 i cs hi
  exact ⟨a, h4, e _ _ h5⟩
def rowF (Dd : Addr) (f : Nat → List Int) : Nat → V → Hp → Prop := fun i y G => ∃ a, y = .ref a ∧ a ≠ Dd ∧ G a = some (.lst ((f i).map V.int))
theorem rowF_but {Dd : Addr} {f : Nat → List Int} : ∀ (i : Nat) (y : V) (H H' : Hp), But Dd H H' → rowF Dd f i y H → rowF Dd f i y H' := by
  rintro i y H H' b ⟨a, rfl, na, h⟩
  exact ⟨a, rfl, na, b a _ (.inl na) h⟩
theorem tab_of {G : Hp} {Dd : Addr} {ys : List V} {n : Nat} {f : Nat → List Int} (hy : G Dd = some (.lst ys)) (hl : ys.length = n) (hr : ∀ (i : Nat) y, ys[i]? = some y → rowF Dd f i y G) : IsTab G Dd ((List.range n).map f) := by
  refine ⟨ys, hy, by simp [hl], fun i cs hi => ?_⟩
  rw [List.getElem?_map] at hi
  by_cases h : i < n
  · rw [List.getElem?_range h] at hi
    cases hi
    have hyi : ys[i]? = some ys[i] := List.getElem?_eq_getElem (by omega)
    obtain ⟨a, e, _, ha⟩ := hr i _ hyi
    exact ⟨a, by rw [hyi, e], ha⟩
  · rw [List.getElem?_eq_none (by simp; omega)] at hi
    cases hi
def mE (M : List (List Int)) (i j : Nat) : Int := (M.getD i []).getD j 0
def SqM (M : List (List Int)) (s b : Nat) : Prop := M.length = s ∧ ∀ r ∈ M, r.length = s ∧ ∀ c ∈ r, c.natAbs < 2 ^ b
theorem SqM.row {M : List (List Int)} {s b i : Nat} (h : SqM M s b) (hi : i < s) : ∃ r, M[i]? = some r ∧ r.length = s ∧ (∀ c ∈ r, c.natAbs < 2 ^ b) ∧ ∀ j < s, r[j]? = some (mE M i j) ∧ (mE M i j).natAbs < 2 ^ b := by
  have hl : i < M.length := by rw [h.1]; exact hi
  have hr := h.2 _ (List.getElem_mem hl)
  refine ⟨M[i], List.getElem?_eq_getElem hl, hr.1, hr.2, fun j hj => ?_⟩
  have hj' : j < (M[i]).length := by rw [hr.1]; exact hj
  have e : mE M i j = (M[i])[j] := by
    have e0 : M.getD i [] = M[i] := by
      rw [List.getD_eq_getElem?_getD, List.getElem?_eq_getElem hl]
      rfl
    unfold mE
    rw [e0, List.getD_eq_getElem?_getD, List.getElem?_eq_getElem hj']
    rfl
  rw [e]
  exact ⟨List.getElem?_eq_getElem hj', hr.2 _ (List.getElem_mem hj')⟩
/-- table[i][j] -/
theorem q_ixTab {H : Hp} {p : Addr} {M : List (List Int)} {s b i : Nat} {Q : VK} (h : IsTab H p M) (hM : SqM M s b) (hi : i < s) (q : ∀ a, (∀ j < s, ∀ (G : Hp) (Q' : VK), Ex H G → Q' (.int (mE M i j)) G → rIxL K (.ref a) (.int (j : Int)) G Q') → Q (.ref a) H) : rIxL K (.ref p) (.int (i : Int)) H Q := by
  obtain ⟨xs, h1, h2, h3⟩ := h
  obtain ⟨r, hr, _, _, rj⟩ := hM.row hi
  obtain ⟨a, ha, hL⟩ := h3 i r hr
  refine q_ixL (.of h1) (at_of (j := i) (by simp [ixN]) ha) ?_
  refine q a fun j hj G Q' e z => ?_
  exact q_ixL (.of (e _ _ hL)) (at_num (rj j hj).1) z
def subM (M : List (List Int)) (ls : List Nat) : List (List Int) := ls.map fun i => ls.map fun j => mE M i j
theorem sub_sq {M : List (List Int)} {s b : Nat} {ls : List Nat} (h : SqM M s b) (hl : ∀ i ∈ ls, i < s) : SqM (subM M ls) ls.length b := by
  refine ⟨by simp [subM], fun r hr => ?_⟩
  obtain ⟨i, hi, rfl⟩ := List.mem_map.mp hr
  refine ⟨by simp, fun c hc => ?_⟩
  obtain ⟨j, hj, rfl⟩ := List.mem_map.mp hc
  obtain ⟨r, _, _, _, rj⟩ := h.row (hl i hi)
  exact (rj j (hl j hj)).2
def quads : List (List Int) := [[0, 1, 2, 1], [1, 2, 0, 1], [2, 0, 1, 1], [0, 2, 1, -1], [1, 0, 2, -1], [2, 1, 0, -1]]
def quadV (t : List (List Int)) (q : List Int) : Int := q.getD 3 0 * mE t 0 (q.getD 0 0).toNat * mE t 1 (q.getD 1 0).toNat * mE t 2 (q.getD 2 0).toNat
def detM (t : List (List Int)) : Int :=
  if t.length = 1 then mE t 0 0 else if t.length = 2 then mE t 0 0 * mE t 1 1 - mE t 0 1 * mE t 1 0 else (quads.map (quadV t)).sum
theorem quads_ok : ∀ q ∈ quads, ∃ (a b c : Nat) (z : Int), q = [(a : Int), (b : Int), (c : Int), z] ∧ a < 3 ∧ b < 3 ∧ c < 3 ∧ z.natAbs < 2 := by
  intro q hq
  simp only [quads, List.mem_cons, List.not_mem_nil, or_false] at hq
  rcases hq with rfl | rfl | rfl | rfl | rfl | rfl
  · exact ⟨0, 1, 2, 1, rfl, by decide, by decide, by decide, by decide⟩
  · exact ⟨1, 2, 0, 1, rfl, by decide, by decide, by decide, by decide⟩
  · exact ⟨2, 0, 1, 1, rfl, by decide, by decide, by decide, by decide⟩
  · exact ⟨0, 2, 1, -1, rfl, by decide, by decide, by decide, by decide⟩
  · exact ⟨1, 0, 2, -1, rfl, by decide, by decide, by decide, by decide⟩
  · exact ⟨2, 1, 0, -1, rfl, by decide, by decide, by decide, by decide⟩
def spMinorL : Sp := fun vs H Q _ => ∃ (p l : Addr) (M : List (List Int)) (s : Nat) (ls : List Nat), vs = [.ref p, .ref l] ∧ IsTab H p M ∧ SqM M s 200 ∧ H l = some (.lst ((ls.map fun i : Nat => (i : Int)).map V.int)) ∧ (∀ i ∈ ls, i < s) ∧ 1 ≤ ls.length ∧ ls.length ≤ 3 ∧ ∀ H', Ex H H' → Q (.int (detM (subM M ls))) H'
def Rows0 (H : Hp) (acc : List V) (M : List (List Int)) : Prop := acc.length = M.length ∧ ∀ (i : Nat) (cs : List Int), M[i]? = some cs → ∃ a, acc[i]? = some (.ref a) ∧ H a = some (.lst (cs.map V.int))
theorem Rows0.snoc {H : Hp} {acc : List V} {M : List (List Int)} {a : Addr} {cs : List Int} (h : Rows0 H acc M) (ha : H a = some (.lst (cs.map V.int))) : Rows0 H (acc ++ [.ref a]) (M ++ [cs]) := by
  refine ⟨by simp [h.1], fun i ds hi => ?_⟩
  by_cases hl : i < M.length
  · rw [List.getElem?_append_left hl] at hi
    obtain ⟨b, h1, h2⟩ := h.2 i ds hi
    exact ⟨b, by rw [List.getElem?_append_left (by rw [h.1]; exact hl)]; exact h1, h2⟩
  · rw [List.getElem?_append_right (by omega)] at hi
    have e : i - M.length = 0 := by
      have := (List.getElem?_eq_some_iff.mp hi).1
      simp at this
      omega
    rw [e] at hi
    cases hi
    exact ⟨a, by rw [List.getElem?_append_right (by rw [h.1]; omega), h.1, e]; rfl, ha⟩
theorem lcTabF {tt : TT} {te : TE} {vs : List Nat} {σ : L2.St} {H1 : Hp} {Dd p : Addr} {Q : VK} {j : Nat} (T : List Int → Bool) {M : List (List Int)} (hD : H1 Dd = none) (hT : IsTab H1 p M) (hz : M.length ≤ 1000)
    (hw : ∀ x, wipe ((wipe σ vs).set j (some x)) vs = wipe σ vs)
    (hs : ∀ (i : Nat) (cs : List Int) (a : Addr) (H : Hp) (S : Bool → Hp → Prop), M[i]? = some cs → H1 a = some (.lst (cs.map V.int)) → Ex H1 H → (∀ H3, Ex H H3 → S (T cs) H3) → tt ((wipe σ vs).set j (some (.ref a))) H S)
    (hv : ∀ (x : V) (H : Hp) (S : VK), S x H → te ((wipe σ vs).set j (some x)) H S)
    (hd : ∀ H acc, Ex H1 H → H Dd = some (.lst acc) → Rows0 H1 acc (M.filter T) → Q (.ref Dd) H) : LcW (Itl K p) (gName j) tt (tmE te) vs σ H1 Dd Q := by
  obtain ⟨xs, hp, hl, hx⟩ := hT
  refine lc_list (xs := xs) (fun i H => Ex H1 H ∧ ∃ acc, H Dd = some (.lst acc) ∧ Rows0 H1 acc ((M.take i).filter T)) ⟨Ex.new hD, [], upd_same, rfl, fun i cs h => by simp at h⟩ (fun i H _ h => .of (h.1 _ _ hp)) (fun i x H hi h => ?_) (fun H h => ?_)
  · obtain ⟨e, acc, hA, hR⟩ := h
    have hi2 := (List.getElem?_eq_some_iff.mp hi).1
    obtain ⟨cs, hcs⟩ : ∃ cs, M[i]? = some cs := ⟨_, List.getElem?_eq_getElem (by omega)⟩
    obtain ⟨a, ha, haL⟩ := hx i cs hcs
    rw [ha] at hi
    cases hi
    have etk : M.take (i + 1) = M.take i ++ [cs] := by rw [List.take_add_one, hcs]; rfl
    have aD : a ≠ Dd := fun z => by rw [z, hD] at haL; cases haL
    have lacc : acc.length ≤ 1000 := by
      rw [hR.1]
      refine Nat.le_trans (List.length_filter_le _ _) ?_
      rw [List.length_take]
      omega
    refine ⟨hw _, hs i cs a H _ hcs haL e fun H3 e3 => ?_⟩
    have e13 := e.trans e3
    rw [etk, List.filter_append]
    cases hT2 : T cs with
    | true =>
      rw [if_pos rfl]
      refine ⟨fun y H' => y = .ref a ∧ H' = H3, hv _ _ _ ⟨rfl, rfl⟩, ?_⟩
      rintro y H' ⟨rfl, rfl⟩
      refine ⟨acc, e3 _ _ hA, Nat.lt_of_lt_of_le (show acc.length < 1000000 by omega) (by decide), fun b o hb => ?_, _, upd_same, ?_⟩
      · rw [upd_ne (ne_of_none hb hD)]
        exact e13 _ _ hb
      · have f1 : [cs].filter T = [cs] := by simp [hT2]
        rw [f1]
        exact hR.snoc haL
    | false =>
      rw [if_neg (by decide)]
      have f1 : [cs].filter T = [] := by simp [hT2]
      rw [f1, List.append_nil]
      exact ⟨e13, acc, e3 _ _ hA, hR⟩
  · obtain ⟨e, acc, hA, hR⟩ := h
    rw [hl, List.take_length] at hR
    exact hd H acc e hA hR
def tabD (M : List (List Int)) : List PyData := M.map fun cs => .list (cs.map PyData.int)
theorem rows0_dp {H : Hp} : ∀ {acc : List V} {M : List (List Int)}, Rows0 H acc M → DpAll K H acc (tabD M)
  | [], [], _ => .nil
  | [], _ :: _, h => by cases h.1
  | _ :: _, [], h => by cases h.1
  | x :: acc, cs :: M, h => by
    obtain ⟨a, e, ha⟩ := h.2 0 cs rfl
    cases e
    refine .cons (.lst (.of ha) (dp_ints cs)) (rows0_dp ⟨by simpa using h.1, fun i ds hi => by simpa using h.2 (i + 1) ds (by simpa using hi)⟩)
theorem shaped_tab (M : List (List Int)) : SeqAt.shaped (.list (tabD M)) = true := by
  have h : ∀ cs : List Int, PyData.canLayAll0 (cs.map PyData.int) = true ∧ PyData.depthAll (cs.map PyData.int) = 0 := by
    intro cs
    induction cs with
    | nil => exact ⟨by simp [PyData.canLayAll0], by simp [PyData.depthAll]⟩
    | cons c cs ih => exact ⟨by simp [PyData.canLayAll0, PyData.canLay0, ih.1], by simp [PyData.depthAll, PyData.depth, ih.2]⟩
  have h2 : ∀ M : List (List Int), PyData.canLayAll0 (tabD M) = true ∧ PyData.depthAll (tabD M) ≤ 1 := by
    intro M
    induction M with
    | nil => exact ⟨by simp [tabD, PyData.canLayAll0], by simp [tabD, PyData.depthAll]⟩
    | cons cs M ih =>
      have e : tabD (cs :: M) = .list (cs.map PyData.int) :: tabD M := rfl
      rw [e]
      refine ⟨by simp [PyData.canLayAll0, PyData.canLay0, ih.1, (h cs).1], ?_⟩
      have := ih.2
      simp [PyData.depthAll, PyData.depth, (h cs).2]
      omega
  unfold SeqAt.shaped
  have := (h2 M).2
  simp [PyData.canLay0, PyData.depth, (h2 M).1]
  omega
def lots7 : List (List Int) := [[0], [1], [2], [0, 1], [0, 2], [1, 2], [0, 1, 2]]
def lotsF (s : Nat) : List (List Int) := lots7.filter fun l => decide (l.getLastD 0 < (s : Int))
def natsL (l : List Int) : List Nat := l.map Int.toNat
def aboveB (M : List (List Int)) (s : Nat) : Bool := (lotsF s).all fun l => decide (0 ≤ detM (subM M (natsL l)))
theorem lots_ok : ∀ l ∈ lots7, 1 ≤ l.length ∧ l.length ≤ 3 ∧ (natsL l).map (fun i : Nat => (i : Int)) = l ∧ ∀ s : Nat, l.getLastD 0 < (s : Int) → ∀ i ∈ natsL l, i < s := by
  intro l hl
  simp only [lots7, List.mem_cons, List.not_mem_nil, or_false] at hl
  rcases hl with rfl | rfl | rfl | rfl | rfl | rfl | rfl
  all_goals
    refine ⟨by decide, by decide, by decide, fun s hs i hi => ?_⟩
    simp [natsL] at hi hs
    omega
def spAbove : Sp := fun vs H Q _ => ∃ (p : Addr) (M : List (List Int)) (s : Nat), vs = [.ref p] ∧ IsTab H p M ∧ SqM M s 200 ∧ s ≤ 3 ∧ ∀ H', Ex H H' → Q (.bl (aboveB M s)) H'
theorem natV_get {n i : Nat} (hi : i < n) : ((natV n).map V.int)[i]? = some (.int (i : Int)) := by
  unfold natV
  rw [List.getElem?_map, List.getElem?_map, List.getElem?_range hi]
  rfl
theorem natV_len (n : Nat) : ((natV n).map V.int).length = n := by simp [natV]
def genT (s : Nat) (f : Nat → Nat → Int) : List (List Int) := (List.range s).map fun i => (List.range s).map (f i)
theorem lcRow {te : TE} {σ : L2.St} {H1 : Hp} {D2 a : Addr} {Q : VK} {j s : Nat} (g : Nat → Int) (hD : H1 D2 = none) (hx : SqL K H1 a ((natV s).map V.int)) (s3 : s ≤ 1000)
    (hw : ∀ x, wipe ((wipe σ [j]).set j (some x)) [j] = wipe σ [j])
    (hs : ∀ i < s, ∀ (G : Hp) (S : VK), Ex H1 G → S (.int (g i)) G → te ((wipe σ [j]).set j (some (.int (i : Int)))) G S)
    (hd : ∀ G, Ex H1 G → G D2 = some (.lst (((List.range s).map g).map V.int)) → Q (.ref D2) G) : LcW (Itl K a) (gName j) tYes (tmE te) [j] σ H1 D2 Q := by
  refine lcLn (fun i y _ => y = .int (g i)) (fun _ _ _ _ _ h => h) hD hx (by rw [natV_len]; omega) hw (fun i x G hi e => ?_) (fun G ys e hy hl hr => ?_)
  · have hi2 : i < s := by have := (List.getElem?_eq_some_iff.mp hi).1; rw [natV_len] at this; exact this
    rw [natV_get hi2] at hi
    cases hi
    exact ⟨fun y G' => y = .int (g i) ∧ G' = G, hs i hi2 G _ e ⟨rfl, rfl⟩, fun y G' ⟨h1, h2⟩ => by rw [h2]; exact ⟨Ex.refl _, h1⟩⟩
  · rw [natV_len] at hl
    rw [ints_of hl hr] at hy
    exact hd G e hy
theorem lcOut {te : TE} {σ : L2.St} {H1 : Hp} {Dd a : Addr} {Q : VK} {j s : Nat} (f : Nat → Nat → Int) (hD : H1 Dd = none) (hx : SqL K H1 a ((natV s).map V.int)) (s3 : s ≤ 1000)
    (hw : ∀ x, wipe ((wipe σ [j]).set j (some x)) [j] = wipe σ [j])
    (hs : ∀ i < s, ∀ (G : Hp) (S : VK), Ex H1 G → (∀ (D2 : Addr) (G2 : Hp), G D2 = none → Ex G G2 → G2 D2 = some (.lst (((List.range s).map (f i)).map V.int)) → S (.ref D2) G2) → te ((wipe σ [j]).set j (some (.int (i : Int)))) G S)
    (hd : ∀ G, Ex H1 G → IsTab G Dd (genT s f) → Q (.ref Dd) G) : LcW (Itl K a) (gName j) tYes (tmE te) [j] σ H1 Dd Q := by
  refine lcLb (rowF Dd fun i => (List.range s).map (f i)) rowF_but hD hx (by rw [natV_len]; omega) hw (fun i x G hi e ⟨acc, hacc⟩ => ?_) (fun G ys e hy hl hr => ?_)
  · have hi2 : i < s := by have := (List.getElem?_eq_some_iff.mp hi).1; rw [natV_len] at this; exact this
    rw [natV_get hi2] at hi
    cases hi
    refine ⟨fun y G' => Ex G G' ∧ rowF Dd (fun i => (List.range s).map (f i)) i y G', hs i hi2 G _ e fun D2 G2 n2 e2 h2 => ⟨e2, D2, rfl, fun z => ?_, h2⟩, fun y G' h => h⟩
    rw [z, hacc] at n2
    cases n2
  · rw [natV_len] at hl
    exact hd G e (tab_of hy hl hr)
theorem genT_sq {s b : Nat} {f : Nat → Nat → Int} (h : ∀ i < s, ∀ j < s, (f i j).natAbs < 2 ^ b) : SqM (genT s f) s b := by
  refine ⟨by simp [genT], fun r hr => ?_⟩
  obtain ⟨i, hi, rfl⟩ := List.mem_map.mp hr
  refine ⟨by simp, fun c hc => ?_⟩
  obtain ⟨j, hj, rfl⟩ := List.mem_map.mp hc
  exact h i (List.mem_range.mp hi) j (List.mem_range.mp hj)
def wayS (cs : List Int) (j : Nat) : Int := ((List.range cs.length).map fun k => cs.getD k 0 * ((chs k j : Nat) : Int)).sum
def momL (cs : List Int) (j : Nat) : Int := wayS cs j * 60 / ((chs (cs.length - 1) j : Nat) : Int)
def nearF (m : Nat → Int) (n : Nat) (i j : Nat) : Int := if n % 2 = 0 then m (i + j) else m (i + j + 1)
def farF (m : Nat → Int) (n : Nat) (i j : Nat) : Int := if n % 2 = 0 then m (i + j + 1) - m (i + j + 2) else m (i + j) - m (i + j + 1)
def farS (n : Nat) : Nat := if n % 2 = 0 then n / 2 else n / 2 + 1
def dueB (m : Nat → Int) (n : Nat) : Bool := aboveB (genT (n / 2 + 1) (nearF m n)) (n / 2 + 1) && aboveB (genT (farS n) (farF m n)) (farS n)
theorem way_le {cs : List Int} {n j : Nat} (h : NumL cs (n + 1) (2 ^ 110)) (hn : n < 6) (hj : j ≤ n) : 0 ≤ wayS cs j ∧ wayS cs j ≤ 60 * 2 ^ 110 := by
  have each : ∀ x ∈ (List.range cs.length).map (fun k => cs.getD k 0 * ((chs k j : Nat) : Int)), 0 ≤ x ∧ x ≤ 2 ^ 110 * 10 := by
    intro x hx
    obtain ⟨k, hk, rfl⟩ := List.mem_map.mp hx
    have hk := List.mem_range.mp hk
    obtain ⟨c, hc, c0, c1⟩ := h.get (k := k) (by rw [← h.1]; exact hk)
    have e : cs.getD k 0 = c := by rw [List.getD_eq_getElem?_getD, hc]; rfl
    have c2 := chs_le (a := k) (b := j) (by have := h.1; omega) (by omega)
    rw [e]
    exact ⟨Int.mul_nonneg c0 (by omega), Int.mul_le_mul c1 (by omega) (by omega) (by decide)⟩
  have nn := sum_nonneg fun x hx => (each x hx).1
  have sl := sum_le (b := 2 ^ 110 * 10) fun x hx => (each x hx).2
  have hl := h.1
  rw [List.length_map, List.length_range] at sl
  have : (cs.length : Int) * (2 ^ 110 * 10) ≤ 6 * (2 ^ 110 * 10) := Int.mul_le_mul_of_nonneg_right (by omega) (by decide)
  exact ⟨nn, by unfold wayS; omega⟩
theorem mom_le {cs : List Int} {n j : Nat} (h : NumL cs (n + 1) (2 ^ 110)) (hn : n < 6) (hj : j ≤ n) : 0 ≤ momL cs j ∧ momL cs j < 2 ^ 130 := by
  obtain ⟨w0, w1⟩ := way_le h hn hj
  have hl := h.1
  have cp := chs_pos (a := cs.length - 1) (b := j) (by omega) (by omega)
  unfold momL
  refine ⟨Int.ediv_nonneg (by omega) (by omega), ?_⟩
  have := Int.ediv_le_self ((chs (cs.length - 1) j : Nat) : Int) (show 0 ≤ wayS cs j * 60 by omega)
  have : (2 : Int) ^ 130 = 2 ^ 110 * 2 ^ 20 := by decide
  omega
theorem cutN {s : Nat} (h : s < 3) : cutV ((natV (s + 1)).map V.int) none (some (-1)) = (natV s).map V.int := by
  have : s = 0 ∨ s = 1 ∨ s = 2 := by omega
  rcases this with rfl | rfl | rfl <;> rfl
theorem near_sz {cs : List Int} {n : Nat} (h : NumL cs (n + 1) (2 ^ 110)) (hn : n < 6) (n1 : 1 ≤ n) : ∀ i < n / 2 + 1, ∀ j < n / 2 + 1, (nearF (momL cs) n i j).natAbs < 2 ^ 200 := by
  intro i hi j hj
  have b : (2 : Nat) ^ 130 ≤ 2 ^ 200 := Nat.pow_le_pow_right (by decide) (by decide)
  unfold nearF
  split
  · have := mom_le (j := i + j) h hn (by omega)
    omega
  · have := mom_le (j := i + j + 1) h hn (by omega)
    omega
theorem far_sz {cs : List Int} {n : Nat} (h : NumL cs (n + 1) (2 ^ 110)) (hn : n < 6) (n1 : 1 ≤ n) : ∀ i < farS n, ∀ j < farS n, (farF (momL cs) n i j).natAbs < 2 ^ 200 := by
  intro i hi j hj
  have b : (2 : Nat) ^ 130 ≤ 2 ^ 200 := Nat.pow_le_pow_right (by decide) (by decide)
  unfold farS at hi hj
  unfold farF
  split
  · rename_i hp
    rw [if_pos hp] at hi hj
    have := mom_le (j := i + j + 1) h hn (by omega)
    have := mom_le (j := i + j + 2) h hn (by omega)
    omega
  · rename_i hp
    rw [if_neg hp] at hi hj
    have := mom_le (j := i + j) h hn (by omega)
    have := mom_le (j := i + j + 1) h hn (by omega)
    omega
def spDueL (K : PySem.W.Frag) : Sp := fun vs H Q _ => ∃ (l : Addr) (cs : List Int) (n : Nat), vs = [.ref l] ∧ H l = some (.lst (cs.map V.int)) ∧ NumL cs (n + 1) (2 ^ 110) ∧ 1 ≤ n ∧ n < 6 ∧ ∀ H', Ex H H' → Q (.bl (dueB (momL cs) n)) H'
def yesF (cs : List Int) (j : Nat) : Int := wayS cs j * ((Builtin.Math.factorialNat j : Nat) : Int) * ((Builtin.Math.factorialNat (cs.length - 1 - j) : Nat) : Int)
theorem fac_le : ∀ n < 6, 1 ≤ Builtin.Math.factorialNat n ∧ Builtin.Math.factorialNat n ≤ 120 := by decide +kernel
def spYes (K : PySem.W.Frag) : Sp := fun vs H Q _ => ∃ (p : Addr) (cs : List Int) (n : Nat), vs = [.ref p] ∧ SqT K H p (cs.map V.int) ∧ NumL cs (n + 1) (2 ^ 110) ∧ 1 ≤ n ∧ n < 6 ∧ ∀ l H', Ex H H' → H' l = some (.lst (((List.range (n + 1)).map (yesF cs)).map V.int)) → Q (.ref l) H'
theorem scYes : FnScope ["counts", "draws", "k", "count", "j"] ["counts"] (defScope (top 26)) := ⟨rfl, rfl, rfl, by decide +kernel, rfl, by decide +kernel, by decide +kernel⟩
theorem has_yes (B : Bi mg) (c_comb : mg "comb" = some (.builtin "math.comb")) (c_factorial : mg "factorial" = some (.builtin "math.factorial")) (D : Df K mg "yes_sums" (top 26) ["counts"]) : Has P w K mg base "yes_sums" 1 ["counts"] (spYes K) := by
  have sc := scYes
  refine .of D fun f fd F => F.ok sc (fun vs H Q E h => ?_) (fun cdv A outer s H vs Q E hr h => ?_)
  · obtain ⟨l, cs, n, rfl, _⟩ := h
    rfl
  · obtain ⟨p, cs, n, rfl, hp, hN, n1, hn, k⟩ := h
    refine ⟨_, (pss_cons (ps_set (i := 1) sc.nd rfl (by first | exact Or.inl rfl | exact Or.inr rfl) (pe_op op_sub (pe_callB (kLen (K := K)) (by rfl) B.len (by decide +kernel) (pa_cons (pv 0) pa_nil)) pe_int))
      (pss_one (ps_ret (pe_lc (own := [("j", 4)]) (g := gName 4) (tt := tYes) rfl sc.nd (pi_range1 (by rfl) B.range (pa_cons (pe_op op_add (pv 1) pe_int) pa_nil)) (blkOk_by (N := (["counts", "draws", "k", "count", "j"] : List Str)) (sc := defScope (top 26)) (by decide +kernel)) (fun _ _ _ _ _ => (pg_name (i := 4) sc.nd rfl (by first | exact Or.inl rfl | exact Or.inr rfl))) (fun _ _ _ _ _ => pts_nil) (fun _ _ _ _ _ => (PE.mon (pe_op op_mulS (pe_op op_mulS (pe_callB (kSum (K := K) rfl) (by rfl) B.sum (by decide +kernel) (pa_cons (pe_lc (own := [("k", 2), ("count", 3)]) (g := gTup K 2 (gCons (gName 2) (gCons (gName 3) gNil))) (tt := tYes) rfl sc.nd (kEnumT (K := K) (by rfl) B.enumerate (pa_cons (pv 0) pa_nil)) (blkOk_by (by kernel_rfl)) (fun _ _ _ _ _ => (pg_tup rfl (pgs_cons (pg_name (i := 2) sc.nd rfl (by first | exact Or.inl rfl | exact Or.inr rfl)) (pgs_cons (pg_name (i := 3) sc.nd rfl (by first | exact Or.inl rfl | exact Or.inr rfl)) pgs_nil)))) (fun _ _ _ _ _ => pts_nil) (fun _ _ _ _ _ => (PE.mon (pe_op op_mulS (pv 3) (pe_callBfun cr_comb (by rfl) c_comb (pa_cons (pv 2) (pa_cons (pv 4) pa_nil))))))) pa_nil)) (pe_callBfun cr_fact (by rfl) c_factorial (pa_cons (pv 4) pa_nil))) (pe_callBfun cr_fact (by rfl) c_factorial (pa_cons (pe_op op_sub (pv 1) (pv 4)) pa_nil))))))))), ?_⟩
    walk_at "rd"
    have ncs : cs.length = n + 1 := hN.1
    refine ⟨_, .inr hp, ?_⟩
    rw [List.length_map, ncs]
    have en : (((n + 1 : Nat) : Int)) - 1 = (n : Int) := by omega
    rw [en]
    refine ⟨by omega, by omega, fun Dd hD => lcR (fun j y _ => y = .int (yesF cs j)) (fun _ _ _ _ _ h => h) hD (by omega) (fun _ => rfl) ?_ ?_⟩
    · intro j G hj e
      have hj : j ≤ n := by omega
      obtain ⟨R0, hR⟩ : ∃ R : VK, R = fun y G' => Ex G G' ∧ y = .int (yesF cs j) := ⟨_, rfl⟩
      refine ⟨R0, ?_, fun y G' h => by rw [hR] at h; exact h⟩
      walk_at "rd"
      refine ⟨⟨_, sqT_kp hp e.kp⟩, fun D2 hD2 => lcE (fun i y _ => y = .int (cs.getD i 0 * ((chs i j : Nat) : Int))) (fun _ _ _ _ _ h => h) hD2 (sqT_kp hp e.kp) (by rw [List.length_map]; omega) (gm_tup (gm_cons gm_name (gm_cons gm_name gm_nil))) ?_ ?_⟩
      · intro i v T H2 hv e2 hT
        obtain ⟨c, hc, rfl⟩ := map_int_get hv
        have hi := (List.getElem?_eq_some_iff.mp hc).1
        obtain ⟨c', hc', c0, c1⟩ := hN.get (k := i) (by omega)
        rw [hc] at hc'
        cases hc'
        have ec : cs.getD i 0 = c := by rw [List.getD_eq_getElem?_getD, hc]; rfl
        rw [ec]
        walk_at "rd"
        refine ⟨_, .of hT, rfl, ?_⟩
        walk_at "rd"
        obtain ⟨R1, hR1⟩ : ∃ R : VK, R = fun v H' => v = .int (c * ((chs i j : Nat) : Int)) ∧ H' = H2 := ⟨_, rfl⟩
        refine ⟨R1, ?_, fun v H' h => by rw [hR1] at h; obtain ⟨rfl, rfl⟩ := h; exact ⟨Ex.refl _, rfl⟩⟩
        walk_at "rd"
        refine ⟨_, _, rfl, comb_ok (by omega) (by omega), ?_⟩
        rw [comb_chs (by omega) (by omega)]
        have hb := chs_le (a := i) (b := j) (by omega) (by omega)
        walk_at "rd"
        refine ⟨cmulR, ?_⟩
        rw [hR1]
        exact ⟨rfl, rfl⟩
      · intro H2 ys e2 hy hl hr2
        rw [List.length_map] at hl
        have ey : ys = ((List.range cs.length).map fun k => cs.getD k 0 * ((chs k j : Nat) : Int)).map V.int := ints_of hl hr2
        rw [ey] at hy
        refine ⟨D2, _, rfl, .inl (.of hy), ?_⟩
        have wl := way_le hN hn hj
        have f1 := fac_le j (by omega)
        have f2 := fac_le (n - j) (by omega)
        refine ⟨j, rfl, by omega, ?_⟩
        walk_at "rd"
        have b1 : (wayS cs j).natAbs < 2 ^ 130 := by omega
        refine ⟨cmul 130 7 b1 (by omega), ?_⟩
        refine ⟨n - j, by first | omega | (congr 2; omega), by omega, ?_⟩
        walk_at "rd"
        refine ⟨cmul 137 7 (wide_lt (a := 130) (b := 7) b1 (by omega)) (by omega), ?_⟩
        rw [hR]
        refine ⟨e2, ?_⟩
        unfold yesF wayS
        rw [ncs]
        rfl
    · intro G ys e hy hl hr2
      rw [ints_of hl hr2] at hy
      rw [show ((n : Int) + 1).toNat = n + 1 by omega] at hy
      exact k Dd G e hy
theorem cut_mid (xs : List V) (i s : Nat) (h : i + s ≤ xs.length) : cutV xs (some (i : Int)) (some ((i + s : Nat) : Int)) = (xs.drop i).take s := by
  unfold cutV
  rw [HT.sIx_nat, HT.sIx_nat, Nat.min_eq_left (by omega), Nat.min_eq_left (by omega), show i + s - i = s by omega]
theorem mid_eq (cs : List Int) (i s : Nat) (h : i + s ≤ cs.length) : ((cs.map V.int).drop i).take s = ((List.range s).map fun j => cs.getD (i + j) 0).map V.int := by
  apply List.ext_getElem?
  intro q
  by_cases hq : q < s
  · rw [List.getElem?_take_of_lt hq, List.getElem?_drop, List.getElem?_map, List.getElem?_map, List.getElem?_map, List.getElem?_range hq]
    rw [List.getElem?_eq_getElem (show i + q < cs.length by omega)]
    simp only [Option.map_some]
    rw [List.getD_eq_getElem?_getD, List.getElem?_eq_getElem (show i + q < cs.length by omega)]
    rfl
  · rw [List.getElem?_eq_none (by rw [List.length_take]; omega), List.getElem?_eq_none (by simp; omega)]
def spTable : Sp := fun vs H Q _ => ∃ (p : Addr) (cs : List Int) (n : Nat), vs = [.ref p, .int (n : Int)] ∧ H p = some (.lst (cs.map V.int)) ∧ n ≤ 100 ∧ (∀ i < n, i + n ≤ cs.length) ∧ ∀ l H', Ex H H' → IsTab H' l (genT n fun i j => cs.getD (i + j) 0) → Q (.ref l) H'
def sg (j : Nat) : Int := (-1) ^ j
def offM (M : List (List Int)) (j : Nat) : List (List Int) := (M.drop 1).map fun r => r.take j ++ r.drop (j + 1)
def lap : Nat → List (List Int) → Int
  | 0, _ => 1
  | s + 1, M => ((List.range (s + 1)).map fun j => sg j * mE M 0 j * lap s (offM M j)).sum
theorem off_sq {M : List (List Int)} {s b j : Nat} (h : SqM M (s + 1) b) (hj : j < s + 1) : SqM (offM M j) s b := by
  refine ⟨by simp [offM, h.1], fun r hr => ?_⟩
  obtain ⟨r0, h0, rfl⟩ := List.mem_map.mp hr
  have h1 := h.2 r0 (List.mem_of_mem_drop h0)
  refine ⟨by simp [h1.1]; omega, fun c hc => ?_⟩
  rcases List.mem_append.mp hc with hc | hc
  · exact h1.2 c (List.mem_of_mem_take hc)
  · exact h1.2 c (List.mem_of_mem_drop hc)
theorem sg_succ (j : Nat) : sg (j + 1) = -sg j := by unfold sg; rw [Int.pow_succ]; omega
theorem sg_abs (j : Nat) : (sg j).natAbs = 1 := by
  induction j with
  | zero => rfl
  | succ j ih => rw [sg_succ, Int.natAbs_neg, ih]
theorem isum_app (a b : List Int) : (a ++ b).sum = a.sum + b.sum := by
  induction a with
  | nil => simp
  | cons x a ih => rw [List.cons_append, List.sum_cons, List.sum_cons, ih]; omega
theorem abs_sum {l : List Int} {b : Nat} (h : ∀ x ∈ l, x.natAbs ≤ b) : l.sum.natAbs ≤ l.length * b := by
  induction l with
  | nil => simp
  | cons x l ih =>
    have h1 := h x List.mem_cons_self
    have h2 := ih fun y hy => h y (List.mem_cons_of_mem _ hy)
    rw [List.sum_cons, List.length_cons, Nat.succ_mul]
    have := Int.natAbs_add_le x l.sum
    omega
theorem lap_lt : ∀ {s : Nat} {M : List (List Int)}, SqM M s 200 → s ≤ 3 → (lap s M).natAbs ≤ 2 ^ (202 * s)
  | 0, M, _, _ => by simp [lap]
  | s + 1, M, h, h3 => by
    have each : ∀ x ∈ (List.range (s + 1)).map (fun j => sg j * mE M 0 j * lap s (offM M j)), x.natAbs ≤ 2 ^ (200 + 202 * s) := by
      intro x hx
      obtain ⟨j, hj, rfl⟩ := List.mem_map.mp hx
      have hj := List.mem_range.mp hj
      obtain ⟨_, _, _, _, r0⟩ := h.row (i := 0) (by omega)
      have h1 := (r0 j hj).2
      have h2 := lap_lt (off_sq h hj) (by omega)
      rw [Int.natAbs_mul, Int.natAbs_mul, sg_abs, Nat.one_mul, Nat.pow_add]
      exact Nat.mul_le_mul (Nat.le_of_lt h1) h2
    have := abs_sum each
    rw [List.length_map, List.length_range] at this
    refine Nat.le_trans this ?_
    have e : 2 ^ (202 * (s + 1)) = 4 * 2 ^ (200 + 202 * s) := by
      rw [show 202 * (s + 1) = 2 + (200 + 202 * s) by omega, Nat.pow_add]
    rw [e]
    exact Nat.mul_le_mul_right _ (by omega)
def spMin (m : Nat) : Sp := fun vs H Q _ => ∃ (p : Addr) (M : List (List Int)) (s : Nat), vs = [.ref p] ∧ IsTab H p M ∧ SqM M s 200 ∧ s < m ∧ s ≤ 3 ∧ ∀ H', Ex H H' → Q (.int (lap s M)) H'
def natsV (l : List Nat) : List V := l.map fun i : Nat => V.int (i : Int)
def nxt (l : List Nat) : Nat := if l.isEmpty then 0 else l.getLastD 0 + 1
def ext (s : Nat) (l : List Nat) : List (List Nat) := (List.range (s - nxt l)).map fun j => l ++ [nxt l + j]
def chF (s : Nat) : Nat → List (List Nat)
  | 0 => [[]]
  | m + 1 => (chF s m).flatMap (ext s)
def AccT (H : Hp) (acc : List V) (L : List (List Nat)) : Prop := acc.length = L.length ∧ ∀ (i : Nat) l, L[i]? = some l → ∃ a, acc[i]? = some (.ref a) ∧ H a = some (.tup (natsV l))
theorem AccT.ex {H H' : Hp} {acc : List V} {L : List (List Nat)} (h : AccT H acc L) (e : ∀ a xs, H a = some (.tup xs) → H' a = some (.tup xs)) : AccT H' acc L :=
  ⟨h.1, fun i l hi => by
    obtain ⟨a, h1, h2⟩ := h.2 i l hi
    exact ⟨a, h1, e _ _ h2⟩⟩
theorem AccT.snoc {H : Hp} {acc : List V} {L : List (List Nat)} {l : List Nat} {a : Addr} (h : AccT H acc L) (ha : H a = some (.tup (natsV l))) : AccT H (acc ++ [.ref a]) (L ++ [l]) := by
  refine ⟨by simp [h.1], fun i l' hi => ?_⟩
  by_cases hlt : i < L.length
  · rw [List.getElem?_append_left hlt] at hi
    rw [List.getElem?_append_left (by rw [h.1]; exact hlt)]
    exact h.2 i l' hi
  · rw [List.getElem?_append_right (by omega)] at hi
    have : i - L.length = 0 := by
      have := (List.getElem?_eq_some_iff.mp hi).1
      simp at this
      omega
    rw [this] at hi
    cases hi
    refine ⟨a, ?_, ha⟩
    rw [List.getElem?_append_right (by rw [h.1]; omega), h.1, this]
    rfl
def IsLT (H : Hp) (p : Addr) (L : List (List Nat)) : Prop := ∃ acc, H p = some (.lst acc) ∧ AccT H acc L
theorem ch_small : ∀ s < 4, ∀ m < 4, (chF s m).length ≤ 3 ∧ ∀ l ∈ chF s m, l.length = m ∧ ∀ i ∈ l, i < s := by decide +kernel
theorem ch_small7 : ∀ s < 7, ∀ m < 7, (chF s m).length ≤ 20 ∧ ∀ l ∈ chF s m, l.length = m ∧ ∀ i ∈ l, i < s := by decide +kernel
theorem ext_len (s : Nat) : ∀ L : List (List Nat), (L.flatMap (ext s)).length ≤ L.length * s
  | [] => by simp
  | l :: L => by
    have := ext_len s L
    rw [List.flatMap_cons, List.length_append, List.length_cons, Nat.succ_mul]
    have : (ext s l).length ≤ s := by simp [ext]
    omega
def spChoices : Sp := fun vs H Q _ => ∃ (s m : Nat), vs = [.int (s : Int), .int (m : Int)] ∧ s < 7 ∧ m < 7 ∧ ∀ p H', Ex H H' → H p = none → IsLT H' p (chF s m) → Q (.ref p) H'
theorem ex_free {H H' : Hp} {a : Addr} (e : Ex H H') (n : H' a = none) : H a = none := by
  cases h : H a with
  | none => rfl
  | some o => rw [e _ _ h] at n; cases n
def neverB (M : List (List Int)) (s : Nat) : Bool := (List.range s).all fun m => (chF s (m + 1)).all fun l => decide (0 ≤ lap (m + 1) (subM M l))
def tstB (M : List (List Int)) (m : Nat) (l : List Nat) : Bool := decide (0 ≤ lap m (subM M l))
def bsF (M : List (List Int)) (s i : Nat) : List Bool := (List.range i).flatMap fun m => (chF s (m + 1)).map (tstB M (m + 1))
theorem bs_all (M : List (List Int)) (s : Nat) : (bsF M s s).all id = neverB M s := by
  unfold bsF neverB
  rw [List.all_flatMap]
  congr 1
  funext m
  rw [List.all_map]
  rfl
theorem bs_len (M : List (List Int)) {s i : Nat} (hs : s < 4) (hi : i ≤ 3) : (bsF M s i).length ≤ 3 * i := by
  induction i with
  | zero => simp [bsF]
  | succ i ih =>
    have := ih (by omega)
    have e : bsF M s (i + 1) = bsF M s i ++ (chF s (i + 1)).map (tstB M (i + 1)) := by
      unfold bsF
      rw [List.range_succ, List.flatMap_append]
      simp
    have c := (ch_small s hs (i + 1) (by omega)).1
    rw [e, List.length_append, List.length_map]
    omega
def spNever : Sp := fun vs H Q _ => ∃ (p : Addr) (M : List (List Int)) (s : Nat), vs = [.ref p] ∧ IsTab H p M ∧ SqM M s 200 ∧ s ≤ 3 ∧ ∀ H', Ex H H' → Q (.bl (neverB M s)) H'
def alwB (cs : List Int) (n : Nat) : Bool := neverB (genT (n / 2 + 1) (nearF (yesF cs) n)) (n / 2 + 1) && neverB (genT (farS n) (farF (yesF cs) n)) (farS n)
theorem genT_congr {s : Nat} {f g : Nat → Nat → Int} (h : ∀ i < s, ∀ j < s, f i j = g i j) : genT s f = genT s g := by
  unfold genT
  apply List.map_congr_left
  intro i hi
  apply List.map_congr_left
  intro j hj
  exact h i (List.mem_range.mp hi) j (List.mem_range.mp hj)
theorem yes_le {cs : List Int} {n j : Nat} (h : NumL cs (n + 1) (2 ^ 110)) (hn : n < 6) (hj : j ≤ n) : 0 ≤ yesF cs j ∧ yesF cs j ≤ 2 ^ 130 := by
  obtain ⟨w0, w1⟩ := way_le h hn hj
  have f1 := fac_le j (by omega)
  have f2 := fac_le (cs.length - 1 - j) (by have := h.1; omega)
  unfold yesF
  have h1 : wayS cs j * ((Builtin.Math.factorialNat j : Nat) : Int) ≤ (60 * 2 ^ 110) * 120 := Int.mul_le_mul w1 (by omega) (by omega) (by decide)
  have h0 : 0 ≤ wayS cs j * ((Builtin.Math.factorialNat j : Nat) : Int) := Int.mul_nonneg w0 (by omega)
  have h2 : wayS cs j * ((Builtin.Math.factorialNat j : Nat) : Int) * ((Builtin.Math.factorialNat (cs.length - 1 - j) : Nat) : Int) ≤ ((60 * 2 ^ 110) * 120) * 120 := Int.mul_le_mul h1 (by omega) (by omega) (by decide)
  exact ⟨Int.mul_nonneg h0 (by omega), by omega⟩
theorem near_sy {cs : List Int} {n : Nat} (h : NumL cs (n + 1) (2 ^ 110)) (hn : n < 6) (n1 : 1 ≤ n) : ∀ i < n / 2 + 1, ∀ j < n / 2 + 1, (nearF (yesF cs) n i j).natAbs < 2 ^ 200 := by
  intro i hi j hj
  have b : (2 : Nat) ^ 131 ≤ 2 ^ 200 := Nat.pow_le_pow_right (by decide) (by decide)
  unfold nearF
  split
  · have := yes_le (j := i + j) h hn (by omega)
    omega
  · have := yes_le (j := i + j + 1) h hn (by omega)
    omega
theorem far_sy {cs : List Int} {n : Nat} (h : NumL cs (n + 1) (2 ^ 110)) (hn : n < 6) (n1 : 1 ≤ n) : ∀ i < farS n, ∀ j < farS n, (farF (yesF cs) n i j).natAbs < 2 ^ 200 := by
  intro i hi j hj
  have b : (2 : Nat) ^ 131 ≤ 2 ^ 200 := Nat.pow_le_pow_right (by decide) (by decide)
  unfold farS at hi hj
  unfold farF
  split
  · rename_i hp
    rw [if_pos hp] at hi hj
    have := yes_le (j := i + j + 1) h hn (by omega)
    have := yes_le (j := i + j + 2) h hn (by omega)
    omega
  · rename_i hp
    rw [if_neg hp] at hi hj
    have := yes_le (j := i + j) h hn (by omega)
    have := yes_le (j := i + j + 1) h hn (by omega)
    omega
def spAlways (K : PySem.W.Frag) (C : Addr) : Sp := fun vs H Q _ => ∃ (x : V) (ps : List Int) (n : Nat), vs = [x] ∧ IsRow K C H x ps ∧ NumL ps (n + 1) (2 ^ 110) ∧ 1 ≤ n ∧ n < 6 ∧ ∀ H', Ex H H' → Q (.bl (alwB ps n)) H'
theorem mE_off {M : List (List Int)} {s b i k j : Nat} (h : SqM M (s + 1) b) (hi : i < s) (hk : k < s) (hj : j < s + 1) : mE (offM M j) i k = mE M (i + 1) (if k < j then k else k + 1) := by
  obtain ⟨r, hr, rl, _, rj⟩ := h.row (i := i + 1) (by omega)
  have e1 : (offM M j).getD i [] = r.take j ++ r.drop (j + 1) := by
    unfold offM
    rw [List.getD_eq_getElem?_getD, List.getElem?_map, List.getElem?_drop, show 1 + i = i + 1 by omega, hr]
    rfl
  have e2 : M.getD (i + 1) [] = r := by rw [List.getD_eq_getElem?_getD, hr]; rfl
  unfold mE
  rw [e1, e2, List.getD_eq_getElem?_getD, List.getD_eq_getElem?_getD]
  congr 1
  by_cases hkj : k < j
  · rw [if_pos hkj, List.getElem?_append_left (by rw [List.length_take]; omega), List.getElem?_take_of_lt hkj]
  · rw [if_neg hkj, List.getElem?_append_right (by rw [List.length_take]; omega), List.length_take, List.getElem?_drop]
    congr 1
    omega
theorem lap_one {M : List (List Int)} {b : Nat} (h : SqM M 1 b) : lap 1 M = mE M 0 0 := by
  simp [lap, sg]
theorem lap_two {M : List (List Int)} {b : Nat} (h : SqM M 2 b) : lap 2 M = mE M 0 0 * mE M 1 1 - mE M 0 1 * mE M 1 0 := by
  have e : lap 2 M = sg 0 * mE M 0 0 * lap 1 (offM M 0) + (sg 1 * mE M 0 1 * lap 1 (offM M 1) + 0) := rfl
  rw [e, lap_one (off_sq h (by omega)), lap_one (off_sq h (by omega)), mE_off h (by omega) (by omega) (by omega), mE_off h (by omega) (by omega) (by omega)]
  simp [sg]
  grind
theorem lap_three {M : List (List Int)} {b : Nat} (h : SqM M 3 b) : lap 3 M = mE M 0 0 * (mE M 1 1 * mE M 2 2 - mE M 1 2 * mE M 2 1) - mE M 0 1 * (mE M 1 0 * mE M 2 2 - mE M 1 2 * mE M 2 0) + mE M 0 2 * (mE M 1 0 * mE M 2 1 - mE M 1 1 * mE M 2 0) := by
  have e : lap 3 M = sg 0 * mE M 0 0 * lap 2 (offM M 0) + (sg 1 * mE M 0 1 * lap 2 (offM M 1) + (sg 2 * mE M 0 2 * lap 2 (offM M 2) + 0)) := rfl
  have o0 := off_sq (j := 0) h (by omega)
  have o1 := off_sq (j := 1) h (by omega)
  have o2 := off_sq (j := 2) h (by omega)
  rw [e, lap_two o0, lap_two o1, lap_two o2]
  simp only [mE_off h (show 0 < 2 by omega) (show 0 < 2 by omega) (show 0 < 3 by omega), mE_off h (show 0 < 2 by omega) (show 1 < 2 by omega) (show 0 < 3 by omega), mE_off h (show 1 < 2 by omega) (show 0 < 2 by omega) (show 0 < 3 by omega), mE_off h (show 1 < 2 by omega) (show 1 < 2 by omega) (show 0 < 3 by omega),
    mE_off h (show 0 < 2 by omega) (show 0 < 2 by omega) (show 1 < 3 by omega), mE_off h (show 0 < 2 by omega) (show 1 < 2 by omega) (show 1 < 3 by omega), mE_off h (show 1 < 2 by omega) (show 0 < 2 by omega) (show 1 < 3 by omega), mE_off h (show 1 < 2 by omega) (show 1 < 2 by omega) (show 1 < 3 by omega),
    mE_off h (show 0 < 2 by omega) (show 0 < 2 by omega) (show 2 < 3 by omega), mE_off h (show 0 < 2 by omega) (show 1 < 2 by omega) (show 2 < 3 by omega), mE_off h (show 1 < 2 by omega) (show 0 < 2 by omega) (show 2 < 3 by omega), mE_off h (show 1 < 2 by omega) (show 1 < 2 by omega) (show 2 < 3 by omega)]
  have s0 : sg 0 = 1 := rfl
  have s1 : sg 1 = -1 := rfl
  have s2 : sg 2 = 1 := rfl
  rw [s0, s1, s2]
  simp
  grind
theorem det_three {M : List (List Int)} (h : M.length = 3) : detM M = mE M 0 0 * (mE M 1 1 * mE M 2 2 - mE M 1 2 * mE M 2 1) - mE M 0 1 * (mE M 1 0 * mE M 2 2 - mE M 1 2 * mE M 2 0) + mE M 0 2 * (mE M 1 0 * mE M 2 1 - mE M 1 1 * mE M 2 0) := by
  unfold detM
  rw [if_neg (by omega), if_neg (by omega)]
  simp [quads, quadV]
  grind
theorem lap_det {M : List (List Int)} {s b : Nat} (h : SqM M s b) (h1 : 1 ≤ s) (h3 : s ≤ 3) : lap s M = detM M := by
  have hl := h.1
  have : s = 1 ∨ s = 2 ∨ s = 3 := by omega
  rcases this with rfl | rfl | rfl
  · rw [lap_one h]
    unfold detM
    rw [if_pos hl]
  · rw [lap_two h]
    unfold detM
    rw [if_neg (by omega), if_pos hl]
  · rw [lap_three h, det_three hl]
theorem lots_eq : ∀ s < 4, (lotsF s).map natsL = (List.range s).flatMap fun m => chF s (m + 1) := by decide +kernel
theorem never_above {M : List (List Int)} {s b : Nat} (h : SqM M s b) (h3 : s ≤ 3) : neverB M s = aboveB M s := by
  unfold neverB aboveB
  have e : ((lotsF s).all fun l => decide (0 ≤ detM (subM M (natsL l)))) = ((lotsF s).map natsL).all fun l => decide (0 ≤ detM (subM M l)) := by
    rw [List.all_map]
    rfl
  rw [e, lots_eq s (by omega), List.all_flatMap]
  rw [Bool.eq_iff_iff, List.all_eq_true, List.all_eq_true]
  have each : ∀ m ∈ List.range s, ((chF s (m + 1)).all fun l => decide (0 ≤ lap (m + 1) (subM M l))) = ((chF s (m + 1)).all fun l => decide (0 ≤ detM (subM M l))) := by
    intro m hm
    have hm := List.mem_range.mp hm
    have c := (ch_small s (by omega) (m + 1) (by omega)).2
    rw [Bool.eq_iff_iff, List.all_eq_true, List.all_eq_true]
    have one : ∀ l ∈ chF s (m + 1), lap (m + 1) (subM M l) = detM (subM M l) := fun l hl => by
      have sq := sub_sq h (c l hl).2
      rw [(c l hl).1] at sq
      exact lap_det sq (by omega) (by omega)
    exact ⟨fun q l hl => by rw [← one l hl]; exact q l hl, fun q l hl => by rw [one l hl]; exact q l hl⟩
  exact ⟨fun q m hm => by rw [← each m hm]; exact q m hm, fun q m hm => by rw [each m hm]; exact q m hm⟩
theorem mE_sub {M : List (List Int)} {l : List Nat} {i j a b : Nat} (hi : l[i]? = some a) (hj : l[j]? = some b) : mE (subM M l) i j = mE M a b := by
  have e1 : (subM M l).getD i [] = l.map fun j => mE M a j := by
    unfold subM
    rw [List.getD_eq_getElem?_getD, List.getElem?_map, hi]
    rfl
  show ((subM M l).getD i []).getD j 0 = _
  rw [e1, List.getD_eq_getElem?_getD, List.getElem?_map, hj]
  rfl
theorem det_of1 {M : List (List Int)} {a : Nat} : detM (subM M [a]) = mE M a a := by
  unfold detM
  rw [if_pos (by simp [subM]), mE_sub (i := 0) (j := 0) rfl rfl]
theorem det_of2 {M : List (List Int)} {a b : Nat} : detM (subM M [a, b]) = mE M a a * mE M b b - mE M a b * mE M b a := by
  unfold detM
  rw [if_neg (by simp [subM]), if_pos (by simp [subM]), mE_sub (i := 0) (j := 0) rfl rfl, mE_sub (i := 1) (j := 1) rfl rfl, mE_sub (i := 0) (j := 1) rfl rfl, mE_sub (i := 1) (j := 0) rfl rfl]
theorem det_of3 {M : List (List Int)} {a b c : Nat} : detM (subM M [a, b, c]) = mE M a a * (mE M b b * mE M c c - mE M b c * mE M c b) - mE M a b * (mE M b a * mE M c c - mE M b c * mE M c a) + mE M a c * (mE M b a * mE M c b - mE M b b * mE M c a) := by
  rw [det_three rfl, mE_sub (i := 0) (j := 0) rfl rfl, mE_sub (i := 1) (j := 1) rfl rfl, mE_sub (i := 0) (j := 1) rfl rfl, mE_sub (i := 1) (j := 0) rfl rfl, mE_sub (i := 0) (j := 2) rfl rfl, mE_sub (i := 2) (j := 0) rfl rfl, mE_sub (i := 1) (j := 2) rfl rfl, mE_sub (i := 2) (j := 1) rfl rfl, mE_sub (i := 2) (j := 2) rfl rfl]
theorem lots_cases {s : Nat} {l : List Int} (h : l ∈ lotsF s) : (∃ a, natsL l = [a] ∧ a < s) ∨ (∃ a b, natsL l = [a, b] ∧ a < s ∧ b < s) ∨ ∃ a b c, natsL l = [a, b, c] ∧ a < s ∧ b < s ∧ c < s := by
  have h := List.mem_filter.mp h
  have h1 := h.1
  have h2 := of_decide_eq_true h.2
  simp only [lots7, List.mem_cons, List.not_mem_nil, or_false] at h1
  rcases h1 with rfl | rfl | rfl | rfl | rfl | rfl | rfl
  · exact .inl ⟨0, rfl, by simp at h2; omega⟩
  · exact .inl ⟨1, rfl, by simp at h2; omega⟩
  · exact .inl ⟨2, rfl, by simp at h2; omega⟩
  · exact .inr (.inl ⟨0, 1, rfl, by simp at h2; omega, by simp at h2; omega⟩)
  · exact .inr (.inl ⟨0, 2, rfl, by simp at h2; omega, by simp at h2; omega⟩)
  · exact .inr (.inl ⟨1, 2, rfl, by simp at h2; omega, by simp at h2; omega⟩)
  · exact .inr (.inr ⟨0, 1, 2, rfl, by simp at h2; omega, by simp at h2; omega, by simp at h2; omega⟩)
theorem sign_eq {c d x y : Int} (hc : 0 < c) (hd : 0 < d) (h : c * x = d * y) : (0 ≤ x ↔ 0 ≤ y) := by
  constructor
  · intro hx
    have : 0 ≤ d * y := by rw [← h]; exact Int.mul_nonneg (by omega) hx
    exact Int.nonneg_of_mul_nonneg_right this hd
  · intro hy
    have : 0 ≤ c * x := by rw [h]; exact Int.mul_nonneg (by omega) hy
    exact Int.nonneg_of_mul_nonneg_right this hc
theorem above_prop {M N : List (List Int)} {s : Nat} {c d : Int} (hc : 0 < c) (hd : 0 < d) (h : ∀ i < s, ∀ j < s, c * mE M i j = d * mE N i j) : aboveB M s = aboveB N s := by
  unfold aboveB
  have each : ∀ l ∈ lotsF s, (0 ≤ detM (subM M (natsL l)) ↔ 0 ≤ detM (subM N (natsL l))) := by
    intro l hl
    have c2 : 0 < c * c := Int.mul_pos hc hc
    have d2 : 0 < d * d := Int.mul_pos hd hd
    have c3 : 0 < c * c * c := Int.mul_pos c2 hc
    have d3 : 0 < d * d * d := Int.mul_pos d2 hd
    rcases lots_cases hl with ⟨a, e, ha⟩ | ⟨a, b, e, ha, hb⟩ | ⟨a, b, z, e, ha, hb, hz⟩
    · rw [e, det_of1, det_of1]
      exact sign_eq hc hd (h a ha a ha)
    · rw [e, det_of2, det_of2]
      refine sign_eq c2 d2 ?_
      have h1 := h a ha a ha
      have h2 := h b hb b hb
      have h3 := h a ha b hb
      have h4 := h b hb a ha
      grind
    · rw [e, det_of3, det_of3]
      refine sign_eq c3 d3 ?_
      have h1 := h a ha a ha
      have h2 := h b hb b hb
      have h3 := h a ha b hb
      have h4 := h b hb a ha
      have h5 := h a ha z hz
      have h6 := h b hb z hz
      have h7 := h z hz a ha
      have h8 := h z hz b hb
      have h9 := h z hz z hz
      have three : ∀ x1 y1 x2 y2 x3 y3 : Int, c * x1 = d * y1 → c * x2 = d * y2 → c * x3 = d * y3 → c * c * c * (x1 * (x2 * x3)) = d * d * d * (y1 * (y2 * y3)) := by
        intro x1 y1 x2 y2 x3 y3 e1 e2 e3
        have : c * c * c * (x1 * (x2 * x3)) = (c * x1) * ((c * x2) * (c * x3)) := by grind
        rw [this, e1, e2, e3]
        grind
      have t1 := three _ _ _ _ _ _ h1 h2 h9
      have t2 := three _ _ _ _ _ _ h1 h6 h8
      have t3 := three _ _ _ _ _ _ h3 h4 h9
      have t4 := three _ _ _ _ _ _ h3 h6 h7
      have t5 := three _ _ _ _ _ _ h5 h4 h8
      have t6 := three _ _ _ _ _ _ h5 h2 h7
      simp only [Int.mul_sub, Int.mul_add]
      omega
  rw [Bool.eq_iff_iff, List.all_eq_true, List.all_eq_true]
  exact ⟨fun q l hl => decide_eq_true ((each l hl).mp (of_decide_eq_true (q l hl))), fun q l hl => decide_eq_true ((each l hl).mpr (of_decide_eq_true (q l hl)))⟩
theorem above_two {M : List (List Int)} {s : Nat} {α β : Int} {X Y : Nat → Int} (ha : 0 ≤ α) (hb : 0 ≤ β) (h : ∀ i < s, ∀ j < s, mE M i j = α * (X i * X j) + β * (Y i * Y j)) : aboveB M s = true := by
  unfold aboveB
  rw [List.all_eq_true]
  intro l hl
  refine decide_eq_true ?_
  have sqn : ∀ z : Int, 0 ≤ z * z := fun z => by
    rcases Int.le_total 0 z with hz | hz
    · exact Int.mul_nonneg hz hz
    · exact Int.mul_nonneg_of_nonpos_of_nonpos hz hz
  rcases lots_cases hl with ⟨a, e, la⟩ | ⟨a, b, e, la, lb⟩ | ⟨a, b, z, e, la, lb, lz⟩
  · rw [e, det_of1, h a la a la]
    exact Int.add_nonneg (Int.mul_nonneg ha (sqn _)) (Int.mul_nonneg hb (sqn _))
  · rw [e, det_of2, h a la a la, h a la b lb, h b lb a la, h b lb b lb]
    have : (α * (X a * X a) + β * (Y a * Y a)) * (α * (X b * X b) + β * (Y b * Y b)) - (α * (X a * X b) + β * (Y a * Y b)) * (α * (X b * X a) + β * (Y b * Y a)) = (α * β) * ((X a * Y b - X b * Y a) * (X a * Y b - X b * Y a)) := by grind
    rw [this]
    exact Int.mul_nonneg (Int.mul_nonneg ha hb) (sqn _)
  · rw [e, det_of3, h a la a la, h a la b lb, h a la z lz, h b lb a la, h b lb b lb, h b lb z lz, h z lz a la, h z lz b lb, h z lz z lz]
    refine Int.le_of_eq ?_
    grind
theorem wayS_scale (k : Int) (cs : List Int) (j : Nat) : wayS (cs.map (k * ·)) j = k * wayS cs j := by
  unfold wayS
  rw [List.length_map, ← sum_scale, List.map_map]
  congr 1
  apply List.map_congr_left
  intro i _
  have : (cs.map (k * ·)).getD i 0 = k * cs.getD i 0 := by
    rw [List.getD_eq_getElem?_getD, List.getD_eq_getElem?_getD, List.getElem?_map]
    cases cs[i]? <;> simp
  show (cs.map (k * ·)).getD i 0 * _ = k * (cs.getD i 0 * _)
  rw [this, Int.mul_assoc]
theorem fac_chs : ∀ n < 6, ∀ j < n + 1, 0 < chs n j ∧ chs n j * (60 / chs n j) = 60 ∧ Builtin.Math.factorialNat n * (60 / chs n j) = 60 * (Builtin.Math.factorialNat j * Builtin.Math.factorialNat (n - j)) := by decide +kernel
theorem yes_mom {cs : List Int} {n j : Nat} (hl : cs.length = n + 1) (hn : n < 6) (hj : j ≤ n) : ((Builtin.Math.factorialNat n : Nat) : Int) * momL cs j = 60 * ((gcdL cs : Nat) : Int) * yesF (plainL cs) j := by
  obtain ⟨c0, c1, c2⟩ := fac_chs n hn j (by omega)
  obtain ⟨C, hC⟩ : ∃ C, C = chs n j := ⟨_, rfl⟩
  obtain ⟨d, hd⟩ : ∃ d, d = 60 / chs n j := ⟨_, rfl⟩
  rw [← hd] at c1 c2
  rw [← hC] at c0 c1
  obtain ⟨W, hW⟩ : ∃ W, W = wayS (plainL cs) j := ⟨_, rfl⟩
  obtain ⟨g, hg⟩ : ∃ g : Int, g = ((gcdL cs : Nat) : Int) := ⟨_, rfl⟩
  have e1 : wayS cs j = g * W := by
    rw [hW, hg, ← wayS_scale, plainL_mul]
  have e2 : momL cs j = g * W * (d : Int) := by
    unfold momL
    rw [hl, show n + 1 - 1 = n by omega, ← hC, e1, show (60 : Int) = (C : Int) * (d : Int) by rw [← Int.natCast_mul, c1]; rfl]
    rw [show g * W * ((C : Int) * (d : Int)) = (C : Int) * (g * W * (d : Int)) by grind]
    exact Int.mul_ediv_cancel_left _ (by omega)
  rw [e2]
  unfold yesF
  rw [plainL_len, hl, show n + 1 - 1 = n by omega, ← hW, ← hg]
  have c3 : ((Builtin.Math.factorialNat n : Nat) : Int) * (d : Int) = 60 * (((Builtin.Math.factorialNat j : Nat) : Int) * ((Builtin.Math.factorialNat (n - j) : Nat) : Int)) := by
    rw [← Int.natCast_mul, ← Int.natCast_mul, c2]
    simp
  grind
theorem mE_genT {s i j : Nat} {f : Nat → Nat → Int} (hi : i < s) (hj : j < s) : mE (genT s f) i j = f i j := by
  have e1 : (genT s f).getD i [] = (List.range s).map (f i) := by
    unfold genT
    rw [List.getD_eq_getElem?_getD, List.getElem?_map, List.getElem?_range hi]
    rfl
  unfold mE
  rw [e1, List.getD_eq_getElem?_getD, List.getElem?_map, List.getElem?_range hj]
  rfl
theorem num_plain {cs : List Int} {m : Nat} {b : Int} (h : NumL cs m b) (g : 0 < gcdL cs) : NumL (plainL cs) m b := by
  refine ⟨by rw [plainL_len]; exact h.1, fun c hc => ?_⟩
  obtain ⟨c0, h0, rfl⟩ := List.mem_map.mp hc
  obtain ⟨p0, p1⟩ := h.2 c0 h0
  refine ⟨Int.ediv_nonneg p0 (by omega), ?_⟩
  have := Int.ediv_le_self ((gcdL cs : Nat) : Int) p0
  omega
theorem alw_due {cs : List Int} {n : Nat} (h : NumL cs (n + 1) (2 ^ 110)) (hn : n < 6) (n1 : 1 ≤ n) (g : 0 < gcdL cs) : alwB (plainL cs) n = dueB (momL cs) n := by
  have hp := num_plain h g
  have s1 : n / 2 + 1 ≤ 3 := by omega
  have s2 : farS n ≤ 3 := by unfold farS; split <;> omega
  have ym := fun (j : Nat) (hj : j ≤ n) => yes_mom (j := j) h.1 hn hj
  have fp := (fac_le n hn).1
  have gp : 0 < 60 * ((gcdL cs : Nat) : Int) := by omega
  unfold alwB dueB
  rw [never_above (genT_sq (near_sy hp hn n1)) s1, never_above (genT_sq (far_sy hp hn n1)) s2]
  congr 1
  · refine above_prop gp (show 0 < ((Builtin.Math.factorialNat n : Nat) : Int) by omega) fun i hi j hj => ?_
    rw [mE_genT hi hj, mE_genT hi hj]
    unfold nearF
    split
    · rw [ym _ (by omega)]
    · rw [ym _ (by omega)]
  · refine above_prop gp (show 0 < ((Builtin.Math.factorialNat n : Nat) : Int) by omega) fun i hi j hj => ?_
    rw [mE_genT hi hj, mE_genT hi hj]
    unfold farS at hi hj
    unfold farF
    split
    · rename_i hpp
      rw [if_pos hpp] at hi hj
      rw [Int.mul_sub, Int.mul_sub, ym _ (by omega), ym _ (by omega)]
    · rename_i hpp
      rw [if_neg hpp] at hi hj
      rw [Int.mul_sub, Int.mul_sub, ym _ (by omega), ym _ (by omega)]
theorem way_coin : ∀ t < 5, ∀ r < 5, ∀ n < 6, ∀ j < n + 1, wayS (coinCs t r n) j = ((chs n j * (t ^ j * (t + r) ^ (n - j)) : Nat) : Int) := by decide +kernel
theorem sum_lin (A B : Int) (f g : Nat → Int) : ∀ l : List Nat, (l.map fun k => A * f k + B * g k).sum = A * (l.map f).sum + B * (l.map g).sum
  | [] => by simp
  | x :: l => by
    have := sum_lin A B f g l
    simp only [List.map_cons, List.sum_cons]
    rw [this]
    grind
def pw (t v n j : Nat) : Int := (t : Int) ^ j * (v : Int) ^ (n - j)
theorem mom_two {A B : Int} {t r t' r' n j : Nat} (ht : t < 5) (hr : r < 5) (ht' : t' < 5) (hr' : r' < 5) (hn : n < 6) (hj : j ≤ n) : momL (twoC A B t r t' r' n) j = 60 * A * pw t (t + r) n j + 60 * B * pw t' (t' + r') n j := by
  have hl : (twoC A B t r t' r' n).length = n + 1 := by simp [twoC]
  have g1 : ∀ (t r k : Nat), k < n + 1 → (coinCs t r n).getD k 0 = coinC t r n k := fun t r k hk => by
    unfold coinCs
    rw [List.getD_eq_getElem?_getD, List.getElem?_map, List.getElem?_range hk]
    rfl
  have e1 : wayS (twoC A B t r t' r' n) j = A * wayS (coinCs t r n) j + B * wayS (coinCs t' r' n) j := by
    unfold wayS
    rw [hl, show (coinCs t r n).length = n + 1 by simp [coinCs], show (coinCs t' r' n).length = n + 1 by simp [coinCs], ← sum_lin]
    congr 1
    apply List.map_congr_left
    intro k hk
    have hk := List.mem_range.mp hk
    rw [g1 t r k hk, g1 t' r' k hk]
    have : (twoC A B t r t' r' n).getD k 0 = A * coinC t r n k + B * coinC t' r' n k := by
      unfold twoC
      rw [List.getD_eq_getElem?_getD, List.getElem?_map, List.getElem?_range hk]
      rfl
    rw [this]
    grind
  have c0 := (fac_chs n hn j (by omega)).1
  unfold momL
  rw [hl, show n + 1 - 1 = n by omega, e1, way_coin t ht r hr n hn j (by omega), way_coin t' ht' r' hr' n hn j (by omega)]
  have p1 : ((chs n j * (t ^ j * (t + r) ^ (n - j)) : Nat) : Int) = (chs n j : Int) * pw t (t + r) n j := by
    unfold pw
    simp
  have p2 : ((chs n j * (t' ^ j * (t' + r') ^ (n - j)) : Nat) : Int) = (chs n j : Int) * pw t' (t' + r') n j := by
    unfold pw
    simp
  rw [p1, p2, show (A * ((chs n j : Int) * pw t (t + r) n j) + B * ((chs n j : Int) * pw t' (t' + r') n j)) * 60 = (chs n j : Int) * (60 * A * pw t (t + r) n j + 60 * B * pw t' (t' + r') n j) by grind]
  exact Int.mul_ediv_cancel_left _ (by omega)
def xF (t v h i : Nat) : Int := (t : Int) ^ i * (v : Int) ^ (h - i)
theorem pw_near0 {t v n h i j : Nat} (e : n = 2 * h) (hi : i ≤ h) (hj : j ≤ h) : pw t v n (i + j) = xF t v h i * xF t v h j := by
  unfold pw xF
  rw [show n - (i + j) = (h - i) + (h - j) by omega, Int.pow_add, Int.pow_add]
  grind
theorem pw_near1 {t v n h i j : Nat} (e : n = 2 * h + 1) (hi : i ≤ h) (hj : j ≤ h) : pw t v n (i + j + 1) = t * (xF t v h i * xF t v h j) := by
  unfold pw xF
  rw [show n - (i + j + 1) = (h - i) + (h - j) by omega, Int.pow_add, Int.pow_add, Int.pow_add]
  grind
theorem pw_far0 {t r n h i j : Nat} (e : n = 2 * h) (hi : i < h) (hj : j < h) : pw t (t + r) n (i + j + 1) - pw t (t + r) n (i + j + 2) = t * r * (xF t (t + r) (h - 1) i * xF t (t + r) (h - 1) j) := by
  unfold pw xF
  rw [show n - (i + j + 1) = (h - 1 - i) + (h - 1 - j) + 1 by omega, show n - (i + j + 2) = (h - 1 - i) + (h - 1 - j) by omega]
  simp only [Int.pow_add, Int.natCast_add]
  grind
theorem pw_far1 {t r n h i j : Nat} (e : n = 2 * h + 1) (hi : i ≤ h) (hj : j ≤ h) : pw t (t + r) n (i + j) - pw t (t + r) n (i + j + 1) = r * (xF t (t + r) h i * xF t (t + r) h j) := by
  unfold pw xF
  rw [show n - (i + j) = (h - i) + (h - j) + 1 by omega, show n - (i + j + 1) = (h - i) + (h - j) by omega]
  simp only [Int.pow_add, Int.natCast_add]
  grind
theorem due_two {A B : Int} {t r t' r' n : Nat} (hA : 1 ≤ A) (hB : 1 ≤ B) (ht : t < 5) (hr : r < 5) (ht' : t' < 5) (hr' : r' < 5) (hn : n < 6) (n1 : 1 ≤ n) : dueB (momL (twoC A B t r t' r' n)) n = true := by
  have mt := fun (j : Nat) (hj : j ≤ n) => mom_two (A := A) (B := B) (j := j) ht hr ht' hr' hn hj
  have a0 : ∀ z : Nat, 0 ≤ 60 * A * (z : Int) := fun z => Int.mul_nonneg (by omega) (by omega)
  have b0 : ∀ z : Nat, 0 ≤ 60 * B * (z : Int) := fun z => Int.mul_nonneg (by omega) (by omega)
  unfold dueB
  rw [Bool.and_eq_true]
  by_cases hp : n % 2 = 0
  · have e : n = 2 * (n / 2) := by omega
    constructor
    · refine above_two (α := 60 * A * ((1 : Nat) : Int)) (β := 60 * B * ((1 : Nat) : Int)) (X := xF t (t + r) (n / 2)) (Y := xF t' (t' + r') (n / 2)) (a0 _) (b0 _) fun i hi j hj => ?_
      rw [mE_genT hi hj]
      unfold nearF
      rw [if_pos hp, mt _ (by omega), pw_near0 e (by omega) (by omega), pw_near0 e (by omega) (by omega)]
      simp
    · have es : farS n = n / 2 := by unfold farS; rw [if_pos hp]
      rw [es]
      refine above_two (α := 60 * A * ((t * r : Nat) : Int)) (β := 60 * B * ((t' * r' : Nat) : Int)) (X := xF t (t + r) (n / 2 - 1)) (Y := xF t' (t' + r') (n / 2 - 1)) (a0 _) (b0 _) fun i hi j hj => ?_
      rw [mE_genT hi hj]
      unfold farF
      rw [if_pos hp, mt _ (by omega), mt _ (by omega)]
      have q1 := pw_far0 (t := t) (r := r) e hi hj
      have q2 := pw_far0 (t := t') (r := r') e hi hj
      rw [Int.natCast_mul, Int.natCast_mul]
      grind
  · have e : n = 2 * (n / 2) + 1 := by omega
    constructor
    · refine above_two (α := 60 * A * (t : Int)) (β := 60 * B * (t' : Int)) (X := xF t (t + r) (n / 2)) (Y := xF t' (t' + r') (n / 2)) (a0 _) (b0 _) fun i hi j hj => ?_
      rw [mE_genT hi hj]
      unfold nearF
      rw [if_neg hp, mt _ (by omega), pw_near1 e (by omega) (by omega), pw_near1 e (by omega) (by omega)]
      grind
    · have es : farS n = n / 2 + 1 := by unfold farS; rw [if_neg hp]
      rw [es]
      refine above_two (α := 60 * A * (r : Int)) (β := 60 * B * (r' : Int)) (X := xF t (t + r) (n / 2)) (Y := xF t' (t' + r') (n / 2)) (a0 _) (b0 _) fun i hi j hj => ?_
      rw [mE_genT hi hj]
      unfold farF
      rw [if_neg hp, mt _ (by omega), mt _ (by omega)]
      have q1 := pw_far1 (t := t) (r := r) e (show i ≤ n / 2 by omega) (show j ≤ n / 2 by omega)
      have q2 := pw_far1 (t := t') (r := r') e (show i ≤ n / 2 by omega) (show j ≤ n / 2 by omega)
      grind
def SzL (ss : List Int) (b : Nat) : Prop := ∀ x ∈ ss, x.natAbs < 2 ^ b
def stepL (ss : List Int) (a : Int) : List Int := (List.range (ss.length - 1)).map fun j => ss.getD (j + 1) 0 + ((j : Int) - a) * ss.getD j 0
def timesL (ss ps : List Int) : List Int := ps.foldl stepL ss
theorem SzL.get {ss : List Int} {b j : Nat} (h : SzL ss b) (hj : j < ss.length) : ss[j]? = some (ss.getD j 0) ∧ (ss.getD j 0).natAbs < 2 ^ b := by
  rw [List.getD_eq_getElem?_getD, List.getElem?_eq_getElem hj]
  exact ⟨rfl, h _ (List.getElem_mem hj)⟩
theorem SzL.step {ss : List Int} {a : Int} {b c : Nat} (h : SzL ss b) (ha : a.natAbs < 2 ^ c) (hl : ss.length ≤ 6) : SzL (stepL ss a) (b + c + 4) := by
  intro x hx
  obtain ⟨j, hj, rfl⟩ := List.mem_map.mp hx
  have hj := List.mem_range.mp hj
  have h1 := (h.get (j := j) (by omega)).2
  have h2 := (h.get (j := j + 1) (by omega)).2
  have h3 : ((j : Int) - a).natAbs ≤ 6 * 2 ^ c := by
    have : 1 ≤ 2 ^ c := Nat.one_le_two_pow
    omega
  have h4 : (((j : Int) - a) * ss.getD j 0).natAbs ≤ 6 * 2 ^ c * 2 ^ b := by
    rw [Int.natAbs_mul]
    exact Nat.mul_le_mul h3 (Nat.le_of_lt h1)
  have e : 2 ^ (b + c + 4) = 16 * (2 ^ c * 2 ^ b) := by
    rw [Nat.pow_add, Nat.pow_add]
    have : 2 ^ b * 2 ^ c = 2 ^ c * 2 ^ b := Nat.mul_comm _ _
    omega
  have h5 : 2 ^ b ≤ 2 ^ c * 2 ^ b := Nat.le_mul_of_pos_left _ (Nat.two_pow_pos c)
  have h6 := Int.natAbs_add_le (ss.getD (j + 1) 0) (((j : Int) - a) * ss.getD j 0)
  rw [Nat.mul_assoc] at h4
  omega
def spTimes (K : PySem.W.Frag) : Sp := fun vs H Q _ => ∃ (s p : Addr) (ss ps : List Int) (b c : Nat), vs = [.ref s, .ref p] ∧ H s = some (.lst (ss.map V.int)) ∧ H p = some (.lst (ps.map V.int)) ∧ SzL ss b ∧ SzL ps c ∧ ss.length ≤ 6 ∧ ps.length ≤ 6 ∧ b ≤ 10000 ∧ c ≤ 2000 ∧ ∀ q H', Ex H H' → H' q = some (.lst ((timesL ss ps).map V.int)) → Q (.ref q) H'
theorem scTimes : FnScope ["sums", "points", "at", "j"] ["sums", "points"] (defScope (top 28)) := ⟨rfl, rfl, rfl, by decide +kernel, rfl, by decide +kernel, by decide +kernel⟩
theorem has_times (B : Bi mg) (D : Df K mg "times" (top 28) ["sums", "points"]) : Has P w K mg base "times" 1 ["sums", "points"] (spTimes K) := by
  have sc := scTimes
  refine .of D fun f fd F => F.ok sc (fun vs H Q E h => ?_) (fun cdv A outer s H vs Q E hr h => ?_)
  · obtain ⟨s, p, ss, ps, b, c, rfl, _⟩ := h
    rfl
  · obtain ⟨s0, p, ss, ps, b, c, rfl, hs, hp, bs, bp, ls, lp, b1, c1, k⟩ := h
    refine ⟨_, (pss_cons (ps_for PassesOwn.never rfl (pi_list (pv 1)) (pg_name (i := 2) sc.nd rfl (by first | exact Or.inl rfl | exact Or.inr rfl))
      (pss_one (ps_set (i := 0) sc.nd rfl (by first | exact Or.inl rfl | exact Or.inr rfl) (pe_lc (own := [("j", 3)]) (g := gName 3) (tt := tYes) rfl sc.nd (pi_range1 (by rfl) B.range (pa_cons (pe_op op_sub (pe_callB (kLen (K := K)) (by rfl) B.len (by decide +kernel) (pa_cons (pv 0) pa_nil)) pe_int) pa_nil)) (blkOk_by (N := (["sums", "points", "at", "j"] : List Str)) (sc := defScope (top 28)) (by decide +kernel)) (fun _ _ _ _ _ => (pg_name (i := 3) sc.nd rfl (by first | exact Or.inl rfl | exact Or.inr rfl))) (fun _ _ _ _ _ => pts_nil) (fun _ _ _ _ _ => (PE.mon (pe_op op_add (pe_ix (ixL (K := K)) (pv 0) (pe_op op_add (pv 3) pe_int) (fun _ _ => rfl)) (pe_op op_mulS (pe_op op_sub (pv 3) (pv 2)) (pe_ix (ixL (K := K)) (pv 0) (pv 3) (fun _ _ => rfl))))))))))
      (pss_one (ps_ret (pv 0)))), ?_⟩
    walk_at "rd"
    refine ⟨⟨_, .of hp⟩, ?_⟩
    obtain ⟨Pv, hP⟩ : ∃ P : Nat → L2.St → Hp → Prop, P = fun (i : Nat) σ' G => Ex H G ∧ ∃ (q : Addr) (z2 z3 : Option V), σ' = [some (.ref q), some (.ref p), z2, z3] ∧ G q = some (.lst ((timesL ss (ps.take i)).map V.int)) ∧ SzL (timesL ss (ps.take i)) (b + i * (c + 4)) ∧ (timesL ss (ps.take i)).length ≤ 6 := ⟨_, rfl⟩
    refine loopL (xs := ps.map V.int) Pv (by rw [hP]; exact ⟨Ex.refl _, s0, _, _, rfl, hs, by simpa [timesL] using bs, by simpa [timesL] using ls⟩) (fun i σ' G _ h => by rw [hP] at h; exact .of (h.1 _ _ hp)) ?_ ?_
    · intro i x σ' G hx h
      rw [hP] at h
      obtain ⟨e, q, z2, z3, rfl, hq, bq, lq⟩ := h
      rw [List.getElem?_map] at hx
      cases ha : ps[i]? with
      | none => rw [ha] at hx; cases hx
      | some a =>
        rw [ha] at hx
        cases hx
        have hi : i < ps.length := (List.getElem?_eq_some_iff.mp ha).1
        have ba := bp a (List.mem_of_getElem? ha)
        have etk : timesL ss (ps.take (i + 1)) = stepL (timesL ss (ps.take i)) a := by
          unfold timesL
          rw [List.take_add_one, ha, List.foldl_append]
          rfl
        obtain ⟨cur, hcur⟩ : ∃ cur, cur = timesL ss (ps.take i) := ⟨_, rfl⟩
        rw [← hcur] at hq bq lq etk
        walk_at "rd"
        refine ⟨_, .inl (.of hq), ?_⟩
        rw [List.length_map]
        refine ⟨by omega, by omega, fun Dd hD => lcR (fun j y _ => y = .int (cur.getD (j + 1) 0 + ((j : Int) - a) * cur.getD j 0)) (fun _ _ _ _ _ h => h) hD (by omega) (fun _ => rfl) ?_ ?_⟩
        · intro j G2 hj e2
          obtain ⟨g1, g2⟩ := bq.get (j := j) (by omega)
          obtain ⟨g3, g4⟩ := bq.get (j := j + 1) (by omega)
          obtain ⟨R0, hR⟩ : ∃ R : VK, R = fun y G' => G' = G2 ∧ y = .int (cur.getD (j + 1) 0 + ((j : Int) - a) * cur.getD j 0) := ⟨_, rfl⟩
          refine ⟨R0, ?_, fun y G' h => by rw [hR] at h; obtain ⟨rfl, h⟩ := h; exact ⟨Ex.refl _, h⟩⟩
          walk_at "rd"
          rw [show (j : Int) + 1 = ((j + 1 : Nat) : Int) by omega]
          refine q_ixL (.of (e2 _ _ hq)) (at_num g3) ?_
          walk_at "rd"
          refine q_ixL (.of (e2 _ _ hq)) (at_num g1) ?_
          walk_at "rd"
          have i5 : i * (c + 4) ≤ 5 * 2004 := Nat.mul_le_mul (by omega) (by omega)
          refine ⟨cmul (c + 3) (b + i * (c + 4)) (by
            have : 1 ≤ 2 ^ c := Nat.one_le_two_pow
            rw [Nat.pow_add]
            omega) g2 (by omega), ?_⟩
          rw [hR]
          exact ⟨rfl, rfl⟩
        · intro G2 ys e2 hy hl2 hr2
          rw [ints_of hl2 hr2] at hy
          rw [hP]
          have hst := bq.step ba lq
          refine ⟨e.trans e2, Dd, _, _, rfl, ?_, ?_, ?_⟩
          · rw [hy, etk]
            unfold stepL
            rw [show ((cur.length : Int) - 1).toNat = cur.length - 1 by omega]
          · rw [etk]
            intro x hx
            refine Nat.lt_of_lt_of_le (hst x hx) (Nat.pow_le_pow_right (by decide) ?_)
            rw [Nat.succ_mul]
            omega
          · rw [etk]
            simp [stepL]
            omega
    · intro σ' G h
      rw [hP] at h
      obtain ⟨e, q, z2, z3, rfl, hq, _⟩ := h
      rw [List.length_map, List.take_length] at hq
      walk_at "rd"
      exact k q G e hq
def spPlace : Sp := fun vs H Q _ => ∃ (p : Addr) (a : Int), vs = [.int a, .ref p] ∧ H p = some (.lst []) ∧ Q (.int a) H
theorem scPlace : FnScope ["at", "taken", "one"] ["at", "taken"] (defScope (top 35)) := ⟨rfl, rfl, rfl, by decide +kernel, rfl, by decide +kernel, by decide +kernel⟩
theorem has_place (B : Bi mg) (D : Df K mg "_place" (top 35) ["at", "taken"]) : Has P w K mg base "_place" 1 ["at", "taken"] spPlace := by
  have sc := scPlace
  refine .of D fun f fd F => F.ok sc (fun vs H Q E h => ?_) (fun cdv A outer s H vs Q E hr h => ?_)
  · obtain ⟨p, a, rfl, _⟩ := h
    rfl
  · obtain ⟨p, a, rfl, hp, k⟩ := h
    refine ⟨_, (pss_cons (ps_for PassesOwn.never rfl (pi_list (pv 1)) (pg_name (i := 2) sc.nd rfl (by first | exact Or.inl rfl | exact Or.inr rfl))
      (pss_one (ps_if (pt_cmpR op_ge (pv 0) (pv 2) (nomark _)) (pss_one (ps_aug (i := 0) sc.nd rfl (by first | exact Or.inl rfl | exact Or.inr rfl) pe_int ip_add)) pss_nil)))
      (pss_one (ps_ret (pv 0)))), ?_⟩
    walk_at "rd"
    refine ⟨⟨_, .of hp⟩, ?_⟩
    obtain ⟨Pv, hP⟩ : ∃ P : Nat → L2.St → Hp → Prop, P = fun (i : Nat) σ' G => G = H ∧ σ' = [some (.int a), some (.ref p), none] := ⟨_, rfl⟩
    refine loopL (xs := []) Pv (by rw [hP]; exact ⟨rfl, rfl⟩) (fun i σ' G _ h => by rw [hP] at h; rw [h.1]; exact .of hp) (fun i x σ' G hx => by simp at hx) ?_
    intro σ' G h
    rw [hP] at h
    obtain ⟨rfl, rfl⟩ := h
    walk_at "rd"
    exact k
theorem lcEmpty {J : Addr} {g : TG} {tt : TT} {te : TE} {vs : List Nat} {σ : L2.St} {H1 : Hp} {Dd : Addr} {Q : VK} (hx : H1 J = some (.lst [])) (hD : H1 Dd = none) (q : ∀ G, Ex H1 G → G Dd = some (.lst []) → Q (.ref Dd) G) : LcW (Itl K J) g tt te vs σ H1 Dd Q :=
  lc_it (Qd := fun H => Q (.ref Dd) H) (walk_list (K := K) (a := J) (xs := [])) (fun _ G => G = upd H1 Dd (.lst [])) rfl (fun i G _ e => by
    subst e
    refine .of ?_
    rw [upd_ne (ne_of_none hx hD)]
    exact hx) (fun i x H H' hi => by simp at hi) (fun G e => by
    subst e
    exact q _ (Ex.new hD) upd_same)
def spSide : Sp := fun vs H Q _ => ∃ (r p o : Addr) (s0 s1 a b : Int), vs = [.ref r, .ref p, .ref o] ∧ H r = some (.lst [.int s0, .int s1]) ∧ H p = some (.lst [.int a, .int b]) ∧ H o = some (.lst []) ∧ s0.natAbs < 2 ^ 5000 ∧ a.natAbs < 2 ^ 5000 ∧ b.natAbs < 2 ^ 5000 ∧ 0 ≤ b * s0 - s1 ∧ 0 ≤ s1 - a * s0 ∧ ∀ H', Ex H H' → Q (.int 0) H'
theorem scSide : FnScope ["rest", "pair", "others", "at", "lower", "upper"] ["rest", "pair", "others"] (defScope (top 36)) := ⟨rfl, rfl, rfl, by decide +kernel, rfl, by decide +kernel, by decide +kernel⟩
theorem has_side (B : Bi mg) (D : Df K mg "_side" (top 36) ["rest", "pair", "others"]) : Has P w K mg base "_side" 1 ["rest", "pair", "others"] spSide := by
  have sc := scSide
  refine .of D fun f fd F => F.ok sc (fun vs H Q E h => ?_) (fun cdv A outer s H vs Q E hr h => ?_)
  · obtain ⟨r, p, o, s0, s1, a, b, rfl, _⟩ := h
    rfl
  · obtain ⟨r, p, o, s0, s1, a, b, rfl, hrr, hp, ho, z0, za, zb, hlo, hup, k⟩ := h
    refine ⟨_, (pss_cons (ps_if (pt_cmpR op_eq (pe_op op_mod (pe_callB (kLen (K := K)) (by rfl) B.len (by decide +kernel) (pa_cons (pe_lc (own := [("at", 3)]) (g := gName 3)  rfl sc.nd (pi_list (pv 2)) (blkOk_by (N := (["rest", "pair", "others", "at", "lower", "upper"] : List Str)) (sc := defScope (top 36)) (by decide +kernel)) (fun _ _ _ _ _ => (pg_name (i := 3) sc.nd rfl (by first | exact Or.inl rfl | exact Or.inr rfl))) (fun _ _ _ _ _ => pts_one (pt_cmpR op_lt (pv 3) (pe_ix (ixL (K := K)) (pv 1) pe_int (fun _ _ => rfl)) (nomark _))) (fun _ _ _ _ _ => (PE.mon (pv 3)))) pa_nil)) pe_int) pe_int (nomark _)) (pss_one (ps_ret (pe_un un_neg pe_int))) pss_nil)
      (pss_cons (ps_set (i := 4) sc.nd rfl (by first | exact Or.inl rfl | exact Or.inr rfl) (pe_op op_sub (pe_op op_mulS (pe_ix (ixL (K := K)) (pv 1) pe_int (fun _ _ => rfl)) (pe_ix (ixL (K := K)) (pv 0) pe_int (fun _ _ => rfl))) (pe_ix (ixL (K := K)) (pv 0) pe_int (fun _ _ => rfl))))
      (pss_cons (ps_set (i := 5) sc.nd rfl (by first | exact Or.inl rfl | exact Or.inr rfl) (pe_op op_sub (pe_ix (ixL (K := K)) (pv 0) pe_int (fun _ _ => rfl)) (pe_op op_mulS (pe_ix (ixL (K := K)) (pv 1) pe_int (fun _ _ => rfl)) (pe_ix (ixL (K := K)) (pv 0) pe_int (fun _ _ => rfl)))))
      (pss_cons (ps_if (PW.pt (pw_and (pt_cmpR op_ge (pv 4) pe_int (nomark _)) (pw_and1 (pt_cmpR op_ge (pv 5) pe_int (nomark _))))) (pss_one (ps_ret pe_int)) pss_nil)
      (pss_cons (ps_if (PW.pt (pw_and (pt_cmpR op_lt (pv 4) pe_int (nomark _)) (pw_and1 (pt_val (pe_callB (kAll (K := K) rfl) (by rfl) B.all (by decide +kernel) (pa_cons (pe_lc (own := [("at", 3)]) (g := gName 3) (tt := tYes) rfl sc.nd (pi_list (pv 2)) (blkOk_by (N := (["rest", "pair", "others", "at", "lower", "upper"] : List Str)) (sc := defScope (top 36)) (by decide +kernel)) (fun _ _ _ _ _ => (pg_name (i := 3) sc.nd rfl (by first | exact Or.inl rfl | exact Or.inr rfl))) (fun _ _ _ _ _ => pts_nil) (fun _ _ _ _ _ => (PE.mon (pe_cmpR op_gt (pv 3) (pe_ix (ixL (K := K)) (pv 1) pe_int (fun _ _ => rfl)) (nomark _))))) pa_nil)))))) (pss_one (ps_ret pe_int)) pss_nil)
      (pss_one (ps_ret (pe_un un_neg pe_int)))))))), ?_⟩
    walk_at "rd"
    refine ⟨⟨_, .of ho⟩, fun Dd hD => lcEmpty ho hD fun G e t => ?_⟩
    refine ⟨Dd, rfl, [], .inl (.of t), by decide, ?_⟩
    rw [if_neg (by decide)]
    refine q_ixL (.of (e _ _ hp)) rfl ?_
    refine q_ixL (.of (e _ _ hrr)) rfl ?_
    walk_at "rd"
    refine ⟨cmul 5000 5000 zb z0, ?_⟩
    refine q_ixL (.of (e _ _ hrr)) rfl ?_
    walk_at "rd"
    refine q_ixL (.of (e _ _ hrr)) rfl ?_
    refine q_ixL (.of (e _ _ hp)) rfl ?_
    refine q_ixL (.of (e _ _ hrr)) rfl ?_
    walk_at "rd"
    refine ⟨cmul 5000 5000 za z0, ?_⟩
    walk_at "rd"
    rw [if_pos hlo, if_pos hup]
    exact k G e
def spAbout : Sp := fun vs H Q _ => ∃ (l t : Addr) (s0 s1 : Int), vs = [.ref l, .int 1, .ref t] ∧ H l = some (.lst [.int s0, .int s1]) ∧ H t = some (.lst []) ∧ 0 < s0 ∧ s0.natAbs < 2 ^ 5000 ∧ ∀ H', Ex H H' → Q (.int (s1 / s0)) H'
theorem scAbout : FnScope ["sums", "many", "taken", "near", "one"] ["sums", "many", "taken"] (defScope (top 37)) := ⟨rfl, rfl, rfl, by decide +kernel, rfl, by decide +kernel, by decide +kernel⟩
theorem scLower : FnScope ["sums", "more", "double", "middle", "last"] ["sums"] (defScope (top 38)) := ⟨rfl, rfl, rfl, by decide +kernel, rfl, by decide +kernel, by decide +kernel⟩
def spNo : Sp := fun _ _ _ _ => False
theorem has_lower (D : Df K mg "_lower_root" (top 38) ["sums"]) : Has P w K mg base "_lower_root" 1 ["sums"] spNo := by
  have sc := scLower
  exact .of D fun f fd F => F.ok sc (fun vs H Q E h => h.elim) (fun cdv A outer s H vs Q E hr h => h.elim)
theorem has_about (B : Bi mg) (h_lower_root : Has P w K mg base "_lower_root" 1 ["sums"] spNo) (D : Df K mg "_about" (top 37) ["sums", "many", "taken"]) : Has P w K mg base "_about" 2 ["sums", "many", "taken"] spAbout := by
  have sc := scAbout
  refine .of D fun f fd F => F.ok sc (fun vs H Q E h => ?_) (fun cdv A outer s H vs Q E hr h => ?_)
  · obtain ⟨l, t, s0, s1, rfl, _⟩ := h
    rfl
  · obtain ⟨l, t, s0, s1, rfl, hl, ht, s0p, z1, k⟩ := h
    refine ⟨_, (pss_cons (ps_set (i := 3) sc.nd rfl (by first | exact Or.inl rfl | exact Or.inr rfl) pe_int)
      (pss_cons (ps_if (pt_cmpR op_gt (pe_ix (ixL (K := K)) (pv 0) pe_int (fun _ _ => rfl)) pe_int (nomark _)) (pss_one (ps_set (i := 3) sc.nd rfl (by first | exact Or.inl rfl | exact Or.inr rfl) (PE.mon (pe_ifExp (pt_cmpR op_eq (pv 1) pe_int (nomark _)) (pe_op op_fdivW (pe_ix (ixL (K := K)) (pv 0) pe_int (fun _ _ => rfl)) (pe_ix (ixL (K := K)) (pv 0) pe_int (fun _ _ => rfl))) (pe_has h_lower_root (hr.mono (by decide)) (pa_cons (pv 0) pa_nil)))))) pss_nil)
      (pss_one (ps_ret (pe_op op_sub (pv 3) (pe_callB (kLen (K := K)) (by rfl) B.len (by decide +kernel) (pa_cons (pe_lc (own := [("one", 4)]) (g := gName 4)  rfl sc.nd (pi_list (pv 2)) (blkOk_by (N := (["sums", "many", "taken", "near", "one"] : List Str)) (sc := defScope (top 37)) (by decide +kernel)) (fun _ _ _ _ _ => (pg_name (i := 4) sc.nd rfl (by first | exact Or.inl rfl | exact Or.inr rfl))) (fun _ _ _ _ _ => pts_one (pt_cmpR op_le (pv 4) (pv 3) (nomark _))) (fun _ _ _ _ _ => (PE.mon (pv 4)))) pa_nil))))))), ?_⟩
    walk_at "rd"
    refine q_ixL (.of hl) rfl ?_
    walk_at "rd"
    rw [if_pos s0p]
    obtain ⟨R0, hR⟩ : ∃ R : VK, R = fun y G' => G' = H ∧ y = .int (s1 / s0) := ⟨_, rfl⟩
    refine ⟨R0, ?_, fun y G' h => ?_⟩
    · walk_at "rd"
      refine q_ixL (.of hl) rfl ?_
      refine q_ixL (.of hl) rfl ?_
      walk_at "rd"
      refine ⟨⟨s0p, log_lt (Nat.lt_of_lt_of_le z1 (Nat.pow_le_pow_right (by decide) (by decide)))⟩, ?_⟩
      rw [hR]
      exact ⟨rfl, rfl⟩
    · rw [hR] at h
      obtain ⟨rfl, rfl⟩ := h
      refine ⟨⟨_, .of ht⟩, fun Dd hD => lcEmpty ht hD fun G e t2 => ?_⟩
      refine ⟨Dd, rfl, [], .inl (.of t2), ?_⟩
      walk_at "rd"
      simpa using k G e
def spPairs0 : Sp := fun vs H Q _ => ∃ (s t : Addr) (l m : Int), vs = [.ref s, .int 0, .int l, .int m, .ref t] ∧ ∀ q H', Ex H H' → H q = none → H' q = some (.lst []) → Q (.ref q) H'
theorem scPairs : FnScope ["sums", "many", "least", "most", "taken", "low", "high", "at", "step", "pair", "others", "side"] ["sums", "many", "least", "most", "taken"] (defScope (top 34)) := ⟨rfl, rfl, rfl, by decide +kernel, rfl, by decide +kernel, by decide +kernel⟩
theorem has_pairsN (D : Df K mg "_pairs" (top 34) ["sums", "many", "least", "most", "taken"]) : Has P w K mg base "_pairs" 2 ["sums", "many", "least", "most", "taken"] spNo := by
  have sc := scPairs
  exact .of D fun f fd F => F.ok sc (fun vs H Q E h => h.elim) (fun cdv A outer s H vs Q E hr h => h.elim)
theorem ok_pairs0 (B : Bi mg) (z_sorted : mg "sorted" = none) (h_about : Has P w K mg base "_about" 2 ["sums", "many", "taken"] spAbout) (h_place : Has P w K mg base "_place" 1 ["at", "taken"] spPlace) (htimes : Has P w K mg base "times" 1 ["sums", "points"] (spTimes K)) (h_side : Has P w K mg base "_side" 1 ["rest", "pair", "others"] spSide)
    (h_pairs : Has P w K mg base "_pairs" 2 ["sums", "many", "least", "most", "taken"] spNo) {f : Addr} {fd : FuncData} (F : Fun K "_pairs" "_pairs" (top 34) f fd) : FnOk P w K mg base CX0 3 f fd ["sums", "many", "least", "most", "taken"] spPairs0 := by
  have sc := scPairs
  refine F.ok sc (fun vs H Q E h => ?_) (fun cdv A outer s H vs Q E hr h => ?_)
  · obtain ⟨s, t, l, m, rfl, _⟩ := h
    rfl
  · obtain ⟨s0, t, l, m, rfl, k⟩ := h
    refine ⟨_, (pss_cons (ps_if (pt_cmpR op_eq (pv 1) pe_int (nomark _)) (pss_one (ps_ret (pe_lstN pa_nil))) pss_nil)
      (pss_cons (ps_set (i := 5) sc.nd rfl (by first | exact Or.inl rfl | exact Or.inr rfl) (pv 2))
      (pss_cons (ps_set (i := 6) sc.nd rfl (by first | exact Or.inl rfl | exact Or.inr rfl) (pe_op op_add (pe_op op_sub (pe_op op_sub (pv 3) (pe_callB (kLen (K := K)) (by rfl) B.len (by decide +kernel) (pa_cons (pv 4) pa_nil))) (pe_op op_mulS pe_int (pv 1))) pe_int))
      (pss_cons (ps_set (i := 7) sc.nd rfl (by first | exact Or.inl rfl | exact Or.inr rfl) (pe_op op_fdivW (pe_op op_add (pv 5) (pv 6)) pe_int))
      (pss_cons (ps_set (i := 8) sc.nd rfl (by first | exact Or.inl rfl | exact Or.inr rfl) (pe_op op_add (pe_op op_sub (pv 6) (pv 5)) pe_int))
      (pss_cons (ps_if (pt_cmpR op_lt (pv 1) pe_int (nomark _)) (pss_cons (ps_set (i := 7) sc.nd rfl (by first | exact Or.inl rfl | exact Or.inr rfl) (pe_callB (call_max2 rfl) (by rfl) B.max (by decide +kernel) (pa_cons (pv 5) (pa_cons (pe_callB (call_min2 rfl) (by rfl) B.min (by decide +kernel) (pa_cons (pv 6) (pa_cons (pe_has h_about (hr.mono (by omega)) (pa_cons (pv 0) (pa_cons (pv 1) (pa_cons (pv 4) pa_nil)))) pa_nil))) pa_nil))))
      (pss_one (ps_set (i := 8) sc.nd rfl (by first | exact Or.inl rfl | exact Or.inr rfl) pe_int))) pss_nil)
      (pss_one (ps_while PassesOwn.never (PT.mon (pt_val pe_bl)) (pss_cons (ps_set (i := 9) sc.nd rfl (by first | exact Or.inl rfl | exact Or.inr rfl) (pe_lstN (pa_cons (pe_has h_place (hr.mono (by omega)) (pa_cons (pv 7) (pa_cons (pv 4) pa_nil))) (pa_cons (pe_has h_place (hr.mono (by omega)) (pa_cons (pe_op op_add (pv 7) pe_int) (pa_cons (pv 4) pa_nil))) pa_nil))))
      (pss_cons (ps_set (i := 10) sc.nd rfl (by first | exact Or.inl rfl | exact Or.inr rfl) (pe_has h_pairs (hr.mono (by omega)) (pa_cons (pe_has htimes (hr.mono (by omega)) (pa_cons (pv 0) (pa_cons (pv 9) pa_nil))) (pa_cons (pe_op op_sub (pv 1) pe_int) (pa_cons (pv 2) (pa_cons (pv 3) (pa_cons (pe_callB (kSrt (K := K)) (by rfl) z_sorted (by decide +kernel) (pa_cons (pe_lstN (kStar (K := K) (pv 4) (kStar (K := K) (pv 9) pa_nil))) pa_nil)) pa_nil)))))))
      (pss_cons (ps_set (i := 11) sc.nd rfl (by first | exact Or.inl rfl | exact Or.inr rfl) (pe_has h_side (hr.mono (by omega)) (pa_cons (pe_has htimes (hr.mono (by omega)) (pa_cons (pv 0) (pa_cons (pv 10) pa_nil))) (pa_cons (pv 9) (pa_cons (pv 10) pa_nil)))))
      (pss_cons (ps_if (PW.pt (pw_or (pt_cmpR op_eq (pv 11) pe_int (nomark _)) (pw_or1 (pt_cmpR op_ge (pv 5) (pv 6) (nomark _))))) (pss_one (ps_ret (pe_callB (kSrt (K := K)) (by rfl) z_sorted (by decide +kernel) (pa_cons (pe_lstN (kStar (K := K) (pv 9) (kStar (K := K) (pv 10) pa_nil))) pa_nil)))) pss_nil)
      (pss_cons (ps_if (pt_cmpR op_gt (pv 11) pe_int (nomark _)) (pss_one (ps_set (i := 5) sc.nd rfl (by first | exact Or.inl rfl | exact Or.inr rfl) (pe_op op_add (pv 7) pe_int))) (pss_one (ps_set (i := 6) sc.nd rfl (by first | exact Or.inl rfl | exact Or.inr rfl) (pe_op op_sub (pv 7) pe_int))))
      (pss_cons (ps_set (i := 7) sc.nd rfl (by first | exact Or.inl rfl | exact Or.inr rfl) (pe_callB (call_max2 rfl) (by rfl) B.max (by decide +kernel) (pa_cons (pe_op op_sub (pv 7) (pv 8)) (pa_cons (pe_callB (call_min2 rfl) (by rfl) B.min (by decide +kernel) (pa_cons (pe_op op_add (pv 7) (pv 8)) (pa_cons (pe_op op_fdivW (pe_op op_add (pv 5) (pv 6)) pe_int) pa_nil))) pa_nil))))
      (pss_one (ps_set (i := 8) sc.nd rfl (by first | exact Or.inl rfl | exact Or.inr rfl) (pe_op op_mulS pe_int (pv 8)))))))))))))))))), ?_⟩
    walk_at "rd"
    refine ⟨by decide, fun q G nq e tq => ?_⟩
    exact k q G e nq tq
def atF (s0 s1 : Int) (N : Nat) : Int := if s1 / s0 ≤ (N : Int) - 1 then s1 / s0 else (N : Int) - 1
def spPairs1 : Sp := fun vs H Q _ => ∃ (s t : Addr) (s0 s1 : Int) (N : Nat), vs = [.ref s, .int 1, .int 0, .int (N : Int), .ref t] ∧ H s = some (.lst [.int s0, .int s1]) ∧ H t = some (.lst []) ∧ 0 < s0 ∧ 0 ≤ s1 ∧ s1 ≤ N * s0 ∧ 1 ≤ N ∧ s0.natAbs < 2 ^ 1000 ∧ s1.natAbs < 2 ^ 2000 ∧ N < 2 ^ 1000 ∧ ∀ q H', Ex H H' → H q = none → H' q = some (.lst [.int (atF s0 s1 N), .int (atF s0 s1 N + 1)]) → Q (.ref q) H'
theorem at_ok {s0 s1 : Int} {N : Nat} (h0 : 0 < s0) (h1 : 0 ≤ s1) (h2 : s1 ≤ N * s0) (hN : 1 ≤ N) : 0 ≤ atF s0 s1 N ∧ atF s0 s1 N ≤ (N : Int) - 1 ∧ 0 ≤ (atF s0 s1 N + 1) * s0 - s1 ∧ 0 ≤ s1 - atF s0 s1 N * s0 := by
  have q0 : 0 ≤ s1 / s0 := Int.ediv_nonneg h1 (by omega)
  have q1 := Int.ediv_mul_le s1 (Int.ne_of_gt h0)
  have q2 := Int.lt_ediv_add_one_mul_self s1 h0
  unfold atF
  split
  · rename_i h
    exact ⟨q0, h, by omega, by omega⟩
  · rename_i h
    have : ((N : Int) - 1) * s0 ≤ s1 / s0 * s0 := Int.mul_le_mul_of_nonneg_right (by omega) (by omega)
    exact ⟨by omega, Int.le_refl _, by rw [show (N : Int) - 1 + 1 = N by omega]; omega, by omega⟩
theorem srt2 {ns : List Int} {a : Int} (h : ns.Perm [a, a + 1]) (hp : ns.Pairwise (· ≤ ·)) : ns = [a, a + 1] := by
  have hl := h.length_eq
  match ns, hl with
  | [x, y], _ =>
    have h1 : a ∈ [x, y] := h.mem_iff.mpr (by simp)
    have h2 : a + 1 ∈ [x, y] := h.mem_iff.mpr (by simp)
    have h3 : x ≤ y := by
      cases hp with
      | cons q _ => exact q y (by simp)
    simp only [List.mem_cons, List.not_mem_nil, or_false] at h1 h2
    have : x = a ∧ y = a + 1 := by omega
    rw [this.1, this.2]
theorem ok_pairs1 (B : Bi mg) (z_sorted : mg "sorted" = none) (h_about : Has P w K mg base "_about" 2 ["sums", "many", "taken"] spAbout) (h_place : Has P w K mg base "_place" 1 ["at", "taken"] spPlace) (htimes : Has P w K mg base "times" 1 ["sums", "points"] (spTimes K)) (h_side : Has P w K mg base "_side" 1 ["rest", "pair", "others"] spSide)
    (h_pairs : Has P w K mg base "_pairs" 3 ["sums", "many", "least", "most", "taken"] spPairs0) {f : Addr} {fd : FuncData} (F : Fun K "_pairs" "_pairs" (top 34) f fd) : FnOk P w K mg base CX0 4 f fd ["sums", "many", "least", "most", "taken"] spPairs1 := by
  have sc := scPairs
  refine F.ok sc (fun vs H Q E h => ?_) (fun cdv A outer s H vs Q E hr h => ?_)
  · obtain ⟨s, t, s0, s1, N, rfl, _⟩ := h
    rfl
  · obtain ⟨s, t, s0, s1, N, rfl, hs, ht, z0, z1, z2, hN, b0, b1, bN, k⟩ := h
    refine ⟨_, (pss_cons (ps_if (pt_cmpR op_eq (pv 1) pe_int (nomark _)) (pss_one (ps_ret (pe_lstN pa_nil))) pss_nil)
      (pss_cons (ps_set (i := 5) sc.nd rfl (by first | exact Or.inl rfl | exact Or.inr rfl) (pv 2))
      (pss_cons (ps_set (i := 6) sc.nd rfl (by first | exact Or.inl rfl | exact Or.inr rfl) (pe_op op_add (pe_op op_sub (pe_op op_sub (pv 3) (pe_callB (kLen (K := K)) (by rfl) B.len (by decide +kernel) (pa_cons (pv 4) pa_nil))) (pe_op op_mulS pe_int (pv 1))) pe_int))
      (pss_cons (ps_set (i := 7) sc.nd rfl (by first | exact Or.inl rfl | exact Or.inr rfl) (pe_op op_fdivW (pe_op op_add (pv 5) (pv 6)) pe_int))
      (pss_cons (ps_set (i := 8) sc.nd rfl (by first | exact Or.inl rfl | exact Or.inr rfl) (pe_op op_add (pe_op op_sub (pv 6) (pv 5)) pe_int))
      (pss_cons (ps_if (pt_cmpR op_lt (pv 1) pe_int (nomark _)) (pss_cons (ps_set (i := 7) sc.nd rfl (by first | exact Or.inl rfl | exact Or.inr rfl) (pe_callB (call_max2 rfl) (by rfl) B.max (by decide +kernel) (pa_cons (pv 5) (pa_cons (pe_callB (call_min2 rfl) (by rfl) B.min (by decide +kernel) (pa_cons (pv 6) (pa_cons (pe_has h_about (hr.mono (by omega)) (pa_cons (pv 0) (pa_cons (pv 1) (pa_cons (pv 4) pa_nil)))) pa_nil))) pa_nil))))
      (pss_one (ps_set (i := 8) sc.nd rfl (by first | exact Or.inl rfl | exact Or.inr rfl) pe_int))) pss_nil)
      (pss_one (ps_while PassesOwn.never (PT.mon (pt_val pe_bl)) (pss_cons (ps_set (i := 9) sc.nd rfl (by first | exact Or.inl rfl | exact Or.inr rfl) (pe_lstN (pa_cons (pe_has h_place (hr.mono (by omega)) (pa_cons (pv 7) (pa_cons (pv 4) pa_nil))) (pa_cons (pe_has h_place (hr.mono (by omega)) (pa_cons (pe_op op_add (pv 7) pe_int) (pa_cons (pv 4) pa_nil))) pa_nil))))
      (pss_cons (ps_set (i := 10) sc.nd rfl (by first | exact Or.inl rfl | exact Or.inr rfl) (pe_has h_pairs (hr.mono (by omega)) (pa_cons (pe_has htimes (hr.mono (by omega)) (pa_cons (pv 0) (pa_cons (pv 9) pa_nil))) (pa_cons (pe_op op_sub (pv 1) pe_int) (pa_cons (pv 2) (pa_cons (pv 3) (pa_cons (pe_callB (kSrt (K := K)) (by rfl) z_sorted (by decide +kernel) (pa_cons (pe_lstN (kStar (K := K) (pv 4) (kStar (K := K) (pv 9) pa_nil))) pa_nil)) pa_nil)))))))
      (pss_cons (ps_set (i := 11) sc.nd rfl (by first | exact Or.inl rfl | exact Or.inr rfl) (pe_has h_side (hr.mono (by omega)) (pa_cons (pe_has htimes (hr.mono (by omega)) (pa_cons (pv 0) (pa_cons (pv 10) pa_nil))) (pa_cons (pv 9) (pa_cons (pv 10) pa_nil)))))
      (pss_cons (ps_if (PW.pt (pw_or (pt_cmpR op_eq (pv 11) pe_int (nomark _)) (pw_or1 (pt_cmpR op_ge (pv 5) (pv 6) (nomark _))))) (pss_one (ps_ret (pe_callB (kSrt (K := K)) (by rfl) z_sorted (by decide +kernel) (pa_cons (pe_lstN (kStar (K := K) (pv 9) (kStar (K := K) (pv 10) pa_nil))) pa_nil)))) pss_nil)
      (pss_cons (ps_if (pt_cmpR op_gt (pv 11) pe_int (nomark _)) (pss_one (ps_set (i := 5) sc.nd rfl (by first | exact Or.inl rfl | exact Or.inr rfl) (pe_op op_add (pv 7) pe_int))) (pss_one (ps_set (i := 6) sc.nd rfl (by first | exact Or.inl rfl | exact Or.inr rfl) (pe_op op_sub (pv 7) pe_int))))
      (pss_cons (ps_set (i := 7) sc.nd rfl (by first | exact Or.inl rfl | exact Or.inr rfl) (pe_callB (call_max2 rfl) (by rfl) B.max (by decide +kernel) (pa_cons (pe_op op_sub (pv 7) (pv 8)) (pa_cons (pe_callB (call_min2 rfl) (by rfl) B.min (by decide +kernel) (pa_cons (pe_op op_add (pv 7) (pv 8)) (pa_cons (pe_op op_fdivW (pe_op op_add (pv 5) (pv 6)) pe_int) pa_nil))) pa_nil))))
      (pss_one (ps_set (i := 8) sc.nd rfl (by first | exact Or.inl rfl | exact Or.inr rfl) (pe_op op_mulS pe_int (pv 8)))))))))))))))))), ?_⟩
    walk_at "rd"
    rw [if_neg (by decide)]
    refine ⟨[], .inl (.of ht), cmulL, ?_⟩
    rw [show ((N : Int) - (([] : List V).length : Int) - 2 * 1 + 1) = (N : Int) - 1 by simp; omega]
    refine ⟨⟨by omega, log_sm (by omega) (by omega)⟩, ?_⟩
    rw [if_pos (by decide)]
    have bs0 : s0.natAbs < 2 ^ 5000 := Nat.lt_of_lt_of_le b0 (Nat.pow_le_pow_right (by decide) (by decide))
    refine ⟨s, t, s0, s1, rfl, hs, ht, z0, bs0, fun G e => ⟨_, rfl, ?_⟩⟩
    obtain ⟨a0, a1, a2, a3⟩ := at_ok z0 z1 z2 hN
    have eat : (if (if s1 / s0 < (N : Int) - 1 then s1 / s0 else (N : Int) - 1) > 0 then (if s1 / s0 < (N : Int) - 1 then s1 / s0 else (N : Int) - 1) else 0) = atF s0 s1 N := by
      have q0 : 0 ≤ s1 / s0 := Int.ediv_nonneg z1 (by omega)
      unfold atF
      split <;> split <;> (try split) <;> omega
    rw [eat]
    obtain ⟨A0, hA0⟩ : ∃ A0, A0 = atF s0 s1 N := ⟨_, rfl⟩
    rw [← hA0] at a0 a1 a2 a3 k ⊢
    refine ⟨fun _ σ' G' => σ' = _ ∧ G' = G, ⟨0, rfl, rfl⟩, ?_⟩
    rintro m σ' G' ⟨rfl, rfl⟩
    refine ⟨fun b G2 => b = true ∧ G2 = G', ⟨_, rfl, rfl, rfl⟩, fun b G2 hb => ?_⟩
    rw [hb.1, hb.2]
    show if true = true then _ else _
    rw [if_pos rfl]
    refine ⟨fun _ _ => False, fun _ _ h => h.elim, ?_⟩
    walk_at "rd"
    have ht1 := e _ _ ht
    have hs1 := e _ _ hs
    refine ⟨t, A0, rfl, ht1, ?_⟩
    walk_at "rd"
    refine ⟨t, A0 + 1, rfl, ht1, ?_⟩
    refine ⟨by decide, fun pr G2 n2 e2 t2 => ?_⟩
    walk_at "rd"
    have bA : A0.natAbs < 2 ^ 1000 := by omega
    have bA1 : (A0 + 1).natAbs < 2 ^ 1001 := by
      have : (2 : Nat) ^ 1001 = 2 * 2 ^ 1000 := by rw [Nat.pow_succ]; omega
      omega
    have szS : SzL [s0, s1] 2000 := fun x hx => by
      simp only [List.mem_cons, List.not_mem_nil, or_false] at hx
      rcases hx with rfl | rfl
      · exact Nat.lt_of_lt_of_le b0 (Nat.pow_le_pow_right (by decide) (by decide))
      · exact b1
    have szP : SzL [A0, A0 + 1] 1001 := fun x hx => by
      simp only [List.mem_cons, List.not_mem_nil, or_false] at hx
      rcases hx with rfl | rfl
      · exact Nat.lt_of_lt_of_le bA (Nat.pow_le_pow_right (by decide) (by decide))
      · exact bA1
    refine ⟨s, pr, [s0, s1], [A0, A0 + 1], 2000, 1001, rfl, e2 _ _ hs1, t2, szS, szP, by simp, by simp, by decide, by decide, fun q3 G3 e3 t3 => ?_⟩
    try dsimp only
    rw [r_star]
    walk_at "rd"
    refine ⟨[], .inr (.of (e3 _ _ (e2 _ _ ht1))), ?_⟩
    try dsimp only
    rw [r_star]
    walk_at "rd"
    refine ⟨[.int A0, .int (A0 + 1)], .inr (.of (e3 _ _ t2)), ?_⟩
    refine ⟨by simp; decide, fun l4 G4 n4 e4 t4 => ?_⟩
    refine ⟨l4, [A0, A0 + 1], rfl, .of t4, fun ns' _ _ l5 G5 n5 e5 t5 => ?_⟩
    refine ⟨q3, l5, _, _, rfl, fun q6 G6 e6 n6 t6 => ?_⟩
    walk_at "rd"
    have e26 := ((e3.trans e4).trans e5).trans e6
    refine ⟨s, q6, [s0, s1], [], 2000, 0, rfl, (e2.trans e26) _ _ hs1, t6, szS, fun x hx => by simp at hx, by simp, by simp, by decide, by decide, fun q7 G7 e7 t7 => ?_⟩
    walk_at "rd"
    have t2' := (e26.trans e7) _ _ t2
    refine ⟨q7, pr, q6, s0, s1, A0, A0 + 1, rfl, t7, t2', e7 _ _ t6, bs0, Nat.lt_of_lt_of_le bA (Nat.pow_le_pow_right (by decide) (by decide)), Nat.lt_of_lt_of_le bA1 (Nat.pow_le_pow_right (by decide) (by decide)), a2, a3, fun G8 e8 => ?_⟩
    walk_at "rd"
    try dsimp only
    rw [r_star]
    walk_at "rd"
    refine ⟨[.int A0, .int (A0 + 1)], .inr (.of (e8 _ _ t2')), ?_⟩
    try dsimp only
    rw [r_star]
    walk_at "rd"
    refine ⟨[], .inr (.of (e8 _ _ (e7 _ _ t6))), ?_⟩
    refine ⟨by simp; decide, fun l9 G9 n9 e9 t9 => ?_⟩
    refine ⟨l9, [A0, A0 + 1], rfl, .of t9, fun ns' hp1 hp2 l10 G10 n10 e10 t10 => ?_⟩
    rw [srt2 hp1 hp2] at t10
    have eall := (((e.trans e2).trans e26).trans e7).trans (e8.trans e9)
    exact k l10 G10 (eall.trans e10) (ex_free eall n10) t10
def orS (a b : Sp) : Sp := fun vs H Q E => a vs H Q E ∨ b vs H Q E
theorem FnOk_or {k : Nat} {f : Addr} {fd : FuncData} {ps : List Str} {a b : Sp} (x : FnOk P w K mg base CX0 k f fd ps a) (y : FnOk P w K mg base CX0 k f fd ps b) : FnOk P w K mg base CX0 k f fd ps (orS a b) :=
  ⟨fun vs H Q E h => h.elim (x.len vs H Q E) (y.len vs H Q E), fun A o s H args us vs Q E hr he hb hv h => h.elim (x.run A o s H args us vs Q E hr he hb hv) (y.run A o s H args us vs Q E hr he hb hv)⟩
theorem has_pairs (B : Bi mg) (z_sorted : mg "sorted" = none) (h_about : Has P w K mg base "_about" 2 ["sums", "many", "taken"] spAbout) (h_place : Has P w K mg base "_place" 1 ["at", "taken"] spPlace) (htimes : Has P w K mg base "times" 1 ["sums", "points"] (spTimes K)) (h_side : Has P w K mg base "_side" 1 ["rest", "pair", "others"] spSide)
    (D : Df K mg "_pairs" (top 34) ["sums", "many", "least", "most", "taken"]) : Has P w K mg base "_pairs" 4 ["sums", "many", "least", "most", "taken"] (orS spPairs0 spPairs1) := by
  have hN := has_pairsN (P := P) (w := w) (base := base) D
  have h0 : Has P w K mg base "_pairs" 3 ["sums", "many", "least", "most", "taken"] spPairs0 := Has.of D fun f fd F => ok_pairs0 B z_sorted h_about h_place htimes h_side hN F
  exact Has.of D fun f fd F => FnOk_or ((ok_pairs0 B z_sorted h_about h_place htimes h_side hN F).mono (by decide)) (ok_pairs1 B z_sorted h_about h_place htimes h_side h0 F)
def lowF (s0 s1 : Int) (N m : Nat) : List Int := if m = 1 then [0] else [atF s0 s1 N, atF s0 s1 N + 1]
def higF (N m : Nat) : List Int := if m = 1 then [(N : Int)] else [0, (N : Int)]
structure Sums2 (s0 s1 s2 : Int) (N : Nat) : Prop where
  p0 : 0 < s0
  p1 : 0 ≤ s1
  q1 : s1 ≤ N * s0
  n2 : 2 ≤ N
  b0 : s0.natAbs < 2 ^ 1000
  b1 : s1.natAbs < 2 ^ 2000
  b2 : s2.natAbs < 2 ^ 4000
  bN : N < 2 ^ 1000
def spLow (K : PySem.W.Frag) : Sp := fun vs H Q _ => ∃ (s : Addr) (s0 s1 s2 : Int) (N m : Nat), vs = [.ref s, .int (m : Int), .int (N : Int)] ∧ H s = some (.lst ([s0, s1, s2].map V.int)) ∧ Sums2 s0 s1 s2 N ∧ (m = 1 ∨ m = 2) ∧ ∀ q H', Ex H H' → H' q = some (.lst ((lowF s0 s1 N m).map V.int)) → Q (.ref q) H'
theorem scLow : FnScope ["sums", "many", "slips", "told"] ["sums", "many", "slips"] (defScope (top 30)) := ⟨rfl, rfl, rfl, by decide +kernel, rfl, by decide +kernel, by decide +kernel⟩
theorem Sums2.sz {s0 s1 s2 : Int} {N : Nat} (h : Sums2 s0 s1 s2 N) : SzL [s0, s1, s2] 4000 := fun x hx => by
  simp only [List.mem_cons, List.not_mem_nil, or_false] at hx
  rcases hx with rfl | rfl | rfl
  · exact Nat.lt_of_lt_of_le h.b0 (Nat.pow_le_pow_right (by decide) (by decide))
  · exact Nat.lt_of_lt_of_le h.b1 (Nat.pow_le_pow_right (by decide) (by decide))
  · exact h.b2
theorem SzL.take {l : List Int} {b : Nat} (h : SzL l b) (k : Nat) : SzL (l.take k) b := fun x hx => h x (List.mem_of_mem_take hx)
theorem has_low (B : Bi mg) (htimes : Has P w K mg base "times" 1 ["sums", "points"] (spTimes K)) (h_pairs : Has P w K mg base "_pairs" 4 ["sums", "many", "least", "most", "taken"] (orS spPairs0 spPairs1)) (D : Df K mg "lowest_points" (top 30) ["sums", "many", "slips"]) : Has P w K mg base "lowest_points" 5 ["sums", "many", "slips"] (spLow K) := by
  have sc := scLow
  refine .of D fun f fd F => F.ok sc (fun vs H Q E h => ?_) (fun cdv A outer s H vs Q E hr h => ?_)
  · obtain ⟨s, s0, s1, s2, N, m, rfl, _⟩ := h
    rfl
  · obtain ⟨s, s0, s1, s2, N, m, rfl, hs, S, hm, k⟩ := h
    refine ⟨_, (pss_cons (ps_set (i := 3) sc.nd rfl (by first | exact Or.inl rfl | exact Or.inr rfl) (pe_slice (slL (K := K)) (pv 0) po_none (po_some (pv 1))))
      (pss_cons (ps_if (pt_cmpR op_eq (pe_op op_mod (pv 1) pe_int) pe_int (nomark _)) (pss_one (ps_ret (pe_has h_pairs (hr.mono (by decide)) (pa_cons (pv 3) (pa_cons (pe_op op_fdivW (pv 1) pe_int) (pa_cons pe_int (pa_cons (pv 2) (pa_cons (pe_lstN pa_nil) pa_nil)))))))) pss_nil)
      (pss_one (ps_ret (pe_lstN (pa_cons pe_int (kStar (K := K) (pe_has h_pairs (hr.mono (by decide)) (pa_cons (pe_has htimes (hr.mono (by decide)) (pa_cons (pv 3) (pa_cons (pe_lstN (pa_cons pe_int pa_nil)) pa_nil))) (pa_cons (pe_op op_fdivW (pv 1) pe_int) (pa_cons pe_int (pa_cons (pv 2) (pa_cons (pe_lstN pa_nil) pa_nil)))))) pa_nil))))))), ?_⟩
    walk_at "rd"
    refine ⟨s, _, rfl, .of hs, fun tl G n1 e1 t1 => ?_⟩
    rw [cut_take, ← List.map_take] at t1
    rcases hm with rfl | rfl
    · refine ⟨by decide, ?_⟩
      rw [if_neg (by decide)]
      rw [r_star]
      walk_at "rd"
      refine ⟨by decide, fun z G2 n2 e2 t2 => ?_⟩
      refine ⟨tl, z, _, [0], 4000, 1, rfl, e2 _ _ t1, t2, S.sz.take 1, fun x hx => by simp at hx; subst hx; decide, by simp, by simp, by decide, by decide, fun q3 G3 e3 t3 => ?_⟩
      refine ⟨⟨by decide, by decide⟩, ?_⟩
      refine ⟨by decide, fun z4 G4 n4 e4 t4 => ?_⟩
      refine .inl ⟨q3, z4, 1, N, rfl, fun q5 G5 e5 n5 t5 => ?_⟩
      refine ⟨q5, rfl, [], .inr (.of t5), by decide, fun q6 G6 n6 e6 t6 => ?_⟩
      exact k q6 G6 (((((e1.trans e2).trans e3).trans e4).trans e5).trans e6) t6
    · refine ⟨by decide, ?_⟩
      rw [if_pos (by decide)]
      refine ⟨⟨by decide, by decide⟩, ?_⟩
      refine ⟨by decide, fun z4 G4 n4 e4 t4 => ?_⟩
      refine .inr ⟨tl, z4, s0, s1, N, rfl, e4 _ _ t1, t4, S.p0, S.p1, S.q1, by have := S.n2; omega, S.b0, S.b1, S.bN, fun q5 G5 e5 n5 t5 => ?_⟩
      refine k q5 G5 ((e1.trans e4).trans e5) ?_
      rw [t5]
      unfold lowF
      rw [if_neg (by decide)]
      rfl
def spHig (K : PySem.W.Frag) : Sp := fun vs H Q _ => ∃ (s : Addr) (s0 s1 s2 : Int) (N m : Nat), vs = [.ref s, .int (m : Int), .int (N : Int)] ∧ H s = some (.lst ([s0, s1, s2].map V.int)) ∧ Sums2 s0 s1 s2 N ∧ (m = 1 ∨ m = 2) ∧ ∀ q H', Ex H H' → H' q = some (.lst ((higF N m).map V.int)) → Q (.ref q) H'
theorem scHig : FnScope ["sums", "many", "slips", "told", "one"] ["sums", "many", "slips"] (defScope (top 31)) := ⟨rfl, rfl, rfl, by decide +kernel, rfl, by decide +kernel, by decide +kernel⟩
theorem neg_ints {ys : List V} {cur : List Int} (hl : ys.length = cur.length) (h : ∀ (i : Nat) y, ys[i]? = some y → ∃ c, cur[i]? = some c ∧ y = .int (-c)) : ys = (cur.map fun c => -c).map V.int := by
  apply List.ext_getElem?
  intro i
  by_cases hi : i < ys.length
  · obtain ⟨c, h1, h2⟩ := h i _ (List.getElem?_eq_getElem hi)
    rw [List.getElem?_eq_getElem hi, h2, List.getElem?_map, List.getElem?_map, h1]
    rfl
  · rw [List.getElem?_eq_none (by omega), List.getElem?_eq_none (by simp; omega)]
theorem has_hig (B : Bi mg) (htimes : Has P w K mg base "times" 1 ["sums", "points"] (spTimes K)) (h_pairs : Has P w K mg base "_pairs" 4 ["sums", "many", "least", "most", "taken"] (orS spPairs0 spPairs1)) (D : Df K mg "highest_points" (top 31) ["sums", "many", "slips"]) : Has P w K mg base "highest_points" 5 ["sums", "many", "slips"] (spHig K) := by
  have sc := scHig
  refine .of D fun f fd F => F.ok sc (fun vs H Q E h => ?_) (fun cdv A outer s H vs Q E hr h => ?_)
  · obtain ⟨s, s0, s1, s2, N, m, rfl, _⟩ := h
    rfl
  · obtain ⟨s, s0, s1, s2, N, m, rfl, hs, S, hm, k⟩ := h
    refine ⟨_, (pss_cons (ps_setLc (i := 3) (own := [("one", 4)]) (g := gName 4) (tt := tYes) rfl sc.nd rfl rfl (sw_true rfl rfl rfl (by decide +kernel)) (pi_list (pe_has htimes (hr.mono (by decide)) (pa_cons (pe_slice (slL (K := K)) (pv 0) po_none (po_some (pv 1))) (pa_cons (pe_lstN (pa_cons (pv 2) pa_nil)) pa_nil)))) (blkOk_by (N := (["sums", "many", "slips", "told", "one"] : List Str)) (sc := defScope (top 31)) (by decide +kernel)) (fun _ _ _ _ _ => (pg_name (i := 4) sc.nd rfl (by first | exact Or.inl rfl | exact Or.inr rfl))) (fun _ _ _ _ _ => pts_nil) (fun _ _ _ _ _ => (PE.mon (pe_un un_neg (pv 4)))))
      (pss_cons (ps_if (pt_cmpR op_eq (pe_op op_mod (pv 1) pe_int) pe_int (nomark _)) (pss_one (ps_ret (pe_lstN (kStar (K := K) (pe_has h_pairs (hr.mono (by decide)) (pa_cons (pv 3) (pa_cons (pe_op op_fdivW (pv 1) pe_int) (pa_cons pe_int (pa_cons (pe_op op_sub (pv 2) pe_int) (pa_cons (pe_lstN pa_nil) pa_nil)))))) (pa_cons (pv 2) pa_nil))))) pss_nil)
      (pss_one (ps_ret (pe_lstN (pa_cons pe_int (kStar (K := K) (pe_has h_pairs (hr.mono (by decide)) (pa_cons (pe_has htimes (hr.mono (by decide)) (pa_cons (pv 3) (pa_cons (pe_lstN (pa_cons pe_int pa_nil)) pa_nil))) (pa_cons (pe_op op_sub (pe_op op_fdivW (pv 1) pe_int) pe_int) (pa_cons pe_int (pa_cons (pe_op op_sub (pv 2) pe_int) (pa_cons (pe_lstN pa_nil) pa_nil)))))) (pa_cons (pv 2) pa_nil)))))))), ?_⟩
    walk_at "rd"
    refine ⟨s, _, rfl, .of hs, fun tl G n1 e1 t1 => ?_⟩
    rw [cut_take, ← List.map_take] at t1
    refine ⟨by decide, fun z G2 n2 e2 t2 => ?_⟩
    have szN : SzL [(N : Int)] 1001 := fun x hx => by
      simp only [List.mem_cons, List.not_mem_nil, or_false] at hx
      subst hx
      exact Nat.lt_of_lt_of_le (show ((N : Int)).natAbs < 2 ^ 1000 by rw [Int.natAbs_natCast]; exact S.bN) (Nat.pow_le_pow_right (by decide) (by decide))
    have lt3 : (([s0, s1, s2] : List Int).take m).length ≤ 6 := by rw [List.length_take]; simp; omega
    refine ⟨tl, z, _, [(N : Int)], 4000, 1001, rfl, e2 _ _ t1, t2, S.sz.take m, szN, lt3, by simp, by decide, by decide, fun q3 G3 e3 t3 => ?_⟩
    obtain ⟨cur, hcur⟩ : ∃ cur, cur = timesL (([s0, s1, s2] : List Int).take m) [(N : Int)] := ⟨_, rfl⟩
    rw [← hcur] at t3
    have lcur : cur.length ≤ 6 := by rw [hcur]; simp [timesL, stepL]; omega
    have bcur : SzL cur 5005 := by
      rw [hcur]
      exact (S.sz.take m).step (szN _ (by simp)) lt3
    refine ⟨q3, rfl, ⟨_, .of t3⟩, fun Dd hD => lcLn (fun i y _ => ∃ c, cur[i]? = some c ∧ y = .int (-c)) (fun _ _ _ _ _ h => h) hD (.of t3) (by rw [List.length_map]; omega) (fun _ => rfl) ?_ ?_⟩
    · intro i x G4 hx e4
      rw [List.getElem?_map] at hx
      cases hc : cur[i]? with
      | none => rw [hc] at hx; cases hx
      | some c =>
        rw [hc] at hx
        cases hx
        obtain ⟨R0, hR⟩ : ∃ R : VK, R = fun y G' => G' = G4 ∧ y = .int (-c) := ⟨_, rfl⟩
        refine ⟨R0, ?_, fun y G' h => by rw [hR] at h; obtain ⟨rfl, h⟩ := h; exact ⟨Ex.refl _, c, rfl, h⟩⟩
        walk_at "rd"
        rw [hR]
        exact ⟨rfl, rfl⟩
    · intro G4 ys e4 hy hl hr4
      rw [List.length_map] at hl
      rw [neg_ints hl hr4] at hy
      have e04 := ((e1.trans e2).trans e3).trans e4
      rcases hm with rfl | rfl
      · refine ⟨by decide, ?_⟩
        rw [if_pos (by decide)]
        rw [r_star]
        walk_at "rd"
        refine ⟨⟨by decide, by decide⟩, ?_⟩
        refine ⟨by decide, fun z5 G5 n5 e5 t5 => ?_⟩
        refine .inl ⟨Dd, z5, 0, (N : Int) - 1, rfl, fun q6 G6 e6 n6 t6 => ?_⟩
        refine ⟨q6, rfl, [], .inr (.of t6), Nat.le_trans (show _ ≤ 5 by simp) (by decide), fun q7 G7 n7 e7 t7 => ?_⟩
        exact k q7 G7 (((e04.trans e5).trans e6).trans e7) t7
      · refine ⟨by decide, ?_⟩
        rw [if_neg (by decide)]
        rw [r_star]
        walk_at "rd"
        refine ⟨by decide, fun z5 G5 n5 e5 t5 => ?_⟩
        refine ⟨Dd, z5, _, [0], 5005, 1, rfl, e5 _ _ hy, t5, fun x hx => by obtain ⟨c, hc, rfl⟩ := List.mem_map.mp hx; rw [Int.natAbs_neg]; exact bcur c hc, fun x hx => by simp at hx; subst hx; decide, by rw [List.length_map]; exact lcur, by simp, by decide, by decide, fun q6 G6 e6 t6 => ?_⟩
        refine ⟨⟨by decide, by decide⟩, ?_⟩
        refine ⟨by decide, fun z7 G7 n7 e7 t7 => ?_⟩
        refine .inl ⟨q6, z7, 1, (N : Int) - 1, rfl, fun q8 G8 e8 n8 t8 => ?_⟩
        refine ⟨q8, rfl, [], .inr (.of t8), Nat.le_trans (show _ ≤ 5 by simp) (by decide), fun q9 G9 n9 e9 t9 => ?_⟩
        exact k q9 G9 (((((e04.trans e5).trans e6).trans e7).trans e8).trans e9) t9
def spMean (K : PySem.W.Frag) : Sp := fun vs H Q _ => ∃ (s p : Addr) (ss ps : List Int) (N t : Nat), vs = [.ref s, .ref p, .int (N : Int)] ∧ H s = some (.lst (ss.map V.int)) ∧ H p = some (.lst (ps.map V.int)) ∧ SzL ss 4000 ∧ SzL ps 1001 ∧ ps.length < ss.length ∧ ss.length ≤ 6 ∧ (∀ i < t, (N : Int) - (i : Int) ∈ ps) ∧ (N : Int) - (t : Int) ∉ ps ∧ ∀ H', Ex H H' → Q (.int (sg t * (timesL (ss.take (ps.length + 1)) ps).getD 0 0)) H'
theorem scMean : FnScope ["sums", "points", "slips", "turn", "free"] ["sums", "points", "slips"] (defScope (top 29)) := ⟨rfl, rfl, rfl, by decide +kernel, rfl, by decide +kernel, by decide +kernel⟩
theorem times_len : ∀ (ps ss : List Int), (timesL ss ps).length = ss.length - ps.length
  | [], ss => by simp [timesL]
  | a :: ps, ss => by
    have e : timesL ss (a :: ps) = timesL (stepL ss a) ps := rfl
    rw [e, times_len ps]
    simp [stepL]
    omega
theorem has_mean (B : Bi mg) (htimes : Has P w K mg base "times" 1 ["sums", "points"] (spTimes K)) (D : Df K mg "mean_on" (top 29) ["sums", "points", "slips"]) : Has P w K mg base "mean_on" 2 ["sums", "points", "slips"] (spMean K) := by
  have sc := scMean
  refine .of D fun f fd F => F.ok sc (fun vs H Q E h => ?_) (fun cdv A outer s H vs Q E hr h => ?_)
  · obtain ⟨s, p, ss, ps, N, t, rfl, _⟩ := h
    rfl
  · obtain ⟨s, p, ss, ps, N, t, rfl, hs, hp, bs, bp, lp, ls, hin, hout, k⟩ := h
    refine ⟨_, (pss_cons (ps_set (i := 3) sc.nd rfl (by first | exact Or.inl rfl | exact Or.inr rfl) pe_int)
      (pss_cons (ps_set (i := 4) sc.nd rfl (by first | exact Or.inl rfl | exact Or.inr rfl) (pv 2))
      (pss_cons (ps_while PassesOwn.never (PT.mon (pt_cmpR (kIn (K := K)) (pv 4) (pv 1) (by rfl))) (pss_cons (ps_set (i := 3) sc.nd rfl (by first | exact Or.inl rfl | exact Or.inr rfl) (pe_un un_neg (pv 3)))
      (pss_one (ps_aug (i := 4) sc.nd rfl (by first | exact Or.inl rfl | exact Or.inr rfl) pe_int ip_sub))))
      (pss_one (ps_ret (pe_op op_mulS (pv 3) (pe_ix (ixL (K := K)) (pe_has htimes (hr.mono (by decide)) (pa_cons (pe_slice (slL (K := K)) (pv 0) po_none (po_some (pe_op op_add (pe_callB (kLen (K := K)) (by rfl) B.len (by decide +kernel) (pa_cons (pv 1) pa_nil)) pe_int))) (pa_cons (pv 1) pa_nil))) pe_int (fun _ _ => rfl)))))))), ?_⟩
    walk_at "rd"
    refine ⟨fun m σ' G => ∃ j, j ≤ t ∧ m = t - j ∧ σ' = [some (.ref s), some (.ref p), some (.int (N : Int)), some (.int (sg j)), some (.int ((N : Int) - (j : Int)))] ∧ G = H, ⟨t, 0, by omega, by omega, by simp [sg], rfl⟩, ?_⟩
    rintro m σ' G ⟨j, hj, rfl, rfl, rfl⟩
    refine ⟨fun b G' => b = (ps.any fun n => n == (N : Int) - (j : Int)) ∧ G' = G, ?_, ?_⟩
    · walk_at "rd"
      exact ⟨p, _, ps, rfl, rfl, .of hp, _, rfl, rfl, rfl⟩
    · intro b G' hb
      rw [hb.1, hb.2]
      cases ha : (ps.any fun n => n == (N : Int) - (j : Int)) with
      | true =>
        show if true = true then _ else _
        rw [if_pos rfl]
        have jt : j < t := by
          rcases Nat.lt_or_ge j t with h | h
          · exact h
          · have : j = t := by omega
            subst this
            obtain ⟨n, hn, e⟩ := List.any_eq_true.mp ha
            have : n = (N : Int) - (j : Int) := by simpa using e
            rw [this] at hn
            exact (hout hn).elim
        refine ⟨fun σ' G' => σ' = [some (.ref s), some (.ref p), some (.int (N : Int)), some (.int (sg (j + 1))), some (.int ((N : Int) - ((j + 1 : Nat) : Int)))] ∧ G' = G, fun σ2 H2 ⟨h1, h2⟩ => ⟨t - (j + 1), by omega, j + 1, by omega, rfl, h1, h2⟩, ?_⟩
        walk_at "rd"
        rw [r_aug]
        walk_at "rd"
        refine ⟨_, _, rfl, rfl, ?_⟩
        refine ⟨(sg_succ j).symm, ?_, rfl⟩
        congr 1
        show (N : Int) - (j : Int) - 1 = _
        omega
      | false =>
        show if false = true then _ else _
        rw [if_neg (by decide)]
        have jt : j = t := by
          rcases Nat.lt_or_ge j t with h | h
          · have := List.any_eq_false.mp ha _ (hin j h)
            simp at this
          · omega
        subst jt
        walk_at "rd"
        refine ⟨_, .inl (.of hp), ?_⟩
        refine ⟨s, _, rfl, .of hs, fun l G2 n2 e2 t2 => ?_⟩
        rw [List.length_map, show ((ps.length : Nat) : Int) + 1 = ((ps.length + 1 : Nat) : Int) by omega, cut_take, ← List.map_take] at t2
        refine ⟨l, p, _, ps, 4000, 1001, rfl, t2, e2 _ _ hp, bs.take _, bp, by rw [List.length_take]; omega, by omega, by decide, by decide, fun q G3 e3 t3 => ?_⟩
        have l1 : (timesL (ss.take (ps.length + 1)) ps).length = 1 := by
          rw [times_len, List.length_take]
          omega
        have g0 : (timesL (ss.take (ps.length + 1)) ps)[0]? = some ((timesL (ss.take (ps.length + 1)) ps).getD 0 0) := by
          rw [List.getD_eq_getElem?_getD, List.getElem?_eq_getElem (by omega)]
          rfl
        refine q_ixL (.of t3) (at_num g0) ?_
        have sa := sg_abs j
        walk_at "rd"
        refine ⟨cmulL (by omega) (by omega), ?_⟩
        exact k G3 (e2.trans e3)
def fF (s0 s1 s2 a : Int) : Int := (s2 + (1 - a) * s1) + (0 - (a + 1)) * (s1 + (0 - a) * s0)
theorem t10 {s0 s1 s2 : Int} : (timesL (([s0, s1, s2] : List Int).take 2) [0]).getD 0 0 = s1 := by
  simp [timesL, stepL]
theorem t1N {s0 s1 s2 N : Int} : (timesL (([s0, s1, s2] : List Int).take 2) [N]).getD 0 0 = s1 + (0 - N) * s0 := by
  simp [timesL, stepL]
theorem t2a {s0 s1 s2 a : Int} : (timesL (([s0, s1, s2] : List Int).take 3) [a, a + 1]).getD 0 0 = fF s0 s1 s2 a := by
  simp [timesL, stepL, fF, List.range_succ]
theorem t2N {s0 s1 s2 N : Int} : (timesL (([s0, s1, s2] : List Int).take 3) [0, N]).getD 0 0 = (s2 + (1 - 0) * s1) + (0 - N) * (s1 + (0 - 0) * s0) := by
  simp [timesL, stepL, List.range_succ]
def spBroken (K : PySem.W.Frag) : Sp := fun vs H Q _ => ∃ (s : Addr) (s0 s1 s2 : Int) (N : Nat), vs = [.ref s, .int (N : Int)] ∧ H s = some (.lst ([s0, s1, s2].map V.int)) ∧ Sums2 s0 s1 s2 N ∧ 0 ≤ ((N : Int) - 1) * s1 - s2 ∧ ∀ H', Ex H H' → (0 ≤ fF s0 s1 s2 (atF s0 s1 N) → Q .non H') ∧ (fF s0 s1 s2 (atF s0 s1 N) < 0 → ∀ q, Q (.ref q) H')
theorem scBroken : FnScope ["sums", "slips", "many", "points"] ["sums", "slips"] (defScope (top 32)) := ⟨rfl, rfl, rfl, by decide +kernel, rfl, by decide +kernel, by decide +kernel⟩
theorem has_broken (B : Bi mg) (hlowest_points : Has P w K mg base "lowest_points" 5 ["sums", "many", "slips"] (spLow K)) (hhighest_points : Has P w K mg base "highest_points" 5 ["sums", "many", "slips"] (spHig K)) (hmean_on : Has P w K mg base "mean_on" 2 ["sums", "points", "slips"] (spMean K)) (D : Df K mg "broken_points" (top 32) ["sums", "slips"]) : Has P w K mg base "broken_points" 6 ["sums", "slips"] (spBroken K) := by
  have sc := scBroken
  refine .of D fun f fd F => F.ok sc (fun vs H Q E h => ?_) (fun cdv A outer s H vs Q E hr h => ?_)
  · obtain ⟨s, s0, s1, s2, N, rfl, _⟩ := h
    rfl
  · obtain ⟨s, s0, s1, s2, N, rfl, hs, S, hc, k⟩ := h
    refine ⟨_, (pss_cons (ps_for PassesOwn.never rfl (pi_range2 (by rfl) B.range (pa_cons pe_int (pa_cons (pe_callB (kLen (K := K)) (by rfl) B.len (by decide +kernel) (pa_cons (pv 0) pa_nil)) pa_nil))) (pg_name (i := 2) sc.nd rfl (by first | exact Or.inl rfl | exact Or.inr rfl))
      (pss_one (ps_for PassesOwn.never rfl (pi_tup (pe_tupN (pa_cons (pe_has hlowest_points (hr.mono (by decide)) (pa_cons (pv 0) (pa_cons (pv 2) (pa_cons (pv 1) pa_nil)))) (pa_cons (pe_has hhighest_points (hr.mono (by decide)) (pa_cons (pv 0) (pa_cons (pv 2) (pa_cons (pv 1) pa_nil)))) pa_nil)))) (pg_name (i := 3) sc.nd rfl (by first | exact Or.inl rfl | exact Or.inr rfl))
      (pss_one (ps_if (pt_cmpR op_lt (pe_has hmean_on (hr.mono (by decide)) (pa_cons (pv 0) (pa_cons (pv 3) (pa_cons (pv 1) pa_nil)))) pe_int (nomark _)) (pss_one (ps_ret (pv 3))) pss_nil)))))
      (pss_one (ps_ret pe_non))), ?_⟩
    walk_at "rd"
    refine ⟨_, .inl (.of hs), by decide, by decide, by simp, by simp, ?_⟩
    obtain ⟨a0, a1, a2, a3⟩ := at_ok S.p0 S.p1 S.q1 (by have := S.n2; omega)
    obtain ⟨A0, hA0⟩ : ∃ A0, A0 = atF s0 s1 N := ⟨_, rfl⟩
    rw [← hA0] at a0 a1 a2 a3 k
    obtain ⟨Fv, hFv⟩ : ∃ Fv, Fv = fF s0 s1 s2 A0 := ⟨_, rfl⟩
    rw [← hFv] at k
    have n2 := S.n2
    obtain ⟨Pv, hP⟩ : ∃ P : Nat → L2.St → Hp → Prop, P = fun (i : Nat) σ' G => Ex H G ∧ ∃ (z2 z3 : Option V), σ' = [some (.ref s), some (.int (N : Int)), z2, z3] ∧ (i = 2 → 0 ≤ Fv) := ⟨_, rfl⟩
    refine loopR Pv (by rw [hP]; exact ⟨Ex.refl _, _, _, rfl, fun z => by omega⟩) ?_ ?_
    · intro i σ' G hi h
      rw [hP] at h
      obtain ⟨e, z2, z3, rfl, _⟩ := h
      have hi : i < 2 := hi
      walk_at "rd"
      have hm : (i + 1 = 1 ∨ i + 1 = 2) := by omega
      rw [show (1 : Int) + (i : Int) = ((i + 1 : Nat) : Int) by omega]
      refine ⟨s, s0, s1, s2, N, i + 1, rfl, e _ _ hs, S, hm, fun lo G2 e2 t2 => ?_⟩
      refine ⟨s, s0, s1, s2, N, i + 1, rfl, e2 _ _ (e _ _ hs), S, hm, fun hg G3 e3 t3 => ?_⟩
      refine ⟨by decide, fun T G4 n4 e4 t4 => ?_⟩
      refine ⟨T, rfl, ⟨_, .of t4⟩, ?_⟩
      have e24 := (e2.trans e3).trans e4
      have hs4 := e24 _ _ (e _ _ hs)
      have lo4 := e4 _ _ (e3 _ _ t2)
      have hg4 := e4 _ _ t3
      obtain ⟨Uv, hU⟩ : ∃ U : Nat → L2.St → Hp → Prop, U = fun (j : Nat) σ' G' => Ex G4 G' ∧ ∃ (z : Option V), σ' = [some (.ref s), some (.int (N : Int)), some (.int ((i + 1 : Nat) : Int)), z] ∧ (1 ≤ j → i = 1 → 0 ≤ Fv) := ⟨_, rfl⟩
      have nb : ((N : Int)).natAbs < 2 ^ 1000 := by rw [Int.natAbs_natCast]; exact S.bN
      have p01 : (2 : Nat) ^ 1001 = 2 * 2 ^ 1000 := by rw [Nat.pow_succ]; omega
      refine loopT (xs := [V.ref lo, V.ref hg]) Uv (by rw [hU]; exact ⟨Ex.refl _, _, rfl, fun z => by omega⟩) (fun j σ' G' _ h => by rw [hU] at h; exact .of (h.1 _ _ t4)) ?_ ?_
      · intro j x σ' G5 hx h
        rw [hU] at h
        obtain ⟨e5, z, rfl, hF⟩ := h
        match j, hx with
        | 0, hx =>
          cases hx
          walk_at "rd"
          by_cases h1 : i = 0
          · subst h1
            refine ⟨s, lo, _, [0], N, 0, rfl, e5 _ _ hs4, e5 _ _ lo4, S.sz, fun x hx => by simp at hx; subst hx; decide, by simp, by simp, fun q hq => by omega, by simp; omega, fun G6 e6 => ?_⟩
            walk_at "rd"
            rw [t10]
            rw [if_neg (by have := S.p1; simp [sg]; omega)]
            rw [hU]
            exact ⟨e5.trans e6, _, rfl, fun _ z => by omega⟩
          · have h1 : i = 1 := by omega
            subst h1
            have lo5 : G5 lo = some (.lst ([A0, A0 + 1].map V.int)) := by
              rw [e5 _ _ lo4]
              unfold lowF
              rw [if_neg (by decide), ← hA0]
            have szP : SzL [A0, A0 + 1] 1001 := fun x hx => by
              simp only [List.mem_cons, List.not_mem_nil, or_false] at hx
              rcases hx with rfl | rfl <;> omega
            have fin : ∀ t : Nat, sg t = 1 → ∀ G6, Ex G5 G6 → (if sg t * (timesL (([s0, s1, s2] : List Int).take 3) [A0, A0 + 1]).getD 0 0 < 0 then Q (.ref lo) G6 else Uv 1 [some (.ref s), some (.int (N : Int)), some (.int ((1 + 1 : Nat) : Int)), some (.ref lo)] G6) := by
              intro t ht G6 e6
              rw [ht, t2a, ← hFv, Int.one_mul]
              by_cases neg : Fv < 0
              · rw [if_pos neg]
                exact (k G6 ((((e.trans e24).trans e5).trans e6))).2 neg lo
              · rw [if_neg neg, hU]
                exact ⟨e5.trans e6, _, rfl, fun _ _ => by omega⟩
            by_cases hN : A0 + 1 = (N : Int)
            · refine ⟨s, lo, _, [A0, A0 + 1], N, 2, rfl, e5 _ _ hs4, lo5, S.sz, szP, by simp, by simp, fun q hq => ?_, ?_, fun G6 e6 => ?_⟩
              · have : q = 0 ∨ q = 1 := by omega
                rcases this with rfl | rfl
                · simp; omega
                · simp; omega
              · simp; omega
              · walk_at "rd"
                exact fin 2 rfl G6 e6
            · refine ⟨s, lo, _, [A0, A0 + 1], N, 0, rfl, e5 _ _ hs4, lo5, S.sz, szP, by simp, by simp, fun q hq => by omega, ?_, fun G6 e6 => ?_⟩
              · simp; omega
              · walk_at "rd"
                exact fin 0 rfl G6 e6
        | 1, hx =>
          cases hx
          walk_at "rd"
          by_cases h1 : i = 0
          · subst h1
            refine ⟨s, hg, _, [(N : Int)], N, 1, rfl, e5 _ _ hs4, e5 _ _ hg4, S.sz, fun x hx => by simp at hx; subst hx; omega, by simp, by simp, fun q hq => (by rw [show q = 0 by omega]; simp), by simp; omega, fun G6 e6 => ?_⟩
            walk_at "rd"
            rw [t1N]
            rw [if_neg (by
              have := S.q1
              have e1 : sg 1 * (s1 + (0 - (N : Int)) * s0) = (N : Int) * s0 - s1 := by
                have : sg 1 = -1 := rfl
                rw [this]
                grind
              rw [e1]
              omega)]
            rw [hU]
            exact ⟨e5.trans e6, _, rfl, fun _ z => by omega⟩
          · have h1 : i = 1 := by omega
            subst h1
            refine ⟨s, hg, _, [0, (N : Int)], N, 1, rfl, e5 _ _ hs4, e5 _ _ hg4, S.sz, fun x hx => ?_, by simp, by simp, fun q hq => ?_, by simp; omega, fun G6 e6 => ?_⟩
            · simp only [List.mem_cons, List.not_mem_nil, or_false] at hx
              rcases hx with rfl | rfl
              · decide
              · omega
            · have : q = 0 := by omega
              subst this
              simp
            walk_at "rd"
            rw [t2N]
            rw [if_neg (by
              have e1 : sg 1 * ((s2 + (1 - 0) * s1) + (0 - (N : Int)) * (s1 + (0 - 0) * s0)) = ((N : Int) - 1) * s1 - s2 := by
                have : sg 1 = -1 := rfl
                rw [this]
                grind
              rw [e1]
              omega)]
            rw [hU]
            exact ⟨e5.trans e6, _, rfl, fun _ z => hF (by omega) z⟩
        | _ + 2, hx => simp at hx
      · intro σ' G5 h
        rw [hU] at h
        obtain ⟨e5, z, rfl, hF⟩ := h
        walk_at "rd"
        rw [hP]
        exact ⟨(e.trans e24).trans e5, _, _, rfl, fun z => hF (by simp) (by omega)⟩
    · intro σ' G h
      rw [hP] at h
      obtain ⟨e, z2, z3, rfl, h2⟩ := h
      walk_at "rd"
      exact (k G e).1 (h2 rfl)
theorem lcElP {g : TG} {te : TE} {vs : List Nat} {σ : L2.St} {H1 : Hp} {Dd : Addr} {Q : VK} {a : Addr} {xs : List V} (R : Nat → V → Hp → Prop) (hR : ∀ i y H H', Kp H H' → R i y H → R i y H') (hD : H1 Dd = none) (hx : SqL K H1 a xs) (hz : xs.length ≤ 100000) (hm : GMono g)
    (hs : ∀ (i : Nat) y T H, xs[i]? = some y → Ex H1 H → H T = some (.tup [.int (i : Nat), y]) → g (.ref T) (wipe σ vs) H fun σ2 H2 => wipe σ2 vs = wipe σ vs ∧ tmE te σ2 H2 fun y H4 => Ex H H4 ∧ R i y H4)
    (hd : LcEnd H1 Dd xs.length R Q) : LcW (Ite K a) g tYes (tmE te) vs σ H1 Dd Q :=
  lcP (walk_enum (K := K) (a := a) (xs := xs)) R hR hD (fun H e => sqL_ex hx e) hz hm (fun i x y T H _ h1 h2 e t => by
    cases h1
    exact hs i y T H h2 e t) hd
theorem prm0 (N : Nat) : prm N 0 = 1 := rfl
theorem prm1 (N : Nat) : prm N 1 = (N : Int) := by
  show 1 * ((N : Int) - ((0 : Nat) : Int)) = N
  simp
theorem prm2 (N : Nat) : prm N 2 = (N : Int) * ((N : Int) - 1) := by
  show 1 * ((N : Int) - ((0 : Nat) : Int)) * ((N : Int) - ((1 : Nat) : Int)) = _
  simp
def sumsL (cs : List Int) (N : Nat) : List Int := (List.range cs.length).map fun j => yesF cs j * prm N j
def spSums (K : PySem.W.Frag) : Sp := fun vs H Q _ => ∃ (p : Addr) (cs : List Int) (N : Nat), vs = [.ref p, .int (N : Int)] ∧ SqT K H p (cs.map V.int) ∧ NumL cs 3 (2 ^ 110) ∧ 2 ≤ N ∧ N < 2 ^ 1000 ∧ ∀ l H', Ex H H' → H' l = some (.lst ((sumsL cs N).map V.int)) → Q (.ref l) H'
theorem scSums : FnScope ["counts", "slips", "j", "chance"] ["counts", "slips"] (defScope (top 27)) := ⟨rfl, rfl, rfl, by decide +kernel, rfl, by decide +kernel, by decide +kernel⟩
theorem has_sums (B : Bi mg) (c_perm : mg "perm" = some (.builtin "math.perm")) (hyes_sums : Has P w K mg base "yes_sums" 1 ["counts"] (spYes K)) (D : Df K mg "row_sums" (top 27) ["counts", "slips"]) : Has P w K mg base "row_sums" 2 ["counts", "slips"] (spSums K) := by
  have sc := scSums
  refine .of D fun f fd F => F.ok sc (fun vs H Q E h => ?_) (fun cdv A outer s H vs Q E hr h => ?_)
  · obtain ⟨p, cs, N, rfl, _⟩ := h
    rfl
  · obtain ⟨p, cs, N, rfl, hp, hN, n2, bN, k⟩ := h
    refine ⟨_, (pss_one (ps_ret (pe_lc (own := [("j", 2), ("chance", 3)]) (g := gTup K 2 (gCons (gName 2) (gCons (gName 3) gNil))) (tt := tYes) rfl sc.nd (pi_enum (by rfl) B.enumerate (pa_cons (pe_has hyes_sums (hr.mono (by decide)) (pa_cons (pv 0) pa_nil)) pa_nil)) (blkOk_by (N := (["counts", "slips", "j", "chance"] : List Str)) (sc := defScope (top 27)) (by decide +kernel)) (fun _ _ _ _ _ => (pg_tup rfl (pgs_cons (pg_name (i := 2) sc.nd rfl (by first | exact Or.inl rfl | exact Or.inr rfl)) (pgs_cons (pg_name (i := 3) sc.nd rfl (by first | exact Or.inl rfl | exact Or.inr rfl)) pgs_nil)))) (fun _ _ _ _ _ => pts_nil) (fun _ _ _ _ _ => (PE.mon (pe_op op_mulS (pv 3) (pe_callBfun cr_perm (by rfl) c_perm (pa_cons (pv 1) (pa_cons (pv 2) pa_nil))))))))), ?_⟩
    walk_at "rd"
    rw [r_enumL]
    walk_at "rd"
    refine ⟨p, cs, 2, rfl, hp, hN, by decide, by decide, fun l G e hl => ⟨l, rfl, ⟨_, .of hl⟩, fun Dd hD => ?_⟩⟩
    have lY : (((List.range (2 + 1)).map (yesF cs)).map V.int).length = 3 := by simp
    have getY : ∀ i < 3, (((List.range (2 + 1)).map (yesF cs)).map V.int)[i]? = some (.int (yesF cs i)) := fun i hi => by
      rw [List.getElem?_map, List.getElem?_map, List.getElem?_range (by omega)]
      rfl
    refine lcElP (fun i y _ => y = .int (yesF cs i * prm N i)) (fun _ _ _ _ _ h => h) hD (.of hl) (by rw [lY]; omega) (gm_tup (gm_cons gm_name (gm_cons gm_name gm_nil))) ?_ ?_
    · intro i y T G3 hy e3 hT
      have hi : i < 3 := by rw [← lY]; exact (List.getElem?_eq_some_iff.mp hy).1
      rw [getY i hi] at hy
      cases hy
      walk_at "rd"
      refine ⟨_, .of hT, rfl, ?_⟩
      walk_at "rd"
      obtain ⟨R1, hR1⟩ : ∃ R : VK, R = fun v H' => v = .int (yesF cs i * prm N i) ∧ H' = G3 := ⟨_, rfl⟩
      refine ⟨R1, ?_, fun v H' h => by rw [hR1] at h; obtain ⟨rfl, rfl⟩ := h; exact ⟨Ex.refl _, rfl⟩⟩
      walk_at "rd"
      refine ⟨N, i, rfl, by omega, by omega, Nat.lt_of_lt_of_le bN (Nat.pow_le_pow_right (by decide) (by decide)), ?_⟩
      walk_at "rd"
      have yl := yes_le (j := i) (n := 2) hN (by decide) (by omega)
      have nb : ((N : Int)).natAbs < 2 ^ 1000 := by rw [Int.natAbs_natCast]; exact bN
      have pb : (prm N i).natAbs < 2 ^ 2001 := by
        have : i = 0 ∨ i = 1 ∨ i = 2 := by omega
        rcases this with rfl | rfl | rfl
        · rw [prm0]
          exact Nat.lt_of_lt_of_le (show ((1 : Int)).natAbs < 2 ^ 1 by decide) (Nat.pow_le_pow_right (by decide) (by decide))
        · rw [prm1]
          exact Nat.lt_of_lt_of_le nb (Nat.pow_le_pow_right (by decide) (by decide))
        · rw [prm2]
          exact lt2_mono (wide_lt (a := 1000) (b := 1000) nb (by omega)) (by decide)
      refine ⟨cmul 131 2001 (by omega) pb, ?_⟩
      rw [hR1]
      exact ⟨rfl, rfl⟩
    · intro G3 ys e3 hy hly hr3
      rw [lY] at hly
      rw [ints_of hly hr3] at hy
      refine k Dd G3 (e.trans e3) ?_
      rw [hy]
      unfold sumsL
      rw [hN.1]
def S0 (cs : List Int) : Int := 2 * (cs.getD 0 0 + cs.getD 1 0 + cs.getD 2 0)
def S1 (cs : List Int) (N : Nat) : Int := (cs.getD 1 0 + 2 * cs.getD 2 0) * N
def S2 (cs : List Int) (N : Nat) : Int := 2 * cs.getD 2 0 * ((N : Int) * ((N : Int) - 1))
def comeB (cs : List Int) (N : Nat) : Bool := decide (2 ≤ N) && decide (0 ≤ fF (S0 cs) (S1 cs N) (S2 cs N) (atF (S0 cs) (S1 cs N) N))
theorem three_of {cs : List Int} {b : Int} (h : NumL cs 3 b) : ∃ c0 c1 c2, cs = [c0, c1, c2] ∧ (0 ≤ c0 ∧ c0 ≤ b) ∧ (0 ≤ c1 ∧ c1 ≤ b) ∧ (0 ≤ c2 ∧ c2 ≤ b) := by
  match cs, h with
  | [a, b', c], h => exact ⟨a, b', c, rfl, h.2 a (by simp), h.2 b' (by simp), h.2 c (by simp)⟩
  | [], h => exact absurd h.1 (by simp)
  | [_], h => exact absurd h.1 (by simp)
  | [_, _], h => exact absurd h.1 (by simp)
  | _ :: _ :: _ :: _ :: _, h => exact absurd h.1 (by simp)
theorem sums_eq {cs : List Int} {N : Nat} (h : NumL cs 3 (2 ^ 110)) : sumsL cs N = [S0 cs, S1 cs N, S2 cs N] := by
  obtain ⟨c0, c1, c2, rfl, _⟩ := three_of h
  have f0 : Builtin.Math.factorialNat 0 = 1 := by decide +kernel
  have f1 : Builtin.Math.factorialNat 1 = 1 := by decide +kernel
  have f2 : Builtin.Math.factorialNat 2 = 2 := by decide +kernel
  have r3 : List.range 3 = [0, 1, 2] := rfl
  simp only [sumsL, S0, S1, S2, List.length_cons, List.length_nil, r3, List.map_cons, List.map_nil, yesF, wayS, prm0, prm1, prm2, f0, f1, f2]
  simp [chs, r3, f0, f1, f2]
  grind
theorem sums_ok {cs : List Int} {N : Nat} (h : NumL cs 3 (2 ^ 110)) (s0 : 0 < cs.sum) (n2 : 2 ≤ N) (bN : N < 2 ^ 1000) : Sums2 (S0 cs) (S1 cs N) (S2 cs N) N ∧ 0 ≤ ((N : Int) - 1) * S1 cs N - S2 cs N := by
  obtain ⟨c0, c1, c2, rfl, h0, h1, h2⟩ := three_of h
  have es : ([c0, c1, c2] : List Int).sum = c0 + c1 + c2 := by simp; omega
  rw [es] at s0
  have nb : ((N : Int)).natAbs < 2 ^ 1000 := by rw [Int.natAbs_natCast]; exact bN
  simp only [S0, S1, S2, List.getD_cons_zero, List.getD_cons_succ]
  refine ⟨⟨by omega, Int.mul_nonneg (by omega) (by omega), ?_, n2, ?_, ?_, ?_, bN⟩, ?_⟩
  · rw [Int.mul_comm]
    exact Int.mul_le_mul_of_nonneg_left (by omega) (by omega)
  · exact Nat.lt_of_lt_of_le (show _ < 2 ^ 120 by omega) (Nat.pow_le_pow_right (by decide) (by decide))
  · exact lt2_mono (wide_lt (a := 120) (b := 1000) (by omega) nb) (by decide)
  · have q1 : ((N : Int) - 1).natAbs < 2 ^ 1000 := by omega
    exact lt2_mono (wide_lt (a := 120) (b := 2000) (by omega) (wide_lt nb q1)) (by decide)
  · have : ((N : Int) - 1) * ((c1 + 2 * c2) * N) - 2 * c2 * ((N : Int) * ((N : Int) - 1)) = ((N : Int) - 1) * (N * c1) := by grind
    rw [this]
    exact Int.mul_nonneg (by omega) (Int.mul_nonneg (by omega) (by omega))
def spDoes (K : PySem.W.Frag) (C : Addr) : Sp := fun vs H Q _ => ∃ (x : V) (ps : List Int) (N : Nat), vs = [x, .int (N : Int)] ∧ IsRow K C H x ps ∧ NumL ps 3 (2 ^ 110) ∧ 0 < ps.sum ∧ N < 2 ^ 1000 ∧ ∀ H', Ex H H' → Q (.bl (comeB ps N)) H'
theorem scDoes : FnScope ["row", "slips"] ["row", "slips"] (defScope (top 25)) := ⟨rfl, rfl, rfl, by decide +kernel, rfl, by decide +kernel, by decide +kernel⟩
theorem has_does {C : Addr} (B : Bi mg) (RT : RowT P w K mg base C) (hrow_sums : Has P w K mg base "row_sums" 2 ["counts", "slips"] (spSums K)) (hbroken_points : Has P w K mg base "broken_points" 6 ["sums", "slips"] (spBroken K)) (D : Df K mg "does_come" (top 25) ["row", "slips"]) : Has P w K mg base "does_come" 7 ["row", "slips"] (spDoes K C) := by
  have sc := scDoes
  refine .of D fun f fd F => F.ok sc (fun vs H Q E h => ?_) (fun cdv A outer s H vs Q E hr h => ?_)
  · obtain ⟨x, ps, N, rfl, _⟩ := h
    rfl
  · obtain ⟨x, ps, N, rfl, hrow, hN, sp, bN, k⟩ := h
    refine ⟨_, (pss_one (ps_ret (pe_and (pe_cmpR op_ge (pv 1) (kDraws RT (hr.mono (by decide)) (pv 0)) (nomark _)) (pe_one (pe_cmpR op_isN (pe_has hbroken_points (hr.mono (by decide)) (pa_cons (pe_has hrow_sums (hr.mono (by decide)) (pa_cons (kCounts RT (hr.mono (by decide)) (pv 0)) (pa_cons (pv 1) pa_nil))) (pa_cons (pv 1) pa_nil))) pe_non (nomark _)))))), ?_⟩
    walk_at "rd"
    have l3 := hN.1
    refine ⟨ps, hrow, ?_⟩
    unfold comeB at k
    by_cases h2 : 2 ≤ N
    · rw [if_pos (by omega)]
      refine ⟨ps, hrow, fun y ⟨p, ey, hS⟩ => ?_⟩
      subst ey
      refine ⟨p, ps, N, rfl, hS, hN, h2, bN, fun l G e hl => ?_⟩
      rw [sums_eq hN] at hl
      obtain ⟨so, sx⟩ := sums_ok hN sp h2 bN
      refine ⟨l, _, _, _, N, rfl, hl, so, sx, fun G2 e2 => ⟨fun hF => ?_, fun hF q => ?_⟩⟩
      · have := k G2 (e.trans e2)
        rw [decide_eq_true h2, decide_eq_true hF] at this
        exact this
      · have := k G2 (e.trans e2)
        rw [decide_eq_true h2, decide_eq_false (by omega)] at this
        exact this
    · rw [if_neg (by omega)]
      have := k H (Ex.refl _)
      rw [decide_eq_false h2, Bool.false_and] at this
      exact this
def spChk (K : PySem.W.Frag) (C : Addr) : Sp := fun vs H Q _ => ∃ (x : V) (ps : List Int) (N : Nat), vs = [x, .int (N : Int)] ∧ IsRow K C H x ps ∧ 1 ≤ N ∧ N ≤ 10 ^ 30 ∧ Q .non H
def spComes (K : PySem.W.Frag) (C : Addr) : Sp := fun vs H Q _ => ∃ (x : V) (ps : List Int) (N : Nat), vs = [x, .int (N : Int)] ∧ IsRow K C H x ps ∧ NumL ps 3 (2 ^ 110) ∧ 0 < ps.sum ∧ 1 ≤ N ∧ N ≤ 10 ^ 30 ∧ ∀ H', Ex H H' → Q (.bl (comeB ps N)) H'
end

section
variable {P : Program} {w : World} {K : PySem.W.Frag} {mg : Str → Option Value} {base : Heap}
/-! ### _place, _side, _lower_root, _about of any numbers -/
theorem lcIfG {tt : TT} {te : TE} {vs : List Nat} {σ : L2.St} {H1 : Hp} {Dd p : Addr} {Q : VK} {j : Nat} (T : Int → Bool) {M : List Int} (hD : H1 Dd = none) (hT : H1 p = some (.lst (M.map V.int))) (hz : M.length ≤ 1000)
    (hw : ∀ x, wipe ((wipe σ vs).set j (some x)) vs = wipe σ vs)
    (hs : ∀ (a : Int) (H : Hp) (S : Bool → Hp → Prop), a ∈ M → Ex H1 H → (∀ H3, Ex H H3 → S (T a) H3) → tt ((wipe σ vs).set j (some (.int a))) H S)
    (hv : ∀ (x : V) (H : Hp) (S : VK), S x H → te ((wipe σ vs).set j (some x)) H S)
    (hd : ∀ H, Ex H1 H → H Dd = some (.lst ((M.filter T).map V.int)) → Q (.ref Dd) H) : LcW (Itl K p) (gName j) tt (tmE te) vs σ H1 Dd Q := by
  refine lc_list (xs := M.map V.int) (fun i H => Ex H1 H ∧ H Dd = some (.lst (((M.take i).filter T).map V.int))) ⟨Ex.new hD, upd_same⟩ (fun i H _ h => .of (h.1 _ _ hT)) (fun i x H hi h => ?_) (fun H h => ?_)
  · obtain ⟨e, hA⟩ := h
    rw [List.getElem?_map] at hi
    cases ha : M[i]? with
    | none => rw [ha] at hi; cases hi
    | some a =>
      rw [ha] at hi
      cases hi
      have etk : M.take (i + 1) = M.take i ++ [a] := by rw [List.take_add_one, ha]; rfl
      have lacc : ((M.take i).filter T).length ≤ 1000 := by
        refine Nat.le_trans (List.length_filter_le _ _) ?_
        rw [List.length_take]
        omega
      refine ⟨hw _, hs a H _ (List.mem_of_getElem? ha) e fun H3 e3 => ?_⟩
      have e13 := e.trans e3
      rw [etk, List.filter_append]
      cases hT2 : T a with
      | true =>
        rw [if_pos rfl]
        refine ⟨fun y H' => y = .int a ∧ H' = H3, hv _ _ _ ⟨rfl, rfl⟩, ?_⟩
        rintro y H' ⟨rfl, rfl⟩
        refine ⟨_, e3 _ _ hA, Nat.lt_of_lt_of_le (show _ < 1000000 by rw [List.length_map]; omega) (by decide), fun b o hb => ?_, ?_⟩
        · rw [upd_ne (ne_of_none hb hD)]
          exact e13 _ _ hb
        · have f1 : [a].filter T = [a] := by simp [hT2]
          rw [upd_same, f1, List.map_append]
          rfl
      | false =>
        rw [if_neg (by decide)]
        have f1 : [a].filter T = [] := by simp [hT2]
        rw [f1, List.append_nil]
        exact ⟨e13, e3 _ _ hA⟩
  · obtain ⟨e, hA⟩ := h
    rw [List.length_map, List.take_length] at hA
    exact hd H e hA
theorem bls_ofG {α : Type} {L : List α} {f : α → Bool} {ys : List V} (hl : ys.length = L.length) (h : ∀ (i : Nat) y, ys[i]? = some y → ∃ r, L[i]? = some r ∧ y = .bl (f r)) : ys = (L.map f).map V.bl := by
  apply List.ext_getElem?
  intro i
  rw [List.getElem?_map, List.getElem?_map]
  by_cases hi : i < ys.length
  · obtain ⟨r, hr, e⟩ := h i _ (List.getElem?_eq_getElem hi)
    rw [List.getElem?_eq_getElem hi, hr, e]
    rfl
  · rw [List.getElem?_eq_none (by omega), List.getElem?_eq_none (by omega)]
    rfl
theorem all_idmG {α : Type} {L : List α} {f : α → Bool} : (L.map f).all id = L.all f := by simp [List.all_map, Function.comp_def]
def placeF (ts : List Int) (a : Int) : Int := ts.foldl (fun a o => if o ≤ a then a + 1 else a) a
def spPlaceG : Sp := fun vs H Q _ => ∃ (p : Addr) (a : Int) (ts : List Int), vs = [.int a, .ref p] ∧ H p = some (.lst (ts.map V.int)) ∧ Q (.int (placeF ts a)) H
theorem has_placeG (B : Bi mg) (D : Df K mg "_place" (top 35) ["at", "taken"]) : Has P w K mg base "_place" 1 ["at", "taken"] spPlaceG := by
  have sc : FnScope ["at", "taken", "one"] ["at", "taken"] (defScope (top 35)) := ⟨rfl, rfl, rfl, by decide +kernel, rfl, by decide +kernel, by decide +kernel⟩
  refine .of D fun f fd F => F.ok sc (fun vs H Q E h => ?_) (fun cdv A outer s H vs Q E hr h => ?_)
  · obtain ⟨p, a, ts, rfl, _⟩ := h
    rfl
  · obtain ⟨p, a, ts, rfl, hp, k⟩ := h
    refine ⟨_, (pss_cons (ps_for PassesOwn.never rfl (pi_list (pv 1)) (pg_name (i := 2) sc.nd rfl (by first | exact Or.inl rfl | exact Or.inr rfl))
      (pss_one (ps_if (pt_cmpR op_ge (pv 0) (pv 2) (nomark _)) (pss_one (ps_aug (i := 0) sc.nd rfl (by first | exact Or.inl rfl | exact Or.inr rfl) pe_int ip_add)) pss_nil)))
      (pss_one (ps_ret (pv 0)))), ?_⟩
    walk_at "rd"
    refine ⟨⟨_, .of hp⟩, ?_⟩
    obtain ⟨Pv, hP⟩ : ∃ P : Nat → L2.St → Hp → Prop, P = fun (i : Nat) σ' G => G = H ∧ ∃ z, σ' = [some (.int (placeF (ts.take i) a)), some (.ref p), z] := ⟨_, rfl⟩
    refine loopL (xs := ts.map V.int) Pv (by rw [hP]; exact ⟨rfl, _, rfl⟩) (fun i σ' G _ h => by rw [hP] at h; rw [h.1]; exact .of hp) (fun i x σ' G hx h => ?_) ?_
    · rw [hP] at h
      obtain ⟨rfl, z, rfl⟩ := h
      obtain ⟨c, hc, rfl⟩ := map_int_get hx
      have e : placeF (ts.take (i + 1)) a = if c ≤ placeF (ts.take i) a then placeF (ts.take i) a + 1 else placeF (ts.take i) a := by
        unfold placeF
        rw [List.take_add_one, hc, List.foldl_append]
        rfl
      walk_at "rd"
      split
      · rename_i hle
        rw [r_aug]
        walk_at "rd"
        refine ⟨_, _, rfl, rfl, ?_⟩
        rw [hP]
        dsimp only
        rw [e, if_pos hle]
        exact ⟨rfl, _, rfl⟩
      · rename_i hle
        rw [hP]
        dsimp only
        rw [e, if_neg hle]
        exact ⟨rfl, _, rfl⟩
    intro σ' G h
    rw [hP, List.length_map, List.take_of_length_le (Nat.le_refl _)] at h
    obtain ⟨rfl, z, rfl⟩ := h
    walk_at "rd"
    exact k
def sideF (r0 r1 a b : Int) (os : List Int) : Int :=
  if ((os.filter fun o => decide (o < a)).length : Int) % 2 = 1 then -1 else
    if 0 ≤ b * r0 - r1 ∧ 0 ≤ r1 - a * r0 then 0 else if b * r0 - r1 < 0 ∧ os.all (fun o => decide (b < o)) = true then 1 else -1
def spSideG : Sp := fun vs H Q _ => ∃ (r p o : Addr) (r0 r1 a b : Int) (rr os : List Int), vs = [.ref r, .ref p, .ref o] ∧ H r = some (.lst ((r0 :: r1 :: rr).map V.int)) ∧ H p = some (.lst [.int a, .int b]) ∧ H o = some (.lst (os.map V.int)) ∧ os.length ≤ 100 ∧ r0.natAbs < 2 ^ 5000 ∧ a.natAbs < 2 ^ 5000 ∧ b.natAbs < 2 ^ 5000 ∧ ∀ H', Ex H H' → Q (.int (sideF r0 r1 a b os)) H'
theorem has_sideG (B : Bi mg) (D : Df K mg "_side" (top 36) ["rest", "pair", "others"]) : Has P w K mg base "_side" 1 ["rest", "pair", "others"] spSideG := by
  have sc : FnScope ["rest", "pair", "others", "at", "lower", "upper"] ["rest", "pair", "others"] (defScope (top 36)) := ⟨rfl, rfl, rfl, by decide +kernel, rfl, by decide +kernel, by decide +kernel⟩
  refine .of D fun f fd F => F.ok sc (fun vs H Q E h => ?_) (fun cdv A outer s H vs Q E hr h => ?_)
  · obtain ⟨r, p, o, r0, r1, a, b, rr, os, rfl, _⟩ := h
    rfl
  · obtain ⟨r, p, o, r0, r1, a, b, rr, os, rfl, hrr, hp, ho, l100, z0, za, zb, k⟩ := h
    refine ⟨_, (pss_cons (ps_if (pt_cmpR op_eq (pe_op op_mod (pe_callB (kLen (K := K)) (by rfl) B.len (by decide +kernel) (pa_cons (pe_lc (own := [("at", 3)]) (g := gName 3)  rfl sc.nd (pi_list (pv 2)) (blkOk_by (N := (["rest", "pair", "others", "at", "lower", "upper"] : List Str)) (sc := defScope (top 36)) (by decide +kernel)) (fun _ _ _ _ _ => (pg_name (i := 3) sc.nd rfl (by first | exact Or.inl rfl | exact Or.inr rfl))) (fun _ _ _ _ _ => pts_one (pt_cmpR op_lt (pv 3) (pe_ix (ixL (K := K)) (pv 1) pe_int (fun _ _ => rfl)) (nomark _))) (fun _ _ _ _ _ => (PE.mon (pv 3)))) pa_nil)) pe_int) pe_int (nomark _)) (pss_one (ps_ret (pe_un un_neg pe_int))) pss_nil)
      (pss_cons (ps_set (i := 4) sc.nd rfl (by first | exact Or.inl rfl | exact Or.inr rfl) (pe_op op_sub (pe_op op_mulS (pe_ix (ixL (K := K)) (pv 1) pe_int (fun _ _ => rfl)) (pe_ix (ixL (K := K)) (pv 0) pe_int (fun _ _ => rfl))) (pe_ix (ixL (K := K)) (pv 0) pe_int (fun _ _ => rfl))))
      (pss_cons (ps_set (i := 5) sc.nd rfl (by first | exact Or.inl rfl | exact Or.inr rfl) (pe_op op_sub (pe_ix (ixL (K := K)) (pv 0) pe_int (fun _ _ => rfl)) (pe_op op_mulS (pe_ix (ixL (K := K)) (pv 1) pe_int (fun _ _ => rfl)) (pe_ix (ixL (K := K)) (pv 0) pe_int (fun _ _ => rfl)))))
      (pss_cons (ps_if (PW.pt (pw_and (pt_cmpR op_ge (pv 4) pe_int (nomark _)) (pw_and1 (pt_cmpR op_ge (pv 5) pe_int (nomark _))))) (pss_one (ps_ret pe_int)) pss_nil)
      (pss_cons (ps_if (PW.pt (pw_and (pt_cmpR op_lt (pv 4) pe_int (nomark _)) (pw_and1 (pt_val (pe_callB (kAll (K := K) rfl) (by rfl) B.all (by decide +kernel) (pa_cons (pe_lc (own := [("at", 3)]) (g := gName 3) (tt := tYes) rfl sc.nd (pi_list (pv 2)) (blkOk_by (N := (["rest", "pair", "others", "at", "lower", "upper"] : List Str)) (sc := defScope (top 36)) (by decide +kernel)) (fun _ _ _ _ _ => (pg_name (i := 3) sc.nd rfl (by first | exact Or.inl rfl | exact Or.inr rfl))) (fun _ _ _ _ _ => pts_nil) (fun _ _ _ _ _ => (PE.mon (pe_cmpR op_gt (pv 3) (pe_ix (ixL (K := K)) (pv 1) pe_int (fun _ _ => rfl)) (nomark _))))) pa_nil)))))) (pss_one (ps_ret pe_int)) pss_nil)
      (pss_one (ps_ret (pe_un un_neg pe_int)))))))), ?_⟩
    walk_at "rd"
    have g0 : atI ((r0 :: r1 :: rr).map V.int) 0 = some (.int r0) := at_num (cs := r0 :: r1 :: rr) (k := 0) rfl
    have g1 : atI ((r0 :: r1 :: rr).map V.int) 1 = some (.int r1) := at_num (cs := r0 :: r1 :: rr) (k := 1) rfl
    refine ⟨⟨_, .of ho⟩, fun Dd hD => lcIfG (fun o => decide (o < a)) hD ho (by omega) (fun _ => rfl) ?_ (fun x G S q => by walk_at "rd"; exact q) ?_⟩
    · intro c G S _ e q
      have := q G (Ex.refl _)
      walk_at "rd"
      refine q_ixL (.of (e _ _ hp)) (v := .int a) rfl ?_
      walk_at "rd"
      exact this
    intro G e t
    refine ⟨Dd, rfl, _, .inl (.of t), by decide, ?_⟩
    rw [List.length_map]
    have ef : sideF r0 r1 a b os = sideF r0 r1 a b os := rfl
    conv at ef => lhs; unfold sideF
    by_cases hodd : ((os.filter fun o => decide (o < a)).length : Int) % 2 = 1
    · rw [if_pos hodd]
      rw [if_pos hodd] at ef
      rw [← ef] at k
      exact k G e
    rw [if_neg hodd] at ef ⊢
    refine q_ixL (.of (e _ _ hp)) (v := .int b) rfl ?_
    refine q_ixL (.of (e _ _ hrr)) g0 ?_
    walk_at "rd"
    refine ⟨cmul 5000 5000 zb z0, ?_⟩
    refine q_ixL (.of (e _ _ hrr)) g1 ?_
    walk_at "rd"
    refine q_ixL (.of (e _ _ hrr)) g1 ?_
    refine q_ixL (.of (e _ _ hp)) (v := .int a) rfl ?_
    refine q_ixL (.of (e _ _ hrr)) g0 ?_
    walk_at "rd"
    refine ⟨cmul 5000 5000 za z0, ?_⟩
    walk_at "rd"
    have tail : (¬ (0 ≤ b * r0 - r1 ∧ 0 ≤ r1 - a * r0)) → b * r0 - r1 < 0 → ∀ (D2 : Addr), G D2 = none → LcW (Itl K o) (gName 3) tYes (tmE (tOp (rI0 fun i j => V.bl (decide (j < i))) (tVar 3) (tOp (rIxL K) (tVar 1) (tC (V.int 1))))) [3]
        [some (V.ref r), some (V.ref p), some (V.ref o), none, some (V.int (b * r0 - r1)), some (V.int (r1 - a * r0))] G D2 fun x H1 =>
        rAll K [x] H1 fun x H1 => ∃ k, x = V.bl k ∧ if k = true then Q (V.int 1) H1 else Q (V.int (-1)) H1 := by
      intro hno hneg D2 hD2
      rw [if_neg hno] at ef
      refine lcLn (fun i y _ => ∃ c, os[i]? = some c ∧ y = .bl (decide (b < c))) (fun _ _ _ _ _ h => h) hD2 (.of (e _ _ ho)) (by rw [List.length_map]; omega) (fun _ => rfl) ?_ ?_
      · intro i y G3 hy e3
        obtain ⟨c, hc, rfl⟩ := map_int_get hy
        obtain ⟨R1, hR1⟩ : ∃ R : VK, R = fun v H' => Ex G3 H' ∧ v = .bl (decide (b < c)) := ⟨_, rfl⟩
        refine ⟨R1, ?_, fun v H' h => by rw [hR1] at h; exact ⟨h.1, _, hc, h.2⟩⟩
        walk_at "rd"
        refine q_ixL (.of (e3 _ _ (e _ _ hp))) (v := .int b) rfl ?_
        walk_at "rd"
        rw [hR1]
        exact ⟨Ex.refl _, rfl⟩
      · intro G3 ys e3 hys lys hr3
        refine ⟨D2, os.map fun c => decide (b < c), rfl, ?_, ?_⟩
        · rw [← bls_ofG (f := fun c => decide (b < c)) (by rw [lys, List.length_map]) hr3]
          exact .of hys
        · rw [all_idmG]
          refine ⟨_, rfl, ?_⟩
          by_cases ha : os.all (fun o => decide (b < o)) = true
          · rw [if_pos ha]
            rw [if_pos ⟨hneg, ha⟩] at ef
            rw [← ef] at k
            exact k _ (e.trans e3)
          · rw [if_neg ha]
            rw [if_neg (fun h => ha h.2)] at ef
            rw [← ef] at k
            exact k _ (e.trans e3)
    by_cases h1 : 0 ≤ b * r0 - r1
    · rw [if_pos h1]
      by_cases h2 : 0 ≤ r1 - a * r0
      · rw [if_pos h2]
        rw [if_pos ⟨h1, h2⟩] at ef
        rw [← ef] at k
        exact k _ e
      · have h3 : ¬ b * r0 - r1 < 0 := by omega
        rw [if_neg h2, if_neg h3]
        rw [if_neg (fun h => h2 h.2), if_neg (fun h => h3 h.1)] at ef
        rw [← ef] at k
        exact k _ e
    · rw [if_neg h1, if_pos (by omega)]
      exact ⟨⟨_, .of (e _ _ ho)⟩, tail (fun h => h1 h.1) (by omega)⟩
end

section
variable {P : Program} {w : World} {K : PySem.W.Frag} {mg : Str → Option Value} {base : Heap}
/-! ### _lower_root, _about of any numbers -/
def dblF (s0 s1 s2 : Int) : Int := s0 * (s2 + s1) - s1 * s1
def midF (s0 s1 s2 s3 : Int) : Int := dblF s0 s1 s2 + s0 * (s3 + 2 * s2) - s2 * s1
def lastF (s1 s2 s3 : Int) : Int := s1 * (s3 + 2 * s2) - s2 * (s2 + s1)
def discF (s0 s1 s2 s3 : Int) : Int := midF s0 s1 s2 s3 * midF s0 s1 s2 s3 - 4 * dblF s0 s1 s2 * lastF s1 s2 s3
def lowerF (s0 s1 s2 s3 : Int) : Int :=
  if dblF s0 s1 s2 = 0 then s1 / s0 else (midF s0 s1 s2 s3 - ((PySem.Float64.isqrt (discF s0 s1 s2 s3).toNat : Nat) : Int)) / (2 * dblF s0 s1 s2)
theorem sqrt_one {a m r : Nat} (h1 : m * m ≤ a) (h2 : a < (m + 1) * (m + 1)) (h3 : r * r ≤ a) (h4 : a < (r + 1) * (r + 1)) : m = r := by
  have q1 : ¬ m + 1 ≤ r := fun h => by
    have := Nat.mul_le_mul h h
    omega
  have q2 : ¬ r + 1 ≤ m := fun h => by
    have := Nat.mul_le_mul h h
    omega
  omega
theorem szm {x y : Int} {a b c : Nat} (hx : x.natAbs < 2 ^ a) (hy : y.natAbs < 2 ^ b) (h : a + b ≤ c) : (x * y).natAbs < 2 ^ c := by
  rw [Int.natAbs_mul]
  refine Nat.lt_of_lt_of_le ?_ (Nat.pow_le_pow_right (by decide) h)
  rw [Nat.pow_add]
  exact Nat.mul_lt_mul_of_lt_of_le hx (Nat.le_of_lt hy) (Nat.two_pow_pos b)
theorem sza {x y : Int} {a c : Nat} (hx : x.natAbs < 2 ^ a) (hy : y.natAbs < 2 ^ a) (h : a + 1 ≤ c) : (x + y).natAbs < 2 ^ c := by
  refine Nat.lt_of_lt_of_le ?_ (Nat.pow_le_pow_right (by decide) h)
  rw [Nat.pow_succ]
  omega
theorem szs {x y : Int} {a c : Nat} (hx : x.natAbs < 2 ^ a) (hy : y.natAbs < 2 ^ a) (h : a + 1 ≤ c) : (x - y).natAbs < 2 ^ c := by
  refine Nat.lt_of_lt_of_le ?_ (Nat.pow_le_pow_right (by decide) h)
  rw [Nat.pow_succ]
  omega
theorem szu {x : Int} {a c : Nat} (hx : x.natAbs < 2 ^ a) (h : a ≤ c) : x.natAbs < 2 ^ c := Nat.lt_of_lt_of_le hx (Nat.pow_le_pow_right (by decide) h)
structure Sz4 (s0 s1 s2 s3 : Int) (b : Nat) : Prop where
  z0 : s0.natAbs < 2 ^ b
  z1 : s1.natAbs < 2 ^ b
  z2 : s2.natAbs < 2 ^ b
  z3 : s3.natAbs < 2 ^ b
structure DSz (s0 s1 s2 s3 : Int) (b : Nat) : Prop where
  m1 : (s2 + s1).natAbs < 2 ^ (b + 1)
  m2 : (s3 + 2 * s2).natAbs < 2 ^ (b + 2)
  d : (dblF s0 s1 s2).natAbs < 2 ^ (2 * b + 2)
  m : (midF s0 s1 s2 s3).natAbs < 2 ^ (2 * b + 4)
  t : (lastF s1 s2 s3).natAbs < 2 ^ (2 * b + 3)
  q : (discF s0 s1 s2 s3).natAbs < 2 ^ (4 * b + 9)
theorem dsz {s0 s1 s2 s3 : Int} {b : Nat} (z : Sz4 s0 s1 s2 s3 b) : DSz s0 s1 s2 s3 b := by
  have m1 : (s2 + s1).natAbs < 2 ^ (b + 1) := sza z.z2 z.z1 (Nat.le_refl _)
  have w2 : (2 * s2).natAbs < 2 ^ (b + 1) := by
    rw [Int.natAbs_mul, Nat.pow_succ, show (2 : Int).natAbs = 2 from rfl]
    have := z.z2
    omega
  have m2 : (s3 + 2 * s2).natAbs < 2 ^ (b + 2) := sza (a := b + 1) (szu z.z3 (by omega)) w2 (by omega)
  have d : (dblF s0 s1 s2).natAbs < 2 ^ (2 * b + 2) := szs (a := 2 * b + 1) (szm z.z0 m1 (by omega)) (szm z.z1 z.z1 (by omega)) (by omega)
  have m : (midF s0 s1 s2 s3).natAbs < 2 ^ (2 * b + 4) := szs (a := 2 * b + 3) (sza (a := 2 * b + 2) d (szm z.z0 m2 (by omega)) (by omega)) (szm z.z2 z.z1 (by omega)) (by omega)
  have t : (lastF s1 s2 s3).natAbs < 2 ^ (2 * b + 3) := szs (a := 2 * b + 2) (szm z.z1 m2 (by omega)) (szm z.z2 m1 (by omega)) (by omega)
  have q : (discF s0 s1 s2 s3).natAbs < 2 ^ (4 * b + 9) := szs (a := 4 * b + 8) (szm m m (by omega)) (szm (a := 2 * b + 5) (by
    rw [Int.natAbs_mul, show (4 : Int).natAbs = 4 from rfl]
    have e : 2 ^ (2 * b + 5) = 8 * 2 ^ (2 * b + 2) := by rw [show 2 * b + 5 = (2 * b + 2) + 3 by omega, Nat.pow_add]; omega
    omega) t (by omega)) (by omega)
  exact ⟨m1, m2, d, m, t, q⟩
/-- what the lower root asks: a first sum above none, and two roots -/
def Roots (s0 s1 s2 s3 : Int) : Prop := 0 < s0 ∧ 0 ≤ dblF s0 s1 s2 ∧ 0 ≤ discF s0 s1 s2 s3
def spLowerG : Sp := fun vs H Q _ => ∃ (l : Addr) (s0 s1 s2 s3 : Int) (b : Nat), vs = [.ref l] ∧ H l = some (.lst ([s0, s1, s2, s3].map V.int)) ∧ Sz4 s0 s1 s2 s3 b ∧ b ≤ 490 ∧ Roots s0 s1 s2 s3 ∧ ∀ H', Ex H H' → Q (.int (lowerF s0 s1 s2 s3)) H'
theorem times_zero {s0 s1 s2 s3 : Int} : timesL [s0, s1, s2, s3] [0] = [s1, s2 + s1, s3 + 2 * s2] := by
  show [s1 + (((0 : Nat) : Int) - 0) * s0, s2 + (((1 : Nat) : Int) - 0) * s1, s3 + (((2 : Nat) : Int) - 0) * s2] = _
  simp
theorem has_lowerG (B : Bi mg) (c_isqrt : mg "isqrt" = some (.builtin "math.isqrt")) (htimes : Has P w K mg base "times" 1 ["sums", "points"] (spTimes K)) (D : Df K mg "_lower_root" (top 38) ["sums"]) : Has P w K mg base "_lower_root" 2 ["sums"] spLowerG := by
  have sc : FnScope ["sums", "more", "double", "middle", "last"] ["sums"] (defScope (top 38)) := ⟨rfl, rfl, rfl, by decide +kernel, rfl, by decide +kernel, by decide +kernel⟩
  refine .of D fun f fd F => F.ok sc (fun vs H Q E h => ?_) (fun cdv A outer s H vs Q E hr h => ?_)
  · obtain ⟨l, s0, s1, s2, s3, b, rfl, _⟩ := h
    rfl
  · obtain ⟨l, s0, s1, s2, s3, b, rfl, hl, z, b490, ⟨s0p, dp, qp⟩, k⟩ := h
    have S := dsz z
    refine ⟨_, (pss_cons (ps_set (i := 1) sc.nd rfl (by first | exact Or.inl rfl | exact Or.inr rfl) (pe_has htimes (hr.mono (by decide)) (pa_cons (pv 0) (pa_cons (pe_lstN (pa_cons pe_int pa_nil)) pa_nil))))
      (pss_cons (ps_set (i := 2) sc.nd rfl (by first | exact Or.inl rfl | exact Or.inr rfl) (pe_op op_sub (pe_op op_mulS (pe_ix (ixL (K := K)) (pv 0) pe_int (fun _ _ => rfl)) (pe_ix (ixL (K := K)) (pv 1) pe_int (fun _ _ => rfl))) (pe_op op_mulS (pe_ix (ixL (K := K)) (pv 0) pe_int (fun _ _ => rfl)) (pe_ix (ixL (K := K)) (pv 1) pe_int (fun _ _ => rfl)))))
      (pss_cons (ps_if (pt_cmpR op_eq (pv 2) pe_int (nomark _)) (pss_one (ps_ret (pe_op op_fdivW (pe_ix (ixL (K := K)) (pv 0) pe_int (fun _ _ => rfl)) (pe_ix (ixL (K := K)) (pv 0) pe_int (fun _ _ => rfl))))) pss_nil)
      (pss_cons (ps_set (i := 3) sc.nd rfl (by first | exact Or.inl rfl | exact Or.inr rfl) (pe_op op_sub (pe_op op_add (pv 2) (pe_op op_mulS (pe_ix (ixL (K := K)) (pv 0) pe_int (fun _ _ => rfl)) (pe_ix (ixL (K := K)) (pv 1) pe_int (fun _ _ => rfl)))) (pe_op op_mulS (pe_ix (ixL (K := K)) (pv 0) pe_int (fun _ _ => rfl)) (pe_ix (ixL (K := K)) (pv 1) pe_int (fun _ _ => rfl)))))
      (pss_cons (ps_set (i := 4) sc.nd rfl (by first | exact Or.inl rfl | exact Or.inr rfl) (pe_op op_sub (pe_op op_mulS (pe_ix (ixL (K := K)) (pv 0) pe_int (fun _ _ => rfl)) (pe_ix (ixL (K := K)) (pv 1) pe_int (fun _ _ => rfl))) (pe_op op_mulS (pe_ix (ixL (K := K)) (pv 0) pe_int (fun _ _ => rfl)) (pe_ix (ixL (K := K)) (pv 1) pe_int (fun _ _ => rfl)))))
      (pss_one (ps_ret (pe_op op_fdivW (pe_op op_sub (pv 3) (pe_callBfun cr_isqrt (by rfl) c_isqrt (pa_cons (pe_op op_sub (pe_op op_mulS (pv 3) (pv 3)) (pe_op op_mulS (pe_op op_mulS pe_int (pv 2)) (pv 4))) pa_nil))) (pe_op op_mulS pe_int (pv 2)))))))))), ?_⟩
    walk_at "rd"
    refine ⟨by decide, fun p0 G0 n0 e0 t0 => ?_⟩
    refine ⟨l, p0, [s0, s1, s2, s3], [0], b, 1, rfl, e0 _ _ hl, t0, ?_, fun x hx => by rw [List.mem_singleton.mp hx]; decide, by simp, by simp, by omega, by omega, fun q G1 e1 t1 => ?_⟩
    · intro x hx
      simp only [List.mem_cons, List.not_mem_nil, or_false] at hx
      rcases hx with rfl | rfl | rfl | rfl
      · exact z.z0
      · exact z.z1
      · exact z.z2
      · exact z.z3
    rw [times_zero] at t1
    have hl1 := e1 _ _ (e0 _ _ hl)
    have e01 := e0.trans e1
    walk_at "rd"
    refine q_ixL (.of hl1) (v := .int (s0)) rfl ?_
    refine q_ixL (.of t1) (v := .int (s2 + s1)) rfl ?_
    walk_at "rd"
    refine ⟨cmul (b) (b + 1) z.z0 S.m1 (by omega), ?_⟩
    walk_at "rd"
    refine q_ixL (.of hl1) (v := .int (s1)) rfl ?_
    refine q_ixL (.of t1) (v := .int (s1)) rfl ?_
    walk_at "rd"
    refine ⟨cmul (b) (b) z.z1 z.z1 (by omega), ?_⟩
    walk_at "rd"
    have z0 : s0.natAbs < 2 ^ 8990 := szu z.z0 (by omega)
    have ed : s0 * (s2 + s1) - s1 * s1 = dblF s0 s1 s2 := rfl
    rw [ed]
    by_cases hd : dblF s0 s1 s2 = 0
    · rw [if_pos hd]
      refine q_ixL (.of hl1) (v := .int (s1)) rfl ?_
      refine q_ixL (.of hl1) (v := .int (s0)) rfl ?_
      walk_at "rd"
      refine ⟨⟨s0p, log_lt z0⟩, ?_⟩
      have el : lowerF s0 s1 s2 s3 = s1 / s0 := by unfold lowerF; rw [if_pos hd]
      rw [el] at k
      exact k _ e01
    rw [if_neg hd]
    refine q_ixL (.of hl1) (v := .int (s0)) rfl ?_
    refine q_ixL (.of t1) (v := .int (s3 + 2 * s2)) rfl ?_
    walk_at "rd"
    refine ⟨cmul (b) (b + 2) z.z0 S.m2 (by omega), ?_⟩
    walk_at "rd"
    refine q_ixL (.of hl1) (v := .int (s2)) rfl ?_
    refine q_ixL (.of t1) (v := .int (s1)) rfl ?_
    walk_at "rd"
    refine ⟨cmul (b) (b) z.z2 z.z1 (by omega), ?_⟩
    walk_at "rd"
    refine q_ixL (.of hl1) (v := .int (s1)) rfl ?_
    refine q_ixL (.of t1) (v := .int (s3 + 2 * s2)) rfl ?_
    walk_at "rd"
    refine ⟨cmul (b) (b + 2) z.z1 S.m2 (by omega), ?_⟩
    walk_at "rd"
    refine q_ixL (.of hl1) (v := .int (s2)) rfl ?_
    refine q_ixL (.of t1) (v := .int (s2 + s1)) rfl ?_
    walk_at "rd"
    refine ⟨cmul (b) (b + 1) z.z2 S.m1 (by omega), ?_⟩
    walk_at "rd"
    have em : dblF s0 s1 s2 + s0 * (s3 + 2 * s2) - s2 * s1 = midF s0 s1 s2 s3 := rfl
    have et : s1 * (s3 + 2 * s2) - s2 * (s2 + s1) = lastF s1 s2 s3 := rfl
    rw [em, et]
    have four : (4 * dblF s0 s1 s2).natAbs < 2 ^ (2 * b + 5) := by
      rw [Int.natAbs_mul, show (4 : Int).natAbs = 4 from rfl]
      have e : 2 ^ (2 * b + 5) = 8 * 2 ^ (2 * b + 2) := by rw [show 2 * b + 5 = (2 * b + 2) + 3 by omega, Nat.pow_add]; omega
      have := S.d
      omega
    refine ⟨cmul _ _ S.m S.m (by omega), cmul 3 _ (by decide) S.d (by omega), cmul _ _ four S.t (by omega), ?_⟩
    have eq : midF s0 s1 s2 s3 * midF s0 s1 s2 s3 - 4 * dblF s0 s1 s2 * lastF s1 s2 s3 = discF s0 s1 s2 s3 := rfl
    rw [eq]
    have sq := S.q
    have sq2 : (discF s0 s1 s2 s3).natAbs < 2 ^ 2000 := szu sq (by omega)
    refine ⟨(discF s0 s1 s2 s3).toNat, by rw [Int.toNat_of_nonneg qp], by omega, fun m h1 h2 => ?_⟩
    obtain ⟨r1, r2⟩ := PySem.Float64.isqrt_spec (discF s0 s1 s2 s3).toNat
    rw [sqrt_one h1 h2 r1 r2]
    walk_at "rd"
    refine ⟨cmul 2 _ (by decide) S.d (by omega), ?_⟩
    walk_at "rd"
    have two : (2 * dblF s0 s1 s2).natAbs < 2 ^ 8990 := by
      have e : (2 : Nat) ^ (2 * b + 5) ≤ 2 ^ 8990 := Nat.pow_le_pow_right (by decide) (by omega)
      rw [Int.natAbs_mul] at four ⊢
      rw [show (4 : Int).natAbs = 4 from rfl] at four
      rw [show (2 : Int).natAbs = 2 from rfl]
      omega
    refine ⟨⟨by omega, log_lt two⟩, ?_⟩
    have el : lowerF s0 s1 s2 s3 = (midF s0 s1 s2 s3 - ((PySem.Float64.isqrt (discF s0 s1 s2 s3).toNat : Nat) : Int)) / (2 * dblF s0 s1 s2) := by unfold lowerF; rw [if_neg hd]
    rw [el] at k
    exact k _ e01
/-! ### _about -/
def nearG (ss : List Int) (m : Int) : Int := if 0 < ss.getD 0 0 then (if m = 1 then ss.getD 1 0 / ss.getD 0 0 else lowerF (ss.getD 0 0) (ss.getD 1 0) (ss.getD 2 0) (ss.getD 3 0)) else 0
def aboutF (ss : List Int) (m : Int) (ts : List Int) : Int := nearG ss m - ((ts.filter fun o => decide (o ≤ nearG ss m)).length : Int)
/-- the sums that _about takes for one pair, and for two -/
def AbOk (ss : List Int) (m : Int) (b : Nat) : Prop := (m = 1 ∧ ∃ s0 s1, ss = [s0, s1] ∧ s0.natAbs < 2 ^ b ∧ s1.natAbs < 2 ^ b) ∨ (m = 2 ∧ ∃ s0 s1 s2 s3, ss = [s0, s1, s2, s3] ∧ Sz4 s0 s1 s2 s3 b ∧ (0 < s0 → Roots s0 s1 s2 s3))
def spAboutG : Sp := fun vs H Q _ => ∃ (l t : Addr) (ss ts : List Int) (m : Int) (b : Nat), vs = [.ref l, .int m, .ref t] ∧ H l = some (.lst (ss.map V.int)) ∧ H t = some (.lst (ts.map V.int)) ∧ ts.length ≤ 100 ∧ b ≤ 3000 ∧ (m = 2 → b ≤ 490) ∧ AbOk ss m b ∧ ∀ H', Ex H H' → Q (.int (aboutF ss m ts)) H'
theorem has_aboutG (B : Bi mg) (h_lower_root : Has P w K mg base "_lower_root" 2 ["sums"] spLowerG) (D : Df K mg "_about" (top 37) ["sums", "many", "taken"]) : Has P w K mg base "_about" 3 ["sums", "many", "taken"] spAboutG := by
  have sc : FnScope ["sums", "many", "taken", "near", "one"] ["sums", "many", "taken"] (defScope (top 37)) := ⟨rfl, rfl, rfl, by decide +kernel, rfl, by decide +kernel, by decide +kernel⟩
  refine .of D fun f fd F => F.ok sc (fun vs H Q E h => ?_) (fun cdv A outer s H vs Q E hr h => ?_)
  · obtain ⟨l, t, ss, ts, m, b, rfl, _⟩ := h
    rfl
  · obtain ⟨l, t, ss, ts, m, b, rfl, hl, ht, l100, b3, b490, ok, k⟩ := h
    refine ⟨_, (pss_cons (ps_set (i := 3) sc.nd rfl (by first | exact Or.inl rfl | exact Or.inr rfl) pe_int)
      (pss_cons (ps_if (pt_cmpR op_gt (pe_ix (ixL (K := K)) (pv 0) pe_int (fun _ _ => rfl)) pe_int (nomark _)) (pss_one (ps_set (i := 3) sc.nd rfl (by first | exact Or.inl rfl | exact Or.inr rfl) (PE.mon (pe_ifExp (pt_cmpR op_eq (pv 1) pe_int (nomark _)) (pe_op op_fdivW (pe_ix (ixL (K := K)) (pv 0) pe_int (fun _ _ => rfl)) (pe_ix (ixL (K := K)) (pv 0) pe_int (fun _ _ => rfl))) (pe_has h_lower_root (hr.mono (by decide)) (pa_cons (pv 0) pa_nil)))))) pss_nil)
      (pss_one (ps_ret (pe_op op_sub (pv 3) (pe_callB (kLen (K := K)) (by rfl) B.len (by decide +kernel) (pa_cons (pe_lc (own := [("one", 4)]) (g := gName 4)  rfl sc.nd (pi_list (pv 2)) (blkOk_by (N := (["sums", "many", "taken", "near", "one"] : List Str)) (sc := defScope (top 37)) (by decide +kernel)) (fun _ _ _ _ _ => (pg_name (i := 4) sc.nd rfl (by first | exact Or.inl rfl | exact Or.inr rfl))) (fun _ _ _ _ _ => pts_one (pt_cmpR op_le (pv 4) (pv 3) (nomark _))) (fun _ _ _ _ _ => (PE.mon (pv 4)))) pa_nil))))))), ?_⟩
    walk_at "rd"
    have rest : ∀ (G : Hp), Ex H G → ∀ (Dd : Addr), G Dd = none → LcW (Itl K t) (gName 4) (tTest (tOp (rI0 fun i j => V.bl (decide (i ≤ j))) (tVar 4) (tVar 3))) (tmE (tVar 4)) [4] [some (V.ref l), some (V.int m), some (V.ref t), some (V.int (nearG ss m)), none] G Dd
        fun x H1 => ∃ p, x = V.ref p ∧ ∃ x, (SqL K H1 p x ∨ SqT K H1 p x) ∧ Q (V.int (nearG ss m - ↑x.length)) H1 := by
      intro G e Dd hD
      refine lcIfG (fun o => decide (o ≤ nearG ss m)) hD (e _ _ ht) (by omega) (fun _ => rfl) ?_ (fun x G S q => by walk_at "rd"; exact q) ?_
      · intro c G2 S _ e2 q
        have := q G2 (Ex.refl _)
        walk_at "rd"
        exact this
      · intro G2 e2 t2
        refine ⟨Dd, rfl, _, .inl (.of t2), ?_⟩
        rw [List.length_map]
        exact k _ (e.trans e2)
    have first : ∃ s0 s1 rr, ss = s0 :: s1 :: rr := by
      rcases ok with ⟨_, s0, s1, rfl, _⟩ | ⟨_, s0, s1, s2, s3, rfl, _⟩
      · exact ⟨s0, s1, [], rfl⟩
      · exact ⟨s0, s1, _, rfl⟩
    obtain ⟨s0, s1, rr, hss⟩ := first
    have g0 : atI (ss.map V.int) 0 = some (.int s0) := at_num (cs := ss) (k := 0) (by rw [hss]; rfl)
    have g1 : atI (ss.map V.int) 1 = some (.int s1) := at_num (cs := ss) (k := 1) (by rw [hss]; rfl)
    have d0 : ss.getD 0 0 = s0 := by rw [hss]; rfl
    have d1 : ss.getD 1 0 = s1 := by rw [hss]; rfl
    refine q_ixL (.of hl) g0 ?_
    walk_at "rd"
    by_cases hp : 0 < s0
    · rw [if_pos hp]
      obtain ⟨R0, hR⟩ : ∃ R : VK, R = fun y G' => Ex H G' ∧ y = .int (nearG ss m) := ⟨_, rfl⟩
      refine ⟨R0, ?_, fun y G' h => ?_⟩
      · walk_at "rd"
        rcases ok with ⟨hm, a0, a1, e, z0, z1⟩ | ⟨hm, a0, a1, a2, a3, e, z, rt⟩
        · rw [hm, if_pos rfl]
          refine q_ixL (.of hl) g1 ?_
          refine q_ixL (.of hl) g0 ?_
          walk_at "rd"
          have : s0 = a0 := by rw [hss] at e; exact (List.cons.inj e).1
          rw [← this] at z0
          refine ⟨⟨hp, log_lt (szu z0 (by omega))⟩, ?_⟩
          rw [hR]
          refine ⟨Ex.refl _, ?_⟩
          unfold nearG
          rw [d0, d1, if_pos hp, if_pos hm]
        · rw [if_neg (by omega)]
          have : s0 = a0 := by rw [hss] at e; exact (List.cons.inj e).1
          refine ⟨l, a0, a1, a2, a3, b, rfl, by rw [← e]; exact hl, z, b490 hm, rt (by omega), fun G' e' => ?_⟩
          rw [hR]
          refine ⟨e', ?_⟩
          unfold nearG
          rw [d0, if_pos hp, if_neg (by omega), e, this]
          rfl
      · rw [hR] at h
        obtain ⟨e, rfl⟩ := h
        walk_at "rd"
        exact ⟨⟨_, .of (e _ _ ht)⟩, rest G' e⟩
    · rw [if_neg hp]
      have hn : nearG ss m = 0 := by unfold nearG; rw [d0, if_neg hp]
      rw [hn] at rest
      exact ⟨⟨_, .of ht⟩, rest H (Ex.refl _)⟩
end

section
variable {P : Program} {w : World} {K : PySem.W.Frag} {mg : Str → Option Value} {base : Heap}
/-! ### _pairs of any numbers, as a function -/
def srtF (l : List Int) : List Int := l.mergeSort fun a b => decide (a ≤ b)
theorem srt_one {l ns : List Int} (h1 : ns.Perm l) (h2 : ns.Pairwise (· ≤ ·)) : ns = srtF l := by
  refine List.Perm.eq_of_pairwise (le := (· ≤ ·)) (fun a b _ _ h3 h4 => by omega) h2 ?_ (h1.trans (List.mergeSort_perm _ _).symm)
  have := List.pairwise_mergeSort (le := fun a b : Int => decide (a ≤ b)) (fun a b c h3 h4 => by simp at h3 h4 ⊢; omega) (fun a b => by simp; omega) l
  exact this.imp fun h => of_decide_eq_true h
theorem srt_len (l : List Int) : (srtF l).length = l.length := (List.mergeSort_perm _ _).length_eq
theorem srt_mem {l : List Int} {x : Int} (h : x ∈ srtF l) : x ∈ l := (List.mergeSort_perm _ _).mem_iff.mp h
def mxF (a b : Int) : Int := if b > a then b else a
def mnF (a b : Int) : Int := if b < a then b else a
def goF (body : Int → Int × List Int) : Nat → Int → Int → Int → Int → List Int
  | 0, _, _, _, _ => []
  | n + 1, low, high, a, step =>
    if (body a).1 = 0 ∨ high ≤ low then (body a).2 else
      if 0 < (body a).1 then goF body n (a + 1) high (mxF (a - step) (mnF (a + step) ((a + 1 + high) / 2))) (2 * step)
      else goF body n low (a - 1) (mxF (a - step) (mnF (a + step) ((low + (a - 1)) / 2))) (2 * step)
def bodyF (inner : List Int → List Int → List Int) (ss ts : List Int) (a : Int) : Int × List Int :=
  let p := placeF ts a
  let r := placeF ts (a + 1)
  let os := inner (timesL ss [p, r]) (srtF (ts ++ [p, r]))
  (sideF ((timesL ss os).getD 0 0) ((timesL ss os).getD 1 0) p r os, srtF ([p, r] ++ os))
def highF (m : Nat) (most : Int) (ts : List Int) : Int := most - (ts.length : Int) - 2 * (m : Int) + 1
def pairsF : Nat → List Int → Int → Int → List Int → List Int
  | 0, _, _, _, _ => []
  | m + 1, ss, least, most, ts =>
    goF (bodyF (fun ss2 ts2 => pairsF m ss2 least most ts2) ss ts) ((highF (m + 1) most ts - least).toNat + 1) least (highF (m + 1) most ts) (mxF least (mnF (highF (m + 1) most ts) (aboutF ss ((m + 1 : Nat) : Int) ts))) 1
/-- where the search stands -/
def InR (lo hi low high a : Int) : Prop := lo ≤ low ∧ high ≤ hi ∧ ((low ≤ a ∧ a ≤ high) ∨ (high ≤ low ∧ lo - 1 ≤ a ∧ a ≤ mxF lo hi))
theorem inR_at {lo hi low high a : Int} (h : InR lo hi low high a) : lo - 1 ≤ a ∧ a ≤ mxF lo hi := by
  unfold InR mxF at *
  split at h <;> omega
theorem inR_up {lo hi low high a step : Int} (h : InR lo hi low high a) (h2 : low < high) (h3 : 1 ≤ step) : InR lo hi (a + 1) high (mxF (a - step) (mnF (a + step) ((a + 1 + high) / 2))) := by
  unfold InR mxF mnF at *
  repeat' split
  all_goals omega
theorem inR_dn {lo hi low high a step : Int} (h : InR lo hi low high a) (h2 : low < high) (h3 : 1 ≤ step) : InR lo hi low (a - 1) (mxF (a - step) (mnF (a + step) ((low + (a - 1)) / 2))) := by
  unfold InR mxF mnF at *
  repeat' split
  all_goals omega
theorem inR_0 {lo hi n : Int} : InR lo hi lo hi (mxF lo (mnF hi n)) := by
  unfold InR mxF mnF
  repeat' split
  all_goals omega
theorem goF_ok {body : Int → Int × List Int} {lo hi : Int} {Pr : List Int → Prop} (hb : ∀ a, lo - 1 ≤ a → a ≤ mxF lo hi → Pr (body a).2) : ∀ (n : Nat) (low high a step : Int), InR lo hi low high a → high - low < n → 0 < n → 1 ≤ step → Pr (goF body n low high a step)
  | 0, _, _, _, _, _, _, h, _ => absurd h (by decide)
  | n + 1, low, high, a, step, hr, hn, _, hs => by
    unfold goF
    have ha := inR_at hr
    split
    · exact hb a ha.1 ha.2
    · rename_i hno
      have hlt : low < high := by omega
      have h0 := hr
      unfold InR at h0
      split
      · exact goF_ok hb n _ _ _ _ (inR_up hr hlt hs) (by omega) (by omega) (by omega)
      · exact goF_ok hb n _ _ _ _ (inR_dn hr hlt hs) (by omega) (by omega) (by omega)
theorem place_le : ∀ (ts : List Int) (a : Int), a ≤ placeF ts a ∧ placeF ts a ≤ a + (ts.length : Int)
  | [], a => by simp [placeF]
  | t :: ts, a => by
    have h := place_le ts (if t ≤ a then a + 1 else a)
    have e : placeF (t :: ts) a = placeF ts (if t ≤ a then a + 1 else a) := rfl
    rw [e, List.length_cons]
    by_cases ht : t ≤ a
    · rw [if_pos ht] at h ⊢
      omega
    · rw [if_neg ht] at h ⊢
      omega
theorem pairs_len : ∀ (m : Nat) (ss : List Int) (least most : Int) (ts : List Int), (pairsF m ss least most ts).length = 2 * m
  | 0, _, _, _, _ => rfl
  | m + 1, ss, least, most, ts => by
    unfold pairsF
    refine goF_ok (Pr := fun l => l.length = 2 * (m + 1)) (lo := least) (hi := highF (m + 1) most ts) (fun a _ _ => ?_) _ _ _ _ _ inR_0 (by omega) (by omega) (by decide)
    unfold bodyF
    dsimp only
    rw [srt_len, List.length_append, pairs_len m]
    simp
    omega
theorem mx_le {a b c : Int} (h1 : a ≤ c) (h2 : b ≤ c) : mxF a b ≤ c := by
  unfold mxF
  split <;> assumption
theorem pairs_in : ∀ (m : Nat) (ss : List Int) (least most c : Int) (ts : List Int), least ≤ c → most ≤ c → ∀ x ∈ pairsF m ss least most ts, least - 1 ≤ x ∧ x ≤ c + 2 + (ts.length : Int) + 2 * (m : Int)
  | 0, _, _, _, _, _, _, _ => fun x h => by cases h
  | m + 1, ss, least, most, c, ts, h1, h2 => by
    unfold pairsF
    refine goF_ok (Pr := fun l => ∀ x ∈ l, least - 1 ≤ x ∧ x ≤ c + 2 + (ts.length : Int) + 2 * ((m + 1 : Nat) : Int)) (lo := least) (hi := highF (m + 1) most ts) (fun a ha1 ha2 => ?_) _ _ _ _ _ inR_0 (by omega) (by omega) (by decide)
    have ha3 : a ≤ c + 1 := Int.le_trans ha2 (mx_le (by omega) (by unfold highF; omega))
    unfold bodyF
    dsimp only
    intro x hx
    have hx := srt_mem hx
    have p1 := place_le ts a
    have p2 := place_le ts (a + 1)
    rcases List.mem_append.mp hx with hx | hx
    · simp only [List.mem_cons, List.not_mem_nil, or_false] at hx
      rcases hx with rfl | rfl <;> omega
    · have := pairs_in m _ least most c _ h1 h2 x hx
      rw [srt_len, List.length_append] at this
      simp only [List.length_cons, List.length_nil] at this
      omega
end

section
variable {P : Program} {w : World} {K : PySem.W.Frag} {mg : Str → Option Value} {base : Heap}
/-! ### the promise of _pairs -/
def spPairsG (m : Nat) : Sp := fun vs H Q _ => ∃ (s t : Addr) (ss ts : List Int) (least most : Int) (b c : Nat), vs = [.ref s, .int (m : Int), .int least, .int most, .ref t] ∧ H s = some (.lst (ss.map V.int)) ∧ H t = some (.lst (ts.map V.int)) ∧ ts.length + 2 * m ≤ 10 ∧
  ss.length = 2 * m ∧ SzL ss b ∧ b + m * (2 * c + 20) ≤ 3000 ∧ (m = 2 → b ≤ 490) ∧ 6 ≤ c ∧ c ≤ 400 ∧ least.natAbs < 2 ^ c ∧ most.natAbs < 2 ^ c ∧ (m = 0 ∨ AbOk ss (m : Int) b) ∧ ∀ q H', Ex H H' → H q = none → H' q = some (.lst ((pairsF m ss least most ts).map V.int)) → Q (.ref q) H'
theorem step_len (ss : List Int) (a : Int) : (stepL ss a).length = ss.length - 1 := by simp [stepL]
theorem szTimes : ∀ (ps ss : List Int) {b c : Nat}, SzL ss b → SzL ps c → ss.length ≤ 6 → SzL (timesL ss ps) (b + ps.length * (c + 4))
  | [], ss, b, c, h, _, _ => by
    rw [List.length_nil, Nat.zero_mul, Nat.add_zero]
    exact h
  | p :: ps, ss, b, c, h, hp, hl => by
    have h1 := h.step (hp p List.mem_cons_self) hl
    have h2 := szTimes ps (stepL ss p) h1 (fun x hx => hp x (List.mem_cons_of_mem _ hx)) (by rw [step_len]; omega)
    have e : b + (p :: ps).length * (c + 4) = b + c + 4 + ps.length * (c + 4) := by rw [List.length_cons, Nat.succ_mul]; omega
    rw [e]
    exact h2
theorem ok_pairs0G (B : Bi mg) (z_sorted : mg "sorted" = none) (h_about : Has P w K mg base "_about" 3 ["sums", "many", "taken"] spAboutG) (h_place : Has P w K mg base "_place" 1 ["at", "taken"] spPlaceG) (htimes : Has P w K mg base "times" 1 ["sums", "points"] (spTimes K)) (h_side : Has P w K mg base "_side" 1 ["rest", "pair", "others"] spSideG)
    (h_pairs : Has P w K mg base "_pairs" 2 ["sums", "many", "least", "most", "taken"] spNo) {f : Addr} {fd : FuncData} (F : Fun K "_pairs" "_pairs" (top 34) f fd) : FnOk P w K mg base CX0 4 f fd ["sums", "many", "least", "most", "taken"] (spPairsG 0) := by
  have sc := scPairs
  refine F.ok sc (fun vs H Q E h => ?_) (fun cdv A outer s H vs Q E hr h => ?_)
  · obtain ⟨s, t, ss, ts, least, most, b, c, rfl, _⟩ := h
    rfl
  · obtain ⟨s0, t, ss, ts, least, most, b, c, rfl, _, _, _, _, _, _, _, _, _, _, _, _, k⟩ := h
    refine ⟨_, (pss_cons (ps_if (pt_cmpR op_eq (pv 1) pe_int (nomark _)) (pss_one (ps_ret (pe_lstN pa_nil))) pss_nil)
      (pss_cons (ps_set (i := 5) sc.nd rfl (by first | exact Or.inl rfl | exact Or.inr rfl) (pv 2))
      (pss_cons (ps_set (i := 6) sc.nd rfl (by first | exact Or.inl rfl | exact Or.inr rfl) (pe_op op_add (pe_op op_sub (pe_op op_sub (pv 3) (pe_callB (kLen (K := K)) (by rfl) B.len (by decide +kernel) (pa_cons (pv 4) pa_nil))) (pe_op op_mulS pe_int (pv 1))) pe_int))
      (pss_cons (ps_set (i := 7) sc.nd rfl (by first | exact Or.inl rfl | exact Or.inr rfl) (pe_op op_fdivW (pe_op op_add (pv 5) (pv 6)) pe_int))
      (pss_cons (ps_set (i := 8) sc.nd rfl (by first | exact Or.inl rfl | exact Or.inr rfl) (pe_op op_add (pe_op op_sub (pv 6) (pv 5)) pe_int))
      (pss_cons (ps_if (pt_cmpR op_lt (pv 1) pe_int (nomark _)) (pss_cons (ps_set (i := 7) sc.nd rfl (by first | exact Or.inl rfl | exact Or.inr rfl) (pe_callB (call_max2 rfl) (by rfl) B.max (by decide +kernel) (pa_cons (pv 5) (pa_cons (pe_callB (call_min2 rfl) (by rfl) B.min (by decide +kernel) (pa_cons (pv 6) (pa_cons (pe_has h_about (hr.mono (by omega)) (pa_cons (pv 0) (pa_cons (pv 1) (pa_cons (pv 4) pa_nil)))) pa_nil))) pa_nil))))
      (pss_one (ps_set (i := 8) sc.nd rfl (by first | exact Or.inl rfl | exact Or.inr rfl) pe_int))) pss_nil)
      (pss_one (ps_while PassesOwn.never (PT.mon (pt_val pe_bl)) (pss_cons (ps_set (i := 9) sc.nd rfl (by first | exact Or.inl rfl | exact Or.inr rfl) (pe_lstN (pa_cons (pe_has h_place (hr.mono (by omega)) (pa_cons (pv 7) (pa_cons (pv 4) pa_nil))) (pa_cons (pe_has h_place (hr.mono (by omega)) (pa_cons (pe_op op_add (pv 7) pe_int) (pa_cons (pv 4) pa_nil))) pa_nil))))
      (pss_cons (ps_set (i := 10) sc.nd rfl (by first | exact Or.inl rfl | exact Or.inr rfl) (pe_has h_pairs (hr.mono (by omega)) (pa_cons (pe_has htimes (hr.mono (by omega)) (pa_cons (pv 0) (pa_cons (pv 9) pa_nil))) (pa_cons (pe_op op_sub (pv 1) pe_int) (pa_cons (pv 2) (pa_cons (pv 3) (pa_cons (pe_callB (kSrt (K := K)) (by rfl) z_sorted (by decide +kernel) (pa_cons (pe_lstN (kStar (K := K) (pv 4) (kStar (K := K) (pv 9) pa_nil))) pa_nil)) pa_nil)))))))
      (pss_cons (ps_set (i := 11) sc.nd rfl (by first | exact Or.inl rfl | exact Or.inr rfl) (pe_has h_side (hr.mono (by omega)) (pa_cons (pe_has htimes (hr.mono (by omega)) (pa_cons (pv 0) (pa_cons (pv 10) pa_nil))) (pa_cons (pv 9) (pa_cons (pv 10) pa_nil)))))
      (pss_cons (ps_if (PW.pt (pw_or (pt_cmpR op_eq (pv 11) pe_int (nomark _)) (pw_or1 (pt_cmpR op_ge (pv 5) (pv 6) (nomark _))))) (pss_one (ps_ret (pe_callB (kSrt (K := K)) (by rfl) z_sorted (by decide +kernel) (pa_cons (pe_lstN (kStar (K := K) (pv 9) (kStar (K := K) (pv 10) pa_nil))) pa_nil)))) pss_nil)
      (pss_cons (ps_if (pt_cmpR op_gt (pv 11) pe_int (nomark _)) (pss_one (ps_set (i := 5) sc.nd rfl (by first | exact Or.inl rfl | exact Or.inr rfl) (pe_op op_add (pv 7) pe_int))) (pss_one (ps_set (i := 6) sc.nd rfl (by first | exact Or.inl rfl | exact Or.inr rfl) (pe_op op_sub (pv 7) pe_int))))
      (pss_cons (ps_set (i := 7) sc.nd rfl (by first | exact Or.inl rfl | exact Or.inr rfl) (pe_callB (call_max2 rfl) (by rfl) B.max (by decide +kernel) (pa_cons (pe_op op_sub (pv 7) (pv 8)) (pa_cons (pe_callB (call_min2 rfl) (by rfl) B.min (by decide +kernel) (pa_cons (pe_op op_add (pv 7) (pv 8)) (pa_cons (pe_op op_fdivW (pe_op op_add (pv 5) (pv 6)) pe_int) pa_nil))) pa_nil))))
      (pss_one (ps_set (i := 8) sc.nd rfl (by first | exact Or.inl rfl | exact Or.inr rfl) (pe_op op_mulS pe_int (pv 8)))))))))))))))))), ?_⟩
    walk_at "rd"
    rw [if_pos (by rfl)]
    refine ⟨by decide, fun q G nq e tq => ?_⟩
    exact k q G e nq tq
theorem ok_pairsSG {m lv : Nat} (hm : m < 2) (hl : 3 ≤ lv) (B : Bi mg) (z_sorted : mg "sorted" = none) (h_about : Has P w K mg base "_about" 3 ["sums", "many", "taken"] spAboutG) (h_place : Has P w K mg base "_place" 1 ["at", "taken"] spPlaceG) (htimes : Has P w K mg base "times" 1 ["sums", "points"] (spTimes K)) (h_side : Has P w K mg base "_side" 1 ["rest", "pair", "others"] spSideG)
    (h_pairs : Has P w K mg base "_pairs" lv ["sums", "many", "least", "most", "taken"] (spPairsG m)) {f : Addr} {fd : FuncData} (F : Fun K "_pairs" "_pairs" (top 34) f fd) : FnOk P w K mg base CX0 (lv + 1) f fd ["sums", "many", "least", "most", "taken"] (spPairsG (m + 1)) := by
  have sc := scPairs
  have hr3 : ∀ {k : Nat} {A : Around}, Room (lv + 1) A → k ≤ lv + 1 → Room k A := fun h h2 => h.mono h2
  refine F.ok sc (fun vs H Q E h => ?_) (fun cdv A outer s H vs Q E hr h => ?_)
  · obtain ⟨s, t, ss, ts, least, most, b, c, rfl, _⟩ := h
    rfl
  · obtain ⟨s, t, ss, ts, least, most, b, c, rfl, hs, ht, t10, l2, zs, bc, hb2, c6, c400, zl, zm, ab, k⟩ := h
    refine ⟨_, (pss_cons (ps_if (pt_cmpR op_eq (pv 1) pe_int (nomark _)) (pss_one (ps_ret (pe_lstN pa_nil))) pss_nil)
      (pss_cons (ps_set (i := 5) sc.nd rfl (by first | exact Or.inl rfl | exact Or.inr rfl) (pv 2))
      (pss_cons (ps_set (i := 6) sc.nd rfl (by first | exact Or.inl rfl | exact Or.inr rfl) (pe_op op_add (pe_op op_sub (pe_op op_sub (pv 3) (pe_callB (kLen (K := K)) (by rfl) B.len (by decide +kernel) (pa_cons (pv 4) pa_nil))) (pe_op op_mulS pe_int (pv 1))) pe_int))
      (pss_cons (ps_set (i := 7) sc.nd rfl (by first | exact Or.inl rfl | exact Or.inr rfl) (pe_op op_fdivW (pe_op op_add (pv 5) (pv 6)) pe_int))
      (pss_cons (ps_set (i := 8) sc.nd rfl (by first | exact Or.inl rfl | exact Or.inr rfl) (pe_op op_add (pe_op op_sub (pv 6) (pv 5)) pe_int))
      (pss_cons (ps_if (pt_cmpR op_lt (pv 1) pe_int (nomark _)) (pss_cons (ps_set (i := 7) sc.nd rfl (by first | exact Or.inl rfl | exact Or.inr rfl) (pe_callB (call_max2 rfl) (by rfl) B.max (by decide +kernel) (pa_cons (pv 5) (pa_cons (pe_callB (call_min2 rfl) (by rfl) B.min (by decide +kernel) (pa_cons (pv 6) (pa_cons (pe_has h_about (hr.mono (by omega)) (pa_cons (pv 0) (pa_cons (pv 1) (pa_cons (pv 4) pa_nil)))) pa_nil))) pa_nil))))
      (pss_one (ps_set (i := 8) sc.nd rfl (by first | exact Or.inl rfl | exact Or.inr rfl) pe_int))) pss_nil)
      (pss_one (ps_while PassesOwn.never (PT.mon (pt_val pe_bl)) (pss_cons (ps_set (i := 9) sc.nd rfl (by first | exact Or.inl rfl | exact Or.inr rfl) (pe_lstN (pa_cons (pe_has h_place (hr.mono (by omega)) (pa_cons (pv 7) (pa_cons (pv 4) pa_nil))) (pa_cons (pe_has h_place (hr.mono (by omega)) (pa_cons (pe_op op_add (pv 7) pe_int) (pa_cons (pv 4) pa_nil))) pa_nil))))
      (pss_cons (ps_set (i := 10) sc.nd rfl (by first | exact Or.inl rfl | exact Or.inr rfl) (pe_has h_pairs (hr.mono (by omega)) (pa_cons (pe_has htimes (hr.mono (by omega)) (pa_cons (pv 0) (pa_cons (pv 9) pa_nil))) (pa_cons (pe_op op_sub (pv 1) pe_int) (pa_cons (pv 2) (pa_cons (pv 3) (pa_cons (pe_callB (kSrt (K := K)) (by rfl) z_sorted (by decide +kernel) (pa_cons (pe_lstN (kStar (K := K) (pv 4) (kStar (K := K) (pv 9) pa_nil))) pa_nil)) pa_nil)))))))
      (pss_cons (ps_set (i := 11) sc.nd rfl (by first | exact Or.inl rfl | exact Or.inr rfl) (pe_has h_side (hr.mono (by omega)) (pa_cons (pe_has htimes (hr.mono (by omega)) (pa_cons (pv 0) (pa_cons (pv 10) pa_nil))) (pa_cons (pv 9) (pa_cons (pv 10) pa_nil)))))
      (pss_cons (ps_if (PW.pt (pw_or (pt_cmpR op_eq (pv 11) pe_int (nomark _)) (pw_or1 (pt_cmpR op_ge (pv 5) (pv 6) (nomark _))))) (pss_one (ps_ret (pe_callB (kSrt (K := K)) (by rfl) z_sorted (by decide +kernel) (pa_cons (pe_lstN (kStar (K := K) (pv 9) (kStar (K := K) (pv 10) pa_nil))) pa_nil)))) pss_nil)
      (pss_cons (ps_if (pt_cmpR op_gt (pv 11) pe_int (nomark _)) (pss_one (ps_set (i := 5) sc.nd rfl (by first | exact Or.inl rfl | exact Or.inr rfl) (pe_op op_add (pv 7) pe_int))) (pss_one (ps_set (i := 6) sc.nd rfl (by first | exact Or.inl rfl | exact Or.inr rfl) (pe_op op_sub (pv 7) pe_int))))
      (pss_cons (ps_set (i := 7) sc.nd rfl (by first | exact Or.inl rfl | exact Or.inr rfl) (pe_callB (call_max2 rfl) (by rfl) B.max (by decide +kernel) (pa_cons (pe_op op_sub (pv 7) (pv 8)) (pa_cons (pe_callB (call_min2 rfl) (by rfl) B.min (by decide +kernel) (pa_cons (pe_op op_add (pv 7) (pv 8)) (pa_cons (pe_op op_fdivW (pe_op op_add (pv 5) (pv 6)) pe_int) pa_nil))) pa_nil))))
      (pss_one (ps_set (i := 8) sc.nd rfl (by first | exact Or.inl rfl | exact Or.inr rfl) (pe_op op_mulS pe_int (pv 8)))))))))))))))))), ?_⟩
    walk_at "rd"
    rw [if_neg (by omega)]
    refine ⟨_, .inl (.of ht), cmulL, ⟨by decide, by decide⟩, ?_⟩
    rw [if_pos (by omega), List.length_map]
    have eh : most - (ts.length : Int) - 2 * ((m + 1 : Nat) : Int) + 1 = highF (m + 1) most ts := rfl
    rw [eh]
    obtain ⟨hi, hhi⟩ : ∃ hi, hi = highF (m + 1) most ts := ⟨_, rfl⟩
    rw [← hhi]
    have ab1 : AbOk ss ((m + 1 : Nat) : Int) b := ab.resolve_left (by omega)
    have b3 : b ≤ 3000 := by omega
    have hb2' : ((m + 1 : Nat) : Int) = 2 → b ≤ 490 := fun h => hb2 (by omega)
    refine ⟨s, t, ss, ts, _, b, rfl, hs, ht, by omega, b3, hb2', ab1, fun G e => ⟨_, rfl, ?_⟩⟩
    obtain ⟨body, hbody⟩ : ∃ body, body = bodyF (fun ss2 ts2 => pairsF m ss2 least most ts2) ss ts := ⟨_, rfl⟩
    have eres : pairsF (m + 1) ss least most ts = goF body ((hi - least).toNat + 1) least hi (mxF least (mnF hi (aboutF ss ((m + 1 : Nat) : Int) ts))) 1 := by
      rw [hbody, hhi]
      rfl
    obtain ⟨RES, hRES⟩ : ∃ RES, RES = pairsF (m + 1) ss least most ts := ⟨_, rfl⟩
    rw [← hRES] at k eres
    obtain ⟨Wv, hW⟩ : ∃ Wv : Nat → L2.St → Hp → Prop, Wv = fun (fuel : Nat) σ' G' => Ex H G' ∧ ∃ (low high a step : Int) (z9 z10 z11 : Option V), InR least hi low high a ∧ high - low < (fuel : Int) ∧ 0 < fuel ∧ 1 ≤ step ∧ RES = goF body fuel low high a step ∧
      σ' = [some (.ref s), some (.int ((m + 1 : Nat) : Int)), some (.int least), some (.int most), some (.ref t), some (.int low), some (.int high), some (.int a), some (.int step), z9, z10, z11] := ⟨_, rfl⟩
    refine ⟨Wv, ⟨(hi - least).toNat + 1, by rw [hW]; exact ⟨e, _, _, _, _, _, _, _, inR_0, by omega, by omega, by decide, eres, rfl⟩⟩, ?_⟩
    intro fuel σ' G' h
    rw [hW] at h
    obtain ⟨eG, low, high, a, step, z9, z10, z11, hin, hf, hf0, hs1, eR, rfl⟩ := h
    refine ⟨fun bb G2 => bb = true ∧ G2 = G', ⟨_, rfl, rfl, rfl⟩, fun bb G2 hb => ?_⟩
    rw [hb.1, hb.2]
    show if true = true then _ else _
    rw [if_pos rfl]
    refine ⟨fun σ2 H2 => ∃ fuel2, fuel2 < fuel ∧ Wv fuel2 σ2 H2, fun σ2 H2 h => h, ?_⟩
    walk_at "rd"
    have ht1 := eG _ _ ht
    have hs1' := eG _ _ hs
    have c64 : 64 ≤ 2 ^ c := Nat.le_trans (show 64 ≤ 2 ^ 6 by decide) (Nat.pow_le_pow_right (by decide) c6)
    have cc : 2 ^ (c + 1) = 2 * 2 ^ c := by rw [Nat.pow_succ]; omega
    have ina := inR_at hin
    have amx : a ≤ ((2 ^ c : Nat) : Int) + 1 := Int.le_trans ina.2 (mx_le (by omega) (by rw [hhi]; unfold highF; omega))
    refine ⟨t, a, ts, rfl, ht1, ?_⟩
    walk_at "rd"
    refine ⟨t, a + 1, ts, rfl, ht1, ?_⟩
    obtain ⟨p, hp⟩ : ∃ p, p = placeF ts a := ⟨_, rfl⟩
    obtain ⟨r, hrr⟩ : ∃ r, r = placeF ts (a + 1) := ⟨_, rfl⟩
    have pl1 := place_le ts a
    have pl2 := place_le ts (a + 1)
    rw [← hp] at pl1 ⊢
    rw [← hrr] at pl2 ⊢
    refine ⟨by decide, fun pr G2 n2 e2 t2 => ?_⟩
    walk_at "rd"
    have zp : p.natAbs < 2 ^ (c + 1) := by omega
    have zr : r.natAbs < 2 ^ (c + 1) := by omega
    have zP : SzL [p, r] (c + 1) := fun x hx => by
      simp only [List.mem_cons, List.not_mem_nil, or_false] at hx
      rcases hx with rfl | rfl
      · exact zp
      · exact zr
    refine ⟨s, pr, ss, [p, r], b, c + 1, rfl, e2 _ _ hs1', t2, zs, zP, by omega, by simp, by omega, by omega, fun q3 G3 e3 t3 => ?_⟩
    try dsimp only
    rw [r_star]
    walk_at "rd"
    refine ⟨_, .inr (.of (e3 _ _ (e2 _ _ ht1))), ?_⟩
    try dsimp only
    rw [r_star]
    walk_at "rd"
    refine ⟨[.int p, .int r], .inr (.of (e3 _ _ t2)), ?_⟩
    refine ⟨Nat.le_trans (show _ ≤ 100 by simp; omega) (by decide), fun l4 G4 n4 e4 t4 => ?_⟩
    have t4' : G4 l4 = some (.lst ((ts ++ [p, r]).map V.int)) := by rw [t4]; simp
    refine ⟨l4, ts ++ [p, r], rfl, .of t4', fun ns' q1 q2 l5 G5 n5 e5 t5 => ?_⟩
    rw [srt_one q1 q2] at t5
    have zt : SzL (timesL ss [p, r]) (b + 2 * (c + 1 + 4)) := szTimes [p, r] ss zs zP (by omega)
    have lt : (timesL ss [p, r]).length = 2 * m := by rw [times_len]; simp; omega
    have ab2 : m = 0 ∨ AbOk (timesL ss [p, r]) (m : Int) (b + 2 * (c + 1 + 4)) := by
      by_cases h0 : m = 0
      · exact .inl h0
      · have h1 : m = 1 := by omega
        rw [h1] at lt ⊢
        match hq : timesL ss [p, r], lt with
        | [x0, x1], _ =>
          rw [hq] at zt
          exact .inr (.inl ⟨rfl, x0, x1, rfl, zt _ (by simp), zt _ (by simp)⟩)
    have bc2 : b + 2 * (c + 1 + 4) + m * (2 * c + 20) ≤ 3000 := by
      have := Nat.succ_mul m (2 * c + 20)
      rw [show m + 1 = Nat.succ m from rfl, this] at bc
      omega
    obtain ⟨OS, hOS⟩ : ∃ OS, OS = pairsF m (timesL ss [p, r]) least most (srtF (ts ++ [p, r])) := ⟨_, rfl⟩
    have lO : OS.length = 2 * m := by rw [hOS, pairs_len]
    have zO : SzL OS (c + 1) := fun x hx => by
      rw [hOS] at hx
      have := pairs_in m _ least most ((2 ^ c : Nat) : Int) _ (by omega) (by omega) x hx
      rw [srt_len, List.length_append] at this
      simp only [List.length_cons, List.length_nil] at this
      omega
    refine ⟨q3, l5, timesL ss [p, r], srtF (ts ++ [p, r]), least, most, b + 2 * (c + 1 + 4), c, by rw [show ((m + 1 : Nat) : Int) - 1 = (m : Int) by omega], (e4.trans e5) _ _ t3, t5, by rw [srt_len, List.length_append]; simp; omega, lt, zt, bc2, fun h => by omega, c6, c400, zl, zm, ab2, fun q6 G6 e6 n6 t6 => ?_⟩
    rw [← hOS] at t6
    walk_at "rd"
    have e26 := ((e3.trans e4).trans e5).trans e6
    refine ⟨s, q6, ss, OS, b, c + 1, rfl, (e2.trans e26) _ _ hs1', t6, zs, zO, by omega, by omega, by omega, by omega, fun q7 G7 e7 t7 => ?_⟩
    have zr2 : SzL (timesL ss OS) (b + OS.length * (c + 1 + 4)) := szTimes OS ss zs zO (by omega)
    have lr : (timesL ss OS).length = 2 := by rw [times_len]; omega
    obtain ⟨r0, r1, hr01⟩ : ∃ r0 r1, timesL ss OS = [r0, r1] := by
      match hq : timesL ss OS, lr with
      | [x0, x1], _ => exact ⟨x0, x1, rfl⟩
    have z0 : r0.natAbs < 2 ^ 5000 := szu (zr2 r0 (by rw [hr01]; simp)) (by
      have : OS.length * (c + 1 + 4) ≤ 4 * 405 := Nat.mul_le_mul (by omega) (by omega)
      omega)
    have t2' := (e26.trans e7) _ _ t2
    refine ⟨q7, pr, q6, r0, r1, p, r, [], OS, rfl, by rw [← hr01]; exact t7, t2', e7 _ _ t6, by omega, z0, szu zp (by omega), szu zr (by omega), fun G8 e8 => ?_⟩
    have e28 := (e26.trans e7).trans e8
    have hba : body a = (sideF r0 r1 p r OS, srtF ([p, r] ++ OS)) := by
      rw [hbody]
      unfold bodyF
      dsimp only
      rw [← hp, ← hrr, ← hOS, hr01]
      rfl
    obtain ⟨f0, rfl⟩ : ∃ f0, fuel = f0 + 1 := ⟨fuel - 1, by omega⟩
    unfold goF at eR
    rw [hba] at eR
    dsimp only at eR
    generalize sideF r0 r1 p r OS = SD at *
    walk_at "rd"
    by_cases h0 : SD = 0
    · rw [if_pos h0]
      rw [if_pos (.inl h0)] at eR
      have eRS := eR
      try dsimp only
      rw [r_star]
      walk_at "rd"
      refine ⟨[.int p, .int r], .inr (.of (e28 _ _ t2)), ?_⟩
      try dsimp only
      rw [r_star]
      walk_at "rd"
      refine ⟨_, .inr (.of ((e7.trans e8) _ _ t6)), ?_⟩
      refine ⟨Nat.le_trans (show _ ≤ 100 by simp; omega) (by decide), fun l9 G9 n9 e9 t9 => ?_⟩
      have t9' : G9 l9 = some (.lst (([p, r] ++ OS).map V.int)) := by rw [t9]; simp
      refine ⟨l9, [p, r] ++ OS, rfl, .of t9', fun ns' q1 q2 l10 G10 n10 e10 t10 => ?_⟩
      rw [srt_one q1 q2, ← eRS] at t10
      have eall := (eG.trans e2).trans (e28.trans e9)
      exact k l10 G10 (eall.trans e10) (ex_free eall n10) t10
    rw [if_neg h0]
    by_cases h1 : high ≤ low
    · rw [if_pos h1]
      rw [if_pos (.inr h1)] at eR
      have eRS := eR
      try dsimp only
      rw [r_star]
      walk_at "rd"
      refine ⟨[.int p, .int r], .inr (.of (e28 _ _ t2)), ?_⟩
      try dsimp only
      rw [r_star]
      walk_at "rd"
      refine ⟨_, .inr (.of ((e7.trans e8) _ _ t6)), ?_⟩
      refine ⟨Nat.le_trans (show _ ≤ 100 by simp; omega) (by decide), fun l9 G9 n9 e9 t9 => ?_⟩
      have t9' : G9 l9 = some (.lst (([p, r] ++ OS).map V.int)) := by rw [t9]; simp
      refine ⟨l9, [p, r] ++ OS, rfl, .of t9', fun ns' q1 q2 l10 G10 n10 e10 t10 => ?_⟩
      rw [srt_one q1 q2, ← eRS] at t10
      have eall := (eG.trans e2).trans (e28.trans e9)
      exact k l10 G10 (eall.trans e10) (ex_free eall n10) t10
    rw [if_neg h1]
    rw [if_neg (fun h => h.elim h0 h1)] at eR
    have hlt : low < high := by omega
    have hal : low ≤ a ∧ a ≤ high := by
      unfold InR at hin
      omega
    by_cases hsd : 0 < SD
    · rw [if_pos hsd] at eR ⊢
      refine ⟨⟨by decide, by decide⟩, cmulL, f0, by omega, ?_⟩
      rw [hW]
      exact ⟨(eG.trans e2).trans e28, a + 1, high, _, 2 * step, _, _, _, inR_up hin hlt hs1, by omega, by omega, by omega, eR, rfl⟩
    · rw [if_neg hsd] at eR ⊢
      refine ⟨⟨by decide, by decide⟩, cmulL, f0, by omega, ?_⟩
      rw [hW]
      exact ⟨(eG.trans e2).trans e28, low, a - 1, _, 2 * step, _, _, _, inR_dn hin hlt hs1, by omega, by omega, by omega, eR, rfl⟩
theorem has_pairsG (B : Bi mg) (z_sorted : mg "sorted" = none) (h_about : Has P w K mg base "_about" 3 ["sums", "many", "taken"] spAboutG) (h_place : Has P w K mg base "_place" 1 ["at", "taken"] spPlaceG) (htimes : Has P w K mg base "times" 1 ["sums", "points"] (spTimes K)) (h_side : Has P w K mg base "_side" 1 ["rest", "pair", "others"] spSideG)
    (D : Df K mg "_pairs" (top 34) ["sums", "many", "least", "most", "taken"]) : Has P w K mg base "_pairs" 6 ["sums", "many", "least", "most", "taken"] (orS (spPairsG 0) (orS (spPairsG 1) (spPairsG 2))) := by
  have hN := has_pairsN (P := P) (w := w) (base := base) D
  have h0 : Has P w K mg base "_pairs" 4 ["sums", "many", "least", "most", "taken"] (spPairsG 0) := Has.of D fun f fd F => ok_pairs0G B z_sorted h_about h_place htimes h_side hN F
  have h1 : Has P w K mg base "_pairs" 5 ["sums", "many", "least", "most", "taken"] (spPairsG 1) := Has.of D fun f fd F => ok_pairsSG (by decide) (by decide) B z_sorted h_about h_place htimes h_side h0 F
  exact Has.of D fun f fd F => FnOk_or ((ok_pairs0G B z_sorted h_about h_place htimes h_side hN F).mono (by decide)) (FnOk_or ((ok_pairsSG (by decide) (by decide) B z_sorted h_about h_place htimes h_side h0 F).mono (by decide)) (ok_pairsSG (by decide) (by decide) B z_sorted h_about h_place htimes h_side h1 F))
end

section
variable {P : Program} {w : World} {K : PySem.W.Frag} {mg : Str → Option Value} {base : Heap}
/-! ### row_sums, lowest_points, highest_points of any rows -/
def spSumsG (K : PySem.W.Frag) : Sp := fun vs H Q _ => ∃ (p : Addr) (cs : List Int) (N n : Nat), vs = [.ref p, .int (N : Int)] ∧ SqT K H p (cs.map V.int) ∧ NumL cs (n + 1) (2 ^ 110) ∧ 1 ≤ n ∧ n < 6 ∧ n ≤ N ∧ N < 2 ^ 1000 ∧ ∀ l H', Ex H H' → H' l = some (.lst ((sumsL cs N).map V.int)) → Q (.ref l) H'
theorem has_sumsG (B : Bi mg) (c_perm : mg "perm" = some (.builtin "math.perm")) (hyes_sums : Has P w K mg base "yes_sums" 1 ["counts"] (spYes K)) (D : Df K mg "row_sums" (top 27) ["counts", "slips"]) : Has P w K mg base "row_sums" 2 ["counts", "slips"] (spSumsG K) := by
  have sc : FnScope ["counts", "slips", "j", "chance"] ["counts", "slips"] (defScope (top 27)) := ⟨rfl, rfl, rfl, by decide +kernel, rfl, by decide +kernel, by decide +kernel⟩
  refine .of D fun f fd F => F.ok sc (fun vs H Q E h => ?_) (fun cdv A outer s H vs Q E hr h => ?_)
  · obtain ⟨p, cs, N, n, rfl, _⟩ := h
    rfl
  · obtain ⟨p, cs, N, n, rfl, hp, hN, n1, n6, nN, bN, k⟩ := h
    refine ⟨_, (pss_one (ps_ret (pe_lc (own := [("j", 2), ("chance", 3)]) (g := gTup K 2 (gCons (gName 2) (gCons (gName 3) gNil))) (tt := tYes) rfl sc.nd (pi_enum (by rfl) B.enumerate (pa_cons (pe_has hyes_sums (hr.mono (by decide)) (pa_cons (pv 0) pa_nil)) pa_nil)) (blkOk_by (N := (["counts", "slips", "j", "chance"] : List Str)) (sc := defScope (top 27)) (by decide +kernel)) (fun _ _ _ _ _ => (pg_tup rfl (pgs_cons (pg_name (i := 2) sc.nd rfl (by first | exact Or.inl rfl | exact Or.inr rfl)) (pgs_cons (pg_name (i := 3) sc.nd rfl (by first | exact Or.inl rfl | exact Or.inr rfl)) pgs_nil)))) (fun _ _ _ _ _ => pts_nil) (fun _ _ _ _ _ => (PE.mon (pe_op op_mulS (pv 3) (pe_callBfun cr_perm (by rfl) c_perm (pa_cons (pv 1) (pa_cons (pv 2) pa_nil))))))))), ?_⟩
    walk_at "rd"
    rw [r_enumL]
    walk_at "rd"
    refine ⟨p, cs, n, rfl, hp, hN, n1, n6, fun l G e hl => ⟨l, rfl, ⟨_, .of hl⟩, fun Dd hD => ?_⟩⟩
    have lY : (((List.range (n + 1)).map (yesF cs)).map V.int).length = n + 1 := by simp
    have getY : ∀ i < n + 1, (((List.range (n + 1)).map (yesF cs)).map V.int)[i]? = some (.int (yesF cs i)) := fun i hi => by
      rw [List.getElem?_map, List.getElem?_map, List.getElem?_range (by omega)]
      rfl
    refine lcElP (fun i y _ => y = .int (yesF cs i * prm N i)) (fun _ _ _ _ _ h => h) hD (.of hl) (by rw [lY]; omega) (gm_tup (gm_cons gm_name (gm_cons gm_name gm_nil))) ?_ ?_
    · intro i y T G3 hy e3 hT
      have hi : i < n + 1 := by rw [← lY]; exact (List.getElem?_eq_some_iff.mp hy).1
      rw [getY i hi] at hy
      cases hy
      walk_at "rd"
      refine ⟨_, .of hT, rfl, ?_⟩
      walk_at "rd"
      obtain ⟨R1, hR1⟩ : ∃ R : VK, R = fun v H' => v = .int (yesF cs i * prm N i) ∧ H' = G3 := ⟨_, rfl⟩
      refine ⟨R1, ?_, fun v H' h => by rw [hR1] at h; obtain ⟨rfl, rfl⟩ := h; exact ⟨Ex.refl _, rfl⟩⟩
      walk_at "rd"
      refine ⟨N, i, rfl, by omega, by omega, Nat.lt_of_lt_of_le bN (Nat.pow_le_pow_right (by decide) (by decide)), ?_⟩
      walk_at "rd"
      have yl := yes_le (j := i) (n := n) hN (by omega) (by omega)
      have pb : (prm N i).natAbs < 2 ^ 5001 := by
        have h := fp_abs (n := (N : Int)) (c := 1000) (by omega) (by rw [Int.natAbs_natCast]; exact Nat.le_of_lt bN) i (by omega)
        refine Nat.lt_of_le_of_lt h (Nat.pow_lt_pow_right (by decide) (by omega))
      refine ⟨cmul 131 5001 (by omega) pb, ?_⟩
      rw [hR1]
      exact ⟨rfl, rfl⟩
    · intro G3 ys e3 hy hly hr3
      rw [lY] at hly
      rw [ints_of hly hr3] at hy
      refine k Dd G3 (e.trans e3) ?_
      rw [hy]
      unfold sumsL
      rw [hN.1]
end

section
variable {P : Program} {w : World} {K : PySem.W.Frag} {mg : Str → Option Value} {base : Heap}
/-! ### lowest_points, highest_points of any sums -/
def RootsL (ss : List Int) : Prop := 0 < ss.getD 0 0 → Roots (ss.getD 0 0) (ss.getD 1 0) (ss.getD 2 0) (ss.getD 3 0)
def lowS (ss : List Int) (m : Nat) : List Int := if m % 2 = 0 then ss.take m else timesL (ss.take m) [0]
def lowestF (ss : List Int) (m : Nat) (N : Int) : List Int := if m % 2 = 0 then pairsF (m / 2) (lowS ss m) 0 N [] else 0 :: pairsF (m / 2) (lowS ss m) 1 N []
def toldF (ss : List Int) (m : Nat) (N : Int) : List Int := (timesL (ss.take m) [N]).map fun c => -c
def higS (ss : List Int) (m : Nat) (N : Int) : List Int := if m % 2 = 1 then toldF ss m N else timesL (toldF ss m N) [0]
def highestF (ss : List Int) (m : Nat) (N : Int) : List Int := if m % 2 = 1 then pairsF (m / 2) (higS ss m N) 0 (N - 1) [] ++ [N] else 0 :: (pairsF (m / 2 - 1) (higS ss m N) 1 (N - 1) [] ++ [N])
theorem abOk_of {ss : List Int} {q b : Nat} (hl : ss.length = 2 * q) (hq : q ≤ 2) (z : SzL ss b) (h : q = 2 → RootsL ss) : q = 0 ∨ AbOk ss (q : Int) b := by
  match q, hq, ss, hl with
  | 0, _, _, _ => exact .inl rfl
  | 1, _, [x0, x1], _ => exact .inr (.inl ⟨rfl, x0, x1, rfl, z _ (by simp), z _ (by simp)⟩)
  | 2, _, [x0, x1, x2, x3], _ => exact .inr (.inr ⟨rfl, x0, x1, x2, x3, rfl, ⟨z _ (by simp), z _ (by simp), z _ (by simp), z _ (by simp)⟩, h rfl⟩)
abbrev spPairsA : Sp := orS (spPairsG 0) (orS (spPairsG 1) (spPairsG 2))
theorem pairs_any {q : Nat} (hq : q ≤ 2) {vs : List V} {H : Hp} {Q : VK} {E : XK} (h : spPairsG q vs H Q E) : spPairsA vs H Q E := by
  match q, hq with
  | 0, _ => exact .inl h
  | 1, _ => exact .inr (.inl h)
  | 2, _ => exact .inr (.inr h)
theorem SzL.takeG {ss : List Int} {b : Nat} (h : SzL ss b) (m : Nat) : SzL (ss.take m) b := fun x hx => h x (List.mem_of_mem_take hx)
theorem SzL.monoG {ss : List Int} {b c : Nat} (h : SzL ss b) (e : b ≤ c) : SzL ss c := fun x hx => Nat.lt_of_lt_of_le (h x hx) (Nat.pow_le_pow_right (by decide) e)
theorem sz0 : SzL [(0 : Int)] 1 := fun x hx => by rw [List.mem_singleton.mp hx]; decide
/-- the bounds of the sums and of the slips -/
structure SumOk (ss : List Int) (N b c : Nat) : Prop where
  z : SzL ss b
  l6 : ss.length ≤ 6
  n : N < 2 ^ c
  c6 : 6 ≤ c
  c4 : c ≤ 400
  b3 : b + 6 * c + 60 ≤ 3000
theorem low_sz {ss : List Int} {N b c m : Nat} (S : SumOk ss N b c) (hm : m ≤ ss.length) : SzL (lowS ss m) (b + 5) ∧ (lowS ss m).length = 2 * (m / 2) := by
  have lt : (ss.take m).length = m := by rw [List.length_take]; omega
  unfold lowS
  split
  · exact ⟨(S.z.takeG m).monoG (by omega), by omega⟩
  · exact ⟨(szTimes [0] _ (S.z.takeG m) sz0 (by have := S.l6; omega)).monoG (by simp <;> omega), by rw [times_len]; simp <;> omega⟩
def spLowG : Sp := fun vs H Q _ => ∃ (s : Addr) (ss : List Int) (N b c m : Nat), vs = [.ref s, .int (m : Int), .int (N : Int)] ∧ H s = some (.lst (ss.map V.int)) ∧ SumOk ss N b c ∧ 1 ≤ m ∧ m ≤ 5 ∧ m ≤ ss.length ∧ (m / 2 = 2 → b + 5 ≤ 490 ∧ RootsL (lowS ss m)) ∧ ∀ q H', Ex H H' → H' q = some (.lst ((lowestF ss m N).map V.int)) → Q (.ref q) H'
theorem has_lowG (B : Bi mg) (htimes : Has P w K mg base "times" 1 ["sums", "points"] (spTimes K)) (h_pairs : Has P w K mg base "_pairs" 6 ["sums", "many", "least", "most", "taken"] spPairsA) (D : Df K mg "lowest_points" (top 30) ["sums", "many", "slips"]) : Has P w K mg base "lowest_points" 7 ["sums", "many", "slips"] spLowG := by
  have sc := scLow
  refine .of D fun f fd F => F.ok sc (fun vs H Q E h => ?_) (fun cdv A outer s H vs Q E hr h => ?_)
  · obtain ⟨s, ss, N, b, c, m, rfl, _⟩ := h
    rfl
  · obtain ⟨s, ss, N, b, c, m, rfl, hs, S, m1, m5, hl, hrt, k⟩ := h
    refine ⟨_, (pss_cons (ps_set (i := 3) sc.nd rfl (by first | exact Or.inl rfl | exact Or.inr rfl) (pe_slice (slL (K := K)) (pv 0) po_none (po_some (pv 1))))
      (pss_cons (ps_if (pt_cmpR op_eq (pe_op op_mod (pv 1) pe_int) pe_int (nomark _)) (pss_one (ps_ret (pe_has h_pairs (hr.mono (by decide)) (pa_cons (pv 3) (pa_cons (pe_op op_fdivW (pv 1) pe_int) (pa_cons pe_int (pa_cons (pv 2) (pa_cons (pe_lstN pa_nil) pa_nil)))))))) pss_nil)
      (pss_one (ps_ret (pe_lstN (pa_cons pe_int (kStar (K := K) (pe_has h_pairs (hr.mono (by decide)) (pa_cons (pe_has htimes (hr.mono (by decide)) (pa_cons (pv 3) (pa_cons (pe_lstN (pa_cons pe_int pa_nil)) pa_nil))) (pa_cons (pe_op op_fdivW (pv 1) pe_int) (pa_cons pe_int (pa_cons (pv 2) (pa_cons (pe_lstN pa_nil) pa_nil)))))) pa_nil))))))), ?_⟩
    walk_at "rd"
    refine ⟨s, _, rfl, .of hs, fun tl G n1 e1 t1 => ?_⟩
    rw [cut_take, ← List.map_take] at t1
    obtain ⟨zl, ll⟩ := low_sz S hl
    have hq2 : m / 2 ≤ 2 := by omega
    have ab := abOk_of ll hq2 zl fun h => (hrt h).2
    have hb : b + 5 + m / 2 * (2 * c + 20) ≤ 3000 := by
      have h1 : m / 2 * (2 * c + 20) ≤ 2 * (2 * c + 20) := Nat.mul_le_mul_right _ hq2
      have := S.b3
      omega
    have em : ((m : Int)) / 2 = ((m / 2 : Nat) : Int) := by omega
    have c6 := S.c6
    have Nn : ((N : Int)).natAbs < 2 ^ c := by rw [Int.natAbs_natCast]; exact S.n
    have p1 : (1 : Nat) < 2 ^ c := Nat.lt_of_lt_of_le (show 1 < 2 ^ 6 by decide) (Nat.pow_le_pow_right (by decide) c6)
    refine ⟨by decide, ?_⟩
    by_cases he : m % 2 = 0
    · rw [if_pos (by omega)]
      refine ⟨⟨by decide, by decide⟩, ?_⟩
      refine ⟨by decide, fun z4 G4 n4 e4 t4 => ?_⟩
      have el : lowS ss m = ss.take m := by unfold lowS; rw [if_pos he]
      refine pairs_any hq2 ⟨tl, z4, lowS ss m, [], 0, N, b + 5, c, by rw [em], by rw [el]; exact e4 _ _ t1, t4, by simp; omega, ll, zl, hb, fun h => (hrt h).1, c6, S.c4, by simp; omega, Nn, ab, fun q5 G5 e5 n5 t5 => ?_⟩
      refine k q5 G5 ((e1.trans e4).trans e5) ?_
      rw [t5]
      unfold lowestF
      rw [if_pos he]
    · rw [if_neg (by omega)]
      rw [r_star]
      walk_at "rd"
      refine ⟨by decide, fun z G2 n2 e2 t2 => ?_⟩
      have el : lowS ss m = timesL (ss.take m) [0] := by unfold lowS; rw [if_neg he]
      refine ⟨tl, z, ss.take m, [0], b, 1, rfl, e2 _ _ t1, t2, S.z.takeG m, sz0, by rw [List.length_take]; have := S.l6; omega, by simp, by omega, by decide, fun q3 G3 e3 t3 => ?_⟩
      rw [← el] at t3
      refine ⟨⟨by decide, by decide⟩, ?_⟩
      refine ⟨by decide, fun z4 G4 n4 e4 t4 => ?_⟩
      refine pairs_any hq2 ⟨q3, z4, lowS ss m, [], 1, N, b + 5, c, by rw [em], e4 _ _ t3, t4, by simp; omega, ll, zl, hb, fun h => (hrt h).1, c6, S.c4, by simp; omega, Nn, ab, fun q5 G5 e5 n5 t5 => ?_⟩
      refine ⟨q5, rfl, _, .inr (.of t5), Nat.le_trans (show _ ≤ 100 by rw [List.append_nil, List.length_map, pairs_len]; omega) (by decide), fun q6 G6 n6 e6 t6 => ?_⟩
      refine k q6 G6 (((((e1.trans e2).trans e3).trans e4).trans e5).trans e6) ?_
      rw [t6]
      unfold lowestF
      rw [if_neg he]
      simp
def higN (m : Nat) : Nat := if m % 2 = 1 then m / 2 else m / 2 - 1
theorem hig_sz {ss : List Int} {N b c m : Nat} (S : SumOk ss N b c) (hm : m ≤ ss.length) (m1 : 1 ≤ m) : SzL (toldF ss m N) (b + c + 4) ∧ (toldF ss m N).length = m - 1 ∧ SzL (higS ss m N) (b + c + 9) ∧ (higS ss m N).length = 2 * higN m := by
  have lt : (ss.take m).length = m := by rw [List.length_take]; omega
  have zN : SzL [(N : Int)] c := fun x hx => by
    rw [List.mem_singleton.mp hx, Int.natAbs_natCast]
    exact S.n
  have l6 := S.l6
  have zt : SzL (timesL (ss.take m) [(N : Int)]) (b + c + 4) := (szTimes [(N : Int)] _ (S.z.takeG m) zN (by omega)).monoG (by simp <;> omega)
  have z1 : SzL (toldF ss m N) (b + c + 4) := fun x hx => by
    obtain ⟨y, hy, rfl⟩ := List.mem_map.mp hx
    rw [Int.natAbs_neg]
    exact zt y hy
  have l1 : (toldF ss m N).length = m - 1 := by
    unfold toldF
    rw [List.length_map, times_len, lt]
    rfl
  refine ⟨z1, l1, ?_⟩
  unfold higS higN
  split
  · exact ⟨z1.monoG (by omega), by omega⟩
  · exact ⟨(szTimes [0] _ z1 sz0 (by omega)).monoG (by simp <;> omega), by rw [times_len, l1]; simp <;> omega⟩
def spHigG : Sp := fun vs H Q _ => ∃ (s : Addr) (ss : List Int) (N b c m : Nat), vs = [.ref s, .int (m : Int), .int (N : Int)] ∧ H s = some (.lst (ss.map V.int)) ∧ SumOk ss N b c ∧ 1 ≤ m ∧ m ≤ 5 ∧ m ≤ ss.length ∧ (higN m = 2 → b + c + 9 ≤ 490 ∧ RootsL (higS ss m N)) ∧ ∀ q H', Ex H H' → H' q = some (.lst ((highestF ss m N).map V.int)) → Q (.ref q) H'
theorem has_higG (B : Bi mg) (htimes : Has P w K mg base "times" 1 ["sums", "points"] (spTimes K)) (h_pairs : Has P w K mg base "_pairs" 6 ["sums", "many", "least", "most", "taken"] spPairsA) (D : Df K mg "highest_points" (top 31) ["sums", "many", "slips"]) : Has P w K mg base "highest_points" 7 ["sums", "many", "slips"] spHigG := by
  have sc := scHig
  refine .of D fun f fd F => F.ok sc (fun vs H Q E h => ?_) (fun cdv A outer s H vs Q E hr h => ?_)
  · obtain ⟨s, ss, N, b, c, m, rfl, _⟩ := h
    rfl
  · obtain ⟨s, ss, N, b, c, m, rfl, hs, S, m1, m5, hl, hrt, k⟩ := h
    refine ⟨_, (pss_cons (ps_setLc (i := 3) (own := [("one", 4)]) (g := gName 4) (tt := tYes) rfl sc.nd rfl rfl (sw_true rfl rfl rfl (by decide +kernel)) (pi_list (pe_has htimes (hr.mono (by decide)) (pa_cons (pe_slice (slL (K := K)) (pv 0) po_none (po_some (pv 1))) (pa_cons (pe_lstN (pa_cons (pv 2) pa_nil)) pa_nil)))) (blkOk_by (N := (["sums", "many", "slips", "told", "one"] : List Str)) (sc := defScope (top 31)) (by decide +kernel)) (fun _ _ _ _ _ => (pg_name (i := 4) sc.nd rfl (by first | exact Or.inl rfl | exact Or.inr rfl))) (fun _ _ _ _ _ => pts_nil) (fun _ _ _ _ _ => (PE.mon (pe_un un_neg (pv 4)))))
      (pss_cons (ps_if (pt_cmpR op_eq (pe_op op_mod (pv 1) pe_int) pe_int (nomark _)) (pss_one (ps_ret (pe_lstN (kStar (K := K) (pe_has h_pairs (hr.mono (by decide)) (pa_cons (pv 3) (pa_cons (pe_op op_fdivW (pv 1) pe_int) (pa_cons pe_int (pa_cons (pe_op op_sub (pv 2) pe_int) (pa_cons (pe_lstN pa_nil) pa_nil)))))) (pa_cons (pv 2) pa_nil))))) pss_nil)
      (pss_one (ps_ret (pe_lstN (pa_cons pe_int (kStar (K := K) (pe_has h_pairs (hr.mono (by decide)) (pa_cons (pe_has htimes (hr.mono (by decide)) (pa_cons (pv 3) (pa_cons (pe_lstN (pa_cons pe_int pa_nil)) pa_nil))) (pa_cons (pe_op op_sub (pe_op op_fdivW (pv 1) pe_int) pe_int) (pa_cons pe_int (pa_cons (pe_op op_sub (pv 2) pe_int) (pa_cons (pe_lstN pa_nil) pa_nil)))))) (pa_cons (pv 2) pa_nil)))))))), ?_⟩
    walk_at "rd"
    refine ⟨s, _, rfl, .of hs, fun tl G n1 e1 t1 => ?_⟩
    rw [cut_take, ← List.map_take] at t1
    obtain ⟨z1, l1, zl, ll⟩ := hig_sz S hl m1
    have hq2 : higN m ≤ 2 := by unfold higN; split <;> omega
    have ab := abOk_of ll hq2 zl fun h => (hrt h).2
    have b3 := S.b3
    have c6 := S.c6
    have c4 := S.c4
    have l6 := S.l6
    have hb : b + c + 9 + higN m * (2 * c + 20) ≤ 3000 := by
      have h1 : higN m * (2 * c + 20) ≤ 2 * (2 * c + 20) := Nat.mul_le_mul_right _ hq2
      omega
    have zN : SzL [(N : Int)] c := fun x hx => by
      rw [List.mem_singleton.mp hx, Int.natAbs_natCast]
      exact S.n
    have p1 : (1 : Nat) < 2 ^ c := Nat.lt_of_lt_of_le (show 1 < 2 ^ 6 by decide) (Nat.pow_le_pow_right (by decide) c6)
    have Nn : ((N : Int) - 1).natAbs < 2 ^ c := by
      have := S.n
      omega
    refine ⟨by decide, fun z G2 n2 e2 t2 => ?_⟩
    refine ⟨tl, z, ss.take m, [(N : Int)], b, c, rfl, e2 _ _ t1, t2, S.z.takeG m, zN, by rw [List.length_take]; omega, by simp, by omega, by omega, fun q3 G3 e3 t3 => ?_⟩
    refine ⟨q3, rfl, ⟨_, .of t3⟩, fun Dd hD => lcLn (fun i y _ => ∃ c, (timesL (ss.take m) [(N : Int)])[i]? = some c ∧ y = .int (-c)) (fun _ _ _ _ _ h => h) hD (.of t3) (by rw [List.length_map, times_len, List.length_take]; omega) (fun _ => rfl) ?_ ?_⟩
    · intro i x G4 hx e4
      obtain ⟨d, hd, rfl⟩ := map_int_get hx
      obtain ⟨R0, hR⟩ : ∃ R : VK, R = fun y G' => G' = G4 ∧ y = .int (-d) := ⟨_, rfl⟩
      refine ⟨R0, ?_, fun y G' h => by rw [hR] at h; obtain ⟨rfl, h⟩ := h; exact ⟨Ex.refl _, d, hd, h⟩⟩
      walk_at "rd"
      rw [hR]
      exact ⟨rfl, rfl⟩
    intro G4 ys e4 hy hl4 hr4
    rw [List.length_map] at hl4
    rw [neg_ints hl4 hr4] at hy
    have et : (timesL (ss.take m) [(N : Int)]).map (fun c => -c) = toldF ss m N := rfl
    rw [et] at hy
    have e04 := ((e1.trans e2).trans e3).trans e4
    refine ⟨by decide, ?_⟩
    by_cases ho : m % 2 = 1
    · rw [if_pos (by omega)]
      rw [r_star]
      walk_at "rd"
      have em : ((m : Int)) / 2 = ((m / 2 : Nat) : Int) := by omega
      have el : higS ss m N = toldF ss m N := by unfold higS; rw [if_pos ho]
      have en : higN m = m / 2 := by unfold higN; rw [if_pos ho]
      rw [en] at hq2 ab hb ll hrt
      rw [el] at ll zl ab hrt
      refine ⟨⟨by decide, by decide⟩, ?_⟩
      refine ⟨by decide, fun z5 G5 n5 e5 t5 => ?_⟩
      refine pairs_any hq2 ⟨Dd, z5, toldF ss m N, [], 0, (N : Int) - 1, b + c + 9, c, by rw [em], e5 _ _ hy, t5, by simp; omega, ll, zl, hb, fun h => (hrt h).1, c6, c4, by simp; omega, Nn, ab, fun q6 G6 e6 n6 t6 => ?_⟩
      refine ⟨q6, rfl, _, .inr (.of t6), Nat.le_trans (show _ ≤ 100 by rw [List.length_append, List.length_map, pairs_len]; simp; omega) (by decide), fun q7 G7 n7 e7 t7 => ?_⟩
      refine k q7 G7 (((e04.trans e5).trans e6).trans e7) ?_
      rw [t7]
      unfold highestF
      rw [if_pos ho, el]
      simp
    · rw [if_neg (by omega)]
      rw [r_star]
      walk_at "rd"
      have em : ((m : Int)) / 2 - 1 = ((m / 2 - 1 : Nat) : Int) := by omega
      have el : higS ss m N = timesL (toldF ss m N) [0] := by unfold higS; rw [if_neg ho]
      have en : higN m = m / 2 - 1 := by unfold higN; rw [if_neg ho]
      rw [en] at hq2 ab hb ll hrt
      refine ⟨by decide, fun z5 G5 n5 e5 t5 => ?_⟩
      refine ⟨Dd, z5, toldF ss m N, [0], b + c + 4, 1, rfl, e5 _ _ hy, t5, z1, sz0, by omega, by simp, by omega, by decide, fun q6 G6 e6 t6 => ?_⟩
      rw [← el] at t6
      refine ⟨⟨by decide, by decide⟩, ?_⟩
      refine ⟨by decide, fun z7 G7 n7 e7 t7 => ?_⟩
      refine pairs_any hq2 ⟨q6, z7, higS ss m N, [], 1, (N : Int) - 1, b + c + 9, c, by rw [em], e7 _ _ t6, t7, by simp; omega, ll, zl, hb, fun h => (hrt h).1, c6, c4, by simp; omega, Nn, ab, fun q8 G8 e8 n8 t8 => ?_⟩
      refine ⟨q8, rfl, _, .inr (.of t8), Nat.le_trans (show _ ≤ 100 by simp [pairs_len]; omega) (by decide), fun q9 G9 n9 e9 t9 => ?_⟩
      refine k q9 G9 (((((e04.trans e5).trans e6).trans e7).trans e8).trans e9) ?_
      rw [t9]
      unfold highestF
      rw [if_neg ho]
      simp
end

section
variable {P : Program} {w : World} {K : PySem.W.Frag} {mg : Str → Option Value} {base : Heap}
/-! ### mean_on, broken_points, does_come of any rows -/
/-- how many of N, N - 1, .. stand among the points -/
def IsT (pts : List Int) (N : Int) (t : Nat) : Prop := (∀ i < t, N - (i : Int) ∈ pts) ∧ N - (t : Int) ∉ pts
theorem isT_le (pts : List Int) (N : Int) : ∀ n : Nat, N - (n : Int) ∉ pts → ∃ t, t ≤ n ∧ IsT pts N t := by
  intro n
  induction n using Nat.strongRecOn with
  | _ n ih =>
    intro h
    by_cases h2 : ∀ i < n, N - (i : Int) ∈ pts
    · exact ⟨n, Nat.le_refl _, h2, h⟩
    · have ⟨i, hi, hn⟩ : ∃ i, i < n ∧ N - (i : Int) ∉ pts := by
        apply Classical.byContradiction
        intro hc
        exact h2 fun i hi => Classical.byContradiction fun hn => hc ⟨i, hi, hn⟩
      obtain ⟨t, ht, h3⟩ := ih i hi hn
      exact ⟨t, by omega, h3⟩
theorem isT_ex (pts : List Int) (N : Int) : ∃ t, t ≤ pts.length ∧ IsT pts N t := by
  have ⟨n, hn, h⟩ : ∃ n : Nat, n ≤ pts.length ∧ N - (n : Int) ∉ pts := by
    apply Classical.byContradiction
    intro hc
    have all : ∀ n : Nat, n ≤ pts.length → N - (n : Int) ∈ pts := fun n hn => Classical.byContradiction fun h => hc ⟨n, hn, h⟩
    have nd : ((List.range (pts.length + 1)).map fun i : Nat => N - (i : Int)).Nodup := by
      rw [List.nodup_iff_pairwise_ne, List.pairwise_map]
      exact (List.nodup_range (n := pts.length + 1)).imp fun h e => h (by omega)
    have := nd.length_le_of_subset (l₂ := pts) fun x hx => by
      obtain ⟨i, hi, rfl⟩ := List.mem_map.mp hx
      exact all i (by have := List.mem_range.mp hi; omega)
    simp at this
    omega
  obtain ⟨t, ht, h2⟩ := isT_le pts N n h
  exact ⟨t, by omega, h2⟩
theorem isT_one {pts : List Int} {N : Int} {t u : Nat} (h1 : IsT pts N t) (h2 : IsT pts N u) : t = u := by
  have q1 : ¬ t < u := fun h => h1.2 (h2.1 t h)
  have q2 : ¬ u < t := fun h => h2.2 (h1.1 u h)
  omega
noncomputable def turnF (pts : List Int) (N : Int) : Nat := Classical.choose (isT_ex pts N)
theorem turn_is (pts : List Int) (N : Int) : IsT pts N (turnF pts N) := (Classical.choose_spec (isT_ex pts N)).2
noncomputable def meanG (ss pts : List Int) (N : Int) : Int := sg (turnF pts N) * (timesL (ss.take (pts.length + 1)) pts).getD 0 0
/-- the points of m break nothing -/
def PassM (ss : List Int) (m : Nat) (N : Int) : Prop := 0 ≤ meanG ss (lowestF ss m N) N ∧ 0 ≤ meanG ss (highestF ss m N) N
theorem low_len {ss : List Int} {m : Nat} {N : Int} : (lowestF ss m N).length = m := by
  unfold lowestF
  split
  · rw [pairs_len]; omega
  · rw [List.length_cons, pairs_len]; omega
theorem hig_len {ss : List Int} {m : Nat} {N : Int} (h : 1 ≤ m) : (highestF ss m N).length = m := by
  unfold highestF
  split
  · rw [List.length_append, pairs_len]; simp; omega
  · rw [List.length_cons, List.length_append, pairs_len]; simp; omega
theorem low_in {ss : List Int} {m N c : Nat} (hN : N < 2 ^ c) (c6 : 6 ≤ c) (m5 : m ≤ 5) : SzL (lowestF ss m N) (c + 1) := by
  have c64 : 64 ≤ 2 ^ c := Nat.le_trans (show 64 ≤ 2 ^ 6 by decide) (Nat.pow_le_pow_right (by decide) c6)
  have cc : 2 ^ (c + 1) = 2 * 2 ^ c := by rw [Nat.pow_succ]; omega
  intro x hx
  unfold lowestF at hx
  split at hx
  · have := pairs_in (m / 2) _ 0 (N : Int) ((2 ^ c : Nat) : Int) [] (by omega) (by omega) x hx
    simp only [List.length_nil] at this
    omega
  · rcases List.mem_cons.mp hx with rfl | hx
    · have : (0 : Int).natAbs = 0 := rfl
      omega
    · have := pairs_in (m / 2) _ 1 (N : Int) ((2 ^ c : Nat) : Int) [] (by omega) (by omega) x hx
      simp only [List.length_nil] at this
      omega
theorem hig_in {ss : List Int} {m N c : Nat} (hN : N < 2 ^ c) (c6 : 6 ≤ c) (m5 : m ≤ 5) : SzL (highestF ss m N) (c + 1) := by
  have c64 : 64 ≤ 2 ^ c := Nat.le_trans (show 64 ≤ 2 ^ 6 by decide) (Nat.pow_le_pow_right (by decide) c6)
  have cc : 2 ^ (c + 1) = 2 * 2 ^ c := by rw [Nat.pow_succ]; omega
  intro x hx
  unfold highestF at hx
  split at hx
  · rcases List.mem_append.mp hx with hx | hx
    · have := pairs_in (m / 2) _ 0 ((N : Int) - 1) ((2 ^ c : Nat) : Int) [] (by omega) (by omega) x hx
      simp only [List.length_nil] at this
      omega
    · rw [List.mem_singleton.mp hx]
      omega
  · rcases List.mem_cons.mp hx with rfl | hx
    · have : (0 : Int).natAbs = 0 := rfl
      omega
    · rcases List.mem_append.mp hx with hx | hx
      · have := pairs_in (m / 2 - 1) _ 1 ((N : Int) - 1) ((2 ^ c : Nat) : Int) [] (by omega) (by omega) x hx
        simp only [List.length_nil] at this
        omega
      · rw [List.mem_singleton.mp hx]
        omega
end

section
variable {P : Program} {w : World} {K : PySem.W.Frag} {mg : Str → Option Value} {base : Heap}
def PassA (ss : List Int) (N : Int) : Prop := ∀ m, 1 ≤ m → m < ss.length → PassM ss m N
/-- what the search for two pairs asks, where all before breaks nothing -/
def PreG (ss : List Int) (N b c : Nat) : Prop := ∀ m, 1 ≤ m → m < ss.length → (∀ k, 1 ≤ k → k < m → PassM ss k N) → (m / 2 = 2 → b + 5 ≤ 490 ∧ RootsL (lowS ss m)) ∧ (higN m = 2 → b + c + 9 ≤ 490 ∧ RootsL (higS ss m N))
def spBrokenG : Sp := fun vs H Q _ => ∃ (s : Addr) (ss : List Int) (N b c : Nat), vs = [.ref s, .int (N : Int)] ∧ H s = some (.lst (ss.map V.int)) ∧ SumOk ss N b c ∧ 1 ≤ ss.length ∧ PreG ss N b c ∧ ∀ H', Ex H H' → (PassA ss N → Q .non H') ∧ (¬ PassA ss N → ∀ q, Q (.ref q) H')
theorem has_brokenG (B : Bi mg) (hlowest_points : Has P w K mg base "lowest_points" 7 ["sums", "many", "slips"] spLowG) (hhighest_points : Has P w K mg base "highest_points" 7 ["sums", "many", "slips"] spHigG) (hmean_on : Has P w K mg base "mean_on" 2 ["sums", "points", "slips"] (spMean K)) (D : Df K mg "broken_points" (top 32) ["sums", "slips"]) : Has P w K mg base "broken_points" 8 ["sums", "slips"] spBrokenG := by
  have sc := scBroken
  refine .of D fun f fd F => F.ok sc (fun vs H Q E h => ?_) (fun cdv A outer s H vs Q E hr h => ?_)
  · obtain ⟨s, ss, N, b, c, rfl, _⟩ := h
    rfl
  · obtain ⟨s, ss, N, b, c, rfl, hs, S, l1, pre, k⟩ := h
    have l6 := S.l6
    have b3 := S.b3
    have c6 := S.c6
    have c4 := S.c4
    refine ⟨_, (pss_cons (ps_for PassesOwn.never rfl (pi_range2 (by rfl) B.range (pa_cons pe_int (pa_cons (pe_callB (kLen (K := K)) (by rfl) B.len (by decide +kernel) (pa_cons (pv 0) pa_nil)) pa_nil))) (pg_name (i := 2) sc.nd rfl (by first | exact Or.inl rfl | exact Or.inr rfl))
      (pss_one (ps_for PassesOwn.never rfl (pi_tup (pe_tupN (pa_cons (pe_has hlowest_points (hr.mono (by decide)) (pa_cons (pv 0) (pa_cons (pv 2) (pa_cons (pv 1) pa_nil)))) (pa_cons (pe_has hhighest_points (hr.mono (by decide)) (pa_cons (pv 0) (pa_cons (pv 2) (pa_cons (pv 1) pa_nil)))) pa_nil)))) (pg_name (i := 3) sc.nd rfl (by first | exact Or.inl rfl | exact Or.inr rfl))
      (pss_one (ps_if (pt_cmpR op_lt (pe_has hmean_on (hr.mono (by decide)) (pa_cons (pv 0) (pa_cons (pv 3) (pa_cons (pv 1) pa_nil)))) pe_int (nomark _)) (pss_one (ps_ret (pv 3))) pss_nil)))))
      (pss_one (ps_ret pe_non))), ?_⟩
    walk_at "rd"
    refine ⟨_, .inl (.of hs), by decide, by decide, by rw [List.length_map]; omega, by rw [List.length_map]; omega, ?_⟩
    rw [List.length_map]
    obtain ⟨Pv, hP⟩ : ∃ P : Nat → L2.St → Hp → Prop, P = fun (i : Nat) σ' G => Ex H G ∧ ∃ (z2 z3 : Option V), σ' = [some (.ref s), some (.int (N : Int)), z2, z3] ∧ ∀ m, 1 ≤ m → m < i + 1 → PassM ss m N := ⟨_, rfl⟩
    refine loopR Pv (by rw [hP]; exact ⟨Ex.refl _, _, _, rfl, fun m h1 h2 => by omega⟩) ?_ ?_
    · intro i σ' G hi h
      rw [hP] at h
      obtain ⟨e, z2, z3, rfl, hps⟩ := h
      have him : i + 1 < ss.length := by omega
      obtain ⟨pl, ph⟩ := pre (i + 1) (by omega) him fun k h1 h2 => hps k h1 h2
      walk_at "rd"
      rw [show (1 : Int) + (i : Int) = ((i + 1 : Nat) : Int) by omega]
      refine ⟨s, ss, N, b, c, i + 1, rfl, e _ _ hs, S, by omega, by omega, by omega, pl, fun lo G2 e2 t2 => ?_⟩
      refine ⟨s, ss, N, b, c, i + 1, rfl, e2 _ _ (e _ _ hs), S, by omega, by omega, by omega, ph, fun hg G3 e3 t3 => ?_⟩
      refine ⟨by decide, fun T G4 n4 e4 t4 => ?_⟩
      refine ⟨T, rfl, ⟨_, .of t4⟩, ?_⟩
      have e24 := (e2.trans e3).trans e4
      have hs4 := e24 _ _ (e _ _ hs)
      have lo4 := e4 _ _ (e3 _ _ t2)
      have hg4 := e4 _ _ t3
      obtain ⟨Uv, hU⟩ : ∃ U : Nat → L2.St → Hp → Prop, U = fun (j : Nat) σ' G' => Ex G4 G' ∧ ∃ (z : Option V), σ' = [some (.ref s), some (.int (N : Int)), some (.int ((i + 1 : Nat) : Int)), z] ∧ (1 ≤ j → 0 ≤ meanG ss (lowestF ss (i + 1) N) N) ∧ (2 ≤ j → 0 ≤ meanG ss (highestF ss (i + 1) N) N) := ⟨_, rfl⟩
      have szss : SzL ss 4000 := S.z.monoG (by omega)
      have szlo : SzL (lowestF ss (i + 1) N) 1001 := (low_in S.n c6 (by omega)).monoG (by omega)
      have szhg : SzL (highestF ss (i + 1) N) 1001 := (hig_in S.n c6 (by omega)).monoG (by omega)
      refine loopT (xs := [V.ref lo, V.ref hg]) Uv (by rw [hU]; exact ⟨Ex.refl _, _, rfl, fun z => by omega, fun z => by omega⟩) (fun j σ' G' _ h => by rw [hU] at h; exact .of (h.1 _ _ t4)) ?_ ?_
      · intro j x σ' G5 hx h
        rw [hU] at h
        obtain ⟨e5, z, rfl, hF1, hF2⟩ := h
        match j, hx with
        | 0, hx =>
          cases hx
          walk_at "rd"
          have ti := turn_is (lowestF ss (i + 1) N) N
          refine ⟨s, lo, ss, lowestF ss (i + 1) N, N, turnF (lowestF ss (i + 1) N) N, rfl, e5 _ _ hs4, e5 _ _ lo4, szss, szlo, by rw [low_len]; omega, l6, ti.1, ti.2, fun G6 e6 => ?_⟩
          walk_at "rd"
          have em : sg (turnF (lowestF ss (i + 1) N) N) * (timesL (ss.take ((lowestF ss (i + 1) N).length + 1)) (lowestF ss (i + 1) N)).getD 0 0 = meanG ss (lowestF ss (i + 1) N) N := rfl
          rw [em]
          by_cases neg : meanG ss (lowestF ss (i + 1) N) N < 0
          · rw [if_pos neg]
            exact (k G6 (((e.trans e24).trans e5).trans e6)).2 (fun hA => by have := (hA (i + 1) (by omega) him).1; omega) lo
          · rw [if_neg neg, hU]
            exact ⟨e5.trans e6, _, rfl, fun _ => by omega, fun z => by omega⟩
        | 1, hx =>
          cases hx
          walk_at "rd"
          have ti := turn_is (highestF ss (i + 1) N) N
          refine ⟨s, hg, ss, highestF ss (i + 1) N, N, turnF (highestF ss (i + 1) N) N, rfl, e5 _ _ hs4, e5 _ _ hg4, szss, szhg, by rw [hig_len (by omega)]; omega, l6, ti.1, ti.2, fun G6 e6 => ?_⟩
          walk_at "rd"
          have em : sg (turnF (highestF ss (i + 1) N) N) * (timesL (ss.take ((highestF ss (i + 1) N).length + 1)) (highestF ss (i + 1) N)).getD 0 0 = meanG ss (highestF ss (i + 1) N) N := rfl
          rw [em]
          by_cases neg : meanG ss (highestF ss (i + 1) N) N < 0
          · rw [if_pos neg]
            exact (k G6 (((e.trans e24).trans e5).trans e6)).2 (fun hA => by have := (hA (i + 1) (by omega) him).2; omega) hg
          · rw [if_neg neg, hU]
            exact ⟨e5.trans e6, _, rfl, fun _ => hF1 (by omega), fun _ => by omega⟩
      · intro σ' G5 h
        rw [hU] at h
        obtain ⟨e5, z, rfl, hF1, hF2⟩ := h
        rw [hP]
        refine ⟨(e.trans e24).trans e5, _, _, rfl, fun m h1 h2 => ?_⟩
        by_cases hm : m < i + 1
        · exact hps m h1 hm
        · have : m = i + 1 := by omega
          rw [this]
          exact ⟨hF1 (by simp), hF2 (by simp)⟩
    · intro σ' G h
      rw [hP] at h
      obtain ⟨e, z2, z3, rfl, hps⟩ := h
      walk_at "rd"
      exact (k G e).1 fun m h1 h2 => hps m h1 (by omega)
open Classical in
noncomputable def comeG (ps : List Int) (N : Nat) : Bool := decide (ps.length - 1 ≤ N) && decide (PassA (sumsL ps N) N)
/-- what does_come asks -/
def ComeOk (ps : List Int) (N : Nat) : Prop := ps.length - 1 ≤ N → ∃ b c, SumOk (sumsL ps N) N b c ∧ PreG (sumsL ps N) N b c
def spDoesG (K : PySem.W.Frag) (C : Addr) : Sp := fun vs H Q _ => ∃ (x : V) (ps : List Int) (N n : Nat), vs = [x, .int (N : Int)] ∧ IsRow K C H x ps ∧ NumL ps (n + 1) (2 ^ 110) ∧ 1 ≤ n ∧ n < 6 ∧ N < 2 ^ 1000 ∧ ComeOk ps N ∧ ∀ H', Ex H H' → Q (.bl (comeG ps N)) H'
theorem has_doesG {C : Addr} (B : Bi mg) (RT : RowT P w K mg base C) (hrow_sums : Has P w K mg base "row_sums" 2 ["counts", "slips"] (spSumsG K)) (hbroken_points : Has P w K mg base "broken_points" 8 ["sums", "slips"] spBrokenG) (D : Df K mg "does_come" (top 25) ["row", "slips"]) : Has P w K mg base "does_come" 9 ["row", "slips"] (spDoesG K C) := by
  have sc := scDoes
  refine .of D fun f fd F => F.ok sc (fun vs H Q E h => ?_) (fun cdv A outer s H vs Q E hr h => ?_)
  · obtain ⟨x, ps, N, n, rfl, _⟩ := h
    rfl
  · obtain ⟨x, ps, N, n, rfl, hrow, hN, n1, n6, bN, ok, k⟩ := h
    refine ⟨_, (pss_one (ps_ret (pe_and (pe_cmpR op_ge (pv 1) (kDraws RT (hr.mono (by decide)) (pv 0)) (nomark _)) (pe_one (pe_cmpR op_isN (pe_has hbroken_points (hr.mono (by decide)) (pa_cons (pe_has hrow_sums (hr.mono (by decide)) (pa_cons (kCounts RT (hr.mono (by decide)) (pv 0)) (pa_cons (pv 1) pa_nil))) (pa_cons (pv 1) pa_nil))) pe_non (nomark _)))))), ?_⟩
    walk_at "rd"
    have l3 := hN.1
    refine ⟨ps, hrow, ?_⟩
    unfold comeG at k
    by_cases h2 : ps.length - 1 ≤ N
    · rw [if_pos (by omega)]
      obtain ⟨b, c, S, pre⟩ := ok h2
      refine ⟨ps, hrow, fun y ⟨p, ey, hS⟩ => ?_⟩
      subst ey
      refine ⟨p, ps, N, n, rfl, hS, hN, n1, n6, by omega, bN, fun l G e hl => ?_⟩
      refine ⟨l, sumsL ps N, N, b, c, rfl, hl, S, by simp [sumsL]; omega, pre, fun G2 e2 => ⟨fun hF => ?_, fun hF q => ?_⟩⟩
      · have := k G2 (e.trans e2)
        rw [decide_eq_true h2, @decide_eq_true _ (Classical.propDecidable _) hF] at this
        exact this
      · have := k G2 (e.trans e2)
        rw [decide_eq_true h2, @decide_eq_false _ (Classical.propDecidable _) hF] at this
        exact this
    · rw [if_neg (by omega)]
      have := k H (Ex.refl _)
      rw [decide_eq_false h2, Bool.false_and] at this
      exact this
end

section
variable {P : Program} {w : World} {K : PySem.W.Frag} {mg : Str → Option Value} {base : Heap}
/-! ### rows of at most four draws: what the search asks, holds -/
theorem disc_id (s0 s1 s2 s3 : Int) : s0 * s0 * discF s0 s1 s2 s3 = (s0 * midF s0 s1 s2 s3 - 2 * s1 * dblF s0 s1 s2) * (s0 * midF s0 s1 s2 s3 - 2 * s1 * dblF s0 s1 s2) + 4 * (dblF s0 s1 s2 * dblF s0 s1 s2 * dblF s0 s1 s2) := by
  unfold discF midF lastF dblF
  grind
theorem sq_nn (x : Int) : 0 ≤ x * x := by
  rcases Int.le_total 0 x with h | h
  · exact Int.mul_nonneg h h
  · have := Int.mul_nonneg (show 0 ≤ -x by omega) (show 0 ≤ -x by omega)
    rwa [Int.neg_mul_neg] at this
theorem roots_of {s0 s1 s2 s3 : Int} (h0 : 0 < s0) (hd : 0 ≤ dblF s0 s1 s2) : Roots s0 s1 s2 s3 := by
  refine ⟨h0, hd, ?_⟩
  apply Classical.byContradiction
  intro hn
  have e := disc_id s0 s1 s2 s3
  have p1 := sq_nn (s0 * midF s0 s1 s2 s3 - 2 * s1 * dblF s0 s1 s2)
  have p2 : 0 ≤ dblF s0 s1 s2 * dblF s0 s1 s2 * dblF s0 s1 s2 := Int.mul_nonneg (sq_nn _) hd
  have p3 : 0 < s0 * s0 := Int.mul_pos h0 h0
  have p4 : s0 * s0 * discF s0 s1 s2 s3 < 0 := Int.mul_neg_of_pos_of_neg p3 (by omega)
  omega
theorem at_eq {s0 s1 : Int} {N : Nat} (h0 : 0 < s0) (h1 : 0 ≤ s1) (hN : 1 ≤ N) : mxF 0 (mnF ((N : Int) - 1) (s1 / s0)) = atF s0 s1 N := by
  have q0 : 0 ≤ s1 / s0 := Int.ediv_nonneg h1 (by omega)
  unfold mxF mnF atF
  repeat' split
  all_goals omega
theorem pair1 {s0 s1 : Int} {N : Nat} (h0 : 0 < s0) (h1 : 0 ≤ s1) (h2 : s1 ≤ N * s0) (hN : 1 ≤ N) : pairsF 1 [s0, s1] 0 (N : Int) [] = [atF s0 s1 N, atF s0 s1 N + 1] := by
  obtain ⟨a0, a1, a2, a3⟩ := at_ok h0 h1 h2 hN
  have ea : aboutF [s0, s1] ((0 + 1 : Nat) : Int) [] = s1 / s0 := by
    unfold aboutF nearG
    simp [h0]
  have eh : highF (0 + 1) (N : Int) [] = (N : Int) - 1 := by
    unfold highF
    simp
    omega
  unfold pairsF
  rw [ea, eh, at_eq h0 h1 hN]
  unfold goF
  have es : sideF s0 s1 (atF s0 s1 N) (atF s0 s1 N + 1) [] = 0 := by
    unfold sideF
    rw [if_neg (by simp), if_pos ⟨a2, a3⟩]
  have eb : bodyF (fun ss2 ts2 => pairsF 0 ss2 0 (N : Int) ts2) [s0, s1] [] (atF s0 s1 N) = (0, srtF [atF s0 s1 N, atF s0 s1 N + 1]) := by
    have : bodyF (fun ss2 ts2 => pairsF 0 ss2 0 (N : Int) ts2) [s0, s1] [] (atF s0 s1 N) = (sideF s0 s1 (atF s0 s1 N) (atF s0 s1 N + 1) [], srtF [atF s0 s1 N, atF s0 s1 N + 1]) := rfl
    rw [this, es]
  rw [eb, if_pos (.inl rfl)]
  exact (srt_one (List.Perm.refl _) (by simp; omega)).symm
theorem turn0 {pts : List Int} {N : Int} (h : N ∉ pts) : turnF pts N = 0 := isT_one (turn_is pts N) ⟨fun i hi => by omega, by simpa using h⟩
theorem turn1 {N : Int} : turnF [N] N = 1 := isT_one (turn_is [N] N) ⟨fun i hi => by
  have : i = 0 := by omega
  subst this
  simp, by simp; omega⟩
theorem pass_mean {s0 s1 : Int} {r : List Int} {N : Nat} (hN : 1 ≤ N) (h : PassM (s0 :: s1 :: r) 1 N) : 0 ≤ s1 ∧ s1 ≤ N * s0 := by
  obtain ⟨h1, h2⟩ := h
  have e1 : lowestF (s0 :: s1 :: r) 1 (N : Int) = [0] := rfl
  have e2 : highestF (s0 :: s1 :: r) 1 (N : Int) = [(N : Int)] := rfl
  rw [e1] at h1
  rw [e2] at h2
  unfold meanG at h1 h2
  rw [turn0 (by simp; omega)] at h1
  rw [turn1] at h2
  have f1 : (timesL ((s0 :: s1 :: r).take (([0] : List Int).length + 1)) [0]).getD 0 0 = s1 + (((0 : Nat) : Int) - 0) * s0 := rfl
  have f2 : (timesL ((s0 :: s1 :: r).take ([(N : Int)].length + 1)) [(N : Int)]).getD 0 0 = s1 + (((0 : Nat) : Int) - N) * s0 := rfl
  have g0 : sg 0 = 1 := rfl
  have g1 : sg 1 = -1 := rfl
  rw [f1, g0] at h1
  rw [f2, g1] at h2
  refine ⟨by simpa using h1, ?_⟩
  have : (-1) * (s1 + (((0 : Nat) : Int) - N) * s0) = N * s0 - s1 := by grind
  rw [this] at h2
  omega
theorem dbl_of {s0 s1 s2 : Int} {r : List Int} {N : Nat} (hN : 1 ≤ N) (h0 : 0 < s0) (p1 : PassM (s0 :: s1 :: s2 :: r) 1 N) (p2 : PassM (s0 :: s1 :: s2 :: r) 2 N) : 0 ≤ dblF s0 s1 s2 := by
  obtain ⟨h1, h2⟩ := pass_mean hN p1
  obtain ⟨a0, a1, a2, a3⟩ := at_ok h0 h1 h2 hN
  have e1 : lowestF (s0 :: s1 :: s2 :: r) 2 (N : Int) = pairsF 1 [s0, s1] 0 (N : Int) [] := rfl
  have h := p2.1
  rw [e1, pair1 h0 h1 h2 hN] at h
  generalize atF s0 s1 N = A at *
  have ts : sg (turnF [A, A + 1] (N : Int)) = 1 := by
    by_cases hA : A + 1 = (N : Int)
    · have : turnF [A, A + 1] (N : Int) = 2 := isT_one (turn_is _ _) ⟨fun i hi => by
        have : i = 0 ∨ i = 1 := by omega
        rcases this with rfl | rfl <;> simp <;> omega, by simp; omega⟩
      rw [this]
      rfl
    · rw [turn0 (by simp; omega)]
      rfl
  unfold meanG at h
  rw [ts] at h
  have f : (timesL ((s0 :: s1 :: s2 :: r).take ([A, A + 1].length + 1)) [A, A + 1]).getD 0 0 = (s2 + (((1 : Nat) : Int) - A) * s1) + (((0 : Nat) : Int) - (A + 1)) * (s1 + (((0 : Nat) : Int) - A) * s0) := rfl
  rw [f] at h
  have q1 := Int.mul_nonneg (show 0 ≤ s0 by omega) h
  have q2 := Int.mul_nonneg a3 a2
  have : dblF s0 s1 s2 = s0 * (1 * ((s2 + (((1 : Nat) : Int) - A) * s1) + (((0 : Nat) : Int) - (A + 1)) * (s1 + (((0 : Nat) : Int) - A) * s0))) + (s1 - A * s0) * ((A + 1) * s0 - s1) := by
    unfold dblF
    grind
  rw [this]
  omega
/-- sums of at most four draws -/
theorem pre_four {ss : List Int} {N b c : Nat} (hN : 1 ≤ N) (hb : b + 5 ≤ 490) (h0 : 0 < ss.getD 0 0) (hl : ss.length ≤ 5) : PreG ss N b c := by
  intro m m1 ml ps
  refine ⟨fun h => ⟨hb, ?_⟩, fun h => ?_⟩
  · have m4 : m = 4 := by omega
    subst m4
    match ss, ml, hl with
    | [s0, s1, s2, s3, s4], _, _ =>
      intro _
      exact roots_of h0 (dbl_of hN h0 (ps 1 (by decide) (by decide)) (ps 2 (by decide) (by decide)))
  · exfalso
    unfold higN at h
    split at h <;> omega
theorem way0 (cs : List Int) : wayS cs 0 = cs.sum := by
  unfold wayS
  congr 1
  apply List.ext_getElem?
  intro i
  rw [List.getElem?_map]
  by_cases h : i < cs.length
  · rw [List.getElem?_range h, List.getElem?_eq_getElem h]
    show some (cs.getD i 0 * ((chs i 0 : Nat) : Int)) = _
    rw [chs_zero, List.getD_eq_getElem?_getD, List.getElem?_eq_getElem h]
    simp
  · rw [List.getElem?_eq_none (by simp; omega), List.getElem?_eq_none (by omega)]
    rfl
theorem come_ok {ps : List Int} {N n : Nat} (hn : NumL ps (n + 1) (2 ^ 110)) (n1 : 1 ≤ n) (n4 : n ≤ 4) (hs : 0 < ps.sum) (hN : N < 2 ^ 80) : ComeOk ps N := by
  intro hle
  have hl := hn.1
  have len : (sumsL ps N).length = n + 1 := by simp [sumsL, hl]
  have yb : ∀ j, j ≤ n → 0 ≤ yesF ps j ∧ (yesF ps j).natAbs < 2 ^ 131 := fun j hj => by
    have := yes_le (j := j) (n := n) hn (by omega) hj
    omega
  have pb : ∀ j, j ≤ n → (prm N j).natAbs < 2 ^ 321 := fun j hj => by
    have h := fp_abs (n := (N : Int)) (c := 80) (by omega) (by rw [Int.natAbs_natCast]; exact Nat.le_of_lt hN) j (by omega)
    exact Nat.lt_of_le_of_lt h (Nat.pow_lt_pow_right (by decide) (by omega))
  have S : SumOk (sumsL ps N) N 452 80 := by
    refine ⟨fun x hx => ?_, by omega, hN, by decide, by decide, by decide⟩
    obtain ⟨j, hj, rfl⟩ := List.mem_map.mp hx
    have hj := List.mem_range.mp hj
    exact szm (yb j (by omega)).2 (pb j (by omega)) (by decide)
  refine ⟨452, 80, S, pre_four (by omega) (by decide) ?_ (by omega)⟩
  have e : (sumsL ps N).getD 0 0 = yesF ps 0 * prm N 0 := by
    unfold sumsL
    rw [List.getD_eq_getElem?_getD, List.getElem?_map, List.getElem?_range (by omega)]
    rfl
  rw [e, prm0, Int.mul_one]
  unfold yesF
  rw [way0]
  have f1 := (fac_le 0 (by decide)).1
  have f2 := (fac_le (ps.length - 1 - 0) (by omega)).1
  exact Int.mul_pos (Int.mul_pos hs (by omega)) (by omega)
end

section
/-! ### functionals told by their sums, and what they say of products -/
/-- M (M - 1) .. (M - j + 1) -/
def ff (M : Int) : Nat → Int
  | 0 => 1
  | j + 1 => ff M j * (M - (j : Int))
def prodP (pts : List Int) (M : Int) : Int := (pts.map fun a => M - a).foldr (· * ·) 1
theorem prod_nil (M : Int) : prodP [] M = 1 := rfl
theorem prod_cons (a : Int) (pts : List Int) (M : Int) : prodP (a :: pts) M = (M - a) * prodP pts M := rfl
theorem prod_app (l r : List Int) (M : Int) : prodP (l ++ r) M = prodP l M * prodP r M := by
  induction l with
  | nil => rw [List.nil_append, prod_nil, Int.one_mul]
  | cons a l ih => rw [List.cons_append, prod_cons, prod_cons, ih, Int.mul_assoc]
theorem prod_perm {l r : List Int} (h : l.Perm r) (M : Int) : prodP l M = prodP r M := by
  induction h with
  | nil => rfl
  | cons x _ ih => rw [prod_cons, prod_cons, ih]
  | swap x y l => rw [prod_cons, prod_cons, prod_cons, prod_cons, Int.mul_left_comm]
  | trans _ _ h1 h2 => rw [h1, h2]
abbrev Wts := List (Int × Rat)
/-- the sum over all weights -/
def sw (zs : Wts) (f : Int → Rat) : Rat := (zs.map fun z => z.2 * f z.1).sum
theorem sw_nil (f : Int → Rat) : sw [] f = 0 := rfl
theorem sw_cons (z : Int × Rat) (zs : Wts) (f : Int → Rat) : sw (z :: zs) f = z.2 * f z.1 + sw zs f := rfl
theorem sw_app (a b : Wts) (f : Int → Rat) : sw (a ++ b) f = sw a f + sw b f := by
  induction a with
  | nil => rw [List.nil_append, sw_nil]; grind
  | cons z a ih => rw [List.cons_append, sw_cons, sw_cons, ih]; grind
theorem sw_add (zs : Wts) (f g : Int → Rat) : sw zs (fun M => f M + g M) = sw zs f + sw zs g := by
  induction zs with
  | nil => rw [sw_nil, sw_nil, sw_nil]; grind
  | cons z zs ih => rw [sw_cons, sw_cons, sw_cons, ih]; grind
theorem sw_mul (c : Rat) (zs : Wts) (f : Int → Rat) : sw zs (fun M => c * f M) = c * sw zs f := by
  induction zs with
  | nil => rw [sw_nil, sw_nil]; grind
  | cons z zs ih => rw [sw_cons, sw_cons, ih]; grind
theorem sw_congr {zs : Wts} {f g : Int → Rat} (h : ∀ z ∈ zs, f z.1 = g z.1) : sw zs f = sw zs g := by
  unfold sw
  congr 1
  exact List.map_congr_left fun z hz => by rw [h z hz]
theorem sw_nn {zs : Wts} {f : Int → Rat} (h : ∀ z ∈ zs, 0 ≤ z.2 * f z.1) : 0 ≤ sw zs f := by
  induction zs with
  | nil => rw [sw_nil]; exact Rat.le_refl
  | cons z zs ih =>
    rw [sw_cons]
    have h1 := h z (by simp)
    have h2 := ih fun x hx => h x (by simp [hx])
    grind
theorem sw_scale (c : Rat) (zs : Wts) (f : Int → Rat) : sw (zs.map fun z => (z.1, c * z.2)) f = c * sw zs f := by
  induction zs with
  | nil => rw [List.map_nil, sw_nil]; grind
  | cons z zs ih => rw [List.map_cons, sw_cons, sw_cons, ih]; grind
theorem sw_by (g : Int → Rat) (zs : Wts) (f : Int → Rat) : sw (zs.map fun z => (z.1, z.2 * g z.1)) f = sw zs fun M => g M * f M := by
  induction zs with
  | nil => rfl
  | cons z zs ih => rw [List.map_cons, sw_cons, sw_cons, ih]; grind
/-- the weights have the sums -/
def RepW (zs : Wts) (ss : List Int) : Prop := ∀ j, j < ss.length → ((ss.getD j 0 : Int) : Rat) = sw zs fun M => ((ff M j : Int) : Rat)
theorem stp_len (ss : List Int) (a : Int) : (stepL ss a).length = ss.length - 1 := by simp [stepL]
theorem step_get {ss : List Int} {a : Int} {j : Nat} (h : j + 1 < ss.length) : (stepL ss a).getD j 0 = ss.getD (j + 1) 0 + ((j : Int) - a) * ss.getD j 0 := by
  unfold stepL
  rw [List.getD_eq_getElem?_getD, List.getElem?_map, List.getElem?_range (by omega)]
  rfl
theorem rep_step {zs : Wts} {ss : List Int} (a : Int) (h : RepW zs ss) : RepW (zs.map fun z => (z.1, z.2 * (((z.1 - a : Int)) : Rat))) (stepL ss a) := by
  intro j hj
  rw [stp_len] at hj
  rw [step_get (by omega), sw_by (fun M => (((M - a : Int)) : Rat))]
  have h0 := h j (by omega)
  have h1 := h (j + 1) (by omega)
  rw [Rat.intCast_add, Rat.intCast_mul, h0, h1, ← sw_mul, ← sw_add]
  apply sw_congr
  intro z _
  show _ = _
  have e : ff z.1 (j + 1) = ff z.1 j * (z.1 - (j : Int)) := rfl
  rw [e, Rat.intCast_mul]
  have e2 : ((((j : Int) - a : Int)) : Rat) = (((j : Int)) : Rat) - ((a : Int) : Rat) := Rat.intCast_sub _ _
  have e3 : (((z.1 - (j : Int) : Int)) : Rat) = ((z.1 : Int) : Rat) - (((j : Int)) : Rat) := Rat.intCast_sub _ _
  have e4 : (((z.1 - a : Int)) : Rat) = ((z.1 : Int) : Rat) - ((a : Int) : Rat) := Rat.intCast_sub _ _
  rw [e2, e3, e4]
  grind
theorem rep_times {zs : Wts} : ∀ (pts : List Int) {ss : List Int} {g : Int → Rat}, RepW (zs.map fun z => (z.1, z.2 * g z.1)) ss → RepW (zs.map fun z => (z.1, z.2 * (g z.1 * ((prodP pts z.1 : Int) : Rat)))) (timesL ss pts)
  | [], ss, g, h => by
    have e : (zs.map fun z => (z.1, z.2 * (g z.1 * ((prodP [] z.1 : Int) : Rat)))) = zs.map fun z => (z.1, z.2 * g z.1) := by
      apply List.map_congr_left
      intro z _
      rw [prod_nil]
      have : (((1 : Int)) : Rat) = 1 := rfl
      rw [this]
      grind
    rw [e]
    exact h
  | a :: pts, ss, g, h => by
    have h1 := rep_step a h
    rw [List.map_map] at h1
    have h2 := rep_times pts (g := fun M => g M * (((M - a : Int)) : Rat)) (ss := stepL ss a) (by
      have e : (zs.map fun z => (z.1, z.2 * (g z.1 * (((z.1 - a : Int)) : Rat)))) = zs.map ((fun z => (z.1, z.2 * (((z.1 - a : Int)) : Rat))) ∘ fun z => (z.1, z.2 * g z.1)) := by
        apply List.map_congr_left
        intro z _
        show (z.1, _) = (z.1, _)
        congr 1
        show _ = z.2 * g z.1 * _
        grind
      rw [e]
      exact h1)
    have e : (zs.map fun z => (z.1, z.2 * (g z.1 * ((prodP (a :: pts) z.1 : Int) : Rat)))) = zs.map fun z => (z.1, z.2 * (g z.1 * (((z.1 - a : Int)) : Rat) * ((prodP pts z.1 : Int) : Rat))) := by
      apply List.map_congr_left
      intro z _
      rw [prod_cons, Rat.intCast_mul]
      congr 1
      grind
    rw [e]
    exact h2
/-- the mean of a product -/
def EV (ss pts : List Int) : Int := (timesL ss pts).getD 0 0
theorem rep_one {zs : Wts} {ss : List Int} (h : RepW zs ss) : RepW (zs.map fun z => (z.1, z.2 * (1 : Rat))) ss := by
  have e : (zs.map fun z => (z.1, z.2 * (1 : Rat))) = zs := by
    conv => rhs; rw [← List.map_id zs]
    apply List.map_congr_left
    intro z _
    show (z.1, z.2 * (1 : Rat)) = z
    have : z.2 * (1 : Rat) = z.2 := by grind
    rw [this]
  rw [e]
  exact h
theorem rep_ev {zs : Wts} {ss pts : List Int} (h : RepW zs ss) (hl : pts.length < ss.length) : ((EV ss pts : Int) : Rat) = sw zs fun M => ((prodP pts M : Int) : Rat) := by
  have h1 := rep_times pts (g := fun _ => 1) (rep_one h)
  have h2 := h1 0 (by rw [times_len]; omega)
  unfold EV
  rw [h2, sw_by (fun M => 1 * ((prodP pts M : Int) : Rat))]
  apply sw_congr
  intro z _
  show _ = _
  have : (((ff z.1 0 : Int)) : Rat) = 1 := rfl
  rw [this]
  grind
/-- weights from 0 on at integers from lo to hi have the sums -/
def Rep (lo hi : Int) (ss : List Int) : Prop := ∃ zs : Wts, (∀ z ∈ zs, lo ≤ z.1 ∧ z.1 ≤ hi ∧ 0 ≤ z.2) ∧ RepW zs ss
theorem Rep.nn {lo hi : Int} {ss pts : List Int} (h : Rep lo hi ss) (hl : pts.length < ss.length) (hp : ∀ M, lo ≤ M → M ≤ hi → 0 ≤ prodP pts M) : 0 ≤ EV ss pts := by
  obtain ⟨zs, hz, hr⟩ := h
  have e := rep_ev hr hl
  have q : 0 ≤ sw zs fun M => ((prodP pts M : Int) : Rat) := sw_nn fun z m => by
    obtain ⟨h1, h2, h3⟩ := hz z m
    exact Rat.mul_nonneg h3 (Rat.intCast_nonneg.mpr (hp _ h1 h2))
  rw [← e] at q
  exact Rat.intCast_nonneg.mp q
theorem Rep.np {lo hi : Int} {ss pts : List Int} (h : Rep lo hi ss) (hl : pts.length < ss.length) (hp : ∀ M, lo ≤ M → M ≤ hi → prodP pts M ≤ 0) : EV ss pts ≤ 0 := by
  obtain ⟨zs, hz, hr⟩ := h
  have e := rep_ev hr hl
  have q : 0 ≤ sw zs fun M => (((0 - prodP pts M) : Int) : Rat) := sw_nn fun z m => by
    obtain ⟨h1, h2, h3⟩ := hz z m
    exact Rat.mul_nonneg h3 (Rat.intCast_nonneg.mpr (by have := hp _ h1 h2; omega))
  have e2 : (sw zs fun M => (((0 - prodP pts M) : Int) : Rat)) = (((0 - EV ss pts) : Int) : Rat) := by
    rw [Rat.intCast_sub, e]
    have : (fun M => (((0 - prodP pts M) : Int) : Rat)) = fun M => (-1 : Rat) * ((prodP pts M : Int) : Rat) := by
      funext M
      rw [Rat.intCast_sub]
      have : (((0 : Int)) : Rat) = 0 := rfl
      rw [this]
      grind
    rw [this, sw_mul]
    have : (((0 : Int)) : Rat) = 0 := rfl
    rw [this]
    grind
  rw [e2] at q
  have := Rat.intCast_nonneg.mp q
  omega
theorem Rep.take {lo hi : Int} {ss : List Int} (h : Rep lo hi ss) (m : Nat) : Rep lo hi (ss.take m) := by
  obtain ⟨zs, hz, hr⟩ := h
  refine ⟨zs, hz, fun j hj => ?_⟩
  rw [List.length_take] at hj
  have e : (ss.take m).getD j 0 = ss.getD j 0 := by
    rw [List.getD_eq_getElem?_getD, List.getD_eq_getElem?_getD, List.getElem?_take_of_lt (by omega)]
  rw [e]
  exact hr j (by omega)
/-- at any points, all different, there are weights that have as many sums -/
theorem some_w : ∀ (pts : List Int) (ss : List Int), ss.length = pts.length → pts.Nodup → ∃ zs : Wts, zs.map (·.1) = pts ∧ RepW zs ss
  | [], ss, hl, _ => ⟨[], rfl, fun j hj => by rw [hl] at hj; exact absurd hj (by simp)⟩
  | p :: pts, ss, hl, hn => by
    obtain ⟨np, nd⟩ := List.nodup_cons.mp hn
    rw [List.length_cons] at hl
    obtain ⟨vs, e1, r1⟩ := some_w pts (stepL ss p) (by rw [stp_len]; omega) nd
    have off : ∀ z ∈ vs, ((((z.1 - p : Int)) : Rat)) ≠ 0 := fun z hz => by
      have : z.1 ∈ pts := by rw [← e1]; exact List.mem_map.mpr ⟨z, hz, rfl⟩
      exact cast_ne (fun q => np (by have : z.1 = p := by omega
                                     rw [← this]; assumption))
    obtain ⟨us, hus⟩ : ∃ us : Wts, us = vs.map fun z => (z.1, z.2 * (1 / (((z.1 - p : Int)) : Rat))) := ⟨_, rfl⟩
    obtain ⟨w0, hw0⟩ : ∃ w0 : Rat, w0 = ((ss.getD 0 0 : Int) : Rat) - sw us fun M => ((ff M 0 : Int) : Rat) := ⟨_, rfl⟩
    have back : ∀ f : Int → Rat, sw us (fun M => (((M - p : Int)) : Rat) * f M) = sw vs f := fun f => by
      rw [hus, sw_by (fun M => 1 / (((M - p : Int)) : Rat))]
      apply sw_congr
      intro z hz
      have := off z hz
      show _ = f z.1
      generalize (((z.1 - p : Int)) : Rat) = d at *
      grind
    refine ⟨(p, w0) :: us, by rw [List.map_cons, hus, List.map_map]; exact congrArg _ e1, ?_⟩
    intro j
    induction j with
    | zero =>
      intro _
      rw [sw_cons, hw0]
      have : (((ff p 0 : Int)) : Rat) = 1 := rfl
      rw [this]
      grind
    | succ j ih =>
      intro hj
      have ij := ih (by omega)
      have r := r1 j (by rw [stp_len]; omega)
      rw [step_get hj, ← back, Rat.intCast_add, Rat.intCast_mul, ij] at r
      rw [sw_cons] at r ⊢
      have e2 : ((ff p (j + 1) : Int) : Rat) = ((ff p j : Int) : Rat) * (((p : Int) : Rat) - (((j : Int)) : Rat)) := by
        rw [← Rat.intCast_sub, ← Rat.intCast_mul]
        rfl
      have e3 : (sw us fun M => ((ff M (j + 1) : Int) : Rat)) = (sw us fun M => (((M - p : Int)) : Rat) * ((ff M j : Int) : Rat)) + (((p : Int) : Rat) - (((j : Int)) : Rat)) * sw us fun M => ((ff M j : Int) : Rat) := by
        rw [← sw_mul, ← sw_add]
        apply sw_congr
        intro z _
        show (((ff z.1 j * (z.1 - (j : Int)) : Int)) : Rat) = _
        rw [Rat.intCast_mul, Rat.intCast_sub, Rat.intCast_sub]
        grind
      rw [e2, e3]
      have e4 : ((((j : Int) - p : Int)) : Rat) = (((j : Int)) : Rat) - ((p : Int) : Rat) := Rat.intCast_sub _ _
      rw [e4] at r
      simp only [] at *
      generalize (sw us fun M => (((M - p : Int)) : Rat) * ((ff M j : Int) : Rat)) = A at *
      generalize (sw us fun M => ((ff M j : Int) : Rat)) = B at *
      generalize (((j : Int)) : Rat) = J at *
      generalize ((p : Int) : Rat) = Pp at *
      generalize ((ff p j : Int) : Rat) = F at *
      grind
end

section
/-! ### one pair, two pairs -/
variable {s0 s1 s2 s3 : Int}
theorem ev1 (p : Int) : EV [s0, s1, s2, s3] [p] = s1 - p * s0 := by
  show s1 + (((0 : Nat) : Int) - p) * s0 = _
  grind
theorem ev2 (p q : Int) : EV [s0, s1, s2, s3] [p, q] = s2 + s1 - (p + q) * s1 + p * q * s0 := by
  show (s2 + (((1 : Nat) : Int) - p) * s1) + (((0 : Nat) : Int) - q) * (s1 + (((0 : Nat) : Int) - p) * s0) = _
  grind
theorem ev3 (p q r : Int) : EV [s0, s1, s2, s3] [p, q, r] = s3 + 3 * s2 + s1 - (p + q + r) * (s2 + s1) + (p * q + p * r + q * r) * s1 - p * q * r * s0 := by
  show ((s3 + (((2 : Nat) : Int) - p) * s2) + (((1 : Nat) : Int) - q) * (s2 + (((1 : Nat) : Int) - p) * s1)) + (((0 : Nat) : Int) - r) * ((s2 + (((1 : Nat) : Int) - p) * s1) + (((0 : Nat) : Int) - q) * (s1 + (((0 : Nat) : Int) - p) * s0)) = _
  grind
theorem times2 (p q : Int) : timesL [s0, s1, s2, s3] [p, q] = [EV [s0, s1, s2, s3] [p, q], EV [s0, s1, s2, s3] [p, q, 0]] := by
  rw [ev2, ev3]
  show [(s2 + (((1 : Nat) : Int) - p) * s1) + (((0 : Nat) : Int) - q) * (s1 + (((0 : Nat) : Int) - p) * s0), (s3 + (((2 : Nat) : Int) - p) * s2) + (((1 : Nat) : Int) - q) * (s2 + (((1 : Nat) : Int) - p) * s1)] = _
  congr 1
  · grind
  · congr 1
    grind
theorem ev3_lin (p q r : Int) : EV [s0, s1, s2, s3] [p, q, r] = EV [s0, s1, s2, s3] [p, q, 0] - r * EV [s0, s1, s2, s3] [p, q] := by
  rw [ev2, ev3, ev3]
  grind
/-- .. where the lowest pair is too low, the next one is not too high -/
theorem loc_core {x y z b : Int} (hF : 0 < z - (2 * b + 1) * y + b * (b + 1) * x) (h1 : 0 ≤ z - b * y) (h2 : z - (b + 1) * y ≤ 0) (hb : 2 ≤ b) : 0 < z - 5 * y + 6 * x := by
  have t0 : 0 ≤ (b - 2) * (b - 3) * (b + 1) := by
    rcases Int.lt_or_le b 3 with h | h
    · have : b = 2 := by omega
      subst this
      decide
    · exact Int.mul_nonneg (Int.mul_nonneg (by omega) (by omega)) (by omega)
  have k0 : 0 ≤ b * (b + 1) - 6 + (b - 2) * (b - 3) * (b + 1) := by
    have : 2 * 3 ≤ b * (b + 1) := Int.mul_le_mul hb (by omega) (by decide) (by omega)
    omega
  have q1 := Int.mul_nonneg k0 h1
  have q2 := Int.mul_nonneg t0 (show 0 ≤ -(z - (b + 1) * y) by omega)
  have e : b * (b + 1) * (z - 5 * y + 6 * x) = 6 * (z - (2 * b + 1) * y + b * (b + 1) * x) + (b * (b + 1) - 6 + (b - 2) * (b - 3) * (b + 1)) * (z - b * y) + (b - 2) * (b - 3) * (b + 1) * -(z - (b + 1) * y) := by grind
  have p : 0 < b * (b + 1) * (z - 5 * y + 6 * x) := by omega
  exact Int.pos_of_mul_pos_right p (Int.mul_pos (by omega) (by omega))
theorem loc_up {x y z b c : Int} (hy : 0 ≤ y) (hF : 0 < z - (2 * b + 1) * y + b * (b + 1) * x) (h1 : 0 ≤ z - b * y) (h2 : z - (b + 1) * y ≤ 0) (hb : 2 ≤ b) (hp : 0 ≤ y - 2 * x) (hc : 3 ≤ c)
    (g1 : 0 ≤ z - 2 * y - c * (y - 2 * x)) (g2 : z - 2 * y - (c + 1) * (y - 2 * x) ≤ 0) : 0 ≤ z - (2 * c + 1) * y + c * (c + 1) * x := by
  have bx : y < (b + 1) * x := by
    have e : z - (2 * b + 1) * y + b * (b + 1) * x = (z - (b + 1) * y) + b * ((b + 1) * x - y) := by grind
    have p : 0 < b * ((b + 1) * x - y) := by omega
    have := Int.pos_of_mul_pos_right p (by omega)
    omega
  have x0 : 0 < x := by
    have : 0 < (b + 1) * x := by omega
    exact Int.pos_of_mul_pos_right this (by omega)
  -- c is from b - 1 on
  have cb : b - 1 ≤ c := by
    apply Classical.byContradiction
    intro hn
    have hlt : c + 2 ≤ b := by omega
    -- z - 2 y is from b (y - 2 x) on
    have zb : b * (y - 2 * x) ≤ z - 2 * y := by
      rcases Int.le_total y (b * x) with h | h
      · have e : z - 2 * y - b * (y - 2 * x) = (z - b * y) + 2 * (b * x - y) := by grind
        omega
      · have q := Int.mul_nonneg (show 0 ≤ b - 1 by omega) (show 0 ≤ y - b * x by omega)
        have e : z - 2 * y - b * (y - 2 * x) = (z - (2 * b + 1) * y + b * (b + 1) * x) + (b - 1) * (y - b * x) := by grind
        omega
    -- so y = 2 x there, and nothing is left
    have w1 := Int.mul_nonneg (show 0 ≤ b - (c + 1) - 1 by omega) hp
    have e1 : (b - (c + 1) - 1) * (y - 2 * x) = b * (y - 2 * x) - (c + 1) * (y - 2 * x) - (y - 2 * x) := by grind
    have y2 : y - 2 * x = 0 := by omega
    have zz : z - 2 * y = 0 := by
      rw [y2, Int.mul_zero] at g1 g2
      omega
    have ey : y = 2 * x := by omega
    have ez : z = 4 * x := by omega
    have eF : z - (2 * b + 1) * y + b * (b + 1) * x = (b - 1) * (b - 2) * x := by
      rw [ez, ey]
      grind
    have e2 : z - b * y = (4 - 2 * b) * x := by
      rw [ez, ey]
      grind
    rw [e2] at h1
    have hb2 : b ≤ 2 := by
      apply Classical.byContradiction
      intro hb3
      have := Int.mul_pos (show 0 < 2 * b - 4 by omega) x0
      have e3 : (4 - 2 * b) * x = -((2 * b - 4) * x) := by grind
      omega
    omega
  rcases Int.lt_or_le c b with h | h
  · have hc2 : c = b - 1 := by omega
    subst hc2
    have zb : b * (y - 2 * x) ≤ z - 2 * y := by
      rcases Int.le_total y (b * x) with h | h
      · have e : z - 2 * y - b * (y - 2 * x) = (z - b * y) + 2 * (b * x - y) := by grind
        omega
      · have q := Int.mul_nonneg (show 0 ≤ b - 1 by omega) (show 0 ≤ y - b * x by omega)
        have e : z - 2 * y - b * (y - 2 * x) = (z - (2 * b + 1) * y + b * (b + 1) * x) + (b - 1) * (y - b * x) := by grind
        omega
    have eb : b - 1 + 1 = b := by omega
    rw [eb] at g2 ⊢
    have ez : z = 2 * y + b * (y - 2 * x) := by omega
    have e : z - (2 * (b - 1) + 1) * y + (b - 1) * b * x = (b - 3) * (b * x - y) := by
      rw [ez]
      grind
    rw [e]
    have eF : z - (2 * b + 1) * y + b * (b + 1) * x = (b - 1) * (b * x - y) := by
      rw [ez]
      grind
    rw [eF] at hF
    have := Int.pos_of_mul_pos_right hF (by omega)
    exact Int.mul_nonneg (by omega) (by omega)
  · rcases Int.lt_or_le b c with h3 | h3
    · have q := Int.mul_nonneg (show 0 ≤ c - (b + 1) by omega) (show 0 ≤ x by omega)
      have e0 : (c - (b + 1)) * x = c * x - (b + 1) * x := by grind
      have q2 := Int.mul_nonneg (show 0 ≤ c - 1 by omega) (show 0 ≤ c * x - y by omega)
      have e : z - (2 * c + 1) * y + c * (c + 1) * x = (z - 2 * y - c * (y - 2 * x)) + (c - 1) * (c * x - y) := by grind
      omega
    · have : c = b := by omega
      subst this
      omega
end

section
/-- what a pair asks of two sums: their mean lies between its ends -/
def Brk (t0 t1 c d : Int) : Prop := 0 ≤ t1 - c * t0 ∧ 0 ≤ d * t0 - t1
theorem srtP2 {a b : Int} (h : a ≤ b) : srtF [a, b] = [a, b] := by
  unfold srtF
  exact List.mergeSort_of_pairwise (by simp [h])
theorem goF_hit {body : Int → Int × List Int} {n : Nat} {low high a step : Int} (h : (body a).1 = 0) : goF body (n + 1) low high a step = (body a).2 := by
  unfold goF
  rw [if_pos (.inl h)]
/-- a pair that is right at once -/
theorem pair_at {t0 t1 least most : Int} {ts : List Int} {c d : Int} (hc : placeF ts (mxF least (mnF (highF 1 most ts) (aboutF [t0, t1] 1 ts))) = c) (hd : placeF ts (mxF least (mnF (highF 1 most ts) (aboutF [t0, t1] 1 ts)) + 1) = d) (hcd : c ≤ d) (hb : Brk t0 t1 c d) :
    pairsF 1 [t0, t1] least most ts = [c, d] := by
  unfold pairsF
  have one : (((0 + 1 : Nat) : Int)) = 1 := rfl
  rw [one]
  obtain ⟨a, ha⟩ : ∃ a, a = mxF least (mnF (highF 1 most ts) (aboutF [t0, t1] 1 ts)) := ⟨_, rfl⟩
  rw [← ha] at hc hd
  rw [Nat.zero_add, ← ha]
  have eb : bodyF (fun ss2 ts2 => pairsF 0 ss2 least most ts2) [t0, t1] ts a = (sideF t0 t1 c d [], srtF [c, d]) := by
    unfold bodyF
    rw [hc, hd]
    rfl
  have es : sideF t0 t1 c d [] = 0 := by
    unfold sideF
    rw [if_neg (by simp), if_pos ⟨hb.2, hb.1⟩]
  rw [goF_hit (by rw [eb, es]), eb, srtP2 hcd]
theorem place_none (a : Int) : placeF [] a = a := rfl
theorem place_two (a t : Int) : placeF [a, a + 1] t = if a ≤ t then t + 2 else t := by
  show (if a + 1 ≤ (if a ≤ t then t + 1 else t) then (if a ≤ t then t + 1 else t) + 1 else (if a ≤ t then t + 1 else t)) = _
  split <;> split <;> omega
theorem near_of {t0 t1 : Int} (h : 0 < t0) : nearG [t0, t1] 1 = t1 / t0 := by
  unfold nearG
  rw [if_pos (by simpa using h), if_pos rfl]
  rfl
theorem near_zero {t0 t1 : Int} (h : t0 = 0) : nearG [t0, t1] 1 = 0 := by
  unfold nearG
  rw [if_neg (by simp [h])]
theorem about_none {t0 t1 : Int} : aboutF [t0, t1] 1 [] = nearG [t0, t1] 1 := by
  unfold aboutF
  simp
theorem about_two {t0 t1 a : Int} : aboutF [t0, t1] 1 [a, a + 1] = nearG [t0, t1] 1 - (if a + 1 ≤ nearG [t0, t1] 1 then 2 else if a ≤ nearG [t0, t1] 1 then 1 else 0) := by
  unfold aboutF
  congr 1
  by_cases h1 : a + 1 ≤ nearG [t0, t1] 1
  · rw [if_pos h1]
    simp [List.filter_cons, h1, show a ≤ nearG [t0, t1] 1 by omega]
  · rw [if_neg h1]
    by_cases h2 : a ≤ nearG [t0, t1] 1
    · rw [if_pos h2]
      simp [List.filter_cons, h1, h2]
    · rw [if_neg h2]
      simp [List.filter_cons, h1, h2]
theorem div_le {t0 t1 : Int} (h : 0 < t0) : t1 / t0 * t0 ≤ t1 ∧ t1 < (t1 / t0 + 1) * t0 := ⟨Int.ediv_mul_le t1 (by omega), Int.lt_ediv_add_one_mul_self t1 h⟩
theorem brk_of {t0 t1 c d k : Int} (h : 0 < t0) (hk : k = t1 / t0) (h1 : c ≤ k) (h2 : k + 1 ≤ d ∨ t1 ≤ d * t0) : Brk t0 t1 c d := by
  obtain ⟨q1, q2⟩ := div_le (t1 := t1) h
  rw [← hk] at q1 q2
  have m1 := Int.mul_le_mul_of_nonneg_right h1 (show 0 ≤ t0 by omega)
  refine ⟨by omega, ?_⟩
  rcases h2 with h2 | h2
  · have m2 := Int.mul_le_mul_of_nonneg_right h2 (show 0 ≤ t0 by omega)
    omega
  · omega
/-- one pair among all integers from least to most -/
theorem kp1 {t0 t1 least most : Int} (hlm : least < most) (h0 : 0 ≤ t0) (hl : least * t0 ≤ t1) (hm : t1 ≤ most * t0) : ∃ c, pairsF 1 [t0, t1] least most [] = [c, c + 1] ∧ least ≤ c ∧ c + 1 ≤ most ∧ Brk t0 t1 c (c + 1) := by
  obtain ⟨c, hc⟩ : ∃ c, c = mxF least (mnF (most - 1) (nearG [t0, t1] 1)) := ⟨_, rfl⟩
  have eh : highF 1 most [] = most - 1 := by
    unfold highF
    simp
    omega
  have r1 : least ≤ c ∧ c + 1 ≤ most := by
    rw [hc]
    unfold mxF mnF
    repeat' split
    all_goals omega
  have hb : Brk t0 t1 c (c + 1) := by
    rcases Int.lt_or_eq_of_le h0 with hp | hz
    · have hn := near_of (t1 := t1) hp
      have k1 : least ≤ t1 / t0 := by
        have := (Int.le_ediv_iff_mul_le hp).mpr hl
        omega
      refine brk_of hp rfl ?_ ?_
      · rw [hc, hn]
        unfold mxF mnF
        repeat' split
        all_goals omega
      · by_cases hk : t1 / t0 ≤ most - 1
        · left
          have : c = t1 / t0 := by
            rw [hc, hn]
            unfold mxF mnF
            repeat' split
            all_goals omega
          omega
        · right
          have : c + 1 = most := by
            rw [hc, hn]
            unfold mxF mnF
            repeat' split
            all_goals omega
          rw [this]
          exact hm
    · subst hz
      rw [Int.mul_zero] at hl hm
      have : t1 = 0 := by omega
      subst this
      exact ⟨by simp, by simp⟩
  refine ⟨c, pair_at ?_ ?_ (by omega) hb, r1.1, r1.2, hb⟩
  · rw [eh, about_none, ← hc, place_none]
  · rw [eh, about_none, ← hc, place_none]
/-- the other pair: where it can stand, and what it holds -/
def Oth (least most a c d : Int) : Prop := least ≤ c ∧ d ≤ most ∧ ((d = c + 1 ∧ a + 2 ≤ c) ∨ (d = c + 1 ∧ d < a) ∨ (c = a - 1 ∧ d = a + 2))
/-- one pair among those integers, two neighbours left out -/
theorem kp1t {t0 t1 least most a : Int} (hla : least ≤ a) (ham : a + 3 ≤ most) (h0 : 0 ≤ t0) (hl : least * t0 ≤ t1) (hl2 : a = least → (a + 2) * t0 ≤ t1) (hm : t1 ≤ most * t0) :
    ∃ c d, pairsF 1 [t0, t1] least most [a, a + 1] = [c, d] ∧ Oth least most a c d ∧ Brk t0 t1 c d := by
  obtain ⟨k, hk⟩ : ∃ k, k = nearG [t0, t1] 1 := ⟨_, rfl⟩
  obtain ⟨g, hg⟩ : ∃ g, g = mxF least (mnF (most - 3) (k - (if a + 1 ≤ k then 2 else if a ≤ k then 1 else 0))) := ⟨_, rfl⟩
  have eh : highF 1 most [a, a + 1] = most - 3 := by
    unfold highF
    simp
    omega
  have eg : mxF least (mnF (highF 1 most [a, a + 1]) (aboutF [t0, t1] 1 [a, a + 1])) = g := by rw [eh, about_two, ← hk, hg]
  have r1 : least ≤ g ∧ g ≤ most - 3 := by
    rw [hg]
    unfold mxF mnF
    repeat' split
    all_goals omega
  have pc := place_two a g
  have pd := place_two a (g + 1)
  obtain ⟨c, hc⟩ : ∃ c, c = placeF [a, a + 1] g := ⟨_, rfl⟩
  obtain ⟨d, hd⟩ : ∃ d, d = placeF [a, a + 1] (g + 1) := ⟨_, rfl⟩
  rw [← hc] at pc
  rw [← hd] at pd
  have ot : Oth least most a c d := by
    unfold Oth
    split at pc <;> split at pd <;> omega
  have hcd : c ≤ d := by
    split at pc <;> split at pd <;> omega
  have hb : Brk t0 t1 c d := by
    rcases Int.lt_or_eq_of_le h0 with hp | hz
    · have hn := near_of (t1 := t1) hp
      rw [hn] at hk
      have k1 : least ≤ k := by
        have := (Int.le_ediv_iff_mul_le hp).mpr hl
        omega
      have k2 : a = least → a + 2 ≤ k := fun e => by
        have := (Int.le_ediv_iff_mul_le hp).mpr (hl2 e)
        omega
      have k3 : k ≤ most := by
        rw [hk]
        have q := (div_le (t1 := t1) hp).1
        apply Classical.byContradiction
        intro hn
        have := Int.mul_le_mul_of_nonneg_right (show most + 1 ≤ t1 / t0 by omega) (show 0 ≤ t0 by omega)
        have e : (most + 1) * t0 = most * t0 + t0 := by grind
        omega
      refine brk_of hp hk ?_ ?_
      · unfold mxF mnF at hg
        repeat' split at hg
        all_goals (split at pc <;> omega)
      · by_cases hkm : k = most
        · right
          have : d = most := by
            unfold mxF mnF at hg
            repeat' split at hg
            all_goals (split at pd <;> omega)
          rw [this]
          exact hm
        · left
          unfold mxF mnF at hg
          repeat' split at hg
          all_goals (split at pd <;> omega)
    · subst hz
      rw [Int.mul_zero] at hl hm
      have : t1 = 0 := by omega
      subst this
      exact ⟨by simp, by simp⟩
  exact ⟨c, d, pair_at (by rw [eg]; exact hc.symm) (by rw [eg]; exact hd.symm) hcd hb, ot, hb⟩
end

section
/-- the search finds a place where the side is 0, if sides never jump from 1 to -1 and are right at the ends -/
theorem go_zero {body : Int → Int × List Int} {lo hi : Int} (three : ∀ a, lo ≤ a → a ≤ hi → (body a).1 = 0 ∨ (body a).1 = 1 ∨ (body a).1 = -1) (e1 : (body lo).1 ≠ -1) (e2 : (body hi).1 ≠ 1)
    (loc : ∀ a, lo ≤ a → a + 1 ≤ hi → (body a).1 = 1 → (body (a + 1)).1 ≠ -1) :
    ∀ (n : Nat) (low high a step : Int), lo ≤ low → high ≤ hi → low ≤ a → a ≤ high → (low = lo ∨ (body (low - 1)).1 = 1 ∧ lo ≤ low - 1) → (high = hi ∨ (body (high + 1)).1 = -1 ∧ high + 1 ≤ hi) → high - low < n → 1 ≤ step →
      ∃ a', lo ≤ a' ∧ a' ≤ hi ∧ (body a').1 = 0 ∧ goF body n low high a step = (body a').2
  | 0, low, high, a, step, _, _, h1, h2, _, _, h, _ => by omega
  | n + 1, low, high, a, step, g1, g2, h1, h2, i1, i2, hn, hs => by
    have no1 : (body a).1 = 1 → a < high := fun h => by
      rcases Int.lt_or_eq_of_le h2 with q | q
      · exact q
      · exfalso
        subst q
        rcases i2 with z | ⟨z, z2⟩
        · rw [z] at h
          exact e2 h
        · exact loc a (by omega) (by omega) h z
    have nom : (body a).1 = -1 → low < a := fun h => by
      rcases Int.lt_or_eq_of_le h1 with q | q
      · exact q
      · exfalso
        subst q
        rcases i1 with z | ⟨z, z2⟩
        · rw [z] at h
          exact e1 h
        · have := loc (low - 1) (by omega) (by omega) z
          rw [show low - 1 + 1 = low by omega] at this
          exact this h
    unfold goF
    by_cases hc : (body a).1 = 0 ∨ high ≤ low
    · rw [if_pos hc]
      have hz : (body a).1 = 0 := by
        rcases three a (by omega) (by omega) with z | z | z
        · exact z
        · have := no1 z
          rcases hc with q | q
          · exact q
          · omega
        · have := nom z
          rcases hc with q | q
          · exact q
          · omega
      exact ⟨a, by omega, by omega, hz, rfl⟩
    · rw [if_neg hc]
      rcases three a (by omega) (by omega) with z | z | z
      · exact absurd (.inl z) hc
      · have := no1 z
        rw [if_pos (by rw [z]; decide)]
        refine go_zero three e1 e2 loc n _ _ _ _ (by omega) g2 ?_ ?_ (.inr ⟨by rw [show a + 1 - 1 = a by omega]; exact z, by omega⟩) i2 (by omega) (by omega)
        · unfold mxF mnF
          repeat' split
          all_goals omega
        · unfold mxF mnF
          repeat' split
          all_goals omega
      · have := nom z
        rw [if_neg (by rw [z]; decide)]
        refine go_zero three e1 e2 loc n _ _ _ _ g1 (by omega) ?_ ?_ i1 (.inr ⟨by rw [show a - 1 + 1 = a by omega]; exact z, by omega⟩) (by omega) (by omega)
        · unfold mxF mnF
          repeat' split
          all_goals omega
        · unfold mxF mnF
          repeat' split
          all_goals omega
theorem mul_nn_pair (x : Int) : 0 ≤ x * (x - 1) := by
  rcases Int.lt_or_le x 1 with h | h
  · have := Int.mul_nonneg (show 0 ≤ -x by omega) (show 0 ≤ 1 - x by omega)
    have e : -x * (1 - x) = x * (x - 1) := by grind
    omega
  · exact Int.mul_nonneg (by omega) (by omega)
theorem prod_pair (a M : Int) : prodP [a, a + 1] M = (M - a) * (M - a - 1) := by
  rw [prod_cons, prod_cons, prod_nil]
  grind
theorem pair_nn (a M : Int) : 0 ≤ prodP [a, a + 1] M := by
  rw [prod_pair]
  exact mul_nn_pair (M - a)
theorem prod3 (a c M : Int) : prodP [a, a + 1, c] M = prodP [a, a + 1] M * (M - c) := by
  simp only [prod_cons, prod_nil]
  grind
variable {s0 s1 s2 s3 : Int}
/-- the body at a, its other pair at c, d -/
structure BodyAt (s0 s1 s2 s3 least most a c d : Int) : Prop where
  oth : Oth least most a c d
  up : 0 ≤ EV [s0, s1, s2, s3] [a, a + 1, c]
  dn : EV [s0, s1, s2, s3] [a, a + 1, d] ≤ 0
abbrev body2 (ss : List Int) (least most : Int) : Int → Int × List Int := bodyF (fun ss2 ts2 => pairsF 1 ss2 least most ts2) ss []
theorem body_at {least most a : Int} (R : Rep least most [s0, s1, s2, s3]) (hla : least ≤ a) (ham : a + 3 ≤ most) :
    ∃ c d, BodyAt s0 s1 s2 s3 least most a c d ∧ body2 [s0, s1, s2, s3] least most a = (sideF (EV [s0, s1, s2, s3] [c, d]) (EV [s0, s1, s2, s3] [c, d, 0]) a (a + 1) [c, d], srtF [a, a + 1, c, d]) := by
  have h0 : 0 ≤ EV [s0, s1, s2, s3] [a, a + 1] := R.nn (by simp) fun M _ _ => pair_nn a M
  have hl : 0 ≤ EV [s0, s1, s2, s3] [a, a + 1, least] := R.nn (by simp) fun M h1 _ => by rw [prod3]; exact Int.mul_nonneg (pair_nn a M) (by omega)
  have hm : EV [s0, s1, s2, s3] [a, a + 1, most] ≤ 0 := R.np (by simp) fun M _ h2 => by
    rw [prod3]
    have := Int.mul_nonneg (pair_nn a M) (show 0 ≤ most - M by omega)
    have e : prodP [a, a + 1] M * (M - most) = -(prodP [a, a + 1] M * (most - M)) := by grind
    omega
  have hl2 : a = least → 0 ≤ EV [s0, s1, s2, s3] [a, a + 1, a + 2] := fun e => R.nn (by simp) fun M h1 _ => by
    rw [prod3, prod_pair]
    rcases Int.lt_or_le M (a + 2) with h | h
    · have : M - a = 0 ∨ M - a = 1 := by omega
      rcases this with q | q <;> rw [q] <;> simp
    · exact Int.mul_nonneg (Int.mul_nonneg (by omega) (by omega)) (by omega)
  rw [ev3_lin] at hl hm
  obtain ⟨c, d, e1, ot, bk⟩ := kp1t (t0 := EV [s0, s1, s2, s3] [a, a + 1]) (t1 := EV [s0, s1, s2, s3] [a, a + 1, 0]) hla ham h0 (by omega) (fun e => by have := hl2 e; rw [ev3_lin] at this; omega) (by omega)
  obtain ⟨b1, b2⟩ := bk
  refine ⟨c, d, ⟨ot, by rw [ev3_lin]; omega, by rw [ev3_lin]; omega⟩, ?_⟩
  have eo : pairsF 1 (timesL [s0, s1, s2, s3] [placeF [] a, placeF [] (a + 1)]) least most (srtF ([] ++ [placeF [] a, placeF [] (a + 1)])) = [c, d] := by
    rw [place_none, place_none, List.nil_append, srtP2 (by omega), times2]
    exact e1
  unfold body2 bodyF
  dsimp only
  rw [eo, times2, place_none, place_none]
  rfl
theorem side_ev {a c d : Int} : (a + 1) * EV [s0, s1, s2, s3] [c, d] - EV [s0, s1, s2, s3] [c, d, 0] = -EV [s0, s1, s2, s3] [c, d, a + 1] ∧ EV [s0, s1, s2, s3] [c, d, 0] - a * EV [s0, s1, s2, s3] [c, d] = EV [s0, s1, s2, s3] [c, d, a] := by
  rw [ev3_lin c d (a + 1), ev3_lin c d a]
  constructor <;> grind
/-- the side, by where the other pair is -/
theorem side_str {r0 r1 a : Int} : sideF r0 r1 a (a + 1) [a - 1, a + 2] = -1 := by
  unfold sideF
  have h1 : a - 1 < a := by omega
  have h2 : ¬ (a + 2 < a) := by omega
  rw [if_pos (by simp [List.filter_cons, h1, h2])]
theorem side_up {a c : Int} (h : a + 2 ≤ c) : sideF (EV [s0, s1, s2, s3] [c, c + 1]) (EV [s0, s1, s2, s3] [c, c + 1, 0]) a (a + 1) [c, c + 1] =
    if 0 ≤ -EV [s0, s1, s2, s3] [c, c + 1, a + 1] ∧ 0 ≤ EV [s0, s1, s2, s3] [c, c + 1, a] then 0 else if -EV [s0, s1, s2, s3] [c, c + 1, a + 1] < 0 then 1 else -1 := by
  obtain ⟨e1, e2⟩ := side_ev (s0 := s0) (s1 := s1) (s2 := s2) (s3 := s3) (a := a) (c := c) (d := c + 1)
  unfold sideF
  have h1 : ¬ (c < a) := by omega
  have h2 : ¬ (c + 1 < a) := by omega
  have h3 : a + 1 < c := by omega
  have h4 : a + 1 < c + 1 := by omega
  rw [if_neg (by simp [List.filter_cons, h1, h2]), e1, e2]
  simp [h3, h4]
theorem side_dn {a c : Int} (h : c + 1 < a) : sideF (EV [s0, s1, s2, s3] [c, c + 1]) (EV [s0, s1, s2, s3] [c, c + 1, 0]) a (a + 1) [c, c + 1] =
    if 0 ≤ -EV [s0, s1, s2, s3] [c, c + 1, a + 1] ∧ 0 ≤ EV [s0, s1, s2, s3] [c, c + 1, a] then 0 else -1 := by
  obtain ⟨e1, e2⟩ := side_ev (s0 := s0) (s1 := s1) (s2 := s2) (s3 := s3) (a := a) (c := c) (d := c + 1)
  unfold sideF
  have h1 : c < a := by omega
  have h3 : ¬ (a + 1 < c) := by omega
  rw [if_neg (by simp [List.filter_cons, h1, h]), e1, e2]
  simp [h3]
theorem loc2 {least most a c d c' d' : Int} (R : Rep least most [s0, s1, s2, s3]) (B : BodyAt s0 s1 s2 s3 least most a c d) (B' : BodyAt s0 s1 s2 s3 least most (a + 1) c' d')
    (h : sideF (EV [s0, s1, s2, s3] [c, d]) (EV [s0, s1, s2, s3] [c, d, 0]) a (a + 1) [c, d] = 1) : sideF (EV [s0, s1, s2, s3] [c', d']) (EV [s0, s1, s2, s3] [c', d', 0]) (a + 1) (a + 1 + 1) [c', d'] ≠ -1 := by
  -- the other pair is above
  have hc : a + 2 ≤ c ∧ d = c + 1 ∧ 0 < EV [s0, s1, s2, s3] [c, c + 1, a + 1] := by
    rcases B.oth.2.2 with ⟨e, q⟩ | ⟨e, q⟩ | ⟨e, q⟩
    · subst e
      rw [side_up q] at h
      split at h
      · cases h
      · split at h
        · exact ⟨q, rfl, by omega⟩
        · cases h
    · subst e
      rw [side_dn q] at h
      split at h <;> cases h
    · subst e q
      rw [side_str] at h
      cases h
  obtain ⟨ca, rfl, hF⟩ := hc
  have up := B.up
  have dn := B.dn
  have hy : 0 ≤ EV [s0, s1, s2, s3] [a, a + 1] := R.nn (by simp) fun M _ _ => pair_nn a M
  have hp : 0 ≤ EV [s0, s1, s2, s3] [a + 1, a + 1 + 1] := R.nn (by simp) fun M _ _ => pair_nn (a + 1) M
  have up' := B'.up
  have dn' := B'.dn
  obtain ⟨x, hx⟩ : ∃ x, x = EV [s0, s1, s2, s3] [a + 1] := ⟨_, rfl⟩
  obtain ⟨y, hyy⟩ : ∃ y, y = EV [s0, s1, s2, s3] [a, a + 1] := ⟨_, rfl⟩
  obtain ⟨z, hz⟩ : ∃ z, z = EV [s0, s1, s2, s3] [a, a, a + 1] := ⟨_, rfl⟩
  have eF : EV [s0, s1, s2, s3] [c, c + 1, a + 1] = z - (2 * (c - a) + 1) * y + (c - a) * (c - a + 1) * x := by
    rw [hx, hyy, hz, ev1, ev2, ev3, ev3]
    grind
  have eu : EV [s0, s1, s2, s3] [a, a + 1, c] = z - (c - a) * y := by
    rw [hyy, hz, ev2, ev3, ev3]
    grind
  have ed : EV [s0, s1, s2, s3] [a, a + 1, c + 1] = z - (c - a + 1) * y := by
    rw [hyy, hz, ev2, ev3, ev3]
    grind
  have ep : EV [s0, s1, s2, s3] [a + 1, a + 1 + 1] = y - 2 * x := by
    rw [hx, hyy, ev1, ev2, ev2]
    grind
  have eq : ∀ r, EV [s0, s1, s2, s3] [a + 1, a + 1 + 1, r] = z - 2 * y - (r - a) * (y - 2 * x) := fun r => by
    rw [hx, hyy, hz, ev1, ev2, ev3, ev3]
    grind
  rw [← hyy] at hy
  rw [eF] at hF
  rw [eu] at up
  rw [ed] at dn
  rw [ep] at hp
  rw [eq] at up' dn'
  have core := loc_core hF up dn (by omega)
  have c3 : a + 3 ≤ c' ∧ d' = c' + 1 := by
    have far : ∀ r, r ≤ a + 3 → 0 < z - 2 * y - (r - a) * (y - 2 * x) := fun r hr => by
      have := Int.mul_nonneg (show 0 ≤ a + 3 - r by omega) hp
      have e : z - 2 * y - (r - a) * (y - 2 * x) = (z - 5 * y + 6 * x) + (a + 3 - r) * (y - 2 * x) := by grind
      omega
    rcases B'.oth.2.2 with ⟨e, q⟩ | ⟨e, q⟩ | ⟨e, q⟩
    · exact ⟨by omega, e⟩
    · have := far d' (by omega)
      omega
    · have := far d' (by omega)
      omega
  obtain ⟨c3, rfl⟩ := c3
  have fin : 0 ≤ z - (2 * (c' - a) + 1) * y + (c' - a) * (c' - a + 1) * x := by
    refine loc_up hy hF up dn (by omega) hp (by omega) up' ?_
    rw [show c' + 1 - a = c' - a + 1 by omega] at dn'
    exact dn'
  have ef : EV [s0, s1, s2, s3] [c', c' + 1, a + 1] = z - (2 * (c' - a) + 1) * y + (c' - a) * (c' - a + 1) * x := by
    rw [hx, hyy, hz, ev1, ev2, ev3, ev3]
    grind
  rw [side_up (by omega)]
  intro q
  split at q
  · cases q
  · rename_i hn
    split at q
    · cases q
    · rename_i h2
      exact hn ⟨by omega, by rw [ef]; exact fin⟩
end

section
/-- points with weights from 0 on that have the sums -/
def Fits (lo hi : Int) (P : List Int) (ss : List Int) : Prop := (∀ p ∈ P, lo ≤ p ∧ p ≤ hi) ∧ ∃ zs : Wts, zs.map (·.1) = P ∧ (∀ z ∈ zs, 0 ≤ z.2) ∧ RepW zs ss
theorem Fits.rep {lo hi : Int} {P ss : List Int} (h : Fits lo hi P ss) : Rep lo hi ss := by
  obtain ⟨hp, zs, e, hz, hr⟩ := h
  refine ⟨zs, fun z m => ?_, hr⟩
  have : z.1 ∈ P := by rw [← e]; exact List.mem_map.mpr ⟨z, m, rfl⟩
  exact ⟨(hp _ this).1, (hp _ this).2, hz z m⟩
/-- neighbours, two by two, apart from each other -/
inductive Prs : List Int → Prop
  | nil : Prs []
  | one (a : Int) : Prs [a, a + 1]
  | two (a b : Int) (h : a + 1 < b) : Prs [a, a + 1, b, b + 1]
theorem Prs.nn {P : List Int} (h : Prs P) (M : Int) : 0 ≤ prodP P M := by
  cases h with
  | nil => rw [prod_nil]; decide
  | one a => exact pair_nn a M
  | two a b h =>
    have e : prodP [a, a + 1, b, b + 1] M = prodP [a, a + 1] M * prodP [b, b + 1] M := prod_app [a, a + 1] [b, b + 1] M
    rw [e]
    exact Int.mul_nonneg (pair_nn a M) (pair_nn b M)
theorem prod_ne {P : List Int} {M : Int} (h : M ∉ P) : prodP P M ≠ 0 := by
  induction P with
  | nil => rw [prod_nil]; decide
  | cons a P ih =>
    rw [prod_cons]
    rw [List.mem_cons, not_or] at h
    exact Int.mul_ne_zero (by omega) (ih h.2)
theorem Prs.pos {P : List Int} (h : Prs P) {M : Int} (hM : M ∉ P) : 0 < prodP P M := by
  have h1 := h.nn M
  have h2 := prod_ne hM
  omega
theorem prod_zero {P : List Int} {M : Int} (h : M ∈ P) : prodP P M = 0 := by
  induction P with
  | nil => cases h
  | cons a P ih =>
    rw [prod_cons]
    rcases List.mem_cons.mp h with e | e
    · rw [e, Int.sub_self, Int.zero_mul]
    · rw [ih e, Int.mul_zero]
theorem kp0 {lo hi : Int} : pairsF 0 [] lo hi [] = [] ∧ Fits lo hi [] [] := ⟨rfl, (fun _ h => by cases h), [], rfl, (fun _ h => by cases h), fun j hj => absurd hj (by simp)⟩
theorem rat_nn_of_mul {w : Rat} {k : Int} (hk : 0 < k) (h : 0 ≤ w * ((k : Int) : Rat)) : 0 ≤ w := by
  have k0 : (0 : Rat) < ((k : Int) : Rat) := Rat.intCast_pos.mpr hk
  refine Rat.le_of_mul_le_mul_right ?_ k0
  have : (0 : Rat) * ((k : Int) : Rat) = 0 := by grind
  rw [this]
  exact h
/-- the weight at one of the points -/
theorem w_at {zs : Wts} {ss : List Int} (hr : RepW zs ss) {l r : Wts} {p : Int} {w : Rat} (e : zs = l ++ (p, w) :: r) {pts : List Int} (hpt : ∀ z ∈ l ++ r, z.1 ∈ pts) (hl : pts.length < ss.length) : ((EV ss pts : Int) : Rat) = w * ((prodP pts p : Int) : Rat) := by
  rw [rep_ev hr hl, e, sw_app, sw_cons]
  have z0 : ∀ ys : Wts, (∀ z ∈ ys, z.1 ∈ pts) → sw ys (fun M => ((prodP pts M : Int) : Rat)) = 0 := fun ys h => by
    have : sw ys (fun M => ((prodP pts M : Int) : Rat)) = sw ys (fun M => 0 * ((M : Int) : Rat)) := sw_congr fun z hz => by
      show ((prodP pts z.1 : Int) : Rat) = 0 * _
      rw [prod_zero (h z hz)]
      have : (((0 : Int)) : Rat) = 0 := rfl
      rw [this]
      grind
    rw [this, sw_mul]
    grind
  rw [z0 l fun z hz => hpt z (List.mem_append_left _ hz), z0 r fun z hz => hpt z (List.mem_append_right _ hz)]
  grind
theorem w_nn {zs : Wts} {ss : List Int} (hr : RepW zs ss) {l r : Wts} {p : Int} {w : Rat} (e : zs = l ++ (p, w) :: r) {pts : List Int} (hpt : ∀ z ∈ l ++ r, z.1 ∈ pts) (hl : pts.length < ss.length)
    (h : (0 < prodP pts p ∧ 0 ≤ EV ss pts) ∨ (prodP pts p < 0 ∧ EV ss pts ≤ 0)) : 0 ≤ w := by
  have q := w_at hr e hpt hl
  rcases h with ⟨h1, h2⟩ | ⟨h1, h2⟩
  · refine rat_nn_of_mul h1 ?_
    rw [← q]
    exact Rat.intCast_nonneg.mpr h2
  · refine rat_nn_of_mul (k := -prodP pts p) (by omega) ?_
    rw [Rat.intCast_neg]
    have : w * -((prodP pts p : Int) : Rat) = -(w * ((prodP pts p : Int) : Rat)) := by grind
    rw [this, ← q, ← Rat.intCast_neg]
    exact Rat.intCast_nonneg.mpr (by omega)
theorem ev21 {t0 t1 : Int} (p : Int) : EV [t0, t1] [p] = t1 - p * t0 := by
  show t1 + (((0 : Nat) : Int) - p) * t0 = _
  grind
theorem fits1 {t0 t1 lo hi c : Int} (h1 : lo ≤ c) (h2 : c + 1 ≤ hi) (b : Brk t0 t1 c (c + 1)) : Fits lo hi [c, c + 1] [t0, t1] := by
  refine ⟨fun p hp => by simp only [List.mem_cons, List.not_mem_nil, or_false] at hp; omega, ?_⟩
  obtain ⟨zs, e, hr⟩ := some_w [c, c + 1] [t0, t1] rfl (by simp; omega)
  match zs, e with
  | [(x, w), (y, v)], e =>
    simp only [List.map_cons, List.map_nil, List.cons.injEq, and_true] at e
    obtain ⟨rfl, rfl⟩ := e
    refine ⟨_, rfl, fun z hz => ?_, hr⟩
    obtain ⟨b1, b2⟩ := b
    simp only [List.mem_cons, List.not_mem_nil, or_false] at hz
    rcases hz with rfl | rfl
    · refine w_nn hr (l := []) (r := [(x + 1, v)]) rfl (pts := [x + 1]) (fun z hz => by simp at hz; rw [hz]; simp) (by simp) (.inr ⟨?_, ?_⟩)
      · rw [prod_cons, prod_nil]
        omega
      · rw [ev21]
        omega
    · refine w_nn hr (l := [(x, w)]) (r := []) rfl (pts := [x]) (fun z hz => by simp at hz; rw [hz]; simp) (by simp) (.inl ⟨?_, ?_⟩)
      · rw [prod_cons, prod_nil]
        omega
      · rw [ev21]
        omega
variable {s0 s1 s2 s3 : Int}
theorem ev_perm3 (p q r : Int) : EV [s0, s1, s2, s3] [p, q, r] = EV [s0, s1, s2, s3] [q, r, p] := by
  rw [ev3, ev3]
  grind
theorem ev_swap3 (p q r : Int) : EV [s0, s1, s2, s3] [p, q, r] = EV [s0, s1, s2, s3] [q, p, r] := by
  rw [ev3, ev3]
  grind
theorem fits2 {lo hi x y : Int} (h1 : lo ≤ x) (h2 : y + 1 ≤ hi) (h : x + 1 < y) (a1 : 0 ≤ EV [s0, s1, s2, s3] [x, x + 1, y]) (a2 : EV [s0, s1, s2, s3] [x, x + 1, y + 1] ≤ 0) (a3 : 0 ≤ EV [s0, s1, s2, s3] [y, y + 1, x]) (a4 : EV [s0, s1, s2, s3] [y, y + 1, x + 1] ≤ 0) :
    Fits lo hi [x, x + 1, y, y + 1] [s0, s1, s2, s3] := by
  refine ⟨fun p hp => by simp only [List.mem_cons, List.not_mem_nil, or_false] at hp; omega, ?_⟩
  obtain ⟨zs, e, hr⟩ := some_w [x, x + 1, y, y + 1] [s0, s1, s2, s3] rfl (by simp; omega)
  match zs, e with
  | [(p0, w0), (p1, w1), (p2, w2), (p3, w3)], e =>
    simp only [List.map_cons, List.map_nil, List.cons.injEq, and_true] at e
    obtain ⟨rfl, rfl, rfl, rfl⟩ := e
    refine ⟨_, rfl, fun z hz => ?_, hr⟩
    have pp : ∀ a b c M : Int, prodP [a, b, c] M = (M - a) * ((M - b) * (M - c)) := fun a b c M => by
      rw [prod_cons, prod_cons, prod_cons, prod_nil, Int.mul_one]
    simp only [List.mem_cons, List.not_mem_nil, or_false] at hz
    rcases hz with rfl | rfl | rfl | rfl
    · refine w_nn hr (l := []) (r := [(p0 + 1, w1), (p2, w2), (p2 + 1, w3)]) rfl (pts := [p2, p2 + 1, p0 + 1]) (fun z hz => by simp at hz; rcases hz with rfl | rfl | rfl <;> simp) (by simp) (.inr ⟨?_, a4⟩)
      rw [pp]
      have := Int.mul_pos (show 0 < p2 - p0 by omega) (show 0 < p2 + 1 - p0 by omega)
      have e : (p0 - p2) * ((p0 - (p2 + 1)) * (p0 - (p0 + 1))) = -((p2 - p0) * (p2 + 1 - p0)) := by grind
      omega
    · refine w_nn hr (l := [(p0, w0)]) (r := [(p2, w2), (p2 + 1, w3)]) rfl (pts := [p2, p2 + 1, p0]) (fun z hz => by simp at hz; rcases hz with rfl | rfl | rfl <;> simp) (by simp) (.inl ⟨?_, a3⟩)
      rw [pp]
      have := Int.mul_pos (show 0 < p2 - (p0 + 1) by omega) (show 0 < p2 + 1 - (p0 + 1) by omega)
      have e : (p0 + 1 - p2) * ((p0 + 1 - (p2 + 1)) * (p0 + 1 - p0)) = (p2 - (p0 + 1)) * (p2 + 1 - (p0 + 1)) := by grind
      omega
    · refine w_nn hr (l := [(p0, w0), (p0 + 1, w1)]) (r := [(p2 + 1, w3)]) rfl (pts := [p0, p0 + 1, p2 + 1]) (fun z hz => by simp at hz; rcases hz with rfl | rfl | rfl <;> simp) (by simp) (.inr ⟨?_, a2⟩)
      rw [pp]
      have := Int.mul_pos (show 0 < p2 - p0 by omega) (show 0 < p2 - (p0 + 1) by omega)
      have e : (p2 - p0) * ((p2 - (p0 + 1)) * (p2 - (p2 + 1))) = -((p2 - p0) * (p2 - (p0 + 1))) := by grind
      omega
    · refine w_nn hr (l := [(p0, w0), (p0 + 1, w1), (p2, w2)]) (r := []) rfl (pts := [p0, p0 + 1, p2]) (fun z hz => by simp at hz; rcases hz with rfl | rfl | rfl <;> simp) (by simp) (.inl ⟨?_, a1⟩)
      rw [pp]
      have := Int.mul_pos (show 0 < p2 + 1 - p0 by omega) (show 0 < p2 + 1 - (p0 + 1) by omega)
      have e : (p2 + 1 - p0) * ((p2 + 1 - (p0 + 1)) * (p2 + 1 - p2)) = (p2 + 1 - p0) * (p2 + 1 - (p0 + 1)) := by grind
      omega
/-- two pairs among all integers from least to most -/
theorem kp2 {least most : Int} (R : Rep least most [s0, s1, s2, s3]) (room : least + 3 ≤ most) : Prs (pairsF 2 [s0, s1, s2, s3] least most []) ∧ Fits least most (pairsF 2 [s0, s1, s2, s3] least most []) [s0, s1, s2, s3] := by
  have eh : highF 2 most [] = most - 3 := by
    unfold highF
    simp
    omega
  have bd : ∀ a, least ≤ a → a ≤ most - 3 → _ := fun a h1 h2 => body_at R h1 (show a + 3 ≤ most by omega)
  have three : ∀ a, least ≤ a → a ≤ most - 3 → (body2 [s0, s1, s2, s3] least most a).1 = 0 ∨ (body2 [s0, s1, s2, s3] least most a).1 = 1 ∨ (body2 [s0, s1, s2, s3] least most a).1 = -1 := fun a h1 h2 => by
    obtain ⟨c, d, _, e⟩ := bd a h1 h2
    rw [e]
    show sideF _ _ _ _ _ = 0 ∨ sideF _ _ _ _ _ = 1 ∨ sideF _ _ _ _ _ = -1
    unfold sideF
    split
    · exact .inr (.inr rfl)
    · split
      · exact .inl rfl
      · split
        · exact .inr (.inl rfl)
        · exact .inr (.inr rfl)
  have e1 : (body2 [s0, s1, s2, s3] least most least).1 ≠ -1 := by
    obtain ⟨c, d, B, e⟩ := bd least (by omega) (by omega)
    rw [e]
    have o := B.oth
    have : d = c + 1 ∧ least + 2 ≤ c := by
      unfold Oth at o
      omega
    obtain ⟨rfl, hc⟩ := this
    show sideF _ _ _ _ _ ≠ -1
    rw [side_up hc]
    have u : 0 ≤ EV [s0, s1, s2, s3] [c, c + 1, least] := R.nn (by simp) fun M h1 _ => by rw [prod3]; exact Int.mul_nonneg (pair_nn c M) (by omega)
    intro q
    split at q
    · cases q
    · rename_i hn
      split at q
      · cases q
      · exact hn ⟨by omega, u⟩
  have e2 : (body2 [s0, s1, s2, s3] least most (most - 3)).1 ≠ 1 := by
    obtain ⟨c, d, B, e⟩ := bd (most - 3) (by omega) (by omega)
    rw [e]
    show sideF _ _ _ _ _ ≠ 1
    intro q
    have o := B.oth
    have ho : (d = c + 1 ∧ c = most - 1) ∨ (d = c + 1 ∧ d < most - 3) ∨ (c = most - 3 - 1 ∧ d = most - 3 + 2) := by
      unfold Oth at o
      omega
    rcases ho with ⟨rfl, hc⟩ | ⟨rfl, hc⟩ | ⟨hc, hd⟩
    · rw [side_up (by omega)] at q
      have u : EV [s0, s1, s2, s3] [c, c + 1, most - 3 + 1] ≤ 0 := by
        refine R.np (by simp) fun M _ h2 => ?_
        rw [prod3, prod_pair]
        rcases Int.lt_or_le M c with h | h
        · have := Int.mul_nonneg (Int.mul_nonneg (show 0 ≤ c - M by omega) (show 0 ≤ c + 1 - M by omega)) (show 0 ≤ most - 3 + 1 - M by omega)
          have e : (M - c) * (M - c - 1) * (M - (most - 3 + 1)) = -((c - M) * (c + 1 - M) * (most - 3 + 1 - M)) := by grind
          omega
        · have : M - c = 0 ∨ M - c = 1 := by omega
          rcases this with z | z <;> rw [z] <;> simp
      split at q
      · cases q
      · split at q
        · omega
        · cases q
    · rw [side_dn hc] at q
      split at q <;> cases q
    · rw [hc, hd, side_str] at q
      cases q
  have loc : ∀ a, least ≤ a → a + 1 ≤ most - 3 → (body2 [s0, s1, s2, s3] least most a).1 = 1 → (body2 [s0, s1, s2, s3] least most (a + 1)).1 ≠ -1 := fun a h1 h2 hs => by
    obtain ⟨c, d, B, e⟩ := bd a h1 (by omega)
    obtain ⟨c', d', B', e'⟩ := bd (a + 1) (by omega) h2
    rw [e] at hs
    rw [e']
    exact loc2 R B B' hs
  have start : least ≤ mxF least (mnF (most - 3) (aboutF [s0, s1, s2, s3] ((1 + 1 : Nat) : Int) [])) ∧ mxF least (mnF (most - 3) (aboutF [s0, s1, s2, s3] ((1 + 1 : Nat) : Int) [])) ≤ most - 3 := by
    unfold mxF mnF
    repeat' split
    all_goals omega
  obtain ⟨a, h1, h2, hz, eg⟩ := go_zero three e1 e2 loc ((most - 3 - least).toNat + 1) least (most - 3) _ 1 (Int.le_refl _) (Int.le_refl _) start.1 start.2 (.inl rfl) (.inl rfl) (by omega) (by decide)
  have ep : pairsF 2 [s0, s1, s2, s3] least most [] = (body2 [s0, s1, s2, s3] least most a).2 := by
    rw [← eg]
    show pairsF (1 + 1) _ _ _ _ = _
    unfold pairsF
    rw [eh]
  obtain ⟨c, d, B, e⟩ := bd a h1 h2
  rw [ep, e]
  rw [e] at hz
  have hz : sideF (EV [s0, s1, s2, s3] [c, d]) (EV [s0, s1, s2, s3] [c, d, 0]) a (a + 1) [c, d] = 0 := hz
  have up := B.up
  have dn := B.dn
  have o := B.oth
  rcases o.2.2 with ⟨rfl, q⟩ | ⟨rfl, q⟩ | ⟨rfl, q⟩
  · rw [side_up q] at hz
    have hk : 0 ≤ -EV [s0, s1, s2, s3] [c, c + 1, a + 1] ∧ 0 ≤ EV [s0, s1, s2, s3] [c, c + 1, a] := by
      split at hz
      · assumption
      · split at hz <;> cases hz
    have es : srtF [a, a + 1, c, c + 1] = [a, a + 1, c, c + 1] := List.mergeSort_of_pairwise (by simp; omega)
    show Prs (srtF _) ∧ Fits _ _ (srtF _) _
    rw [es]
    exact ⟨.two a c (by omega), fits2 h1 o.2.1 (by omega) up dn hk.2 (by omega)⟩
  · rw [side_dn q] at hz
    have hk : 0 ≤ -EV [s0, s1, s2, s3] [c, c + 1, a + 1] ∧ 0 ≤ EV [s0, s1, s2, s3] [c, c + 1, a] := by
      split at hz
      · assumption
      · cases hz
    have es : srtF [a, a + 1, c, c + 1] = [c, c + 1, a, a + 1] := (srt_one (List.perm_append_comm : ([c, c + 1] ++ [a, a + 1]).Perm ([a, a + 1] ++ [c, c + 1])) (by simp; omega)).symm
    show Prs (srtF _) ∧ Fits _ _ (srtF _) _
    rw [es]
    exact ⟨.two c a (by omega), fits2 o.1 (by omega) (by omega) hk.2 (by omega) up dn⟩
  · rw [q, side_str] at hz
    cases hz
end

section
theorem sw_filter {zs : Wts} {p : Int × Rat → Bool} {f : Int → Rat} (h : ∀ z ∈ zs, p z = false → z.2 * f z.1 = 0) : sw (zs.filter p) f = sw zs f := by
  induction zs with
  | nil => rfl
  | cons z zs ih =>
    have ih := ih fun x hx => h x (by simp [hx])
    rw [List.filter_cons, sw_cons]
    cases q : p z with
    | true =>
      rw [if_pos rfl, sw_cons, ih]
    | false =>
      rw [if_neg (by decide), ih, h z (by simp) q]
      grind
theorem Rep.lo {lo hi : Int} {ss : List Int} (h : Rep lo hi ss) : Rep (lo + 1) hi (stepL ss lo) := by
  obtain ⟨zs, hz, hr⟩ := h
  have r1 := rep_step lo hr
  refine ⟨(zs.map fun z => (z.1, z.2 * (((z.1 - lo : Int)) : Rat))).filter fun z => decide (z.1 ≠ lo), fun z hm => ?_, fun j hj => ?_⟩
  · obtain ⟨h1, h2⟩ := List.mem_filter.mp hm
    obtain ⟨y, hy, rfl⟩ := List.mem_map.mp h1
    obtain ⟨q1, q2, q3⟩ := hz y hy
    have h2 : y.1 ≠ lo := by simpa using h2
    exact ⟨by show lo + 1 ≤ y.1; omega, q2, Rat.mul_nonneg q3 (Rat.intCast_nonneg.mpr (by omega))⟩
  · rw [r1 j hj, sw_filter]
    intro z hm hp
    obtain ⟨y, hy, rfl⟩ := List.mem_map.mp hm
    have hp : y.1 = lo := by simpa using hp
    show y.2 * (((y.1 - lo : Int)) : Rat) * _ = 0
    rw [hp, Int.sub_self]
    have : (((0 : Int)) : Rat) = 0 := rfl
    rw [this]
    grind
theorem getD_neg (l : List Int) (j : Nat) : (l.map fun c => -c).getD j 0 = -(l.getD j 0) := by
  rw [List.getD_eq_getElem?_getD, List.getD_eq_getElem?_getD, List.getElem?_map]
  cases l[j]? <;> simp
theorem sw_neg (zs : Wts) (f : Int → Rat) : sw (zs.map fun z => (z.1, -z.2)) f = -sw zs f := by
  induction zs with
  | nil => rw [List.map_nil, sw_nil]; grind
  | cons z zs ih => rw [List.map_cons, sw_cons, sw_cons, ih]; grind
theorem rep_neg {zs : Wts} {ss : List Int} (h : RepW zs ss) : RepW (zs.map fun z => (z.1, -z.2)) (ss.map fun c => -c) := by
  intro j hj
  rw [List.length_map] at hj
  rw [getD_neg, sw_neg, ← h j hj, Rat.intCast_neg]
theorem Rep.hi {lo hi : Int} {ss : List Int} (h : Rep lo hi ss) : Rep lo (hi - 1) ((stepL ss hi).map fun c => -c) := by
  obtain ⟨zs, hz, hr⟩ := h
  have r1 := rep_neg (rep_step hi hr)
  refine ⟨((zs.map fun z => (z.1, z.2 * (((z.1 - hi : Int)) : Rat))).map fun z => (z.1, -z.2)).filter fun z => decide (z.1 ≠ hi), fun z hm => ?_, fun j hj => ?_⟩
  · obtain ⟨h1, h2⟩ := List.mem_filter.mp hm
    obtain ⟨x, hx, rfl⟩ := List.mem_map.mp h1
    obtain ⟨y, hy, rfl⟩ := List.mem_map.mp hx
    obtain ⟨q1, q2, q3⟩ := hz y hy
    have h2 : y.1 ≠ hi := by simpa using h2
    refine ⟨q1, by show y.1 ≤ hi - 1; omega, ?_⟩
    have e : -(y.2 * (((y.1 - hi : Int)) : Rat)) = y.2 * (((hi - y.1 : Int)) : Rat) := by
      rw [Rat.intCast_sub, Rat.intCast_sub]
      grind
    show 0 ≤ -(y.2 * (((y.1 - hi : Int)) : Rat))
    rw [e]
    exact Rat.mul_nonneg q3 (Rat.intCast_nonneg.mpr (by omega))
  · rw [r1 j hj, sw_filter]
    intro z hm hp
    obtain ⟨x, hx, rfl⟩ := List.mem_map.mp hm
    obtain ⟨y, hy, rfl⟩ := List.mem_map.mp hx
    have hp : y.1 = hi := by simpa using hp
    show -(y.2 * (((y.1 - hi : Int)) : Rat)) * _ = 0
    rw [hp, Int.sub_self]
    have : (((0 : Int)) : Rat) = 0 := rfl
    rw [this]
    grind
/-- a point more -/
theorem add_pt {vs : Wts} {ss : List Int} {p : Int} (h : RepW vs (stepL ss p)) (hp : ∀ z ∈ vs, z.1 ≠ p) : ∃ w0, RepW ((p, w0) :: vs.map fun z => (z.1, z.2 * (1 / (((z.1 - p : Int)) : Rat)))) ss := by
  have off : ∀ z ∈ vs, ((((z.1 - p : Int)) : Rat)) ≠ 0 := fun z hz => cast_ne (by have := hp z hz; omega)
  obtain ⟨us, hus⟩ : ∃ us : Wts, us = vs.map fun z => (z.1, z.2 * (1 / (((z.1 - p : Int)) : Rat))) := ⟨_, rfl⟩
  rw [← hus]
  have back : ∀ f : Int → Rat, sw us (fun M => (((M - p : Int)) : Rat) * f M) = sw vs f := fun f => by
    rw [hus, sw_by (fun M => 1 / (((M - p : Int)) : Rat))]
    apply sw_congr
    intro z hz
    have := off z hz
    show _ = f z.1
    generalize (((z.1 - p : Int)) : Rat) = d at *
    grind
  refine ⟨((ss.getD 0 0 : Int) : Rat) - sw us fun M => ((ff M 0 : Int) : Rat), ?_⟩
  intro j
  induction j with
  | zero =>
    intro _
    rw [sw_cons]
    have : (((ff p 0 : Int)) : Rat) = 1 := rfl
    rw [this]
    grind
  | succ j ih =>
    intro hj
    have ij := ih (by omega)
    have r := h j (by rw [stp_len]; omega)
    rw [step_get hj, ← back, Rat.intCast_add, Rat.intCast_mul, ij] at r
    rw [sw_cons] at r ⊢
    have e2 : ((ff p (j + 1) : Int) : Rat) = ((ff p j : Int) : Rat) * (((p : Int) : Rat) - (((j : Int)) : Rat)) := by
      rw [← Rat.intCast_sub, ← Rat.intCast_mul]
      rfl
    have e3 : (sw us fun M => ((ff M (j + 1) : Int) : Rat)) = (sw us fun M => (((M - p : Int)) : Rat) * ((ff M j : Int) : Rat)) + (((p : Int) : Rat) - (((j : Int)) : Rat)) * sw us fun M => ((ff M j : Int) : Rat) := by
      rw [← sw_mul, ← sw_add]
      apply sw_congr
      intro z _
      show (((ff z.1 j * (z.1 - (j : Int)) : Int)) : Rat) = _
      rw [Rat.intCast_mul, Rat.intCast_sub, Rat.intCast_sub]
      grind
    rw [e2, e3]
    have e4 : ((((j : Int) - p : Int)) : Rat) = (((j : Int)) : Rat) - ((p : Int) : Rat) := Rat.intCast_sub _ _
    rw [e4] at r
    simp only [] at *
    generalize (sw us fun M => (((M - p : Int)) : Rat) * ((ff M j : Int) : Rat)) = A at *
    generalize (sw us fun M => ((ff M j : Int) : Rat)) = B at *
    generalize ((((ss.getD 0 0 : Int)) : Rat) - sw us fun M => ((ff M 0 : Int) : Rat)) = W0 at *
    generalize (((j : Int)) : Rat) = J at *
    generalize ((p : Int) : Rat) = Pp at *
    generalize ((ff p j : Int) : Rat) = F at *
    grind
theorem inv_nn {k : Int} (h : 0 < k) : 0 ≤ 1 / ((k : Int) : Rat) := by
  rw [Rat.div_def]
  have : (1 : Rat) * ((k : Int) : Rat)⁻¹ = ((k : Int) : Rat)⁻¹ := by grind
  rw [this]
  exact Rat.le_of_lt (Rat.inv_pos.mpr (Rat.intCast_pos.mpr h))
theorem fit_lo {lo hi : Int} {P ss : List Int} (h : Fits (lo + 1) hi P (stepL ss lo)) (hl : P.length < ss.length) (hlh : lo ≤ hi) (e : 0 ≤ EV ss P) (pos : 0 < prodP P lo) : Fits lo hi (lo :: P) ss := by
  obtain ⟨hp, zs, ez, hz, hr⟩ := h
  have inP : ∀ z ∈ zs, z.1 ∈ P := fun z m => by rw [← ez]; exact List.mem_map.mpr ⟨z, m, rfl⟩
  obtain ⟨w0, hw⟩ := add_pt hr (fun z m => by have := (hp _ (inP z m)).1; omega)
  refine ⟨fun p hm => ?_, _, ?_, fun z hm => ?_, hw⟩
  · rcases List.mem_cons.mp hm with rfl | hm
    · exact ⟨Int.le_refl _, hlh⟩
    · have := hp p hm
      omega
  · rw [List.map_cons, List.map_map]
    show lo :: _ = _
    rw [← ez]
    rfl
  · rcases List.mem_cons.mp hm with rfl | hm
    · refine w_nn hw (l := []) rfl (pts := P) (fun z hz2 => ?_) hl (.inl ⟨pos, e⟩)
      rw [List.nil_append] at hz2
      obtain ⟨y, hy, rfl⟩ := List.mem_map.mp hz2
      exact inP y hy
    · obtain ⟨y, hy, rfl⟩ := List.mem_map.mp hm
      have := (hp _ (inP y hy)).1
      exact Rat.mul_nonneg (hz y hy) (inv_nn (by omega))
theorem rep_snoc {z : Int × Rat} {zs : Wts} {ss : List Int} (h : RepW (z :: zs) ss) : RepW (zs ++ [z]) ss := fun j hj => by
  rw [h j hj, sw_cons, sw_app, sw_cons, sw_nil]
  grind
theorem fit_hi {lo hi : Int} {P ss : List Int} (h : Fits lo (hi - 1) P ((stepL ss hi).map fun c => -c)) (hl : P.length < ss.length) (hlh : lo ≤ hi) (e : 0 ≤ EV ss P) (pos : 0 < prodP P hi) : Fits lo hi (P ++ [hi]) ss := by
  obtain ⟨hp, zs, ez, hz, hr⟩ := h
  have inP : ∀ z ∈ zs, z.1 ∈ P := fun z m => by rw [← ez]; exact List.mem_map.mpr ⟨z, m, rfl⟩
  have hr2 : RepW (zs.map fun z => (z.1, -z.2)) (stepL ss hi) := by
    have q := rep_neg hr
    rw [List.map_map] at q
    have : ((fun c : Int => -c) ∘ fun c => -c) = id := by
      funext c
      simp
    rw [this, List.map_id] at q
    exact q
  obtain ⟨w0, hw⟩ := add_pt hr2 (fun z m => by
    obtain ⟨y, hy, rfl⟩ := List.mem_map.mp m
    have := (hp _ (inP y hy)).2
    show y.1 ≠ hi
    omega)
  rw [List.map_map] at hw
  refine ⟨fun p hm => ?_, _, ?_, fun z hm => ?_, rep_snoc hw⟩
  · rcases List.mem_append.mp hm with hm | hm
    · have := hp p hm
      omega
    · rw [List.mem_singleton.mp hm]
      exact ⟨hlh, Int.le_refl _⟩
  · rw [List.map_append, List.map_map]
    show _ ++ [hi] = _
    rw [← ez]
    rfl
  · rcases List.mem_append.mp hm with hm | hm
    · obtain ⟨y, hy, rfl⟩ := List.mem_map.mp hm
      have := (hp _ (inP y hy)).2
      show 0 ≤ -y.2 * (1 / (((y.1 - hi : Int)) : Rat))
      have e2 : -y.2 * (1 / (((y.1 - hi : Int)) : Rat)) = y.2 * (1 / (((hi - y.1 : Int)) : Rat)) := by
        have n1 : (((y.1 - hi : Int)) : Rat) ≠ 0 := cast_ne (by omega)
        have n2 : (((hi - y.1 : Int)) : Rat) = -(((y.1 - hi : Int)) : Rat) := by
          rw [← Rat.intCast_neg]
          congr 1
          omega
        rw [n2]
        generalize (((y.1 - hi : Int)) : Rat) = d at *
        grind
      rw [e2]
      exact Rat.mul_nonneg (hz y hy) (inv_nn (by omega))
    · rw [List.mem_singleton.mp hm]
      refine w_nn hw (l := []) rfl (pts := P) (fun z hz2 => ?_) hl (.inl ⟨pos, e⟩)
      rw [List.nil_append] at hz2
      obtain ⟨y, hy, rfl⟩ := List.mem_map.mp hz2
      exact inP y hy
/-- up to two pairs -/
theorem kp {q : Nat} (hq : q ≤ 2) {t : List Int} (ht : t.length = 2 * q) {lo hi : Int} (R : Rep lo hi t) (room : lo + 2 * (q : Int) - 1 ≤ hi) : Prs (pairsF q t lo hi []) ∧ Fits lo hi (pairsF q t lo hi []) t := by
  match q, hq, t, ht with
  | 0, _, [], _ => exact ⟨.nil, kp0.2⟩
  | 1, _, [t0, t1], _ =>
    have h0 : 0 ≤ t0 := R.nn (pts := []) (by simp) fun M _ _ => by rw [prod_nil]; decide
    have hl : 0 ≤ EV [t0, t1] [lo] := R.nn (by simp) fun M h _ => by rw [prod_cons, prod_nil]; omega
    have hm : EV [t0, t1] [hi] ≤ 0 := R.np (by simp) fun M _ h => by rw [prod_cons, prod_nil]; omega
    rw [ev21] at hl hm
    obtain ⟨c, e, c1, c2, b⟩ := kp1 (t0 := t0) (t1 := t1) (least := lo) (most := hi) (by omega) h0 (by omega) (by omega)
    rw [e]
    exact ⟨.one c, fits1 c1 c2 b⟩
  | 2, _, [s0, s1, s2, s3], _ => exact kp2 R (by omega)
end

section
theorem sg_even {t : Nat} (h : t % 2 = 0) : sg t = 1 := by
  obtain ⟨k, rfl⟩ : ∃ k, t = 2 * k := ⟨t / 2, by omega⟩
  unfold sg
  rw [Int.pow_mul]
  show ((-1 : Int) ^ 2) ^ k = 1
  have : ((-1 : Int) ^ 2) = 1 := by decide
  rw [this, Int.one_pow]
theorem sg_odd {t : Nat} (h : t % 2 = 1) : sg t = -1 := by
  obtain ⟨k, rfl⟩ : ∃ k, t = 2 * k + 1 := ⟨t / 2, by omega⟩
  have := sg_even (t := 2 * k) (by omega)
  unfold sg at *
  rw [Int.pow_succ, this]
  decide
theorem prs_turn {P : List Int} (h : Prs P) {N : Int} (hN : ∀ p ∈ P, p ≤ N) : ∃ t, IsT P N t ∧ t % 2 = 0 ∧ t ≤ P.length := by
  cases h with
  | nil => exact ⟨0, ⟨fun i hi => by omega, by simp⟩, rfl, by simp⟩
  | one a =>
    have h1 := hN (a + 1) (by simp)
    by_cases e : a + 1 = N
    · refine ⟨2, ⟨fun i hi => ?_, by simp; omega⟩, rfl, by simp⟩
      have : i = 0 ∨ i = 1 := by omega
      rcases this with rfl | rfl <;> simp <;> omega
    · exact ⟨0, ⟨fun i hi => by omega, by simp; omega⟩, rfl, by simp⟩
  | two a b hab =>
    have h1 := hN (b + 1) (by simp)
    by_cases e : b + 1 = N
    · by_cases e2 : a + 1 + 1 = b
      · refine ⟨4, ⟨fun i hi => ?_, by simp; omega⟩, rfl, by simp⟩
        have : i = 0 ∨ i = 1 ∨ i = 2 ∨ i = 3 := by omega
        rcases this with rfl | rfl | rfl | rfl <;> simp <;> omega
      · refine ⟨2, ⟨fun i hi => ?_, by simp; omega⟩, rfl, by simp⟩
        have : i = 0 ∨ i = 1 := by omega
        rcases this with rfl | rfl <;> simp <;> omega
    · exact ⟨0, ⟨fun i hi => by omega, by simp; omega⟩, rfl, by simp⟩
theorem turn_eq {P : List Int} {N : Int} {t : Nat} (h : IsT P N t) : turnF P N = t := isT_one (turn_is P N) h
theorem turn_zero {P : List Int} {N : Int} {t : Nat} (h : IsT P N t) (ht : N - (t : Int) ≠ 0) : IsT (0 :: P) N t :=
  ⟨fun i hi => List.mem_cons_of_mem _ (h.1 i hi), fun hm => by
    rcases List.mem_cons.mp hm with e | e
    · exact ht e
    · exact h.2 e⟩
theorem turn_top {P : List Int} {N : Int} {t : Nat} (h : IsT P (N - 1) t) : IsT (P ++ [N]) N (t + 1) := by
  refine ⟨fun i hi => ?_, fun hm => ?_⟩
  · rcases Nat.eq_zero_or_pos i with rfl | q
    · simp
    · have := h.1 (i - 1) (by omega)
      rw [show N - 1 - ((i - 1 : Nat) : Int) = N - (i : Int) by omega] at this
      exact List.mem_append_left _ this
  · have hm' : N - ((t + 1 : Nat) : Int) ∈ P := by
      rcases List.mem_append.mp hm with e | e
      · exact e
      · rw [List.mem_singleton] at e
        omega
    rw [show N - ((t + 1 : Nat) : Int) = N - 1 - (t : Int) by omega] at hm'
    exact h.2 hm'
theorem take_len {ss : List Int} {m : Nat} (h : m ≤ ss.length) : (ss.take m).length = m := by rw [List.length_take]; omega
/-- points whose product is nowhere below 0 (for the sign 1), nowhere above 0 (for the sign -1) -/
structure Good (ss : List Int) (m : Nat) (N : Int) (s : Int) (P : List Int) : Prop where
  fits : Fits 0 N P (ss.take m)
  sign : ∀ M, 0 ≤ M → M ≤ N → 0 ≤ s * prodP P M
  turn : sg (turnF P N) = s
  len : P.length = m
theorem low_good {ss : List Int} {m : Nat} {N : Int} (R : Rep 0 N (ss.take m)) (m1 : 1 ≤ m) (m5 : m ≤ 5) (hl : m ≤ ss.length) (hN : (m : Int) ≤ N) : Good ss m N 1 (lowestF ss m N) := by
  have lt := take_len hl
  rcases Nat.mod_two_eq_zero_or_one m with hm | hm
  · have el : lowestF ss m N = pairsF (m / 2) (ss.take m) 0 N [] := by
      unfold lowestF lowS
      rw [if_pos hm, if_pos hm]
    obtain ⟨p1, p2⟩ := kp (q := m / 2) (by omega) (t := ss.take m) (by omega) R (by omega)
    obtain ⟨t, t1, t2, t3⟩ := prs_turn p1 fun p hp => (p2.1 p hp).2
    rw [el]
    exact ⟨p2, fun M _ _ => by rw [Int.one_mul]; exact p1.nn M, by rw [turn_eq t1]; exact sg_even t2, by rw [pairs_len]; omega⟩
  · have el : lowestF ss m N = 0 :: pairsF (m / 2) (stepL (ss.take m) 0) 1 N [] := by
      unfold lowestF lowS
      rw [if_neg (by omega), if_neg (by omega)]
      rfl
    have R1 := R.lo
    rw [Int.zero_add] at R1
    obtain ⟨p1, p2⟩ := kp (q := m / 2) (by omega) (t := stepL (ss.take m) 0) (by rw [stp_len]; omega) R1 (by omega)
    obtain ⟨t, t1, t2, t3⟩ := prs_turn p1 fun p hp => (p2.1 p hp).2
    have pl := pairs_len (m / 2) (stepL (ss.take m) 0) 1 N []
    rw [el]
    generalize pairsF (m / 2) (stepL (ss.take m) 0) 1 N [] = P at *
    have n0 : (0 : Int) ∉ P := fun h => by have := (p2.1 0 h).1; omega
    refine ⟨fit_lo (by rw [Int.zero_add]; exact p2) (by omega) (by omega) (R.nn (by omega) fun M _ _ => p1.nn M) (p1.pos n0), fun M h1 h2 => ?_, ?_, by rw [List.length_cons]; omega⟩
    · rw [Int.one_mul, prod_cons]
      exact Int.mul_nonneg (by omega) (p1.nn M)
    · rw [turn_eq (turn_zero t1 (by omega))]
      exact sg_even t2
theorem hig_good {ss : List Int} {m : Nat} {N : Int} (R : Rep 0 N (ss.take m)) (m1 : 1 ≤ m) (m6 : m ≤ 6) (hl : m ≤ ss.length) (hN : (m : Int) ≤ N) : Good ss m N (-1) (highestF ss m N) := by
  have lt := take_len hl
  have R1 := R.hi
  rcases Nat.mod_two_eq_zero_or_one m with hm | hm
  · have el : highestF ss m N = 0 :: (pairsF (m / 2 - 1) (stepL ((stepL (ss.take m) N).map fun c => -c) 0) 1 (N - 1) [] ++ [N]) := by
      unfold highestF higS toldF
      rw [if_neg (by omega), if_neg (by omega)]
      rfl
    have R2 := R1.lo
    rw [Int.zero_add] at R2
    have l2 : (stepL ((stepL (ss.take m) N).map fun c => -c) 0).length = m - 2 := by
      rw [stp_len, List.length_map, stp_len]
      omega
    obtain ⟨p1, p2⟩ := kp (q := m / 2 - 1) (by omega) (t := stepL ((stepL (ss.take m) N).map fun c => -c) 0) (by omega) R2 (by omega)
    obtain ⟨t, t1, t2, t3⟩ := prs_turn p1 fun p hp => (p2.1 p hp).2
    have pl := pairs_len (m / 2 - 1) (stepL ((stepL (ss.take m) N).map fun c => -c) 0) 1 (N - 1) []
    rw [el]
    generalize pairsF (m / 2 - 1) (stepL ((stepL (ss.take m) N).map fun c => -c) 0) 1 (N - 1) [] = P at *
    have n0 : (0 : Int) ∉ P := fun h => by have := (p2.1 0 h).1; omega
    have nN : N ∉ P := fun h => by have := (p2.1 N h).2; omega
    have f1 : Fits 0 (N - 1) (0 :: P) ((stepL (ss.take m) N).map fun c => -c) :=
      fit_lo (by rw [Int.zero_add]; exact p2) (by rw [List.length_map, stp_len]; omega) (by omega) (R1.nn (by rw [List.length_map, stp_len]; omega) fun M _ _ => p1.nn M) (p1.pos n0)
    refine ⟨fit_hi (P := 0 :: P) f1 (by rw [List.length_cons]; omega) (by omega) (R.nn (by rw [List.length_cons]; omega) fun M h _ => by rw [prod_cons]; exact Int.mul_nonneg (by omega) (p1.nn M)) (by rw [prod_cons]; exact Int.mul_pos (by omega) (p1.pos nN)), fun M h1 h2 => ?_, ?_, by rw [List.length_cons, List.length_append]; simp only [List.length_cons, List.length_nil]; omega⟩
    · rw [prod_cons, prod_app, prod_cons, prod_nil]
      have := Int.mul_nonneg (Int.mul_nonneg (show 0 ≤ M - 0 by omega) (p1.nn M)) (show 0 ≤ N - M by omega)
      have e : -1 * ((M - 0) * (prodP P M * ((M - N) * 1))) = (M - 0) * prodP P M * (N - M) := by grind
      omega
    · rw [turn_eq (turn_zero (turn_top t1) (by omega))]
      exact sg_odd (by omega)
  · have el : highestF ss m N = pairsF (m / 2) ((stepL (ss.take m) N).map fun c => -c) 0 (N - 1) [] ++ [N] := by
      unfold highestF higS toldF
      rw [if_pos hm, if_pos hm]
      rfl
    have l2 : ((stepL (ss.take m) N).map fun c => -c).length = m - 1 := by
      rw [List.length_map, stp_len]
      omega
    obtain ⟨p1, p2⟩ := kp (q := m / 2) (by omega) (t := (stepL (ss.take m) N).map fun c => -c) (by omega) R1 (by omega)
    obtain ⟨t, t1, t2, t3⟩ := prs_turn p1 fun p hp => (p2.1 p hp).2
    have pl := pairs_len (m / 2) ((stepL (ss.take m) N).map fun c => -c) 0 (N - 1) []
    rw [el]
    generalize pairsF (m / 2) ((stepL (ss.take m) N).map fun c => -c) 0 (N - 1) [] = P at *
    have nN : N ∉ P := fun h => by have := (p2.1 N h).2; omega
    refine ⟨fit_hi p2 (by omega) (by omega) (R.nn (by omega) fun M _ _ => p1.nn M) (p1.pos nN), fun M h1 h2 => ?_, ?_, by rw [List.length_append]; simp only [List.length_cons, List.length_nil]; omega⟩
    · rw [prod_app, prod_cons, prod_nil]
      have := Int.mul_nonneg (p1.nn M) (show 0 ≤ N - M by omega)
      have e : -1 * (prodP P M * ((M - N) * 1)) = prodP P M * (N - M) := by grind
      omega
    · rw [turn_eq (turn_top t1)]
      exact sg_odd (by omega)
/-! the next sum -/
theorem ff_step (M a : Int) (j : Nat) : ((ff M j : Int) : Rat) * (((M - a : Int)) : Rat) = ((ff M (j + 1) : Int) : Rat) + (((j : Int) - a : Int) : Rat) * ((ff M j : Int) : Rat) := by
  have e : ff M (j + 1) = ff M j * (M - (j : Int)) := rfl
  rw [e]
  rw [Rat.intCast_mul, Rat.intCast_sub, Rat.intCast_sub, Rat.intCast_sub]
  grind
theorem off_sum {D : Wts} {m : Nat} (h : ∀ j, j < m → sw D (fun M => ((ff M j : Int) : Rat)) = 0) : ∀ (pts : List Int) (j : Nat), j + pts.length ≤ m →
    sw D (fun M => ((ff M j : Int) : Rat) * ((prodP pts M : Int) : Rat)) = if j + pts.length = m then sw D (fun M => ((ff M m : Int) : Rat)) else 0
  | [], j, hj => by
    have e : sw D (fun M => ((ff M j : Int) : Rat) * ((prodP [] M : Int) : Rat)) = sw D fun M => ((ff M j : Int) : Rat) := sw_congr fun z _ => by
      rw [prod_nil]
      have : (((1 : Int)) : Rat) = 1 := rfl
      rw [this]
      grind
    rw [e, List.length_nil, Nat.add_zero]
    rw [List.length_nil, Nat.add_zero] at hj
    split
    · rename_i q
      rw [q]
    · exact h j (by omega)
  | a :: pts, j, hj => by
    rw [List.length_cons] at hj ⊢
    have e : sw D (fun M => ((ff M j : Int) : Rat) * ((prodP (a :: pts) M : Int) : Rat)) = sw D (fun M => ((ff M (j + 1) : Int) : Rat) * ((prodP pts M : Int) : Rat)) + (((j : Int) - a : Int) : Rat) * sw D (fun M => ((ff M j : Int) : Rat) * ((prodP pts M : Int) : Rat)) := by
      rw [← sw_mul, ← sw_add]
      apply sw_congr
      intro z _
      have := ff_step z.1 a j
      rw [prod_cons, Rat.intCast_mul]
      show ((ff z.1 j : Int) : Rat) * ((((z.1 - a : Int)) : Rat) * ((prodP pts z.1 : Int) : Rat)) = _
      rw [← Rat.mul_assoc, this]
      grind
    have z2 : sw D (fun M => ((ff M j : Int) : Rat) * ((prodP pts M : Int) : Rat)) = 0 := by
      rw [off_sum h pts j (by omega), if_neg (by omega)]
    rw [e, off_sum h pts (j + 1) (by omega), z2]
    have : j + 1 + pts.length = j + (pts.length + 1) := by omega
    rw [this]
    grind
theorem at_zero {zs : Wts} {P : List Int} (e : zs.map (·.1) = P) : sw zs (fun M => ((prodP P M : Int) : Rat)) = 0 := by
  have : sw zs (fun M => ((prodP P M : Int) : Rat)) = sw zs (fun M => 0 * ((M : Int) : Rat)) := sw_congr fun z hz => by
    show ((prodP P z.1 : Int) : Rat) = 0 * _
    rw [prod_zero (by rw [← e]; exact List.mem_map.mpr ⟨z, hz, rfl⟩)]
    have : (((0 : Int)) : Rat) = 0 := rfl
    rw [this]
    grind
  rw [this, sw_mul]
  grind
/-- the sum behind those that are told, by the mean of the product of the points -/
theorem next_sum {ss : List Int} {m : Nat} {zs : Wts} {P : List Int} (hl : m < ss.length) (e : zs.map (·.1) = P) (hP : P.length = m) (hr : RepW zs (ss.take m)) : ((ss.getD m 0 : Int) : Rat) = sw zs (fun M => ((ff M m : Int) : Rat)) + ((EV (ss.take (m + 1)) P : Int) : Rat) := by
  obtain ⟨ys, e2, r2⟩ := some_w ((List.range (m + 1)).map (fun i : Nat => ((i : Nat) : Int)) : List Int) (ss.take (m + 1)) (by rw [take_len (by omega)]; simp) (by
    refine List.pairwise_map.mpr (List.nodup_range.imp ?_)
    intro a b h
    omega)
  have gd : ∀ k j, j < k → k ≤ ss.length → (ss.take k).getD j 0 = ss.getD j 0 := fun k j h1 h2 => by
    rw [List.getD_eq_getElem?_getD, List.getD_eq_getElem?_getD, List.getElem?_take_of_lt h1]
  obtain ⟨D, hD⟩ : ∃ D : Wts, D = ys ++ zs.map fun z => (z.1, -z.2) := ⟨_, rfl⟩
  have sD : ∀ f : Int → Rat, sw D f = sw ys f - sw zs f := fun f => by
    rw [hD, sw_app, sw_neg]
    grind
  have z0 : ∀ j, j < m → sw D (fun M => ((ff M j : Int) : Rat)) = 0 := fun j hj => by
    rw [sD, ← r2 j (by rw [take_len (by omega)]; omega), ← hr j (by rw [take_len (by omega)]; omega), gd _ _ (by omega) (by omega), gd _ _ hj (by omega)]
    grind
  have q := off_sum z0 P 0 (by omega)
  rw [if_pos (by omega)] at q
  have q2 : sw D (fun M => ((ff M 0 : Int) : Rat) * ((prodP P M : Int) : Rat)) = sw D fun M => ((prodP P M : Int) : Rat) := sw_congr fun z _ => by
    have : (((ff z.1 0 : Int)) : Rat) = 1 := rfl
    rw [this]
    grind
  rw [q2, sD, sD, at_zero e, ← rep_ev r2 (by rw [take_len (by omega)]; omega), ← r2 m (by rw [take_len (by omega)]; omega), gd _ _ (by omega) (by omega)] at q
  grind
end

section
theorem getD_tk {ss : List Int} {k j : Nat} (h : j < k) : (ss.take k).getD j 0 = ss.getD j 0 := by
  rw [List.getD_eq_getElem?_getD, List.getD_eq_getElem?_getD, List.getElem?_take_of_lt h]
theorem mean_good {ss P : List Int} {m : Nat} {N s : Int} (g : Good ss m N s P) : meanG ss P N = s * EV (ss.take (m + 1)) P := by
  unfold meanG
  rw [g.turn, g.len]
  rfl
theorem ratnn_add {a b : Rat} (h1 : 0 ≤ a) (h2 : 0 ≤ b) : 0 ≤ a + b := by grind
/-- two lots of weights mixed, so that the next sum is right too -/
theorem rep_mix {lo hi : Int} {ss : List Int} {m : Nat} {zl zh : Wts} {al be : Rat} (hm : m < ss.length) (hl : ∀ z ∈ zl, lo ≤ z.1 ∧ z.1 ≤ hi ∧ 0 ≤ z.2) (hh : ∀ z ∈ zh, lo ≤ z.1 ∧ z.1 ≤ hi ∧ 0 ≤ z.2) (rl : RepW zl (ss.take m)) (rh : RepW zh (ss.take m)) (a0 : 0 ≤ al) (b0 : 0 ≤ be)
    (el : ((ss.getD m 0 : Int) : Rat) = sw zl (fun M => ((ff M m : Int) : Rat)) + al) (eh : ((ss.getD m 0 : Int) : Rat) = sw zh (fun M => ((ff M m : Int) : Rat)) - be) : Rep lo hi (ss.take (m + 1)) := by
  have lt := take_len (ss := ss) (m := m) (by omega)
  have lt2 := take_len (ss := ss) (m := m + 1) (by omega)
  by_cases z : al + be = 0
  · have az : al = 0 := by grind
    refine ⟨zl, hl, fun j hj => ?_⟩
    rw [lt2] at hj
    rw [getD_tk hj]
    by_cases e : j = m
    · rw [e, el, az]
      grind
    · have := rl j (by omega)
      rw [getD_tk (by omega)] at this
      exact this
  · obtain ⟨c, hc⟩ : ∃ c : Rat, c = (al + be)⁻¹ := ⟨_, rfl⟩
    have c1 : (al + be) * c = 1 := by rw [hc]; exact Rat.mul_inv_cancel _ z
    have pos : 0 < al + be := by
      have := ratnn_add a0 b0
      grind
    have c0 : 0 ≤ c := by rw [hc]; exact Rat.le_of_lt (Rat.inv_pos.mpr pos)
    have t0 : 0 ≤ be * c := Rat.mul_nonneg b0 c0
    have u0 : 0 ≤ al * c := Rat.mul_nonneg a0 c0
    have sE : ∀ f : Int → Rat, sw ((zl.map fun z => (z.1, be * c * z.2)) ++ zh.map fun z => (z.1, al * c * z.2)) f = be * c * sw zl f + al * c * sw zh f := fun f => by
      rw [sw_app, sw_scale, sw_scale]
    refine ⟨(zl.map fun z => (z.1, be * c * z.2)) ++ zh.map fun z => (z.1, al * c * z.2), fun z hz => ?_, fun j hj => ?_⟩
    · rcases List.mem_append.mp hz with h | h
      · obtain ⟨y, hy, rfl⟩ := List.mem_map.mp h
        exact ⟨(hl y hy).1, (hl y hy).2.1, Rat.mul_nonneg t0 (hl y hy).2.2⟩
      · obtain ⟨y, hy, rfl⟩ := List.mem_map.mp h
        exact ⟨(hh y hy).1, (hh y hy).2.1, Rat.mul_nonneg u0 (hh y hy).2.2⟩
    · rw [lt2] at hj
      rw [getD_tk hj, sE]
      by_cases e : j = m
      · subst e
        have e1 : sw zl (fun M => ((ff M j : Int) : Rat)) = ((ss.getD j 0 : Int) : Rat) - al := by grind
        have e2 : sw zh (fun M => ((ff M j : Int) : Rat)) = ((ss.getD j 0 : Int) : Rat) + be := by grind
        rw [e1, e2]
        grind
      · have q1 := rl j (by omega)
        have q2 := rh j (by omega)
        rw [getD_tk (by omega)] at q1 q2
        rw [← q1, ← q2]
        grind
theorem Fits.wts {lo hi : Int} {P ss : List Int} (h : Fits lo hi P ss) : ∃ zs : Wts, zs.map (·.1) = P ∧ (∀ z ∈ zs, lo ≤ z.1 ∧ z.1 ≤ hi ∧ 0 ≤ z.2) ∧ RepW zs ss := by
  obtain ⟨hp, zs, e, hz, hr⟩ := h
  refine ⟨zs, e, fun z m => ?_, hr⟩
  have : z.1 ∈ P := by rw [← e]; exact List.mem_map.mpr ⟨z, m, rfl⟩
  exact ⟨(hp _ this).1, (hp _ this).2, hz z m⟩
theorem rep_up {ss : List Int} {m : Nat} {N : Int} (R : Rep 0 N (ss.take m)) (m1 : 1 ≤ m) (m5 : m ≤ 5) (hl : m < ss.length) (hN : (m : Int) ≤ N) (p : PassM ss m N) : Rep 0 N (ss.take (m + 1)) := by
  have gl := low_good R m1 m5 (by omega) hN
  have gh := hig_good R m1 (by omega) (by omega) hN
  obtain ⟨zl, l1, l2, l3⟩ := gl.fits.wts
  obtain ⟨zh, h1, h2, h3⟩ := gh.fits.wts
  have pl := p.1
  have ph := p.2
  rw [mean_good gl, Int.one_mul] at pl
  rw [mean_good gh] at ph
  have e1 := next_sum hl l1 gl.len l3
  have e2 := next_sum hl h1 gh.len h3
  refine rep_mix (be := ((-1 * EV (ss.take (m + 1)) (highestF ss m N) : Int) : Rat)) hl l2 h2 l3 h3 (Rat.intCast_nonneg.mpr pl) (Rat.intCast_nonneg.mpr ph) e1 ?_
  rw [e2, Rat.intCast_mul]
  have : (((-1 : Int)) : Rat) = -1 := rfl
  rw [this]
  grind
theorem Rep.tk {lo hi : Int} {ss : List Int} (h : Rep lo hi ss) (m : Nat) : Rep lo hi (ss.take m) := by
  obtain ⟨zs, hz, hr⟩ := h
  refine ⟨zs, hz, fun j hj => ?_⟩
  rw [List.length_take] at hj
  rw [getD_tk (by omega)]
  exact hr j (by omega)
theorem rep_pass {ss : List Int} {m : Nat} {N : Int} (R : Rep 0 N ss) (m1 : 1 ≤ m) (m5 : m ≤ 5) (hl : m < ss.length) (hN : (m : Int) ≤ N) : PassM ss m N := by
  have gl := low_good (R.tk m) m1 m5 (by omega) hN
  have gh := hig_good (R.tk m) m1 (by omega) (by omega) hN
  have R1 := R.tk (m + 1)
  have lt2 := take_len (ss := ss) (m := m + 1) (by omega)
  constructor
  · rw [mean_good gl, Int.one_mul]
    exact R1.nn (by rw [gl.len]; omega) fun M a b => by have := gl.sign M a b; omega
  · rw [mean_good gh]
    have := R1.np (pts := highestF ss m N) (by rw [gh.len]; omega) fun M a b => by have := gh.sign M a b; omega
    omega
theorem rep_base {s0 N : Int} (h : 0 ≤ s0) (hN : 0 ≤ N) : Rep 0 N [s0] := by
  refine ⟨[(0, ((s0 : Int) : Rat))], fun z hz => ?_, fun j hj => ?_⟩
  · rw [List.mem_singleton] at hz
    subst hz
    exact ⟨Int.le_refl _, hN, Rat.intCast_nonneg.mpr h⟩
  · have : j = 0 := by simp only [List.length_cons, List.length_nil] at hj; omega
    subst this
    rw [sw_cons, sw_nil]
    show ((s0 : Int) : Rat) = ((s0 : Int) : Rat) * ((1 : Int) : Rat) + 0
    have : (((1 : Int)) : Rat) = 1 := rfl
    rw [this]
    grind
/-- so far nothing is broken: so far there are weights -/
theorem rep_so_far {ss : List Int} {N : Int} (l1 : 1 ≤ ss.length) (l6 : ss.length ≤ 6) (s0 : 0 ≤ ss.getD 0 0) (hN : (ss.length : Int) - 1 ≤ N) : ∀ m, 1 ≤ m → m ≤ ss.length → (∀ k, 1 ≤ k → k < m → PassM ss k N) → Rep 0 N (ss.take m)
  | 1, _, _, _ => by
    match ss, l1, s0 with
    | a :: ss, _, s0 =>
      rw [List.length_cons] at hN
      show Rep 0 N [a]
      exact rep_base s0 (by omega)
  | m + 2, _, h2, hp => rep_up (rep_so_far l1 l6 s0 hN (m + 1) (by omega) (by omega) fun k a b => hp k a (by omega)) (by omega) (by omega) (by omega) (by omega) (hp (m + 1) (by omega) (by omega))
/-- nothing is broken exactly if there are weights -/
theorem pass_iff {ss : List Int} {N : Int} (l1 : 1 ≤ ss.length) (l6 : ss.length ≤ 6) (s0 : 0 ≤ ss.getD 0 0) (hN : (ss.length : Int) - 1 ≤ N) : PassA ss N ↔ Rep 0 N ss := by
  constructor
  · intro h
    have := rep_so_far l1 l6 s0 hN ss.length l1 (Nat.le_refl _) fun k a b => h k a b
    rwa [List.take_length] at this
  · intro R m m1 m2
    exact rep_pass R m1 (by omega) m2 (by omega)
/-- where one breaks, its points break it -/
theorem broken_low {ss : List Int} {m : Nat} {N : Int} (R : Rep 0 N (ss.take m)) (m1 : 1 ≤ m) (m5 : m ≤ 5) (hl : m < ss.length) (hN : (m : Int) ≤ N) (h : ¬ 0 ≤ meanG ss (lowestF ss m N) N) : EV (ss.take (m + 1)) (lowestF ss m N) < 0 ∧ ∀ M, 0 ≤ M → M ≤ N → 0 ≤ prodP (lowestF ss m N) M := by
  have gl := low_good R m1 m5 (by omega) hN
  rw [mean_good gl, Int.one_mul] at h
  exact ⟨by omega, fun M a b => by have := gl.sign M a b; omega⟩
end

section
variable {P : Program} {w : World} {K : PySem.W.Frag} {mg : Str → Option Value} {base : Heap}
def spWell (K : PySem.W.Frag) : Sp := fun vs H Q _ => ∃ (a : Addr) (ns : List Int) (i : Int), vs = [.ref a, .int i] ∧ SqL K H a (ns.map V.int) ∧ ns.length ≤ 63 ∧ 0 ≤ i ∧ i < 100 ∧
  ∀ v H', H v = none → Ex H H' → VatAt H' v → Q (.ref v) H'
theorem scWell : FnScope ["script", "spot", "state", "cell", "own"] ["script", "spot"] (defScope (top 40)) := ⟨rfl, rfl, rfl, by decide +kernel, rfl, by decide +kernel, by decide +kernel⟩
theorem has_well (B : Bi mg) (D : Df K mg "_law_well" (top 40) ["script", "spot"]) : Has P w K mg base "_law_well" 1 ["script", "spot"] (spWell K) := by
  have sc := scWell
  refine .of D fun f fd F => F.ok sc (fun vs H Q E h => ?_) (fun cdv A outer s H vs Q E hr h => ?_)
  · obtain ⟨a, ns, i, rfl, _⟩ := h
    rfl
  · obtain ⟨a, ns, i, rfl, hS, hl, h0, h1, k⟩ := h
    refine ⟨_, (pss_cons (ps_set (i := 2) sc.nd rfl (by first | exact Or.inl rfl | exact Or.inr rfl) (pe_op op_add pe_int (pe_op op_mulS pe_int (pv 1))))
      (pss_cons (ps_for PassesOwn.never rfl (pi_list (pe_op op_catN (pe_slice (slL (K := K)) (pv 0) po_none (po_some pe_int)) (pe_slice (slL (K := K)) (pv 0) (po_some (pv 1)) (po_some (pe_op op_add (pv 1) pe_int))))) (pg_name (i := 3) sc.nd rfl (by first | exact Or.inl rfl | exact Or.inr rfl))
      (pss_one (ps_set (i := 2) sc.nd rfl (by first | exact Or.inl rfl | exact Or.inr rfl) (pe_op op_mod (pe_callTy call_intN (by rfl) B.int (by decide +kernel) (pa_cons (pe_op op_add (pe_op op_add (pe_op op_mulS (pv 2) pe_int) (pv 3)) pe_int) pa_nil)) pe_int))))
      (pss_cons (ps_set (i := 4) sc.nd rfl (by first | exact Or.inl rfl | exact Or.inr rfl) (PE.mon (pe_ifExp (pt_cmpR op_lt (pv 1) (pe_callB (kLen (K := K)) (by rfl) B.len (by decide +kernel) (pa_cons (pv 0) pa_nil)) (nomark _)) (pe_ix (ixL (K := K)) (pv 0) (pv 1) (fun _ _ => rfl)) pe_int)))
      (pss_one (ps_ret (pe_lstN (pa_cons (pv 2) (pa_cons pe_int (pa_cons (PE.mon (pe_ifExp (pt_cmpR op_ge (pe_callB call_abs (by rfl) B.abs (by decide +kernel) (pa_cons (pv 4) pa_nil)) (pe_op op_pow pe_int pe_int) (nomark _)) (pe_callB call_abs (by rfl) B.abs (by decide +kernel) (pa_cons (pv 4) pa_nil)) pe_int)) pa_nil))))))))), ?_⟩
    walk_at "rd"
    refine ⟨cmulR, ?_⟩
    refine ⟨a, _, rfl, hS, fun p H1 n1 e1 t1 => ?_⟩
    refine ⟨a, _, rfl, sqL_ex hS e1, fun p2 H2 n2 e2 t2 => ?_⟩
    have lc := cutV_length (ns.map V.int) none (some 4)
    have lc2 := cutV_length (ns.map V.int) (some i) (some (i + 1))
    rw [List.length_map] at lc lc2
    refine ⟨p, p2, _, _, rfl, rfl, e2 _ _ t1, t2, sizeLine_le (by omega), fun p3 H3 n3 e3 t3 => ⟨p3, rfl, ⟨_, .of t3⟩, ?_⟩⟩
    have e13 := (e1.trans e2).trans e3
    obtain ⟨Pv, hP⟩ : ∃ P : Nat → L2.St → Hp → Prop, P = fun j σ' G => G = H3 ∧ ∃ (s : Int) (t u : Option V), σ' = [some (.ref a), some (.int i), some (.int s), t, u] ∧ 0 ≤ s := ⟨_, rfl⟩
    refine loopL (xs := _) Pv (by rw [hP]; exact ⟨rfl, _, _, _, rfl, by omega⟩) (fun j σ' G _ h => by rw [hP] at h; rw [h.1]; exact .of t3) ?_ ?_
    · intro j x σ' G hx h
      rw [hP] at h
      obtain ⟨rfl, s, t, u, rfl, s0⟩ := h
      have hm := List.mem_of_getElem? hx
      have hx2 : ∃ y, x = .int y := by
        rcases List.mem_append.mp hm with q | q
        · exact ints_cut q
        · exact ints_cut q
      obtain ⟨y, rfl⟩ := hx2
      walk_at "rd"
      refine ⟨cmulR, by decide, ?_⟩
      rw [hP]
      exact ⟨rfl, _, _, _, rfl, Int.emod_nonneg _ (by decide)⟩
    · intro σ' G h
      rw [hP] at h
      obtain ⟨rfl, s, t, u, rfl, s0⟩ := h
      walk_at "rd"
      obtain ⟨R0, hR⟩ : ∃ R : VK, R = fun v H' => (∃ z : Int, v = .int z) ∧ H' = G := ⟨_, rfl⟩
      refine ⟨R0, ?_, ?_⟩
      · walk_at "rd"
        refine ⟨_, .inl (sqL_ex hS e13), ?_⟩
        rw [List.length_map]
        split
        · rename_i hi
          obtain ⟨z, _, e⟩ := at_int h0 hi
          refine q_ixL (sqL_ex hS e13) e ?_
          rw [hR]
          exact ⟨⟨z, rfl⟩, rfl⟩
        · rw [hR]
          exact ⟨⟨_, rfl⟩, rfl⟩
      intro x H' hx
      rw [hR] at hx
      obtain ⟨⟨z, rfl⟩, rfl⟩ := hx
      walk_at "rd"
      obtain ⟨R1, hR1⟩ : ∃ R : VK, R = fun v H2' => (∃ q : Int, v = .int q ∧ 0 ≤ q) ∧ H2' = H' := ⟨_, rfl⟩
      refine ⟨R1, ?_, ?_⟩
      · walk_at "rd"
        refine ⟨⟨by decide, by decide, by decide⟩, ?_⟩
        generalize hq : (if z < 0 then -z else z) = q
        have q0 : 0 ≤ q := by
          rw [← hq]
          split <;> omega
        rw [hR1]
        split
        · exact ⟨⟨_, rfl, q0⟩, rfl⟩
        · exact ⟨⟨_, rfl, by decide⟩, rfl⟩
      · intro v H' h
        rw [hR1] at h
        obtain ⟨⟨q, rfl, q0⟩, rfl⟩ := h
        walk_at "rd"
        exact ⟨by decide, fun v H4 n4 e4 t4 => k v H4 (e13.free n4) (e13.trans e4) ⟨s, 0, q, t4, s0, by decide, q0⟩⟩
def spDraw : Sp := fun vs H Q _ => ∃ (v : Addr) (m : Int), vs = [.ref v, .int m] ∧ VatAt H v ∧ 0 < m ∧ m.natAbs.log2 < 9000 ∧
  ∀ r H', Gv v H H' → 0 ≤ r → r < m → Q (.int r) H'
theorem scDraw : FnScope ["well", "many", "digit", "seed"] ["well", "many"] (defScope (top 41)) := ⟨rfl, rfl, rfl, by decide +kernel, rfl, by decide +kernel, by decide +kernel⟩
theorem has_draw (B : Bi mg) (D : Df K mg "_law_draw" (top 41) ["well", "many"]) : Has P w K mg base "_law_draw" 1 ["well", "many"] spDraw := by
  have sc := scDraw
  refine .of D fun f fd F => F.ok sc (fun vs H Q E h => ?_) (fun cdv A outer s H vs Q E hr h => ?_)
  · obtain ⟨v, m, rfl, _⟩ := h
    rfl
  · obtain ⟨v, m, rfl, hv, m0, m1, k⟩ := h
    obtain ⟨a, b, c, hl, a0, b0, c0⟩ := id hv
    refine ⟨_, (pss_cons (ps_if (pt_cmpR op_gt (pe_ix (ixL (K := K)) (pv 0) pe_int (fun _ _ => rfl)) pe_int (nomark _)) (pss_cons (ps_asg (pe_callB call_divmodN (by rfl) B.divmod (by decide +kernel) (pa_cons (pe_ix (ixL (K := K)) (pv 0) pe_int (fun _ _ => rfl)) (pa_cons (pv 1) pa_nil))) (pg_tup rfl (pgs_cons (pg_sub (pv 0) pe_int set_list) (pgs_cons (pg_name (i := 2) sc.nd rfl (by first | exact Or.inl rfl | exact Or.inr rfl)) pgs_nil))))
      (pss_one (ps_ret (pv 2)))) pss_nil)
      (pss_cons (ps_asg (pe_op op_add (pe_ix (ixL (K := K)) (pv 0) pe_int (fun _ _ => rfl)) pe_int) (pg_sub (pv 0) pe_int set_list))
      (pss_cons (ps_set (i := 3) sc.nd rfl (by first | exact Or.inl rfl | exact Or.inr rfl) (pe_callTy call_intN (by rfl) B.int (by decide +kernel) (pa_cons (pe_ix (ixL (K := K)) (pv 0) pe_int (fun _ _ => rfl)) pa_nil)))
      (pss_cons (ps_asg (pe_op op_mod (pe_callTy call_intN (by rfl) B.int (by decide +kernel) (pa_cons (pe_op op_add (pe_op op_add (pe_op op_mulS (pv 3) pe_int) (pe_op op_mulS (pe_ix (ixL (K := K)) (pv 0) pe_int (fun _ _ => rfl)) pe_int)) pe_int) pa_nil)) pe_int) (pg_sub (pv 0) pe_int set_list))
      (pss_one (ps_ret (pe_op op_mod (pe_callTy call_intN (by rfl) B.int (by decide +kernel) (pa_cons (pe_op op_fdivW (pe_ix (ixL (K := K)) (pv 0) pe_int (fun _ _ => rfl)) pe_int) pa_nil)) (pv 1)))))))), ?_⟩
    walk_at "rd"
    refine q_ixL (.of hl) rfl ?_
    walk_at "rd"
    split
    · refine q_ixL (.of hl) rfl ?_
      refine ⟨_, _, rfl, m0, m1, fun p H1 n1 e1 t1 => ⟨p, rfl, _, .of t1, rfl, ?_⟩⟩
      have hv1 := e1 _ _ hl
      walk_at "rd"
      refine ⟨v, _, 2, 2, rfl, rfl, hv1, rfl, ?_⟩
      walk_at "rd"
      refine k _ _ ⟨hv, fun x o n ho => ?_, ⟨_, _, _, upd_same, a0, b0, Int.ediv_nonneg c0 (by omega)⟩⟩ (Int.emod_nonneg _ (by omega)) (Int.emod_lt_of_pos _ m0)
      rw [upd_ne n]
      exact e1 _ _ ho
    · refine q_ixL (.of hl) rfl ?_
      walk_at "rd"
      refine ⟨v, _, 1, 1, rfl, rfl, hl, rfl, ?_⟩
      walk_at "rd"
      have t1 : (upd H v (.lst [.int a, .int (b + 1), .int c])) v = some (.lst [.int a, .int (b + 1), .int c]) := upd_same
      refine q_ixL (.of t1) rfl ?_
      walk_at "rd"
      refine ⟨cmulR, ?_⟩
      refine q_ixL (.of t1) rfl ?_
      walk_at "rd"
      refine ⟨cmulR, by decide, v, _, 0, 0, rfl, rfl, t1, rfl, ?_⟩
      have g0 := Int.emod_nonneg (a * 42013 + (b + 1) * 47017 + 79) (show (2147483629 : Int) ≠ 0 by decide)
      rw [upd_upd]
      refine q_ixL (.of upd_same) rfl ?_
      walk_at "rd"
      refine ⟨⟨by decide, by decide⟩, m0, k _ _ ⟨hv, fun x o n ho => by rw [upd_ne n]; exact ho, ⟨_, _, _, upd_same, g0, by omega, c0⟩⟩ (Int.emod_nonneg _ (by omega)) (Int.emod_lt_of_pos _ m0)⟩
end

section
variable {P : Program} {w : World} {K : PySem.W.Frag} {mg : Str → Option Value} {base : Heap}
theorem Gv.freeL {v p : Addr} {H G : Hp} (g : Gv v H G) (n : G p = none) : H p = none := by
  cases q : H p with
  | none => rfl
  | some u =>
    by_cases e : p = v
    · subst e
      obtain ⟨x, y, z, h, _⟩ := g.new
      rw [n] at h
      cases h
    · rw [g.keep p u e q] at n
      cases n
theorem scPick : FnScope ["well", "choices"] ["well", "choices"] (defScope (top 42)) := ⟨rfl, rfl, rfl, by decide +kernel, rfl, by decide +kernel, by decide +kernel⟩
theorem has_pick (B : Bi mg) (h_law_draw : Has P w K mg base "_law_draw" 1 ["well", "many"] spDraw) (D : Df K mg "_law_pick" (top 42) ["well", "choices"]) : Has P w K mg base "_law_pick" 2 ["well", "choices"] (spPick K) := by
  have sc := scPick
  refine .of D fun f fd F => F.ok sc (fun vs H Q E h => ?_) (fun cdv A outer s H vs Q E hr h => ?_)
  · obtain ⟨v, l, xs, rfl, _⟩ := h
    rfl
  · obtain ⟨v, l, xs, rfl, hv, lv, hl, ne, l100, k⟩ := h
    have l0 : 0 < xs.length := List.length_pos_iff.mpr ne
    refine ⟨_, (pss_one (ps_ret (pe_ix (ixL (K := K)) (pv 1) (pe_has h_law_draw (hr.mono (by decide)) (pa_cons (pv 0) (pa_cons (pe_callB (kLen (K := K)) (by rfl) B.len (by decide +kernel) (pa_cons (pv 1) pa_nil)) pa_nil))) (fun _ _ => rfl)))), ?_⟩
    walk_at "rd"
    refine ⟨_, .inl (.of hl), ?_⟩
    refine ⟨v, _, rfl, hv, by rw [List.length_map]; omega, log_sm (by omega) (by rw [List.length_map]; omega), fun r H1 g1 r0 r1 => ?_⟩
    rw [List.length_map] at r1
    obtain ⟨z, hz, e⟩ := at_int (ns := xs) r0 r1
    refine q_ixL (.of (g1.lst lv hl)) e ?_
    exact k z H1 g1 (List.mem_of_getElem? hz)
theorem scChoose : FnScope ["things", "some", "found", "k"] ["things", "some"] (defScope (top 47)) := ⟨rfl, rfl, rfl, by decide +kernel, rfl, by decide +kernel, by decide +kernel⟩
theorem has_choose (B : Bi mg) (D : Df K mg "_law_choose" (top 47) ["things", "some"]) : Has P w K mg base "_law_choose" 1 ["things", "some"] spChoose := by
  have sc := scChoose
  refine .of D fun f fd F => F.ok sc (fun vs H Q E h => ?_) (fun cdv A outer s H vs Q E hr h => ?_)
  · obtain ⟨a, b, rfl, _⟩ := h
    rfl
  · obtain ⟨a, b, rfl, ha, hb, k⟩ := h
    refine ⟨_, (pss_cons (ps_if (PW.pt (pw_or (pt_cmpR op_gt (pv 1) (pv 0) (nomark _)) (pw_or1 (pt_cmpR op_lt (pv 1) pe_int (nomark _))))) (pss_one (ps_ret pe_int)) pss_nil)
      (pss_cons (ps_set (i := 2) sc.nd rfl (by first | exact Or.inl rfl | exact Or.inr rfl) pe_int)
      (pss_cons (ps_for PassesOwn.never rfl (pi_range1 (by rfl) B.range (pa_cons (pv 1) pa_nil)) (pg_name (i := 3) sc.nd rfl (by first | exact Or.inl rfl | exact Or.inr rfl))
      (pss_one (ps_set (i := 2) sc.nd rfl (by first | exact Or.inl rfl | exact Or.inr rfl) (pe_op op_fdivW (pe_op op_mulS (pv 2) (pe_op op_sub (pv 0) (pv 3))) (pe_op op_add (pv 3) pe_int)))))
      (pss_one (ps_ret (pv 2)))))), ?_⟩
    walk_at "rd"
    by_cases hab : (a : Int) < (b : Int)
    · rw [if_pos hab]
      rw [chs_big a b (by omega)] at k
      exact k
    · rw [if_neg hab, if_neg (by omega)]
      refine ⟨by omega, by omega, ?_⟩
      obtain ⟨Pv, hP⟩ : ∃ P : Nat → L2.St → Hp → Prop, P = fun j σ' G => G = H ∧ ∃ s3 : Option V, σ' = [some (.int (a : Int)), some (.int (b : Int)), some (.int (wyG (a : Int) j)), s3] := ⟨_, rfl⟩
      refine loopR Pv (by rw [hP]; exact ⟨rfl, _, rfl⟩) ?_ ?_
      · intro j σ' G hj h
        rw [hP] at h
        obtain ⟨rfl, s3, rfl⟩ := h
        have hs := chs_small a ha j (by omega)
        walk_at "rd"
        refine ⟨cmul 11 4 (by rw [wy_chs, Int.natAbs_natCast]; omega) (by omega), ⟨by omega, log_sm (by omega) (by omega)⟩, ?_⟩
        rw [hP]
        exact ⟨rfl, _, rfl⟩
      · intro σ' G h
        rw [hP] at h
        obtain ⟨rfl, s3, rfl⟩ := h
        have eb : ((b : Int)).toNat = b := by omega
        rw [eb, wy_chs]
        walk_at "rd"
        exact k
theorem scUrnL : FnScope ["slips_here", "marked", "n", "k"] ["slips_here", "marked", "n"] (defScope (top 54)) := ⟨rfl, rfl, rfl, by decide +kernel, rfl, by decide +kernel, by decide +kernel⟩
theorem has_urnl (B : Bi mg) (h_law_choose : Has P w K mg base "_law_choose" 1 ["things", "some"] spChoose) (D : Df K mg "_law_urn" (top 54) ["slips_here", "marked", "n"]) : Has P w K mg base "_law_urn" 2 ["slips_here", "marked", "n"] (spUrnL K) := by
  have sc := scUrnL
  refine .of D fun f fd F => F.ok sc (fun vs H Q E h => ?_) (fun cdv A outer s H vs Q E hr h => ?_)
  · obtain ⟨a, m, n, rfl, _⟩ := h
    rfl
  · obtain ⟨a, m, n, rfl, ma, ha, hn, k⟩ := h
    refine ⟨_, (pss_one (ps_ret (pe_lc (own := [("k", 3)]) (g := gName 3) (tt := tYes) rfl sc.nd (pi_range1 (by rfl) B.range (pa_cons (pe_op op_add (pv 2) pe_int) pa_nil)) (blkOk_by (N := (["slips_here", "marked", "n", "k"] : List Str)) (sc := defScope (top 54)) (by decide +kernel)) (fun _ _ _ _ _ => (pg_name (i := 3) sc.nd rfl (by first | exact Or.inl rfl | exact Or.inr rfl))) (fun _ _ _ _ _ => pts_nil) (fun _ _ _ _ _ => (PE.mon (pe_op op_mulS (pe_has h_law_choose (hr.mono (by decide)) (pa_cons (pv 1) (pa_cons (pv 3) pa_nil))) (pe_has h_law_choose (hr.mono (by decide)) (pa_cons (pe_op op_sub (pv 0) (pv 1)) (pa_cons (pe_op op_sub (pv 2) (pv 3)) pa_nil))))))))), ?_⟩
    walk_at "rd"
    refine ⟨by omega, by omega, fun Dd hD => lcR (fun _ y _ => ∃ c : Int, y = .int c ∧ 0 ≤ c ∧ c ≤ 2000000) (fun _ _ _ _ _ h => h) hD (by omega) (fun _ => rfl) ?_ ?_⟩
    · intro i G hi e
      have hi : i < n + 1 := by omega
      obtain ⟨R0, hR⟩ : ∃ R : VK, R = fun y G' => G' = G ∧ ∃ c : Int, y = .int c ∧ 0 ≤ c ∧ c ≤ 2000000 := ⟨_, rfl⟩
      refine ⟨R0, ?_, fun y G' h => by rw [hR] at h; obtain ⟨rfl, h⟩ := h; exact ⟨Ex.refl _, h⟩⟩
      walk_at "rd"
      have c1 := chs_small m (by omega) i (by omega)
      have c2 := chs_small (a - m) (by omega) (n - i) (by omega)
      refine ⟨m, i, rfl, by omega, by omega, ?_⟩
      rw [show (a : Int) - (m : Int) = ((a - m : Nat) : Int) by omega, show (n : Int) - (i : Int) = ((n - i : Nat) : Int) by omega]
      refine ⟨a - m, n - i, rfl, by omega, by omega, ?_⟩
      walk_at "rd"
      refine ⟨cmul 11 11 (by rw [Int.natAbs_natCast]; omega) (by rw [Int.natAbs_natCast]; omega), ?_⟩
      rw [hR]
      refine ⟨rfl, _, rfl, Int.mul_nonneg (by omega) (by omega), ?_⟩
      have := Nat.mul_le_mul c1 c2
      rw [← Int.natCast_mul]
      omega
    · intro G ys e hy hl hr2
      obtain ⟨cs, rfl, hc⟩ := ints_ex (G := G) hr2
      walk_at "rd"
      exact k _ _ cs hD e hy ⟨by simpa using hl, hc⟩
theorem scMixedL : FnScope ["well", "slips_here", "n", "found", "turn", "own", "by", "k"] ["well", "slips_here", "n"] (defScope (top 55)) := ⟨rfl, rfl, rfl, by decide +kernel, rfl, by decide +kernel, by decide +kernel⟩
theorem has_mixedl (B : Bi mg) (h_law_draw : Has P w K mg base "_law_draw" 1 ["well", "many"] spDraw) (h_law_urn : Has P w K mg base "_law_urn" 2 ["slips_here", "marked", "n"] (spUrnL K)) (D : Df K mg "_law_mixed" (top 55) ["well", "slips_here", "n"]) : Has P w K mg base "_law_mixed" 3 ["well", "slips_here", "n"] (spMixedL K) := by
  have sc := scMixedL
  refine .of D fun f fd F => F.ok sc (fun vs H Q E h => ?_) (fun cdv A outer s H vs Q E hr h => ?_)
  · obtain ⟨v, a, n, rfl, _⟩ := h
    rfl
  · obtain ⟨v, a, n, rfl, hv, ha, hn, k⟩ := h
    refine ⟨_, (pss_cons (ps_set (i := 3) sc.nd rfl (by first | exact Or.inl rfl | exact Or.inr rfl) (pe_op op_repN (pe_lstN (pa_cons pe_int pa_nil)) (pe_op op_add (pv 2) pe_int)))
      (pss_cons (ps_for PassesOwn.never rfl (pi_range1 (by rfl) B.range (pa_cons (pe_op op_add pe_int (pe_has h_law_draw (hr.mono (by decide)) (pa_cons (pv 0) (pa_cons pe_int pa_nil)))) pa_nil)) (pg_name (i := 4) sc.nd rfl (by first | exact Or.inl rfl | exact Or.inr rfl))
      (pss_cons (ps_asg (pe_tupN (pa_cons (pe_has h_law_urn (hr.mono (by decide)) (pa_cons (pv 1) (pa_cons (pe_has h_law_draw (hr.mono (by decide)) (pa_cons (pv 0) (pa_cons (pe_op op_add (pv 1) pe_int) pa_nil))) (pa_cons (pv 2) pa_nil)))) (pa_cons (pe_op op_add pe_int (pe_has h_law_draw (hr.mono (by decide)) (pa_cons (pv 0) (pa_cons pe_int pa_nil)))) pa_nil))) (pg_tup rfl (pgs_cons (pg_name (i := 5) sc.nd rfl (by first | exact Or.inl rfl | exact Or.inr rfl)) (pgs_cons (pg_name (i := 6) sc.nd rfl (by first | exact Or.inl rfl | exact Or.inr rfl)) pgs_nil))))
      (pss_one (ps_set (i := 3) sc.nd rfl (by first | exact Or.inl rfl | exact Or.inr rfl) (pe_lc (own := [("k", 7)]) (g := gName 7) (tt := tYes) rfl sc.nd (pi_range1 (by rfl) B.range (pa_cons (pe_op op_add (pv 2) pe_int) pa_nil)) (blkOk_by (N := (["well", "slips_here", "n", "found", "turn", "own", "by", "k"] : List Str)) (sc := defScope (top 55)) (by decide +kernel)) (fun _ _ _ _ _ => (pg_name (i := 7) sc.nd rfl (by first | exact Or.inl rfl | exact Or.inr rfl))) (fun _ _ _ _ _ => pts_nil) (fun _ _ _ _ _ => (PE.mon (pe_op op_add (pe_ix (ixL (K := K)) (pv 3) (pv 7) (fun _ _ => rfl)) (pe_op op_mulS (pv 6) (pe_ix (ixL (K := K)) (pv 5) (pv 7) (fun _ _ => rfl)))))))))))
      (pss_one (ps_ret (pv 3))))), ?_⟩
    walk_at "rd"
    refine ⟨by decide, fun p0 G0 n0 e0 t0 => ?_⟩
    refine ⟨p0, _, _, rfl, rfl, t0, by omega, by omega, sizeLine_le (by simp only [List.length_cons, List.length_nil]; omega), fun p1 G1 n1 e1 t1 => ?_⟩
    walk_at "rd"
    have hv1 := (hv.ex e0).ex e1
    have v1 := vat_ne n1 (hv.ex e0)
    refine ⟨v, 3, rfl, hv1, by decide, by decide, fun d0 G2 g2 d00 d01 => ?_⟩
    walk_at "rd"
    have z0 : (List.replicate (((n : Int) + 1)).toNat [V.int 0]).flatten = (List.replicate (n + 1) (0 : Int)).map V.int := by
      rw [List.flatten_replicate_singleton, List.map_replicate, show ((n : Int) + 1).toNat = n + 1 by omega]
    rw [z0] at t1
    refine ⟨by omega, by omega, ?_⟩
    obtain ⟨Pv, hP⟩ : ∃ P : Nat → L2.St → Hp → Prop, P = fun (j : Nat) σ' G => Gv v H G ∧ ∃ (p : Addr) (cs : List Int) (s4 s5 s6 s7 : Option V), σ' = [some (.ref v), some (.int (a : Int)), some (.int (n : Int)), some (.ref p), s4, s5, s6, s7] ∧ H p = none ∧ p ≠ v ∧ G p = some (.lst (cs.map V.int)) ∧ NumL cs (n + 1) (8000000 * (j : Int)) := ⟨_, rfl⟩
    refine loopR Pv (by
      rw [hP]
      refine ⟨(Gv.of hv (e0.trans e1)).trans g2, p1, _, _, _, _, _, rfl, e0.free n1, v1, g2.lst v1 t1, by simp, fun c hc => ?_⟩
      have := List.eq_of_mem_replicate hc
      omega) ?_ ?_
    · intro j σ' G hj h
      rw [hP] at h
      obtain ⟨gG, p, cs, s4, s5, s6, s7, rfl, np, pv, hp, hN⟩ := h
      walk_at "rd"
      refine ⟨v, _, rfl, gG.new, by omega, log_sm (by omega) (by omega), fun m G3 g3 m0 m1 => ?_⟩
      obtain ⟨mn, rfl⟩ : ∃ q : Nat, m = (q : Int) := ⟨m.toNat, by omega⟩
      refine ⟨a, mn, n, rfl, by omega, ha, hn, fun pu G4 us nu eu hu hU => ?_⟩
      have hv4 := g3.new.ex eu
      have uv : pu ≠ v := fun z => by
        obtain ⟨x, y, q, h1, _⟩ := g3.new
        rw [z, h1] at nu
        cases nu
      refine ⟨v, 4, rfl, hv4, by decide, by decide, fun y G5 g5 y0 y1 => ?_⟩
      walk_at "rd"
      have hu5 := g5.lst uv hu
      have hp5 := g5.lst pv (eu _ _ (g3.lst pv hp))
      refine ⟨by decide, fun T6 G6 n6 e6 t6 => ⟨T6, rfl, _, .of t6, rfl, ?_⟩⟩
      walk_at "rd"
      refine ⟨by omega, by omega, fun Dd hD => lcR (fun i z _ => ∃ c : Int, z = .int c ∧ 0 ≤ c ∧ c ≤ 8000000 * ((j + 1 : Nat) : Int)) (fun _ _ _ _ _ h => h) hD (by omega) (fun _ => rfl) ?_ ?_⟩
      · intro i G7 hi e7
        have hi : i < n + 1 := by omega
        obtain ⟨c1, hc1, a1, a2⟩ := hN.get hi
        obtain ⟨c2, hc2, b1, b2⟩ := hU.get hi
        obtain ⟨R0, hR⟩ : ∃ R : VK, R = fun z G' => G' = G7 ∧ ∃ c : Int, z = .int c ∧ 0 ≤ c ∧ c ≤ 8000000 * ((j + 1 : Nat) : Int) := ⟨_, rfl⟩
        refine ⟨R0, ?_, fun z G' h => by rw [hR] at h; obtain ⟨rfl, h⟩ := h; exact ⟨Ex.refl _, h⟩⟩
        walk_at "rd"
        refine q_ixL (.of (e7 _ _ (e6 _ _ hp5))) (at_num hc1) ?_
        walk_at "rd"
        refine q_ixL (.of (e7 _ _ (e6 _ _ hu5))) (at_num hc2) ?_
        walk_at "rd"
        refine ⟨cmulR, ?_⟩
        rw [hR]
        refine ⟨rfl, _, rfl, ?_⟩
        have hy : 0 ≤ (1 + y) * c2 ∧ (1 + y) * c2 ≤ 4 * 2000000 := ⟨Int.mul_nonneg (by omega) b1, Int.mul_le_mul (by omega) b2 b1 (by omega)⟩
        generalize (1 + y) * c2 = z at *
        omega
      · intro G7 ys e7 hy hl hr2
        obtain ⟨qs, rfl, hq⟩ := ints_ex (G := G7) hr2
        walk_at "rd"
        rw [hP]
        have dv : Dd ≠ v := vat_ne hD (g5.new.ex e6)
        exact ⟨((((gG.trans g3).ex eu).trans g5).ex (e6.trans e7)), Dd, qs, _, _, _, _, rfl, ((((gG.trans g3).ex eu).trans g5).ex e6).freeL hD, dv, hy, by simpa using hl, hq⟩
    · intro σ' G h
      rw [hP] at h
      obtain ⟨gG, p, cs, s4, s5, s6, s7, rfl, np, pv, hp, hN⟩ := h
      walk_at "rd"
      exact k p G cs gG np pv hp ⟨hN.1, fun c hc => by have := hN.2 c hc; omega⟩
theorem scCoinL : FnScope ["well", "n", "top", "rest", "found", "k", "count", "turn"] ["well", "n"] (defScope (top 56)) := ⟨rfl, rfl, rfl, by decide +kernel, rfl, by decide +kernel, by decide +kernel⟩
theorem has_coinl (B : Bi mg) (h_law_draw : Has P w K mg base "_law_draw" 1 ["well", "many"] spDraw) (h_law_choose : Has P w K mg base "_law_choose" 1 ["things", "some"] spChoose) (D : Df K mg "_law_coin" (top 56) ["well", "n"]) : Has P w K mg base "_law_coin" 2 ["well", "n"] (spCoinL K) := by
  have sc := scCoinL
  refine .of D fun f fd F => F.ok sc (fun vs H Q E h => ?_) (fun cdv A outer s H vs Q E hr h => ?_)
  · obtain ⟨v, n, rfl, _⟩ := h
    rfl
  · obtain ⟨v, n, rfl, hv, hn, k⟩ := h
    refine ⟨_, (pss_cons (ps_par (i := 2) (j := 3) (by rfl) sc.nd rfl rfl (by decide) rfl rfl (pa_cons (pe_op op_add pe_int (pe_has h_law_draw (hr.mono (by decide)) (pa_cons (pv 0) (pa_cons pe_int pa_nil)))) (pa_cons (pe_op op_add pe_int (pe_has h_law_draw (hr.mono (by decide)) (pa_cons (pv 0) (pa_cons pe_int pa_nil)))) pa_nil)) (by rfl))
      (pss_cons (ps_set (i := 4) sc.nd rfl (by first | exact Or.inl rfl | exact Or.inr rfl) (pe_lstN pa_nil))
      (pss_cons (ps_for PassesOwn.never rfl (pi_range1 (by rfl) B.range (pa_cons (pe_op op_add (pv 1) pe_int) pa_nil)) (pg_name (i := 5) sc.nd rfl (by first | exact Or.inl rfl | exact Or.inr rfl))
      (pss_cons (ps_set (i := 6) sc.nd rfl (by first | exact Or.inl rfl | exact Or.inr rfl) (pe_has h_law_choose (hr.mono (by decide)) (pa_cons (pv 1) (pa_cons (pv 5) pa_nil))))
      (pss_cons (ps_for PassesOwn.never rfl (pi_range1 (by rfl) B.range (pa_cons (pv 1) pa_nil)) (pg_name (i := 7) sc.nd rfl (by first | exact Or.inl rfl | exact Or.inr rfl))
      (pss_one (ps_set (i := 6) sc.nd rfl (by first | exact Or.inl rfl | exact Or.inr rfl) (pe_op op_mulS (pv 6) (PE.mon (pe_ifExp (pt_cmpR op_lt (pv 7) (pv 5) (nomark _)) (pv 2) (pv 3)))))))
      (pss_one (ps_expr (pe_bm PySem.F.plainAttrs_list PySem.F.slot_list_append PySem.F.type_list_append mt_append (pv 4) (pa_cons (pv 6) pa_nil)))))))
      (pss_one (ps_ret (pv 4)))))), ?_⟩
    walk_at "rd"
    refine ⟨v, 4, rfl, hv, by decide, by decide, fun d0 G1 g1 d00 d01 => ?_⟩
    walk_at "rd"
    refine ⟨v, 4, rfl, g1.new, by decide, by decide, fun d1 G2 g2 d10 d11 => ?_⟩
    walk_at "rd"
    obtain ⟨t, ht⟩ : ∃ q : Nat, 1 + d0 = (q : Int) := ⟨(1 + d0).toNat, by omega⟩
    obtain ⟨r, hrr⟩ : ∃ q : Nat, 1 + d1 = (q : Int) := ⟨(1 + d1).toNat, by omega⟩
    rw [ht, hrr]
    refine ⟨by decide, fun p G3 n3 e3 t3 => ?_⟩
    walk_at "rd"
    have gG3 := (g1.trans g2).ex e3
    have pv : p ≠ v := vat_ne n3 g2.new
    have np : H p = none := (g1.trans g2).freeL n3
    refine ⟨by omega, by omega, ?_⟩
    obtain ⟨Pv, hP⟩ : ∃ P : Nat → L2.St → Hp → Prop, P = fun j σ' G => Gv v H G ∧ ∃ (s5 s6 s7 : Option V), σ' = [some (.ref v), some (.int (n : Int)), some (.int (t : Int)), some (.int (r : Int)), some (.ref p), s5, s6, s7] ∧ G p = some (.lst (((List.range j).map (coinC t r n)).map V.int)) := ⟨_, rfl⟩
    refine loopR Pv (by rw [hP]; exact ⟨gG3, _, _, _, rfl, t3⟩) ?_ ?_
    · intro j σ' G hj h
      rw [hP] at h
      obtain ⟨gG, s5, s6, s7, rfl, hp⟩ := h
      have hj : j < n + 1 := by omega
      walk_at "rd"
      refine ⟨n, j, rfl, by omega, by omega, ?_⟩
      refine ⟨by omega, by omega, ?_⟩
      obtain ⟨P2, hP2⟩ : ∃ P : Nat → L2.St → Hp → Prop, P = fun i σ' G' => G' = G ∧ ∃ (s7 : Option V), σ' = [some (.ref v), some (.int (n : Int)), some (.int (t : Int)), some (.int (r : Int)), some (.ref p), some (.int (j : Int)), some (.int ((chs n j * (t ^ (min i j) * r ^ (i - j)) : Nat) : Int)), s7] := ⟨_, rfl⟩
      have e0 : chs n j * (t ^ min 0 j * r ^ (0 - j)) = chs n j := by simp
      refine loopR P2 (by
        rw [hP2]
        exact ⟨rfl, s7, by rw [e0]⟩) ?_ ?_
      · intro i σ2 G' hi h
        rw [hP2] at h
        obtain ⟨rfl, s7', rfl⟩ := h
        have hi : i < n := by omega
        have cs1 := coin_small t (by omega) r (by omega) n hn j hj i (by omega)
        have cs2 := coin_step t (by omega) r (by omega) n hn j hj i hi
        walk_at "rd"
        obtain ⟨R0, hR⟩ : ∃ R : VK, R = fun z G2' => G2' = G' ∧ z = .int ((if i < j then t else r : Nat) : Int) := ⟨_, rfl⟩
        refine ⟨R0, ?_, ?_⟩
        · walk_at "rd"
          by_cases hij : i < j
          · rw [if_pos (by omega), hR]
            exact ⟨rfl, by rw [if_pos hij]⟩
          · rw [if_neg (by omega), hR]
            exact ⟨rfl, by rw [if_neg hij]⟩
        · intro z G2' hz
          rw [hR] at hz
          obtain ⟨rfl, rfl⟩ := hz
          walk_at "rd"
          refine ⟨cmulL, ?_⟩
          rw [hP2]
          refine ⟨rfl, some (.int (i : Int)), ?_⟩
          rw [← Int.natCast_mul, cs2]
      · intro σ2 G' h
        rw [hP2] at h
        obtain ⟨rfl, s7', rfl⟩ := h
        rw [show ((n : Int)).toNat = n by omega, show min n j = j by omega]
        walk_at "rd"
        refine ⟨.inl ⟨rfl, _, .of hp⟩, ?_⟩
        refine ⟨p, _, _, rfl, rfl, hp, Nat.lt_of_lt_of_le (show _ < 1000000 by simp; omega) (by decide), ?_⟩
        walk_at "rd"
        rw [hP]
        refine ⟨⟨gG.old, fun x o hx ho => ?_, ?_⟩, _, _, _, rfl, ?_⟩
        · by_cases hxp : x = p
          · subst hxp
            have : H x = none := by
              cases q : H x with
              | none => rfl
              | some u =>
                have := (g1.trans g2).keep x u hx q
                rw [this] at n3
                cases n3
            rw [this] at ho
            cases ho
          · rw [upd_ne hxp]
            exact gG.keep x o hx ho
        · obtain ⟨x, y, z, h1, h2⟩ := gG.new
          exact ⟨x, y, z, by rw [upd_ne (Ne.symm pv)]; exact h1, h2⟩
        · rw [upd_same, List.range_succ, List.map_append, List.map_append]
          rfl
    · intro σ' G h
      rw [hP] at h
      obtain ⟨gG, s5, s6, s7, rfl, hp⟩ := h
      rw [show ((n : Int) + 1).toNat = n + 1 by omega] at hp
      walk_at "rd"
      exact k p G t r gG np pv (by omega) (by omega) (by omega) (by omega) hp
theorem scRowL : FnScope ["well", "n", "way", "found", "k", "at"] ["well", "n"] (defScope (top 57)) := ⟨rfl, rfl, rfl, by decide +kernel, rfl, by decide +kernel, by decide +kernel⟩
theorem has_rowl (B : Bi mg) (h_law_draw : Has P w K mg base "_law_draw" 1 ["well", "many"] spDraw) (h_law_pick : Has P w K mg base "_law_pick" 2 ["well", "choices"] (spPick K)) (h_law_mixed : Has P w K mg base "_law_mixed" 3 ["well", "slips_here", "n"] (spMixedL K)) (h_law_coin : Has P w K mg base "_law_coin" 2 ["well", "n"] (spCoinL K)) (D : Df K mg "_law_row" (top 57) ["well", "n"]) : Has P w K mg base "_law_row" 4 ["well", "n"] (spRowL K) := by
  have sc := scRowL
  refine .of D fun f fd F => F.ok sc (fun vs H Q E h => ?_) (fun cdv A outer s H vs Q E hr h => ?_)
  · obtain ⟨v, n, rfl, _⟩ := h
    rfl
  · obtain ⟨v, n, rfl, hv, n1, hn, k⟩ := h
    refine ⟨_, (pss_cons (ps_set (i := 2) sc.nd rfl (by first | exact Or.inl rfl | exact Or.inr rfl) (pe_has h_law_draw (hr.mono (by decide)) (pa_cons (pv 0) (pa_cons pe_int pa_nil))))
      (pss_cut (ps_if (pt_cmpR op_eq (pv 2) pe_int (nomark _)) (pss_one (ps_setLc (i := 3) (own := [("k", 4)]) (g := gName 4) (tt := tYes) rfl sc.nd rfl rfl (sw_true rfl rfl rfl (by decide +kernel)) (pi_range1 (by rfl) B.range (pa_cons (pe_op op_add (pv 1) pe_int) pa_nil)) (blkOk_by (N := (["well", "n", "way", "found", "k", "at"] : List Str)) (sc := defScope (top 57)) (by decide +kernel)) (fun _ _ _ _ _ => (pg_name (i := 4) sc.nd rfl (by first | exact Or.inl rfl | exact Or.inr rfl))) (fun _ _ _ _ _ => pts_nil) (fun _ _ _ _ _ => (PE.mon (pe_has h_law_draw (hr.mono (by decide)) (pa_cons (pv 0) (pa_cons pe_int pa_nil))))))) (pss_one (ps_if (pt_cmpR op_eq (pv 2) pe_int (nomark _)) (pss_one (ps_set (i := 3) sc.nd rfl (by first | exact Or.inl rfl | exact Or.inr rfl) (pe_has h_law_coin (hr.mono (by decide)) (pa_cons (pv 0) (pa_cons (pv 1) pa_nil))))) (pss_one (ps_set (i := 3) sc.nd rfl (by first | exact Or.inl rfl | exact Or.inr rfl) (pe_has h_law_mixed (hr.mono (by decide)) (pa_cons (pv 0) (pa_cons (pe_op op_add (pe_op op_add (pv 1) pe_int) (pe_has h_law_draw (hr.mono (by decide)) (pa_cons (pv 0) (pa_cons pe_int pa_nil)))) (pa_cons (pv 1) pa_nil)))))))))
      (pss_cut (ps_if (pt_cmpR op_eq (pv 2) pe_int (nomark _)) (pss_cons (ps_set (i := 5) sc.nd rfl (by first | exact Or.inl rfl | exact Or.inr rfl) (pe_has h_law_draw (hr.mono (by decide)) (pa_cons (pv 0) (pa_cons (pe_op op_add (pv 1) pe_int) pa_nil))))
      (pss_one (ps_asg (PE.mon (pe_ifExp (pt_cmpR op_gt (pe_ix (ixL (K := K)) (pv 3) (pv 5) (fun _ _ => rfl)) pe_int (nomark _)) (pe_op op_add (pe_ix (ixL (K := K)) (pv 3) (pv 5) (fun _ _ => rfl)) (pe_has h_law_pick (hr.mono (by decide)) (pa_cons (pv 0) (pa_cons (pe_lstN (pa_cons pe_int (pa_cons pe_int (pa_cons (pe_un un_neg pe_int) pa_nil)))) pa_nil)))) pe_int)) (pg_sub (pv 3) (pv 5) set_list)))) pss_nil)
      (pss_one (ps_ret (PE.mon (pe_ifExp (pt_cmpR op_gt (pe_callB (kSum (K := K) rfl) (by rfl) B.sum (by decide +kernel) (pa_cons (pv 3) pa_nil)) pe_int (nomark _)) (pe_callTy (kTuple (K := K)) (by rfl) B.tuple (by decide +kernel) (pa_cons (pv 3) pa_nil)) (pe_op (op_catAN (K := K)) (pe_tupN (pa_cons pe_int pa_nil)) (pe_callTy (kTuple (K := K)) (by rfl) B.tuple (by decide +kernel) (pa_cons (pe_slice (slL (K := K)) (pv 3) (po_some pe_int) po_none) pa_nil)))))))))), ?_⟩
    walk_at "rd"
    refine ⟨v, 5, rfl, hv, by decide, by decide, fun wy G1 g1 w0 w1 => ?_⟩
    walk_at "rd"
    obtain ⟨P1, hP1⟩ : ∃ P : L2.St → Hp → Prop, P = fun σ' G => Gv v H G ∧ ∃ (p : Addr) (cs : List Int) (s4 s5 : Option V), σ' = [some (.ref v), some (.int (n : Int)), some (.int wy), some (.ref p), s4, s5] ∧ H p = none ∧ p ≠ v ∧ G p = some (.lst (cs.map V.int)) ∧ NumL cs (n + 1) 24000000 := ⟨_, rfl⟩
    refine ⟨P1, ?_, ?_⟩
    · walk_at "rd"
      by_cases h0 : wy = 0
      · rw [if_pos h0]
        refine ⟨by omega, by omega, fun Dd hD => lcRv (v := v) (fun _ y _ => ∃ c : Int, y = .int c ∧ 0 ≤ c ∧ c ≤ 24000000) (fun _ _ _ _ _ h => h) hD g1.new (by omega) (fun _ => rfl) ?_ ?_⟩
        · intro i G2 hi g2
          obtain ⟨R0, hR⟩ : ∃ R : VK, R = fun y G' => Gv v G2 G' ∧ ∃ c : Int, y = .int c ∧ 0 ≤ c ∧ c ≤ 24000000 := ⟨_, rfl⟩
          refine ⟨R0, ?_, fun y G' h => by rw [hR] at h; exact h⟩
          walk_at "rd"
          refine ⟨v, 7, rfl, g2.new, by decide, by decide, fun r G3 g3 r0 r1 => ?_⟩
          rw [hR]
          exact ⟨g3, _, rfl, r0, by omega⟩
        · intro G2 ys g2 hy hl hr2
          obtain ⟨cs, rfl, hc⟩ := ints_ex (G := G2) hr2
          rw [hP1]
          exact ⟨g1.trans g2, Dd, cs, _, _, rfl, g1.freeL hD, vat_ne hD g1.new, hy, by simpa using hl, hc⟩
      · rw [if_neg h0]
        by_cases h1 : wy = 1
        · rw [if_pos h1]
          refine ⟨v, n, rfl, g1.new, hn, fun p G2 t r g2 np pv t0 t1 r0 r1 hp => ?_⟩
          rw [hP1]
          exact ⟨g1.trans g2, p, _, _, _, rfl, g1.freeL np, pv, hp, coins_num t1 r1 hn⟩
        · rw [if_neg h1]
          refine ⟨v, 8, rfl, g1.new, by decide, by decide, fun d G2 g2 d0 d1 => ?_⟩
          walk_at "rd"
          obtain ⟨a, ha⟩ : ∃ q : Nat, (n : Int) + 1 + d = (q : Int) := ⟨((n : Int) + 1 + d).toNat, by omega⟩
          rw [ha]
          refine ⟨v, a, n, rfl, g2.new, by omega, hn, fun p G3 cs g3 np pv hp hN => ?_⟩
          rw [hP1]
          exact ⟨(g1.trans g2).trans g3, p, cs, _, _, rfl, (g1.trans g2).freeL np, pv, hp, hN⟩
    intro σ' G h
    rw [hP1] at h
    obtain ⟨gG, p, cs, s4, s5, rfl, np, pv, hp, hN⟩ := h
    walk_at "rd"
    obtain ⟨P2, hP2⟩ : ∃ P : L2.St → Hp → Prop, P = fun σ' G => Gv v H G ∧ ∃ (p : Addr) (cs : List Int) (s4 s5 : Option V), σ' = [some (.ref v), some (.int (n : Int)), some (.int wy), some (.ref p), s4, s5] ∧ H p = none ∧ p ≠ v ∧ G p = some (.lst (cs.map V.int)) ∧ NumL cs (n + 1) 24000002 := ⟨_, rfl⟩
    refine ⟨P2, ?_, ?_⟩
    · walk_at "rd"
      by_cases h3 : wy = 3
      · rw [if_pos h3]
        refine ⟨v, _, rfl, gG.new, by omega, log_sm (by omega) (by omega), fun at' G2 g2 a0 a1 => ?_⟩
        obtain ⟨an, rfl⟩ : ∃ q : Nat, at' = (q : Int) := ⟨at'.toNat, by omega⟩
        walk_at "rd"
        have hp2 := g2.lst pv hp
        obtain ⟨c, hc, c0, c1⟩ := hN.get (k := an) (by omega)
        have anl : an < cs.length := by rw [hN.1]; omega
        obtain ⟨R0, hR⟩ : ∃ R : VK, R = fun y G' => Gv v G2 G' ∧ ∃ z : Int, y = .int z ∧ 0 ≤ z ∧ z ≤ 24000002 := ⟨_, rfl⟩
        refine ⟨R0, ?_, ?_⟩
        · walk_at "rd"
          refine q_ixL (.of hp2) (at_num hc) ?_
          walk_at "rd"
          by_cases cp : 0 < c
          · rw [if_pos cp]
            refine q_ixL (.of hp2) (at_num hc) ?_
            refine ⟨by decide, fun pl G3 n3 e3 t3 => ?_⟩
            refine ⟨v, pl, [1, 2, -1], rfl, g2.new.ex e3, vat_ne n3 g2.new, t3, by simp, by decide, fun r G4 g4 hr4 => ?_⟩
            walk_at "rd"
            rw [hR]
            refine ⟨(Gv.of g2.new e3).trans g4, _, rfl, ?_⟩
            simp only [List.mem_cons, List.not_mem_nil, or_false] at hr4
            omega
          · rw [if_neg cp, hR]
            exact ⟨.refl g2.new, _, rfl, by decide, by decide⟩
        · intro y G3 hy
          rw [hR] at hy
          obtain ⟨g3, z, rfl, z0, z1⟩ := hy
          walk_at "rd"
          have hp3 := g3.lst pv hp2
          refine ⟨p, _, an, an, rfl, rfl, hp3, by simp [ixN] <;> omega, ?_⟩
          rw [hP2]
          refine ⟨⟨gG.old, fun x o hx ho => ?_, ?_⟩, p, cs.set an z, _, _, rfl, np, pv, by rw [upd_same, List.map_set], (hN.mono (by decide)).set z0 z1⟩
          · rw [upd_ne (ne_of_none ho np)]
            exact ((gG.trans g2).trans g3).keep x o hx ho
          · obtain ⟨x, y, q, h1, h2⟩ := (g2.trans g3).new
            exact ⟨x, y, q, by rw [upd_ne (Ne.symm pv)]; exact h1, h2⟩
      · rw [if_neg h3]
        rw [hP2]
        exact ⟨gG, p, cs, _, _, rfl, np, pv, hp, hN.mono (by decide)⟩
    intro σ' G h
    rw [hP2] at h
    obtain ⟨gG, p, cs, s4, s5, rfl, np, pv, hp, hN⟩ := h
    walk_at "rd"
    have nn : ∀ c ∈ cs, 0 ≤ c := fun c hc => (hN.2 c hc).1
    obtain ⟨R0, hR⟩ : ∃ R : VK, R = fun y G' => Ex G G' ∧ ∃ qs, IsInts K G' y qs ∧ NumL qs (n + 1) 24000003 ∧ 0 < qs.sum := ⟨_, rfl⟩
    refine ⟨R0, ?_, fun y G' h => by rw [hR] at h; obtain ⟨e, qs, h1, h2, h3⟩ := h; exact k y G' qs (gG.ex e) h1 h2 h3⟩
    walk_at "rd"
    refine ⟨p, cs, rfl, .inl (.of hp), ?_⟩
    walk_at "rd"
    by_cases sp : 0 < cs.sum
    · rw [if_pos sp]
      refine ⟨p, _, rfl, .of hp, fun T G2 n2 e2 t2 => ?_⟩
      rw [hR]
      exact ⟨e2, cs, ⟨T, rfl, .of t2⟩, hN.mono (by decide), sp⟩
    · rw [if_neg sp]
      refine ⟨by decide, fun T1 G2 n2 e2 t2 => ?_⟩
      refine ⟨p, _, rfl, .of (e2 _ _ hp), fun L3 G3 n3 e3 t3 => ?_⟩
      refine ⟨L3, _, rfl, .of t3, fun T4 G4 n4 e4 t4 => ?_⟩
      have ec : cutV (cs.map V.int) (some 1) none = (cs.drop 1).map V.int := by
        have := cut_drop (cs.map V.int) 1
        rw [List.map_drop]
        exact this
      rw [ec] at t4
      refine ⟨T1, T4, _, _, rfl, rfl, .of (e4 _ _ (e3 _ _ t2)), .of t4, ?_, ?_, fun q G5 e5 h5 => ?_⟩
      · intro z
        have := congrArg List.length z
        simp [hN.1] at this
        omega
      · rw [List.length_map, List.length_drop, hN.1]
        exact Nat.le_trans (show [V.int 1].length + (n + 1 - 1) ≤ 1000000 by simp; omega) (by decide)
      · rw [hR]
        refine ⟨((e2.trans e3).trans e4).trans e5, 1 :: cs.drop 1, ⟨q, rfl, h5⟩, ⟨by simp [hN.1], fun c hc => ?_⟩, ?_⟩
        · rcases List.mem_cons.mp hc with rfl | hc
          · exact ⟨by decide, by decide⟩
          · have := hN.2 c (List.mem_of_mem_drop hc)
            omega
        · rw [List.sum_cons]
          have sn : ∀ l : List Int, (∀ x ∈ l, 0 ≤ x) → 0 ≤ l.sum := fun l => by
            induction l with
            | nil => intro _; simp
            | cons x l ih =>
              intro h
              rw [List.sum_cons]
              have h1 := h x (by simp)
              have h2 := ih fun y hy => h y (by simp [hy])
              omega
          have := sn (cs.drop 1) fun x hx => nn x (List.mem_of_mem_drop hx)
          omega
end

section
variable {P : Program} {w : World} {K : PySem.W.Frag} {mg : Str → Option Value} {base : Heap}
/-! ### comes; _law_shared, _law_low, _law_plus, _law_mul -/
theorem r_brk {D : Ends} {σ : L2.St} {H : Hp} : tBreak D σ H = D.bk σ H := rfl
theorem scChk : FnScope ["row", "slips"] ["row", "slips"] (defScope (top 33)) := ⟨rfl, rfl, rfl, by decide +kernel, rfl, by decide +kernel, by decide +kernel⟩
theorem has_chk {C : Addr} {t2 : Tok} (B : Bi mg) (c_MOST_SLIPS : mg "MOST_SLIPS" = some (.int 1000000000000000000000000000000 t2)) (hcheck_row : Has P w K mg base "check_row" 1 ["row"] (spCheckRow K C)) (hcheck_number : Has P w K mg base "check_number" 2 ["given", "least", "most"] spNum) (D : Df K mg "_check" (top 33) ["row", "slips"]) : Has P w K mg base "_check" 3 ["row", "slips"] (spChk K C) := by
  have sc := scChk
  refine .of D fun f fd F => F.ok sc (fun vs H Q E h => ?_) (fun cdv A outer s H vs Q E hr h => ?_)
  · obtain ⟨x, ps, N, rfl, _⟩ := h
    rfl
  · obtain ⟨x, ps, N, rfl, hrow, n1, n30, k⟩ := h
    refine ⟨_, (pss_cons (ps_expr (pe_has hcheck_row (hr.mono (by decide)) (pa_cons (pv 0) pa_nil)))
      (pss_one (ps_expr (pe_has hcheck_number (hr.mono (by decide)) (pa_cons (pv 1) (pa_cons pe_int (pa_cons (pe_glob (v := .int 1000000000000000000000000000000) rfl c_MOST_SLIPS ⟨_, rfl⟩) pa_nil))))))), ?_⟩
    walk_at "rd"
    refine ⟨x, ps, rfl, hrow, ?_⟩
    walk_at "rd"
    refine ⟨(N : Int), 1, _, rfl, by omega, ?_, k⟩
    have : (10 : Nat) ^ 30 = 1000000000000000000000000000000 := by decide
    omega
theorem scComes : FnScope ["row", "slips"] ["row", "slips"] (defScope (top 24)) := ⟨rfl, rfl, rfl, by decide +kernel, rfl, by decide +kernel, by decide +kernel⟩
def spComesG (K : PySem.W.Frag) (C : Addr) : Sp := fun vs H Q _ => ∃ (x : V) (ps : List Int) (N n : Nat), vs = [x, .int (N : Int)] ∧ IsRow K C H x ps ∧ NumL ps (n + 1) (2 ^ 110) ∧ 1 ≤ n ∧ n ≤ 4 ∧ 0 < ps.sum ∧ 1 ≤ N ∧ N < 2 ^ 60 ∧ ∀ H', Ex H H' → Q (.bl (comeG ps N)) H'
theorem ok_comesG {C : Addr} {f : Addr} {fd : FuncData} (h_check : Has P w K mg base "_check" 3 ["row", "slips"] (spChk K C)) (hdoes_come : Has P w K mg base "does_come" 9 ["row", "slips"] (spDoesG K C)) (F : Fun K "comes" "comes" (top 24) f fd) : FnOk P w K mg base CX0 10 f fd ["row", "slips"] (spComesG K C) := by
  have sc := scComes
  refine F.ok sc (fun vs H Q E h => ?_) (fun cdv A outer s H vs Q E hr h => ?_)
  · obtain ⟨x, ps, N, n, rfl, _⟩ := h
    rfl
  · obtain ⟨x, ps, N, n, rfl, hrow, hN, n1, n4, sp, N1, N60, k⟩ := h
    refine ⟨_, (pss_cons (ps_expr (pe_has h_check (hr.mono (by decide)) (pa_cons (pv 0) (pa_cons (pv 1) pa_nil))))
      (pss_one (ps_ret (pe_has hdoes_come (hr.mono (by decide)) (pa_cons (pv 0) (pa_cons (pv 1) pa_nil)))))), ?_⟩
    walk_at "rd"
    refine ⟨x, ps, N, rfl, hrow, N1, Nat.le_of_lt (Nat.lt_of_lt_of_le N60 (by decide)), ?_⟩
    walk_at "rd"
    exact ⟨x, ps, N, n, rfl, hrow, hN, n1, by omega, Nat.lt_of_lt_of_le N60 (Nat.pow_le_pow_right (by decide) (by decide)), come_ok hN n1 n4 sp (Nat.lt_of_lt_of_le N60 (Nat.pow_le_pow_right (by decide) (by decide))), k⟩
theorem scShared21 : FnScope ["one_here", "other", "turn"] ["one_here", "other"] (defScope (top 43)) := ⟨rfl, rfl, rfl, by decide +kernel, rfl, by decide +kernel, by decide +kernel⟩
def spSharedB : Sp := fun vs H Q _ => ∃ a b : Int, vs = [.int a, .int b] ∧ a.natAbs < 2 ^ 2900 ∧ b.natAbs < 2 ^ 2900 ∧ Q (.int (Int.gcd a b : Nat)) H
/-- one turn of the halving -/
theorem turn_half {x y M j : Nat} (h : x * y * 2 ^ j ≤ 2 * M) (hM : j = 0 → x * y ≤ M) (hj : 1 ≤ j → y ≤ x) (hy : 0 < y) : y * (x % y) * 2 ^ (j + 1) ≤ 2 * M ∧ x % y ≤ y := by
  have lt := Nat.mod_lt x hy
  refine ⟨?_, by omega⟩
  by_cases hxy : y ≤ x
  · have h2 : 2 * (x % y) ≤ x := by
      have := Nat.mod_add_div x y
      have : 1 ≤ x / y := Nat.div_pos hxy hy
      have := Nat.mul_le_mul_left y this
      omega
    refine Nat.le_trans ?_ h
    rw [Nat.pow_succ, Nat.mul_comm (2 ^ j) 2, ← Nat.mul_assoc]
    refine Nat.mul_le_mul_right _ ?_
    rw [Nat.mul_assoc, Nat.mul_comm x y]
    refine Nat.mul_le_mul_left y ?_
    omega
  · have j0 : j = 0 := by
      rcases Nat.eq_zero_or_pos j with e | e
      · exact e
      · have := hj e
        omega
    subst j0
    rw [Nat.mod_eq_of_lt (by omega), Nat.mul_comm y x]
    have := hM rfl
    show x * y * 2 ≤ 2 * M
    omega
theorem has_shared21 (B : Bi mg) (D : Df K mg "_law_shared" (top 43) ["one_here", "other"]) : Has P w K mg base "_law_shared" 1 ["one_here", "other"] spSharedB := by
  have sc := scShared21
  refine .of D fun f fd F => F.ok sc (fun vs H Q E h => ?_) (fun cdv A outer s H vs Q E hr h => ?_)
  · obtain ⟨a, b, rfl, _⟩ := h
    rfl
  · obtain ⟨a, b, rfl, ha, hb, k⟩ := h
    refine ⟨_, (pss_cons (ps_par (i := 0) (j := 1) (by rfl) sc.nd rfl rfl (by decide) rfl rfl (pa_cons (pe_callB call_abs (by rfl) B.abs (by decide +kernel) (pa_cons (pv 0) pa_nil)) (pa_cons (pe_callB call_abs (by rfl) B.abs (by decide +kernel) (pa_cons (pv 1) pa_nil)) pa_nil)) (by rfl))
      (pss_cons (ps_for PassesOwn.never rfl (pi_range1 (by rfl) B.range (pa_cons pe_int pa_nil)) (pg_name (i := 2) sc.nd rfl (by first | exact Or.inl rfl | exact Or.inr rfl))
      (pss_cons (ps_if (pt_cmpR op_eq (pv 1) pe_int (nomark _)) (pss_one ps_break) pss_nil)
      (pss_one (ps_par (i := 0) (j := 1) (by rfl) sc.nd rfl rfl (by decide) rfl rfl (pa_cons (pv 1) (pa_cons (pe_op op_mod (pe_callTy call_intN (by rfl) B.int (by decide +kernel) (pa_cons (pv 0) pa_nil)) (pv 1)) pa_nil)) (by rfl)))))
      (pss_one (ps_ret (pv 0))))), ?_⟩
    walk_at "rd"
    have na : ∀ z : Int, (if z < 0 then -z else z) = ((z.natAbs : Nat) : Int) := fun z => by split <;> omega
    rw [na, na]
    refine ⟨by decide, by decide, ?_⟩
    obtain ⟨M, hM⟩ : ∃ M, M = a.natAbs * b.natAbs := ⟨_, rfl⟩
    have MB : M < 2 ^ 5800 := by
      rw [hM, show 5800 = 2900 + 2900 by rfl, Nat.pow_add]
      exact Nat.mul_lt_mul'' ha hb
    obtain ⟨Pv, hP⟩ : ∃ P : Nat → L2.St → Hp → Prop, P = fun j σ' G => G = H ∧ ∃ (n m : Nat) (z : Option V), σ' = [some (.int n), some (.int m), z] ∧ Nat.gcd n m = Int.gcd a b ∧ n * m * 2 ^ j ≤ 2 * M ∧ (j = 0 → n * m ≤ M) ∧ (1 ≤ j → m ≤ n) := ⟨_, rfl⟩
    refine loopR Pv (by rw [hP]; exact ⟨rfl, _, _, _, rfl, rfl, by rw [hM, Nat.pow_zero, Nat.mul_one]; omega, fun _ => by rw [hM]; exact Nat.le_refl _, fun h => absurd h (by decide)⟩) ?_ ?_
    · intro j σ' G hj h
      rw [hP] at h
      obtain ⟨rfl, n, m, z, rfl, hg, h1, h2, h3⟩ := h
      walk_at "rd"
      by_cases hm : m = 0
      · subst hm
        rw [if_pos (by simp)]
        rw [Nat.gcd_zero_right] at hg
        rw [r_brk]
        walk_at "rd"
        rw [hg]
        exact k
      · rw [if_neg (by simp; omega)]
        walk_at "rd"
        refine ⟨by omega, ?_⟩
        rw [hP]
        obtain ⟨q1, q2⟩ := turn_half h1 h2 h3 (by omega)
        refine ⟨rfl, m, n % m, _, by rw [Int.natCast_emod], ?_, q1, fun h => by omega, fun _ => q2⟩
        rw [← hg, Nat.gcd_comm n m]
        exact (Nat.gcd_comm _ _).trans (Nat.gcd_rec m n).symm
    · intro σ' G h
      rw [hP] at h
      obtain ⟨rfl, n, m, z, rfl, hg, h1, h2, h3⟩ := h
      have m0 : m = 0 := by
        rcases Nat.eq_zero_or_pos m with e | e
        · exact e
        · exfalso
          have := h3 (by decide)
          have t1 : 1 ≤ n * m := Nat.mul_pos (by omega) e
          have t2 : 2 ^ (6000 : Int).toNat ≤ 2 * M := Nat.le_trans (by have := Nat.mul_le_mul_right (2 ^ (6000 : Int).toNat) t1; omega) h1
          have t3 : 2 ^ 5801 ≤ 2 ^ (6000 : Int).toNat := Nat.pow_le_pow_right (by decide) (by decide)
          have t4 : 2 ^ 5801 = 2 ^ 5800 * 2 := Nat.pow_succ ..
          generalize 2 ^ (6000 : Int).toNat = A at *
          generalize 2 ^ 5801 = B1 at *
          generalize 2 ^ 5800 = C1 at *
          omega
      subst m0
      rw [Nat.gcd_zero_right] at hg
      walk_at "rd"
      rw [hg]
      exact k
end

section
variable {P : Program} {w : World} {K : PySem.W.Frag} {mg : Str → Option Value} {base : Heap}
/-- a divisor of either sign, of some size -/
def CDivZ (i j : Int) : Prop := j ≠ 0 ∧ j.natAbs.log2 < 9000
theorem op_fdivZ {X : Cx} : OpR X (binaryOp .FloorDiv) (rI CDivZ fun i j => .int (i.fdiv j)) := opI fun _ _ _ _ _ _ _ z go => floordiv_int z.1 go (.inl (PyProof.noPylong_of_log2 z.2))
theorem scLow21 : FnScope ["top", "bottom", "by"] ["top", "bottom"] (defScope (top 44)) := ⟨rfl, rfl, rfl, by decide +kernel, rfl, by decide +kernel, by decide +kernel⟩
def spLowZ (K : PySem.W.Frag) : Sp := fun vs H Q _ => ∃ t b : Int, vs = [.int t, .int b] ∧ b ≠ 0 ∧ t.natAbs < 2 ^ 2900 ∧ b.natAbs < 2 ^ 2900 ∧
  ∀ x H', Ex H H' → IsFr K H' x ((t : Rat) / (b : Rat)) → Q x H'
theorem fdiv_by {t g : Int} (hg : g ≠ 0) (h : g ∣ t) : t.fdiv g = t / g := by
  obtain ⟨c, rfl⟩ := h
  rw [Int.mul_fdiv_cancel_left _ hg, Int.mul_ediv_cancel_left _ hg]
theorem rat_neg_div {t b : Int} (hb : b ≠ 0) : ((t : Int) : Rat) / ((b : Int) : Rat) = (((-t : Int)) : Rat) / (((-b : Int)) : Rat) := by
  have := cast_ne hb
  rw [Rat.intCast_neg, Rat.intCast_neg]
  generalize ((b : Int) : Rat) = x at *
  grind
theorem has_low21 (h_law_shared : Has P w K mg base "_law_shared" 1 ["one_here", "other"] spSharedB) (D : Df K mg "_law_low" (top 44) ["top", "bottom"]) : Has P w K mg base "_law_low" 2 ["top", "bottom"] (spLowZ K) := by
  have sc := scLow21
  refine .of D fun f fd F => F.ok sc (fun vs H Q E h => ?_) (fun cdv A outer s H vs Q E hr h => ?_)
  · obtain ⟨t, b, rfl, _⟩ := h
    rfl
  · obtain ⟨t, b, rfl, b0, ht, hb, k⟩ := h
    refine ⟨_, (pss_cons (ps_set (i := 2) sc.nd rfl (by first | exact Or.inl rfl | exact Or.inr rfl) (pe_has h_law_shared (hr.mono (by decide)) (pa_cons (pv 0) (pa_cons (pv 1) pa_nil))))
      (pss_cons (ps_set (i := 2) sc.nd rfl (by first | exact Or.inl rfl | exact Or.inr rfl) (PE.mon (pe_ifExp (pt_cmpR op_gt (pv 1) pe_int (nomark _)) (pv 2) (pe_op op_sub pe_int (pv 2)))))
      (pss_one (ps_ret (pe_tupN (pa_cons (pe_op op_fdivZ (pv 0) (pv 2)) (pa_cons (pe_op op_fdivZ (pv 1) (pv 2)) pa_nil))))))), ?_⟩
    walk_at "rd"
    refine ⟨t, b, rfl, ht, hb, ?_⟩
    have gd : Int.gcd t b = Int.gcd b t := Int.gcd_comm ..
    have gp : 0 < Int.gcd b t := Int.gcd_pos_of_ne_zero_left _ b0
    have gl : (Int.gcd b t) ≤ b.natAbs := Nat.le_of_dvd (by omega) (Int.gcd_dvd_natAbs_left ..)
    have d1 : (((Int.gcd b t : Nat)) : Int) ∣ b := Int.gcd_dvd_left ..
    have d2 : (((Int.gcd b t : Nat)) : Int) ∣ t := Int.gcd_dvd_right ..
    have lg : ∀ z : Int, z.natAbs = Int.gcd b t → z.natAbs.log2 < 9000 := fun z hz => by
      refine log_lt (Nat.lt_of_le_of_lt (show z.natAbs ≤ b.natAbs by omega) (Nat.lt_of_lt_of_le hb (Nat.pow_le_pow_right (by decide) (by decide))))
    rw [gd]
    have fin : ∀ H' p, Ex H H' → SqT K H' p (fr ((t : Rat) / (b : Rat))) → Q (.ref p) H' := fun H' p e h => k _ _ e ⟨p, rfl, h⟩
    obtain ⟨z, hz⟩ : ∃ z : Int, z = if b > 0 then ((Int.gcd b t : Nat) : Int) else 0 - ((Int.gcd b t : Nat) : Int) := ⟨_, rfl⟩
    have za : z.natAbs = Int.gcd b t := by rw [hz]; split <;> omega
    have z0 : z ≠ 0 := by omega
    have l9 := lg z za
    have qz : [V.int (t.fdiv z), V.int (b.fdiv z)] = fr ((t : Rat) / (b : Rat)) := by
      have e1 : t.fdiv z = t / z := fdiv_by z0 (by rw [hz]; split; exact d2; rw [Int.zero_sub]; exact Int.neg_dvd.mpr d2)
      have e2 : b.fdiv z = b / z := fdiv_by z0 (by rw [hz]; split; exact d1; rw [Int.zero_sub]; exact Int.neg_dvd.mpr d1)
      rw [e1, e2, hz]
      by_cases hp : b > 0
      · rw [if_pos hp]
        exact part_eq hp
      · rw [if_neg hp, Int.zero_sub, rat_neg_div b0, ← part_eq (by omega), Int.gcd_neg, Int.neg_gcd, Int.ediv_neg, Int.ediv_neg]
        rw [Int.neg_ediv_of_dvd d1, Int.neg_ediv_of_dvd d2]
    obtain ⟨R0, hR⟩ : ∃ R : VK, R = fun v G => v = .int z ∧ G = H := ⟨_, rfl⟩
    refine ⟨R0, ?_, fun v G h => ?_⟩
    · walk_at "rd"
      rw [hR, hz]
      by_cases hp : b > 0
      · rw [if_pos (by simpa using hp), if_pos hp]
        exact ⟨rfl, rfl⟩
      · rw [if_neg (by simpa using hp), if_neg hp]
        exact ⟨rfl, rfl⟩
    · rw [hR] at h
      obtain ⟨rfl, rfl⟩ := h
      walk_at "rd"
      refine ⟨⟨z0, l9⟩, ⟨z0, l9⟩, by decide, fun T G2 n2 e2 t2 => ?_⟩
      rw [qz] at t2
      exact fin _ _ e2 (.of t2)
theorem at0 {r : Rat} : atI (fr r) 0 = some (.int r.num) := rfl
theorem at1 {r : Rat} : atI (fr r) 1 = some (.int ((r.den : Nat) : Int)) := rfl
theorem scPlus21 : FnScope ["one_here", "two"] ["one_here", "two"] (defScope (top 45)) := ⟨rfl, rfl, rfl, by decide +kernel, rfl, by decide +kernel, by decide +kernel⟩
def spPlusF (K : PySem.W.Frag) : Sp := fun vs H Q _ => ∃ (x y : V) (r s : Rat), vs = [x, y] ∧ IsFr K H x r ∧ IsFr K H y s ∧ sz r 1400 ∧ sz s 1400 ∧ ∀ z H', Ex H H' → IsFr K H' z (r + s) → Q z H'
theorem has_plus21 (h_law_low : Has P w K mg base "_law_low" 2 ["top", "bottom"] (spLowZ K)) (D : Df K mg "_law_plus" (top 45) ["one_here", "two"]) : Has P w K mg base "_law_plus" 3 ["one_here", "two"] (spPlusF K) := by
  have sc := scPlus21
  refine .of D fun f fd F => F.ok sc (fun vs H Q E h => ?_) (fun cdv A outer s H vs Q E hr h => ?_)
  · obtain ⟨x, y, r, s, rfl, _⟩ := h
    rfl
  · obtain ⟨x, y, r, s', rfl, ⟨p, rfl, hp⟩, ⟨q, rfl, hq⟩, s1, s2, k⟩ := h
    refine ⟨_, (pss_one (ps_ret (pe_has h_law_low (hr.mono (by decide)) (pa_cons (pe_op op_add (pe_op op_mulS (pe_ix (ixT (K := K)) (pv 0) pe_int (fun _ _ => rfl)) (pe_ix (ixT (K := K)) (pv 1) pe_int (fun _ _ => rfl))) (pe_op op_mulS (pe_ix (ixT (K := K)) (pv 1) pe_int (fun _ _ => rfl)) (pe_ix (ixT (K := K)) (pv 0) pe_int (fun _ _ => rfl)))) (pa_cons (pe_op op_mulS (pe_ix (ixT (K := K)) (pv 0) pe_int (fun _ _ => rfl)) (pe_ix (ixT (K := K)) (pv 1) pe_int (fun _ _ => rfl))) pa_nil))))), ?_⟩
    walk_at "rd"
    refine q_ixT hp at0 (q_ixT hq at1 ?_)
    walk_at "rd"
    refine ⟨cmul 9000 9000 (lt2_mono s1.1 (by omega)) (lt2_mono (den_lt s2) (by omega)), ?_⟩
    refine q_ixT hq at0 (q_ixT hp at1 ?_)
    walk_at "rd"
    refine ⟨cmul 9000 9000 (lt2_mono s2.1 (by omega)) (lt2_mono (den_lt s1) (by omega)), ?_⟩
    refine q_ixT hp at1 (q_ixT hq at1 ?_)
    walk_at "rd"
    refine ⟨cmul 9000 9000 (lt2_mono (den_lt s1) (by omega)) (lt2_mono (den_lt s2) (by omega)), ?_⟩
    refine ⟨_, _, rfl, Int.ne_of_gt (Int.mul_pos (den_pos _) (den_pos _)), lt2_mono (add_lt2 (wide_lt s1.1 (den_lt s2)) (wide_lt s2.1 (den_lt s1))) (by omega), lt2_mono (wide_lt (den_lt s1) (den_lt s2)) (by omega), fun y2 H2 e2 h2 => ?_⟩
    rw [add_parts] at h2
    exact k _ _ e2 h2
theorem scMul21 : FnScope ["one_here", "two"] ["one_here", "two"] (defScope (top 46)) := ⟨rfl, rfl, rfl, by decide +kernel, rfl, by decide +kernel, by decide +kernel⟩
/-- the second one as the law writes it: an integer over 1 -/
def spMulF (K : PySem.W.Frag) : Sp := fun vs H Q _ => ∃ (x y : V) (r s : Rat), vs = [x, y] ∧ IsFr K H x r ∧ IsFr K H y s ∧ sz r 1400 ∧ sz s 1400 ∧ ∀ z H', Ex H H' → IsFr K H' z (r * s) → Q z H'
theorem has_mul21 (h_law_low : Has P w K mg base "_law_low" 2 ["top", "bottom"] (spLowZ K)) (D : Df K mg "_law_mul" (top 46) ["one_here", "two"]) : Has P w K mg base "_law_mul" 3 ["one_here", "two"] (spMulF K) := by
  have sc := scMul21
  refine .of D fun f fd F => F.ok sc (fun vs H Q E h => ?_) (fun cdv A outer s H vs Q E hr h => ?_)
  · obtain ⟨x, y, r, s, rfl, _⟩ := h
    rfl
  · obtain ⟨x, y, r, s', rfl, ⟨p, rfl, hp⟩, ⟨q, rfl, hq⟩, s1, s2, k⟩ := h
    refine ⟨_, (pss_one (ps_ret (pe_has h_law_low (hr.mono (by decide)) (pa_cons (pe_op op_mulS (pe_ix (ixT (K := K)) (pv 0) pe_int (fun _ _ => rfl)) (pe_ix (ixT (K := K)) (pv 1) pe_int (fun _ _ => rfl))) (pa_cons (pe_op op_mulS (pe_ix (ixT (K := K)) (pv 0) pe_int (fun _ _ => rfl)) (pe_ix (ixT (K := K)) (pv 1) pe_int (fun _ _ => rfl))) pa_nil))))), ?_⟩
    walk_at "rd"
    refine q_ixT hp at0 (q_ixT hq at0 ?_)
    walk_at "rd"
    refine ⟨cmul 9000 9000 (lt2_mono s1.1 (by omega)) (lt2_mono s2.1 (by omega)), ?_⟩
    refine q_ixT hp at1 (q_ixT hq at1 ?_)
    walk_at "rd"
    refine ⟨cmul 9000 9000 (lt2_mono (den_lt s1) (by omega)) (lt2_mono (den_lt s2) (by omega)), ?_⟩
    refine ⟨_, _, rfl, Int.ne_of_gt (Int.mul_pos (den_pos _) (den_pos _)), lt2_mono (wide_lt s1.1 s2.1) (by omega), lt2_mono (wide_lt (den_lt s1) (den_lt s2)) (by omega), fun y2 H2 e2 h2 => ?_⟩
    rw [mul_parts] at h2
    exact k _ _ e2 h2
end

section
variable {P : Program} {w : World} {K : PySem.W.Frag} {mg : Str → Option Value} {base : Heap}
theorem scAllY : FnScope ["counts_here", "many", "n", "ways", "k"] ["counts_here", "many"] (defScope (top 48)) := ⟨rfl, rfl, rfl, by decide +kernel, rfl, by decide +kernel, by decide +kernel⟩
def ayR (cs : List Int) (j : Nat) : Rat := ((wayS cs j : Int) : Rat) / ((cs.sum * ((chs (cs.length - 1) j : Nat) : Int) : Int) : Rat)
def spAllY (K : PySem.W.Frag) : Sp := fun vs H Q _ => ∃ (p : Addr) (cs : List Int) (n j : Nat), vs = [.ref p, .int (j : Int)] ∧ SqT K H p (cs.map V.int) ∧ NumL cs (n + 1) 24000003 ∧ n < 6 ∧ j ≤ n ∧ 0 < cs.sum ∧ ∀ x H', Ex H H' → IsFr K H' x (ayR cs j) → Q x H'
theorem sum_num {b : Int} (hb : 0 ≤ b) : ∀ {n : Nat} {cs : List Int}, NumL cs n b → 0 ≤ cs.sum ∧ cs.sum ≤ (n : Int) * b
  | 0, [], _ => by simp
  | n + 1, c :: cs, h => by
    have h1 := h.2 c (by simp)
    have h2 := sum_num hb (n := n) (cs := cs) ⟨by have := h.1; simpa using this, fun x hx => h.2 x (by simp [hx])⟩
    rw [List.sum_cons]
    have e : ((n + 1 : Nat) : Int) * b = (n : Int) * b + b := by
      rw [Int.natCast_add, Int.add_mul]
      omega
    rw [e]
    omega
theorem way_num {cs : List Int} {n j : Nat} (h : NumL cs (n + 1) 24000003) (hn : n < 6) (hj : j ≤ n) : 0 ≤ wayS cs j ∧ wayS cs j ≤ 2 ^ 40 := by
  unfold wayS
  have z : NumL ((List.range cs.length).map fun k => cs.getD k 0 * ((chs k j : Nat) : Int)) (n + 1) (24000003 * 40) := by
    refine ⟨by simp [h.1], fun c hc => ?_⟩
    obtain ⟨k, hk, rfl⟩ := List.mem_map.mp hc
    have hk := List.mem_range.mp hk
    rw [h.1] at hk
    obtain ⟨c, hc, c0, c1⟩ := h.get hk
    have e : cs.getD k 0 = c := by rw [List.getD_eq_getElem?_getD, hc]; rfl
    rw [e]
    have c2 := chs_le (a := k) (b := j) (by omega) (by omega)
    refine ⟨Int.mul_nonneg c0 (by omega), ?_⟩
    exact Int.mul_le_mul c1 (by omega) (by omega) (by omega)
  have := sum_num (by decide) z
  have e : ((n + 1 : Nat) : Int) * (24000003 * 40) ≤ 6 * (24000003 * 40) := Int.mul_le_mul_of_nonneg_right (by omega) (by decide)
  omega
theorem has_ally (B : Bi mg) (h_law_choose : Has P w K mg base "_law_choose" 1 ["things", "some"] spChoose) (h_law_low : Has P w K mg base "_law_low" 2 ["top", "bottom"] (spLowZ K)) (D : Df K mg "_law_all_yes" (top 48) ["counts_here", "many"]) : Has P w K mg base "_law_all_yes" 3 ["counts_here", "many"] (spAllY K) := by
  have sc := scAllY
  refine .of D fun f fd F => F.ok sc (fun vs H Q E h => ?_) (fun cdv A outer s H vs Q E hr h => ?_)
  · obtain ⟨p, cs, n, j, rfl, _⟩ := h
    rfl
  · obtain ⟨p, cs, n, j, rfl, hp, hN, hn, hj, sp, k⟩ := h
    refine ⟨_, (pss_cons (ps_set (i := 2) sc.nd rfl (by first | exact Or.inl rfl | exact Or.inr rfl) (pe_op op_sub (pe_callB (kLen (K := K)) (by rfl) B.len (by decide +kernel) (pa_cons (pv 0) pa_nil)) pe_int))
      (pss_cons (ps_set (i := 3) sc.nd rfl (by first | exact Or.inl rfl | exact Or.inr rfl) (pe_callB (kSum (K := K) rfl) (by rfl) B.sum (by decide +kernel) (pa_cons (pe_lc (own := [("k", 4)]) (g := gName 4) (tt := tYes) rfl sc.nd (pi_range1 (by rfl) B.range (pa_cons (pe_op op_add (pv 2) pe_int) pa_nil)) (blkOk_by (N := (["counts_here", "many", "n", "ways", "k"] : List Str)) (sc := defScope (top 48)) (by decide +kernel)) (fun _ _ _ _ _ => (pg_name (i := 4) sc.nd rfl (by first | exact Or.inl rfl | exact Or.inr rfl))) (fun _ _ _ _ _ => pts_nil) (fun _ _ _ _ _ => (PE.mon (pe_op op_mulS (pe_ix (ixT (K := K)) (pv 0) (pv 4) (fun _ _ => rfl)) (pe_has h_law_choose (hr.mono (by decide)) (pa_cons (pv 4) (pa_cons (pv 1) pa_nil))))))) pa_nil)))
      (pss_one (ps_ret (pe_has h_law_low (hr.mono (by decide)) (pa_cons (pv 3) (pa_cons (pe_op op_mulS (pe_callB (kSum (K := K) rfl) (by rfl) B.sum (by decide +kernel) (pa_cons (pv 0) pa_nil)) (pe_has h_law_choose (hr.mono (by decide)) (pa_cons (pv 2) (pa_cons (pv 1) pa_nil)))) pa_nil))))))), ?_⟩
    walk_at "rd"
    refine ⟨_, .inr hp, ?_⟩
    rw [List.length_map, hN.1]
    have ncs : cs.length = n + 1 := hN.1
    have en : (((n + 1 : Nat) : Int)) - 1 = (n : Int) := by omega
    rw [en]
    refine ⟨by omega, by omega, fun Dd hD => lcR (fun k y _ => y = .int (cs.getD k 0 * ((chs k j : Nat) : Int))) (fun _ _ _ _ _ h => h) hD (by omega) (fun _ => rfl) ?_ ?_⟩
    · intro k2 G2 hk e2
      have hk : k2 < n + 1 := by omega
      obtain ⟨c, hc, c0, c1⟩ := hN.get hk
      have e : cs.getD k2 0 = c := by rw [List.getD_eq_getElem?_getD, hc]; rfl
      rw [e]
      have c2 := chs_le (a := k2) (b := j) (by omega) (by omega)
      obtain ⟨R0, hR⟩ : ∃ R : VK, R = fun y G' => G' = G2 ∧ y = .int (c * ((chs k2 j : Nat) : Int)) := ⟨_, rfl⟩
      refine ⟨R0, ?_, fun y G' h => by rw [hR] at h; obtain ⟨rfl, h⟩ := h; exact ⟨Ex.refl _, h⟩⟩
      walk_at "rd"
      refine q_ixT (sqT_kp hp e2.kp) (at_num hc) ?_
      refine ⟨k2, j, rfl, by omega, by omega, ?_⟩
      walk_at "rd"
      refine ⟨cmulR, ?_⟩
      rw [hR]
      exact ⟨rfl, rfl⟩
    · intro G2 ys e2 hy hl2 hr2
      rw [ints_of hl2 hr2] at hy
      have es : ((List.range ((n : Int) + 1).toNat).map fun k => cs.getD k 0 * ((chs k j : Nat) : Int)).sum = wayS cs j := by
        unfold wayS
        rw [show ((n : Int) + 1).toNat = n + 1 by omega, ncs]
      refine ⟨Dd, _, rfl, .inl (.of hy), ?_⟩
      rw [es]
      walk_at "rd"
      refine ⟨p, _, rfl, .inr (sqT_kp hp e2.kp), ?_⟩
      refine ⟨n, j, rfl, by omega, by omega, ?_⟩
      walk_at "rd"
      have cp := chs_pos (a := n) (b := j) (by omega) hj
      have cl := chs_le (a := n) (b := j) (by omega) (by omega)
      refine ⟨cmulR, ?_⟩
      have w1 := way_num hN hn hj
      have sb := sum_num (by decide) hN
      have sb2 : ((n + 1 : Nat) : Int) * 24000003 ≤ 6 * 24000003 := Int.mul_le_mul_of_nonneg_right (by omega) (by decide)
      have d0 : 0 < cs.sum * ((chs n j : Nat) : Int) := Int.mul_pos sp (by omega)
      have d1 : (cs.sum * ((chs n j : Nat) : Int)).natAbs < 2 ^ (40 + 40) := wide_lt (by omega) (by omega)
      refine ⟨_, _, rfl, by omega, lt2_mono (n := 41) (by omega) (by decide), lt2_mono d1 (by decide), fun x H3 e3 h3 => ?_⟩
      refine k x H3 (e2.trans e3) ?_
      unfold ayR
      rw [ncs]
      exact h3
theorem scVal : FnScope ["roots_here", "at", "found", "a"] ["roots_here", "at"] (defScope (top 50)) := ⟨rfl, rfl, rfl, by decide +kernel, rfl, by decide +kernel, by decide +kernel⟩
def spVal (K : PySem.W.Frag) : Sp := fun vs H Q _ => ∃ (p : Addr) (rs : List Int) (a : Int), vs = [.ref p, .int a] ∧ SqL K H p (rs.map V.int) ∧ rs.length ≤ 5 ∧ (∀ r ∈ rs, 0 ≤ r ∧ r < 20) ∧ 0 ≤ a ∧ a < 20 ∧ ((prodP rs a).natAbs < 2 ^ 40 → Q (.int (prodP rs a)) H)
theorem prod_small {a : Int} (a0 : 0 ≤ a) (a20 : a < 20) : ∀ (rs : List Int), (∀ r ∈ rs, 0 ≤ r ∧ r < 20) → (prodP rs a).natAbs < 2 ^ (5 * rs.length + 1)
  | [], _ => by rw [prod_nil]; decide
  | r :: rs, h => by
    have h1 := h r (by simp)
    have h2 := prod_small a0 a20 rs fun x hx => h x (by simp [hx])
    rw [prod_cons]
    refine lt2_mono (wide_lt (a := 5) (show (a - r).natAbs < 2 ^ 5 by omega) h2) (by rw [List.length_cons]; omega)
theorem has_val (B : Bi mg) (D : Df K mg "_law_value" (top 50) ["roots_here", "at"]) : Has P w K mg base "_law_value" 1 ["roots_here", "at"] (spVal K) := by
  have sc := scVal
  refine .of D fun f fd F => F.ok sc (fun vs H Q E h => ?_) (fun cdv A outer s H vs Q E hr h => ?_)
  · obtain ⟨p, rs, a, rfl, _⟩ := h
    rfl
  · obtain ⟨p, rs, a, rfl, hp, l5, hrs, a0, a20, k⟩ := h
    refine ⟨_, (pss_cons (ps_set (i := 2) sc.nd rfl (by first | exact Or.inl rfl | exact Or.inr rfl) pe_int)
      (pss_cons (ps_for PassesOwn.never rfl (pi_list (pv 0)) (pg_name (i := 3) sc.nd rfl (by first | exact Or.inl rfl | exact Or.inr rfl))
      (pss_one (ps_set (i := 2) sc.nd rfl (by first | exact Or.inl rfl | exact Or.inr rfl) (pe_op op_mulS (pv 2) (pe_op op_sub (pv 1) (pv 3))))))
      (pss_one (ps_ret (pv 2))))), ?_⟩
    walk_at "rd"
    obtain ⟨Pv, hP⟩ : ∃ P : Nat → L2.St → Hp → Prop, P = fun (j : Nat) σ' G => G = H ∧ ∃ (z : Option V), σ' = [some (.ref p), some (.int a), some (.int (prodP (rs.take j) a)), z] := ⟨_, rfl⟩
    refine ⟨⟨_, hp⟩, loopL (xs := rs.map V.int) Pv (by rw [hP]; exact ⟨rfl, _, rfl⟩) (fun j σ' G _ h => by rw [hP] at h; rw [h.1]; exact hp) ?_ ?_⟩
    · intro j x σ' G hx h
      rw [hP] at h
      obtain ⟨rfl, z, rfl⟩ := h
      obtain ⟨c, hc, rfl⟩ := map_int_get hx
      walk_at "rd"
      have c2 := hrs c (List.mem_of_getElem? hc)
      have jl : j < rs.length := (List.getElem?_eq_some_iff.mp hc).1
      refine ⟨cmulR, ?_⟩
      rw [hP]
      refine ⟨rfl, some (.int c), ?_⟩
      have e : rs.take (j + 1) = rs.take j ++ [c] := by
        rw [List.take_add_one, hc]
        rfl
      rw [e, prod_app, prod_cons, prod_nil, Int.mul_one]
    · intro σ' G h
      rw [hP] at h
      obtain ⟨rfl, z, rfl⟩ := h
      rw [List.length_map, List.take_length]
      walk_at "rd"
      have := prod_small a0 a20 rs hrs
      exact k (lt2_mono this (by omega))
end

section
/-! the product of all (M - a), told by numbers that fall -/
def sumN : Nat → (Nat → Rat) → Rat
  | 0, _ => 0
  | n + 1, f => sumN n f + f n
theorem sumN_congr {f g : Nat → Rat} : ∀ {n : Nat}, (∀ i < n, f i = g i) → sumN n f = sumN n g
  | 0, _ => rfl
  | n + 1, h => by
    show sumN n f + f n = sumN n g + g n
    rw [sumN_congr fun i hi => h i (by omega), h n (by omega)]
theorem sumN_add {f g : Nat → Rat} : ∀ {n : Nat}, sumN n (fun i => f i + g i) = sumN n f + sumN n g
  | 0 => by show (0 : Rat) = 0 + 0; grind
  | n + 1 => by
    show sumN n (fun i => f i + g i) + (f n + g n) = sumN n f + f n + (sumN n g + g n)
    rw [sumN_add]
    grind
theorem sumN_mul {c : Rat} {f : Nat → Rat} : ∀ {n : Nat}, sumN n (fun i => c * f i) = c * sumN n f
  | 0 => by show (0 : Rat) = c * 0; grind
  | n + 1 => by
    show sumN n (fun i => c * f i) + c * f n = c * (sumN n f + f n)
    rw [sumN_mul]
    grind
def nxtF (t : Nat → Int) (a : Int) : Nat → Int := fun i => (if i = 0 then 0 else t (i - 1)) + ((i : Int) - a) * t i
def tfs (rs : List Int) : Nat → Int := rs.foldl nxtF fun i => if i = 0 then 1 else 0
theorem tfs_snoc (rs : List Int) (a : Int) : tfs (rs ++ [a]) = nxtF (tfs rs) a := by
  unfold tfs
  rw [List.foldl_append]
  rfl
theorem tfs_out (rs : List Int) : ∀ i, rs.length < i → tfs rs i = 0 := by
  suffices h : ∀ (n : Nat) (rs : List Int), rs.length = n → ∀ i, n < i → tfs rs i = 0 from fun i hi => h _ rs rfl i hi
  intro n
  induction n with
  | zero =>
    intro rs hl i hi
    have : rs = [] := List.length_eq_zero_iff.mp hl
    subst this
    show (if i = 0 then (1 : Int) else 0) = 0
    rw [if_neg (by omega)]
  | succ n ih =>
    intro rs hl i hi
    rcases List.eq_nil_or_concat rs with rfl | ⟨l, a, rfl⟩
    · simp at hl
    · rw [List.concat_eq_append] at *
      rw [List.length_append] at hl
      simp only [List.length_cons, List.length_nil] at hl
      rw [tfs_snoc]
      unfold nxtF
      rw [if_neg (by omega), ih l (by omega) (i - 1) (by omega), ih l (by omega) i (by omega)]
      grind
theorem tfs_small (rs : List Int) : (∀ r ∈ rs, 0 ≤ r ∧ r < 20) → rs.length ≤ 6 → ∀ i, (tfs rs i).natAbs < 2 ^ (5 * rs.length + 1) := by
  suffices h : ∀ (n : Nat) (rs : List Int), rs.length = n → n ≤ 6 → (∀ r ∈ rs, 0 ≤ r ∧ r < 20) → ∀ i, (tfs rs i).natAbs < 2 ^ (5 * n + 1) from fun a b i => h _ rs rfl b a i
  intro n
  induction n with
  | zero =>
    intro rs hl _ _ i
    have : rs = [] := List.length_eq_zero_iff.mp hl
    subst this
    show (if i = 0 then (1 : Int) else 0).natAbs < 2 ^ (5 * 0 + 1)
    split <;> decide
  | succ n ih =>
    intro rs hl h6 hr i
    rcases List.eq_nil_or_concat rs with rfl | ⟨l, a, rfl⟩
    · simp at hl
    · rw [List.concat_eq_append] at *
      rw [List.length_append] at hl
      simp only [List.length_cons, List.length_nil] at hl
      have ha := hr a (by simp)
      have ih1 := ih l (by omega) (by omega) fun r h => hr r (by simp [h])
      by_cases hi : i ≤ n + 1
      · rw [tfs_snoc]
        unfold nxtF
        have q1 : (if i = 0 then 0 else tfs l (i - 1)).natAbs < 2 ^ (5 * n + 1) := by
          split
          · exact Nat.pow_pos (by decide)
          · exact ih1 (i - 1)
        have q2 := wide_lt (i := (i : Int) - a) (a := 5) (show ((i : Int) - a).natAbs < 2 ^ 5 by omega) (ih1 i)
        rw [show 5 * (n + 1) + 1 = (5 + (5 * n + 1)) by omega]
        have q3 : (((i : Int) - a) * tfs l i).natAbs ≤ 20 * (tfs l i).natAbs := by
          rw [Int.natAbs_mul]
          exact Nat.mul_le_mul_right _ (by omega)
        have q4 := ih1 i
        have e : 2 ^ (5 + (5 * n + 1)) = 32 * 2 ^ (5 * n + 1) := by rw [Nat.pow_add]
        rw [e]
        generalize 2 ^ (5 * n + 1) = B at *
        generalize ((i : Int) - a) * tfs l i = z at *
        omega
      · have := tfs_out (l ++ [a]) i (by rw [List.length_append]; simp only [List.length_cons, List.length_nil]; omega)
        rw [this]
        exact Nat.pow_pos (by decide)
/-- what a functional on the numbers that fall makes of the product -/
theorem tfs_step {t : Nat → Int} {n : Nat} (h : t (n + 1) = 0) (a : Int) (g : Nat → Rat) : sumN (n + 2) (fun i => ((nxtF t a i : Int) : Rat) * g i) = sumN (n + 1) fun i => ((t i : Int) : Rat) * (g (i + 1) + (((i : Int) - a : Int) : Rat) * g i) := by
  have e1 : ∀ m, sumN (m + 1) (fun i => ((((if i = 0 then 0 else t (i - 1)) : Int)) : Rat) * g i) = sumN m fun i => ((t i : Int) : Rat) * g (i + 1) := fun m => by
    induction m with
    | zero =>
      show (0 : Rat) + (((0 : Int)) : Rat) * g 0 = 0
      have : (((0 : Int)) : Rat) = 0 := rfl
      rw [this]
      grind
    | succ m ih =>
      show sumN (m + 1) (fun i => ((((if i = 0 then 0 else t (i - 1)) : Int)) : Rat) * g i) + (((if m + 1 = 0 then 0 else t (m + 1 - 1)) : Int) : Rat) * g (m + 1) = sumN m (fun i => ((t i : Int) : Rat) * g (i + 1)) + ((t m : Int) : Rat) * g (m + 1)
      rw [ih, if_neg (by omega), Nat.add_sub_cancel]
  have e2 : sumN (n + 2) (fun i => (((((i : Int) - a) * t i : Int)) : Rat) * g i) = sumN (n + 1) fun i => (((((i : Int) - a) * t i : Int)) : Rat) * g i := by
    show sumN (n + 1) (fun i => (((((i : Int) - a) * t i : Int)) : Rat) * g i) + ((((((n + 1 : Nat) : Int) - a) * t (n + 1) : Int)) : Rat) * g (n + 1) = _
    rw [h, Int.mul_zero]
    have : (((0 : Int)) : Rat) = 0 := rfl
    rw [this]
    grind
  have e3 : sumN (n + 2) (fun i => ((nxtF t a i : Int) : Rat) * g i) = sumN (n + 2) fun i => ((((if i = 0 then 0 else t (i - 1)) : Int)) : Rat) * g i + (((((i : Int) - a) * t i : Int)) : Rat) * g i := sumN_congr fun i _ => by
    unfold nxtF
    rw [Rat.intCast_add]
    grind
  rw [e3, sumN_add, e1, e2, ← sumN_add]
  refine sumN_congr fun i _ => ?_
  rw [Rat.intCast_mul]
  grind
/-- the sum with these numbers is the mean of the product -/
theorem tfs_sw (zs : Wts) (f : Int → Rat) : ∀ rs : List Int, sumN (rs.length + 1) (fun i => ((tfs rs i : Int) : Rat) * sw zs fun M => ((ff M i : Int) : Rat) * f M) = sw zs fun M => ((prodP rs M : Int) : Rat) * f M := by
  suffices h : ∀ (n : Nat) (f : Int → Rat) (rs : List Int), rs.length = n → sumN (n + 1) (fun i => ((tfs rs i : Int) : Rat) * sw zs fun M => ((ff M i : Int) : Rat) * f M) = sw zs fun M => ((prodP rs M : Int) : Rat) * f M from fun rs => h _ f rs rfl
  intro n
  induction n with
  | zero =>
    intro f rs hl
    have : rs = [] := List.length_eq_zero_iff.mp hl
    subst this
    show (0 : Rat) + (((1 : Int)) : Rat) * _ = _
    have : (((1 : Int)) : Rat) = 1 := rfl
    rw [this]
    have e : sw zs (fun M => ((ff M 0 : Int) : Rat) * f M) = sw zs fun M => ((prodP [] M : Int) : Rat) * f M := rfl
    rw [e]
    grind
  | succ n ih =>
    intro f rs hl
    rcases List.eq_nil_or_concat rs with rfl | ⟨l, a, rfl⟩
    · simp at hl
    · rw [List.concat_eq_append] at *
      rw [List.length_append] at hl
      simp only [List.length_cons, List.length_nil] at hl
      rw [tfs_snoc, tfs_step (tfs_out l _ (by omega)) a fun i => sw zs fun M => ((ff M i : Int) : Rat) * f M]
      have := ih (fun M => (((M - a : Int)) : Rat) * f M) l (by omega)
      have e1 : sw zs (fun M => ((prodP (l ++ [a]) M : Int) : Rat) * f M) = sw zs fun M => ((prodP l M : Int) : Rat) * ((((M - a : Int)) : Rat) * f M) := sw_congr fun z _ => by
        rw [prod_app, prod_cons, prod_nil, Int.mul_one, Rat.intCast_mul]
        grind
      rw [e1, ← this]
      refine sumN_congr fun i _ => ?_
      congr 1
      rw [← sw_mul, ← sw_add]
      refine sw_congr fun z _ => ?_
      have := ff_step z.1 a i
      have e2 : ((ff z.1 i : Int) : Rat) * ((((z.1 - a : Int)) : Rat) * f z.1) = (((ff z.1 i : Int) : Rat) * (((z.1 - a : Int)) : Rat)) * f z.1 := by grind
      rw [e2, this]
      grind
end

section
variable {P : Program} {w : World} {K : PySem.W.Frag} {mg : Str → Option Value} {base : Heap}
theorem scMean21 : FnScope ["counts_here", "slips_here", "roots_here", "told", "a", "later", "j", "found", "falls"] ["counts_here", "slips_here", "roots_here"] (defScope (top 49)) := ⟨rfl, rfl, rfl, by decide +kernel, rfl, by decide +kernel, by decide +kernel⟩
/-- the mean of the product by the all-yes chances -/
def meanR (cs : List Int) (N : Nat) (rs : List Int) : Rat := sumN (rs.length + 1) fun i => ayR cs i * ((tfs rs i * ff N i : Int) : Rat)
theorem set_map {m : Nat} {f : Nat → Int} {k : Nat} {v : Int} (g : Nat → Int) (h : ∀ i < m, (if i = k then v else f i) = g i) : (((List.range m).map f).map V.int).set k (V.int v) = ((List.range m).map g).map V.int := by
  apply List.ext_getElem?
  intro i
  rw [List.getElem?_set]
  simp only [List.length_map, List.length_range]
  by_cases hi : i < m
  · have hg := h i hi
    rw [List.getElem?_map, List.getElem?_map, List.getElem?_range hi, List.getElem?_map, List.getElem?_map, List.getElem?_range hi]
    split
    · rename_i e
      subst e
      rw [if_pos rfl] at hg
      rw [if_pos hi, hg]
      rfl
    · rename_i e
      rw [if_neg (by omega)] at hg
      show some (V.int (f i)) = some (V.int (g i))
      rw [hg]
  · rw [List.getElem?_eq_none (l := ((List.range m).map g).map V.int) (by simp; omega)]
    split
    · rename_i e
      rw [if_neg (by omega)]
    · rw [List.getElem?_eq_none (by simp; omega)]
theorem at_range {m k : Nat} {f : Nat → Int} (h : k < m) : atI (((List.range m).map f).map V.int) (k : Int) = some (.int (f k)) :=
  at_of (j := k) (by simp [ixN]) (by rw [List.getElem?_map, List.getElem?_map, List.getElem?_range h]; rfl)
theorem ixN_nat {m k : Nat} (h : k < m) : ixN m (k : Int) = some k := by
  unfold ixN
  rw [if_pos (by omega), if_pos (by omega), Int.toNat_natCast]
/-- the next numbers, so far -/
def latF (t : Nat → Int) (a : Int) (j : Nat) : Nat → Int := fun i => (if 1 ≤ i ∧ i ≤ j then t (i - 1) else 0) + (if i < j then ((i : Int) - a) * t i else 0)
theorem ay_sz {cs : List Int} {n j : Nat} (hN : NumL cs (n + 1) 24000003) (hn : n < 6) (hj : j ≤ n) (sp : 0 < cs.sum) : sz (ayR cs j) 80 := by
  have cp := chs_pos (a := n) (b := j) (by omega) hj
  have cl := chs_le (a := n) (b := j) (by omega) (by omega)
  have w1 := way_num hN hn hj
  have sb := sum_num (by decide) hN
  have sb2 : ((n + 1 : Nat) : Int) * 24000003 ≤ 6 * 24000003 := Int.mul_le_mul_of_nonneg_right (by omega) (by decide)
  unfold ayR
  rw [hN.1, Nat.add_sub_cancel]
  exact sz_div (Int.mul_pos sp (by omega)) (lt2_mono (n := 41) (by omega) (by decide)) (wide_lt (a := 40) (b := 40) (by omega) (by omega))
theorem ff_small {N : Nat} (h : N < 20) : ∀ j, j ≤ 6 → (ff (N : Int) j).natAbs < 2 ^ (5 * j + 1)
  | 0, _ => by show (1 : Int).natAbs < 2 ^ (5 * 0 + 1); decide
  | j + 1, h2 => by
    show (ff (N : Int) j * ((N : Int) - (j : Int))).natAbs < _
    exact lt2_mono (wide_lt (b := 5) (ff_small h j (by omega)) (show ((N : Int) - (j : Int)).natAbs < 2 ^ 5 by omega)) (by omega)
theorem sz_int {z : Int} {n : Nat} (h : z.natAbs < 2 ^ n) (hn : 1 ≤ n) : sz ((z : Int) : Rat) n := ⟨by rw [Rat.num_intCast]; exact h, by rw [Rat.den_intCast]; exact Nat.one_lt_two_pow (by omega)⟩
def spMean21 (K : PySem.W.Frag) : Sp := fun vs H Q _ => ∃ (p q : Addr) (cs rs : List Int) (N n : Nat), vs = [.ref p, .int (N : Int), .ref q] ∧ SqT K H p (cs.map V.int) ∧ NumL cs (n + 1) 24000003 ∧ n < 6 ∧ 0 < cs.sum ∧ N < 20 ∧ H q = some (.lst (rs.map V.int)) ∧ rs.length ≤ n ∧ (∀ r ∈ rs, 0 ≤ r ∧ r < 20) ∧
  ∀ x H', Ex H H' → IsFr K H' x (meanR cs N rs) → sz (meanR cs N rs) 1000 → Q x H'
theorem has_mean21 (B : Bi mg) (h_law_plus : Has P w K mg base "_law_plus" 3 ["one_here", "two"] (spPlusF K)) (h_law_mul : Has P w K mg base "_law_mul" 3 ["one_here", "two"] (spMulF K)) (h_law_all_yes : Has P w K mg base "_law_all_yes" 3 ["counts_here", "many"] (spAllY K)) (D : Df K mg "_law_mean" (top 49) ["counts_here", "slips_here", "roots_here"]) : Has P w K mg base "_law_mean" 4 ["counts_here", "slips_here", "roots_here"] (spMean21 K) := by
  have sc := scMean21
  refine .of D fun f fd F => F.ok sc (fun vs H Q E h => ?_) (fun cdv A outer s H vs Q E hr h => ?_)
  · obtain ⟨p, q, cs, rs, N, n, rfl, _⟩ := h
    rfl
  · obtain ⟨p, q, cs, rs, N, n, rfl, hp, hN, hn, sp, hN20, hq, hl, hrs, k⟩ := h
    refine ⟨_, (pss_cons (ps_set (i := 3) sc.nd rfl (by first | exact Or.inl rfl | exact Or.inr rfl) (pe_lstN (pa_cons pe_int pa_nil)))
      (pss_cons (ps_for PassesOwn.never rfl (pi_list (pv 2)) (pg_name (i := 4) sc.nd rfl (by first | exact Or.inl rfl | exact Or.inr rfl))
      (pss_cons (ps_set (i := 5) sc.nd rfl (by first | exact Or.inl rfl | exact Or.inr rfl) (pe_op op_repN (pe_lstN (pa_cons pe_int pa_nil)) (pe_op op_add (pe_callB (kLen (K := K)) (by rfl) B.len (by decide +kernel) (pa_cons (pv 3) pa_nil)) pe_int)))
      (pss_cons (ps_for PassesOwn.never rfl (pi_range1 (by rfl) B.range (pa_cons (pe_callB (kLen (K := K)) (by rfl) B.len (by decide +kernel) (pa_cons (pv 3) pa_nil)) pa_nil)) (pg_name (i := 6) sc.nd rfl (by first | exact Or.inl rfl | exact Or.inr rfl))
      (pss_cons (ps_asg (pe_op op_add (pe_ix (ixL (K := K)) (pv 5) (pe_op op_add (pv 6) pe_int) (fun _ _ => rfl)) (pe_ix (ixL (K := K)) (pv 3) (pv 6) (fun _ _ => rfl))) (pg_sub (pv 5) (pe_op op_add (pv 6) pe_int) set_list))
      (pss_one (ps_asg (pe_op op_add (pe_ix (ixL (K := K)) (pv 5) (pv 6) (fun _ _ => rfl)) (pe_op op_mulS (pe_op op_sub (pv 6) (pv 4)) (pe_ix (ixL (K := K)) (pv 3) (pv 6) (fun _ _ => rfl)))) (pg_sub (pv 5) (pv 6) set_list)))))
      (pss_one (ps_set (i := 3) sc.nd rfl (by first | exact Or.inl rfl | exact Or.inr rfl) (pv 5))))))
      (pss_cons (ps_asg (pe_tupN (pa_cons (pe_tupN (pa_cons pe_int (pa_cons pe_int pa_nil))) (pa_cons pe_int pa_nil))) (pg_tup rfl (pgs_cons (pg_name (i := 7) sc.nd rfl (by first | exact Or.inl rfl | exact Or.inr rfl)) (pgs_cons (pg_name (i := 8) sc.nd rfl (by first | exact Or.inl rfl | exact Or.inr rfl)) pgs_nil))))
      (pss_cons (ps_for PassesOwn.never rfl (pi_range1 (by rfl) B.range (pa_cons (pe_callB (kLen (K := K)) (by rfl) B.len (by decide +kernel) (pa_cons (pv 3) pa_nil)) pa_nil)) (pg_name (i := 6) sc.nd rfl (by first | exact Or.inl rfl | exact Or.inr rfl))
      (pss_cons (ps_set (i := 7) sc.nd rfl (by first | exact Or.inl rfl | exact Or.inr rfl) (pe_has h_law_plus (hr.mono (by decide)) (pa_cons (pv 7) (pa_cons (pe_has h_law_mul (hr.mono (by decide)) (pa_cons (pe_has h_law_all_yes (hr.mono (by decide)) (pa_cons (pv 0) (pa_cons (pv 6) pa_nil))) (pa_cons (pe_tupN (pa_cons (pe_op op_mulS (pe_ix (ixL (K := K)) (pv 3) (pv 6) (fun _ _ => rfl)) (pv 8)) (pa_cons pe_int pa_nil))) pa_nil))) pa_nil))))
      (pss_one (ps_set (i := 8) sc.nd rfl (by first | exact Or.inl rfl | exact Or.inr rfl) (pe_op op_mulS (pv 8) (pe_op op_sub (pv 1) (pv 6)))))))
      (pss_one (ps_ret (pv 7))))))), ?_⟩
    walk_at "rd"
    refine ⟨by decide, fun t0 G0 n0 e0 h0 => ?_⟩
    obtain ⟨Pv, hP⟩ : ∃ P : Nat → L2.St → Hp → Prop, P = fun (j : Nat) σ' G => Ex H G ∧ ∃ (t : Addr) (z4 z5 z6 : Option V), σ' = [some (.ref p), some (.int (N : Int)), some (.ref q), some (.ref t), z4, z5, z6, none, none] ∧ G t = some (.lst (((List.range (j + 1)).map (tfs (rs.take j))).map V.int)) := ⟨_, rfl⟩
    refine ⟨⟨_, .of (e0 _ _ hq)⟩, loopL (xs := rs.map V.int) Pv (by rw [hP]; exact ⟨e0, t0, _, _, _, rfl, h0⟩) (fun j σ' G _ h => by rw [hP] at h; exact .of (h.1 _ _ hq)) ?_ ?_⟩
    · intro j x σ' G hx h
      rw [hP] at h
      obtain ⟨eG, t, z4, z5, z6, rfl, ht⟩ := h
      obtain ⟨a, ha, rfl⟩ := map_int_get hx
      have jl : j < rs.length := (List.getElem?_eq_some_iff.mp ha).1
      have a2 := hrs a (List.mem_of_getElem? ha)
      walk_at "rd"
      refine ⟨by decide, fun p0 G1 n1 e1 h1 => ?_⟩
      refine ⟨_, .inl (.of (e1 _ _ ht)), ?_⟩
      rw [List.length_map, List.length_map, List.length_range]
      refine ⟨p0, _, _, rfl, rfl, h1, by omega, by omega, sizeLine_le (by simp only [List.length_cons, List.length_nil]; omega), fun l G2 n2 e2 h2 => ?_⟩
      have z0 : (List.replicate (((j + 1 : Nat) : Int) + 1).toNat [V.int 0]).flatten = ((List.range (j + 2)).map fun _ => (0 : Int)).map V.int := by
        rw [List.flatten_replicate_singleton, show (((j + 1 : Nat) : Int) + 1).toNat = j + 2 by omega, List.map_map]
        show _ = (List.range (j + 2)).map fun _ => V.int 0
        rw [List.map_const', List.length_range]
      rw [z0] at h2
      have ht2 := e2 _ _ (e1 _ _ ht)
      refine ⟨_, .inl (.of ht2), by simp; omega, by simp; omega, ?_⟩
      rw [List.length_map, List.length_map, List.length_range]
      have tl : t ≠ l := fun z => by
        rw [z] at ht
        have := e1 _ _ ht
        rw [n2] at this
        cases this
      obtain ⟨tf, htf⟩ : ∃ tf, tf = tfs (rs.take j) := ⟨_, rfl⟩
      rw [← htf] at ht ht2
      have tout : ∀ i, j < i → tf i = 0 := fun i hi => by
        rw [htf]
        refine tfs_out _ _ ?_
        rw [List.length_take]
        omega
      obtain ⟨Pw, hPw⟩ : ∃ P : Nat → L2.St → Hp → Prop, P = fun (i : Nat) σ' G' => Ex G1 G' ∧ ∃ z6, σ' = [some (.ref p), some (.int (N : Int)), some (.ref q), some (.ref t), some (.int a), some (.ref l), z6, none, none] ∧ G' l = some (.lst (((List.range (j + 2)).map (latF tf a i)).map V.int)) := ⟨_, rfl⟩
      refine loopR Pw (by
        rw [hPw]
        refine ⟨e2, _, rfl, ?_⟩
        rw [h2]
        congr 4
        funext i
        unfold latF
        rw [if_neg (by omega), if_neg (by omega)]
        rfl) ?_ ?_
      · intro i σ2 G3 hi h3
        rw [hPw] at h3
        obtain ⟨e3, z6', rfl, hl3⟩ := h3
        have hi : i < j + 1 := by omega
        have ht3 := e3 _ _ (e1 _ _ ht)
        walk_at "rd"
        have c1 : (i : Int) + 1 = ((i + 1 : Nat) : Int) := by omega
        rw [c1]
        refine q_ixL (.of hl3) (at_range (by omega)) ?_
        refine q_ixL (.of ht3) (at_range (by omega)) ?_
        walk_at "rd"
        refine ⟨l, _, _, i + 1, rfl, rfl, hl3, by rw [List.length_map, List.length_map, List.length_range]; exact ixN_nat (by omega), ?_⟩
        rw [set_map (fun k => if k = i + 1 then latF tf a i (i + 1) + tf i else latF tf a i k) (fun k hk => rfl)]
        have hl4 : ∀ o, upd G3 l o l = some o := fun o => upd_same
        have ht4 : ∀ o, upd G3 l o t = some (.lst (((List.range (j + 1)).map tf).map V.int)) := fun o => by
          rw [upd_ne tl]
          exact ht3
        refine q_ixL (.of (hl4 _)) (at_range (by omega)) ?_
        walk_at "rd"
        refine q_ixL (.of (ht4 _)) (at_range (by omega)) ?_
        walk_at "rd"
        refine ⟨cmulL, ?_⟩
        refine ⟨l, _, _, i, rfl, rfl, hl4 _, by rw [List.length_map, List.length_map, List.length_range]; exact ixN_nat (by omega), ?_⟩
        rw [hPw]
        refine ⟨fun b o hb => ?_, _, rfl, ?_⟩
        · rw [upd_ne (ne_of_none hb n2), upd_ne (ne_of_none hb n2)]
          exact e3 _ _ hb
        · rw [upd_same]
          congr 2
          refine set_map _ fun k hk => ?_
          unfold latF
          by_cases q1 : k = i
          · subst q1
            generalize ((k : Int) - a) * tf k = Z
            (repeat' split) <;> omega
          · by_cases q3 : k = i + 1
            · subst q3
              rw [Nat.add_sub_cancel]
              generalize (((i + 1 : Nat) : Int) - a) * tf (i + 1) = Z
              (repeat' split) <;> omega
            · generalize ((k : Int) - a) * tf k = Z
              (repeat' split) <;> omega
      · intro σ2 G3 h3
        rw [hPw] at h3
        obtain ⟨e3, z6', rfl, hl3⟩ := h3
        walk_at "rd"
        rw [hP]
        refine ⟨(eG.trans e1).trans e3, l, _, _, _, rfl, ?_⟩
        rw [hl3]
        have et : rs.take (j + 1) = rs.take j ++ [a] := by
          rw [List.take_add_one, ha]
          rfl
        congr 3
        refine List.map_congr_left fun i hi => ?_
        have hi := List.mem_range.mp hi
        rw [et, tfs_snoc, ← htf]
        unfold latF nxtF
        congr 1
        · by_cases q : i = 0
          · rw [if_pos q, if_neg (by omega)]
          · rw [if_neg q, if_pos ⟨by omega, by omega⟩]
        · by_cases q : i < j + 1
          · rw [if_pos (by omega)]
          · rw [if_neg (by omega), tout i (by omega), Int.mul_zero]
    · intro σ' G h
      rw [hP] at h
      obtain ⟨eG, t, z4, z5, z6, rfl, ht⟩ := h
      rw [List.length_map, List.take_length] at ht
      walk_at "rd"
      refine ⟨by decide, fun T1 G1 n1 e1 h1 => ⟨by decide, fun T2 G2 n2 e2 h2 => ⟨T2, rfl, _, .of h2, rfl, ?_⟩⟩⟩
      walk_at "rd"
      have ht2 := e2 _ _ (e1 _ _ ht)
      refine ⟨_, .inl (.of ht2), by simp; omega, by simp; omega, ?_⟩
      rw [List.length_map, List.length_map, List.length_range]
      obtain ⟨tf, htf⟩ : ∃ tf, tf = tfs rs := ⟨_, rfl⟩
      have tsm : ∀ i, (tf i).natAbs < 2 ^ 26 := fun i => by
        rw [htf]
        exact lt2_mono (tfs_small rs hrs (by omega) i) (by omega)
      obtain ⟨tq, htq⟩ : ∃ tq : Nat → Rat, tq = fun i => ayR cs i * ((tf i * ff N i : Int) : Rat) := ⟨_, rfl⟩
      have fsz : ∀ i, i ≤ n → (tf i * ff (N : Int) i).natAbs < 2 ^ 52 := fun i hi => lt2_mono (wide_lt (tsm i) (lt2_mono (ff_small hN20 i (by omega)) (show 5 * i + 1 ≤ 26 by omega))) (by decide)
      have tsz : ∀ i, i ≤ n → sz (tq i) 132 := fun i hi => by
        rw [htq]
        exact sz_mul (ay_sz hN hn hi sp) (sz_int (fsz i hi) (by decide))
      have ssz : ∀ m, m ≤ n + 1 → sz (sumN m tq) (m * 133 + 1) := fun m => by
        induction m with
        | zero => intro _; exact (show sz (0 : Rat) (0 * 133 + 1) from ⟨by decide, by decide⟩)
        | succ m ih =>
          intro h
          exact sz_mono (sz_add (ih (by omega)) (tsz m (by omega))) (by omega)
      rw [← htf] at ht ht2
      obtain ⟨Pw, hPw⟩ : ∃ P : Nat → L2.St → Hp → Prop, P = fun (i : Nat) σ' G' => Ex G2 G' ∧ ∃ (z4 z5 z6 : Option V) (y : V), σ' = [some (.ref p), some (.int (N : Int)), some (.ref q), some (.ref t), z4, z5, z6, some y, some (.int (ff (N : Int) i))] ∧ IsFr K G' y (sumN i tq) := ⟨_, rfl⟩
      refine loopR Pw (by
        rw [hPw]
        exact ⟨Ex.refl _, _, _, _, _, rfl, T1, rfl, .of (e2 _ _ h1)⟩) ?_ ?_
      · intro i σ2 G3 hi h3
        rw [hPw] at h3
        obtain ⟨e3, z4', z5', z6', y, rfl, hy⟩ := h3
        have hi : i < rs.length + 1 := by omega
        walk_at "rd"
        have hp3 := sqT_kp hp (((eG.trans e1).trans e2).trans e3).kp
        refine ⟨p, cs, n, i, rfl, hp3, hN, hn, by omega, sp, fun x G4 e4 hx => ?_⟩
        walk_at "rd"
        refine q_ixL (.of (e4 _ _ (e3 _ _ ht2))) (at_range hi) ?_
        have ffs := ff_small hN20 i (by omega)
        have ff26 : (ff (N : Int) i).natAbs < 2 ^ 26 := lt2_mono ffs (by omega)
        walk_at "rd"
        refine ⟨cmul 26 26 (tsm i) ff26, by decide, fun T5 G5 n5 e5 h5 => ?_⟩
        have f5 : fr ((tf i * ff (N : Int) i : Int) : Rat) = [.int (tf i * ff (N : Int) i), .int 1] := by
          unfold fr
          rw [Rat.num_intCast, Rat.den_intCast]
          rfl
        rw [← f5] at h5
        refine ⟨x, _, _, _, rfl, hx.kp e5.kp, ⟨T5, rfl, .of h5⟩, sz_mono (ay_sz hN hn (show i ≤ n by omega) sp) (by decide), sz_mono (sz_int (fsz i (by omega)) (by decide)) (by decide), fun z G6 e6 hz => ?_⟩
        have e36 := (e4.trans e5).trans e6
        have tqi : tq i = ayR cs i * ((tf i * ff N i : Int) : Rat) := by rw [htq]
        rw [← tqi] at hz
        refine ⟨y, z, _, _, rfl, hy.kp e36.kp, hz, sz_mono (ssz i (by omega)) (by omega), sz_mono (tsz i (by omega)) (by decide), fun u G7 e7 hu => ?_⟩
        walk_at "rd"
        refine ⟨cmul 26 6 ff26 (show ((N : Int) - (i : Int)).natAbs < 2 ^ 6 by omega), ?_⟩
        rw [hPw]
        exact ⟨e3.trans (e36.trans e7), _, _, _, _, rfl, hu⟩
      · intro σ2 G3 h3
        rw [hPw] at h3
        obtain ⟨e3, z4', z5', z6', y, rfl, hy⟩ := h3
        walk_at "rd"
        have es : sumN (rs.length + 1) tq = meanR cs N rs := by rw [htq, htf]; rfl
        have s1 := ssz (rs.length + 1) (by omega)
        rw [show ((rs.length + 1 : Nat) : Int).toNat = rs.length + 1 by omega] at hy
        rw [es] at hy s1
        exact k y G3 (((eG.trans e1).trans e2).trans e3) hy (sz_mono s1 (by omega))
end

section
variable {P : Program} {w : World} {K : PySem.W.Frag} {mg : Str → Option Value} {base : Heap}
/-! ### _law_lots -/
/-- the rows of a list that is being made, none of them the list itself -/
def RowsD (H : Hp) (Dd : Addr) (acc : List V) (M : List (List Int)) : Prop := acc.length = M.length ∧ ∀ (i : Nat) (cs : List Int), M[i]? = some cs → ∃ a, acc[i]? = some (.ref a) ∧ H a = some (.lst (cs.map V.int)) ∧ a ≠ Dd
theorem RowsD.tab {H : Hp} {Dd : Addr} {acc : List V} {M : List (List Int)} (h : RowsD H Dd acc M) {p : Addr} (hp : H p = some (.lst acc)) : IsTab H p M :=
  ⟨acc, hp, h.1, fun i cs hi => by obtain ⟨a, h1, h2, _⟩ := h.2 i cs hi; exact ⟨a, h1, h2⟩⟩
theorem RowsD.ex {H H' : Hp} {Dd : Addr} {acc : List V} {M : List (List Int)} (h : RowsD H Dd acc M) (e : Ex H H') : RowsD H' Dd acc M :=
  ⟨h.1, fun i cs hi => by obtain ⟨a, h1, h2, h3⟩ := h.2 i cs hi; exact ⟨a, h1, e _ _ h2, h3⟩⟩
theorem RowsD.upd {H : Hp} {Dd : Addr} {acc : List V} {M : List (List Int)} (h : RowsD H Dd acc M) (o : HO) : RowsD (L2.upd H Dd o) Dd acc M :=
  ⟨h.1, fun i cs hi => by obtain ⟨a, h1, h2, h3⟩ := h.2 i cs hi; exact ⟨a, h1, by rw [upd_ne h3]; exact h2, h3⟩⟩
theorem RowsD.snoc {H : Hp} {Dd : Addr} {acc : List V} {M : List (List Int)} {a : Addr} {cs : List Int} (h : RowsD H Dd acc M) (ha : H a = some (.lst (cs.map V.int))) (n : a ≠ Dd) : RowsD H Dd (acc ++ [.ref a]) (M ++ [cs]) := by
  refine ⟨by simp [h.1], fun i ds hi => ?_⟩
  by_cases hl : i < M.length
  · rw [List.getElem?_append_left hl] at hi
    obtain ⟨b, h1, h2, h3⟩ := h.2 i ds hi
    exact ⟨b, by rw [List.getElem?_append_left (by rw [h.1]; exact hl)]; exact h1, h2, h3⟩
  · rw [List.getElem?_append_right (by omega)] at hi
    have e : i - M.length = 0 := by
      have := (List.getElem?_eq_some_iff.mp hi).1
      simp at this
      omega
    rw [e] at hi
    cases hi
    exact ⟨a, by rw [List.getElem?_append_right (by rw [h.1]; omega), h.1, e]; rfl, ha, n⟩
/-- of each row that a test keeps, a row is made -/
theorem lcTabM {tt : TT} {te : TE} {vs : List Nat} {σ : L2.St} {H1 : Hp} {Dd p : Addr} {Q : VK} {j : Nat} (T : List Int → Bool) (f : List Int → List Int) {M : List (List Int)} (hD : H1 Dd = none) (hT : IsTab H1 p M) (hz : M.length ≤ 100000)
    (hw : ∀ x, wipe ((wipe σ vs).set j (some x)) vs = wipe σ vs)
    (hs : ∀ (cs : List Int) (a : Addr) (H : Hp) (S : Bool → Hp → Prop), cs ∈ M → H a = some (.lst (cs.map V.int)) → (∀ H3, Ex H H3 → S (T cs) H3) → tt ((wipe σ vs).set j (some (.ref a))) H S)
    (hv : ∀ (cs : List Int) (a : Addr) (H : Hp) (S : VK), cs ∈ M → Ex H1 H → H a = some (.lst (cs.map V.int)) → a ≠ Dd → H Dd ≠ none → (∀ b H', Ex H H' → b ≠ Dd → H' b = some (.lst ((f cs).map V.int)) → S (.ref b) H') → te ((wipe σ vs).set j (some (.ref a))) H S)
    (hd : ∀ H acc, Ex H1 H → H Dd = some (.lst acc) → RowsD H Dd acc ((M.filter T).map f) → Q (.ref Dd) H) : LcW (Itl K p) (gName j) tt (tmE te) vs σ H1 Dd Q := by
  obtain ⟨xs, hp, hl, hx⟩ := hT
  refine lc_list (xs := xs) (fun i H => Ex H1 H ∧ ∃ acc, H Dd = some (.lst acc) ∧ RowsD H Dd acc (((M.take i).filter T).map f)) ⟨Ex.new hD, [], upd_same, rfl, fun i cs h => by simp at h⟩ (fun i H _ h => .of (h.1 _ _ hp)) (fun i x H hi h => ?_) (fun H h => ?_)
  · obtain ⟨e, acc, hA, hR⟩ := h
    have hi2 := (List.getElem?_eq_some_iff.mp hi).1
    obtain ⟨cs, hcs⟩ : ∃ cs, M[i]? = some cs := ⟨_, List.getElem?_eq_getElem (by omega)⟩
    obtain ⟨a, ha, haL⟩ := hx i cs hcs
    rw [ha] at hi
    cases hi
    have inM := List.mem_of_getElem? hcs
    have etk : M.take (i + 1) = M.take i ++ [cs] := by rw [List.take_add_one, hcs]; rfl
    have aD : a ≠ Dd := fun z => by rw [z, hD] at haL; cases haL
    have lacc : acc.length ≤ 100000 := by
      rw [hR.1, List.length_map]
      refine Nat.le_trans (List.length_filter_le _ _) ?_
      rw [List.length_take]
      omega
    refine ⟨hw _, hs cs a H _ inM (e _ _ haL) fun H3 e3 => ?_⟩
    have e13 := e.trans e3
    rw [etk, List.filter_append, List.map_append]
    cases hT2 : T cs with
    | true =>
      rw [if_pos rfl]
      have f1 : [cs].filter T = [cs] := by simp [hT2]
      rw [f1]
      refine ⟨fun y H' => Ex H3 H' ∧ ∃ b, y = .ref b ∧ b ≠ Dd ∧ H' b = some (.lst ((f cs).map V.int)), hv cs a H3 _ inM e13 (e3 _ _ (e _ _ haL)) aD (by rw [e3 _ _ hA]; simp) fun b H' e' nb hb => ⟨e', b, rfl, nb, hb⟩, ?_⟩
      rintro y H' ⟨e4, b, rfl, nb, hb⟩
      have hA4 := e4 _ _ (e3 _ _ hA)
      refine ⟨acc, hA4, Nat.lt_of_lt_of_le (show acc.length < 1000000 by omega) (by decide), fun c o hc => ?_, _, upd_same, ?_⟩
      · rw [upd_ne (ne_of_none hc hD)]
        exact e4 _ _ (e13 _ _ hc)
      · exact ((hR.ex (e3.trans e4)).snoc hb nb).upd _
    | false =>
      rw [if_neg (by decide)]
      have f1 : [cs].filter T = [] := by simp [hT2]
      rw [f1, List.map_nil, List.append_nil]
      exact ⟨e13, acc, e3 _ _ hA, hR.ex e3⟩
  · obtain ⟨e, acc, hA, hR⟩ := h
    rw [hl, List.take_length] at hR
    exact hd H acc e hA hR
def lotStep (many : Nat) (L : List (List Int)) (x : Int) : List (List Int) := L ++ (L.filter fun l => decide (l.length < many)).map (· ++ [x])
def lotsAll (many : Nat) (some : List Int) : List (List Int) := some.foldl (lotStep many) [[]]
def lotsOf (many : Nat) (some : List Int) : List (List Int) := (lotsAll many some).filter fun l => decide (l.length = many)
theorem lots_snoc (many : Nat) (s : List Int) (x : Int) : lotsAll many (s ++ [x]) = lotStep many (lotsAll many s) x := by
  unfold lotsAll
  rw [List.foldl_append]
  rfl
theorem lots_len (many : Nat) (s : List Int) : (lotsAll many s).length ≤ 2 ^ s.length := by
  suffices h : ∀ (n : Nat) (s : List Int), s.length = n → (lotsAll many s).length ≤ 2 ^ n from h _ s rfl
  intro n
  induction n with
  | zero =>
    intro s hl
    have : s = [] := List.length_eq_zero_iff.mp hl
    subst this
    show ([[]] : List (List Int)).length ≤ 1
    decide
  | succ n ih =>
    intro s hl
    rcases List.eq_nil_or_concat s with rfl | ⟨l, a, rfl⟩
    · simp at hl
    · rw [List.concat_eq_append] at *
      rw [List.length_append] at hl
      simp only [List.length_cons, List.length_nil] at hl
      rw [lots_snoc]
      unfold lotStep
      rw [List.length_append, List.length_map]
      have h1 := ih l (by omega)
      have h2 := List.length_filter_le (fun l : List Int => decide (l.length < many)) (lotsAll many l)
      rw [Nat.pow_succ]
      omega
theorem lots_mem (many : Nat) (s : List Int) : ∀ l : List Int, l ∈ lotsAll many s ↔ l.Sublist s ∧ l.length ≤ many := by
  suffices h : ∀ (n : Nat) (s : List Int), s.length = n → ∀ l : List Int, l ∈ lotsAll many s ↔ l.Sublist s ∧ l.length ≤ many from h _ s rfl
  intro n
  induction n with
  | zero =>
    intro s hl l
    have : s = [] := List.length_eq_zero_iff.mp hl
    subst this
    show l ∈ [[]] ↔ _
    rw [List.mem_singleton, List.sublist_nil]
    constructor
    · rintro rfl
      exact ⟨rfl, Nat.zero_le _⟩
    · exact fun h => h.1
  | succ n ih =>
    intro s hl l
    rcases List.eq_nil_or_concat s with rfl | ⟨s, x, rfl⟩
    · simp at hl
    · rw [List.concat_eq_append] at *
      rw [List.length_append] at hl
      simp only [List.length_cons, List.length_nil] at hl
      have ih := ih s (by omega)
      rw [lots_snoc]
      unfold lotStep
      rw [List.mem_append, List.mem_map]
      constructor
      · rintro (h | ⟨k, hk, rfl⟩)
        · have := (ih l).mp h
          exact ⟨this.1.trans (List.sublist_append_left s [x]), this.2⟩
        · obtain ⟨h1, h2⟩ := List.mem_filter.mp hk
          have h3 := (ih k).mp h1
          have h2 := of_decide_eq_true h2
          exact ⟨h3.1.append (List.Sublist.refl _), by rw [List.length_append]; simp only [List.length_cons, List.length_nil]; omega⟩
      · rintro ⟨h1, h2⟩
        obtain ⟨a, b, rfl, ha, hb⟩ := List.sublist_append_iff.mp h1
        rw [List.length_append] at h2
        have hb2 : b = [] ∨ b = [x] := by
          match b, hb with
          | [], _ => exact .inl rfl
          | [y], hb => exact .inr (by rw [List.mem_singleton.mp (hb.subset (List.mem_singleton.mpr rfl))])
          | y :: z :: b, hb => exact absurd hb.length_le (by simp)
        rcases hb2 with rfl | rfl
        · rw [List.append_nil]
          exact .inl ((ih a).mpr ⟨ha, by simpa using h2⟩)
        · simp only [List.length_cons, List.length_nil] at h2
          exact .inr ⟨a, List.mem_filter.mpr ⟨(ih a).mpr ⟨ha, by omega⟩, decide_eq_true (by omega)⟩, rfl⟩
theorem scLots : FnScope ["many", "some", "found", "number", "lot"] ["many", "some"] (defScope (top 51)) := ⟨rfl, rfl, rfl, by decide +kernel, rfl, by decide +kernel, by decide +kernel⟩
def spLots (K : PySem.W.Frag) : Sp := fun vs H Q _ => ∃ (many : Nat) (q : Addr) (s : List Int), vs = [.int (many : Int), .ref q] ∧ H q = some (.lst (s.map V.int)) ∧ s.length ≤ 14 ∧ many ≤ 10 ∧ ∀ p H', H p = none → Ex H H' → IsTab H' p (lotsOf many s) → Q (.ref p) H'
theorem has_lots (B : Bi mg) (D : Df K mg "_law_lots" (top 51) ["many", "some"]) : Has P w K mg base "_law_lots" 1 ["many", "some"] (spLots K) := by
  have sc := scLots
  refine .of D fun f fd F => F.ok sc (fun vs H Q E h => ?_) (fun cdv A outer s H vs Q E hr h => ?_)
  · obtain ⟨many, q, s, rfl, _⟩ := h
    rfl
  · obtain ⟨many, q, s', rfl, hq, ls, lm, k⟩ := h
    refine ⟨_, (pss_cons (ps_set (i := 2) sc.nd rfl (by first | exact Or.inl rfl | exact Or.inr rfl) (pe_lstN (pa_cons (pe_lstN pa_nil) pa_nil)))
      (pss_cons (ps_for PassesOwn.never rfl (pi_list (pv 1)) (pg_name (i := 3) sc.nd rfl (by first | exact Or.inl rfl | exact Or.inr rfl))
      (pss_one (ps_set (i := 2) sc.nd rfl (by first | exact Or.inl rfl | exact Or.inr rfl) (pe_op op_catN (pv 2) (pe_lc (own := [("lot", 4)]) (g := gName 4)  rfl sc.nd (pi_list (pv 2)) (blkOk_by (N := (["many", "some", "found", "number", "lot"] : List Str)) (sc := defScope (top 51)) (by decide +kernel)) (fun _ _ _ _ _ => (pg_name (i := 4) sc.nd rfl (by first | exact Or.inl rfl | exact Or.inr rfl))) (fun _ _ _ _ _ => pts_one (pt_cmpR op_lt (pe_callB (kLen (K := K)) (by rfl) B.len (by decide +kernel) (pa_cons (pv 4) pa_nil)) (pv 0) (nomark _))) (fun _ _ _ _ _ => (PE.mon (pe_op op_catN (pv 4) (pe_lstN (pa_cons (pv 3) pa_nil))))))))))
      (pss_one (ps_ret (pe_lc (own := [("lot", 4)]) (g := gName 4)  rfl sc.nd (pi_list (pv 2)) (blkOk_by (N := (["many", "some", "found", "number", "lot"] : List Str)) (sc := defScope (top 51)) (by decide +kernel)) (fun _ _ _ _ _ => (pg_name (i := 4) sc.nd rfl (by first | exact Or.inl rfl | exact Or.inr rfl))) (fun _ _ _ _ _ => pts_one (pt_cmpR op_eq (pe_callB (kLen (K := K)) (by rfl) B.len (by decide +kernel) (pa_cons (pv 4) pa_nil)) (pv 0) (nomark _))) (fun _ _ _ _ _ => (PE.mon (pv 4)))))))), ?_⟩
    walk_at "rd"
    refine ⟨by decide, fun z0 G0 n0 e0 h0 => ⟨by decide, fun p0 G1 n1 e1 h1 => ?_⟩⟩
    obtain ⟨Pv, hP⟩ : ∃ P : Nat → L2.St → Hp → Prop, P = fun (j : Nat) σ' G => Ex H G ∧ ∃ (p : Addr) (z3 : Option V), σ' = [some (.int (many : Int)), some (.ref q), some (.ref p), z3, none] ∧ IsTab G p (lotsAll many (s'.take j)) := ⟨_, rfl⟩
    have bound : ∀ j, (lotsAll many (s'.take j)).length ≤ 20000 := fun j => by
      refine Nat.le_trans (lots_len many _) (Nat.le_trans (Nat.pow_le_pow_right (by decide) (show (s'.take j).length ≤ 14 by rw [List.length_take]; omega)) (by decide))
    refine ⟨⟨_, .of (e1 _ _ (e0 _ _ hq))⟩, loopL (xs := s'.map V.int) Pv (by
      rw [hP]
      refine ⟨e0.trans e1, p0, _, rfl, [.ref z0], h1, rfl, fun i cs hi => ?_⟩
      have : i = 0 := by
        have := (List.getElem?_eq_some_iff.mp hi).1
        have l1 : (lotsAll many (s'.take 0)).length = 1 := rfl
        omega
      subst this
      cases hi
      exact ⟨z0, rfl, e1 _ _ h0⟩) (fun j σ' G _ h => by rw [hP] at h; exact .of (h.1 _ _ hq)) ?_ ?_⟩
    · intro j x σ' G hx h
      rw [hP] at h
      obtain ⟨eG, p, z3, rfl, ht⟩ := h
      obtain ⟨c, hc, rfl⟩ := map_int_get hx
      have bj := bound j
      have et : s'.take (j + 1) = s'.take j ++ [c] := by
        rw [List.take_add_one, hc]
        rfl
      obtain ⟨L, hL⟩ : ∃ L, L = lotsAll many (s'.take j) := ⟨_, rfl⟩
      rw [← hL] at ht bj
      have ht' := ht
      obtain ⟨xs, hp, hxl, hxr⟩ := ht'
      walk_at "rd"
      refine ⟨⟨_, .of hp⟩, fun Dd hD => lcTabM (fun l => decide (l.length < many)) (· ++ [c]) hD ht (by omega) (fun _ => rfl) ?_ ?_ ?_⟩
      · intro cs a G2 S _ ha go
        walk_at "rd"
        refine ⟨_, .inl (.of ha), ?_⟩
        rw [List.length_map]
        have := go G2 (Ex.refl _)
        simpa using this
      · intro cs a G2 S hm e2 ha aD nD go
        walk_at "rd"
        refine ⟨by decide, fun T3 G3 n3 e3 t3 => ?_⟩
        have cl : cs.length ≤ 14 := by
          rw [hL] at hm
          have := ((lots_mem many _ cs).mp hm).2
          omega
        refine ⟨a, T3, _, _, rfl, rfl, e3 _ _ ha, t3, Nat.le_trans (show (cs.map V.int).length + 1 ≤ 15 by rw [List.length_map]; omega) (by decide), fun b G4 n4 e4 t4 => ?_⟩
        refine go b G4 (e3.trans e4) (fun z => ?_) (by rw [t4, List.map_append]; rfl)
        rw [z] at n4
        cases hq2 : G2 Dd with
        | none => exact nD hq2
        | some o =>
          rw [e3 _ _ hq2] at n4
          cases n4
      · intro G2 acc e2 hA hR
        have hp2 := e2 _ _ hp
        have al : acc.length ≤ 20000 := by
          rw [hR.1, List.length_map]
          exact Nat.le_trans (List.length_filter_le _ _) bj
        refine ⟨p, Dd, _, _, rfl, rfl, hp2, hA, Nat.le_trans (show xs.length + acc.length ≤ 40000 by omega) (by decide), fun b G3 n3 e3 t3 => ?_⟩
        walk_at "rd"
        rw [hP]
        refine ⟨(eG.trans e2).trans e3, b, _, rfl, xs ++ acc, t3, ?_, fun i cs hi => ?_⟩
        · rw [et, lots_snoc, ← hL]
          unfold lotStep
          rw [List.length_append, List.length_append, hxl, hR.1]
        · rw [et, lots_snoc, ← hL] at hi
          unfold lotStep at hi
          by_cases il : i < L.length
          · rw [List.getElem?_append_left il] at hi
            obtain ⟨a, h1, h2⟩ := hxr i cs hi
            exact ⟨a, by rw [List.getElem?_append_left (by omega)]; exact h1, e3 _ _ (e2 _ _ h2)⟩
          · rw [List.getElem?_append_right (by omega)] at hi
            obtain ⟨a, h1, h2, _⟩ := hR.2 _ cs hi
            exact ⟨a, by rw [List.getElem?_append_right (by omega), hxl]; exact h1, e3 _ _ h2⟩
    · intro σ' G h
      rw [hP] at h
      obtain ⟨eG, p, z3, rfl, ht⟩ := h
      have bj := bound (s'.map V.int).length
      walk_at "rd"
      have ht' := ht
      obtain ⟨xs, hp, hxl, hxr⟩ := ht'
      rw [List.length_map, List.take_length] at ht bj
      refine ⟨⟨_, .of hp⟩, fun Dd hD => lcTabM (fun l => decide (l.length = many)) id hD ht (by omega) (fun _ => rfl) ?_ ?_ ?_⟩
      · intro cs a G2 S _ ha go
        walk_at "rd"
        refine ⟨_, .inl (.of ha), ?_⟩
        rw [List.length_map]
        have := go G2 (Ex.refl _)
        simpa [Int.natCast_inj] using this
      · intro cs a G2 S hm e2 ha aD nD go
        walk_at "rd"
        exact go a G2 (Ex.refl _) aD ha
      · intro G2 acc e2 hA hR
        rw [List.map_id] at hR
        exact k Dd G2 (eG.free hD) (eG.trans e2) (hR.tab hA)
end

section
variable {P : Program} {w : World} {K : PySem.W.Frag} {mg : Str → Option Value} {base : Heap}
/-! ### _law_shares -/
def othF (pts : List Int) (i : Nat) : List Int := pts.take i ++ pts.drop (i + 1)
def shareR (cs : List Int) (N : Nat) (pts : List Int) (i : Nat) : Rat := (((meanR cs N (othF pts i)).num : Int) : Rat) / ((((((meanR cs N (othF pts i)).den : Nat) : Int) * prodP (othF pts i) (pts.getD i 0) : Int)) : Rat)
/-- a list of fractions -/
def IsFrL (K : PySem.W.Frag) (H : Hp) (p : Addr) (rs : List Rat) : Prop := ∃ acc, H p = some (.lst acc) ∧ acc.length = rs.length ∧ ∀ (i : Nat) (r : Rat), rs[i]? = some r → ∃ x, acc[i]? = some x ∧ IsFr K H x r
theorem oth_len {pts : List Int} {i : Nat} (h : i < pts.length) : (othF pts i).length = pts.length - 1 := by
  unfold othF
  rw [List.length_append, List.length_take, List.length_drop]
  omega
theorem oth_sub (pts : List Int) (i : Nat) : ∀ r ∈ othF pts i, r ∈ pts := fun r h => by
  unfold othF at h
  rcases List.mem_append.mp h with h | h
  · exact List.mem_of_mem_take h
  · exact List.mem_of_mem_drop h
theorem oth_split {pts : List Int} {i : Nat} {a : Int} (h : pts[i]? = some a) : pts = pts.take i ++ a :: pts.drop (i + 1) := by
  obtain ⟨hi, rfl⟩ := List.getElem?_eq_some_iff.mp h
  rw [← List.drop_eq_getElem_cons hi, List.take_append_drop]
theorem oth_not {pts : List Int} {i : Nat} {a : Int} (h : pts[i]? = some a) (nd : pts.Nodup) : a ∉ othF pts i := by
  have e := oth_split h
  rw [e] at nd
  have p := (List.nodup_append.mp nd)
  intro hm
  unfold othF at hm
  rcases List.mem_append.mp hm with hm | hm
  · exact p.2.2 _ hm _ List.mem_cons_self rfl
  · exact (List.nodup_cons.mp p.2.1).1 hm
theorem scShares21 : FnScope ["counts_here", "slips_here", "points", "found", "at", "others", "top", "bottom"] ["counts_here", "slips_here", "points"] (defScope (top 52)) := ⟨rfl, rfl, rfl, by decide +kernel, rfl, by decide +kernel, by decide +kernel⟩
def spShares21 (K : PySem.W.Frag) : Sp := fun vs H Q _ => ∃ (p q : Addr) (cs pts : List Int) (N n : Nat), vs = [.ref p, .int (N : Int), .ref q] ∧ SqT K H p (cs.map V.int) ∧ NumL cs (n + 1) 24000003 ∧ n < 6 ∧ 0 < cs.sum ∧ N < 20 ∧ H q = some (.lst (pts.map V.int)) ∧ pts.length = n + 1 ∧ pts.Nodup ∧ (∀ r ∈ pts, 0 ≤ r ∧ r < 20) ∧
  ∀ l H', H l = none → Ex H H' → IsFrL K H' l ((List.range (n + 1)).map (shareR cs N pts)) → Q (.ref l) H'
theorem has_shares21 (B : Bi mg) (h_law_mean : Has P w K mg base "_law_mean" 4 ["counts_here", "slips_here", "roots_here"] (spMean21 K)) (h_law_value : Has P w K mg base "_law_value" 1 ["roots_here", "at"] (spVal K)) (h_law_low : Has P w K mg base "_law_low" 2 ["top", "bottom"] (spLowZ K)) (D : Df K mg "_law_shares" (top 52) ["counts_here", "slips_here", "points"]) : Has P w K mg base "_law_shares" 5 ["counts_here", "slips_here", "points"] (spShares21 K) := by
  have sc := scShares21
  refine .of D fun f fd F => F.ok sc (fun vs H Q E h => ?_) (fun cdv A outer s H vs Q E hr h => ?_)
  · obtain ⟨p, q, cs, pts, N, n, rfl, _⟩ := h
    rfl
  · obtain ⟨p, q, cs, pts, N, n, rfl, hp, hN, hn, sp, hN20, hq, hl, nd, hpt, k⟩ := h
    refine ⟨_, (pss_cons (ps_set (i := 3) sc.nd rfl (by first | exact Or.inl rfl | exact Or.inr rfl) (pe_lstN pa_nil))
      (pss_cons (ps_for PassesOwn.never rfl (pi_range1 (by rfl) B.range (pa_cons (pe_callB (kLen (K := K)) (by rfl) B.len (by decide +kernel) (pa_cons (pv 2) pa_nil)) pa_nil)) (pg_name (i := 4) sc.nd rfl (by first | exact Or.inl rfl | exact Or.inr rfl))
      (pss_cons (ps_set (i := 5) sc.nd rfl (by first | exact Or.inl rfl | exact Or.inr rfl) (pe_op op_catN (pe_slice (slL (K := K)) (pv 2) po_none (po_some (pv 4))) (pe_slice (slL (K := K)) (pv 2) (po_some (pe_op op_add (pv 4) pe_int)) po_none)))
      (pss_cons (ps_asg (pe_has h_law_mean (hr.mono (by decide)) (pa_cons (pv 0) (pa_cons (pv 1) (pa_cons (pv 5) pa_nil)))) (pg_tup rfl (pgs_cons (pg_name (i := 6) sc.nd rfl (by first | exact Or.inl rfl | exact Or.inr rfl)) (pgs_cons (pg_name (i := 7) sc.nd rfl (by first | exact Or.inl rfl | exact Or.inr rfl)) pgs_nil))))
      (pss_one (ps_expr (pe_bm PySem.F.plainAttrs_list PySem.F.slot_list_append PySem.F.type_list_append mt_append (pv 3) (pa_cons (pe_has h_law_low (hr.mono (by decide)) (pa_cons (pv 6) (pa_cons (pe_op op_mulS (pv 7) (pe_has h_law_value (hr.mono (by decide)) (pa_cons (pv 5) (pa_cons (pe_ix (ixL (K := K)) (pv 2) (pv 4) (fun _ _ => rfl)) pa_nil)))) pa_nil))) pa_nil)))))))
      (pss_one (ps_ret (pv 3))))), ?_⟩
    walk_at "rd"
    refine ⟨by decide, fun p0 G0 n0 e0 h0 => ?_⟩
    refine ⟨_, .inl (.of (e0 _ _ hq)), by rw [List.length_map]; omega, by rw [List.length_map]; omega, ?_⟩
    rw [List.length_map, hl]
    obtain ⟨Pv, hP⟩ : ∃ P : Nat → L2.St → Hp → Prop, P = fun (j : Nat) σ' G => Ex H G ∧ ∃ (z4 z5 z6 z7 : Option V), σ' = [some (.ref p), some (.int (N : Int)), some (.ref q), some (.ref p0), z4, z5, z6, z7] ∧ IsFrL K G p0 ((List.range j).map (shareR cs N pts)) := ⟨_, rfl⟩
    refine loopR Pv (by rw [hP]; exact ⟨e0, _, _, _, _, rfl, [], h0, rfl, fun i r h => by simp at h⟩) ?_ ?_
    · intro i σ' G hi h
      rw [hP] at h
      obtain ⟨eG, z4, z5, z6, z7, rfl, acc, hA, hAl, hAr⟩ := h
      have hi : i < pts.length := by omega
      obtain ⟨a, ha⟩ : ∃ a, pts[i]? = some a := ⟨_, List.getElem?_eq_getElem hi⟩
      have ga : pts.getD i 0 = a := by rw [List.getD_eq_getElem?_getD, ha]; rfl
      have hq1 := eG _ _ hq
      walk_at "rd"
      refine ⟨q, _, rfl, .of hq1, fun t1 G1 n1 e1 h1 => ?_⟩
      refine ⟨q, _, rfl, .of (e1 _ _ hq1), fun t2 G2 n2 e2 h2 => ?_⟩
      rw [cut_take] at h1
      rw [show (i : Int) + 1 = ((i + 1 : Nat) : Int) by omega, cut_drop] at h2
      have ol := oth_len hi
      refine ⟨t1, t2, _, _, rfl, rfl, e2 _ _ h1, h2, Nat.le_trans (show _ ≤ 100 by rw [List.length_take, List.length_drop, List.length_map]; omega) (by decide), fun o G3 n3 e3 h3 => ?_⟩
      have ho : G3 o = some (.lst ((othF pts i).map V.int)) := by
        rw [h3]
        unfold othF
        rw [List.map_append, List.map_take, List.map_drop]
      have e03 := ((eG.trans e1).trans e2).trans e3
      have osub : ∀ r ∈ othF pts i, 0 ≤ r ∧ r < 20 := fun r h => hpt r (oth_sub pts i r h)
      walk_at "rd"
      refine ⟨p, o, cs, othF pts i, N, n, rfl, sqT_kp hp e03.kp, hN, hn, sp, hN20, ho, by omega, osub, fun x G4 e4 hx s4 => ?_⟩
      obtain ⟨xa, rfl, hxa⟩ := hx
      walk_at "rd"
      refine ⟨_, hxa, rfl, ?_⟩
      unfold fr
      walk_at "rd"
      have a2 := hpt a (List.mem_of_getElem? ha)
      have hA4 := e4 _ _ (e3 _ _ (e2 _ _ (e1 _ _ hA)))
      refine ⟨.inl ⟨rfl, _, .of hA4⟩, ?_⟩
      refine q_ixL (.of (e4 _ _ (e3 _ _ (e2 _ _ (e1 _ _ hq1))))) (at_num ha) ?_
      refine ⟨o, _, a, rfl, .of (e4 _ _ ho), by omega, osub, a2.1, a2.2, fun pv => ?_⟩
      walk_at "rd"
      refine ⟨cmul 9000 9000 (lt2_mono (den_lt s4) (by decide)) (lt2_mono pv (by decide)), ?_⟩
      have pn := prod_ne (oth_not ha nd)
      refine ⟨_, _, rfl, Int.mul_ne_zero (Int.ne_of_gt (den_pos _)) pn, lt2_mono s4.1 (by decide), lt2_mono (wide_lt (den_lt s4) pv) (by decide), fun y G5 e5 hy => ?_⟩
      have hA5 := e5 _ _ hA4
      refine ⟨p0, _, _, rfl, rfl, hA5, Nat.lt_of_lt_of_le (show acc.length < 1000000 by rw [hAl, List.length_map, List.length_range]; omega) (by decide), ?_⟩
      walk_at "rd"
      rw [hP]
      have e45 := e03.trans (e4.trans e5)
      refine ⟨fun b o' hb => ?_, _, _, _, _, rfl, _, upd_same, ?_, fun m r hm => ?_⟩
      · rw [upd_ne (ne_of_none hb n0)]
        exact e45 _ _ hb
      · rw [List.length_append, hAl]
        simp
      · have kp0 : Kp G5 (L2.upd G5 p0 (.lst (acc ++ [y]))) := fun b o' hb nl => by
          rw [upd_ne (fun z => ?_)]
          · exact hb
          · rw [z, hA5] at hb
            cases hb
            exact nl _ rfl
        rw [List.range_succ, List.map_append] at hm
        by_cases q : m < i
        · rw [List.getElem?_append_left (by simp; omega)] at hm
          obtain ⟨x, h1, h2⟩ := hAr m r hm
          exact ⟨x, by rw [List.getElem?_append_left (by rw [hAl]; simp; omega)]; exact h1, (h2.kp (((e1.trans e2).trans e3).trans (e4.trans e5)).kp).kp kp0⟩
        · rw [List.getElem?_append_right (by simp; omega), List.length_map, List.length_range] at hm
          have m0 : m - i = 0 := by
            have := (List.getElem?_eq_some_iff.mp hm).1
            simp at this
            omega
          rw [m0] at hm
          cases hm
          refine ⟨y, by rw [List.getElem?_append_right (by rw [hAl]; simp; omega), hAl, List.length_map, List.length_range, m0]; rfl, ?_⟩
          unfold shareR
          rw [ga]
          exact hy.kp kp0
    · intro σ' G h
      rw [hP] at h
      obtain ⟨eG, z4, z5, z6, z7, rfl, hA⟩ := h
      walk_at "rd"
      rw [show ((n + 1 : Nat) : Int).toNat = n + 1 by omega] at hA
      exact k p0 G n0 eG hA
end

section
variable {P : Program} {w : World} {K : PySem.W.Frag} {mg : Str → Option Value} {base : Heap}
/-! ### _law_fits -/
theorem eqv_lnil (ds : List PyData) : PyData.eqv (.list ds) (.list []) = ds.isEmpty := by
  cases ds <;> rfl
def FlatD (k : Nat) (d : PyData) : Prop := PyData.canLay0 d = true ∧ PyData.depth d ≤ k
theorem flat_int (i : Int) : FlatD 0 (.int i) := ⟨by simp [PyData.canLay0], by simp [PyData.depth]⟩
theorem flat_all {k : Nat} : ∀ {ds : List PyData}, (∀ d ∈ ds, FlatD k d) → PyData.canLayAll0 ds = true ∧ PyData.depthAll ds ≤ k
  | [], _ => ⟨by simp [PyData.canLayAll0], by simp [PyData.depthAll]⟩
  | d :: ds, h => by
    have h1 := h d (by simp)
    have h2 := flat_all (ds := ds) fun x hx => h x (List.mem_cons_of_mem _ hx)
    refine ⟨by simp [PyData.canLayAll0, h1.1, h2.1], ?_⟩
    have := h1.2
    have := h2.2
    simp [PyData.depthAll]
    omega
theorem flat_list {k : Nat} {ds : List PyData} (h : ∀ d ∈ ds, FlatD k d) : FlatD (k + 1) (.list ds) := by
  obtain ⟨h1, h2⟩ := flat_all h
  refine ⟨by simp [PyData.canLay0, h1], ?_⟩
  simp [PyData.depth]
  omega
theorem flat_tup {k : Nat} {ds : List PyData} (h : ∀ d ∈ ds, FlatD k d) : FlatD (k + 1) (.tuple ds) := by
  obtain ⟨h1, h2⟩ := flat_all h
  refine ⟨by simp [PyData.canLay0, h1], ?_⟩
  simp [PyData.depth]
  omega
theorem FlatD.mono {k m : Nat} {d : PyData} (h : FlatD k d) (e : k ≤ m) : FlatD m d := ⟨h.1, Nat.le_trans h.2 e⟩
theorem flat_shaped {k : Nat} {d : PyData} (h : FlatD k d) (e : k ≤ 64) : SeqAt.shaped d = true := by
  unfold SeqAt.shaped
  rw [h.1, Bool.true_and]
  exact decide_eq_true (Nat.le_trans h.2 e)
theorem flat_fr (r : Rat) : FlatD 1 (frD r) := flat_tup fun d hd => by
  simp only [List.mem_cons, List.not_mem_nil, or_false] at hd
  rcases hd with rfl | rfl <;> exact flat_int _
theorem dp_some {H : Hp} {k : Nat} : ∀ {acc : List V}, (∀ v ∈ acc, ∃ d, Dp K H v d ∧ FlatD k d) → ∃ ds, DpAll K H acc ds ∧ ds.length = acc.length ∧ ∀ d ∈ ds, FlatD k d
  | [], _ => ⟨[], .nil, rfl, fun _ h => by cases h⟩
  | v :: acc, h => by
    obtain ⟨d, h1, h2⟩ := h v (by simp)
    obtain ⟨ds, q1, q2, q3⟩ := dp_some (acc := acc) fun x hx => h x (List.mem_cons_of_mem _ hx)
    refine ⟨d :: ds, .cons h1 q1, by simp [q2], fun x hx => ?_⟩
    rcases List.mem_cons.mp hx with rfl | hx
    · exact h2
    · exact q3 _ hx
/-- the items of a list that a test by their places keeps: some of them, none exactly if it keeps none -/
theorem lcIfN {tt : TT} {te : TE} {vs : List Nat} {σ : L2.St} {H1 : Hp} {Dd a : Addr} {Q : VK} {j : Nat} (T : Nat → Bool) {M : List V} (hD : H1 Dd = none) (hT : SqL K H1 a M) (hz : M.length ≤ 1000)
    (hw : ∀ x, wipe ((wipe σ vs).set j (some x)) vs = wipe σ vs)
    (hs : ∀ (i : Nat) (x : V) (H : Hp) (R : Bool → Hp → Prop), M[i]? = some x → Ex H1 H → (∀ H', Ex H H' → R (T i) H') → tt ((wipe σ vs).set j (some x)) H R)
    (hv : ∀ (x : V) (H : Hp) (R : VK), R x H → te ((wipe σ vs).set j (some x)) H R)
    (hd : ∀ H acc, Ex H1 H → H Dd = some (.lst acc) → (∀ v ∈ acc, v ∈ M) → (acc = [] ↔ ∀ i < M.length, T i = false) → Q (.ref Dd) H) : LcW (Itl K a) (gName j) tt (tmE te) vs σ H1 Dd Q := by
  refine lc_list (xs := M) (fun i H => Ex H1 H ∧ ∃ acc, H Dd = some (.lst acc) ∧ acc.length ≤ i ∧ (∀ v ∈ acc, v ∈ M) ∧ (acc = [] ↔ ∀ k < i, T k = false)) ⟨Ex.new hD, [], upd_same, Nat.le_refl _, (fun _ h => by cases h), ⟨fun _ k hk => by omega, fun _ => rfl⟩⟩ (fun i H _ h => sqL_ex hT h.1) (fun i x H hi h => ?_) fun H h => ?_
  · obtain ⟨e, acc, hA, lA, hM, hE⟩ := h
    have hi2 := (List.getElem?_eq_some_iff.mp hi).1
    refine ⟨hw x, hs i x H _ hi e fun H' e' => ?_⟩
    have hA' := e' _ _ hA
    cases q : T i with
    | false =>
      rw [if_neg (by decide)]
      refine ⟨e.trans e', acc, hA', by omega, hM, hE.trans ⟨fun h k hk => ?_, fun h k hk => h k (by omega)⟩⟩
      by_cases ki : k = i
      · rw [ki]
        exact q
      · exact h k (by omega)
    | true =>
      rw [if_pos rfl]
      refine ⟨fun y G => y = x ∧ G = H', hv _ _ _ ⟨rfl, rfl⟩, ?_⟩
      rintro y G ⟨rfl, rfl⟩
      refine ⟨_, hA', Nat.lt_of_lt_of_le (show acc.length < 1000000 by omega) (by decide), fun b o hb => ?_, _, upd_same, by rw [List.length_append]; simp only [List.length_cons, List.length_nil]; omega, fun v hv2 => ?_, ?_⟩
      · rw [upd_ne (ne_of_none hb hD)]
        exact (e.trans e') b o hb
      · rcases List.mem_append.mp hv2 with h | h
        · exact hM v h
        · rw [List.mem_singleton.mp h]
          exact List.mem_of_getElem? hi
      · constructor
        · intro h
          simp at h
        · intro h
          have := h i (by omega)
          rw [q] at this
          cases this
  · obtain ⟨e, acc, hA, lA, hM, hE⟩ := h
    exact hd H acc e hA hM hE
/-- the heap without one object -/
def dropH (G : Hp) (p : Addr) : Hp := fun a => if a = p then none else G a
theorem drop_ne {G : Hp} {p a : Addr} (h : a ≠ p) : dropH G p a = G a := if_neg h
theorem drop_ex {G G' : Hp} {p : Addr} (h : ∀ a, a ≠ p → ∀ o, G a = some o → G' a = some o) : Ex (dropH G p) (dropH G' p) := fun a o e => by
  by_cases q : a = p
  · rw [q] at e
    unfold dropH at e
    rw [if_pos rfl] at e
    cases e
  · rw [drop_ne q] at e ⊢
    exact h a q o e
theorem drop_ex1 {G : Hp} {p : Addr} : Ex (dropH G p) G := fun a o e => by
  unfold dropH at e
  split at e
  · cases e
  · exact e
theorem drop_kp {G : Hp} {p : Addr} {xs : List V} (h : G p = some (.lst xs)) : Kp G (dropH G p) := fun a o e nl => by
  by_cases q : a = p
  · rw [q, h] at e
    cases e
    exact absurd rfl (nl _)
  · rw [drop_ne q]
    exact e
def goodL (cs : List Int) (N n : Nat) (pts : List Int) : Prop := ∀ i < n + 1, 0 ≤ (shareR cs N pts i).num
def upto (N : Nat) : List Int := (List.range (N + 1)).map fun i : Nat => ((i : Nat) : Int)
theorem scFits : FnScope ["counts_here", "slips_here", "found", "points", "shares_here", "share"] ["counts_here", "slips_here"] (defScope (top 53)) := ⟨rfl, rfl, rfl, by decide +kernel, rfl, by decide +kernel, by decide +kernel⟩
def spFits (K : PySem.W.Frag) : Sp := fun vs H Q _ => ∃ (p : Addr) (cs : List Int) (N n : Nat), vs = [.ref p, .int (N : Int)] ∧ SqT K H p (cs.map V.int) ∧ NumL cs (n + 1) 24000003 ∧ n < 6 ∧ 0 < cs.sum ∧ N < 12 ∧
  ∀ l H' ds, Ex H H' → Dp K H' (.ref l) (.list ds) → SeqAt.shaped (.list ds) = true → (ds = [] ↔ ¬ ∃ pts ∈ lotsOf (n + 1) (upto N), goodL cs N n pts) → Q (.ref l) H'
theorem upto_nd (N : Nat) : (upto N).Nodup := List.pairwise_map.mpr (List.nodup_range.imp fun h => by omega)
theorem upto_mem {N : Nat} {a : Int} (h : a ∈ upto N) : 0 ≤ a ∧ a ≤ N := by
  obtain ⟨i, hi, rfl⟩ := List.mem_map.mp h
  have := List.mem_range.mp hi
  omega
theorem has_fits (B : Bi mg) (h_law_lots : Has P w K mg base "_law_lots" 1 ["many", "some"] (spLots K)) (h_law_shares : Has P w K mg base "_law_shares" 5 ["counts_here", "slips_here", "points"] (spShares21 K)) (D : Df K mg "_law_fits" (top 53) ["counts_here", "slips_here"]) : Has P w K mg base "_law_fits" 6 ["counts_here", "slips_here"] (spFits K) := by
  have sc := scFits
  refine .of D fun f fd F => F.ok sc (fun vs H Q E h => ?_) (fun cdv A outer s H vs Q E hr h => ?_)
  · obtain ⟨p, cs, N, n, rfl, _⟩ := h
    rfl
  · obtain ⟨p, cs, N, n, rfl, hp, hN, hn, sp, hN12, k⟩ := h
    refine ⟨_, (pss_cons (ps_set (i := 2) sc.nd rfl (by first | exact Or.inl rfl | exact Or.inr rfl) (pe_lstN pa_nil))
      (pss_cons (ps_for PassesOwn.never rfl (pi_list (pe_has h_law_lots (hr.mono (by decide)) (pa_cons (pe_callB (kLen (K := K)) (by rfl) B.len (by decide +kernel) (pa_cons (pv 0) pa_nil)) (pa_cons (pe_listR rfl (by rfl) B.list (by rfl) B.range (pe_op op_add (pv 1) pe_int)) pa_nil)))) (pg_name (i := 3) sc.nd rfl (by first | exact Or.inl rfl | exact Or.inr rfl))
      (pss_cons (ps_set (i := 4) sc.nd rfl (by first | exact Or.inl rfl | exact Or.inr rfl) (pe_has h_law_shares (hr.mono (by decide)) (pa_cons (pv 0) (pa_cons (pv 1) (pa_cons (pv 3) pa_nil)))))
      (pss_one (ps_if (pt_cmpR (op_eqB (K := K) hr.units) (pe_lc (own := [("share", 5)]) (g := gName 5)  rfl sc.nd (pi_list (pv 4)) (blkOk_by (N := (["counts_here", "slips_here", "found", "points", "shares_here", "share"] : List Str)) (sc := defScope (top 53)) (by decide +kernel)) (fun _ _ _ _ _ => (pg_name (i := 5) sc.nd rfl (by first | exact Or.inl rfl | exact Or.inr rfl))) (fun _ _ _ _ _ => pts_one (pt_cmpR op_lt (pe_ix (ixT (K := K)) (pv 5) pe_int (fun _ _ => rfl)) pe_int (nomark _))) (fun _ _ _ _ _ => (PE.mon (pv 5)))) (pe_lstN pa_nil) (nomark _)) (pss_one (ps_expr (pe_bm PySem.F.plainAttrs_list PySem.F.slot_list_append PySem.F.type_list_append mt_append (pv 2) (pa_cons (pe_tupN (pa_cons (pv 3) (pa_cons (pv 4) pa_nil))) pa_nil)))) pss_nil))))
      (pss_one (ps_ret (pv 2))))), ?_⟩
    walk_at "rd"
    refine ⟨by decide, fun p0 G0 n0 e0 h0 => ?_⟩
    show ∃ x_1, _
    refine ⟨_, .inr (sqT_kp hp e0.kp), ?_⟩
    rw [List.length_map, hN.1]
    unfold tListR
    walk_at "rd"
    refine ⟨N + 1, by omega, by omega, fun r G1 n1 e1 h1 => ?_⟩
    refine ⟨n + 1, r, upto N, rfl, h1, by unfold upto; rw [List.length_map, List.length_range]; omega, by omega, fun q G2 nq e2 hT => ?_⟩
    have e02 := (e0.trans e1).trans e2
    have hp0 := e2 _ _ (e1 _ _ h0)
    obtain ⟨xs, hq, hxl, hxr⟩ := hT
    have memL : ∀ pts ∈ lotsOf (n + 1) (upto N), pts.length = n + 1 ∧ pts.Nodup ∧ ∀ r ∈ pts, 0 ≤ r ∧ r < 20 := fun pts h => by
      obtain ⟨h1, h2⟩ := List.mem_filter.mp h
      have h3 := ((lots_mem _ _ _).mp h1).1
      exact ⟨of_decide_eq_true h2, h3.nodup (upto_nd N), fun r hr => by have := upto_mem (h3.subset hr); omega⟩
    have qn : q ≠ p0 := fun z => by
      rw [z, e1 _ _ h0] at nq
      cases nq
    obtain ⟨Pv, hP⟩ : ∃ P : Nat → L2.St → Hp → Prop, P = fun (j : Nat) σ' G => Ex (dropH G2 p0) (dropH G p0) ∧ (∃ (z3 z4 : Option V), σ' = [some (.ref p), some (.int (N : Int)), some (.ref p0), z3, z4, none]) ∧ ∃ acc, G p0 = some (.lst acc) ∧ acc.length ≤ j ∧ (∀ v ∈ acc, ∃ d, Dp K (dropH G p0) v d ∧ FlatD 4 d) ∧ (acc = [] ↔ ¬ ∃ pts ∈ (lotsOf (n + 1) (upto N)).take j, goodL cs N n pts) := ⟨_, rfl⟩
    refine ⟨q, rfl, ⟨_, .of hq⟩, loopL (xs := xs) Pv (by
      rw [hP]
      exact ⟨Ex.refl _, ⟨_, _, rfl⟩, [], hp0, Nat.zero_le _, (fun v h => by cases h), ⟨fun _ => by simp, fun _ => rfl⟩⟩) (fun j σ' G _ h => by
        rw [hP] at h
        exact .of (drop_ex1 _ _ (h.1 _ _ (by rw [drop_ne qn]; exact hq)))) ?_ ?_⟩
    · intro j x σ' G hx h
      rw [hP] at h
      obtain ⟨eG, ⟨z3, z4, rfl⟩, acc, hA, lA, hD, hE⟩ := h
      have jl := (List.getElem?_eq_some_iff.mp hx).1
      obtain ⟨pts, hpts⟩ : ∃ pts, (lotsOf (n + 1) (upto N))[j]? = some pts := ⟨_, List.getElem?_eq_getElem (by omega)⟩
      obtain ⟨a, ha, haL⟩ := hxr j pts hpts
      rw [ha] at hx
      cases hx
      obtain ⟨m1, m2, m3⟩ := memL pts (List.mem_of_getElem? hpts)
      have an : a ≠ p0 := fun z => by
        rw [z, hp0] at haL
        have := congrArg (fun o => match o with | some (HO.lst l) => l.length | _ => 0) haL
        simp [m1] at this
      have et : (lotsOf (n + 1) (upto N)).take (j + 1) = (lotsOf (n + 1) (upto N)).take j ++ [pts] := by
        rw [List.take_add_one, hpts]
        rfl
      have hpG : SqT K G p (cs.map V.int) := sqT_kp (sqT_kp (sqT_kp (sqT_kp hp e02.kp) (drop_kp hp0)) eG.kp) drop_ex1.kp
      have haG : G a = some (.lst (pts.map V.int)) := drop_ex1 _ _ (eG _ _ (by rw [drop_ne an]; exact haL))
      walk_at "rd"
      refine ⟨p, a, cs, pts, N, n, rfl, hpG, hN, hn, sp, by omega, haG, m1, m2, m3, fun l G3 nl e3 hS => ?_⟩
      walk_at "rd"
      have ln : l ≠ p0 := fun z => by rw [z, hA] at nl; cases nl
      obtain ⟨sx, hs1, hs2, hs3⟩ := hS
      rw [List.length_map, List.length_range] at hs2
      refine ⟨⟨_, .of hs1⟩, fun Dd hDd => lcIfN (fun i => decide ((shareR cs N pts i).num < 0)) hDd (.of hs1) (by omega) (fun _ => rfl) ?_ ?_ ?_⟩
      · intro i x H4 R hx e4 go
        have il := (List.getElem?_eq_some_iff.mp hx).1
        obtain ⟨x', h1, b, rfl, hb⟩ := hs3 i (shareR cs N pts i) (by rw [List.getElem?_map, List.getElem?_range (by omega)]; rfl)
        rw [h1] at hx
        cases hx
        walk_at "rd"
        refine q_ixT (sqT_kp hb e4.kp) at0 ?_
        walk_at "rd"
        exact go H4 (Ex.refl _)
      · intro x H4 R h
        walk_at "rd"
        exact h
      · intro H4 acc2 e4 hA2 hM2 hE2
        refine ⟨by decide, fun E0 G5 n5 e5 t5 => ?_⟩
        have e35 := e4.trans e5
        have frs : ∀ v ∈ sx, ∃ d, Dp K (dropH G3 p0) v d ∧ FlatD 1 d := fun v hv => by
          obtain ⟨i, hi⟩ := List.mem_iff_getElem?.mp hv
          have il := (List.getElem?_eq_some_iff.mp hi).1
          obtain ⟨x', h1, hx'⟩ := hs3 i (shareR cs N pts i) (by rw [List.getElem?_map, List.getElem?_range (by omega)]; rfl)
          rw [h1] at hi
          cases hi
          exact ⟨_, (hx'.kp (drop_kp (e3 _ _ hA))).dp, flat_fr _⟩
        obtain ⟨ds2, d1, d2, d3⟩ := dp_some (H := G5) (k := 1) (acc := acc2) fun v hv => by
          obtain ⟨d, q1, q2⟩ := frs v (hM2 v hv)
          exact ⟨d, dp_kp (drop_ex1.trans e35) _ _ q1, q2⟩
        refine ⟨_, _, .lst (.of (e5 _ _ hA2)) d1, .lst (.of t5) .nil, flat_shaped (flat_list d3) (by decide), rfl, ?_⟩
        rw [eqv_lnil]
        have G5p0 : G5 p0 = some (.lst acc) := e35 _ _ (e3 _ _ hA)
        have eD5 : Ex (dropH G p0) (dropH G5 p0) := drop_ex fun a _ o h => e35 _ _ (e3 _ _ h)
        have hgood : ds2.isEmpty = true ↔ goodL cs N n pts := by
          rw [List.isEmpty_iff_length_eq_zero, d2, List.length_eq_zero_iff, hE2]
          constructor
          · intro h i hi
            have := of_decide_eq_false (h i (by omega))
            exact Int.not_lt.mp this
          · intro h i hi
            exact decide_eq_false (Int.not_lt.mpr (h i (by omega)))
        have hEx : (∃ P ∈ (lotsOf (n + 1) (upto N)).take (j + 1), goodL cs N n P) ↔ (∃ P ∈ (lotsOf (n + 1) (upto N)).take j, goodL cs N n P) ∨ goodL cs N n pts := by
          rw [et]
          simp [or_and_right, exists_or]
        cases hG : ds2.isEmpty with
        | true =>
          refine ⟨_, rfl, ?_⟩
          rw [if_pos rfl]
          refine ⟨.inl ⟨rfl, _, .of G5p0⟩, by decide, fun T6 G6 n6 e6 t6 => ?_⟩
          have hA6 := e6 _ _ G5p0
          have lo : (lotsOf (n + 1) (upto N)).length ≤ 2 ^ 12 := by
            refine Nat.le_trans (List.length_filter_le _ _) (Nat.le_trans (lots_len _ _) (Nat.pow_le_pow_right (by decide) ?_))
            unfold upto
            rw [List.length_map, List.length_range]
            omega
          refine ⟨p0, _, _, rfl, rfl, hA6, Nat.lt_of_lt_of_le (show acc.length < 1000000 by omega) (by decide), ?_⟩
          walk_at "rd"
          have Tn : T6 ≠ p0 := fun z => by rw [z, G5p0] at n6; cases n6
          have eN : Ex (dropH G5 p0) (dropH (L2.upd G6 p0 (.lst (acc ++ [.ref T6]))) p0) := drop_ex fun b hb o h => by
            rw [upd_ne hb]
            exact e6 _ _ h
          have eN3 : Ex (dropH G3 p0) (dropH (L2.upd G6 p0 (.lst (acc ++ [.ref T6]))) p0) := (drop_ex fun b _ o h => e35 _ _ h).trans eN
          obtain ⟨ds3, c1, c2, c3⟩ := dp_some (H := dropH (L2.upd G6 p0 (.lst (acc ++ [.ref T6]))) p0) (k := 1) (acc := sx) fun v hv => by
            obtain ⟨d, q1, q2⟩ := frs v hv
            exact ⟨d, dp_kp eN3 _ _ q1, q2⟩
          rw [hP]
          refine ⟨(eG.trans eD5).trans eN, ⟨_, _, rfl⟩, _, upd_same, by rw [List.length_append]; simp only [List.length_cons, List.length_nil]; omega, fun v hv => ?_, ?_⟩
          · rcases List.mem_append.mp hv with hv | hv
            · obtain ⟨d, q1, q2⟩ := hD v hv
              exact ⟨d, dp_kp (eD5.trans eN) _ _ q1, q2⟩
            · rw [List.mem_singleton.mp hv]
              refine ⟨.tuple [.list (pts.map PyData.int), .list ds3], .tup (.of (by rw [drop_ne Tn, upd_ne Tn]; exact t6)) (.cons (.lst (.of ?_) (dp_ints pts)) (.cons (.lst (.of ?_) c1) .nil)), ?_⟩
              · rw [drop_ne an, upd_ne an]
                exact e6 _ _ (e35 _ _ (e3 _ _ haG))
              · rw [drop_ne ln, upd_ne ln]
                exact e6 _ _ (e35 _ _ hs1)
              · refine (flat_tup (k := 2) fun d hd => ?_).mono (by decide)
                simp only [List.mem_cons, List.not_mem_nil, or_false] at hd
                rcases hd with rfl | rfl
                · refine (flat_list (k := 0) fun d hd => ?_).mono (by decide)
                  obtain ⟨z, _, rfl⟩ := List.mem_map.mp hd
                  exact flat_int z
                · exact flat_list c3
          · rw [hEx]
            constructor
            · intro h
              simp at h
            · intro h
              exact absurd (.inr (hgood.mp hG)) h
        | false =>
          refine ⟨_, rfl, ?_⟩
          rw [if_neg (by decide)]
          walk_at "rd"
          rw [hP]
          refine ⟨eG.trans eD5, ⟨_, _, rfl⟩, acc, G5p0, by omega, fun v hv => ?_, ?_⟩
          · obtain ⟨d, q1, q2⟩ := hD v hv
            exact ⟨d, dp_kp eD5 _ _ q1, q2⟩
          · rw [hEx, hE]
            have : ¬ goodL cs N n pts := fun h => by rw [hgood.mpr h] at hG; cases hG
            simp [this]
    · intro σ' G h
      rw [hP] at h
      obtain ⟨eG, ⟨z3, z4, rfl⟩, acc, hA, lA, hD, hE⟩ := h
      walk_at "rd"
      rw [hxl, List.take_length] at hE
      obtain ⟨ds, d1, d2, d3⟩ := dp_some hD
      refine k p0 G ds (fun b o hb => ?_) (.lst (.of hA) (dpAll_kp drop_ex1 _ _ d1)) (flat_shaped (flat_list d3) (by decide)) ?_
      · have nb : b ≠ p0 := ne_of_none hb n0
        exact drop_ex1 _ _ (eG _ _ (by rw [drop_ne nb]; exact e02 _ _ hb))
      · rw [← List.length_eq_zero_iff, d2, List.length_eq_zero_iff]
        exact hE
end

section
/-! a row comes exactly if some points have shares from 0 on -/
abbrev fac (n : Nat) : Int := ((Builtin.Math.factorialNat n : Nat) : Int)
theorem prm_ff (N : Nat) : ∀ j, prm N j = ff (N : Int) j
  | 0 => rfl
  | j + 1 => by
    have e : prm N (j + 1) = prm N j * ((N : Int) - (j : Int)) := by
      unfold prm Builtin.Math.fallingProduct
      rw [List.range_succ, List.foldl_append]
      rfl
    rw [e, prm_ff N j]
    rfl
theorem chs_fac : ∀ n < 6, ∀ j < 6, j ≤ n → chs n j * (Builtin.Math.factorialNat j * Builtin.Math.factorialNat (n - j)) = Builtin.Math.factorialNat n := by decide +kernel
theorem ff_fac : ∀ k < 6, ∀ j < 6, ff ((k : Nat) : Int) j = ((chs k j * Builtin.Math.factorialNat j : Nat) : Int) := by decide +kernel
theorem sums_at {cs : List Int} {n j N : Nat} (hl : cs.length = n + 1) (hj : j ≤ n) : (sumsL cs N).getD j 0 = wayS cs j * fac j * fac (n - j) * ff (N : Int) j := by
  unfold sumsL
  rw [List.getD_eq_getElem?_getD, List.getElem?_map, List.getElem?_range (by omega)]
  show yesF cs j * prm N j = _
  rw [prm_ff]
  unfold yesF
  rw [hl, Nat.add_sub_cancel]
/-- the factor between the sums and the chances -/
theorem ay_sum {cs : List Int} {n j N : Nat} (hl : cs.length = n + 1) (hn : n < 6) (hj : j ≤ n) (sp : 0 < cs.sum) : ((cs.sum * fac n : Int) : Rat) * (ayR cs j * ((ff (N : Int) j : Int) : Rat)) = (((sumsL cs N).getD j 0 : Int) : Rat) := by
  rw [sums_at hl hj]
  unfold ayR
  rw [hl, Nat.add_sub_cancel]
  have cp := chs_pos (a := n) (b := j) (by omega) hj
  have e := chs_fac n hn j (by omega) hj
  have e2 : fac n = ((chs n j : Nat) : Int) * (fac j * fac (n - j)) := by
    show ((Builtin.Math.factorialNat n : Nat) : Int) = _
    rw [← e, Int.natCast_mul, Int.natCast_mul]
  rw [e2]
  have s0 := cast_ne (show cs.sum ≠ 0 by omega)
  have c0 := cast_ne (show ((chs n j : Nat) : Int) ≠ 0 by omega)
  obtain ⟨S, hS⟩ : ∃ S, S = ((cs.sum : Int) : Rat) := ⟨_, rfl⟩
  obtain ⟨C, hC⟩ : ∃ C, C = ((((chs n j : Nat)) : Int) : Rat) := ⟨_, rfl⟩
  have g1 : ((cs.sum * (((chs n j : Nat) : Int) * (fac j * fac (n - j))) : Int) : Rat) = S * (C * (((fac j : Int) : Rat) * ((fac (n - j) : Int) : Rat))) := by
    rw [Rat.intCast_mul, Rat.intCast_mul, Rat.intCast_mul, hS, hC]
  have g2 : ((cs.sum * ((chs n j : Nat) : Int) : Int) : Rat) = S * C := by rw [Rat.intCast_mul, hS, hC]
  have g3 : ((wayS cs j * fac j * fac (n - j) * ff (N : Int) j : Int) : Rat) = ((wayS cs j : Int) : Rat) * ((fac j : Int) : Rat) * ((fac (n - j) : Int) : Rat) * ((ff (N : Int) j : Int) : Rat) := by
    rw [Rat.intCast_mul, Rat.intCast_mul, Rat.intCast_mul]
  rw [g1, g2, g3]
  rw [← hS] at s0
  rw [← hC] at c0
  generalize ((fac j : Int) : Rat) = A
  generalize ((fac (n - j) : Int) : Rat) = B1
  generalize ((wayS cs j : Int) : Rat) = W
  generalize ((ff (N : Int) j : Int) : Rat) = F
  have sc : S * C ≠ 0 := fun z => by
    rcases Rat.mul_eq_zero.mp z with h | h
    · exact s0 h
    · exact c0 h
  rw [Rat.div_def]
  have i1 := Rat.mul_inv_cancel _ sc
  generalize (S * C)⁻¹ = I at *
  have : S * (C * (A * B1)) * (W * I * F) = (S * C * I) * (W * A * B1 * F) := by grind
  rw [this, i1]
  grind
/-- the mean that the law works out, by any weights with the sums -/
theorem mean_sw {cs rs : List Int} {n N : Nat} {zs : Wts} (hl : cs.length = n + 1) (hn : n < 6) (sp : 0 < cs.sum) (hr : rs.length ≤ n) (hz : RepW zs (sumsL cs N)) : ((cs.sum * fac n : Int) : Rat) * meanR cs N rs = sw zs fun M => ((prodP rs M : Int) : Rat) := by
  have len : (sumsL cs N).length = n + 1 := by simp [sumsL, hl]
  unfold meanR
  rw [← sumN_mul]
  have e : sumN (rs.length + 1) (fun i => ((cs.sum * fac n : Int) : Rat) * (ayR cs i * ((tfs rs i * ff N i : Int) : Rat))) = sumN (rs.length + 1) fun i => ((tfs rs i : Int) : Rat) * sw zs fun M => ((ff M i : Int) : Rat) * 1 := by
    refine sumN_congr fun i hi => ?_
    have h1 := ay_sum (N := N) hl hn (show i ≤ n by omega) sp
    have h2 := hz i (by omega)
    have h3 : sw zs (fun M => ((ff M i : Int) : Rat) * 1) = sw zs fun M => ((ff M i : Int) : Rat) := sw_congr fun z _ => by grind
    rw [h3, ← h2, ← h1, Rat.intCast_mul (tfs rs i)]
    grind
  rw [e, tfs_sw zs (fun _ => 1) rs]
  refine sw_congr fun z _ => ?_
  grind
theorem fr_div (r : Rat) {k : Int} : ((r.num : Int) : Rat) / ((((((r.den : Nat)) : Int) * k : Int)) : Rat) = r / ((k : Int) : Rat) := by
  rw [Rat.intCast_mul, Rat.div_def, Rat.div_def, Rat.inv_mul_rev]
  have h : ((r.num : Int) : Rat) * (((((r.den : Nat)) : Int) : Rat))⁻¹ = r := by
    have := Rat.mkRat_self r
    rw [Rat.mkRat_eq_div, Rat.div_def] at this
    exact this
  generalize (((((r.den : Nat)) : Int) : Rat))⁻¹ = I at *
  generalize (((k : Int) : Rat))⁻¹ = J
  generalize ((r.num : Int) : Rat) = Nn at *
  have : Nn * (J * I) = (Nn * I) * J := by grind
  rw [this, h]
/-- a share that the law works out is the weight -/
theorem share_w {cs pts : List Int} {n N i : Nat} {zs : Wts} {p : Int} {w : Rat} (hl : cs.length = n + 1) (hn : n < 6) (sp : 0 < cs.sum) (hp : pts.length = n + 1) (nd : pts.Nodup) (hz : RepW zs (sumsL cs N)) (e : zs.map (·.1) = pts) (hi : zs[i]? = some (p, w)) : ((cs.sum * fac n : Int) : Rat) * shareR cs N pts i = w := by
  have len : (sumsL cs N).length = n + 1 := by simp [sumsL, hl]
  have hpi : pts[i]? = some p := by rw [← e, List.getElem?_map, hi]; rfl
  have il := (List.getElem?_eq_some_iff.mp hpi).1
  have ol := oth_len il
  have pn := prod_ne (oth_not hpi nd)
  obtain ⟨hi2, hi3⟩ := List.getElem?_eq_some_iff.mp hi
  have ez : zs = zs.take i ++ (p, w) :: zs.drop (i + 1) := by
    rw [← hi3, ← List.drop_eq_getElem_cons hi2, List.take_append_drop]
  have h1 := w_at hz ez (pts := othF pts i) (fun z hm => by
    unfold othF
    rw [← e, ← List.map_take, ← List.map_drop, ← List.map_append]
    exact List.mem_map.mpr ⟨z, hm, rfl⟩) (by omega)
  have h2 := rep_ev hz (pts := othF pts i) (by omega)
  have h3 := mean_sw hl hn sp (show (othF pts i).length ≤ n by omega) hz
  have gp : pts.getD i 0 = p := by rw [List.getD_eq_getElem?_getD, hpi]; rfl
  unfold shareR
  rw [fr_div, gp]
  have p0 := cast_ne pn
  have i1 := Rat.mul_inv_cancel _ p0
  rw [Rat.div_def]
  have : ((cs.sum * fac n : Int) : Rat) * (meanR cs N (othF pts i) * (((prodP (othF pts i) p : Int) : Rat))⁻¹) = (((cs.sum * fac n : Int) : Rat) * meanR cs N (othF pts i)) * (((prodP (othF pts i) p : Int) : Rat))⁻¹ := by grind
  rw [this, h3, ← h2, h1]
  generalize ((prodP (othF pts i) p : Int) : Rat) = V at *
  generalize V⁻¹ = J at *
  have : w * V * J = w * (V * J) := by grind
  rw [this, i1]
  grind
theorem num_nn {r c w : Rat} (hc : 0 < c) (h : c * r = w) : 0 ≤ r.num ↔ 0 ≤ w := by
  rw [Rat.num_nonneg, ← h]
  constructor
  · exact fun q => Rat.mul_nonneg (Rat.le_of_lt hc) q
  · intro q
    refine Rat.le_of_mul_le_mul_left ?_ hc
    have : c * 0 = 0 := by grind
    rw [this]
    exact q
theorem good_iff {cs pts : List Int} {n N : Nat} {zs : Wts} (hl : cs.length = n + 1) (hn : n < 6) (sp : 0 < cs.sum) (hp : pts.length = n + 1) (nd : pts.Nodup) (hz : RepW zs (sumsL cs N)) (e : zs.map (·.1) = pts) : goodL cs N n pts ↔ ∀ z ∈ zs, 0 ≤ z.2 := by
  have zl : zs.length = n + 1 := by rw [← hp, ← e, List.length_map]
  have cpos : (0 : Rat) < ((cs.sum * fac n : Int) : Rat) := Rat.intCast_pos.mpr (Int.mul_pos sp (by have := (fac_le n hn).1; show (0 : Int) < ((Builtin.Math.factorialNat n : Nat) : Int); omega))
  constructor
  · intro h z hz2
    obtain ⟨i, hi⟩ := List.mem_iff_getElem?.mp hz2
    have il := (List.getElem?_eq_some_iff.mp hi).1
    exact (num_nn cpos (share_w (p := z.1) (w := z.2) hl hn sp hp nd hz e hi)).mp (h i (by omega))
  · intro h i hi
    obtain ⟨z, hz2⟩ : ∃ z, zs[i]? = some z := ⟨_, List.getElem?_eq_getElem (by omega)⟩
    exact (num_nn cpos (share_w (p := z.1) (w := z.2) hl hn sp hp nd hz e hz2)).mpr (h z (List.mem_of_getElem? hz2))
end

section
/-- the numbers from k on -/
def fromK : Nat → Int → List Int
  | 0, _ => []
  | m + 1, k => k :: fromK m (k + 1)
theorem from_map : ∀ (m : Nat) (k : Int), fromK m k = (List.range m).map fun i : Nat => k + (i : Int)
  | 0, _ => rfl
  | m + 1, k => by
    show k :: fromK m (k + 1) = _
    rw [from_map m (k + 1), List.range_succ_eq_map, List.map_cons, List.map_map]
    congr 1
    · omega
    · apply List.map_congr_left
      intro i _
      show k + 1 + (i : Int) = k + ((i + 1 : Nat) : Int)
      omega
theorem upto_from (N : Nat) : upto N = fromK (N + 1) 0 := by
  rw [from_map]
  unfold upto
  apply List.map_congr_left
  intro i _
  omega
theorem sub_from : ∀ (m : Nat) (k : Int) (P : List Int), P.Pairwise (· < ·) → (∀ p ∈ P, k ≤ p ∧ p < k + (m : Int)) → P.Sublist (fromK m k)
  | 0, k, [], _, _ => .slnil
  | 0, k, p :: P, _, h => by
    have := h p (by simp)
    omega
  | m + 1, k, [], _, _ => List.nil_sublist _
  | m + 1, k, p :: P, hs, h => by
    obtain ⟨h1, h2⟩ := List.pairwise_cons.mp hs
    have hp := h p (by simp)
    by_cases e : p = k
    · subst e
      refine .cons₂ _ (sub_from m (p + 1) P h2 fun q hq => ?_)
      have := h1 q hq
      have := h q (by simp [hq])
      omega
    · refine .cons _ (sub_from m (k + 1) (p :: P) hs fun q hq => ?_)
      have hq2 := h q hq
      rcases List.mem_cons.mp hq with rfl | hq
      · omega
      · have := h1 q hq
        omega
theorem lots_of {n N : Nat} {P : List Int} (hs : P.Pairwise (· < ·)) (h : ∀ p ∈ P, 0 ≤ p ∧ p ≤ N) (hl : P.length = n + 1) : P ∈ lotsOf (n + 1) (upto N) := by
  refine List.mem_filter.mpr ⟨(lots_mem _ _ _).mpr ⟨?_, by omega⟩, decide_eq_true hl⟩
  rw [upto_from]
  exact sub_from _ _ _ hs fun p hp => by have := h p hp; omega
theorem prs_sort {P : List Int} (h : Prs P) : P.Pairwise (· < ·) := by
  cases h with
  | nil => exact .nil
  | one a => simp; omega
  | two a b hab => simp; omega
theorem low_sort {ss : List Int} {m : Nat} {N : Int} (R : Rep 0 N (ss.take m)) (m1 : 1 ≤ m) (m5 : m ≤ 5) (hl : m ≤ ss.length) (hN : (m : Int) ≤ N) : (lowestF ss m N).Pairwise (· < ·) := by
  have lt := take_len hl
  rcases Nat.mod_two_eq_zero_or_one m with hm | hm
  · have el : lowestF ss m N = pairsF (m / 2) (ss.take m) 0 N [] := by
      unfold lowestF lowS
      rw [if_pos hm, if_pos hm]
    rw [el]
    exact prs_sort (kp (q := m / 2) (by omega) (t := ss.take m) (by omega) R (by omega)).1
  · have el : lowestF ss m N = 0 :: pairsF (m / 2) (stepL (ss.take m) 0) 1 N [] := by
      unfold lowestF lowS
      rw [if_neg (by omega), if_neg (by omega)]
      rfl
    have R1 := R.lo
    rw [Int.zero_add] at R1
    obtain ⟨p1, p2⟩ := kp (q := m / 2) (by omega) (t := stepL (ss.take m) 0) (by rw [stp_len]; omega) R1 (by omega)
    rw [el]
    exact List.pairwise_cons.mpr ⟨fun p hp => by have := (p2.1 p hp).1; omega, prs_sort p1⟩
/-- at as many slips as draws the counts are the weights -/
theorem sw_range (m : Nat) (a : Nat → Int) (g : Int → Int) : sw ((List.range m).map fun k : Nat => (((k : Nat) : Int), ((a k : Int) : Rat))) (fun M => ((g M : Int) : Rat)) = ((((List.range m).map fun k : Nat => a k * g (k : Int)).sum : Int) : Rat) := by
  induction m with
  | zero => rfl
  | succ m ih =>
    rw [List.range_succ, List.map_append, List.map_append, sw_app, ih, List.sum_append]
    rw [Rat.intCast_add]
    congr 1
    rw [List.map_cons, List.map_nil, sw_cons, sw_nil, List.map_cons, List.map_nil, List.sum_cons, List.sum_nil, Int.add_zero, Rat.intCast_mul]
    grind
theorem all_drawn {cs : List Int} {n : Nat} (hl : cs.length = n + 1) (hn : n < 6) (nn : ∀ c ∈ cs, 0 ≤ c) : ∃ zs : Wts, zs.map (·.1) = upto n ∧ (∀ z ∈ zs, 0 ≤ z.2) ∧ RepW zs (sumsL cs n) := by
  refine ⟨(List.range (n + 1)).map fun k : Nat => (((k : Nat) : Int), ((cs.getD k 0 * fac n : Int) : Rat)), ?_, fun z hz => ?_, fun j hj => ?_⟩
  · rw [List.map_map]
    rfl
  · obtain ⟨k, hk, rfl⟩ := List.mem_map.mp hz
    have hk := List.mem_range.mp hk
    refine Rat.intCast_nonneg.mpr (Int.mul_nonneg ?_ (by show (0 : Int) ≤ ((Builtin.Math.factorialNat n : Nat) : Int); omega))
    rw [List.getD_eq_getElem?_getD, List.getElem?_eq_getElem (by omega)]
    exact nn _ (List.getElem_mem _)
  · have len : (sumsL cs n).length = n + 1 := by simp [sumsL, hl]
    rw [sums_at hl (by omega), sw_range (n + 1) (fun k => cs.getD k 0 * fac n) (fun M => ff M j)]
    congr 1
    have hn2 : ff (n : Int) j * fac (n - j) = fac n := by
      rw [ff_fac n hn j (by omega)]
      have := chs_fac n hn j (by omega) (by omega)
      show _ = ((Builtin.Math.factorialNat n : Nat) : Int)
      rw [← this, Int.natCast_mul, Int.natCast_mul, Int.natCast_mul, Int.mul_assoc]
    have : wayS cs j * fac j * fac (n - j) * ff (n : Int) j = fac j * fac n * wayS cs j := by
      rw [← hn2]
      grind
    rw [this]
    unfold wayS
    rw [← sum_scale, List.map_map, hl]
    congr 1
    apply List.map_congr_left
    intro k hk
    have hk := List.mem_range.mp hk
    show fac j * fac n * (cs.getD k 0 * ((chs k j : Nat) : Int)) = cs.getD k 0 * fac n * ff (k : Int) j
    rw [ff_fac k (by omega) j (by omega), Int.natCast_mul]
    grind
theorem rep_scale {lo hi : Int} {ss tt : List Int} {c : Rat} (c0 : 0 ≤ c) (hl : tt.length = ss.length) (h : ∀ j, j < ss.length → ((tt.getD j 0 : Int) : Rat) = c * ((ss.getD j 0 : Int) : Rat)) (R : Rep lo hi ss) : Rep lo hi tt := by
  obtain ⟨zs, hz, hr⟩ := R
  refine ⟨zs.map fun z => (z.1, c * z.2), fun z hm => ?_, fun j hj => ?_⟩
  · obtain ⟨y, hy, rfl⟩ := List.mem_map.mp hm
    obtain ⟨q1, q2, q3⟩ := hz y hy
    exact ⟨q1, q2, Rat.mul_nonneg c0 q3⟩
  · rw [h j (by omega), hr j (by omega), sw_scale]
theorem rep_plain {cs : List Int} {N : Nat} {lo hi : Int} (g : 0 < gcdL cs) : Rep lo hi (sumsL (plainL cs) N) ↔ Rep lo hi (sumsL cs N) := by
  have gp : (0 : Rat) < ((((gcdL cs : Nat)) : Int) : Rat) := Rat.intCast_pos.mpr (by omega)
  have len : (sumsL (plainL cs) N).length = (sumsL cs N).length := by simp [sumsL, plainL_len]
  have e : ∀ j, j < (sumsL cs N).length → ((((sumsL cs N).getD j 0 : Int)) : Rat) = ((((gcdL cs : Nat)) : Int) : Rat) * ((((sumsL (plainL cs) N).getD j 0 : Int)) : Rat) := fun j hj => by
    have hj : j < cs.length := by simpa [sumsL] using hj
    rw [← Rat.intCast_mul]
    congr 1
    unfold sumsL
    rw [List.getD_eq_getElem?_getD, List.getD_eq_getElem?_getD, List.getElem?_map, List.getElem?_map, List.getElem?_range (by omega), List.getElem?_range (by rw [plainL_len]; omega)]
    show yesF cs j * prm N j = ((gcdL cs : Nat) : Int) * (yesF (plainL cs) j * prm N j)
    unfold yesF
    have e1 : wayS cs j = ((gcdL cs : Nat) : Int) * wayS (plainL cs) j := by rw [← wayS_scale, plainL_mul]
    rw [e1, plainL_len]
    grind
  constructor
  · intro R
    exact rep_scale (Rat.le_of_lt gp) len.symm (fun j hj => e j (by omega)) R
  · intro R
    have i1 := Rat.mul_inv_cancel ((((gcdL cs : Nat)) : Int) : Rat) (by intro z; rw [z] at gp; exact absurd gp (by decide))
    refine rep_scale (Rat.le_of_lt (Rat.inv_pos.mpr gp)) len (fun j hj => ?_) R
    rw [e j hj]
    generalize ((((gcdL cs : Nat)) : Int) : Rat) = G at *
    generalize G⁻¹ = I at *
    generalize ((((sumsL (plainL cs) N).getD j 0 : Int)) : Rat) = X
    have : I * (G * X) = (G * I) * X := by grind
    rw [this, i1]
    grind
open Classical in
/-- comes, told by points -/
theorem come_points {cs : List Int} {n N : Nat} (hN : NumL cs (n + 1) 24000003) (n1 : 1 ≤ n) (n4 : n ≤ 4) (sp : 0 < cs.sum) (g : 0 < gcdL cs) (hle : n ≤ N) : comeG (plainL cs) N = true ↔ ∃ pts ∈ lotsOf (n + 1) (upto N), goodL cs N n pts := by
  have hl := hN.1
  have len : (sumsL cs N).length = n + 1 := by simp [sumsL, hl]
  have lenp : (sumsL (plainL cs) N).length = n + 1 := by simp [sumsL, plainL_len, hl]
  have nn : ∀ c ∈ cs, 0 ≤ c := fun c hc => (hN.2 c hc).1
  have g0 : 0 ≤ (sumsL (plainL cs) N).getD 0 0 := by
    rw [sums_at (cs := plainL cs) (n := n) (by rw [plainL_len]; exact hl) (Nat.zero_le _), way0]
    have h1 := (sum_num (b := 24000003) (by decide) (num_plain hN g)).1
    have h2 : (0 : Int) ≤ fac 0 := by decide
    have h3 : (0 : Int) ≤ fac (n - 0) := by show (0 : Int) ≤ ((Builtin.Math.factorialNat (n - 0) : Nat) : Int); omega
    exact Int.mul_nonneg (Int.mul_nonneg (Int.mul_nonneg h1 h2) h3) (show (0 : Int) ≤ 1 by decide)
  have hc : comeG (plainL cs) N = true ↔ Rep 0 N (sumsL cs N) := by
    unfold comeG
    rw [plainL_len, hl, Nat.add_sub_cancel, decide_eq_true hle, Bool.true_and]
    have pi := pass_iff (ss := sumsL (plainL cs) N) (N := (N : Int)) (by omega) (by omega) g0 (by omega)
    constructor
    · intro h
      exact (rep_plain g).mp (pi.mp (of_decide_eq_true h))
    · intro R
      exact decide_eq_true (pi.mpr ((rep_plain g).mpr R))
  rw [hc]
  have fit : ∀ pts : List Int, pts ∈ lotsOf (n + 1) (upto N) → pts.length = n + 1 ∧ pts.Nodup ∧ ∀ p ∈ pts, 0 ≤ p ∧ p ≤ (N : Int) := fun pts h => by
    obtain ⟨h1, h2⟩ := List.mem_filter.mp h
    have h3 := ((lots_mem _ _ _).mp h1).1
    exact ⟨of_decide_eq_true h2, h3.nodup (upto_nd N), fun p hp => upto_mem (h3.subset hp)⟩
  constructor
  · intro R
    by_cases e : N = n
    · subst e
      obtain ⟨zs, e1, e2, e3⟩ := all_drawn hl (by omega) nn
      have hm : upto N ∈ lotsOf (N + 1) (upto N) := List.mem_filter.mpr ⟨(lots_mem _ _ _).mpr ⟨List.Sublist.refl _, by unfold upto; simp⟩, decide_eq_true (by unfold upto; simp)⟩
      obtain ⟨f1, f2, f3⟩ := fit _ hm
      exact ⟨_, hm, (good_iff hl (by omega) sp f1 f2 e3 e1).mpr e2⟩
    · have tk : (sumsL cs N).take (n + 1) = sumsL cs N := List.take_of_length_le (by omega)
      have R1 : Rep 0 N ((sumsL cs N).take (n + 1)) := by rw [tk]; exact R
      have gd := low_good R1 (by omega) (by omega) (by omega) (by omega)
      have st := low_sort R1 (by omega) (by omega) (by omega) (by omega)
      obtain ⟨zs, e1, e2, e3⟩ := gd.fits.wts
      rw [tk] at e3
      have hm := lots_of (n := n) (N := N) st gd.fits.1 gd.len
      obtain ⟨f1, f2, f3⟩ := fit _ hm
      exact ⟨_, hm, (good_iff hl (by omega) sp f1 f2 e3 e1).mpr fun z hz => (e2 z hz).2.2⟩
  · rintro ⟨pts, hm, hg⟩
    obtain ⟨f1, f2, f3⟩ := fit _ hm
    obtain ⟨zs, e1, e3⟩ := some_w pts (sumsL cs N) (by omega) f2
    have e2 := (good_iff hl (by omega) sp f1 f2 e3 e1).mp hg
    refine ⟨zs, fun z hz => ?_, e3⟩
    have := f3 z.1 (by rw [← e1]; exact List.mem_map.mpr ⟨z, hz, rfl⟩)
    exact ⟨this.1, this.2, e2 z hz⟩
theorem come_all {cs : List Int} {n : Nat} (hN : NumL cs (n + 1) 24000003) (n1 : 1 ≤ n) (n4 : n ≤ 4) (sp : 0 < cs.sum) (g : 0 < gcdL cs) : comeG (plainL cs) n = true := by
  rw [come_points hN n1 n4 sp g (Nat.le_refl _)]
  have hl := hN.1
  obtain ⟨zs, e1, e2, e3⟩ := all_drawn hl (by omega) fun c hc => (hN.2 c hc).1
  have hm : upto n ∈ lotsOf (n + 1) (upto n) := List.mem_filter.mpr ⟨(lots_mem _ _ _).mpr ⟨List.Sublist.refl _, by unfold upto; simp⟩, decide_eq_true (by unfold upto; simp)⟩
  exact ⟨_, hm, (good_iff hl (by omega) sp (by unfold upto; simp) (upto_nd n) e3 e1).mpr e2⟩
open Classical in
theorem come_below {cs : List Int} {n : Nat} (hl : cs.length = n + 1) {N : Nat} (h : N < n) : comeG (plainL cs) N = false := by
  unfold comeG
  rw [plainL_len, hl, decide_eq_false (by omega), Bool.false_and]
end

section
variable {P : Program} {w : World} {K : PySem.W.Frag} {mg : Str → Option Value} {base : Heap}
/-! ### _law_right -/
theorem pos_ex : ∀ {cs : List Int}, 0 < cs.sum → ∃ c ∈ cs, 0 < c
  | [], h => by simp at h
  | c :: cs, h => by
    by_cases hc : 0 < c
    · exact ⟨c, List.mem_cons_self, hc⟩
    · rw [List.sum_cons] at h
      obtain ⟨d, hd, dp⟩ := pos_ex (cs := cs) (by omega)
      exact ⟨d, List.mem_cons_of_mem _ hd, dp⟩
theorem gcd_of {cs : List Int} (h : 0 < cs.sum) : 0 < gcdL cs := by
  obtain ⟨c, hc, cp⟩ := pos_ex h
  exact gcdL_pos ⟨c, hc, by omega⟩
theorem rowok_of {cs : List Int} {n : Nat} (h : NumL cs (n + 1) 24000003) (n1 : 1 ≤ n) (hn : n < 6) (s0 : 0 < cs.sum) : RowOk cs := by
  refine ⟨by rw [h.1]; omega, by rw [h.1]; omega, fun c hc => (h.2 c hc).1, gcd_of s0, ?_⟩
  obtain ⟨c, hc, cp⟩ := pos_ex s0
  have h1 := gcdL_le hc cp
  have h2 := (h.2 c hc).2
  refine Nat.lt_of_lt_of_le (show gcdL cs < 2 ^ 41 by omega) (Nat.pow_le_pow_right (by decide) (by decide))
theorem plain_sum {cs : List Int} (s0 : 0 < cs.sum) : 0 < (plainL cs).sum := by
  have e : ((gcdL cs : Nat) : Int) * (plainL cs).sum = cs.sum := by rw [← sum_scale, plainL_mul]
  rcases Int.lt_or_le 0 (plainL cs).sum with h | h
  · exact h
  · have := Int.mul_le_mul_of_nonneg_left h (show 0 ≤ ((gcdL cs : Nat) : Int) by omega)
    omega
def spRight : Sp := fun vs H Q _ => ∃ v : Addr, vs = [.ref v] ∧ VatAt H v ∧ ∀ H', Gv v H H' → Q (.bl true) H'
theorem scRight : FnScope ["well", "turn", "n", "counts_here", "mine", "slips_here", "due"] ["well"] (defScope (top 58)) := ⟨rfl, rfl, rfl, by decide +kernel, rfl, by decide +kernel, by decide +kernel⟩
theorem has_right {C : Addr} (B : Bi mg) (RT : RowT P w K mg base C) (h_law_draw : Has P w K mg base "_law_draw" 1 ["well", "many"] spDraw) (h_law_pick : Has P w K mg base "_law_pick" 2 ["well", "choices"] (spPick K)) (h_law_row : Has P w K mg base "_law_row" 4 ["well", "n"] (spRowL K))
    (h_law_fits : Has P w K mg base "_law_fits" 6 ["counts_here", "slips_here"] (spFits K)) (hcomes : Has P w K mg base "comes" 10 ["row", "slips"] (spComesG K C)) (hcomes_w : HasW P w K mg base "comes" 10 ["row", "slips"] (spComesG K C) ["slips", "row"] [1, 0])
    (D : Df K mg "_law_right" (top 58) ["well"]) : HasG P w K mg base "_law_right" 11 ["well"] spRight := by
  have sc := scRight
  refine .of D fun f fd F => okG F sc (fun vs H Q E h => ?_) (fun cdv A outer s H vs Q E hgd hr h => ?_)
  · obtain ⟨v, rfl, _⟩ := h
    rfl
  · obtain ⟨v, rfl, hv, k⟩ := h
    refine ⟨_, (pss_cons (ps_for PassesOwn.never rfl (pi_range1 (by rfl) B.range (pa_cons pe_int pa_nil)) (pg_name (i := 1) sc.nd rfl (by first | exact Or.inl rfl | exact Or.inr rfl))
      (pss_cons (ps_set (i := 2) sc.nd rfl (by first | exact Or.inl rfl | exact Or.inr rfl) (pe_has h_law_pick (hr.mono (by decide)) (pa_cons (pv 0) (pa_cons (pe_lstN (pa_cons pe_int (pa_cons pe_int (pa_cons pe_int (pa_cons pe_int (pa_cons pe_int (pa_cons pe_int pa_nil))))))) pa_nil))))
      (pss_cons (ps_set (i := 3) sc.nd rfl (by first | exact Or.inl rfl | exact Or.inr rfl) (pe_has h_law_row (hr.mono (by decide)) (pa_cons (pv 0) (pa_cons (pv 2) pa_nil))))
      (pss_cons (ps_par (i := 4) (j := 5) (by rfl) sc.nd rfl rfl (by decide) rfl rfl (pa_cons (kRow RT (hr.mono (by decide)) (pa_cons (pv 3) pa_nil)) (pa_cons (pe_op op_add (pv 2) (pe_has h_law_draw (hr.mono (by decide)) (pa_cons (pv 0) (pa_cons (PE.mon (pe_ifExp (pt_cmpR op_lt (pv 2) pe_int (nomark _)) (pe_op op_sub pe_int (pv 2)) pe_int)) pa_nil)))) pa_nil)) (by rfl))
      (pss_cons (ps_set (i := 6) sc.nd rfl (by first | exact Or.inl rfl | exact Or.inr rfl) (pe_cmpR (op_neB (K := K) hr.units) (pe_has h_law_fits (hr.mono (by decide)) (pa_cons (pv 3) (pa_cons (pv 5) pa_nil))) (pe_lstN pa_nil) (nomark _)))
      (pss_cons (ps_if (pt_cmpR op_ne (pe_callB (kRepr (K := K) hgd hr.units) (by rfl) B.repr (by decide +kernel) (pa_cons (pe_lstN (pa_cons (pe_has hcomes (hr.mono (by decide)) (pa_cons (pv 4) (pa_cons (pv 5) pa_nil))) (pa_cons (pe_hasW hcomes_w (hr.mono (by decide)) (pk_cons (pv 5) (pk_cons (pv 4) pk_nil))) pa_nil))) pa_nil)) (pe_callB (kRepr (K := K) hgd hr.units) (by rfl) B.repr (by decide +kernel) (pa_cons (pe_lstN (pa_cons (pv 6) (pa_cons (pv 6) pa_nil))) pa_nil)) (nomark _)) (pss_one (ps_ret pe_bl)) pss_nil)
      (pss_one (ps_if (PW.pt (pw_or (pt_cmpR op_notT (pe_has hcomes (hr.mono (by decide)) (pa_cons (pv 4) (pa_cons (pv 2) pa_nil))) pe_bl (nomark _)) (pw_or1 (PW.pt (pw_and (pt_cmpR op_gt (pv 2) pe_int (nomark _)) (pw_and1 (pt_cmpR op_notT (pe_has hcomes (hr.mono (by decide)) (pa_cons (pv 4) (pa_cons (pe_op op_sub (pv 2) pe_int) pa_nil))) pe_bl (nomark _)))))))) (pss_one (ps_ret pe_bl)) pss_nil))))))))
      (pss_one (ps_ret pe_bl))), ?_⟩
    walk_at "rd"
    refine ⟨by decide, by decide, ?_⟩
    obtain ⟨Pv, hP⟩ : ∃ P : Nat → L2.St → Hp → Prop, P = fun j σ' G => ∃ s1 s2 s3 s4 s5 s6 : Option V, σ' = [some (.ref v), s1, s2, s3, s4, s5, s6] ∧ Gv v H G := ⟨_, rfl⟩
    refine loopR Pv (by rw [hP]; exact ⟨_, _, _, _, _, _, rfl, .refl hv⟩) ?_ ?_
    · intro j σ' G hj h
      rw [hP] at h
      obtain ⟨s1, s2, s3, s4, s5, s6, rfl, gG⟩ := h
      walk_at "rd"
      refine ⟨by decide, fun pl G1 n1 e1 t1 => ?_⟩
      refine ⟨v, pl, [1, 2, 2, 3, 3, 4], rfl, gG.new.ex e1, vat_ne n1 gG.new, t1, by simp, by decide, fun nn G2 g2 hnn => ?_⟩
      obtain ⟨n, rfl⟩ : ∃ n : Nat, nn = (n : Int) := ⟨nn.toNat, by simp only [List.mem_cons, List.not_mem_nil, or_false] at hnn; omega⟩
      have hn : 1 ≤ n ∧ n ≤ 4 := by simp only [List.mem_cons, List.not_mem_nil, or_false] at hnn; omega
      walk_at "rd"
      refine ⟨v, n, rfl, g2.new, hn.1, by omega, fun x G3 cs g3 hx hN sp => ?_⟩
      obtain ⟨p, rfl, hp⟩ := hx
      walk_at "rd"
      have gok := gcd_of sp
      refine ⟨cs, ⟨p, rfl, hp⟩, rowok_of hN hn.1 (by omega) sp, fun x G4 e4 hrow => ?_⟩
      have gG4 := ((((gG.ex e1).trans g2).trans g3).ex e4)
      have hn1 := hn.1
      have hn4 := hn.2
      have nps := (num_plain hN gok).mono (b := 2 ^ 110) (by decide)
      have psp := plain_sum sp
      obtain ⟨m, hm⟩ : ∃ m : Int, m = if (n : Int) < 4 then 10 - (n : Int) else 4 := ⟨_, rfl⟩
      have m0 : 4 ≤ m ∧ m ≤ 10 ∧ (n : Int) + m ≤ 10 := by rw [hm]; split <;> omega
      obtain ⟨R0, hR⟩ : ∃ R : VK, R = fun y G' => y = .int m ∧ G' = G4 := ⟨_, rfl⟩
      refine ⟨R0, ?_, fun y G' h => ?_⟩
      · walk_at "rd"
        rw [hR, hm]
        by_cases h4 : (n : Int) < 4
        · rw [if_pos h4, if_pos h4]
          exact ⟨rfl, rfl⟩
        · rw [if_neg h4, if_neg h4]
          exact ⟨rfl, rfl⟩
      · rw [hR] at h
        obtain ⟨rfl, rfl⟩ := h
        refine ⟨v, m, rfl, gG4.new, by omega, log_sm (by omega) (by omega), fun r G5 g5 r0 r1 => ?_⟩
        walk_at "rd"
        obtain ⟨N, hNN⟩ : ∃ N : Nat, (n : Int) + r = (N : Int) := ⟨((n : Int) + r).toNat, by omega⟩
        rw [hNN]
        have nN : n ≤ N := by omega
        have N10 : N < 10 := by omega
        have hp5 : SqT K G5 p (cs.map V.int) := sqT_kp (sqT_kp hp e4.kp) g5.kp
        have hr5 : IsRow K C G5 x (plainL cs) := hrow.kp g5.kp
        refine ⟨p, cs, N, n, rfl, hp5, hN, by omega, sp, by omega, fun l G6 ds e6 hd hsh hds => ?_⟩
        refine ⟨by decide, fun E0 G7 n7 e7 t7 => ?_⟩
        refine ⟨_, _, dp_kp e7 _ _ hd, .lst (.of t7) .nil, hsh, rfl, ?_⟩
        rw [eqv_lnil]
        obtain ⟨due, hdue⟩ : ∃ due, due = comeG (plainL cs) N := ⟨_, rfl⟩
        have edue : (!ds.isEmpty) = due := by
          have := come_points hN hn1 hn4 sp gok nN
          rw [← hdue] at this
          cases due with
          | true =>
            have h1 := this.mp rfl
            have : ds ≠ [] := fun z => (hds.mp z) h1
            simp [this]
          | false =>
            have h1 : ¬ ∃ pts ∈ lotsOf (n + 1) (upto N), goodL cs N n pts := fun z => by
              have := this.mpr z
              cases this
            have : ds = [] := hds.mpr h1
            simp [this]
        rw [edue]
        have e67 := e6.trans e7
        have hr7 := hr5.kp e67.kp
        refine ⟨x, plainL cs, N, n, rfl, hr7, nps, hn1, hn4, psp, by omega, Nat.lt_of_lt_of_le N10 (by decide), fun G8 e8 => ?_⟩
        refine ⟨x, plainL cs, N, n, rfl, hr7.kp e8.kp, nps, hn1, hn4, psp, by omega, Nat.lt_of_lt_of_le N10 (by decide), fun G9 e9 => ?_⟩
        rw [← hdue]
        have gtwo : ∀ b : Bool, Gd (.list [.bool b, .bool b]) 1 (2 * (1930 + 2) + 3) := fun b => by
          refine Gd.list (k := 0) (c := 1930) (n := 2) (fun d hd => ?_) (Nat.le_refl _)
          simp only [List.mem_cons, List.not_mem_nil, or_false] at hd
          rcases hd with rfl | rfl <;> exact Gd.bool b
        refine ⟨by decide, fun q1 G10 n10 e10 t10 => ?_⟩
        refine ⟨_, .list [.bool due, .bool due], 1, _, rfl, .lst (.of t10) (.cons (.bl _) (.cons (.bl _) .nil)), ⟨_, rfl⟩, gtwo due, by decide, by decide, ?_⟩
        refine ⟨by decide, fun q2 G11 n11 e11 t11 => ?_⟩
        refine ⟨_, .list [.bool due, .bool due], 1, _, rfl, .lst (.of t11) (.cons (.bl _) (.cons (.bl _) .nil)), ⟨_, rfl⟩, gtwo due, by decide, by decide, ?_⟩
        walk_at "rd"
        have e811 := ((e8.trans e9).trans e10).trans e11
        have hr11 := hr7.kp e811.kp
        have gG11 := ((gG4.trans g5).ex e67).ex e811
        refine ⟨x, plainL cs, n, n, rfl, hr11, nps, hn1, hn4, psp, by omega, Nat.lt_of_le_of_lt hn4 (by decide), fun G12 e12 => ?_⟩
        refine ⟨_, _, rfl, rfl, _, rfl, ?_⟩
        rw [come_all hN hn1 hn4 sp gok, if_neg (by decide)]
        by_cases n2 : 1 < (n : Int)
        · rw [if_pos n2]
          refine ⟨x, plainL cs, n - 1, n, by rw [show (n : Int) - 1 = ((n - 1 : Nat) : Int) by omega], hr11.kp e12.kp, nps, hn1, hn4, psp, by omega, Nat.lt_of_le_of_lt (show n - 1 ≤ 4 by omega) (by decide), fun G13 e13 => ?_⟩
          refine ⟨_, _, rfl, rfl, _, rfl, ?_⟩
          rw [come_below hN.1 (by omega), if_neg (by decide), hP]
          exact ⟨_, _, _, _, _, _, rfl, (gG11.ex e12).ex e13⟩
        · rw [if_neg n2, hP]
          exact ⟨_, _, _, _, _, _, rfl, gG11.ex e12⟩
    · intro σ' G h
      rw [hP] at h
      obtain ⟨s1, s2, s3, s4, s5, s6, rfl, gG⟩ := h
      walk_at "rd"
      exact k G gG
end

section
variable {P : Program} {w : World} {K : PySem.W.Frag} {mg : Str → Option Value} {base : Heap}
/-! ### _law_quiet, law -/
def spLaw (K : PySem.W.Frag) : Sp := fun vs H Q _ => ∃ (a : Addr) (ns : List Int), vs = [.ref a] ∧ SqL K H a (ns.map V.int) ∧ ns.length ≤ 63 ∧ ∀ H', Q (.bl true) H'
theorem scLaw : FnScope ["script", "spot"] ["script"] (defScope (top 59)) := ⟨rfl, rfl, rfl, by decide +kernel, rfl, by decide +kernel, by decide +kernel⟩
theorem ok_law (B : Bi mg) (h_law_well : Has P w K mg base "_law_well" 1 ["script", "spot"] (spWell K)) (h_law_right : HasG P w K mg base "_law_right" 11 ["well"] spRight) {f : Addr} {fd : FuncData} (F : Fun K "law" "law" (top 59) f fd) : FnG P w K mg base 12 f fd ["script"] (spLaw K) := by
  have sc := scLaw
  refine okG F sc (fun vs H Q E h => ?_) (fun cdv A outer s H vs Q E hgd hr h => ?_)
  · obtain ⟨a, ns, rfl, _⟩ := h
    rfl
  · obtain ⟨a, ns, rfl, hS, hlen, k⟩ := h
    refine ⟨_, (pss_one (ps_ret (pe_callB (kAll (K := K) rfl) (by rfl) B.all (by decide +kernel) (pa_cons (pe_lc (own := [("spot", 1)]) (g := gName 1) (tt := tYes) rfl sc.nd (pi_range1 (by rfl) B.range (pa_cons (pe_callB (call_max2 rfl) (by rfl) B.max (by decide +kernel) (pa_cons pe_int (pa_cons (pe_callB (call_min2 rfl) (by rfl) B.min (by decide +kernel) (pa_cons (pe_callB (kLen (K := K)) (by rfl) B.len (by decide +kernel) (pa_cons (pv 0) pa_nil)) (pa_cons pe_int pa_nil))) pa_nil))) pa_nil)) (blkOk_by (N := (["script", "spot"] : List Str)) (sc := defScope (top 59)) (by decide +kernel)) (fun _ _ _ _ _ => (pg_name (i := 1) sc.nd rfl (by first | exact Or.inl rfl | exact Or.inr rfl))) (fun _ _ _ _ _ => pts_nil) (fun _ _ _ _ _ => (PE.mon (pe_hasG h_law_right hgd (hr.mono (by decide)) (pa_cons (pe_has h_law_well (hr.mono (by decide)) (pa_cons (pv 0) (pa_cons (pv 1) pa_nil))) pa_nil))))) pa_nil)))), ?_⟩
    walk_at "rd"
    refine ⟨_, .inl hS, ?_⟩
    rw [List.length_map]
    generalize hm : (if (if _ < ((ns.length : Nat) : Int) then _ else ((ns.length : Nat) : Int)) > 2 then (if _ < ((ns.length : Nat) : Int) then _ else ((ns.length : Nat) : Int)) else (2 : Int)) = m
    have m5 : 0 ≤ m ∧ m ≤ 5 := by
      rw [← hm]
      repeat' split
      all_goals omega
    refine ⟨by omega, by omega, fun Dd hD => lcR (fun _ y _ => y = .bl true) (fun _ _ _ _ _ h => h) hD (by omega) (fun _ => rfl) ?_ ?_⟩
    · intro i G hi e
      obtain ⟨R0, hR⟩ : ∃ R : VK, R = fun y G' => Ex G G' ∧ y = .bl true := ⟨_, rfl⟩
      refine ⟨R0, ?_, fun y G' h => by rw [hR] at h; exact h⟩
      walk_at "rd"
      refine ⟨a, ns, _, rfl, sqL_ex hS e, hlen, by omega, by omega, fun v G2 n2 e2 hv => ⟨v, rfl, hv, fun G3 g => ?_⟩⟩
      rw [hR]
      exact ⟨Gv.out n2 e2 g, rfl⟩
    · intro G ys e hy hl hr2
      have ey : ys = (List.replicate m.toNat true).map V.bl := by
        apply List.ext_getElem?
        intro i
        by_cases hi : i < ys.length
        · rw [List.getElem?_eq_getElem hi, hr2 i _ (List.getElem?_eq_getElem hi)]
          simp [List.getElem?_replicate, show i < m.toNat by omega]
        · rw [List.getElem?_eq_none (by omega), List.getElem?_eq_none (by simp; omega)]
      rw [ey] at hy
      refine ⟨Dd, _, rfl, .of hy, ?_⟩
      have : (List.replicate m.toNat true).all id = true := by simp
      rw [this]
      exact k _
end

/-! ### the end -/
theorem all_mk {l : PySem.W.OpenLaw} {w : World} {K : PySem.W.Frag} {h : Heap} {mg : Str → Option Value} {fa : Addr} (X : K.In h) (G : h.Ns mainGlobals mg) (hfa : mg "law" = some (.ref fa))
    {f1 : Addr} {od1 an1 : Option Addr} {sl1 : Array (Option Value)} {oc1 kV1 dc1 pm1 cd1 ct1 : Value}
    {f2 : Addr} {od2 an2 : Option Addr} {sl2 : Array (Option Value)} {oc2 kV2 dc2 pm2 cd2 ct2 : Value}
    {f3 : Addr} {od3 an3 : Option Addr} {sl3 : Array (Option Value)} {oc3 kV3 dc3 pm3 cd3 ct3 : Value}
    {f4 : Addr} {od4 an4 : Option Addr} {sl4 : Array (Option Value)} {oc4 kV4 dc4 pm4 cd4 ct4 : Value}
    {f5 : Addr} {od5 an5 : Option Addr} {sl5 : Array (Option Value)} {oc5 kV5 dc5 pm5 cd5 ct5 : Value}
    {f6 : Addr} {od6 an6 : Option Addr} {sl6 : Array (Option Value)} {oc6 kV6 dc6 pm6 cd6 ct6 : Value}
    {f7 : Addr} {od7 an7 : Option Addr} {sl7 : Array (Option Value)} {oc7 kV7 dc7 pm7 cd7 ct7 : Value}
    {f8 : Addr} {od8 an8 : Option Addr} {sl8 : Array (Option Value)} {oc8 kV8 dc8 pm8 cd8 ct8 : Value}
    {f9 : Addr} {od9 an9 : Option Addr} {sl9 : Array (Option Value)} {oc9 kV9 dc9 pm9 cd9 ct9 : Value}
    {f10 : Addr} {od10 an10 : Option Addr} {sl10 : Array (Option Value)} {oc10 kV10 dc10 pm10 cd10 ct10 : Value}
    {f11 : Addr} {od11 an11 : Option Addr} {sl11 : Array (Option Value)} {oc11 kV11 dc11 pm11 cd11 ct11 : Value}
    {f12 : Addr} {od12 an12 : Option Addr} {sl12 : Array (Option Value)} {oc12 kV12 dc12 pm12 cd12 ct12 : Value}
    {f13 : Addr} {od13 an13 : Option Addr} {sl13 : Array (Option Value)} {oc13 kV13 dc13 pm13 cd13 ct13 : Value}
    {f14 : Addr} {od14 an14 : Option Addr} {sl14 : Array (Option Value)} {oc14 kV14 dc14 pm14 cd14 ct14 : Value}
    {f15 : Addr} {od15 an15 : Option Addr} {sl15 : Array (Option Value)} {oc15 kV15 dc15 pm15 cd15 ct15 : Value}
    {f16 : Addr} {od16 an16 : Option Addr} {sl16 : Array (Option Value)} {oc16 kV16 dc16 pm16 cd16 ct16 : Value}
    {f17 : Addr} {od17 an17 : Option Addr} {sl17 : Array (Option Value)} {oc17 kV17 dc17 pm17 cd17 ct17 : Value}
    {f18 : Addr} {od18 an18 : Option Addr} {sl18 : Array (Option Value)} {oc18 kV18 dc18 pm18 cd18 ct18 : Value}
    {f19 : Addr} {od19 an19 : Option Addr} {sl19 : Array (Option Value)} {oc19 kV19 dc19 pm19 cd19 ct19 : Value}
    {f20 : Addr} {od20 an20 : Option Addr} {sl20 : Array (Option Value)} {oc20 kV20 dc20 pm20 cd20 ct20 : Value}
    {f21 : Addr} {od21 an21 : Option Addr} {sl21 : Array (Option Value)} {oc21 kV21 dc21 pm21 cd21 ct21 : Value}
    {f22 : Addr} {od22 an22 : Option Addr} {sl22 : Array (Option Value)} {oc22 kV22 dc22 pm22 cd22 ct22 : Value}
    {f23 : Addr} {od23 an23 : Option Addr} {sl23 : Array (Option Value)} {oc23 kV23 dc23 pm23 cd23 ct23 : Value}
    {f24 : Addr} {od24 an24 : Option Addr} {sl24 : Array (Option Value)} {oc24 kV24 dc24 pm24 cd24 ct24 : Value}
    {f25 : Addr} {od25 an25 : Option Addr} {sl25 : Array (Option Value)} {oc25 kV25 dc25 pm25 cd25 ct25 : Value}
    {f26 : Addr} {od26 an26 : Option Addr} {sl26 : Array (Option Value)} {oc26 kV26 dc26 pm26 cd26 ct26 : Value}
    {f27 : Addr} {od27 an27 : Option Addr} {sl27 : Array (Option Value)} {oc27 kV27 dc27 pm27 cd27 ct27 : Value}
    {f28 : Addr} {od28 an28 : Option Addr} {sl28 : Array (Option Value)} {oc28 kV28 dc28 pm28 cd28 ct28 : Value}
    {f29 : Addr} {od29 an29 : Option Addr} {sl29 : Array (Option Value)} {oc29 kV29 dc29 pm29 cd29 ct29 : Value}
    {f30 : Addr} {od30 an30 : Option Addr} {sl30 : Array (Option Value)} {oc30 kV30 dc30 pm30 cd30 ct30 : Value}
    {f31 : Addr} {od31 an31 : Option Addr} {sl31 : Array (Option Value)} {oc31 kV31 dc31 pm31 cd31 ct31 : Value}
    {f32 : Addr} {od32 an32 : Option Addr} {sl32 : Array (Option Value)} {oc32 kV32 dc32 pm32 cd32 ct32 : Value}
    {f33 : Addr} {od33 an33 : Option Addr} {sl33 : Array (Option Value)} {oc33 kV33 dc33 pm33 cd33 ct33 : Value}
    {f34 : Addr} {od34 an34 : Option Addr} {sl34 : Array (Option Value)} {oc34 kV34 dc34 pm34 cd34 ct34 : Value}
    {f35 : Addr} {od35 an35 : Option Addr} {sl35 : Array (Option Value)} {oc35 kV35 dc35 pm35 cd35 ct35 : Value}
    {f36 : Addr} {od36 an36 : Option Addr} {sl36 : Array (Option Value)} {oc36 kV36 dc36 pm36 cd36 ct36 : Value}
    {f37 : Addr} {od37 an37 : Option Addr} {sl37 : Array (Option Value)} {oc37 kV37 dc37 pm37 cd37 ct37 : Value}
    {f38 : Addr} {od38 an38 : Option Addr} {sl38 : Array (Option Value)} {oc38 kV38 dc38 pm38 cd38 ct38 : Value}
    {f39 : Addr} {od39 an39 : Option Addr} {sl39 : Array (Option Value)} {oc39 kV39 dc39 pm39 cd39 ct39 : Value}
    {C : Addr}
    {f40 : Addr} {od40 an40 : Option Addr} {sl40 : Array (Option Value)} {oc40 kV40 dc40 pm40 cd40 ct40 : Value}
    {f41 : Addr} {od41 an41 : Option Addr} {sl41 : Array (Option Value)} {oc41 kV41 dc41 pm41 cd41 ct41 : Value}
    {f42 p42 : Addr} {r42 : List Value} {od42 an42 : Option Addr} {sl42 : Array (Option Value)} {oc42 kV42 dc42 pm42 cd42 ct42 : Value}
    {f43 p43 : Addr} {r43 : List Value} {od43 an43 : Option Addr} {sl43 : Array (Option Value)} {oc43 kV43 dc43 pm43 cd43 ct43 : Value}
    {N : Addr} {nm qn : Str} {bs : List Value} {hdct : Bool} {sn : List Str} {sub : List Value} {ab : Bool} {col : Option Bool} {dd : Option Addr} {q0 q1 q2 q3 q5 : Option Value} {newId : String}
    {tk tk2 : Tok}
    (a1 : PySem.W.nsIn K mainGlobals "_law_well" = some (some (.ref f1)))
    (l1 : K.lookup f1 = some ⟨oc1, od1, .func (PySem.W.fnOf "_law_well" "_law_well" (defArgs (top 40)) (defBody (top 40)) (defScope (top 40)) .none kV1 dc1 pm1 an1 cd1 ct1), sl1⟩)
    (c1 : PySem.W.codeIn K cd1 "_law_well" = true)
    (k1 : PySem.W.keepIn K (.ref f1) = true)
    (a2 : PySem.W.nsIn K mainGlobals "_law_draw" = some (some (.ref f2)))
    (l2 : K.lookup f2 = some ⟨oc2, od2, .func (PySem.W.fnOf "_law_draw" "_law_draw" (defArgs (top 41)) (defBody (top 41)) (defScope (top 41)) .none kV2 dc2 pm2 an2 cd2 ct2), sl2⟩)
    (c2 : PySem.W.codeIn K cd2 "_law_draw" = true)
    (k2 : PySem.W.keepIn K (.ref f2) = true)
    (a3 : PySem.W.nsIn K mainGlobals "_law_pick" = some (some (.ref f3)))
    (l3 : K.lookup f3 = some ⟨oc3, od3, .func (PySem.W.fnOf "_law_pick" "_law_pick" (defArgs (top 42)) (defBody (top 42)) (defScope (top 42)) .none kV3 dc3 pm3 an3 cd3 ct3), sl3⟩)
    (c3 : PySem.W.codeIn K cd3 "_law_pick" = true)
    (k3 : PySem.W.keepIn K (.ref f3) = true)
    (a4 : PySem.W.nsIn K mainGlobals "_law_shared" = some (some (.ref f4)))
    (l4 : K.lookup f4 = some ⟨oc4, od4, .func (PySem.W.fnOf "_law_shared" "_law_shared" (defArgs (top 43)) (defBody (top 43)) (defScope (top 43)) .none kV4 dc4 pm4 an4 cd4 ct4), sl4⟩)
    (c4 : PySem.W.codeIn K cd4 "_law_shared" = true)
    (k4 : PySem.W.keepIn K (.ref f4) = true)
    (a5 : PySem.W.nsIn K mainGlobals "_law_low" = some (some (.ref f5)))
    (l5 : K.lookup f5 = some ⟨oc5, od5, .func (PySem.W.fnOf "_law_low" "_law_low" (defArgs (top 44)) (defBody (top 44)) (defScope (top 44)) .none kV5 dc5 pm5 an5 cd5 ct5), sl5⟩)
    (c5 : PySem.W.codeIn K cd5 "_law_low" = true)
    (k5 : PySem.W.keepIn K (.ref f5) = true)
    (a6 : PySem.W.nsIn K mainGlobals "_law_plus" = some (some (.ref f6)))
    (l6 : K.lookup f6 = some ⟨oc6, od6, .func (PySem.W.fnOf "_law_plus" "_law_plus" (defArgs (top 45)) (defBody (top 45)) (defScope (top 45)) .none kV6 dc6 pm6 an6 cd6 ct6), sl6⟩)
    (c6 : PySem.W.codeIn K cd6 "_law_plus" = true)
    (k6 : PySem.W.keepIn K (.ref f6) = true)
    (a7 : PySem.W.nsIn K mainGlobals "_law_mul" = some (some (.ref f7)))
    (l7 : K.lookup f7 = some ⟨oc7, od7, .func (PySem.W.fnOf "_law_mul" "_law_mul" (defArgs (top 46)) (defBody (top 46)) (defScope (top 46)) .none kV7 dc7 pm7 an7 cd7 ct7), sl7⟩)
    (c7 : PySem.W.codeIn K cd7 "_law_mul" = true)
    (k7 : PySem.W.keepIn K (.ref f7) = true)
    (a8 : PySem.W.nsIn K mainGlobals "_law_choose" = some (some (.ref f8)))
    (l8 : K.lookup f8 = some ⟨oc8, od8, .func (PySem.W.fnOf "_law_choose" "_law_choose" (defArgs (top 47)) (defBody (top 47)) (defScope (top 47)) .none kV8 dc8 pm8 an8 cd8 ct8), sl8⟩)
    (c8 : PySem.W.codeIn K cd8 "_law_choose" = true)
    (k8 : PySem.W.keepIn K (.ref f8) = true)
    (a9 : PySem.W.nsIn K mainGlobals "_law_all_yes" = some (some (.ref f9)))
    (l9 : K.lookup f9 = some ⟨oc9, od9, .func (PySem.W.fnOf "_law_all_yes" "_law_all_yes" (defArgs (top 48)) (defBody (top 48)) (defScope (top 48)) .none kV9 dc9 pm9 an9 cd9 ct9), sl9⟩)
    (c9 : PySem.W.codeIn K cd9 "_law_all_yes" = true)
    (k9 : PySem.W.keepIn K (.ref f9) = true)
    (a10 : PySem.W.nsIn K mainGlobals "_law_mean" = some (some (.ref f10)))
    (l10 : K.lookup f10 = some ⟨oc10, od10, .func (PySem.W.fnOf "_law_mean" "_law_mean" (defArgs (top 49)) (defBody (top 49)) (defScope (top 49)) .none kV10 dc10 pm10 an10 cd10 ct10), sl10⟩)
    (c10 : PySem.W.codeIn K cd10 "_law_mean" = true)
    (k10 : PySem.W.keepIn K (.ref f10) = true)
    (a11 : PySem.W.nsIn K mainGlobals "_law_value" = some (some (.ref f11)))
    (l11 : K.lookup f11 = some ⟨oc11, od11, .func (PySem.W.fnOf "_law_value" "_law_value" (defArgs (top 50)) (defBody (top 50)) (defScope (top 50)) .none kV11 dc11 pm11 an11 cd11 ct11), sl11⟩)
    (c11 : PySem.W.codeIn K cd11 "_law_value" = true)
    (k11 : PySem.W.keepIn K (.ref f11) = true)
    (a12 : PySem.W.nsIn K mainGlobals "_law_lots" = some (some (.ref f12)))
    (l12 : K.lookup f12 = some ⟨oc12, od12, .func (PySem.W.fnOf "_law_lots" "_law_lots" (defArgs (top 51)) (defBody (top 51)) (defScope (top 51)) .none kV12 dc12 pm12 an12 cd12 ct12), sl12⟩)
    (c12 : PySem.W.codeIn K cd12 "_law_lots" = true)
    (k12 : PySem.W.keepIn K (.ref f12) = true)
    (a13 : PySem.W.nsIn K mainGlobals "_law_shares" = some (some (.ref f13)))
    (l13 : K.lookup f13 = some ⟨oc13, od13, .func (PySem.W.fnOf "_law_shares" "_law_shares" (defArgs (top 52)) (defBody (top 52)) (defScope (top 52)) .none kV13 dc13 pm13 an13 cd13 ct13), sl13⟩)
    (c13 : PySem.W.codeIn K cd13 "_law_shares" = true)
    (k13 : PySem.W.keepIn K (.ref f13) = true)
    (a14 : PySem.W.nsIn K mainGlobals "_law_fits" = some (some (.ref f14)))
    (l14 : K.lookup f14 = some ⟨oc14, od14, .func (PySem.W.fnOf "_law_fits" "_law_fits" (defArgs (top 53)) (defBody (top 53)) (defScope (top 53)) .none kV14 dc14 pm14 an14 cd14 ct14), sl14⟩)
    (c14 : PySem.W.codeIn K cd14 "_law_fits" = true)
    (k14 : PySem.W.keepIn K (.ref f14) = true)
    (a15 : PySem.W.nsIn K mainGlobals "_law_urn" = some (some (.ref f15)))
    (l15 : K.lookup f15 = some ⟨oc15, od15, .func (PySem.W.fnOf "_law_urn" "_law_urn" (defArgs (top 54)) (defBody (top 54)) (defScope (top 54)) .none kV15 dc15 pm15 an15 cd15 ct15), sl15⟩)
    (c15 : PySem.W.codeIn K cd15 "_law_urn" = true)
    (k15 : PySem.W.keepIn K (.ref f15) = true)
    (a16 : PySem.W.nsIn K mainGlobals "_law_mixed" = some (some (.ref f16)))
    (l16 : K.lookup f16 = some ⟨oc16, od16, .func (PySem.W.fnOf "_law_mixed" "_law_mixed" (defArgs (top 55)) (defBody (top 55)) (defScope (top 55)) .none kV16 dc16 pm16 an16 cd16 ct16), sl16⟩)
    (c16 : PySem.W.codeIn K cd16 "_law_mixed" = true)
    (k16 : PySem.W.keepIn K (.ref f16) = true)
    (a17 : PySem.W.nsIn K mainGlobals "_law_coin" = some (some (.ref f17)))
    (l17 : K.lookup f17 = some ⟨oc17, od17, .func (PySem.W.fnOf "_law_coin" "_law_coin" (defArgs (top 56)) (defBody (top 56)) (defScope (top 56)) .none kV17 dc17 pm17 an17 cd17 ct17), sl17⟩)
    (c17 : PySem.W.codeIn K cd17 "_law_coin" = true)
    (k17 : PySem.W.keepIn K (.ref f17) = true)
    (a18 : PySem.W.nsIn K mainGlobals "_law_row" = some (some (.ref f18)))
    (l18 : K.lookup f18 = some ⟨oc18, od18, .func (PySem.W.fnOf "_law_row" "_law_row" (defArgs (top 57)) (defBody (top 57)) (defScope (top 57)) .none kV18 dc18 pm18 an18 cd18 ct18), sl18⟩)
    (c18 : PySem.W.codeIn K cd18 "_law_row" = true)
    (k18 : PySem.W.keepIn K (.ref f18) = true)
    (a19 : PySem.W.nsIn K mainGlobals "_law_right" = some (some (.ref f19)))
    (l19 : K.lookup f19 = some ⟨oc19, od19, .func (PySem.W.fnOf "_law_right" "_law_right" (defArgs (top 58)) (defBody (top 58)) (defScope (top 58)) .none kV19 dc19 pm19 an19 cd19 ct19), sl19⟩)
    (c19 : PySem.W.codeIn K cd19 "_law_right" = true)
    (k19 : PySem.W.keepIn K (.ref f19) = true)
    (a20 : PySem.W.nsIn K mainGlobals "is_whole" = some (some (.ref f20)))
    (l20 : K.lookup f20 = some ⟨oc20, od20, .func (PySem.W.fnOf "is_whole" "is_whole" (defArgs (top 11)) (defBody (top 11)) (defScope (top 11)) .none kV20 dc20 pm20 an20 cd20 ct20), sl20⟩)
    (c20 : PySem.W.codeIn K cd20 "is_whole" = true)
    (k20 : PySem.W.keepIn K (.ref f20) = true)
    (a21 : PySem.W.nsIn K mainGlobals "check_number" = some (some (.ref f21)))
    (l21 : K.lookup f21 = some ⟨oc21, od21, .func (PySem.W.fnOf "check_number" "check_number" (defArgs (top 12)) (defBody (top 12)) (defScope (top 12)) .none kV21 dc21 pm21 an21 cd21 ct21), sl21⟩)
    (c21 : PySem.W.codeIn K cd21 "check_number" = true)
    (k21 : PySem.W.keepIn K (.ref f21) = true)
    (a22 : PySem.W.nsIn K mainGlobals "check_row" = some (some (.ref f22)))
    (l22 : K.lookup f22 = some ⟨oc22, od22, .func (PySem.W.fnOf "check_row" "check_row" (defArgs (top 20)) (defBody (top 20)) (defScope (top 20)) .none kV22 dc22 pm22 an22 cd22 ct22), sl22⟩)
    (c22 : PySem.W.codeIn K cd22 "check_row" = true)
    (k22 : PySem.W.keepIn K (.ref f22) = true)
    (a23 : PySem.W.nsIn K mainGlobals "_check_counts" = some (some (.ref f23)))
    (l23 : K.lookup f23 = some ⟨oc23, od23, .func (PySem.W.fnOf "_check_counts" "_check_counts" (defArgs (top 21)) (defBody (top 21)) (defScope (top 21)) .none kV23 dc23 pm23 an23 cd23 ct23), sl23⟩)
    (c23 : PySem.W.codeIn K cd23 "_check_counts" = true)
    (k23 : PySem.W.keepIn K (.ref f23) = true)
    (a24 : PySem.W.nsIn K mainGlobals "comes" = some (some (.ref f24)))
    (l24 : K.lookup f24 = some ⟨oc24, od24, .func (PySem.W.fnOf "comes" "comes" (defArgs (top 24)) (defBody (top 24)) (defScope (top 24)) .none kV24 dc24 pm24 an24 cd24 ct24), sl24⟩)
    (c24 : PySem.W.codeIn K cd24 "comes" = true)
    (k24 : PySem.W.keepIn K (.ref f24) = true)
    (a25 : PySem.W.nsIn K mainGlobals "does_come" = some (some (.ref f25)))
    (l25 : K.lookup f25 = some ⟨oc25, od25, .func (PySem.W.fnOf "does_come" "does_come" (defArgs (top 25)) (defBody (top 25)) (defScope (top 25)) .none kV25 dc25 pm25 an25 cd25 ct25), sl25⟩)
    (c25 : PySem.W.codeIn K cd25 "does_come" = true)
    (k25 : PySem.W.keepIn K (.ref f25) = true)
    (a26 : PySem.W.nsIn K mainGlobals "yes_sums" = some (some (.ref f26)))
    (l26 : K.lookup f26 = some ⟨oc26, od26, .func (PySem.W.fnOf "yes_sums" "yes_sums" (defArgs (top 26)) (defBody (top 26)) (defScope (top 26)) .none kV26 dc26 pm26 an26 cd26 ct26), sl26⟩)
    (c26 : PySem.W.codeIn K cd26 "yes_sums" = true)
    (k26 : PySem.W.keepIn K (.ref f26) = true)
    (a27 : PySem.W.nsIn K mainGlobals "row_sums" = some (some (.ref f27)))
    (l27 : K.lookup f27 = some ⟨oc27, od27, .func (PySem.W.fnOf "row_sums" "row_sums" (defArgs (top 27)) (defBody (top 27)) (defScope (top 27)) .none kV27 dc27 pm27 an27 cd27 ct27), sl27⟩)
    (c27 : PySem.W.codeIn K cd27 "row_sums" = true)
    (k27 : PySem.W.keepIn K (.ref f27) = true)
    (a28 : PySem.W.nsIn K mainGlobals "times" = some (some (.ref f28)))
    (l28 : K.lookup f28 = some ⟨oc28, od28, .func (PySem.W.fnOf "times" "times" (defArgs (top 28)) (defBody (top 28)) (defScope (top 28)) .none kV28 dc28 pm28 an28 cd28 ct28), sl28⟩)
    (c28 : PySem.W.codeIn K cd28 "times" = true)
    (k28 : PySem.W.keepIn K (.ref f28) = true)
    (a29 : PySem.W.nsIn K mainGlobals "mean_on" = some (some (.ref f29)))
    (l29 : K.lookup f29 = some ⟨oc29, od29, .func (PySem.W.fnOf "mean_on" "mean_on" (defArgs (top 29)) (defBody (top 29)) (defScope (top 29)) .none kV29 dc29 pm29 an29 cd29 ct29), sl29⟩)
    (c29 : PySem.W.codeIn K cd29 "mean_on" = true)
    (k29 : PySem.W.keepIn K (.ref f29) = true)
    (a30 : PySem.W.nsIn K mainGlobals "lowest_points" = some (some (.ref f30)))
    (l30 : K.lookup f30 = some ⟨oc30, od30, .func (PySem.W.fnOf "lowest_points" "lowest_points" (defArgs (top 30)) (defBody (top 30)) (defScope (top 30)) .none kV30 dc30 pm30 an30 cd30 ct30), sl30⟩)
    (c30 : PySem.W.codeIn K cd30 "lowest_points" = true)
    (k30 : PySem.W.keepIn K (.ref f30) = true)
    (a31 : PySem.W.nsIn K mainGlobals "highest_points" = some (some (.ref f31)))
    (l31 : K.lookup f31 = some ⟨oc31, od31, .func (PySem.W.fnOf "highest_points" "highest_points" (defArgs (top 31)) (defBody (top 31)) (defScope (top 31)) .none kV31 dc31 pm31 an31 cd31 ct31), sl31⟩)
    (c31 : PySem.W.codeIn K cd31 "highest_points" = true)
    (k31 : PySem.W.keepIn K (.ref f31) = true)
    (a32 : PySem.W.nsIn K mainGlobals "broken_points" = some (some (.ref f32)))
    (l32 : K.lookup f32 = some ⟨oc32, od32, .func (PySem.W.fnOf "broken_points" "broken_points" (defArgs (top 32)) (defBody (top 32)) (defScope (top 32)) .none kV32 dc32 pm32 an32 cd32 ct32), sl32⟩)
    (c32 : PySem.W.codeIn K cd32 "broken_points" = true)
    (k32 : PySem.W.keepIn K (.ref f32) = true)
    (a33 : PySem.W.nsIn K mainGlobals "_check" = some (some (.ref f33)))
    (l33 : K.lookup f33 = some ⟨oc33, od33, .func (PySem.W.fnOf "_check" "_check" (defArgs (top 33)) (defBody (top 33)) (defScope (top 33)) .none kV33 dc33 pm33 an33 cd33 ct33), sl33⟩)
    (c33 : PySem.W.codeIn K cd33 "_check" = true)
    (k33 : PySem.W.keepIn K (.ref f33) = true)
    (a34 : PySem.W.nsIn K mainGlobals "_pairs" = some (some (.ref f34)))
    (l34 : K.lookup f34 = some ⟨oc34, od34, .func (PySem.W.fnOf "_pairs" "_pairs" (defArgs (top 34)) (defBody (top 34)) (defScope (top 34)) .none kV34 dc34 pm34 an34 cd34 ct34), sl34⟩)
    (c34 : PySem.W.codeIn K cd34 "_pairs" = true)
    (k34 : PySem.W.keepIn K (.ref f34) = true)
    (a35 : PySem.W.nsIn K mainGlobals "_place" = some (some (.ref f35)))
    (l35 : K.lookup f35 = some ⟨oc35, od35, .func (PySem.W.fnOf "_place" "_place" (defArgs (top 35)) (defBody (top 35)) (defScope (top 35)) .none kV35 dc35 pm35 an35 cd35 ct35), sl35⟩)
    (c35 : PySem.W.codeIn K cd35 "_place" = true)
    (k35 : PySem.W.keepIn K (.ref f35) = true)
    (a36 : PySem.W.nsIn K mainGlobals "_side" = some (some (.ref f36)))
    (l36 : K.lookup f36 = some ⟨oc36, od36, .func (PySem.W.fnOf "_side" "_side" (defArgs (top 36)) (defBody (top 36)) (defScope (top 36)) .none kV36 dc36 pm36 an36 cd36 ct36), sl36⟩)
    (c36 : PySem.W.codeIn K cd36 "_side" = true)
    (k36 : PySem.W.keepIn K (.ref f36) = true)
    (a37 : PySem.W.nsIn K mainGlobals "_about" = some (some (.ref f37)))
    (l37 : K.lookup f37 = some ⟨oc37, od37, .func (PySem.W.fnOf "_about" "_about" (defArgs (top 37)) (defBody (top 37)) (defScope (top 37)) .none kV37 dc37 pm37 an37 cd37 ct37), sl37⟩)
    (c37 : PySem.W.codeIn K cd37 "_about" = true)
    (k37 : PySem.W.keepIn K (.ref f37) = true)
    (a38 : PySem.W.nsIn K mainGlobals "_lower_root" = some (some (.ref f38)))
    (l38 : K.lookup f38 = some ⟨oc38, od38, .func (PySem.W.fnOf "_lower_root" "_lower_root" (defArgs (top 38)) (defBody (top 38)) (defScope (top 38)) .none kV38 dc38 pm38 an38 cd38 ct38), sl38⟩)
    (c38 : PySem.W.codeIn K cd38 "_lower_root" = true)
    (k38 : PySem.W.keepIn K (.ref f38) = true)
    (a39 : PySem.W.nsIn K mainGlobals "law" = some (some (.ref f39)))
    (l39 : K.lookup f39 = some ⟨oc39, od39, .func (PySem.W.fnOf "law" "law" (defArgs (top 59)) (defBody (top 59)) (defScope (top 59)) .none kV39 dc39 pm39 an39 cd39 ct39), sl39⟩)
    (c39 : PySem.W.codeIn K cd39 "law" = true)
    (k39 : PySem.W.keepIn K (.ref f39) = true)
    (aC : PySem.W.nsIn K mainGlobals "Row" = some (some (.ref C)))
    (pg : PySem.W.plainGet K C Str.empty = true)
    (hd : PySem.W.hasDictIn K C = true)
    (po : PySem.W.plainOver K C = true)
    (sa : PySem.W.findIn K (.ref C) "__setattr__" = some (some (.builtin "object.__setattr__")))
    (mk : PySem.W.makesIn K C = true)
    (kc : PySem.W.keepIn K (.ref C) = true)
    (nC : PySem.W.findIn K (.ref C) "_counts" = some none)
    (xa : PySem.W.findIn K (.ref C) "__class__" = some (some (.builtin "object.__class__")))
    (xn : PySem.W.specialIn K (.builtin "object.__class__") "__get__" = some (some (.builtin "getset_descriptor.__get__")))
    (xt : PySem.W.takesIn K (.builtin "object.__class__") = some true)
    (xm : PySem.W.mroIn K C (.type "object") = some true)
    (a40 : PySem.W.findIn K (.ref C) "__init__" = some (some (.ref f40)))
    (i40 : PySem.W.isFn K (.ref f40) = true)
    (l40 : K.lookup f40 = some ⟨oc40, od40, .func (PySem.W.fnOf "__init__" "Row.__init__" (defArgs (inClass (top 19) 0)) (defBody (inClass (top 19) 0)) (defScope (inClass (top 19) 0)) .none kV40 dc40 pm40 an40 cd40 ct40), sl40⟩)
    (c40 : PySem.W.codeIn K cd40 "Row.__init__" = true)
    (k40 : PySem.W.keepIn K (.ref f40) = true)
    (a41 : PySem.W.findIn K (.ref C) "__eq__" = some (some (.ref f41)))
    (i41 : PySem.W.isFn K (.ref f41) = true)
    (l41 : K.lookup f41 = some ⟨oc41, od41, .func (PySem.W.fnOf "__eq__" "Row.__eq__" (defArgs (inClass (top 19) 7)) (defBody (inClass (top 19) 7)) (defScope (inClass (top 19) 7)) .none kV41 dc41 pm41 an41 cd41 ct41), sl41⟩)
    (c41 : PySem.W.codeIn K cd41 "Row.__eq__" = true)
    (k41 : PySem.W.keepIn K (.ref f41) = true)
    (a42 : PySem.W.findIn K (.ref C) "counts" = some (some (.ref p42)))
    (g42 : PySem.W.specialIn K (.ref p42) "__get__" = some (some (.builtin "property.__get__")))
    (t42 : PySem.W.takesIn K (.ref p42) = some true)
    (r42r : PySem.W.recIn K p42 "property" = some (.ref f42 :: r42))
    (l42 : K.lookup f42 = some ⟨oc42, od42, .func (PySem.W.fnOf "counts" "Row.counts" (defArgs (inClass (top 19) 2)) (defBody (inClass (top 19) 2)) (defScope (inClass (top 19) 2)) .none kV42 dc42 pm42 an42 cd42 ct42), sl42⟩)
    (c42 : PySem.W.codeIn K cd42 "Row.counts" = true)
    (k42 : PySem.W.keepIn K (.ref f42) = true)
    (a43 : PySem.W.findIn K (.ref C) "draws" = some (some (.ref p43)))
    (g43 : PySem.W.specialIn K (.ref p43) "__get__" = some (some (.builtin "property.__get__")))
    (t43 : PySem.W.takesIn K (.ref p43) = some true)
    (r43r : PySem.W.recIn K p43 "property" = some (.ref f43 :: r43))
    (l43 : K.lookup f43 = some ⟨oc43, od43, .func (PySem.W.fnOf "draws" "Row.draws" (defArgs (inClass (top 19) 4)) (defBody (inClass (top 19) 4)) (defScope (inClass (top 19) 4)) .none kV43 dc43 pm43 an43 cd43 ct43), sl43⟩)
    (c43 : PySem.W.codeIn K cd43 "Row.draws" = true)
    (k43 : PySem.W.keepIn K (.ref f43) = true)
    (lC : K.lookup C = some (excClassObj nm qn C N bs [.type "object"] hdct sn sub ab col dd q0 q1 q2 q3 q5 newId))
    (okN : PySem.W.nsOkIn K N = true)
    (n1 : PySem.W.nsIn K N "__eq__" = some (some (.ref f41)))
    (n2 : PySem.W.nsIn K N "__ne__" = some none)
    (ocf : oc41 = .type "function")
    (c_gcd : PySem.W.nsIn K mainGlobals "gcd" = some (some (.builtin "math.gcd")))
    (c_comb : PySem.W.nsIn K mainGlobals "comb" = some (some (.builtin "math.comb")))
    (c_factorial : PySem.W.nsIn K mainGlobals "factorial" = some (some (.builtin "math.factorial")))
    (c_perm : PySem.W.nsIn K mainGlobals "perm" = some (some (.builtin "math.perm")))
    (c_isqrt : PySem.W.nsIn K mainGlobals "isqrt" = some (some (.builtin "math.isqrt")))
    (c_MOST_DRAWS : PySem.W.nsIn K mainGlobals "MOST_DRAWS" = some (some (.int 5 tk)))
    (c_MOST_SLIPS : PySem.W.nsIn K mainGlobals "MOST_SLIPS" = some (some (.int 1000000000000000000000000000000 tk2)))
    (z_len : PySem.W.nsIn K mainGlobals "len" = some none)
    (z_abs : PySem.W.nsIn K mainGlobals "abs" = some none)
    (z_max : PySem.W.nsIn K mainGlobals "max" = some none)
    (z_min : PySem.W.nsIn K mainGlobals "min" = some none)
    (z_sum : PySem.W.nsIn K mainGlobals "sum" = some none)
    (z_range : PySem.W.nsIn K mainGlobals "range" = some none)
    (z_tuple : PySem.W.nsIn K mainGlobals "tuple" = some none)
    (z_int : PySem.W.nsIn K mainGlobals "int" = some none)
    (z_divmod : PySem.W.nsIn K mainGlobals "divmod" = some none)
    (z_all : PySem.W.nsIn K mainGlobals "all" = some none)
    (z_repr : PySem.W.nsIn K mainGlobals "repr" = some none)
    (z_isinstance : PySem.W.nsIn K mainGlobals "isinstance" = some none)
    (z_enumerate : PySem.W.nsIn K mainGlobals "enumerate" = some none)
    (z_bool : PySem.W.nsIn K mainGlobals "bool" = some none)
    (z_zip : PySem.W.nsIn K mainGlobals "zip" = some none)
    (z_str : PySem.W.nsIn K mainGlobals "str" = some none)
    (z_list : PySem.W.nsIn K mainGlobals "list" = some none)
    (z_sorted : PySem.W.nsIn K mainGlobals "sorted" = some none)
    : ∃ fd : FuncData, (∀ (s : Shared) (u : Value), BindsTo s fd ⟨[u], []⟩ [("script", u)]) ∧ ∀ base : Heap, K.In base → base.Ns mainGlobals mg → FnG l.prog w K mg base 12 fa fd ["script"] (spLaw K) := by
  have e := hfa.symm.trans (PySem.W.mg_of X G a39)
  cases e
  have D_law_well : Df K mg "_law_well" (top 40) ["script", "spot"] := ⟨f1, _, fun_mk (st := (top 40)) l1 c1 k1, PySem.W.mg_of X G a1, (fun_mk (st := (top 40)) l1 c1 k1).binds (ps := ["script", "spot"]) fun _ _ _ _ _ _ us hl => match us, hl with | [_, _], _ => rfl⟩
  have D_law_draw : Df K mg "_law_draw" (top 41) ["well", "many"] := ⟨f2, _, fun_mk (st := (top 41)) l2 c2 k2, PySem.W.mg_of X G a2, (fun_mk (st := (top 41)) l2 c2 k2).binds (ps := ["well", "many"]) fun _ _ _ _ _ _ us hl => match us, hl with | [_, _], _ => rfl⟩
  have D_law_pick : Df K mg "_law_pick" (top 42) ["well", "choices"] := ⟨f3, _, fun_mk (st := (top 42)) l3 c3 k3, PySem.W.mg_of X G a3, (fun_mk (st := (top 42)) l3 c3 k3).binds (ps := ["well", "choices"]) fun _ _ _ _ _ _ us hl => match us, hl with | [_, _], _ => rfl⟩
  have D_law_shared : Df K mg "_law_shared" (top 43) ["one_here", "other"] := ⟨f4, _, fun_mk (st := (top 43)) l4 c4 k4, PySem.W.mg_of X G a4, (fun_mk (st := (top 43)) l4 c4 k4).binds (ps := ["one_here", "other"]) fun _ _ _ _ _ _ us hl => match us, hl with | [_, _], _ => rfl⟩
  have D_law_low : Df K mg "_law_low" (top 44) ["top", "bottom"] := ⟨f5, _, fun_mk (st := (top 44)) l5 c5 k5, PySem.W.mg_of X G a5, (fun_mk (st := (top 44)) l5 c5 k5).binds (ps := ["top", "bottom"]) fun _ _ _ _ _ _ us hl => match us, hl with | [_, _], _ => rfl⟩
  have D_law_plus : Df K mg "_law_plus" (top 45) ["one_here", "two"] := ⟨f6, _, fun_mk (st := (top 45)) l6 c6 k6, PySem.W.mg_of X G a6, (fun_mk (st := (top 45)) l6 c6 k6).binds (ps := ["one_here", "two"]) fun _ _ _ _ _ _ us hl => match us, hl with | [_, _], _ => rfl⟩
  have D_law_mul : Df K mg "_law_mul" (top 46) ["one_here", "two"] := ⟨f7, _, fun_mk (st := (top 46)) l7 c7 k7, PySem.W.mg_of X G a7, (fun_mk (st := (top 46)) l7 c7 k7).binds (ps := ["one_here", "two"]) fun _ _ _ _ _ _ us hl => match us, hl with | [_, _], _ => rfl⟩
  have D_law_choose : Df K mg "_law_choose" (top 47) ["things", "some"] := ⟨f8, _, fun_mk (st := (top 47)) l8 c8 k8, PySem.W.mg_of X G a8, (fun_mk (st := (top 47)) l8 c8 k8).binds (ps := ["things", "some"]) fun _ _ _ _ _ _ us hl => match us, hl with | [_, _], _ => rfl⟩
  have D_law_all_yes : Df K mg "_law_all_yes" (top 48) ["counts_here", "many"] := ⟨f9, _, fun_mk (st := (top 48)) l9 c9 k9, PySem.W.mg_of X G a9, (fun_mk (st := (top 48)) l9 c9 k9).binds (ps := ["counts_here", "many"]) fun _ _ _ _ _ _ us hl => match us, hl with | [_, _], _ => rfl⟩
  have D_law_mean : Df K mg "_law_mean" (top 49) ["counts_here", "slips_here", "roots_here"] := ⟨f10, _, fun_mk (st := (top 49)) l10 c10 k10, PySem.W.mg_of X G a10, (fun_mk (st := (top 49)) l10 c10 k10).binds (ps := ["counts_here", "slips_here", "roots_here"]) fun _ _ _ _ _ _ us hl => match us, hl with | [_, _, _], _ => rfl⟩
  have D_law_value : Df K mg "_law_value" (top 50) ["roots_here", "at"] := ⟨f11, _, fun_mk (st := (top 50)) l11 c11 k11, PySem.W.mg_of X G a11, (fun_mk (st := (top 50)) l11 c11 k11).binds (ps := ["roots_here", "at"]) fun _ _ _ _ _ _ us hl => match us, hl with | [_, _], _ => rfl⟩
  have D_law_lots : Df K mg "_law_lots" (top 51) ["many", "some"] := ⟨f12, _, fun_mk (st := (top 51)) l12 c12 k12, PySem.W.mg_of X G a12, (fun_mk (st := (top 51)) l12 c12 k12).binds (ps := ["many", "some"]) fun _ _ _ _ _ _ us hl => match us, hl with | [_, _], _ => rfl⟩
  have D_law_shares : Df K mg "_law_shares" (top 52) ["counts_here", "slips_here", "points"] := ⟨f13, _, fun_mk (st := (top 52)) l13 c13 k13, PySem.W.mg_of X G a13, (fun_mk (st := (top 52)) l13 c13 k13).binds (ps := ["counts_here", "slips_here", "points"]) fun _ _ _ _ _ _ us hl => match us, hl with | [_, _, _], _ => rfl⟩
  have D_law_fits : Df K mg "_law_fits" (top 53) ["counts_here", "slips_here"] := ⟨f14, _, fun_mk (st := (top 53)) l14 c14 k14, PySem.W.mg_of X G a14, (fun_mk (st := (top 53)) l14 c14 k14).binds (ps := ["counts_here", "slips_here"]) fun _ _ _ _ _ _ us hl => match us, hl with | [_, _], _ => rfl⟩
  have D_law_urn : Df K mg "_law_urn" (top 54) ["slips_here", "marked", "n"] := ⟨f15, _, fun_mk (st := (top 54)) l15 c15 k15, PySem.W.mg_of X G a15, (fun_mk (st := (top 54)) l15 c15 k15).binds (ps := ["slips_here", "marked", "n"]) fun _ _ _ _ _ _ us hl => match us, hl with | [_, _, _], _ => rfl⟩
  have D_law_mixed : Df K mg "_law_mixed" (top 55) ["well", "slips_here", "n"] := ⟨f16, _, fun_mk (st := (top 55)) l16 c16 k16, PySem.W.mg_of X G a16, (fun_mk (st := (top 55)) l16 c16 k16).binds (ps := ["well", "slips_here", "n"]) fun _ _ _ _ _ _ us hl => match us, hl with | [_, _, _], _ => rfl⟩
  have D_law_coin : Df K mg "_law_coin" (top 56) ["well", "n"] := ⟨f17, _, fun_mk (st := (top 56)) l17 c17 k17, PySem.W.mg_of X G a17, (fun_mk (st := (top 56)) l17 c17 k17).binds (ps := ["well", "n"]) fun _ _ _ _ _ _ us hl => match us, hl with | [_, _], _ => rfl⟩
  have D_law_row : Df K mg "_law_row" (top 57) ["well", "n"] := ⟨f18, _, fun_mk (st := (top 57)) l18 c18 k18, PySem.W.mg_of X G a18, (fun_mk (st := (top 57)) l18 c18 k18).binds (ps := ["well", "n"]) fun _ _ _ _ _ _ us hl => match us, hl with | [_, _], _ => rfl⟩
  have D_law_right : Df K mg "_law_right" (top 58) ["well"] := ⟨f19, _, fun_mk (st := (top 58)) l19 c19 k19, PySem.W.mg_of X G a19, (fun_mk (st := (top 58)) l19 c19 k19).binds (ps := ["well"]) fun _ _ _ _ _ _ us hl => match us, hl with | [_], _ => rfl⟩
  have Dis_whole : Df K mg "is_whole" (top 11) ["value"] := ⟨f20, _, fun_mk (st := (top 11)) l20 c20 k20, PySem.W.mg_of X G a20, (fun_mk (st := (top 11)) l20 c20 k20).binds (ps := ["value"]) fun _ _ _ _ _ _ us hl => match us, hl with | [_], _ => rfl⟩
  have Dcheck_number : Df K mg "check_number" (top 12) ["given", "least", "most"] := ⟨f21, _, fun_mk (st := (top 12)) l21 c21 k21, PySem.W.mg_of X G a21, (fun_mk (st := (top 12)) l21 c21 k21).binds (ps := ["given", "least", "most"]) fun _ _ _ _ _ _ us hl => match us, hl with | [_, _, _], _ => rfl⟩
  have Dcheck_row : Df K mg "check_row" (top 20) ["row"] := ⟨f22, _, fun_mk (st := (top 20)) l22 c22 k22, PySem.W.mg_of X G a22, (fun_mk (st := (top 20)) l22 c22 k22).binds (ps := ["row"]) fun _ _ _ _ _ _ us hl => match us, hl with | [_], _ => rfl⟩
  have D_check_counts : Df K mg "_check_counts" (top 21) ["counts"] := ⟨f23, _, fun_mk (st := (top 21)) l23 c23 k23, PySem.W.mg_of X G a23, (fun_mk (st := (top 21)) l23 c23 k23).binds (ps := ["counts"]) fun _ _ _ _ _ _ us hl => match us, hl with | [_], _ => rfl⟩
  have Dcomes : Df K mg "comes" (top 24) ["row", "slips"] := ⟨f24, _, fun_mk (st := (top 24)) l24 c24 k24, PySem.W.mg_of X G a24, (fun_mk (st := (top 24)) l24 c24 k24).binds (ps := ["row", "slips"]) fun _ _ _ _ _ _ us hl => match us, hl with | [_, _], _ => rfl⟩
  have Dcomes_w : DfW K mg "comes" (top 24) ["row", "slips"] ["slips", "row"] [1, 0] := ⟨f24, _, fun_mk (st := (top 24)) l24 c24 k24, PySem.W.mg_of X G a24, fun s ws hl => match ws, hl with | [_, _], _ => BindsTo.of_eq (by first | rfl | with_unfolding_all rfl | kernel_rfl)⟩
  have Ddoes_come : Df K mg "does_come" (top 25) ["row", "slips"] := ⟨f25, _, fun_mk (st := (top 25)) l25 c25 k25, PySem.W.mg_of X G a25, (fun_mk (st := (top 25)) l25 c25 k25).binds (ps := ["row", "slips"]) fun _ _ _ _ _ _ us hl => match us, hl with | [_, _], _ => rfl⟩
  have Dyes_sums : Df K mg "yes_sums" (top 26) ["counts"] := ⟨f26, _, fun_mk (st := (top 26)) l26 c26 k26, PySem.W.mg_of X G a26, (fun_mk (st := (top 26)) l26 c26 k26).binds (ps := ["counts"]) fun _ _ _ _ _ _ us hl => match us, hl with | [_], _ => rfl⟩
  have Drow_sums : Df K mg "row_sums" (top 27) ["counts", "slips"] := ⟨f27, _, fun_mk (st := (top 27)) l27 c27 k27, PySem.W.mg_of X G a27, (fun_mk (st := (top 27)) l27 c27 k27).binds (ps := ["counts", "slips"]) fun _ _ _ _ _ _ us hl => match us, hl with | [_, _], _ => rfl⟩
  have Dtimes : Df K mg "times" (top 28) ["sums", "points"] := ⟨f28, _, fun_mk (st := (top 28)) l28 c28 k28, PySem.W.mg_of X G a28, (fun_mk (st := (top 28)) l28 c28 k28).binds (ps := ["sums", "points"]) fun _ _ _ _ _ _ us hl => match us, hl with | [_, _], _ => rfl⟩
  have Dmean_on : Df K mg "mean_on" (top 29) ["sums", "points", "slips"] := ⟨f29, _, fun_mk (st := (top 29)) l29 c29 k29, PySem.W.mg_of X G a29, (fun_mk (st := (top 29)) l29 c29 k29).binds (ps := ["sums", "points", "slips"]) fun _ _ _ _ _ _ us hl => match us, hl with | [_, _, _], _ => rfl⟩
  have Dlowest_points : Df K mg "lowest_points" (top 30) ["sums", "many", "slips"] := ⟨f30, _, fun_mk (st := (top 30)) l30 c30 k30, PySem.W.mg_of X G a30, (fun_mk (st := (top 30)) l30 c30 k30).binds (ps := ["sums", "many", "slips"]) fun _ _ _ _ _ _ us hl => match us, hl with | [_, _, _], _ => rfl⟩
  have Dhighest_points : Df K mg "highest_points" (top 31) ["sums", "many", "slips"] := ⟨f31, _, fun_mk (st := (top 31)) l31 c31 k31, PySem.W.mg_of X G a31, (fun_mk (st := (top 31)) l31 c31 k31).binds (ps := ["sums", "many", "slips"]) fun _ _ _ _ _ _ us hl => match us, hl with | [_, _, _], _ => rfl⟩
  have Dbroken_points : Df K mg "broken_points" (top 32) ["sums", "slips"] := ⟨f32, _, fun_mk (st := (top 32)) l32 c32 k32, PySem.W.mg_of X G a32, (fun_mk (st := (top 32)) l32 c32 k32).binds (ps := ["sums", "slips"]) fun _ _ _ _ _ _ us hl => match us, hl with | [_, _], _ => rfl⟩
  have D_check : Df K mg "_check" (top 33) ["row", "slips"] := ⟨f33, _, fun_mk (st := (top 33)) l33 c33 k33, PySem.W.mg_of X G a33, (fun_mk (st := (top 33)) l33 c33 k33).binds (ps := ["row", "slips"]) fun _ _ _ _ _ _ us hl => match us, hl with | [_, _], _ => rfl⟩
  have D_pairs : Df K mg "_pairs" (top 34) ["sums", "many", "least", "most", "taken"] := ⟨f34, _, fun_mk (st := (top 34)) l34 c34 k34, PySem.W.mg_of X G a34, (fun_mk (st := (top 34)) l34 c34 k34).binds (ps := ["sums", "many", "least", "most", "taken"]) fun _ _ _ _ _ _ us hl => match us, hl with | [_, _, _, _, _], _ => rfl⟩
  have D_place : Df K mg "_place" (top 35) ["at", "taken"] := ⟨f35, _, fun_mk (st := (top 35)) l35 c35 k35, PySem.W.mg_of X G a35, (fun_mk (st := (top 35)) l35 c35 k35).binds (ps := ["at", "taken"]) fun _ _ _ _ _ _ us hl => match us, hl with | [_, _], _ => rfl⟩
  have D_side : Df K mg "_side" (top 36) ["rest", "pair", "others"] := ⟨f36, _, fun_mk (st := (top 36)) l36 c36 k36, PySem.W.mg_of X G a36, (fun_mk (st := (top 36)) l36 c36 k36).binds (ps := ["rest", "pair", "others"]) fun _ _ _ _ _ _ us hl => match us, hl with | [_, _, _], _ => rfl⟩
  have D_about : Df K mg "_about" (top 37) ["sums", "many", "taken"] := ⟨f37, _, fun_mk (st := (top 37)) l37 c37 k37, PySem.W.mg_of X G a37, (fun_mk (st := (top 37)) l37 c37 k37).binds (ps := ["sums", "many", "taken"]) fun _ _ _ _ _ _ us hl => match us, hl with | [_, _, _], _ => rfl⟩
  have D_lower_root : Df K mg "_lower_root" (top 38) ["sums"] := ⟨f38, _, fun_mk (st := (top 38)) l38 c38 k38, PySem.W.mg_of X G a38, (fun_mk (st := (top 38)) l38 c38 k38).binds (ps := ["sums"]) fun _ _ _ _ _ _ us hl => match us, hl with | [_], _ => rfl⟩
  have F__init__ := fun_mk (st := (inClass (top 19) 0)) l40 c40 k40
  have b__init__ := F__init__.binds (ps := ["self", "counts"]) fun _ _ _ _ _ _ us hl => match us, hl with | [_, _], _ => rfl
  have F__eq__ := fun_mk (st := (inClass (top 19) 7)) l41 c41 k41
  have b__eq__ := F__eq__.binds (ps := ["self", "other"]) fun _ _ _ _ _ _ us hl => match us, hl with | [_, _], _ => rfl
  have Fcounts := fun_mk (st := (inClass (top 19) 2)) l42 c42 k42
  have bcounts := Fcounts.binds (ps := ["self"]) fun _ _ _ _ _ _ us hl => match us, hl with | [_], _ => rfl
  have Pcounts : PropOf K C "counts" p42 f42 := ⟨a42, g42, t42, _, r42r⟩
  have Fdraws := fun_mk (st := (inClass (top 19) 4)) l43 c43 k43
  have bdraws := Fdraws.binds (ps := ["self"]) fun _ _ _ _ _ _ us hl => match us, hl with | [_], _ => rfl
  have Pdraws : PropOf K C "draws" p43 f43 := ⟨a43, g43, t43, _, r43r⟩
  have c_gcd := PySem.W.mg_of X G c_gcd
  have c_comb := PySem.W.mg_of X G c_comb
  have c_factorial := PySem.W.mg_of X G c_factorial
  have c_perm := PySem.W.mg_of X G c_perm
  have c_isqrt := PySem.W.mg_of X G c_isqrt
  have c_MOST_DRAWS := PySem.W.mg_of X G c_MOST_DRAWS
  have c_MOST_SLIPS := PySem.W.mg_of X G c_MOST_SLIPS
  have z_sorted := PySem.W.mg_none_of X G z_sorted
  have B : Bi mg := ⟨PySem.W.mg_none_of X G z_len, PySem.W.mg_none_of X G z_abs, PySem.W.mg_none_of X G z_max, PySem.W.mg_none_of X G z_min, PySem.W.mg_none_of X G z_sum, PySem.W.mg_none_of X G z_range, PySem.W.mg_none_of X G z_tuple, PySem.W.mg_none_of X G z_int, PySem.W.mg_none_of X G z_divmod, PySem.W.mg_none_of X G z_all, PySem.W.mg_none_of X G z_repr, PySem.W.mg_none_of X G z_isinstance, PySem.W.mg_none_of X G z_enumerate, PySem.W.mg_none_of X G z_bool, PySem.W.mg_none_of X G z_zip, PySem.W.mg_none_of X G z_str, PySem.W.mg_none_of X G z_list⟩
  have RC : RowC K mg C := ⟨⟨pg, hd, po, sa⟩, nC, PySem.W.mg_of X G aC, xa, xn, xt, xm⟩
  have NE := (⟨f41, N, _, nm, qn, bs, hdct, sn, sub, ab, col, dd, q0, q1, q2, q3, q5, newId, a41, lC, okN, n1, n2, l41, ocf⟩ : ∃ (f N : Addr) (of : Obj) (nm q : Str) (bs : List Value) (hdct : Bool) (sn : List Str) (sub : List Value) (ab : Bool) (col : Option Bool) (dd : Option Addr) (k0 k1 k2 k3 k5 : Option Value) (newId : String), PySem.W.findIn K (.ref C) "__eq__" = some (some (.ref f)) ∧ K.lookup C = some (excClassObj nm q C N bs [.type "object"] hdct sn sub ab col dd k0 k1 k2 k3 k5 newId) ∧ PySem.W.nsOkIn K N = true ∧ PySem.W.nsIn K N "__eq__" = some (some (.ref f)) ∧ PySem.W.nsIn K N "__ne__" = some none ∧ K.lookup f = some of ∧ of.cls = .type "function")
  have MK : Mk K C f40 := ⟨mk, a40, i40, kc⟩
  have EQ1 := a41
  have EQ2 := i41
  refine ⟨PySem.W.fnOf "law" "law" (defArgs (top 59)) (defBody (top 59)) (defScope (top 59)) .none kV39 dc39 pm39 an39 cd39 ct39, fun s u => BindsTo.of_eq (by first | rfl | with_unfolding_all rfl), fun base _ _ => ?_⟩
  have h_law_well := has_well (P := l.prog) (w := w) (base := base) B D_law_well
  have h_law_draw := has_draw (P := l.prog) (w := w) (base := base) B D_law_draw
  have h_law_pick := has_pick B h_law_draw D_law_pick
  have h_law_shared := has_shared21 (P := l.prog) (w := w) (base := base) B D_law_shared
  have h_law_low := has_low21 h_law_shared D_law_low
  have h_law_plus := has_plus21 h_law_low D_law_plus
  have h_law_mul := has_mul21 h_law_low D_law_mul
  have h_law_choose := has_choose (P := l.prog) (w := w) (base := base) B D_law_choose
  have h_law_all_yes := has_ally B h_law_choose h_law_low D_law_all_yes
  have h_law_value := has_val (P := l.prog) (w := w) (base := base) B D_law_value
  have h_law_mean := has_mean21 B h_law_plus h_law_mul h_law_all_yes D_law_mean
  have h_law_lots := has_lots (P := l.prog) (w := w) (base := base) B D_law_lots
  have h_law_shares := has_shares21 B h_law_mean h_law_value h_law_low D_law_shares
  have h_law_fits := has_fits B h_law_lots h_law_shares D_law_fits
  have h_law_urn := has_urnl B h_law_choose D_law_urn
  have h_law_mixed := has_mixedl B h_law_draw h_law_urn D_law_mixed
  have h_law_coin := has_coinl B h_law_draw h_law_choose D_law_coin
  have h_law_row := has_rowl B h_law_draw h_law_pick h_law_mixed h_law_coin D_law_row
  have his_whole := has_whole (P := l.prog) (w := w) (base := base) B Dis_whole
  have h_check_counts := has_check B c_MOST_DRAWS his_whole D_check_counts
  have RT : RowT l.prog w K mg base C := ⟨RC, ⟨_, _, MK, ok_init F__init__ B RC c_gcd h_check_counts, b__init__⟩, ⟨_, _, _, Pcounts, ok_get Fcounts RC, bcounts⟩, ⟨_, _, _, Pdraws, ok_draws Fdraws B RC, bdraws⟩, ⟨_, _, EQ1, EQ2, ok_eq F__eq__ B RC, b__eq__⟩, NE⟩
  have hcheck_number := has_num his_whole Dcheck_number
  have hcheck_row := has_check_row (P := l.prog) (w := w) (base := base) B RC Dcheck_row
  have hyes_sums := has_yes (P := l.prog) (w := w) (base := base) B c_comb c_factorial Dyes_sums
  have htimes := has_times (P := l.prog) (w := w) (base := base) B Dtimes
  have h_place := has_placeG (P := l.prog) (w := w) (base := base) B D_place
  have h_side := has_sideG (P := l.prog) (w := w) (base := base) B D_side
  have h_lower_root := has_lowerG B c_isqrt htimes D_lower_root
  have h_about := has_aboutG B h_lower_root D_about
  have h_pairs := has_pairsG B z_sorted h_about h_place htimes h_side D_pairs
  have hlowest_points := has_lowG B htimes h_pairs Dlowest_points
  have hhighest_points := has_higG B htimes h_pairs Dhighest_points
  have hmean_on := has_mean B htimes Dmean_on
  have hbroken_points := has_brokenG B hlowest_points hhighest_points hmean_on Dbroken_points
  have hrow_sums := has_sumsG B c_perm hyes_sums Drow_sums
  have hdoes_come := has_doesG B RT hrow_sums hbroken_points Ddoes_come
  have h_check := has_chk B c_MOST_SLIPS hcheck_row hcheck_number D_check
  have hcomes := Has.of Dcomes fun f fd F => ok_comesG h_check hdoes_come F
  have hcomes_w := HasW.of Dcomes_w fun f fd F => ok_comesG h_check hdoes_come F
  have h_law_right := has_right B RT h_law_draw h_law_pick h_law_row h_law_fits hcomes hcomes_w D_law_right
  exact ok_law B h_law_well h_law_right (fun_mk l39 c39 k39)
end Dm
open PySem PySem.W PyProof.Rows in
set_option maxRecDepth 100000 in
set_option maxHeartbeats 0 in
theorem PySem.Challenge.cw_drawnmore_k21_whole_comes_by_all_points_holds : PySem.Challenge.rw_drawnmore_k21_whole_comes_by_all_points.Holds := by
  w_on; o_law; k_head; (case hw => w_witness2)
  k_fill
  refine Dm.walkG (l := PySem.Challenge.rw_drawnmore_k21_whole_comes_by_all_points) (n := 63) (k := 12) (x := "script") (sp := Dm.spLaw) rfl (by decide) rfl ⟨rfl, by decide, by decide⟩ (fun w h Y => PySem.W.kIn_of Y) ?F (fun K H a ns hl hS => ⟨a, ns, rfl, hS, hl, fun _ => rfl⟩)
  case F =>
    intro w mg fa h KX G hmg
    refine' Dm.all_mk KX G hmg ?a1 ?l1 ?c1 ?k1 ?a2 ?l2 ?c2 ?k2 ?a3 ?l3 ?c3 ?k3 ?a4 ?l4 ?c4 ?k4 ?a5 ?l5 ?c5 ?k5 ?a6 ?l6 ?c6 ?k6 ?a7 ?l7 ?c7 ?k7 ?a8 ?l8 ?c8 ?k8 ?a9 ?l9 ?c9 ?k9 ?a10 ?l10 ?c10 ?k10 ?a11 ?l11 ?c11 ?k11 ?a12 ?l12 ?c12 ?k12 ?a13 ?l13 ?c13 ?k13 ?a14 ?l14 ?c14 ?k14 ?a15 ?l15 ?c15 ?k15 ?a16 ?l16 ?c16 ?k16 ?a17 ?l17 ?c17 ?k17 ?a18 ?l18 ?c18 ?k18 ?a19 ?l19 ?c19 ?k19 ?a20 ?l20 ?c20 ?k20 ?a21 ?l21 ?c21 ?k21 ?a22 ?l22 ?c22 ?k22 ?a23 ?l23 ?c23 ?k23 ?a24 ?l24 ?c24 ?k24 ?a25 ?l25 ?c25 ?k25 ?a26 ?l26 ?c26 ?k26 ?a27 ?l27 ?c27 ?k27 ?a28 ?l28 ?c28 ?k28 ?a29 ?l29 ?c29 ?k29 ?a30 ?l30 ?c30 ?k30 ?a31 ?l31 ?c31 ?k31 ?a32 ?l32 ?c32 ?k32 ?a33 ?l33 ?c33 ?k33 ?a34 ?l34 ?c34 ?k34 ?a35 ?l35 ?c35 ?k35 ?a36 ?l36 ?c36 ?k36 ?a37 ?l37 ?c37 ?k37 ?a38 ?l38 ?c38 ?k38 ?a39 ?l39 ?c39 ?k39 ?aC ?pg ?hd ?po ?sa ?mk ?kc ?nC ?xa ?xn ?xt ?xm ?a40 ?i40 ?l40 ?c40 ?k40 ?a41 ?i41 ?l41 ?c41 ?k41 ?a42 ?g42 ?t42 ?r42r ?l42 ?c42 ?k42 ?a43 ?g43 ?t43 ?r43r ?l43 ?c43 ?k43 ?lC ?okN ?n1 ?n2 ?ocf ?c_gcd ?c_comb ?c_factorial ?c_perm ?c_isqrt ?c_MOST_DRAWS ?c_MOST_SLIPS ?z_len ?z_abs ?z_max ?z_min ?z_sum ?z_range ?z_tuple ?z_int ?z_divmod ?z_all ?z_repr ?z_isinstance ?z_enumerate ?z_bool ?z_zip ?z_str ?z_list ?z_sorted
    (case a1 => k_is)
    (case l1 => k_is)
    (case c1 => k_is)
    (case k1 => k_is)
    (case a2 => k_is)
    (case l2 => k_is)
    (case c2 => k_is)
    (case k2 => k_is)
    (case a3 => k_is)
    (case l3 => k_is)
    (case c3 => k_is)
    (case k3 => k_is)
    (case a4 => k_is)
    (case l4 => k_is)
    (case c4 => k_is)
    (case k4 => k_is)
    (case a5 => k_is)
    (case l5 => k_is)
    (case c5 => k_is)
    (case k5 => k_is)
    (case a6 => k_is)
    (case l6 => k_is)
    (case c6 => k_is)
    (case k6 => k_is)
    (case a7 => k_is)
    (case l7 => k_is)
    (case c7 => k_is)
    (case k7 => k_is)
    (case a8 => k_is)
    (case l8 => k_is)
    (case c8 => k_is)
    (case k8 => k_is)
    (case a9 => k_is)
    (case l9 => k_is)
    (case c9 => k_is)
    (case k9 => k_is)
    (case a10 => k_is)
    (case l10 => k_is)
    (case c10 => k_is)
    (case k10 => k_is)
    (case a11 => k_is)
    (case l11 => k_is)
    (case c11 => k_is)
    (case k11 => k_is)
    (case a12 => k_is)
    (case l12 => k_is)
    (case c12 => k_is)
    (case k12 => k_is)
    (case a13 => k_is)
    (case l13 => k_is)
    (case c13 => k_is)
    (case k13 => k_is)
    (case a14 => k_is)
    (case l14 => k_is)
    (case c14 => k_is)
    (case k14 => k_is)
    (case a15 => k_is)
    (case l15 => k_is)
    (case c15 => k_is)
    (case k15 => k_is)
    (case a16 => k_is)
    (case l16 => k_is)
    (case c16 => k_is)
    (case k16 => k_is)
    (case a17 => k_is)
    (case l17 => k_is)
    (case c17 => k_is)
    (case k17 => k_is)
    (case a18 => k_is)
    (case l18 => k_is)
    (case c18 => k_is)
    (case k18 => k_is)
    (case a19 => k_is)
    (case l19 => k_is)
    (case c19 => k_is)
    (case k19 => k_is)
    (case a20 => k_is)
    (case l20 => k_is)
    (case c20 => k_is)
    (case k20 => k_is)
    (case a21 => k_is)
    (case l21 => k_is)
    (case c21 => k_is)
    (case k21 => k_is)
    (case a22 => k_is)
    (case l22 => k_is)
    (case c22 => k_is)
    (case k22 => k_is)
    (case a23 => k_is)
    (case l23 => k_is)
    (case c23 => k_is)
    (case k23 => k_is)
    (case a24 => k_is)
    (case l24 => k_is)
    (case c24 => k_is)
    (case k24 => k_is)
    (case a25 => k_is)
    (case l25 => k_is)
    (case c25 => k_is)
    (case k25 => k_is)
    (case a26 => k_is)
    (case l26 => k_is)
    (case c26 => k_is)
    (case k26 => k_is)
    (case a27 => k_is)
    (case l27 => k_is)
    (case c27 => k_is)
    (case k27 => k_is)
    (case a28 => k_is)
    (case l28 => k_is)
    (case c28 => k_is)
    (case k28 => k_is)
    (case a29 => k_is)
    (case l29 => k_is)
    (case c29 => k_is)
    (case k29 => k_is)
    (case a30 => k_is)
    (case l30 => k_is)
    (case c30 => k_is)
    (case k30 => k_is)
    (case a31 => k_is)
    (case l31 => k_is)
    (case c31 => k_is)
    (case k31 => k_is)
    (case a32 => k_is)
    (case l32 => k_is)
    (case c32 => k_is)
    (case k32 => k_is)
    (case a33 => k_is)
    (case l33 => k_is)
    (case c33 => k_is)
    (case k33 => k_is)
    (case a34 => k_is)
    (case l34 => k_is)
    (case c34 => k_is)
    (case k34 => k_is)
    (case a35 => k_is)
    (case l35 => k_is)
    (case c35 => k_is)
    (case k35 => k_is)
    (case a36 => k_is)
    (case l36 => k_is)
    (case c36 => k_is)
    (case k36 => k_is)
    (case a37 => k_is)
    (case l37 => k_is)
    (case c37 => k_is)
    (case k37 => k_is)
    (case a38 => k_is)
    (case l38 => k_is)
    (case c38 => k_is)
    (case k38 => k_is)
    (case a39 => k_is)
    (case l39 => k_is)
    (case c39 => k_is)
    (case k39 => k_is)
    (case aC => k_is)
    (case pg => k_is)
    (case hd => k_is)
    (case po => k_is)
    (case sa => k_is)
    (case mk => k_is)
    (case kc => k_is)
    (case nC => k_is)
    (case xa => k_is)
    (case xn => k_is)
    (case xt => k_is)
    (case xm => k_is)
    (case a40 => k_is)
    (case i40 => k_is)
    (case l40 => k_is)
    (case c40 => k_is)
    (case k40 => k_is)
    (case a41 => k_is)
    (case i41 => k_is)
    (case l41 => k_is)
    (case c41 => k_is)
    (case k41 => k_is)
    (case a42 => k_is)
    (case g42 => k_is)
    (case t42 => k_is)
    (case r42r => k_is)
    (case l42 => k_is)
    (case c42 => k_is)
    (case k42 => k_is)
    (case a43 => k_is)
    (case g43 => k_is)
    (case t43 => k_is)
    (case r43r => k_is)
    (case l43 => k_is)
    (case c43 => k_is)
    (case k43 => k_is)
    (case lC => k_is)
    (case okN => kernel_rfl)
    (case n1 => k_is)
    (case n2 => k_is)
    (case ocf => rfl)
    (case c_gcd => k_is)
    (case c_comb => k_is)
    (case c_factorial => k_is)
    (case c_perm => k_is)
    (case c_isqrt => k_is)
    (case c_MOST_DRAWS => k_is)
    (case c_MOST_SLIPS => k_is)
    (case z_len => k_is)
    (case z_abs => k_is)
    (case z_max => k_is)
    (case z_min => k_is)
    (case z_sum => k_is)
    (case z_range => k_is)
    (case z_tuple => k_is)
    (case z_int => k_is)
    (case z_divmod => k_is)
    (case z_all => k_is)
    (case z_repr => k_is)
    (case z_isinstance => k_is)
    (case z_enumerate => k_is)
    (case z_bool => k_is)
    (case z_zip => k_is)
    (case z_str => k_is)
    (case z_list => k_is)
    (case z_sorted => k_is)
