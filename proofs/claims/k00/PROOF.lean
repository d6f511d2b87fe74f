import PyProof.Rows.All
import Wide.All
import OpenK.AllK
import Wide.FinOn
import HandS.ForExc
import HandS.Gcd
import HandS.Wide
import HandS.ExcIs
import HandS.Evl
import HandS.Defaults
import HandS.RaiseMore
import HandS.Style
import HandS.FStrTup
import PySem.Challenge.RW_planeworth_k00_numbers
set_option Elab.async false
set_option linter.all false
set_option maxRecDepth 100000
set_option maxHeartbeats 4000000
/-! Own layer over HandS: data read deep, texts of data, calls where no text is under way, calls by value. -/
namespace PW
open PySem PySem.Spec PyProof.Rows L2 Evl

/-! ### heaps that only grow -/
theorem dp_mono {K : PySem.W.Frag} {H H' : Hp} (e : Ex H H') {v : V} {d : PyData} (h : Dp K H v d) : Dp K H' v d :=
  Dp.rec (motive_1 := fun v d _ => Dp K H' v d) (motive_2 := fun vs ds _ => DpAll K H' vs ds)
    .non .bl .int .str (fun s _ ih => .lst (ex_l e s) ih) (fun s _ ih => .tup (ex_t e s) ih) .nil (fun _ _ a b => .cons a b) h
theorem dpAll_mono {K : PySem.W.Frag} {H H' : Hp} (e : Ex H H') : ∀ {vs : List V} {ds : List PyData}, DpAll K H vs ds → DpAll K H' vs ds
  | _, _, .nil => .nil
  | _, _, .cons a b => .cons (dp_mono e a) (dpAll_mono e b)

/-! ### // by any divisor but 0 -/
def CDivG (_ j : Int) : Prop := j ≠ 0 ∧ j.natAbs.log2 < 9000
theorem op_fdivG {X : Cx} : OpR X (binaryOp .FloorDiv) (rI CDivG fun i j => .int (i.fdiv j)) := opI fun _ _ _ _ _ _ _ hc q =>
  floordiv_int hc.1 q (.inl (PyProof.noPylong_of_log2 hc.2))

/-! ### the text of data, where no text is under way -/
def Show1 (d : PyData) : Prop := d.showable = true ∧ d.hasDict = false ∧ d.shown.length ≤ sizeLine ∧ d.depth < 40
def rShow (K : PySem.W.Frag) : List V → Hp → VK → Prop := fun vs H Q => ∃ v d, vs = [v] ∧ Dp K H v d ∧ Show1 d ∧ Q (.str d.shown) H
section
variable {X : Cx}
theorem call_repr (hg : X.A.guards = some []) (hu : X.A.units + 64 < cLine) : CallR X (.builtin "repr") (rShow X.K) := by
  intro pins s σ H vs us Q I r h
  obtain ⟨v, d, rfl, hd, ⟨h1, h2, h3, h4⟩, q⟩ := h
  obtain ⟨u, rfl, rv⟩ := vals1 r
  cases v with
  | non =>
    cases hd; cases rv
    exact PySem.P.repr_of_none ⟨.str (PyData.shown .none), H, I.tok _, ⟨_, rfl⟩, q⟩
  | bl b =>
    cases hd; cases rv
    exact PySem.P.repr_of_bool ⟨.str (PyData.shown (.bool b)), H, I.tok _, ⟨s.toks, by cases b <;> rfl⟩, q⟩
  | int i =>
    cases hd
    obtain ⟨t, rfl⟩ := rv
    exact PySem.P.repr_of_int (by simpa [PyData.showable] using h1) ⟨.str (PyData.shown (.int i)), H, I.tok _, ⟨_, rfl⟩, q⟩
  | str x =>
    cases hd
    obtain ⟨t, rfl⟩ := rv
    exact PySem.P.repr_of_str ⟨.str (PyData.shown (.str x)), H, I.tok _, ⟨_, rfl⟩, q⟩ h3
  | byt b => cases hd
  | flt b => cases hd
  | ty n => cases hd
  | ref a =>
    cases rv
    obtain ⟨as, rd⟩ := Dp.reads I d _ _ hd rfl
    exact repr_of_reads' rd h1 (PyData.noDict_hsm h2) hg (by omega) (fun _ _ e => e) (fun h' u tk k => ⟨.str d.shown, H, I.kept k, ⟨_, rfl⟩, q⟩) h3
theorem call_strD (hg : X.A.guards = some []) (hu : X.A.units + 64 < cLine) : CallR X (.type "str") (fun vs H Q => ∃ a d, vs = [.ref a] ∧ Dp X.K H (.ref a) d ∧ Show1 d ∧ Q (.str d.shown) H) := by
  intro pins s σ H vs us Q I r h
  obtain ⟨a, d, rfl, hd, ⟨h1, h2, h3, h4⟩, q⟩ := h
  obtain ⟨u, rfl, rv⟩ := vals1 r
  cases rv
  obtain ⟨as, rd⟩ := Dp.reads I d _ _ hd rfl
  exact str_of_reads rd h1 (PyData.noDict_hsm h2) hg (by omega) (fun _ _ e => e) (fun h' u tk k => ⟨.str d.shown, H, I.kept k, ⟨_, rfl⟩, q⟩) h3
end

/-! ### defs that want no text under way -/
structure FnG (P : Program) (w : World) (K : PySem.W.Frag) (mg : Str → Option Value) (base : Heap) (CX : CXT) (k : Nat) (f : Addr) (fd : FuncData) (ps : List Str) (sp : Sp) : Prop where
  len : ∀ vs H Q E, sp vs H Q E → vs.length = ps.length
  run : ∀ (A : Around) (outer : List Env) (s : Shared) (H : Hp) (args : Args) (us : List Value) (vs : List V) (Q : VK) (E : XK),
    A.guards = some [] → Room k A → Env0 P w K mg base A outer s H → BindsTo s fd args (ps.zip us) → Vals vs us → sp vs H Q E →
    codeAny (model P w) A (.call (.ref f) args) (CR CX outer P w H s Q E) s
section
variable {P : Program} {w : World} {K : PySem.W.Frag} {mg : Str → Option Value} {base : Heap}
/-- a def of the text, by its body -/
theorem _root_.L2.Fun.okG {CX : CXT} {x qual : Str} {st : Stmt} {f : Addr} {fd : FuncData} {N ps : List Str} {k : Nat} {sp : Sp} (F : Fun K x qual st f fd)
    (S : FnScope N ps (defScope st)) (len : ∀ vs H Q E, sp vs H Q E → vs.length = ps.length)
    (body : ∀ (cdv : Value) (A : Around) (outer : List Env) (s : Shared) (H : Hp) (vs : List V) (Q : VK) (E : XK), A.guards = some [] →
      Room k (A.deeper (envOfC qual (defScope st) s.heap.objs.size f cdv)) → sp vs H Q E →
      ∃ t, PSs (cxOf CX P w K mg base N qual (defScope st) f cdv A outer s H E) (defBody st) t ∧
        t { nx := fun _ H' => Q .non H', rt := Q } (start N vs) H) : FnG P w K mg base CX (k + 1) f fd ps sp := by
  obtain ⟨oc, od, kV, doc, pm, an, cdv, ct, osl, rfl, lk, hcd⟩ := F.ex
  constructor
  · exact len
  · intro A outer s H args us vs Q E hg hr e0 hb rv hsp
    have down : ∀ (b : Addr) (o : Obj), base.get? b = some o → s.heap.get? b = some o := fun b o e => (e0.bs b o e).1
    have inK := e0.mod.kin.keeps down
    have kinds : ∀ y ∈ ps.zip us, (defScope st).names.lookup y.1 = some .local ∨
        ((defScope st).names.lookup y.1 = some .cell ∧ ((cellsFrom (s.heap.objs.size + 1) (defScope st).names []).lookup y.1).isSome = true) := by
      rintro ⟨n, v⟩ hy
      have hn := S.par n (List.of_mem_zip hy).1
      exact hn.imp id fun q => ⟨q, PySem.W.cellsFrom_some _ _ _ (.inl q)⟩
    apply codeAny_call_function hr.depth (inK _ _ lk) rfl S.co S.gen rfl (PySem.W.codeRec_of inK hcd)
    refine hb _ _ _ _ (wpAny_newFunctionEnv_cells S.kind kinds ?_)
    rintro env rfl s1 x
    obtain ⟨t, ht, hq⟩ := body cdv A outer s H vs Q E hg (hr.deeper _) hsp
    have I := inv_start (CX := CX) (E := E) (P := P) (w := w) S hr.hd e0 (len _ _ _ _ hsp) rv x
    refine ⟨(e0.mod.nolimit.keeps down).keeps x.toInCall.keep, codeAny_func (wpAny_mono (ht.run [] s1 _ H _ I hq) ?_ fun _ _ z => z)⟩
    intro fl s' hs
    cases fl with
    | ret u =>
      obtain ⟨v, σ', H', J, r', q⟩ := hs
      exact ⟨v, H', J.os, J.bare, J.base, J.hok, r', q⟩
    | next =>
      obtain ⟨σ', H', J, q⟩ := hs
      exact ⟨.non, H', J.os, J.bare, J.base, J.hok, rfl, q⟩
    | brk => exact hs.elim fun _ z => z.elim fun _ z => z.2.elim
    | cont => exact hs.elim fun _ z => z.elim fun _ z => z.2.elim
end
section
variable {X : Cx} {CX : CXT} {k : Nat} {f : Addr} {fd : FuncData} {ps : List Str} {sp : Sp} {E : L2.St → XK} {x : Str} {p pos : Pos} {e fn : Expr} {es : List Expr} {t : TA} {tf : TE}
/-- the call of such a def -/
theorem pe_callG (F : FnG X.prog X.w X.K X.mg X.base CX k f fd ps sp) (gd : X.A.guards = some []) (hr : Room k X.A) (hg : Gl X x) (hm : X.mg x = some (.ref f)) (hk : PySem.W.keepIn X.K (.ref f) = true) (hb : Binds X.K fd ps [])
    (hx : ∀ σ, PassesAt CX X σ (E σ)) (ha : PA X (e :: es) t) (hdb : (x == ("__debug__" : Str)) = false := by decide)
    (he : starEach (e :: es) X.env = (false, eval e X.env) :: starEach es X.env := by rfl) (hpl : (backTo pos (starEach es X.env)).any (·.1) = false := by rfl) :
    PE X (.Call (.Name x p) (e :: es) [] pos) (tCallS sp E t) := by
  constructor
  intro pins s σ H Q I h
  apply wpAny_Call_Name_kw
  apply ld_glob I hg hm _ hdb
  refine PySem.W.callWith_K (h₀ := X.base) I.ok.mod.kin hk (thn (ha.run pos pins s σ H _ I h) ?_) he hpl
  rintro us s1 ⟨vs, H1, I1, rv, q⟩
  have b := hb s1 us I1.kIn (by rw [List.append_nil, ← rv.length]; exact F.len _ _ _ _ q)
  rw [List.append_nil] at b
  refine ⟨I1.kIn, wpAny_call (codeAny_mono (F.run X.A X.stack s1 H1 ⟨us, []⟩ us vs Q (E σ) gd hr I1.env0 b rv q) ?_)⟩
  intro r s' hq
  match r, hq with
  | .error e, hq => exact hx σ pins H1 s1 e s' I1 hq
  | .ok (.ret u), hq => exact I1.after hq
/-- one of several defs, by what the called expression is worth -/
structure Callee (X : Cx) (CX : CXT) (f : Addr) (sp : Sp) : Prop where
  ok : ∃ (k : Nat) (fd : FuncData) (ps : List Str), FnOk X.prog X.w X.K X.mg X.base CX k f fd ps sp ∧ Room k X.A ∧ PySem.W.keepIn X.K (.ref f) = true ∧ Binds X.K fd ps []
def tCallV (C : Addr → Sp → Prop) (E : L2.St → XK) (tf : TE) (t : TA) : TE := fun σ H Q => tf σ H fun v H1 => ∃ (f : Addr) (sp : Sp), v = .ref f ∧ C f sp ∧ t σ H1 fun vs H2 => sp vs H2 Q (E σ)
theorem pe_callV' {C : Addr → Sp → Prop} (hC : ∀ f sp, C f sp → Callee X CX f sp) (hf : PE X fn tf) (hx : ∀ σ, PassesAt CX X σ (E σ)) (ha : PA X (e :: es) t)
    (hc : eval (.Call fn (e :: es) [] pos) X.env = (do
      let u ← eval fn X.env
      callWith pos u [] (backTo pos (starEach (e :: es) X.env)) (backToKw pos (keywordEach [] X.env))) := by rfl)
    (he : starEach (e :: es) X.env = (false, eval e X.env) :: starEach es X.env := by rfl) (hpl : (backTo pos (starEach es X.env)).any (·.1) = false := by rfl) :
    PE X (.Call fn (e :: es) [] pos) (tCallV C E tf t) := by
  constructor
  intro pins s σ H Q I h
  rw [hc]
  refine wpAny_bind (thn (hf.run pins s σ H _ I h) ?_)
  rintro u s0 ⟨v, H0, I0, ru, f, sp, rfl, hCf, h0⟩
  cases ru
  obtain ⟨k, fd, ps, F, hr, hk, hb⟩ := (hC f sp hCf).ok
  refine PySem.W.callWith_K (h₀ := X.base) I0.ok.mod.kin hk (thn (ha.run pos pins s0 σ H0 _ I0 h0) ?_) he hpl
  rintro us s1 ⟨vs, H1, I1, rv, q⟩
  exact ⟨I1.kIn, run_fnS F hr hb (hx σ) I1 rv q⟩
end
end PW
namespace PW
open PySem PySem.Spec PyProof.Rows L2 Evl
section
variable {P : Program} {w : World} {K : PySem.W.Frag} {mg mb : Str → Option Value} {k : Nat} {fa a : Addr} {fd : FuncData} {x : Str} {sp : Sp} {s0 : Shared} {vs : List Value} {ns : List Int}
/-- the law's call, no text being under way, by the law's own promise -/
theorem law_end (KX : K.In s0.heap) (gl : s0.heap.Ns mainGlobals mg) (bl : s0.heap.Ns builtinsNs mb) (bb : ∀ y : Str, y ≠ "__name__" → mb y = bootBuiltins y)
    (lim : s0.heap.NoLimit) (gens : s0.gens = #[]) (at_a : s0.heap.get? a = some { cls := .type "list", data := .seq vs.toArray }) (isInts : IntsAre vs ns)
    (few : ns.length ≤ sizeLine) (room : Room k callerA)
    (F : ∀ base : Heap, K.In base → base.Ns mainGlobals mg → FnG P w K mg base CX0 k fa fd [x] sp)
    (bind : ∀ (s : Shared) (u : Value), BindsTo s fd ⟨[u], []⟩ [(x, u)])
    (good : ∀ H : Hp, SqL K H a (ns.map V.int) → sp [.ref a] H (fun v _ => v = .bl true) fun _ _ _ => False) :
    codeAny (model P w) callerA (.call (.ref fa) ⟨[.ref a], []⟩)
      (fun r s' => r = .ok (.ret (.bool true)) ∧ OldK s0.heap s'.heap ∧ s'.os = s0.os ∧ AllBare s'.gens) s0 := by
  have rv := vals_ints isInts
  have hsize := isInts.length
  obtain ⟨H, hH, hS, hK⟩ : ∃ H : Hp, (∀ b, H b = none ∨ (b = a ∧ K.lookup a = none ∧ H b = some (.frz { cls := .type "list", data := .seq vs.toArray } (.lst (ns.map V.int))))) ∧
      SqL K H a (ns.map V.int) ∧ (∀ b o, K.lookup b = some o → H b = none) := by
    cases hk : K.lookup a with
    | some o =>
      have same := (KX a o hk).symm.trans at_a
      cases same
      refine ⟨fun _ => none, fun _ => .inl rfl, .inr ⟨_, vs.toArray, _, hk, rfl, rfl, rfl, ?_, by simpa using rv⟩, fun _ _ _ => rfl⟩
      rw [List.size_toArray, hsize]
      exact few
    | none =>
      refine ⟨fun b => if b = a then some (.frz { cls := .type "list", data := .seq vs.toArray } (.lst (ns.map V.int))) else none, fun b => ?_, .inl (.inr ⟨_, if_pos rfl⟩), fun b o hb => if_neg ?_⟩
      · by_cases e : b = a
        · exact .inr ⟨e, rfl, if_pos e⟩
        · exact .inl (if_neg e)
      · rintro rfl
        rw [hk] at hb
        cases hb
  have ok : HOk P w H s0.heap := by
    intro b u e
    rcases hH b with z | ⟨rfl, _, z⟩
    · rw [z] at e
      cases e
    · cases z.symm.trans e
      exact ⟨at_a, by rw [List.length_map]; exact few, vs, _, rv, at_a⟩
  have isDict : ∀ (b : Addr) (m : Str → Option Value), s0.heap.Ns b m → (hidT s0.heap H).Ns b m := by
    rintro b m ⟨o, es, ep, e, d, r⟩
    refine ⟨o, es, ep, hidT_get e ?_, d, r⟩
    rcases hH b with z | ⟨rfl, _, z⟩
    · exact z
    · cases at_a.symm.trans e
      cases d
  have inK : K.In (hidT s0.heap H) := fun b o e => hidT_get (KX b o e) (hK b o e)
  have nolim : (hidT s0.heap H).NoLimit := by
    obtain ⟨mc, h1, h2⟩ := lim
    exact ⟨mc, isDict _ _ h1, h2⟩
  have modu : Mod K mg (hidT s0.heap H) := ⟨inK, isDict _ _ gl, ⟨mb, isDict _ _ bl, bb⟩, nolim⟩
  have here : Env0 P w K mg (hidT s0.heap H) callerA [] s0 H :=
    { frames := rfl, mod := modu, bs := fun b o e => of_hidT e, bsz := Nat.le_of_eq (hidT_size _ _), funs := trivial
      frf := fun b hb => by
        have hb' : b ∈ ([] : List Addr) := hb
        cases hb'
      hok := ok, bare := .of_eq gens }
  refine codeAny_mono ((F _ inK (isDict _ _ gl)).run callerA [] s0 H ⟨[.ref a], []⟩ [.ref a] [.ref a] _ _ rfl room here (bind s0 _) (.cons rfl .nil) (good H hS)) ?_
  intro r s' h
  match r, h with
  | .error e, h => exact h.elim
  | .ok (.ret u), ⟨v, H', os, bare, un, ok', r', q⟩ =>
    have q' : v = .bl true := q
    subst q'
    cases r'
    refine ⟨rfl, OldK.of_keep fun b o e => ?_, os, bare⟩
    rcases hH b with z | ⟨rfl, _, z⟩
    · refine un.keep b o e z (fun hb => ?_) (fun hb => nomatch hb)
      have hb' : b ∈ ([] : List Addr) := hb
      cases hb'
    · have e1 := (ok b _ z).1
      have e2 := (ok' b _ (un.frzs b _ _ z)).1
      rw [e] at e1
      cases e1
      exact e2
end
/-- what k_head leaves of a law, from the law's promise (no text under way) -/
theorem walk_ofG {l : PySem.W.OpenLaw} {n k : Nat} {q : Program} {loose : List Str} {XP : (Str → Option Value) → Heap → Prop} {YP : World → Heap → Prop} {d : DefRec} {K : Params → PySem.W.Frag} {sp : World → Sp} {x : Str}
    (most : l.most = some n) (few : n ≤ sizeLine) (hdf : d.params.defaults = []) (room : Room k callerA) (inK : ∀ (w : World) (h : Heap), YP w h → (K w.params).In h)
    (F : ∀ (w : World) (mg : Str → Option Value) (fa : Addr) (h : Heap), (K w.params).In h → h.Ns mainGlobals mg → mg d.name = some (.ref fa) →
      ∃ fd : FuncData, (∀ (s : Shared) (u : Value), BindsTo s fd ⟨[u], []⟩ [(x, u)]) ∧
        ∀ base : Heap, (K w.params).In base → base.Ns mainGlobals mg → FnG l.prog w (K w.params) mg base CX0 k fa fd [x] (sp w))
    (good : ∀ (w : World) (H : Hp) (a : Addr) (ns : List Int), ns.length ≤ n → SqL (K w.params) H a (ns.map V.int) → sp w [.ref a] H (fun v _ => v = .bl true) fun _ _ _ => False) :
    PySem.W.WalkO q loose XP YP l.row.toRowW d [] (fun f vs => PySem.call f vs) := by
  refine Att.attach_call most hdf ?_
  intro w s0 s1 mg mb fa o pm cd doc a vs ns G Y ho hd hcd hmg hobj hints hlen hg
  obtain ⟨fd, hb, hF⟩ := F w mg fa _ (inK w _ Y) G.T.g hmg
  exact law_end (inK w _ Y) G.T.g G.T.b G.T.builtins G.T.nolimit hg hobj hints (Nat.le_trans hlen few) room hF hb fun H hS => good w H a ns hlen hS
/-- the same where the promise hangs on the written part alone -/
theorem walk_ofGK {l : PySem.W.OpenLaw} {n k : Nat} {q : Program} {loose : List Str} {XP : (Str → Option Value) → Heap → Prop} {YP : World → Heap → Prop} {d : DefRec} {K : Params → PySem.W.Frag} {sp : PySem.W.Frag → Sp} {x : Str}
    (most : l.most = some n) (few : n ≤ sizeLine) (hdf : d.params.defaults = []) (room : Room k callerA) (inK : ∀ (w : World) (h : Heap), YP w h → (K w.params).In h)
    (F : ∀ (w : World) (mg : Str → Option Value) (fa : Addr) (h : Heap), (K w.params).In h → h.Ns mainGlobals mg → mg d.name = some (.ref fa) →
      ∃ fd : FuncData, (∀ (s : Shared) (u : Value), BindsTo s fd ⟨[u], []⟩ [(x, u)]) ∧
        ∀ base : Heap, (K w.params).In base → base.Ns mainGlobals mg → FnG l.prog w (K w.params) mg base CX0 k fa fd [x] (sp (K w.params)))
    (good : ∀ (K : PySem.W.Frag) (H : Hp) (a : Addr) (ns : List Int), ns.length ≤ n → SqL K H a (ns.map V.int) → sp K [.ref a] H (fun v _ => v = .bl true) fun _ _ _ => False) :
    PySem.W.WalkO q loose XP YP l.row.toRowW d [] (fun f vs => PySem.call f vs) :=
  walk_ofG (K := K) (sp := fun w => sp (K w.params)) most few hdf room inK F fun w H a ns h1 h2 => good (K w.params) H a ns h1 h2
end PW
namespace PW
open PySem PySem.Spec PyProof.Rows L2 Evl
/-- a def that keeps its promise, under its name -/
structure Cal (P : Program) (w : World) (K : PySem.W.Frag) (mg : Str → Option Value) (base : Heap) (CX : CXT) (k : Nat) (x : Str) (f : Addr) (fd : FuncData) (ps : List Str) (ds : List Value) (dvs : List V) (sp : Sp) : Prop where
  ok : FnOk P w K mg base CX k f fd ps sp
  g : mg x = some (.ref f)
  kp : PySem.W.keepIn K (.ref f) = true
  b : Binds K fd ps ds
  d : Vals dvs ds
structure CalG (P : Program) (w : World) (K : PySem.W.Frag) (mg : Str → Option Value) (base : Heap) (CX : CXT) (k : Nat) (x : Str) (f : Addr) (fd : FuncData) (ps : List Str) (sp : Sp) : Prop where
  ok : FnG P w K mg base CX k f fd ps sp
  g : mg x = some (.ref f)
  kp : PySem.W.keepIn K (.ref f) = true
  b : Binds K fd ps []
section
variable {X : Cx} {CX : CXT} {k : Nat} {f : Addr} {fd : FuncData} {ps : List Str} {ds : List Value} {dvs : List V} {sp : Sp} {E : XK} {E2 : L2.St → XK} {x : Str} {p pos : Pos} {e : Expr} {es : List Expr} {t : TA}
theorem pe_cal (c : Cal X.prog X.w X.K X.mg X.base CX k x f fd ps ds dvs sp) (hr : Room k X.A) (hx : Passes CX X E) (ha : PA X (e :: es) t) (hg : Gl X x := by rfl) (hdb : (x == ("__debug__" : Str)) = false := by decide)
    (he : starEach (e :: es) X.env = (false, eval e X.env) :: starEach es X.env := by rfl) (hpl : (backTo pos (starEach es X.env)).any (·.1) = false := by rfl) :
    PE X (.Call (.Name x p) (e :: es) [] pos) (tCall sp dvs E t) := pe_call c.ok hr hg c.g c.kp c.b c.d hx ha hdb he hpl
theorem pe_calS (c : Cal X.prog X.w X.K X.mg X.base CX k x f fd ps [] [] sp) (hr : Room k X.A) (hx : ∀ σ, PassesAt CX X σ (E2 σ)) (ha : PA X (e :: es) t) (hg : Gl X x := by rfl) (hdb : (x == ("__debug__" : Str)) = false := by decide)
    (he : starEach (e :: es) X.env = (false, eval e X.env) :: starEach es X.env := by rfl) (hpl : (backTo pos (starEach es X.env)).any (·.1) = false := by rfl) :
    PE X (.Call (.Name x p) (e :: es) [] pos) (tCallS sp E2 t) := pe_callS c.ok hr hg c.g c.kp c.b hx ha hdb he hpl
theorem pe_calG (c : CalG X.prog X.w X.K X.mg X.base CX0 k x f fd ps sp) (gd : X.A.guards = some []) (hr : Room k X.A) (ha : PA X (e :: es) t) (hg : Gl X x := by rfl) (hdb : (x == ("__debug__" : Str)) = false := by decide)
    (he : starEach (e :: es) X.env = (false, eval e X.env) :: starEach es X.env := by rfl) (hpl : (backTo pos (starEach es X.env)).any (·.1) = false := by rfl) :
    PE X (.Call (.Name x p) (e :: es) [] pos) (tCallS sp (fun _ => E0) t) := pe_callG c.ok gd hr hg c.g c.kp c.b (fun _ => fun _ _ _ _ _ _ h => h.elim) ha hdb he hpl
theorem pe_globR (hm : X.mg x = some (.ref f)) (hg : Gl X x := by rfl) (hd : (x == ("__debug__" : Str)) = false := by decide) : PE X (.Name x pos) (tC (.ref f)) := pe_glob hg hm rfl hd
theorem pe_strD {K : PySem.W.Frag} (gd : X.A.guards = some []) (hu : X.A.units + 64 < cLine) (hm : X.mg "str" = none) (ha : PA X (e :: es) t) (hK : X.K = K := by rfl) (hg : Gl X "str" := by rfl)
    (he : starEach (e :: es) X.env = (false, eval e X.env) :: starEach es X.env := by rfl) (hpl : (backTo pos (starEach es X.env)).any (·.1) = false := by rfl) :
    PE X (.Call (.Name "str" p) (e :: es) [] pos) (tCB (fun vs H Q => ∃ a d, vs = [.ref a] ∧ Dp K H (.ref a) d ∧ Show1 d ∧ Q (.str d.shown) H) t) := by
  subst hK
  exact pe_callTy (call_strD gd hu) hg hm (by decide +kernel) ha (by decide) (by decide) he hpl
theorem pe_repr (gd : X.A.guards = some []) (hu : X.A.units + 64 < cLine) (hm : X.mg "repr" = none) (ha : PA X (e :: es) t) (hg : Gl X "repr" := by rfl)
    (he : starEach (e :: es) X.env = (false, eval e X.env) :: starEach es X.env := by rfl) (hpl : (backTo pos (starEach es X.env)).any (·.1) = false := by rfl) :
    PE X (.Call (.Name "repr" p) (e :: es) [] pos) (tCB (rShow X.K) t) :=
  pe_callB (call_repr gd hu) hg hm (by decide +kernel) ha (by decide) (by decide) he hpl
theorem ix_listK {K : PySem.W.Frag} (hK : X.K = K := by rfl) : IxR X (rIxL K) := by
  subst hK
  exact ix_list
theorem ix_tupK {K : PySem.W.Frag} (hK : X.K = K := by rfl) : IxR X (rIxT K) := by
  subst hK
  exact ix_tup
theorem Cal.callee (c : Cal X.prog X.w X.K X.mg X.base CX k x f fd ps [] [] sp) (hr : Room k X.A) : Callee X CX f sp := ⟨k, fd, ps, c.ok, hr, c.kp, c.b⟩
end
section
variable {P : Program} {w : World} {K : PySem.W.Frag} {mg : Str → Option Value} {base : Heap}
theorem _root_.L2.Fun.okGn {x qual : Str} {st : Stmt} {f : Addr} {fd : FuncData} {N ps : List Str} {k : Nat} {sp : Sp} (F : Fun K x qual st f fd)
    (S : FnScope N ps (defScope st)) (len : ∀ vs H Q E, sp vs H Q E → vs.length = ps.length)
    (body : ∀ (cdv : Value) (A : Around) (outer : List Env) (s : Shared) (H : Hp) (vs : List V) (Q : VK) (E : XK), A.guards = some [] →
      Room k (A.deeper (envOfC qual (defScope st) s.heap.objs.size f cdv)) → sp vs H Q E →
      ∃ t, PSs (cxOf CX0 P w K mg base N qual (defScope st) f cdv A outer s H E).nox (defBody st) t ∧
        t { nx := fun _ H' => Q .non H', rt := Q } (start N vs) H) : FnG P w K mg base CX0 (k + 1) f fd ps sp :=
  F.okG S len fun cdv A outer s H vs Q E g hr h =>
    have ⟨t, a, b⟩ := body cdv A outer s H vs Q E g hr h
    ⟨t, a.nox, b⟩
theorem gd_deeper {A : Around} {e : Env} (h : A.guards = some []) : (A.deeper e).guards = some [] := h
theorem hu_64 {A : Around} {k : Nat} (hr : Room k A) : A.units + 64 < cLine := hr.units
end
/-- isinstance(e, c) of the exception that the suite holds, its class not told before -/
def rIsX (K : PySem.W.Frag) (a : Addr) (cls : Value) (d : Option Addr) : List V → Hp → VK → Prop := fun xs H Q => cls ≠ cls ∨ ∃ D, cls = .ref D ∧ d = none ∧ ExcC K D ∧ rIsE K D a xs H Q
theorem call_isX {X : Cx} {K : PySem.W.Frag} {a : Addr} {cls : Value} {d : Option Addr} {oe : Obj} {pn : List (Addr × Obj)} (hz : Zc cls d oe) (hf : ∃ vs, oe.data = .fields vs) (hK : X.K = K := by rfl) : CallR (X.suite a ((a, oe) :: pn)) (.builtin "isinstance") (rIsX K a cls d) := by
  subst hK
  intro pins s σ H xs us Q I r h
  rcases h with z | ⟨D, rfl, rfl, C, h⟩
  · exact absurd rfl z
  · exact call_isE C hz hf pins s σ H xs us Q I r h
/-- a number: a pair of ints -/
def Num (K : PySem.W.Frag) (H : Hp) (v : V) (a b : Int) : Prop := ∃ p, v = .ref p ∧ SqT K H p [.int a, .int b]
theorem Num.mono {K : PySem.W.Frag} {H H' : Hp} {v : V} {a b : Int} (e : Ex H H') (n : Num K H v a b) : Num K H' v a b :=
  have ⟨p, h1, h2⟩ := n
  ⟨p, h1, ex_t e h2⟩
def isN (a b : Int) : Prop := 1 ≤ b ∧ Int.gcd a b = 1
instance (a b : Int) : Decidable (isN a b) := inferInstanceAs (Decidable (_ ∧ _))
end PW
namespace PW
open PySem PySem.Spec PyProof.Rows L2 Evl
def topS (i : Nat) : Stmt := PySem.Challenge.pw_planeworth_k00_numbers.main.body.getD i (.Pass ⟨0, 0, 0, 0⟩)
abbrev s_is_number : Stmt := topS 8
theorem sc_is_number : FnScope ["x", "a", "b"] ["x"] (defScope s_is_number) := ⟨rfl, rfl, rfl, by decide +kernel, rfl, by decide +kernel, by decide +kernel⟩
abbrev s_check_number : Stmt := topS 9
theorem sc_check_number : FnScope ["x"] ["x"] (defScope s_check_number) := ⟨rfl, rfl, rfl, by decide +kernel, rfl, by decide +kernel, by decide +kernel⟩
abbrev s_number : Stmt := topS 10
theorem sc_number : FnScope ["a", "b", "shared"] ["a", "b"] (defScope s_number) := ⟨rfl, rfl, rfl, by decide +kernel, rfl, by decide +kernel, by decide +kernel⟩
abbrev s_plus : Stmt := topS 11
theorem sc_plus : FnScope ["x", "y"] ["x", "y"] (defScope s_plus) := ⟨rfl, rfl, rfl, by decide +kernel, rfl, by decide +kernel, by decide +kernel⟩
abbrev s_minus : Stmt := topS 12
theorem sc_minus : FnScope ["x", "y"] ["x", "y"] (defScope s_minus) := ⟨rfl, rfl, rfl, by decide +kernel, rfl, by decide +kernel, by decide +kernel⟩
abbrev s_times : Stmt := topS 13
theorem sc_times : FnScope ["x", "y"] ["x", "y"] (defScope s_times) := ⟨rfl, rfl, rfl, by decide +kernel, rfl, by decide +kernel, by decide +kernel⟩
abbrev s_over : Stmt := topS 14
theorem sc_over : FnScope ["x", "y"] ["x", "y"] (defScope s_over) := ⟨rfl, rfl, rfl, by decide +kernel, rfl, by decide +kernel, by decide +kernel⟩
abbrev s_whole_sign : Stmt := topS 15
theorem sc_whole_sign : FnScope ["a"] ["a"] (defScope s_whole_sign) := ⟨rfl, rfl, rfl, by decide +kernel, rfl, by decide +kernel, by decide +kernel⟩
abbrev s_sign : Stmt := topS 16
theorem sc_sign : FnScope ["x"] ["x"] (defScope s_sign) := ⟨rfl, rfl, rfl, by decide +kernel, rfl, by decide +kernel, by decide +kernel⟩
abbrev s_is_less : Stmt := topS 17
theorem sc_is_less : FnScope ["x", "y"] ["x", "y"] (defScope s_is_less) := ⟨rfl, rfl, rfl, by decide +kernel, rfl, by decide +kernel, by decide +kernel⟩
abbrev s_integer_text : Stmt := topS 18
theorem sc_integer_text : FnScope ["a"] ["a"] (defScope s_integer_text) := ⟨rfl, rfl, rfl, by decide +kernel, rfl, by decide +kernel, by decide +kernel⟩
abbrev s_number_text : Stmt := topS 19
theorem sc_number_text : FnScope ["x", "above", "below"] ["x"] (defScope s_number_text) := ⟨rfl, rfl, rfl, by decide +kernel, rfl, by decide +kernel, by decide +kernel⟩
abbrev s__law_number : Stmt := topS 21
theorem sc__law_number : FnScope ["cell"] ["cell"] (defScope s__law_number) := ⟨rfl, rfl, rfl, by decide +kernel, rfl, by decide +kernel, by decide +kernel⟩
abbrev s__law_draws : Stmt := topS 22
theorem sc__law_draws : FnScope ["script", "draws", "cell", "rest", "k", "once", "twice"] ["script"] (defScope s__law_draws) := ⟨rfl, rfl, rfl, by decide +kernel, rfl, by decide +kernel, by decide +kernel⟩
abbrev s__law_next : Stmt := topS 23
theorem sc__law_next : FnScope ["draws"] ["draws"] (defScope s__law_next) := ⟨rfl, rfl, rfl, by decide +kernel, rfl, by decide +kernel, by decide +kernel⟩
abbrev s__law_divisor : Stmt := topS 24
theorem sc__law_divisor : FnScope ["a", "b", "one", "other", "j"] ["a", "b"] (defScope s__law_divisor) := ⟨rfl, rfl, rfl, by decide +kernel, rfl, by decide +kernel, by decide +kernel⟩
abbrev s__law_lowest : Stmt := topS 25
theorem sc__law_lowest : FnScope ["a", "b", "common"] ["a", "b"] (defScope s__law_lowest) := ⟨rfl, rfl, rfl, by decide +kernel, rfl, by decide +kernel, by decide +kernel⟩
abbrev s__law_integer : Stmt := topS 26
theorem sc__law_integer : FnScope ["draws", "kind", "total", "j"] ["draws"] (defScope s__law_integer) := ⟨rfl, rfl, rfl, by decide +kernel, rfl, by decide +kernel, by decide +kernel⟩
abbrev s__law_pair : Stmt := topS 27
theorem sc__law_pair : FnScope ["draws", "a"] ["draws"] (defScope s__law_pair) := ⟨rfl, rfl, rfl, by decide +kernel, rfl, by decide +kernel, by decide +kernel⟩
abbrev s__law_told : Stmt := topS 28
theorem sc__law_told : FnScope ["way", "x", "y", "error"] ["way", "x", "y"] (defScope s__law_told) := ⟨rfl, rfl, rfl, by decide +kernel, rfl, by decide +kernel, by decide +kernel⟩
abbrev s__law_due : Stmt := topS 29
theorem sc__law_due : FnScope ["way", "x", "y"] ["way", "x", "y"] (defScope s__law_due) := ⟨rfl, rfl, rfl, by decide +kernel, rfl, by decide +kernel, by decide +kernel⟩
abbrev s_law : Stmt := topS 30
theorem sc_law : FnScope ["script", "draws", "a", "b", "x", "y", "way", "factor", "wrong"] ["script"] (defScope s_law) := ⟨rfl, rfl, rfl, by decide +kernel, rfl, by decide +kernel, by decide +kernel⟩
local macro_rules | `(tactic| walk_at "go") => `(tactic| simp only [tSeq, tAsg, tVar, tC, tOp, tUn, tRet, tRetN, tIfS, tTest, tB, tCB, tCons, tNil, tAndV, tOrV, tNotV, tAnd, tOr, tNot, tIf, gName, gTup, gCons, gNil, rI0, rI, rU, rEq, rNe, tCall, tCallS, tDrop, tTup, tLst, tNext, tPar, tBreak, rGcd, List.set_cons_zero, List.set_cons_succ, List.getElem?_cons_zero, List.getElem?_cons_succ, Option.some.injEq, exists_eq_left', exists_eq_left, V.int.injEq, V.bl.injEq, V.ref.injEq, List.cons.injEq, and_true, true_and, reduceCtorEq, L2.start, List.map_cons, List.map_nil, List.length_cons, List.length_nil, List.replicate_succ, List.replicate_zero, List.cons_append, List.nil_append, List.append_nil, Nat.reduceAdd, Nat.reduceSub, scal, exists_const, exists_and_left, ite_true, ite_false, decide_eq_true_eq, and_assoc, cxOf, Nat.zero_add, Bool.not_eq_true', decide_eq_false_iff_not, false_and, exists_false, or_false, false_or, Int.reduceLT, Int.reduceEq, Int.reduceLE, ↓reduceIte, exists_eq])
structure Txt (K : PySem.W.Frag) (mg : Str → Option Value) (ad : Nat → Addr) (fd : Nat → FuncData) : Prop where
  f_is_number : Fun K "is_number" "is_number" s_is_number (ad 8) (fd 8)
  g_is_number : mg "is_number" = some (.ref (ad 8))
  f_check_number : Fun K "check_number" "check_number" s_check_number (ad 9) (fd 9)
  g_check_number : mg "check_number" = some (.ref (ad 9))
  f_number : FunD K "number" "number" (defArgs s_number) (defBody s_number) (defScope s_number) [.int 1] [] (ad 10) (fd 10)
  g_number : mg "number" = some (.ref (ad 10))
  f_plus : Fun K "plus" "plus" s_plus (ad 11) (fd 11)
  g_plus : mg "plus" = some (.ref (ad 11))
  f_minus : Fun K "minus" "minus" s_minus (ad 12) (fd 12)
  g_minus : mg "minus" = some (.ref (ad 12))
  f_times : Fun K "times" "times" s_times (ad 13) (fd 13)
  g_times : mg "times" = some (.ref (ad 13))
  f_over : Fun K "over" "over" s_over (ad 14) (fd 14)
  g_over : mg "over" = some (.ref (ad 14))
  f_whole_sign : Fun K "whole_sign" "whole_sign" s_whole_sign (ad 15) (fd 15)
  g_whole_sign : mg "whole_sign" = some (.ref (ad 15))
  f_sign : Fun K "sign" "sign" s_sign (ad 16) (fd 16)
  g_sign : mg "sign" = some (.ref (ad 16))
  f_is_less : Fun K "is_less" "is_less" s_is_less (ad 17) (fd 17)
  g_is_less : mg "is_less" = some (.ref (ad 17))
  f_number_text : Fun K "number_text" "number_text" s_number_text (ad 19) (fd 19)
  g_number_text : mg "number_text" = some (.ref (ad 19))
  f__law_number : Fun K "_law_number" "_law_number" s__law_number (ad 21) (fd 21)
  g__law_number : mg "_law_number" = some (.ref (ad 21))
  f__law_draws : Fun K "_law_draws" "_law_draws" s__law_draws (ad 22) (fd 22)
  g__law_draws : mg "_law_draws" = some (.ref (ad 22))
  f__law_next : Fun K "_law_next" "_law_next" s__law_next (ad 23) (fd 23)
  g__law_next : mg "_law_next" = some (.ref (ad 23))
  f__law_divisor : Fun K "_law_divisor" "_law_divisor" s__law_divisor (ad 24) (fd 24)
  g__law_divisor : mg "_law_divisor" = some (.ref (ad 24))
  f__law_lowest : Fun K "_law_lowest" "_law_lowest" s__law_lowest (ad 25) (fd 25)
  g__law_lowest : mg "_law_lowest" = some (.ref (ad 25))
  f__law_integer : Fun K "_law_integer" "_law_integer" s__law_integer (ad 26) (fd 26)
  g__law_integer : mg "_law_integer" = some (.ref (ad 26))
  f__law_pair : Fun K "_law_pair" "_law_pair" s__law_pair (ad 27) (fd 27)
  g__law_pair : mg "_law_pair" = some (.ref (ad 27))
  f__law_told : Fun K "_law_told" "_law_told" s__law_told (ad 28) (fd 28)
  g__law_told : mg "_law_told" = some (.ref (ad 28))
  f__law_due : Fun K "_law_due" "_law_due" s__law_due (ad 29) (fd 29)
  g__law_due : mg "_law_due" = some (.ref (ad 29))
  f_law : Fun K "law" "law" s_law (ad 30) (fd 30)
  g_law : mg "law" = some (.ref (ad 30))
  m_str : mg "str" = none
  m_abs : mg "abs" = none
  m_range : mg "range" = none
  m_int : mg "int" = none
  m_isinstance : mg "isinstance" = none
  m_all : mg "all" = none
  m_repr : mg "repr" = none
  g_gcd : mg "gcd" = some (.builtin "math.gcd")
  g_PlaneError : mg "PlaneError" = some (.ref (ad 2))
  g_NotNumber : mg "NotNumber" = some (.ref (ad 3))
  x_NotNumber : PySem.W.excIn K (ad 3) [.type "ValueError", .type "Exception", .type "BaseException", .type "object"] "ValueError.__new__" = true
  k_NotNumber : PySem.W.keepIn K (.ref (ad 3)) = true
  s_NotNumber : PySem.W.subIn K (.ref (ad 3)) (.type "BaseException") = some true
  t_NotNumber : PySem.W.typeIn K (.ref (ad 3)) = some (.type "type")
  g_BadNumber : mg "BadNumber" = some (.ref (ad 4))
  x_BadNumber : PySem.W.excIn K (ad 4) [.type "ValueError", .type "Exception", .type "BaseException", .type "object"] "ValueError.__new__" = true
  k_BadNumber : PySem.W.keepIn K (.ref (ad 4)) = true
  s_BadNumber : PySem.W.subIn K (.ref (ad 4)) (.type "BaseException") = some true
  t_BadNumber : PySem.W.typeIn K (.ref (ad 4)) = some (.type "type")
  g_TooLarge : mg "TooLarge" = some (.ref (ad 5))
  e_NotNumber_PlaneError : PySem.W.exmOne K (.ref (ad 3)) (.ref (ad 2)) = some true
  e_BadNumber_PlaneError : PySem.W.exmOne K (.ref (ad 4)) (.ref (ad 2)) = some true
  c_NotNumber : ExcC K (ad 3)
  c_BadNumber : ExcC K (ad 4)
  i_NotNumber_NotNumber : PySem.W.kitOne K (.ref (ad 3)) (.ref (ad 3)) = some true
  i_NotNumber_BadNumber : PySem.W.kitOne K (.ref (ad 3)) (.ref (ad 4)) = some false
  i_BadNumber_BadNumber : PySem.W.kitOne K (.ref (ad 4)) (.ref (ad 4)) = some true
  i_BadNumber_NotNumber : PySem.W.kitOne K (.ref (ad 4)) (.ref (ad 3)) = some false
section
variable {P : Program} {w : World} {K : PySem.W.Frag} {mg : Str → Option Value} {base : Heap} {ad : Nat → Addr} {fd : Nat → FuncData}
def sp_is_number (K : PySem.W.Frag) : Sp := fun vs H Q _ => ∃ v a b, vs = [v] ∧ Num K H v a b ∧ ∀ H', Ex H H' → Q (.bl (decide (isN a b))) H'
theorem ok_is_number (T : Txt K mg ad fd) : Cal P w K mg base CX0 1 "is_number" (ad 8) (fd 8) ["x"] [] [] (sp_is_number K) := by
  refine ⟨T.f_is_number.ok sc_is_number (fun vs H Q E h => ?_) (fun cdv A outer s H vs Q E hr h => ?_), T.g_is_number, T.f_is_number.kp, T.f_is_number.binds (ps := ["x"]) fun _ _ _ _ _ _ us hl => match us, hl with | [_], _ => rfl, .nil⟩
  · obtain ⟨v, a, b, rfl, _⟩ := h
    rfl
  · obtain ⟨v, a, b, rfl, ⟨p, rfl, hp⟩, q⟩ := h
    refine ⟨_, (pss_cons (ps_asg (pv 0) (pg_tup (n := 2) rfl (pgs_cons (pg_name (i := 1) sc_is_number.nd rfl (by first | exact Or.inl rfl | exact Or.inr rfl)) (pgs_cons (pg_name (i := 2) sc_is_number.nd rfl (by first | exact Or.inl rfl | exact Or.inr rfl)) pgs_nil))))
    (pss_one (ps_ret (pe_and (pe_cmpR op_ge (pv 2) pe_int (nomark _)) (pe_one (pe_cmpR op_eq (pe_callBfun cr_gcd rfl T.g_gcd (pa_cons (pv 1) (pa_cons (pv 2) pa_nil))) pe_int (nomark _))))))), ?_⟩
    walk_at "go"
    refine ⟨[V.int a, V.int b], hp, rfl, _, _, rfl, ?_⟩
    walk_at "go"
    have q := q H (Ex.refl H)
    by_cases h1 : 1 ≤ b
    · rw [if_pos h1]
      have e : decide ((a.natAbs.gcd b.natAbs : Int) = 1) = decide (isN a b) := by
        unfold isN Int.gcd
        by_cases h2 : a.natAbs.gcd b.natAbs = 1 <;> simp [h1, h2] <;> omega
      rw [e]
      exact q
    · rw [if_neg h1]
      rw [decide_eq_false (fun z => h1 z.1)] at q
      exact q
/-- raises the error of the class at c, or hands back None -/
def sp_check_number (K : PySem.W.Frag) (c : Addr) : Sp := fun vs H Q E => ∃ v a b, vs = [v] ∧ Num K H v a b ∧ (isN a b → ∀ H', Ex H H' → Q .non H') ∧ (¬ isN a b → ∀ H', Ex H H' → E (.ref c) none H')
theorem ok_check_number (T : Txt K mg ad fd) : Cal P w K mg base (L2.CX P w) 2 "check_number" (ad 9) (fd 9) ["x"] [] [] (sp_check_number K (ad 3)) := by
  refine ⟨T.f_check_number.okX sc_check_number (fun vs H Q E h => ?_) (fun cdv A outer s H vs Q E hr h => ?_), T.g_check_number, T.f_check_number.kp, T.f_check_number.binds (ps := ["x"]) fun _ _ _ _ _ _ us hl => match us, hl with | [_], _ => rfl, .nil⟩
  · obtain ⟨v, a, b, rfl, _⟩ := h
    rfl
  · obtain ⟨v, a, b, rfl, hp, q1, q2⟩ := h
    refine ⟨_, (pss_one (ps_if (pt_not (pt_val (pe_cal (ok_is_number T (P := P) (w := w) (base := base)) (hr.mono (by decide)) pass0 (pa_cons (pv 0) pa_nil)))) (pss_one (ps_raise rfl (takes_of rfl rfl rfl rfl) (pmk_own PySem.F.excBase_ValueError T.x_NotNumber T.g_NotNumber T.k_NotNumber (raises_own T.s_NotNumber T.t_NotNumber) rfl))) pss_nil)), ?_⟩
    walk_at "go"
    refine ⟨v, a, b, rfl, hp, fun H1 e1 => ⟨_, rfl, ?_⟩⟩
    by_cases hn : isN a b
    · rw [decide_eq_true hn]
      exact q1 hn H1 e1
    · rw [decide_eq_false hn]
      exact q2 hn H1 e1
/-- a over b in lowest terms, b below the bar above 0 -/
def sg (a b : Int) : Int := if b < 0 then -((a.natAbs.gcd b.natAbs : Nat) : Int) else ((a.natAbs.gcd b.natAbs : Nat) : Int)
def nrm (a b : Int) : Int × Int := (a.fdiv (sg a b), b.fdiv (sg a b))
theorem sg_ne {a b : Int} (h : b ≠ 0) : sg a b ≠ 0 := by
  have : a.natAbs.gcd b.natAbs ≠ 0 := fun z => h (by have := (Nat.gcd_eq_zero_iff.mp z).2; omega)
  unfold sg
  split <;> omega
theorem sg_abs (a b : Int) : (sg a b).natAbs = a.natAbs.gcd b.natAbs := by
  unfold sg
  split <;> omega
theorem sg_small {a b : Int} (h : b ≠ 0) (hb : b.natAbs < 2 ^ 8000) : (sg a b).natAbs.log2 < 9000 := by
  have h1 : a.natAbs.gcd b.natAbs ≤ b.natAbs := Nat.gcd_le_right _ (by omega)
  rw [sg_abs]
  have h3 : a.natAbs.gcd b.natAbs ≠ 0 := fun z => h (by have := (Nat.gcd_eq_zero_iff.mp z).2; omega)
  have h4 := (Nat.log2_lt h3 (k := 8000)).mpr (Nat.lt_of_le_of_lt h1 hb)
  omega
def qNumber (K : PySem.W.Frag) (cB : Addr) (a b : Int) (H : Hp) (Q : VK) (E : XK) : Prop :=
  (b = 0 → ∀ H', Ex H H' → E (.ref cB) none H') ∧ (b ≠ 0 → ∀ H' v, Ex H H' → Num K H' v (nrm a b).1 (nrm a b).2 → Q v H')
theorem qNumber.mono {K : PySem.W.Frag} {cB : Addr} {a b : Int} {H H' : Hp} {Q : VK} {E : XK} (e : Ex H H') (q : qNumber K cB a b H Q E) : qNumber K cB a b H' Q E :=
  ⟨fun z H2 e2 => q.1 z H2 (e.trans e2), fun z H2 v e2 => q.2 z H2 v (e.trans e2)⟩
def sp_number (K : PySem.W.Frag) (cB : Addr) : Sp := fun vs H Q E => ∃ a b, vs = [.int a, .int b] ∧ b.natAbs < 2 ^ 8000 ∧ qNumber K cB a b H Q E
theorem fn_number (T : Txt K mg ad fd) : FnOk P w K mg base (L2.CX P w) 1 (ad 10) (fd 10) ["a", "b"] (sp_number K (ad 4)) := by
  refine T.f_number.ok sc_number (fun vs H Q E h => ?_) (fun cdv A outer s H vs Q E hr h => ?_)
  · obtain ⟨a, b, rfl, _⟩ := h
    rfl
  · obtain ⟨a, b, rfl, hb, q1, q2⟩ := h
    refine ⟨_, (pss_cons (ps_if (pt_cmpR op_eq (pv 1) pe_int (nomark _)) (pss_one (ps_raise rfl (takes_of rfl rfl rfl rfl) (pmk_own PySem.F.excBase_ValueError T.x_BadNumber T.g_BadNumber T.k_BadNumber (raises_own T.s_BadNumber T.t_BadNumber) rfl))) pss_nil)
    (pss_cons (ps_set (i := 2) sc_number.nd rfl (by first | exact Or.inl rfl | exact Or.inr rfl) (pe_callBfun cr_gcd rfl T.g_gcd (pa_cons (pv 0) (pa_cons (pv 1) pa_nil))))
    (pss_cons (ps_if (pt_cmpR op_lt (pv 1) pe_int (nomark _)) (pss_one (ps_set (i := 2) sc_number.nd rfl (by first | exact Or.inl rfl | exact Or.inr rfl) (pe_un un_neg (pv 2)))) pss_nil)
    (pss_one (ps_ret (pe_tup (pa_cons (pe_op op_fdivG (pv 0) (pv 2)) (pa_cons (pe_op op_fdivG (pv 1) (pv 2)) pa_nil)))))))), ?_⟩
    walk_at "go"
    by_cases h0 : b = 0
    · rw [if_pos h0]
      exact q1 h0 H (Ex.refl H)
    · rw [if_neg h0]
      have fin : ∀ g : Int, g = sg a b → ∀ H1, H1 = H → CDivG a g ∧ CDivG b g ∧ (2 : Nat) ≤ sizeLine ∧ ∀ p, H p = none → Q (.ref p) (upd H p (.tup [.int (a.fdiv g), .int (b.fdiv g)])) := by
        rintro g rfl H1 _
        refine ⟨⟨sg_ne h0, sg_small h0 hb⟩, ⟨sg_ne h0, sg_small h0 hb⟩, by decide, fun p hp => ?_⟩
        exact q2 h0 _ _ (Ex.new hp) ⟨p, rfl, .inl (.inl upd_same)⟩
      by_cases hlt : b < 0
      · rw [if_pos hlt]
        exact fin _ (by unfold sg; rw [if_pos hlt]) H rfl
      · rw [if_neg hlt]
        exact fin _ (by unfold sg; rw [if_neg hlt]) H rfl
theorem ok_number (T : Txt K mg ad fd) : Cal P w K mg base (L2.CX P w) 1 "number" (ad 10) (fd 10) ["a", "b"] [] [] (sp_number K (ad 4)) := by
  obtain ⟨ds, h1, h2⟩ := T.f_number.binds1 (ps := ["a", "b"]) 2 1 (by simp) (by simp) (fun Tq kV doc pm an cdv ct us its hu hi => by
    match us, hu, its, hi with
    | [u1, u2], _, [i1], _ => exact ⟨_, rfl, rfl⟩)
  have e : ds = [] := by
    cases h1
    rfl
  rw [e] at h2
  exact ⟨fn_number T, T.g_number, T.f_number.kp, h2, .nil⟩
theorem ok_number1 (T : Txt K mg ad fd) : ∃ ds, Cal P w K mg base (L2.CX P w) 1 "number" (ad 10) (fd 10) ["a", "b"] ds [.int 1] (sp_number K (ad 4)) := by
  obtain ⟨ds, h1, h2⟩ := T.f_number.binds1 (ps := ["a", "b"]) 1 0 (by simp) (by simp) (fun Tq kV doc pm an cdv ct us its hu hi => by
    match us, hu, its, hi with
    | [u1], _, [i1], _ => exact ⟨_, rfl, rfl⟩)
  exact ⟨ds, fn_number T, T.g_number, T.f_number.kp, h2, h1⟩
/-- two numbers checked, then a number made of both -/
def Two (K : PySem.W.Frag) (H : Hp) (vs : List V) (a b c d : Int) : Prop := ∃ x y, vs = [x, y] ∧ Num K H x a b ∧ Num K H y c d ∧ a.natAbs < 2 ^ 3000 ∧ b.natAbs < 2 ^ 3000 ∧ c.natAbs < 2 ^ 3000 ∧ d.natAbs < 2 ^ 3000
def sp_two (K : PySem.W.Frag) (cN cB : Addr) (f g : Int → Int → Int → Int → Int) : Sp := fun vs H Q E => ∃ a b c d, Two K H vs a b c d ∧
  (¬ (isN a b ∧ isN c d) → ∀ H', Ex H H' → E (.ref cN) none H') ∧ (isN a b ∧ isN c d → qNumber K cB (f a b c d) (g a b c d) H Q E)
theorem mul_ok {x y : Int} (hx : x.natAbs < 2 ^ 3000) (hy : y.natAbs < 2 ^ 3000) : CMulW x y := wide_mul hx hy (by decide) (by decide) (by decide)
theorem mul_lt {x y : Int} (hx : x.natAbs < 2 ^ 3000) (hy : y.natAbs < 2 ^ 3000) : (x * y).natAbs < 2 ^ 8000 := Nat.lt_of_lt_of_le (wide_lt hx hy) (Nat.pow_le_pow_right (by decide) (by decide))
theorem rix0 {K : PySem.W.Frag} {H : Hp} {v : V} {a b : Int} {Q : VK} (n : Num K H v a b) (q : Q (.int a) H) : rIxT K v (.int 0) H Q := by
  obtain ⟨p, rfl, hp⟩ := n
  exact ⟨p, _, 0, _, rfl, rfl, hp, rfl, q⟩
theorem rix1 {K : PySem.W.Frag} {H : Hp} {v : V} {a b : Int} {Q : VK} (n : Num K H v a b) (q : Q (.int b) H) : rIxT K v (.int 1) H Q := by
  obtain ⟨p, rfl, hp⟩ := n
  exact ⟨p, _, 1, _, rfl, rfl, hp, rfl, q⟩
local macro_rules | `(tactic| walk_at "nums") => `(tactic| repeat' (first | refine rix0 (by assumption) ?_ | refine rix1 (by assumption) ?_ | refine And.intro (mul_ok (by assumption) (by assumption)) ?_ | walk_at "go"))
theorem ok_plus (T : Txt K mg ad fd) : Cal P w K mg base (L2.CX P w) 3 "plus" (ad 11) (fd 11) ["x", "y"] [] [] (sp_two K (ad 3) (ad 4) (fun a b c d => a * d + c * b) (fun a b c d => b * d)) := by
  refine ⟨T.f_plus.okX sc_plus (fun vs H Q E h => ?_) (fun cdv A outer s H vs Q E hr h => ?_), T.g_plus, T.f_plus.kp, T.f_plus.binds (ps := ["x", "y"]) fun _ _ _ _ _ _ us hl => match us, hl with | [_, _], _ => rfl, .nil⟩
  · obtain ⟨a, b, c, d, ⟨x, y, rfl, _⟩, _⟩ := h
    rfl
  · obtain ⟨a, b, c, d, ⟨x, y, rfl, hx, hy, ha, hb, hc, hd⟩, qE, qQ⟩ := h
    refine ⟨_, (pss_cons (ps_expr (pe_cal (ok_check_number T (P := P) (w := w) (base := base)) (hr.mono (by decide)) (passes_call (takes_of rfl rfl rfl rfl) fun _ _ _ _ h => h) (pa_cons (pv 0) pa_nil)))
    (pss_cons (ps_expr (pe_cal (ok_check_number T (P := P) (w := w) (base := base)) (hr.mono (by decide)) (passes_call (takes_of rfl rfl rfl rfl) fun _ _ _ _ h => h) (pa_cons (pv 1) pa_nil)))
    (pss_one (ps_ret (pe_cal (ok_number T (P := P) (w := w) (base := base)) (hr.mono (by decide)) (passes_call (takes_of rfl rfl rfl rfl) fun _ _ _ _ h => h) (pa_cons (pe_op op_add (pe_op op_mulW (pe_ix (ix_tupK (K := K)) (pv 0) pe_int (fun _ _ => rfl)) (pe_ix (ix_tupK (K := K)) (pv 1) pe_int (fun _ _ => rfl))) (pe_op op_mulW (pe_ix (ix_tupK (K := K)) (pv 1) pe_int (fun _ _ => rfl)) (pe_ix (ix_tupK (K := K)) (pv 0) pe_int (fun _ _ => rfl)))) (pa_cons (pe_op op_mulW (pe_ix (ix_tupK (K := K)) (pv 0) pe_int (fun _ _ => rfl)) (pe_ix (ix_tupK (K := K)) (pv 1) pe_int (fun _ _ => rfl))) pa_nil))))))), ?_⟩
    walk_at "go"
    refine ⟨_, a, b, rfl, hx, fun n1 H1 e1 => ?_, fun n1 H1 e1 => qE (fun z => n1 z.1) H1 e1⟩
    walk_at "go"
    refine ⟨_, c, d, rfl, hy.mono e1, fun n2 H2 e2 => ?_, fun n2 H2 e2 => qE (fun z => n2 z.2) H2 (e1.trans e2)⟩
    have hx := hx.mono (e1.trans e2)
    have hy := hy.mono (e1.trans e2)
    walk_at "go"
    walk_at "nums"
    exact ⟨_, _, rfl, mul_lt (by assumption) (by assumption), (qQ ⟨n1, n2⟩).mono (e1.trans e2)⟩
theorem ok_minus (T : Txt K mg ad fd) : Cal P w K mg base (L2.CX P w) 3 "minus" (ad 12) (fd 12) ["x", "y"] [] [] (sp_two K (ad 3) (ad 4) (fun a b c d => a * d - c * b) (fun a b c d => b * d)) := by
  refine ⟨T.f_minus.okX sc_minus (fun vs H Q E h => ?_) (fun cdv A outer s H vs Q E hr h => ?_), T.g_minus, T.f_minus.kp, T.f_minus.binds (ps := ["x", "y"]) fun _ _ _ _ _ _ us hl => match us, hl with | [_, _], _ => rfl, .nil⟩
  · obtain ⟨a, b, c, d, ⟨x, y, rfl, _⟩, _⟩ := h
    rfl
  · obtain ⟨a, b, c, d, ⟨x, y, rfl, hx, hy, ha, hb, hc, hd⟩, qE, qQ⟩ := h
    refine ⟨_, (pss_cons (ps_expr (pe_cal (ok_check_number T (P := P) (w := w) (base := base)) (hr.mono (by decide)) (passes_call (takes_of rfl rfl rfl rfl) fun _ _ _ _ h => h) (pa_cons (pv 0) pa_nil)))
    (pss_cons (ps_expr (pe_cal (ok_check_number T (P := P) (w := w) (base := base)) (hr.mono (by decide)) (passes_call (takes_of rfl rfl rfl rfl) fun _ _ _ _ h => h) (pa_cons (pv 1) pa_nil)))
    (pss_one (ps_ret (pe_cal (ok_number T (P := P) (w := w) (base := base)) (hr.mono (by decide)) (passes_call (takes_of rfl rfl rfl rfl) fun _ _ _ _ h => h) (pa_cons (pe_op op_sub (pe_op op_mulW (pe_ix (ix_tupK (K := K)) (pv 0) pe_int (fun _ _ => rfl)) (pe_ix (ix_tupK (K := K)) (pv 1) pe_int (fun _ _ => rfl))) (pe_op op_mulW (pe_ix (ix_tupK (K := K)) (pv 1) pe_int (fun _ _ => rfl)) (pe_ix (ix_tupK (K := K)) (pv 0) pe_int (fun _ _ => rfl)))) (pa_cons (pe_op op_mulW (pe_ix (ix_tupK (K := K)) (pv 0) pe_int (fun _ _ => rfl)) (pe_ix (ix_tupK (K := K)) (pv 1) pe_int (fun _ _ => rfl))) pa_nil))))))), ?_⟩
    walk_at "go"
    refine ⟨_, a, b, rfl, hx, fun n1 H1 e1 => ?_, fun n1 H1 e1 => qE (fun z => n1 z.1) H1 e1⟩
    walk_at "go"
    refine ⟨_, c, d, rfl, hy.mono e1, fun n2 H2 e2 => ?_, fun n2 H2 e2 => qE (fun z => n2 z.2) H2 (e1.trans e2)⟩
    have hx := hx.mono (e1.trans e2)
    have hy := hy.mono (e1.trans e2)
    walk_at "go"
    walk_at "nums"
    exact ⟨_, _, rfl, mul_lt (by assumption) (by assumption), (qQ ⟨n1, n2⟩).mono (e1.trans e2)⟩
theorem ok_times (T : Txt K mg ad fd) : Cal P w K mg base (L2.CX P w) 3 "times" (ad 13) (fd 13) ["x", "y"] [] [] (sp_two K (ad 3) (ad 4) (fun a b c d => a * c) (fun a b c d => b * d)) := by
  refine ⟨T.f_times.okX sc_times (fun vs H Q E h => ?_) (fun cdv A outer s H vs Q E hr h => ?_), T.g_times, T.f_times.kp, T.f_times.binds (ps := ["x", "y"]) fun _ _ _ _ _ _ us hl => match us, hl with | [_, _], _ => rfl, .nil⟩
  · obtain ⟨a, b, c, d, ⟨x, y, rfl, _⟩, _⟩ := h
    rfl
  · obtain ⟨a, b, c, d, ⟨x, y, rfl, hx, hy, ha, hb, hc, hd⟩, qE, qQ⟩ := h
    refine ⟨_, (pss_cons (ps_expr (pe_cal (ok_check_number T (P := P) (w := w) (base := base)) (hr.mono (by decide)) (passes_call (takes_of rfl rfl rfl rfl) fun _ _ _ _ h => h) (pa_cons (pv 0) pa_nil)))
    (pss_cons (ps_expr (pe_cal (ok_check_number T (P := P) (w := w) (base := base)) (hr.mono (by decide)) (passes_call (takes_of rfl rfl rfl rfl) fun _ _ _ _ h => h) (pa_cons (pv 1) pa_nil)))
    (pss_one (ps_ret (pe_cal (ok_number T (P := P) (w := w) (base := base)) (hr.mono (by decide)) (passes_call (takes_of rfl rfl rfl rfl) fun _ _ _ _ h => h) (pa_cons (pe_op op_mulW (pe_ix (ix_tupK (K := K)) (pv 0) pe_int (fun _ _ => rfl)) (pe_ix (ix_tupK (K := K)) (pv 1) pe_int (fun _ _ => rfl))) (pa_cons (pe_op op_mulW (pe_ix (ix_tupK (K := K)) (pv 0) pe_int (fun _ _ => rfl)) (pe_ix (ix_tupK (K := K)) (pv 1) pe_int (fun _ _ => rfl))) pa_nil))))))), ?_⟩
    walk_at "go"
    refine ⟨_, a, b, rfl, hx, fun n1 H1 e1 => ?_, fun n1 H1 e1 => qE (fun z => n1 z.1) H1 e1⟩
    walk_at "go"
    refine ⟨_, c, d, rfl, hy.mono e1, fun n2 H2 e2 => ?_, fun n2 H2 e2 => qE (fun z => n2 z.2) H2 (e1.trans e2)⟩
    have hx := hx.mono (e1.trans e2)
    have hy := hy.mono (e1.trans e2)
    walk_at "go"
    walk_at "nums"
    exact ⟨_, _, rfl, mul_lt (by assumption) (by assumption), (qQ ⟨n1, n2⟩).mono (e1.trans e2)⟩
theorem ok_over (T : Txt K mg ad fd) : Cal P w K mg base (L2.CX P w) 3 "over" (ad 14) (fd 14) ["x", "y"] [] [] (sp_two K (ad 3) (ad 4) (fun a b c d => a * d) (fun a b c d => b * c)) := by
  refine ⟨T.f_over.okX sc_over (fun vs H Q E h => ?_) (fun cdv A outer s H vs Q E hr h => ?_), T.g_over, T.f_over.kp, T.f_over.binds (ps := ["x", "y"]) fun _ _ _ _ _ _ us hl => match us, hl with | [_, _], _ => rfl, .nil⟩
  · obtain ⟨a, b, c, d, ⟨x, y, rfl, _⟩, _⟩ := h
    rfl
  · obtain ⟨a, b, c, d, ⟨x, y, rfl, hx, hy, ha, hb, hc, hd⟩, qE, qQ⟩ := h
    refine ⟨_, (pss_cons (ps_expr (pe_cal (ok_check_number T (P := P) (w := w) (base := base)) (hr.mono (by decide)) (passes_call (takes_of rfl rfl rfl rfl) fun _ _ _ _ h => h) (pa_cons (pv 0) pa_nil)))
    (pss_cons (ps_expr (pe_cal (ok_check_number T (P := P) (w := w) (base := base)) (hr.mono (by decide)) (passes_call (takes_of rfl rfl rfl rfl) fun _ _ _ _ h => h) (pa_cons (pv 1) pa_nil)))
    (pss_one (ps_ret (pe_cal (ok_number T (P := P) (w := w) (base := base)) (hr.mono (by decide)) (passes_call (takes_of rfl rfl rfl rfl) fun _ _ _ _ h => h) (pa_cons (pe_op op_mulW (pe_ix (ix_tupK (K := K)) (pv 0) pe_int (fun _ _ => rfl)) (pe_ix (ix_tupK (K := K)) (pv 1) pe_int (fun _ _ => rfl))) (pa_cons (pe_op op_mulW (pe_ix (ix_tupK (K := K)) (pv 0) pe_int (fun _ _ => rfl)) (pe_ix (ix_tupK (K := K)) (pv 1) pe_int (fun _ _ => rfl))) pa_nil))))))), ?_⟩
    walk_at "go"
    refine ⟨_, a, b, rfl, hx, fun n1 H1 e1 => ?_, fun n1 H1 e1 => qE (fun z => n1 z.1) H1 e1⟩
    walk_at "go"
    refine ⟨_, c, d, rfl, hy.mono e1, fun n2 H2 e2 => ?_, fun n2 H2 e2 => qE (fun z => n2 z.2) H2 (e1.trans e2)⟩
    have hx := hx.mono (e1.trans e2)
    have hy := hy.mono (e1.trans e2)
    walk_at "go"
    walk_at "nums"
    exact ⟨_, _, rfl, mul_lt (by assumption) (by assumption), (qQ ⟨n1, n2⟩).mono (e1.trans e2)⟩
def sp_is_less (K : PySem.W.Frag) (cN : Addr) : Sp := fun vs H Q E => ∃ a b c d, Two K H vs a b c d ∧
  (¬ (isN a b ∧ isN c d) → ∀ H', Ex H H' → E (.ref cN) none H') ∧ (isN a b ∧ isN c d → ∀ H', Ex H H' → Q (.bl (decide (a * d < c * b))) H')
theorem ok_is_less (T : Txt K mg ad fd) : Cal P w K mg base (L2.CX P w) 3 "is_less" (ad 17) (fd 17) ["x", "y"] [] [] (sp_is_less K (ad 3)) := by
  refine ⟨T.f_is_less.okX sc_is_less (fun vs H Q E h => ?_) (fun cdv A outer s H vs Q E hr h => ?_), T.g_is_less, T.f_is_less.kp, T.f_is_less.binds (ps := ["x", "y"]) fun _ _ _ _ _ _ us hl => match us, hl with | [_, _], _ => rfl, .nil⟩
  · obtain ⟨a, b, c, d, ⟨x, y, rfl, _⟩, _⟩ := h
    rfl
  · obtain ⟨a, b, c, d, ⟨x, y, rfl, hx, hy, ha, hb, hc, hd⟩, qE, qQ⟩ := h
    refine ⟨_, (pss_cons (ps_expr (pe_cal (ok_check_number T (P := P) (w := w) (base := base)) (hr.mono (by decide)) (passes_call (takes_of rfl rfl rfl rfl) fun _ _ _ _ h => h) (pa_cons (pv 0) pa_nil)))
    (pss_cons (ps_expr (pe_cal (ok_check_number T (P := P) (w := w) (base := base)) (hr.mono (by decide)) (passes_call (takes_of rfl rfl rfl rfl) fun _ _ _ _ h => h) (pa_cons (pv 1) pa_nil)))
    (pss_one (ps_ret (pe_cmpR op_lt (pe_op op_mulW (pe_ix (ix_tupK (K := K)) (pv 0) pe_int (fun _ _ => rfl)) (pe_ix (ix_tupK (K := K)) (pv 1) pe_int (fun _ _ => rfl))) (pe_op op_mulW (pe_ix (ix_tupK (K := K)) (pv 1) pe_int (fun _ _ => rfl)) (pe_ix (ix_tupK (K := K)) (pv 0) pe_int (fun _ _ => rfl))) (nomark _)))))), ?_⟩
    walk_at "go"
    refine ⟨_, a, b, rfl, hx, fun n1 H1 e1 => ?_, fun n1 H1 e1 => qE (fun z => n1 z.1) H1 e1⟩
    walk_at "go"
    refine ⟨_, c, d, rfl, hy.mono e1, fun n2 H2 e2 => ?_, fun n2 H2 e2 => qE (fun z => n2 z.2) H2 (e1.trans e2)⟩
    have hx := hx.mono (e1.trans e2)
    have hy := hy.mono (e1.trans e2)
    walk_at "go"
    walk_at "nums"
    exact qQ ⟨n1, n2⟩ _ (e1.trans e2)
def sgn (a : Int) : Int := if a > 0 then 1 else if a < 0 then -1 else 0
def sp_whole_sign : Sp := fun vs H Q _ => ∃ a, vs = [.int a] ∧ Q (.int (sgn a)) H
theorem ok_whole_sign (T : Txt K mg ad fd) : Cal P w K mg base CX0 1 "whole_sign" (ad 15) (fd 15) ["a"] [] [] sp_whole_sign := by
  refine ⟨T.f_whole_sign.ok sc_whole_sign (fun vs H Q E h => ?_) (fun cdv A outer s H vs Q E hr h => ?_), T.g_whole_sign, T.f_whole_sign.kp, T.f_whole_sign.binds (ps := ["a"]) fun _ _ _ _ _ _ us hl => match us, hl with | [_], _ => rfl, .nil⟩
  · obtain ⟨a, rfl, _⟩ := h
    rfl
  · obtain ⟨a, rfl, q⟩ := h
    refine ⟨_, (pss_cons (ps_if (pt_cmpR op_gt (pv 0) pe_int (nomark _)) (pss_one (ps_ret pe_int)) pss_nil)
    (pss_cons (ps_if (pt_cmpR op_lt (pv 0) pe_int (nomark _)) (pss_one (ps_ret (pe_un un_neg pe_int))) pss_nil)
    (pss_one (ps_ret pe_int)))), ?_⟩
    walk_at "go"
    unfold sgn at q
    by_cases h1 : 0 < a
    · rw [if_pos h1] at *
      exact q
    · rw [if_neg h1] at *
      by_cases h2 : a < 0
      · rw [if_pos h2] at *
        exact q
      · rw [if_neg h2] at *
        exact q
def sp_sign (K : PySem.W.Frag) (cN : Addr) : Sp := fun vs H Q E => ∃ v a b, vs = [v] ∧ Num K H v a b ∧ (isN a b → ∀ H', Ex H H' → Q (.int (sgn a)) H') ∧ (¬ isN a b → ∀ H', Ex H H' → E (.ref cN) none H')
theorem ok_sign (T : Txt K mg ad fd) : Cal P w K mg base (L2.CX P w) 3 "sign" (ad 16) (fd 16) ["x"] [] [] (sp_sign K (ad 3)) := by
  refine ⟨T.f_sign.okX sc_sign (fun vs H Q E h => ?_) (fun cdv A outer s H vs Q E hr h => ?_), T.g_sign, T.f_sign.kp, T.f_sign.binds (ps := ["x"]) fun _ _ _ _ _ _ us hl => match us, hl with | [_], _ => rfl, .nil⟩
  · obtain ⟨v, a, b, rfl, _⟩ := h
    rfl
  · obtain ⟨v, a, b, rfl, hx, q1, q2⟩ := h
    refine ⟨_, (pss_cons (ps_expr (pe_cal (ok_check_number T (P := P) (w := w) (base := base)) (hr.mono (by decide)) (passes_call (takes_of rfl rfl rfl rfl) fun _ _ _ _ h => h) (pa_cons (pv 0) pa_nil)))
    (pss_one (ps_ret (pe_cal (ok_whole_sign T (P := P) (w := w) (base := base)) (hr.mono (by decide)) pass0 (pa_cons (pe_ix (ix_tupK (K := K)) (pv 0) pe_int (fun _ _ => rfl)) pa_nil))))), ?_⟩
    walk_at "go"
    refine ⟨_, a, b, rfl, hx, fun n1 H1 e1 => ?_, q2⟩
    have hx := hx.mono e1
    walk_at "go"
    refine rix0 hx ?_
    exact ⟨_, rfl, q1 n1 _ e1⟩
/-- number_text of a pair that is no number -/
def sp_number_text (K : PySem.W.Frag) (cN : Addr) : Sp := fun vs H Q E => ∃ v a b, vs = [v] ∧ Num K H v a b ∧ ¬ isN a b ∧ (∀ H', Ex H H' → E (.ref cN) none H')
theorem ok_number_text (T : Txt K mg ad fd) : Cal P w K mg base (L2.CX P w) 3 "number_text" (ad 19) (fd 19) ["x"] [] [] (sp_number_text K (ad 3)) := by
  refine ⟨T.f_number_text.okX sc_number_text (fun vs H Q E h => ?_) (fun cdv A outer s H vs Q E hr h => ?_), T.g_number_text, T.f_number_text.kp, T.f_number_text.binds (ps := ["x"]) fun _ _ _ _ _ _ us hl => match us, hl with | [_], _ => rfl, .nil⟩
  · obtain ⟨v, a, b, rfl, _⟩ := h
    rfl
  · obtain ⟨v, a, b, rfl, hx, n, q⟩ := h
    refine ⟨_, (pss_cons (ps_expr (pe_cal (ok_check_number T (P := P) (w := w) (base := base)) (hr.mono (by decide)) (passes_call (takes_of rfl rfl rfl rfl) fun _ _ _ _ h => h) (pa_cons (pv 0) pa_nil)))
    (pss_cons ps_never
    (pss_cons ps_never
    (pss_cons ps_never
    (pss_one ps_never))))), ?_⟩
    walk_at "go"
    exact ⟨_, a, b, rfl, hx, fun n1 => absurd n1 n, fun _ => q⟩
/-! ### the law's own draws -/
theorem map_int {ns : List Int} {i : Nat} {x : V} (h : (ns.map V.int)[i]? = some x) : ∃ z, x = .int z := by
  rw [List.getElem?_map] at h
  cases e : ns[i]? with
  | none =>
    rw [e] at h
    cases h
  | some z =>
    rw [e] at h
    exact ⟨z, (Option.some.inj h).symm⟩
def Dr (ds : List Int) : Prop := ∀ d ∈ ds, 0 ≤ d ∧ d < 1000
theorem Dr.app {ds es : List Int} (a : Dr ds) (b : Dr es) : Dr (ds ++ es) := fun d h => (List.mem_append.mp h).elim (a d) (b d)
theorem rest1000 (x : Int) : 0 ≤ x % 1000 ∧ x % 1000 < 1000 := by omega
/-- all that was stands; at l stand draws, at most n -/
def DrH (H0 : Hp) (l : Addr) (n : Nat) (H : Hp) : Prop := Ex H0 H ∧ H0 l = none ∧ ∃ ds : List Int, H l = some (.lst (ds.map V.int)) ∧ Dr ds ∧ ds.length ≤ n
def sp__law_number : Sp := fun vs H Q _ => ∃ c, vs = [.int c] ∧ Q (.int (c.natAbs : Int)) H
theorem ok__law_number (T : Txt K mg ad fd) : Cal P w K mg base CX0 1 "_law_number" (ad 21) (fd 21) ["cell"] [] [] sp__law_number := by
  refine ⟨T.f__law_number.ok sc__law_number (fun vs H Q E h => ?_) (fun cdv A outer s H vs Q E hr h => ?_), T.g__law_number, T.f__law_number.kp, T.f__law_number.binds (ps := ["cell"]) fun _ _ _ _ _ _ us hl => match us, hl with | [_], _ => rfl, .nil⟩
  · obtain ⟨a, rfl, _⟩ := h
    rfl
  · obtain ⟨a, rfl, q⟩ := h
    refine ⟨_, (pss_cons (ps_if (pt_cmpR op_lt (pv 0) pe_int (nomark _)) (pss_one (ps_ret (pe_op op_sub pe_int (pv 0)))) pss_nil)
    (pss_one (ps_ret (pv 0)))), ?_⟩
    walk_at "go"
    by_cases h1 : a < 0
    · rw [if_pos h1]
      have e : (a.natAbs : Int) = 0 - a := by omega
      rw [← e]
      exact q
    · rw [if_neg h1]
      have e : (a.natAbs : Int) = a := by omega
      rw [← e]
      exact q
theorem DrH.put {H0 H H1 : Hp} {l : Addr} {n m : Nat} {zs : List Int} (h : DrH H0 l n H) (e : Ex H H1) (hz : Dr zs) (hm : n + zs.length ≤ m) :
    ∃ ds : List Int, H1 l = some (.lst (ds.map V.int)) ∧ ds.length ≤ n ∧ DrH H0 l m (upd H1 l (.lst (ds.map V.int ++ zs.map V.int))) := by
  obtain ⟨e0, nl, ds, hl, hd, hlen⟩ := h
  refine ⟨ds, e _ _ hl, hlen, (e0.trans e).mut nl, nl, ds ++ zs, ?_, hd.app hz, ?_⟩
  · rw [upd_same, List.map_append]
  · rw [List.length_append]
    omega
def sp__law_draws (K : PySem.W.Frag) : Sp := fun vs H Q _ => ∃ (a : Addr) (ns : List Int), vs = [.ref a] ∧ SqL K H a (ns.map V.int) ∧ ns.length ≤ 63 ∧ ∀ H' l, DrH H l 4000 H' → Q (.ref l) H'
theorem ok__law_draws (T : Txt K mg ad fd) : Cal P w K mg base CX0 2 "_law_draws" (ad 22) (fd 22) ["script"] [] [] (sp__law_draws K) := by
  refine ⟨T.f__law_draws.ok sc__law_draws (fun vs H Q E h => ?_) (fun cdv A outer s H vs Q E hr h => ?_), T.g__law_draws, T.f__law_draws.kp, T.f__law_draws.binds (ps := ["script"]) fun _ _ _ _ _ _ us hl => match us, hl with | [_], _ => rfl, .nil⟩
  · obtain ⟨a, ns, rfl, _⟩ := h
    rfl
  · obtain ⟨a, ns, rfl, hS, hlen, q⟩ := h
    refine ⟨_, (pss_cons (ps_set (i := 1) sc__law_draws.nd rfl (by first | exact Or.inl rfl | exact Or.inr rfl) (pe_lst pa_nil))
    (pss_cons (ps_for (by first | exact PassesOwn.never | exact passes_of rfl) rfl (pi_list (pv 0)) (pg_name (i := 2) sc__law_draws.nd rfl (by first | exact Or.inl rfl | exact Or.inr rfl))
      (pss_cons (ps_set (i := 3) sc__law_draws.nd rfl (by first | exact Or.inl rfl | exact Or.inr rfl) (pe_cal (ok__law_number T (P := P) (w := w) (base := base)) (hr.mono (by decide)) pass0 (pa_cons (pv 2) pa_nil)))
    (pss_one (ps_if (pt_cmpR op_ge (pv 3) pe_int (nomark _)) (pss_one (ps_for (by first | exact PassesOwn.never | exact passes_of rfl) rfl (pi_range1 rfl T.m_range (pa_cons pe_int pa_nil)) (pg_name (i := 4) sc__law_draws.nd rfl (by first | exact Or.inl rfl | exact Or.inr rfl))
      (pss_cons (ps_if (pt_cmpR op_eq (pv 3) pe_int (nomark _)) (pss_one ps_break) pss_nil)
    (pss_cons (ps_expr (pe_bm PySem.F.plainAttrs_list PySem.F.slot_list_append PySem.F.type_list_append mt_append (pv 1) (pa_cons (pe_op op_mod (pe_callTy (T := "int") call_int1 (by rfl) T.m_int (by decide +kernel) (pa_cons (pv 3) pa_nil)) pe_int) pa_nil)))
    (pss_one (ps_set (i := 3) sc__law_draws.nd rfl (by first | exact Or.inl rfl | exact Or.inr rfl) (pe_op op_fdivG (pv 3) pe_int))))))) (pss_cons (ps_set (i := 5) sc__law_draws.nd rfl (by first | exact Or.inl rfl | exact Or.inr rfl) (pe_op op_mod (pe_callTy (T := "int") call_int1 (by rfl) T.m_int (by decide +kernel) (pa_cons (pe_op op_add (pe_op op_mulW (pv 3) pe_int) pe_int) pa_nil)) pe_int))
    (pss_cons (ps_set (i := 6) sc__law_draws.nd rfl (by first | exact Or.inl rfl | exact Or.inr rfl) (pe_op op_mod (pe_callTy (T := "int") call_int1 (by rfl) T.m_int (by decide +kernel) (pa_cons (pe_op op_add (pe_op op_mulW (pv 5) pe_int) (pv 3)) pa_nil)) pe_int))
    (pss_one (ps_expr (pe_bm PySem.F.plainAttrs_list PySem.F.slot_list_extend PySem.F.type_list_extend mt_extend (pv 1) (pa_cons (pe_lst (pa_cons (pe_op op_mod (pe_callTy (T := "int") call_int1 (by rfl) T.m_int (by decide +kernel) (pa_cons (pv 3) pa_nil)) pe_int) (pa_cons (pe_op op_mod (pe_callTy (T := "int") call_int1 (by rfl) T.m_int (by decide +kernel) (pa_cons (pv 5) pa_nil)) pe_int) (pa_cons (pe_op op_mod (pe_callTy (T := "int") call_int1 (by rfl) T.m_int (by decide +kernel) (pa_cons (pv 6) pa_nil)) pe_int) pa_nil)))) pa_nil))))))))))
    (pss_one (ps_ret (pv 1))))), ?_⟩
    refine ⟨Nat.zero_le _, fun l nl => ?_⟩
    have d0 : DrH H l 0 (upd H l (.lst [])) := ⟨Ex.new nl, nl, [], upd_same, (fun d h => nomatch h), Nat.le_refl _⟩
    refine ⟨.ref a, rfl, a, rfl, ⟨_, ex_l d0.1 hS⟩, for_list (K := K) (a := a) (xs := ns.map V.int)
      (fun i σ H' => ∃ c2 c3 c4 c5 c6, σ = [some (.ref a), some (.ref l), c2, c3, c4, c5, c6] ∧ DrH H l (60 * i) H') ⟨_, _, _, _, _, rfl, d0⟩ (fun i σ H' _ ⟨_, _, _, _, _, _, d⟩ => ex_l d.1 hS) ?_ ?_⟩
    · rintro i x σ H1 hi ⟨c2, c3, c4, c5, c6, rfl, d1⟩
      obtain ⟨z, rfl⟩ := map_int hi
      have hin : i < 63 := by
        have := (List.getElem?_eq_some_iff.mp hi).1
        rw [List.length_map] at this
        omega
      -- rest = _law_number(cell)
      refine ⟨.int z, rfl, z, rfl, ?_⟩
      -- rest >= 10 ** 18
      refine ⟨_, rfl, _, _, rfl, rfl, _, rfl, ite2 (fun hb => ?_) (fun hb => ?_)⟩
      · -- the long way
        refine ⟨60, rfl, by decide, by decide, for_range (lo := 0) (n := 60)
          (fun j σ H' => ∃ (r : Int) (c4 : Option V), 0 ≤ r ∧ σ = [some (.ref a), some (.ref l), some (.int z), some (.int r), c4, c5, c6] ∧ DrH H l (60 * i + j) H') ⟨_, _, by omega, rfl, d1⟩ ?_ ?_⟩
        · rintro j σ H2 hj ⟨r, c4', hr0, rfl, d2⟩
          refine ⟨_, rfl, rfl, _, rfl, ite2 (fun h0 => ?_) (fun h0 => ?_)⟩
          · exact ⟨_, _, _, _, _, rfl, d2.1, d2.2.1, let ⟨ds, h1, h2, h3⟩ := d2.2.2; ⟨ds, h1, h2, by omega⟩⟩
          · obtain ⟨ds, hl, hn, d3⟩ := d2.put (Ex.refl _) (zs := [r % 1000]) (fun d hd => (by
              cases List.mem_singleton.mp hd
              exact rest1000 r)) (Nat.le_refl _)
            refine ⟨.ref l, rfl, .inl ⟨rfl, _, .inl (.inl hl)⟩, ?_⟩
            refine ⟨_, rfl, .inl ⟨_, rfl, ?_⟩⟩
            refine ⟨_, _, rfl, rfl, (by show (0 : Int) < 1000; decide), ?_⟩
            refine ⟨l, _, _, rfl, rfl, hl, ?_, ?_⟩
            · rw [List.length_map]
              exact Nat.lt_of_le_of_lt hn (Nat.lt_of_lt_of_le (show _ < 4000 by omega) (by decide))
            · refine ⟨_, rfl, _, _, rfl, rfl, ⟨by decide, by decide⟩, ?_⟩
              refine ⟨_, _, ?_, rfl, d3⟩
              rw [Int.fdiv_eq_ediv_of_nonneg _ (by decide)]
              omega
        · rintro σ H2 ⟨r, c4', hr0, rfl, d2⟩
          exact ⟨_, _, _, _, _, rfl, d2.1, d2.2.1, let ⟨ds, h1, h2, h3⟩ := d2.2.2; ⟨ds, h1, h2, by omega⟩⟩
      · -- the short way
        have hb' : (z.natAbs : Int) < 1000000000000000000 := by
          have := of_decide_eq_false (Bool.eq_false_iff.mpr hb)
          omega
        walk_at "go"
        have k1 : ((z.natAbs : Int)).natAbs < 2 ^ 60 := by
          have : ((z.natAbs : Int)).natAbs = z.natAbs := by omega
          rw [this]
          have : (2 : Nat) ^ 60 = 1152921504606846976 := by decide
          omega
        have k2 : ((z.natAbs * 48271 + 11) % 2147483647 : Int).natAbs < 2 ^ 60 := by
          have : (2 : Nat) ^ 60 = 1152921504606846976 := by decide
          omega
        refine ⟨wide_mul (b := 17) k1 (by decide) (by decide) (by decide) (by decide), wide_mul (b := 17) k2 (by decide) (by decide) (by decide) (by decide), ?_⟩
        obtain ⟨_, _, ds0, hl, _, _⟩ := id d1
        refine ⟨.ref l, rfl, .inl ⟨rfl, _, .inl (.inl hl)⟩, ?_⟩
        walk_at "go"
        refine ⟨by decide, fun p hp => ?_⟩
        obtain ⟨ds, hl, hn, d3⟩ := d1.put (Ex.new hp) (m := 60 * (i + 1)) (zs := [(z.natAbs : Int) % 1000, ((z.natAbs : Int) * 48271 + 11) % 2147483647 % 1000, (((z.natAbs : Int) * 48271 + 11) % 2147483647 * 69621 + z.natAbs) % 2147483629 % 1000]) (fun d hd => (by
          simp only [List.mem_cons, List.not_mem_nil, or_false] at hd
          rcases hd with rfl | rfl | rfl <;> exact rest1000 _)) (by simp; omega)
        refine ⟨l, p, _, _, rfl, rfl, hl, upd_same, ?_, d3⟩
        rw [List.length_map]
        exact Nat.le_trans (show _ ≤ 4000 by simp; omega) (by decide)
    · rintro σ H1 ⟨c2, c3, c4, c5, c6, rfl, d1⟩
      refine ⟨_, rfl, q _ _ ⟨d1.1, nl, ?_⟩⟩
      obtain ⟨ds, h1, h2, h3⟩ := d1.2.2
      rw [List.length_map] at h3
      exact ⟨ds, h1, h2, by omega⟩
/-! ### draws that are used up; all else stands -/
def DrA (l : Addr) (H : Hp) : Prop := ∃ ds : List Int, H l = some (.lst (ds.map V.int)) ∧ Dr ds
def Mv (l : Addr) (H H' : Hp) : Prop := (∀ a o, a ≠ l → H a = some o → H' a = some o) ∧ DrA l H'
theorem Mv.trans {l : Addr} {H H1 H2 : Hp} (a : Mv l H H1) (b : Mv l H1 H2) : Mv l H H2 := ⟨fun x o n h => b.1 x o n (a.1 x o n h), b.2⟩
theorem Mv.of {l : Addr} {H H' : Hp} (d : DrA l H) (e : Ex H H') : Mv l H H' := ⟨fun a o _ h => e a o h, let ⟨ds, h1, h2⟩ := d; ⟨ds, e _ _ h1, h2⟩⟩
theorem Mv.refl {l : Addr} {H : Hp} (d : DrA l H) : Mv l H H := .of d (Ex.refl H)
theorem Mv.ex {l : Addr} {H H1 H2 : Hp} (a : Mv l H H1) (e : Ex H1 H2) : Mv l H H2 := a.trans (.of a.2 e)
theorem mv_t {K : PySem.W.Frag} {l p : Addr} {H H' : Hp} {xs : List V} (d : DrA l H) (m : Mv l H H') (h : SqT K H p xs) : SqT K H' p xs := by
  obtain ⟨ds, hl, _⟩ := d
  rcases h with (h | ⟨o, h⟩) | h
  · exact .inl (.inl (m.1 _ _ (ne_of h hl (fun z => nomatch z)) h))
  · exact .inl (.inr ⟨o, m.1 _ _ (ne_of h hl (fun z => nomatch z)) h⟩)
  · exact .inr h
theorem mv_num {K : PySem.W.Frag} {l : Addr} {H H' : Hp} {v : V} {a b : Int} (d : DrA l H) (m : Mv l H H') (n : Num K H v a b) : Num K H' v a b :=
  have ⟨p, h1, h2⟩ := n
  ⟨p, h1, mv_t d m h2⟩
def sp__law_next : Sp := fun vs H Q _ => ∃ l, vs = [.ref l] ∧ DrA l H ∧ ∀ H' d, 0 ≤ d → d < 1000 → Mv l H H' → Q (.int d) H'
theorem ok__law_next (T : Txt K mg ad fd) : Cal P w K mg base CX0 1 "_law_next" (ad 23) (fd 23) ["draws"] [] [] sp__law_next := by
  refine ⟨T.f__law_next.ok sc__law_next (fun vs H Q E h => ?_) (fun cdv A outer s H vs Q E hr h => ?_), T.g__law_next, T.f__law_next.kp, T.f__law_next.binds (ps := ["draws"]) fun _ _ _ _ _ _ us hl => match us, hl with | [_], _ => rfl, .nil⟩
  · obtain ⟨l, rfl, _⟩ := h
    rfl
  · obtain ⟨l, rfl, ⟨ds, hl, hd⟩, q⟩ := h
    refine ⟨_, (pss_cons (ps_if (pt_truth (pv 0) (fun _ => rfl)) (pss_one (ps_ret (pe_bm0 PySem.F.plainAttrs_list PySem.F.slot_list_pop PySem.F.type_list_pop mt_pop (pv 0)))) pss_nil)
    (pss_one (ps_ret pe_int))), ?_⟩
    refine ⟨_, rfl, (!(ds.map V.int).isEmpty), .inl ⟨_, .inl (.inl hl), rfl⟩, ?_⟩
    by_cases hne : ds = []
    · subst hne
      exact q H 0 (by decide) (by decide) (Mv.refl ⟨[], hl, hd⟩)
    · obtain ⟨r, z, rfl⟩ : ∃ r z, ds = r ++ [z] := ⟨ds.dropLast, ds.getLast hne, (List.dropLast_concat_getLast hne).symm⟩
      have e : (!((r ++ [z]).map V.int).isEmpty) = true := by simp
      rw [e]
      refine iteT ?_
      refine ⟨_, rfl, .inl ⟨rfl, _, .inl (.inl hl)⟩, l, _, .int z, rfl, rfl, hl, ?_, ?_⟩
      · simp
      · have hz := hd z (by simp)
        refine q _ z hz.1 hz.2 ⟨fun a o n h => ?_, r, ?_, fun d h => hd d (List.mem_append_left _ h)⟩
        · rw [upd_ne n]
          exact h
        · rw [upd_same]
          simp
/-! ### the law's own divisor -/
theorem gcd_step (x y : Nat) : Nat.gcd y (x % y) = Nat.gcd x y := by
  rw [Nat.gcd_comm y, ← Nat.gcd_rec, Nat.gcd_comm]
theorem mod_half {x y : Nat} (h0 : 0 < y) (h : y ≤ x) : (x % y) * 2 ≤ x := by
  have h1 := Nat.mod_lt x h0
  have h2 := Nat.div_add_mod x y
  have h3 : 1 ≤ x / y := (Nat.one_le_div_iff h0).mpr h
  have h4 : y * 1 ≤ y * (x / y) := Nat.mul_le_mul_left y h3
  omega
/-- the pair of the turn j of Euclid's way, from a pair whose product is at most C -/
def Eu (g C j x y : Nat) : Prop := Nat.gcd x y = g ∧ (x * y) * 2 ^ (j - 1) ≤ C ∧ (1 ≤ j → y ≤ x)
theorem Eu.step {g C j x y : Nat} (e : Eu g C j x y) (h : y ≠ 0) : Eu g C (j + 1) y (x % y) := by
  obtain ⟨h1, h2, h3⟩ := e
  have h0 : 0 < y := Nat.pos_of_ne_zero h
  refine ⟨(gcd_step x y).trans h1, ?_, fun _ => Nat.le_of_lt (Nat.mod_lt x h0)⟩
  rw [Nat.add_sub_cancel]
  cases j with
  | zero =>
    have h5 : y * (x % y) ≤ y * x := Nat.mul_le_mul_left y (Nat.mod_le x y)
    rw [Nat.mul_comm y x] at h5
    simp only [Nat.pow_zero, Nat.mul_one] at *
    have h2' : x * y * 2 ^ (0 - 1) ≤ C := h2
    simp only [Nat.zero_sub, Nat.pow_zero, Nat.mul_one] at h2'
    omega
  | succ k =>
    have h5 := mod_half h0 (h3 (by omega))
    rw [Nat.add_sub_cancel] at h2
    refine Nat.le_trans ?_ h2
    rw [Nat.pow_succ, Nat.mul_comm (2 ^ k) 2, ← Nat.mul_assoc]
    refine Nat.mul_le_mul_right _ ?_
    rw [Nat.mul_assoc, Nat.mul_comm x y]
    exact Nat.mul_le_mul_left y h5
theorem Eu.ends {g j x y : Nat} {n : Nat} (e : Eu g (2 ^ n) j x y) (h : n + 1 < j) : y = 0 := by
  obtain ⟨h1, h2, h3⟩ := e
  cases y with
  | zero => rfl
  | succ y =>
    have h4 := h3 (by omega)
    have h5 : 1 ≤ x * (y + 1) := Nat.mul_le_mul (by omega : 1 ≤ x) (by omega : 1 ≤ y + 1)
    have h6 : 1 * 2 ^ (j - 1) ≤ x * (y + 1) * 2 ^ (j - 1) := Nat.mul_le_mul_right _ h5
    have h7 : 2 ^ n < 2 ^ (j - 1) := Nat.pow_lt_pow_right (by decide) (by omega)
    omega
def sp__law_divisor : Sp := fun vs H Q _ => ∃ a b : Int, vs = [.int a, .int b] ∧ a.natAbs < 2 ^ 4000 ∧ b.natAbs < 2 ^ 4000 ∧ Q (.int ((a.natAbs.gcd b.natAbs : Nat) : Int)) H
theorem ok__law_divisor (T : Txt K mg ad fd) : Cal P w K mg base CX0 1 "_law_divisor" (ad 24) (fd 24) ["a", "b"] [] [] sp__law_divisor := by
  refine ⟨T.f__law_divisor.ok sc__law_divisor (fun vs H Q E h => ?_) (fun cdv A outer s H vs Q E hr h => ?_), T.g__law_divisor, T.f__law_divisor.kp, T.f__law_divisor.binds (ps := ["a", "b"]) fun _ _ _ _ _ _ us hl => match us, hl with | [_, _], _ => rfl, .nil⟩
  · obtain ⟨a, b, rfl, _⟩ := h
    rfl
  · obtain ⟨a, b, rfl, ha, hb, q⟩ := h
    refine ⟨_, (pss_cons (ps_set (i := 2) sc__law_divisor.nd rfl (by first | exact Or.inl rfl | exact Or.inr rfl) (pe_callB call_abs (by rfl) T.m_abs (by decide +kernel) (pa_cons (pv 0) pa_nil)))
    (pss_cons (ps_set (i := 3) sc__law_divisor.nd rfl (by first | exact Or.inl rfl | exact Or.inr rfl) (pe_callB call_abs (by rfl) T.m_abs (by decide +kernel) (pa_cons (pv 1) pa_nil)))
    (pss_cons (ps_for (by first | exact PassesOwn.never | exact passes_of rfl) rfl (pi_range1 rfl T.m_range (pa_cons (pe_op op_pow pe_int pe_int) pa_nil)) (pg_name (i := 4) sc__law_divisor.nd rfl (by first | exact Or.inl rfl | exact Or.inr rfl))
      (pss_cons (ps_if (pt_cmpR op_eq (pv 3) pe_int (nomark _)) (pss_one ps_break) pss_nil)
    (pss_one (ps_par (i := 2) (j := 3) rfl sc__law_divisor.nd rfl rfl (by decide) rfl rfl (pa_cons (pv 3) (pa_cons (pe_op op_mod (pe_callTy (T := "int") call_int1 (by rfl) T.m_int (by decide +kernel) (pa_cons (pv 2) pa_nil)) (pv 3)) pa_nil)) rfl))))
    (pss_one (ps_ret (pv 2)))))), ?_⟩
    have abs : ∀ x : Int, (if x < 0 then -x else x) = ((x.natAbs : Nat) : Int) := fun x => by split <;> omega
    refine ⟨_, rfl, a, rfl, ?_⟩
    refine ⟨_, rfl, b, rfl, ?_⟩
    rw [abs, abs]
    refine ⟨_, _, rfl, rfl, ⟨by decide, by decide, by decide⟩, ?_⟩
    refine ⟨_, rfl, by decide, by decide, for_range (lo := 0) (n := 1000000000)
      (fun j σ H' => ∃ (x y : Nat) (c4 : Option V), σ = [some (.int a), some (.int b), some (.int x), some (.int y), c4] ∧ H' = H ∧ Eu (a.natAbs.gcd b.natAbs) (2 ^ 8000) j x y) ⟨_, _, none, rfl, rfl, rfl, ?_, fun z => absurd z (by decide)⟩ ?_ ?_⟩
    · simp only [Nat.zero_sub, Nat.pow_zero, Nat.mul_one]
      rw [show (8000 : Nat) = 4000 + 4000 from rfl, Nat.pow_add]
      exact Nat.mul_le_mul (Nat.le_of_lt ha) (Nat.le_of_lt hb)
    · rintro j σ H' hj ⟨x, y, c4, rfl, rfl, e⟩
      refine ⟨_, rfl, rfl, _, rfl, ite2 (fun h0 => ?_) (fun h0 => ?_)⟩
      · have hy : y = 0 := by
          have := V.int.inj (of_decide_eq_true h0)
          omega
        refine ⟨_, rfl, ?_⟩
        rw [hy] at e
        have e1 := e.1
        rw [Nat.gcd_zero_right] at e1
        rw [e1]
        exact q
      · have hy : y ≠ 0 := fun z => h0 (by rw [z]; rfl)
        refine ⟨_, rfl, _, rfl, .inl ⟨_, rfl, _, rfl, _, _, rfl, rfl, (by omega : (0 : Int) < (y : Int)), ?_⟩⟩
        exact ⟨_, _, rfl, y, x % y, _, rfl, rfl, e.step hy⟩
    · rintro σ H' ⟨x, y, c4, rfl, rfl, e⟩
      have hy := e.ends (by decide)
      rw [hy] at e
      have e1 := e.1
      rw [Nat.gcd_zero_right] at e1
      refine ⟨_, rfl, ?_⟩
      rw [e1]
      exact q
def sp__law_lowest (K : PySem.W.Frag) : Sp := fun vs H Q _ => ∃ a b : Int, vs = [.int a, .int b] ∧ a.natAbs < 2 ^ 4000 ∧ b.natAbs < 2 ^ 4000 ∧ b ≠ 0 ∧ ∀ H' v, Ex H H' → Num K H' v (nrm a b).1 (nrm a b).2 → Q v H'
theorem ok__law_lowest (T : Txt K mg ad fd) : Cal P w K mg base CX0 2 "_law_lowest" (ad 25) (fd 25) ["a", "b"] [] [] (sp__law_lowest K) := by
  refine ⟨T.f__law_lowest.ok sc__law_lowest (fun vs H Q E h => ?_) (fun cdv A outer s H vs Q E hr h => ?_), T.g__law_lowest, T.f__law_lowest.kp, T.f__law_lowest.binds (ps := ["a", "b"]) fun _ _ _ _ _ _ us hl => match us, hl with | [_, _], _ => rfl, .nil⟩
  · obtain ⟨a, b, rfl, _⟩ := h
    rfl
  · obtain ⟨a, b, rfl, ha, hb, h0, q⟩ := h
    refine ⟨_, (pss_cons (ps_set (i := 2) sc__law_lowest.nd rfl (by first | exact Or.inl rfl | exact Or.inr rfl) (pe_cal (ok__law_divisor T (P := P) (w := w) (base := base)) (hr.mono (by decide)) pass0 (pa_cons (pv 0) (pa_cons (pv 1) pa_nil))))
    (pss_cons (ps_if (pt_cmpR op_lt (pv 1) pe_int (nomark _)) (pss_one (ps_set (i := 2) sc__law_lowest.nd rfl (by first | exact Or.inl rfl | exact Or.inr rfl) (pe_op op_sub pe_int (pv 2)))) pss_nil)
    (pss_one (ps_ret (pe_tup (pa_cons (pe_op op_fdivG (pv 0) (pv 2)) (pa_cons (pe_op op_fdivG (pv 1) (pv 2)) pa_nil))))))), ?_⟩
    have hb8 : b.natAbs < 2 ^ 8000 := Nat.lt_of_lt_of_le hb (Nat.pow_le_pow_right (by decide) (by decide))
    walk_at "go"
    refine ⟨a, b, rfl, ha, hb, ?_⟩
    walk_at "go"
    have fin : ∀ g : Int, g = sg a b → CDivG a g ∧ CDivG b g ∧ (2 : Nat) ≤ sizeLine ∧ ∀ p, H p = none → Q (.ref p) (upd H p (.tup [.int (a.fdiv g), .int (b.fdiv g)])) := by
      rintro g rfl
      refine ⟨⟨sg_ne h0, sg_small h0 hb8⟩, ⟨sg_ne h0, sg_small h0 hb8⟩, by decide, fun p hp => ?_⟩
      exact q _ _ (Ex.new hp) ⟨p, rfl, .inl (.inl upd_same)⟩
    by_cases hlt : b < 0
    · rw [if_pos hlt]
      exact fin _ (by unfold sg; rw [if_pos hlt]; omega)
    · rw [if_neg hlt]
      exact fin _ (by unfold sg; rw [if_neg hlt])
/-! ### lowest terms -/
theorem sg_dvd (a b : Int) : sg a b ∣ a ∧ sg a b ∣ b := by
  have h1 : (sg a b).natAbs ∣ a.natAbs := by rw [sg_abs]; exact Nat.gcd_dvd_left _ _
  have h2 : (sg a b).natAbs ∣ b.natAbs := by rw [sg_abs]; exact Nat.gcd_dvd_right _ _
  exact ⟨Int.natAbs_dvd_natAbs.mp h1, Int.natAbs_dvd_natAbs.mp h2⟩
theorem gcd_pos' {a b : Int} (h : b ≠ 0) : 0 < a.natAbs.gcd b.natAbs := Nat.gcd_pos_of_pos_right _ (by omega)
theorem nrm_abs (a b : Int) (h : b ≠ 0) : (nrm a b).1.natAbs = a.natAbs / a.natAbs.gcd b.natAbs ∧ (nrm a b).2.natAbs = b.natAbs / a.natAbs.gcd b.natAbs := by
  obtain ⟨d1, d2⟩ := sg_dvd a b
  unfold nrm
  dsimp only
  rw [Int.fdiv_eq_ediv_of_dvd d1, Int.fdiv_eq_ediv_of_dvd d2, Int.natAbs_ediv_of_dvd d1, Int.natAbs_ediv_of_dvd d2, sg_abs]
  exact ⟨rfl, rfl⟩
theorem nrm_pos {a b : Int} (h : b ≠ 0) : 1 ≤ (nrm a b).2 := by
  obtain ⟨_, k, hk⟩ := sg_dvd a b
  have hg := gcd_pos' (a := a) h
  have e : (nrm a b).2 = k := by
    unfold nrm
    dsimp only
    have h0 : sg a b ≠ 0 := fun z => by
      have := sg_abs a b
      omega
    rw [Int.fdiv_eq_ediv_of_dvd ⟨k, hk⟩]
    have : b / sg a b = (sg a b * k) / sg a b := by rw [← hk]
    rw [this, Int.mul_ediv_cancel_left _ h0]
  rw [e]
  by_cases hb : b < 0
  · have hs : sg a b < 0 := by unfold sg; rw [if_pos hb]; omega
    have : 0 < k := by
      rcases Int.lt_trichotomy k 0 with z | z | z
      · have := Int.mul_pos_of_neg_of_neg hs z
        omega
      · rw [z, Int.mul_zero] at hk
        omega
      · exact z
    omega
  · have hs : 0 < sg a b := by unfold sg; rw [if_neg hb]; omega
    have : 0 < k := by
      rcases Int.lt_trichotomy k 0 with z | z | z
      · have := Int.mul_neg_of_pos_of_neg hs z
        omega
      · rw [z, Int.mul_zero] at hk
        omega
      · exact z
    omega
theorem nrm_isN {a b : Int} (h : b ≠ 0) : isN (nrm a b).1 (nrm a b).2 := by
  refine ⟨nrm_pos h, ?_⟩
  obtain ⟨h1, h2⟩ := nrm_abs a b h
  have hg := gcd_pos' (a := a) h
  unfold Int.gcd
  rw [h1, h2, Nat.gcd_div (Nat.gcd_dvd_left _ _) (Nat.gcd_dvd_right _ _)]
  exact Nat.div_self hg
theorem nrm_le {a b : Int} (h : b ≠ 0) : (nrm a b).1.natAbs ≤ a.natAbs ∧ (nrm a b).2.natAbs ≤ b.natAbs := by
  obtain ⟨h1, h2⟩ := nrm_abs a b h
  rw [h1, h2]
  exact ⟨Nat.div_le_self _ _, Nat.div_le_self _ _⟩
/-! ### what the law draws -/
theorem pow3 (j : Nat) : (1000 : Int) ^ (j + 1) = 1000 ^ j * 1000 := Int.pow_succ ..
def sp__law_integer : Sp := fun vs H Q _ => ∃ l, vs = [.ref l] ∧ DrA l H ∧ ∀ H' (a : Int), Mv l H H' → a.natAbs < 1000 ^ 12 → Q (.int a) H'
theorem ok__law_integer (T : Txt K mg ad fd) : Cal P w K mg base CX0 2 "_law_integer" (ad 26) (fd 26) ["draws"] [] [] sp__law_integer := by
  refine ⟨T.f__law_integer.ok sc__law_integer (fun vs H Q E h => ?_) (fun cdv A outer s H vs Q E hr h => ?_), T.g__law_integer, T.f__law_integer.kp, T.f__law_integer.binds (ps := ["draws"]) fun _ _ _ _ _ _ us hl => match us, hl with | [_], _ => rfl, .nil⟩
  · obtain ⟨l, rfl, _⟩ := h
    rfl
  · obtain ⟨l, rfl, hd, q⟩ := h
    have lim : (1000 : Nat) ^ 12 = 1000000000000000000000000000000000000 := by decide
    refine ⟨_, (pss_cons (ps_set (i := 1) sc__law_integer.nd rfl (by first | exact Or.inl rfl | exact Or.inr rfl) (pe_op op_mod (pe_callTy (T := "int") call_int1 (by rfl) T.m_int (by decide +kernel) (pa_cons (pe_cal (ok__law_next T (P := P) (w := w) (base := base)) (hr.mono (by decide)) pass0 (pa_cons (pv 0) pa_nil)) pa_nil)) pe_int))
    (pss_cons (ps_if (pt_cmpR op_lt (pv 1) pe_int (nomark _)) (pss_one (ps_ret (pe_op op_sub (pe_op op_mod (pe_callTy (T := "int") call_int1 (by rfl) T.m_int (by decide +kernel) (pa_cons (pe_cal (ok__law_next T (P := P) (w := w) (base := base)) (hr.mono (by decide)) pass0 (pa_cons (pv 0) pa_nil)) pa_nil)) pe_int) pe_int))) pss_nil)
    (pss_cons (ps_if (pt_cmpR op_eq (pv 1) pe_int (nomark _)) (pss_one (ps_ret (pe_op op_sub (pe_op op_add (pe_op op_mulW pe_int (pe_op op_mod (pe_callTy (T := "int") call_int1 (by rfl) T.m_int (by decide +kernel) (pa_cons (pe_cal (ok__law_next T (P := P) (w := w) (base := base)) (hr.mono (by decide)) pass0 (pa_cons (pv 0) pa_nil)) pa_nil)) pe_int)) (pe_op op_mod (pe_callTy (T := "int") call_int1 (by rfl) T.m_int (by decide +kernel) (pa_cons (pe_cal (ok__law_next T (P := P) (w := w) (base := base)) (hr.mono (by decide)) pass0 (pa_cons (pv 0) pa_nil)) pa_nil)) pe_int)) pe_int))) pss_nil)
    (pss_cons (ps_set (i := 2) sc__law_integer.nd rfl (by first | exact Or.inl rfl | exact Or.inr rfl) pe_int)
    (pss_cons (ps_for (by first | exact PassesOwn.never | exact passes_of rfl) rfl (pi_range1 rfl T.m_range (pa_cons (pe_op op_add pe_int (pe_op op_mod (pe_callTy (T := "int") call_int1 (by rfl) T.m_int (by decide +kernel) (pa_cons (pe_cal (ok__law_next T (P := P) (w := w) (base := base)) (hr.mono (by decide)) pass0 (pa_cons (pv 0) pa_nil)) pa_nil)) pe_int)) pa_nil)) (pg_name (i := 3) sc__law_integer.nd rfl (by first | exact Or.inl rfl | exact Or.inr rfl))
      (pss_one (ps_set (i := 2) sc__law_integer.nd rfl (by first | exact Or.inl rfl | exact Or.inr rfl) (pe_op op_add (pe_op op_mulW (pv 2) pe_int) (pe_op op_mod (pe_callTy (T := "int") call_int1 (by rfl) T.m_int (by decide +kernel) (pa_cons (pe_cal (ok__law_next T (P := P) (w := w) (base := base)) (hr.mono (by decide)) pass0 (pa_cons (pv 0) pa_nil)) pa_nil)) pe_int)))))
    (pss_one (ps_ret (pe_ifExp (pt_cmpR op_eq (pe_op op_mod (pe_callTy (T := "int") call_int1 (by rfl) T.m_int (by decide +kernel) (pa_cons (pe_cal (ok__law_next T (P := P) (w := w) (base := base)) (hr.mono (by decide)) pass0 (pa_cons (pv 0) pa_nil)) pa_nil)) pe_int) pe_int (nomark _)) (pv 2) (pe_op op_sub pe_int (pv 2)))))))))), ?_⟩
    -- kind
    refine ⟨.ref l, rfl, l, rfl, hd, fun H1 k hk0 hk1 m1 => ?_⟩
    refine .inl ⟨_, rfl, _, _, rfl, rfl, (by show (0 : Int) < 4; decide), ?_⟩
    -- kind < 2
    refine ⟨_, rfl, _, _, rfl, rfl, _, rfl, ite2 (fun _ => ?_) (fun _ => ?_)⟩
    · refine ⟨.ref l, rfl, l, rfl, m1.2, fun H2 d hd0 hd1 m2 => ?_⟩
      refine .inl ⟨_, rfl, _, _, rfl, rfl, (by show (0 : Int) < 19; decide), _, _, rfl, rfl, ?_⟩
      refine q _ _ (m1.trans m2) ?_
      rw [lim]
      omega
    · refine ⟨_, rfl, rfl, _, rfl, ite2 (fun _ => ?_) (fun _ => ?_)⟩
      · refine ⟨.ref l, rfl, l, rfl, m1.2, fun H2 d hd0 hd1 m2 => ?_⟩
        refine .inl ⟨_, rfl, _, _, rfl, rfl, (by show (0 : Int) < 1000; decide), ?_⟩
        refine ⟨_, _, rfl, rfl, wide_mul (a := 2) (b := 20) (by decide) (by omega) (by decide) (by decide) (by decide), ?_⟩
        refine ⟨.ref l, rfl, l, rfl, m2.2, fun H3 e he0 he1 m3 => ?_⟩
        refine .inl ⟨_, rfl, _, _, rfl, rfl, (by show (0 : Int) < 3; decide), _, _, rfl, rfl, _, _, rfl, rfl, ?_⟩
        refine q _ _ ((m1.trans m2).trans m3) ?_
        rw [lim]
        omega
      · -- total = 0; the loop
        refine ⟨.ref l, rfl, l, rfl, m1.2, fun H2 d hd0 hd1 m2 => ?_⟩
        refine .inl ⟨_, rfl, _, _, rfl, rfl, (by show (0 : Int) < 12; decide), _, _, rfl, rfl, ?_⟩
        refine ⟨_, rfl, by omega, by omega, for_range (lo := 0) (n := (1 + d % 12).toNat)
          (fun j σ H' => ∃ (t : Int) (c3 : Option V), σ = [some (.ref l), some (.int (k % 4)), some (.int t), c3] ∧ 0 ≤ t ∧ t < 1000 ^ j ∧ Mv l H H') ⟨0, none, rfl, by decide, by decide, m1.trans m2⟩ ?_ ?_⟩
        · rintro j σ H3 hj ⟨t, c3, rfl, ht0, ht1, m3⟩
          refine ⟨_, rfl, _, _, rfl, rfl, ?_, .ref l, rfl, l, rfl, m3.2, fun H4 e he0 he1 m4 => ?_⟩
          · have h1 : (1000 : Int) ^ j ≤ 1000 ^ 12 := by
              have : (1000 : Nat) ^ j ≤ 1000 ^ 12 := Nat.pow_le_pow_right (by decide) (by omega)
              exact_mod_cast this
            refine wide_mul (a := 125) (b := 20) ?_ (by decide) (by decide) (by decide) (by decide)
            have h2 : (1000 : Int) ^ 12 = 1000000000000000000000000000000000000 := by decide
            have h3 : (2 : Nat) ^ 125 = 42535295865117307932921825928971026432 := by decide
            omega
          · refine .inl ⟨_, rfl, _, _, rfl, rfl, (by show (0 : Int) < 1000; decide), _, _, rfl, rfl, ?_⟩
            refine ⟨_, _, rfl, by omega, ?_, m3.trans m4⟩
            rw [pow3]
            omega
        · rintro σ H3 ⟨t, c3, rfl, ht0, ht1, m3⟩
          have ht : t.natAbs < 1000 ^ 12 := by
            have h1 : (1000 : Int) ^ (1 + d % 12).toNat ≤ 1000 ^ 12 := by
              have : (1000 : Nat) ^ (1 + d % 12).toNat ≤ 1000 ^ 12 := Nat.pow_le_pow_right (by decide) (by omega)
              exact_mod_cast this
            have h2 : (1000 : Int) ^ 12 = 1000000000000000000000000000000000000 := by decide
            omega
          refine ⟨.ref l, rfl, l, rfl, m3.2, fun H4 e he0 he1 m4 => ?_⟩
          refine .inl ⟨_, rfl, _, _, rfl, rfl, (by show (0 : Int) < 2; decide), rfl, _, rfl, ite2 (fun _ => ?_) (fun _ => ?_)⟩
          · exact ⟨_, rfl, q _ _ (m3.trans m4) ht⟩
          · exact ⟨_, rfl, _, _, rfl, rfl, q _ _ (m3.trans m4) (by omega)⟩
def big : Nat := 2 ^ 130
theorem big_lt : big < 2 ^ 3000 := Nat.pow_lt_pow_right (by decide) (by decide)
def sp__law_pair (K : PySem.W.Frag) : Sp := fun vs H Q _ => ∃ l, vs = [.ref l] ∧ DrA l H ∧ ∀ H' v (a b : Int), Mv l H H' → Num K H' v a b → isN a b → a.natAbs < 2 ^ 120 → b.natAbs < 2 ^ 120 → Q v H'
theorem ok__law_pair (T : Txt K mg ad fd) : Cal P w K mg base CX0 3 "_law_pair" (ad 27) (fd 27) ["draws"] [] [] (sp__law_pair K) := by
  refine ⟨T.f__law_pair.ok sc__law_pair (fun vs H Q E h => ?_) (fun cdv A outer s H vs Q E hr h => ?_), T.g__law_pair, T.f__law_pair.kp, T.f__law_pair.binds (ps := ["draws"]) fun _ _ _ _ _ _ us hl => match us, hl with | [_], _ => rfl, .nil⟩
  · obtain ⟨l, rfl, _⟩ := h
    rfl
  · obtain ⟨l, rfl, hd, q⟩ := h
    refine ⟨_, (pss_cons (ps_set (i := 1) sc__law_pair.nd rfl (by first | exact Or.inl rfl | exact Or.inr rfl) (pe_cal (ok__law_integer T (P := P) (w := w) (base := base)) (hr.mono (by decide)) pass0 (pa_cons (pv 0) pa_nil)))
    (pss_one (ps_ret (pe_cal (ok__law_lowest T (P := P) (w := w) (base := base)) (hr.mono (by decide)) pass0 (pa_cons (pv 1) (pa_cons (pe_op op_add (pe_callB call_abs (by rfl) T.m_abs (by decide +kernel) (pa_cons (pe_cal (ok__law_integer T (P := P) (w := w) (base := base)) (hr.mono (by decide)) pass0 (pa_cons (pv 0) pa_nil)) pa_nil)) pe_int) pa_nil)))))), ?_⟩
    have k1 : (1000 : Nat) ^ 12 = 1000000000000000000000000000000000000 := by decide
    have k2 : (2 : Nat) ^ 120 = 1329227995784915872903807060280344576 := by decide
    have k3 : (2 : Nat) ^ 120 < 2 ^ 4000 := Nat.pow_lt_pow_right (by decide) (by decide)
    refine ⟨.ref l, rfl, l, rfl, hd, fun H1 a m1 ha => ?_⟩
    refine ⟨_, rfl, .ref l, rfl, l, rfl, m1.2, fun H2 b m2 hb => ?_⟩
    refine ⟨b, rfl, ?_⟩
    have e : (if b < 0 then -b else b) = (b.natAbs : Int) := by split <;> omega
    rw [e]
    refine ⟨_, _, rfl, rfl, a, _, rfl, by omega, by omega, by omega, fun H3 v e3 n3 => ?_⟩
    have h0 : ((b.natAbs : Int) + 1) ≠ 0 := by omega
    have hle := nrm_le (a := a) h0
    exact q H3 v _ _ ((m1.trans m2).ex e3) n3 (nrm_isN h0) (by omega) (by omega)
/-! ### what is told of a pair of numbers -/
def tup2 (p : Int × Int) : PyData := .tuple [.int p.1, .int p.2]
def errB : PyData := .str "![1, 0]"
def errN : PyData := .str "![0, 1]"
def toldD (way a b c d : Int) : PyData :=
  if way < 5 then
    if isN a b ∧ isN c d then
      if way = 0 then tup2 (nrm (a * d + c * b) (b * d)) else if way = 1 then tup2 (nrm (a * d - c * b) (b * d)) else if way = 2 then tup2 (nrm (a * c) (b * d))
      else if way = 3 then (if b * c = 0 then errB else tup2 (nrm (a * d) (b * c))) else .bool (decide (a * d < c * b))
    else errN
  else if isN a b then (if way = 6 then .int (sgn a) else .none) else errN
theorem dp_num {K : PySem.W.Frag} {H : Hp} {v : V} {a b : Int} (n : Num K H v a b) : Dp K H v (tup2 (a, b)) := by
  obtain ⟨p, rfl, hp⟩ := n
  exact .tup hp (.cons (.int _) (.cons (.int _) .nil))
def callees (K : PySem.W.Frag) (ad : Nat → Addr) (f : Addr) (sp : Sp) : Prop :=
  (f = ad 11 ∧ sp = sp_two K (ad 3) (ad 4) (fun a b c d => a * d + c * b) (fun a b c d => b * d)) ∨
  (f = ad 12 ∧ sp = sp_two K (ad 3) (ad 4) (fun a b c d => a * d - c * b) (fun a b c d => b * d)) ∨
  (f = ad 13 ∧ sp = sp_two K (ad 3) (ad 4) (fun a b c d => a * c) (fun a b c d => b * d)) ∨
  (f = ad 14 ∧ sp = sp_two K (ad 3) (ad 4) (fun a b c d => a * d) (fun a b c d => b * c)) ∨
  (f = ad 17 ∧ sp = sp_is_less K (ad 3)) ∨ (f = ad 16 ∧ sp = sp_sign K (ad 3)) ∨
  (f = ad 9 ∧ sp = sp_check_number K (ad 3)) ∨ (f = ad 19 ∧ sp = sp_number_text K (ad 3))
theorem callees_ok {X : Cx} {f : Addr} {sp : Sp} (T : Txt X.K X.mg ad fd) (hr : Room 3 X.A) (h : callees X.K ad f sp) : Callee X (L2.CX X.prog X.w) f sp := by
  rcases h with ⟨rfl, rfl⟩ | ⟨rfl, rfl⟩ | ⟨rfl, rfl⟩ | ⟨rfl, rfl⟩ | ⟨rfl, rfl⟩ | ⟨rfl, rfl⟩ | ⟨rfl, rfl⟩ | ⟨rfl, rfl⟩
  · exact (ok_plus T).callee hr
  · exact (ok_minus T).callee hr
  · exact (ok_times T).callee hr
  · exact (ok_over T).callee hr
  · exact (ok_is_less T).callee hr
  · exact (ok_sign T).callee hr
  · exact (ok_check_number T).callee (hr.mono (by decide))
  · exact (ok_number_text T).callee hr
def sp__law_told (K : PySem.W.Frag) : Sp := fun vs H Q _ => ∃ (way : Int) (x y : V), vs = [.int way, x, y] ∧
  ((way = 5 ∧ ∃ a b : Int, x = .int a ∧ y = .int b ∧ b.natAbs < 2 ^ 3000 ∧ ∀ H' v, Ex H H' → Dp K H' v (if b = 0 then errB else tup2 (nrm a b)) → Q v H') ∨
   (0 ≤ way ∧ way ≤ 8 ∧ way ≠ 5 ∧ ∃ a b c d : Int, Num K H x a b ∧ Num K H y c d ∧ (a.natAbs < 2 ^ 3000 ∧ b.natAbs < 2 ^ 3000 ∧ c.natAbs < 2 ^ 3000 ∧ d.natAbs < 2 ^ 3000) ∧ (way = 8 → ¬ isN a b) ∧
      ∀ H' v, Ex H H' → Dp K H' v (toldD way a b c d) → Q v H'))
/-- what the suite of the law's try tells of an error -/
def tSuite (K : PySem.W.Frag) (ad : Nat → Addr) : Addr → Value → Option Addr → TS := fun a cls d =>
  tRet (tOp (fun x y H Q => ∃ i j, x = V.str i ∧ y = V.str j ∧ i.length + j.length ≤ sizeLine ∧ Q (V.str (i ++ j)) H) (tC (V.str (Str.ofString "!")))
    (tCB (fun vs H Q => ∃ a d, vs = [V.ref a] ∧ Dp K H (V.ref a) d ∧ Show1 d ∧ Q (V.str d.shown) H)
      (tCons (tLst
        (tCons (tCB (fun xs H Q => (∃ i, xs = [V.int i] ∧ Q (V.int i) H) ∨ ∃ k, xs = [V.bl k] ∧ Q (V.int (if k = true then 1 else 0)) H) (tCons (tCB (rIsX K a cls d) (tCons (tVar 3) (tCons (tC (V.ref (ad 4))) tNil))) tNil))
        (tCons (tCB (fun xs H Q => (∃ i, xs = [V.int i] ∧ Q (V.int i) H) ∨ ∃ k, xs = [V.bl k] ∧ Q (V.int (if k = true then 1 else 0)) H) (tCons (tCB (rIsX K a cls d) (tCons (tVar 3) (tCons (tC (V.ref (ad 3))) tNil))) tNil)) tNil)))
        tNil)))
def b2 (k : Bool) : Int := if k = true then 1 else 0
def errText (x y : Bool) : Str := Str.ofString "!" ++ (PyData.list [.int (b2 x), .int (b2 y)]).shown
theorem show_bb : ∀ x y : Bool, Show1 (PyData.list [.int (b2 x), .int (b2 y)]) := by
  intro x y
  cases x <;> cases y <;> exact ⟨by decide +kernel, by decide +kernel, by decide +kernel, by decide +kernel⟩
theorem err_len : ∀ x y : Bool, (Str.ofString "!").length + ((PyData.list [.int (b2 x), .int (b2 y)]).shown).length ≤ sizeLine := by
  intro x y
  cases x <;> cases y <;> decide +kernel
theorem told_suite {c0 C : Addr} {bB bN : Bool} {Q : VK} {n : L2.St → Hp → Prop} {o1 o2 o3 : Option V} {H1 : Hp} (xm : PySem.W.exmOne K (.ref C) (.ref c0) = some true) (c : ExcC K C)
    (kB : PySem.W.kitOne K (.ref C) (.ref (ad 4)) = some bB) (kN : PySem.W.kitOne K (.ref C) (.ref (ad 3)) = some bN)
    (q : ∀ H', Ex H1 H' → Q (.str (errText bB bN)) H') : wAs K (.ref c0) 3 (tSuite K ad) (fun _ _ _ _ => False) { nx := n, rt := Q } (.ref C) none [o1, o2, o3, none] H1 := by
  refine ⟨true, xm, fun _ a ha => ?_, fun z => nomatch z⟩
  refine ⟨.ref a, rfl, .inr ⟨C, rfl, rfl, c, .ref (ad 4), _, bB, rfl, fun u h => h, kB, .inr ⟨bB, rfl, ?_⟩⟩⟩
  refine ⟨.ref a, rfl, .inr ⟨C, rfl, rfl, c, .ref (ad 3), _, bN, rfl, fun u h => h, kN, .inr ⟨bN, rfl, ?_⟩⟩⟩
  refine ⟨(by show (2 : Nat) ≤ sizeLine; decide), fun p hp => ?_⟩
  refine ⟨p, _, rfl, .lst (SqL.of upd_same) (.cons (.int (b2 bB)) (.cons (.int (b2 bN)) .nil)), show_bb bB bN, _, _, rfl, rfl, err_len bB bN, q _ (Ex.new hp)⟩
theorem errT_B : errText true false = (PySem.Str.ofString "![1, 0]") := by decide +kernel
theorem errT_N : errText false true = (PySem.Str.ofString "![0, 1]") := by decide +kernel
theorem suite_N (T : Txt K mg ad fd) {Q : VK} {n : L2.St → Hp → Prop} {o1 o2 o3 : Option V} {H1 : Hp} (q : ∀ H', Ex H1 H' → Q (.str (PySem.Str.ofString "![0, 1]")) H') : wAs K (.ref (ad 2)) 3 (tSuite K ad) (fun _ _ _ _ => False) { nx := n, rt := Q } (.ref (ad 3)) none [o1, o2, o3, none] H1 :=
  told_suite T.e_NotNumber_PlaneError T.c_NotNumber T.i_NotNumber_BadNumber T.i_NotNumber_NotNumber (by rw [errT_N]; exact q)
theorem suite_B (T : Txt K mg ad fd) {Q : VK} {n : L2.St → Hp → Prop} {o1 o2 o3 : Option V} {H1 : Hp} (q : ∀ H', Ex H1 H' → Q (.str (PySem.Str.ofString "![1, 0]")) H') : wAs K (.ref (ad 2)) 3 (tSuite K ad) (fun _ _ _ _ => False) { nx := n, rt := Q } (.ref (ad 4)) none [o1, o2, o3, none] H1 :=
  told_suite T.e_BadNumber_PlaneError T.c_BadNumber T.i_BadNumber_BadNumber T.i_BadNumber_NotNumber (by rw [errT_B]; exact q)
theorem ok__law_told (T : Txt K mg ad fd) : CalG P w K mg base CX0 4 "_law_told" (ad 28) (fd 28) ["way", "x", "y"] (sp__law_told K) := by
  refine ⟨T.f__law_told.okGn sc__law_told (fun vs H Q E h => ?_) (fun cdv A outer s H vs Q E gd hr h => ?_), T.g__law_told, T.f__law_told.kp, T.f__law_told.binds (ps := ["way", "x", "y"]) fun _ _ _ _ _ _ us hl => match us, hl with | [_, _, _], _ => rfl⟩
  · obtain ⟨way, x, y, rfl, _⟩ := h
    rfl
  · obtain ⟨way, x, y, rfl, h⟩ := h
    have hu := hr.units
    refine ⟨_, (pss_one (ps_try_as (i := 3) rfl rfl sc__law_told.nd rfl rfl ⟨rfl, by decide, Or.inl T.g_PlaneError⟩ takes0
    (fun W pn xe tk hp => (pss_cons (ps_if (pt_cmpR op_lt (pv 0) pe_int (nomark _)) (pss_one (ps_ret (pe_callV' (C := callees K ad) (fun f sp h => callees_ok T (hr.mono (by decide)) h) (pe_ix (ix_listK (K := K)) (pe_lst (pa_cons (pe_globR (f := ad 11) T.g_plus) (pa_cons (pe_globR (f := ad 12) T.g_minus) (pa_cons (pe_globR (f := ad 13) T.g_times) (pa_cons (pe_globR (f := ad 14) T.g_over) (pa_cons (pe_globR (f := ad 17) T.g_is_less) pa_nil)))))) (pv 0) (fun _ _ => rfl)) (fun σ => passAt tk σ) (pa_cons (pv 1) (pa_cons (pv 2) pa_nil))))) pss_nil)
    (pss_cons (ps_if (pt_cmpR op_eq (pv 0) pe_int (nomark _)) (pss_one (ps_ret (pe_calS (ok_number T (P := P) (w := w) (base := base)) (hr.mono (by decide)) (fun σ => passAt tk σ) (pa_cons (pv 1) (pa_cons (pv 2) pa_nil))))) pss_nil)
    (pss_one (ps_ret (pe_callV' (C := callees K ad) (fun f sp h => callees_ok T (hr.mono (by decide)) h) (pe_ix (ix_listK (K := K)) (pe_lst (pa_cons (pe_globR (f := ad 16) T.g_sign) (pa_cons (pe_globR (f := ad 9) T.g_check_number) (pa_cons (pe_globR (f := ad 19) T.g_number_text) pa_nil)))) (pe_op op_sub (pv 0) pe_int) (fun _ _ => rfl)) (fun σ => passAt tk σ) (pa_cons (pv 1) pa_nil)))))))
    (fun a oe cls d pn hz hf => by exact (pss_one (ps_ret (pe_op op_add_str pe_str (pe_strD (K := K) gd hu T.m_str (pa_cons (pe_lst (pa_cons (pe_callTy (T := "int") call_int1 (by rfl) T.m_int (by decide +kernel) (pa_cons (pe_callB (call_isX (K := K) hz hf) (by rfl) T.m_isinstance (by decide +kernel) (pa_cons (pv 3) (pa_cons (pe_globR (f := ad 4) T.g_BadNumber) pa_nil))) pa_nil)) (pa_cons (pe_callTy (T := "int") call_int1 (by rfl) T.m_int (by decide +kernel) (pa_cons (pe_callB (call_isX (K := K) hz hf) (by rfl) T.m_isinstance (by decide +kernel) (pa_cons (pv 3) (pa_cons (pe_globR (f := ad 3) T.g_NotNumber) pa_nil))) pa_nil)) pa_nil))) pa_nil)))))))), ?_⟩
    rcases h with ⟨rfl, a, b, rfl, rfl, hb, q⟩ | ⟨w0, w8, w5, a, b, c, d, hx, hy, ⟨ha, hb, hc, hd⟩, w8', q⟩
    · -- way == 5: number(x, y)
      refine ⟨_, rfl, _, _, rfl, rfl, _, rfl, ite2 (fun z => absurd (of_decide_eq_true z) (by decide)) (fun _ => ?_)⟩
      refine ⟨_, rfl, rfl, _, rfl, ite2 (fun _ => ?_) (fun z => absurd (decide_eq_true rfl) z)⟩
      refine ⟨_, rfl, _, rfl, a, b, rfl, Nat.lt_of_lt_of_le hb (Nat.pow_le_pow_right (by decide) (by decide)), fun z H1 e1 => ?_, fun z H1 v e1 n1 => ?_⟩
      · refine suite_B T fun H2 e2 => ?_
        have := q H2 (.str (PySem.Str.ofString "![1, 0]")) (e1.trans e2)
        rw [if_pos z] at this
        exact this (.str _)
      · have := q H1 v e1
        rw [if_neg z] at this
        exact this (dp_num n1)
    · by_cases h5 : way < 5
      · -- [plus, minus, times, over, is_less][way](x, y)
        refine ⟨_, rfl, _, _, rfl, rfl, _, rfl, ite2 (fun _ => ?_) (fun z => absurd (decide_eq_true h5) z)⟩
        refine ⟨(by show (5 : Nat) ≤ sizeLine; decide), fun p hp => ?_⟩
        have e0 : Ex H (upd H p (.lst [.ref (ad 11), .ref (ad 12), .ref (ad 13), .ref (ad 14), .ref (ad 17)])) := Ex.new hp
        have hx := hx.mono e0
        have hy := hy.mono e0
        obtain ⟨f, sp, hat, hcal, hsp⟩ : ∃ f sp, atI [V.ref (ad 11), .ref (ad 12), .ref (ad 13), .ref (ad 14), .ref (ad 17)] way = some (.ref f) ∧ callees K ad f sp ∧
            ∀ H1 (Q' : VK) (E' : XK), Num K H1 x a b → Num K H1 y c d → (∀ H2, Ex H1 H2 → E' (.ref (ad 4)) none H2 → True) → (¬ (isN a b ∧ isN c d) → ∀ H2, Ex H1 H2 → E' (.ref (ad 3)) none H2) →
              (isN a b ∧ isN c d → way = 3 → b * c = 0 → ∀ H2, Ex H1 H2 → E' (.ref (ad 4)) none H2) → (∀ H2 v, Ex H1 H2 → isN a b ∧ isN c d → (way = 3 → b * c ≠ 0) → Dp K H2 v (toldD way a b c d) → Q' v H2) → sp [x, y] H1 Q' E' := by
          have hw : way = 0 ∨ way = 1 ∨ way = 2 ∨ way = 3 ∨ way = 4 := by omega
          have two : ∀ f g : Int → Int → Int → Int → Int, (isN a b ∧ isN c d → way ≠ 3 → g a b c d ≠ 0) → (isN a b ∧ isN c d → (way = 3 → b * c ≠ 0) → toldD way a b c d = tup2 (nrm (f a b c d) (g a b c d))) → (way = 3 → g a b c d = b * c) →
              ∀ H1 (Q' : VK) (E' : XK), Num K H1 x a b → Num K H1 y c d → (∀ H2, Ex H1 H2 → E' (.ref (ad 4)) none H2 → True) → (¬ (isN a b ∧ isN c d) → ∀ H2, Ex H1 H2 → E' (.ref (ad 3)) none H2) →
              (isN a b ∧ isN c d → way = 3 → b * c = 0 → ∀ H2, Ex H1 H2 → E' (.ref (ad 4)) none H2) → (∀ H2 v, Ex H1 H2 → isN a b ∧ isN c d → (way = 3 → b * c ≠ 0) → Dp K H2 v (toldD way a b c d) → Q' v H2) →
              sp_two K (ad 3) (ad 4) f g [x, y] H1 Q' E' := by
            intro f g hg ht h3 H1 Q' E' nx ny _ qE qB qQ
            refine ⟨a, b, c, d, ⟨x, y, rfl, nx, ny, ha, hb, hc, hd⟩, qE, fun hN => ⟨fun z H2 e2 => ?_, fun z H2 v e2 n2 => ?_⟩⟩
            · by_cases w3 : way = 3
              · exact qB hN w3 (by rw [← h3 w3]; exact z) H2 e2
              · exact absurd z (hg hN w3)
            · have hz : way = 3 → b * c ≠ 0 := fun w3 => by rw [← h3 w3]; exact z
              refine qQ H2 v e2 hN hz ?_
              rw [ht hN hz]
              exact dp_num n2
          have ne0 : isN a b ∧ isN c d → b * d ≠ 0 := fun ⟨⟨h1, _⟩, h2, _⟩ z => by
            rcases Int.mul_eq_zero.mp z with z | z <;> omega
          rcases hw with rfl | rfl | rfl | rfl | rfl
          · exact ⟨_, _, rfl, .inl ⟨rfl, rfl⟩, two _ _ (fun h _ => ne0 h) (fun h _ => by unfold toldD; rw [if_pos (by decide), if_pos h, if_pos rfl]) (fun z => absurd z (by decide))⟩
          · exact ⟨_, _, rfl, .inr (.inl ⟨rfl, rfl⟩), two _ _ (fun h _ => ne0 h) (fun h _ => by unfold toldD; rw [if_pos (by decide), if_pos h, if_neg (by decide), if_pos rfl]) (fun z => absurd z (by decide))⟩
          · exact ⟨_, _, rfl, .inr (.inr (.inl ⟨rfl, rfl⟩)), two _ _ (fun h _ => ne0 h) (fun h _ => by unfold toldD; rw [if_pos (by decide), if_pos h, if_neg (by decide), if_neg (by decide), if_pos rfl]) (fun z => absurd z (by decide))⟩
          · exact ⟨_, _, rfl, .inr (.inr (.inr (.inl ⟨rfl, rfl⟩))), two _ _ (fun h z => absurd rfl z) (fun h z => by unfold toldD; rw [if_pos (by decide), if_pos h, if_neg (by decide), if_neg (by decide), if_neg (by decide), if_pos rfl, if_neg (z rfl)]) (fun _ => rfl)⟩
          · refine ⟨_, _, rfl, .inr (.inr (.inr (.inr (.inl ⟨rfl, rfl⟩)))), ?_⟩
            intro H1 Q' E' nx ny _ qE qB qQ
            refine ⟨a, b, c, d, ⟨x, y, rfl, nx, ny, ha, hb, hc, hd⟩, qE, fun hN H2 e2 => qQ H2 _ e2 hN (fun z => absurd z (by decide)) ?_⟩
            unfold toldD
            rw [if_pos (by decide), if_pos hN, if_neg (by decide), if_neg (by decide), if_neg (by decide), if_neg (by decide)]
            exact .bl _
        refine ⟨_, rfl, p, _, way, _, rfl, rfl, SqL.of upd_same, hat, f, sp, rfl, hcal, _, rfl, _, rfl, ?_⟩
        refine hsp _ _ _ hx hy (fun _ _ _ => trivial) (fun hn H2 e2 => suite_N T fun H3 e3 => ?_) (fun hN w3 z H2 e2 => suite_B T fun H3 e3 => ?_) (fun H2 v e2 hN hz hv => q H2 v (e0.trans e2) hv)
        · refine q H3 _ ((e0.trans e2).trans e3) ?_
          unfold toldD
          rw [if_pos h5, if_neg hn]
          exact .str _
        · refine q H3 _ ((e0.trans e2).trans e3) ?_
          subst w3
          unfold toldD
          rw [if_pos h5, if_pos hN, if_neg (by decide), if_neg (by decide), if_neg (by decide), if_pos rfl, if_pos z]
          exact .str _
      · -- [sign, check_number, number_text][way - 6](x)
        refine ⟨_, rfl, _, _, rfl, rfl, _, rfl, ite2 (fun z => absurd (of_decide_eq_true z) h5) (fun _ => ?_)⟩
        refine ⟨_, rfl, rfl, _, rfl, ite2 (fun z => absurd (V.int.inj (of_decide_eq_true z)) w5) (fun _ => ?_)⟩
        refine ⟨(by show (3 : Nat) ≤ sizeLine; decide), fun p hp => ?_⟩
        have e0 : Ex H (upd H p (.lst [.ref (ad 16), .ref (ad 9), .ref (ad 19)])) := Ex.new hp
        have hx := hx.mono e0
        obtain ⟨f, sp, hat, hcal, hsp⟩ : ∃ f sp, atI [V.ref (ad 16), .ref (ad 9), .ref (ad 19)] (way - 6) = some (.ref f) ∧ callees K ad f sp ∧
            ∀ H1 (Q' : VK) (E' : XK), Num K H1 x a b → (¬ isN a b → ∀ H2, Ex H1 H2 → E' (.ref (ad 3)) none H2) → (∀ H2 v, Ex H1 H2 → isN a b → Dp K H2 v (toldD way a b c d) → Q' v H2) → sp [x] H1 Q' E' := by
          have hw : way = 6 ∨ way = 7 ∨ way = 8 := by omega
          rcases hw with rfl | rfl | rfl
          · refine ⟨_, _, rfl, .inr (.inr (.inr (.inr (.inr (.inl ⟨rfl, rfl⟩))))), ?_⟩
            intro H1 Q' E' nx qE qQ
            refine ⟨x, a, b, rfl, nx, fun hN H2 e2 => qQ H2 _ e2 hN ?_, qE⟩
            unfold toldD
            rw [if_neg (by decide), if_pos hN, if_pos rfl]
            exact .int _
          · refine ⟨_, _, rfl, .inr (.inr (.inr (.inr (.inr (.inr (.inl ⟨rfl, rfl⟩)))))), ?_⟩
            intro H1 Q' E' nx qE qQ
            refine ⟨x, a, b, rfl, nx, fun hN H2 e2 => qQ H2 _ e2 hN ?_, qE⟩
            unfold toldD
            rw [if_neg (by decide), if_pos hN, if_neg (by decide)]
            exact .non
          · refine ⟨_, _, rfl, .inr (.inr (.inr (.inr (.inr (.inr (.inr ⟨rfl, rfl⟩)))))), ?_⟩
            intro H1 Q' E' nx qE qQ
            exact ⟨x, a, b, rfl, nx, w8' rfl, qE (w8' rfl)⟩
        refine ⟨_, rfl, _, _, rfl, rfl, p, _, way - 6, _, rfl, rfl, SqL.of upd_same, hat, f, sp, rfl, hcal, _, rfl, ?_⟩
        refine hsp _ _ _ hx (fun hn H2 e2 => suite_N T fun H3 e3 => ?_) (fun H2 v e2 hN hv => q H2 v (e0.trans e2) hv)
        refine q H3 _ ((e0.trans e2).trans e3) ?_
        unfold toldD
        rw [if_neg h5, if_neg hn]
        exact .str _
/-! ### texts of data -/
theorem int_len {a : Int} (ha : a.natAbs < 2 ^ 1000) : ((toString a : String) : Str).length ≤ 1001 ∧ a.natAbs.log2 < 1920 := by
  have h : a.natAbs.log2 < 1000 := by
    by_cases h0 : a.natAbs = 0
    · rw [h0]
      decide
    · exact (Nat.log2_lt h0).mpr ha
  refine ⟨?_, by omega⟩
  have := PySem.int_text_length_le (k := 1000) (by decide) h
  rw [PySem.ofString_length]
  exact this
theorem show_pair {a b : Int} (ha : a.natAbs < 2 ^ 1000) (hb : b.natAbs < 2 ^ 1000) : Show1 (tup2 (a, b)) := by
  obtain ⟨la, sa⟩ := int_len ha
  obtain ⟨lb, sb⟩ := int_len hb
  refine ⟨?_, rfl, ?_, by show (PyData.depth (.tuple [.int a, .int b])) < 40; simp [PyData.depth, PyData.depthAll]⟩
  · simp [tup2, PyData.showable, PyData.showableAll, sa, sb]
  · show (tupleText [((toString a : String) : Str), ((toString b : String) : Str)]).length ≤ sizeLine
    have h1 := PySem.fmt_text [((toString a : String) : Str), ((toString b : String) : Str)]
    rw [piled_cons, piled_cons] at h1
    have h2 : piled [] = 0 := rfl
    refine Nat.le_trans h1 (Nat.le_trans (show _ ≤ 5000 by omega) (by decide))
theorem show_int {a : Int} (ha : a.natAbs < 2 ^ 1000) : Show1 (.int a) := by
  obtain ⟨la, sa⟩ := int_len ha
  refine ⟨by simp [PyData.showable, sa], rfl, Nat.le_trans la (by decide), by simp [PyData.depth]⟩
theorem show_bool : ∀ b : Bool, Show1 (.bool b) := by
  intro b
  cases b <;> exact ⟨rfl, rfl, by decide +kernel, by decide⟩
theorem show_none : Show1 .none := ⟨rfl, rfl, by decide +kernel, by decide⟩
theorem show_errB : Show1 errB := ⟨rfl, rfl, by decide +kernel, by decide⟩
theorem show_errN : Show1 errN := ⟨rfl, rfl, by decide +kernel, by decide⟩
/-! ### a part taken out: what is wanted behind it is said once -/
theorem cut {te : TE} {σ : L2.St} {H : Hp} {Q : VK} (P : V → Hp → Prop) (h : ∀ Q' : VK, (∀ v H', P v H' → Q' v H') → te σ H Q') (q : ∀ v H', P v H' → Q v H') : te σ H Q := h Q q
theorem scut {t u : TS} {D : Ends} {σ : L2.St} {H : Hp} (P : L2.St → Hp → Prop) (h : ∀ n : L2.St → Hp → Prop, (∀ σ' H', P σ' H' → n σ' H') → t { D with nx := n } σ H) (q : ∀ σ' H', P σ' H' → u D σ' H') : tSeq t u D σ H := h _ q
theorem gset {i : Nat} {v : V} {σ : L2.St} {H : Hp} {Q : L2.St → Hp → Prop} (h : Q (σ.set i (some v)) H) : gName i v σ H Q := h
theorem seqA {te : TE} {i : Nat} {t u : TS} {D : Ends} {σ : L2.St} {H : Hp} (h : te σ H fun v H1 => tSeq t u D (σ.set i (some v)) H1) : tSeq (tAsg te (gName i)) (tSeq t u) D σ H := h
theorem acut {te : TE} {i : Nat} {u : TS} {D : Ends} {σ : L2.St} {H : Hp} (P : V → Hp → Prop) (h : ∀ Q' : VK, (∀ v H', P v H' → Q' v H') → te σ H Q') (q : ∀ v H', P v H' → u D (σ.set i (some v)) H') : tSeq (tAsg te (gName i)) u D σ H := h _ q
theorem pow_up {x : Nat} {a b : Nat} (h : x < 2 ^ a) (hab : a ≤ b) : x < 2 ^ b := Nat.lt_of_lt_of_le h (Nat.pow_le_pow_right (by decide) hab)
def sp__law_due (K : PySem.W.Frag) : Sp := fun vs H Q _ => ∃ (way : Int) (x y : V) (a b c d : Int), vs = [.int way, x, y] ∧ (way = 0 ∨ way = 1 ∨ way = 2 ∨ way = 3 ∨ way = 4 ∨ way = 6 ∨ way = 7) ∧ Num K H x a b ∧ Num K H y c d ∧
  isN a b ∧ isN c d ∧ (a.natAbs < 2 ^ 120 ∧ b.natAbs < 2 ^ 120 ∧ c.natAbs < 2 ^ 120 ∧ d.natAbs < 2 ^ 120) ∧ ∀ H' v, Ex H H' → Dp K H' v (toldD way a b c d) → Q v H'
theorem m120 {x y : Int} (hx : x.natAbs < 2 ^ 120) (hy : y.natAbs < 2 ^ 120) : (x * y).natAbs < 2 ^ 240 := wide_lt hx hy
theorem s240 {x y : Int} (hx : x.natAbs < 2 ^ 240) (hy : y.natAbs < 2 ^ 240) : (x + y).natAbs < 2 ^ 241 ∧ (x - y).natAbs < 2 ^ 241 := by
  have : (2 : Nat) ^ 241 = 2 ^ 240 + 2 ^ 240 := by rw [Nat.pow_succ, Nat.mul_two]
  omega
theorem ok__law_due (T : Txt K mg ad fd) : Cal P w K mg base CX0 3 "_law_due" (ad 29) (fd 29) ["way", "x", "y"] [] [] (sp__law_due K) := by
  refine ⟨T.f__law_due.ok sc__law_due (fun vs H Q E h => ?_) (fun cdv A outer s H vs Q E hr h => ?_), T.g__law_due, T.f__law_due.kp, T.f__law_due.binds (ps := ["way", "x", "y"]) fun _ _ _ _ _ _ us hl => match us, hl with | [_, _, _], _ => rfl, .nil⟩
  · obtain ⟨way, x, y, a, b, c, d, rfl, _⟩ := h
    rfl
  · obtain ⟨way, x, y, a, b, c, d, rfl, hw, hx, hy, nx, ny, ⟨ha, hb, hc, hd⟩, q⟩ := h
    have ha3 : a.natAbs < 2 ^ 3000 := pow_up ha (by decide)
    have hb3 : b.natAbs < 2 ^ 3000 := pow_up hb (by decide)
    have hc3 : c.natAbs < 2 ^ 3000 := pow_up hc (by decide)
    have hd3 : d.natAbs < 2 ^ 3000 := pow_up hd (by decide)
    have hb1 := nx.1
    have hd1 := ny.1
    have ne : b * d ≠ 0 := fun z => by rcases Int.mul_eq_zero.mp z with z | z <;> omega
    have low : ∀ (f g : Int), f.natAbs < 2 ^ 4000 → g.natAbs < 2 ^ 4000 → g ≠ 0 → toldD way a b c d = tup2 (nrm f g) → sp__law_lowest K [.int f, .int g] H Q E0 := fun f g hf hg h0 ht =>
      ⟨f, g, rfl, hf, hg, h0, fun H' v e n => q H' v e (by rw [ht]; exact dp_num n)⟩
    refine ⟨_, (pss_cons (ps_if (pt_cmpR op_eq (pv 0) pe_int (nomark _)) (pss_one (ps_ret (pe_cal (ok__law_lowest T (P := P) (w := w) (base := base)) (hr.mono (by decide)) pass0 (pa_cons (pe_op op_add (pe_op op_mulW (pe_ix (ix_tupK (K := K)) (pv 1) pe_int (fun _ _ => rfl)) (pe_ix (ix_tupK (K := K)) (pv 2) pe_int (fun _ _ => rfl))) (pe_op op_mulW (pe_ix (ix_tupK (K := K)) (pv 2) pe_int (fun _ _ => rfl)) (pe_ix (ix_tupK (K := K)) (pv 1) pe_int (fun _ _ => rfl)))) (pa_cons (pe_op op_mulW (pe_ix (ix_tupK (K := K)) (pv 1) pe_int (fun _ _ => rfl)) (pe_ix (ix_tupK (K := K)) (pv 2) pe_int (fun _ _ => rfl))) pa_nil))))) pss_nil)
    (pss_cons (ps_if (pt_cmpR op_eq (pv 0) pe_int (nomark _)) (pss_one (ps_ret (pe_cal (ok__law_lowest T (P := P) (w := w) (base := base)) (hr.mono (by decide)) pass0 (pa_cons (pe_op op_sub (pe_op op_mulW (pe_ix (ix_tupK (K := K)) (pv 1) pe_int (fun _ _ => rfl)) (pe_ix (ix_tupK (K := K)) (pv 2) pe_int (fun _ _ => rfl))) (pe_op op_mulW (pe_ix (ix_tupK (K := K)) (pv 2) pe_int (fun _ _ => rfl)) (pe_ix (ix_tupK (K := K)) (pv 1) pe_int (fun _ _ => rfl)))) (pa_cons (pe_op op_mulW (pe_ix (ix_tupK (K := K)) (pv 1) pe_int (fun _ _ => rfl)) (pe_ix (ix_tupK (K := K)) (pv 2) pe_int (fun _ _ => rfl))) pa_nil))))) pss_nil)
    (pss_cons (ps_if (pt_cmpR op_eq (pv 0) pe_int (nomark _)) (pss_one (ps_ret (pe_cal (ok__law_lowest T (P := P) (w := w) (base := base)) (hr.mono (by decide)) pass0 (pa_cons (pe_op op_mulW (pe_ix (ix_tupK (K := K)) (pv 1) pe_int (fun _ _ => rfl)) (pe_ix (ix_tupK (K := K)) (pv 2) pe_int (fun _ _ => rfl))) (pa_cons (pe_op op_mulW (pe_ix (ix_tupK (K := K)) (pv 1) pe_int (fun _ _ => rfl)) (pe_ix (ix_tupK (K := K)) (pv 2) pe_int (fun _ _ => rfl))) pa_nil))))) pss_nil)
    (pss_cons (ps_if (pt_cmpR op_eq (pv 0) pe_int (nomark _)) (pss_cons (ps_if (pt_cmpR op_eq (pe_ix (ix_tupK (K := K)) (pv 2) pe_int (fun _ _ => rfl)) pe_int (nomark _)) (pss_one (ps_ret pe_str)) pss_nil)
    (pss_one (ps_ret (pe_cal (ok__law_lowest T (P := P) (w := w) (base := base)) (hr.mono (by decide)) pass0 (pa_cons (pe_op op_mulW (pe_ix (ix_tupK (K := K)) (pv 1) pe_int (fun _ _ => rfl)) (pe_ix (ix_tupK (K := K)) (pv 2) pe_int (fun _ _ => rfl))) (pa_cons (pe_op op_mulW (pe_ix (ix_tupK (K := K)) (pv 1) pe_int (fun _ _ => rfl)) (pe_ix (ix_tupK (K := K)) (pv 2) pe_int (fun _ _ => rfl))) pa_nil)))))) pss_nil)
    (pss_cons (ps_if (pt_cmpR op_eq (pv 0) pe_int (nomark _)) (pss_one (ps_ret (pe_cmpR op_lt (pe_op op_mulW (pe_ix (ix_tupK (K := K)) (pv 1) pe_int (fun _ _ => rfl)) (pe_ix (ix_tupK (K := K)) (pv 2) pe_int (fun _ _ => rfl))) (pe_op op_mulW (pe_ix (ix_tupK (K := K)) (pv 2) pe_int (fun _ _ => rfl)) (pe_ix (ix_tupK (K := K)) (pv 1) pe_int (fun _ _ => rfl))) (nomark _)))) pss_nil)
    (pss_one (ps_ret (pe_ifExp (pt_cmpR op_eq (pv 0) pe_int (nomark _)) (pe_op op_sub (pe_callTy (T := "int") call_int1 (by rfl) T.m_int (by decide +kernel) (pa_cons (pe_cmpR op_gt (pe_ix (ix_tupK (K := K)) (pv 1) pe_int (fun _ _ => rfl)) pe_int (nomark _)) pa_nil)) (pe_callTy (T := "int") call_int1 (by rfl) T.m_int (by decide +kernel) (pa_cons (pe_cmpR op_lt (pe_ix (ix_tupK (K := K)) (pv 1) pe_int (fun _ _ => rfl)) pe_int (nomark _)) pa_nil))) pe_non)))))))), ?_⟩
    rcases hw with rfl | rfl | rfl | rfl | rfl | rfl | rfl
    · walk_at "go"
      walk_at "nums"
      exact low _ _ (pow_up (s240 (m120 ha hd) (m120 hc hb)).1 (by decide)) (pow_up (m120 hb hd) (by decide)) ne (by unfold toldD; rw [if_pos (by decide), if_pos ⟨nx, ny⟩, if_pos rfl])
    · walk_at "go"
      walk_at "nums"
      exact low _ _ (pow_up (s240 (m120 ha hd) (m120 hc hb)).2 (by decide)) (pow_up (m120 hb hd) (by decide)) ne (by unfold toldD; rw [if_pos (by decide), if_pos ⟨nx, ny⟩, if_neg (by decide), if_pos rfl])
    · walk_at "go"
      walk_at "nums"
      exact low _ _ (pow_up (m120 ha hc) (by decide)) (pow_up (m120 hb hd) (by decide)) ne (by unfold toldD; rw [if_pos (by decide), if_pos ⟨nx, ny⟩, if_neg (by decide), if_neg (by decide), if_pos rfl])
    · walk_at "go"
      walk_at "nums"
      by_cases hc0 : c = 0
      · rw [if_pos hc0]
        refine q H _ (Ex.refl H) ?_
        unfold toldD
        rw [if_pos (by decide), if_pos ⟨nx, ny⟩, if_neg (by decide), if_neg (by decide), if_neg (by decide), if_pos rfl, if_pos (by rw [hc0, Int.mul_zero])]
        exact .str _
      · have nc : b * c ≠ 0 := fun z => by rcases Int.mul_eq_zero.mp z with z | z <;> omega
        rw [if_neg hc0]
        walk_at "nums"
        exact low _ _ (pow_up (m120 ha hd) (by decide)) (pow_up (m120 hb hc) (by decide)) nc (by unfold toldD; rw [if_pos (by decide), if_pos ⟨nx, ny⟩, if_neg (by decide), if_neg (by decide), if_neg (by decide), if_pos rfl, if_neg nc])
    · walk_at "go"
      walk_at "nums"
      refine q H _ (Ex.refl H) ?_
      unfold toldD
      rw [if_pos (by decide), if_pos ⟨nx, ny⟩, if_neg (by decide), if_neg (by decide), if_neg (by decide), if_neg (by decide)]
      exact .bl _
    · walk_at "go"
      walk_at "nums"
      have e : ((if 0 < a then 1 else 0) - if a < 0 then 1 else 0 : Int) = sgn a := by
        unfold sgn
        by_cases h1 : 0 < a
        · rw [if_pos h1, if_neg (by omega), if_pos h1]
          rfl
        · by_cases h2 : a < 0
          · rw [if_neg h1, if_pos h2, if_neg h1, if_pos h2]
            rfl
          · rw [if_neg h1, if_neg h2, if_neg h1, if_neg h2]
            rfl
      rw [e]
      refine q H _ (Ex.refl H) ?_
      unfold toldD
      rw [if_neg (by decide), if_pos nx, if_pos rfl]
      exact .int _
    · walk_at "go"
      walk_at "nums"
      refine q H _ (Ex.refl H) ?_
      unfold toldD
      rw [if_neg (by decide), if_pos nx, if_neg (by decide)]
      exact .non
theorem show_told {way a b c d : Int} (h : a.natAbs < 2 ^ 120 ∧ b.natAbs < 2 ^ 120 ∧ c.natAbs < 2 ^ 120 ∧ d.natAbs < 2 ^ 120) (nx : isN a b) (ny : isN c d) : Show1 (toldD way a b c d) := by
  obtain ⟨ha, hb, hc, hd⟩ := h
  have hb1 := nx.1
  have hd1 := ny.1
  have ne : b * d ≠ 0 := fun z => by rcases Int.mul_eq_zero.mp z with z | z <;> omega
  have low : ∀ (f g : Int), f.natAbs < 2 ^ 241 → g.natAbs < 2 ^ 241 → g ≠ 0 → Show1 (tup2 (nrm f g)) := fun f g hf hg h0 => by
    have hl := nrm_le (a := f) h0
    exact show_pair (Nat.lt_of_le_of_lt hl.1 (pow_up hf (by decide))) (Nat.lt_of_le_of_lt hl.2 (pow_up hg (by decide)))
  unfold toldD
  by_cases h5 : way < 5
  · rw [if_pos h5, if_pos ⟨nx, ny⟩]
    by_cases h0 : way = 0
    · rw [if_pos h0]
      exact low _ _ (s240 (m120 ha hd) (m120 hc hb)).1 (pow_up (m120 hb hd) (by decide)) ne
    · rw [if_neg h0]
      by_cases h1 : way = 1
      · rw [if_pos h1]
        exact low _ _ (s240 (m120 ha hd) (m120 hc hb)).2 (pow_up (m120 hb hd) (by decide)) ne
      · rw [if_neg h1]
        by_cases h2 : way = 2
        · rw [if_pos h2]
          exact low _ _ (pow_up (m120 ha hc) (by decide)) (pow_up (m120 hb hd) (by decide)) ne
        · rw [if_neg h2]
          by_cases h3 : way = 3
          · rw [if_pos h3]
            by_cases hz : b * c = 0
            · rw [if_pos hz]
              exact show_errB
            · rw [if_neg hz]
              exact low _ _ (pow_up (m120 ha hd) (by decide)) (pow_up (m120 hb hc) (by decide)) hz
          · rw [if_neg h3]
            exact show_bool _
  · rw [if_neg h5, if_pos nx]
    by_cases h6 : way = 6
    · rw [if_pos h6]
      refine show_int ?_
      unfold sgn
      split
      · decide
      · split <;> decide
    · rw [if_neg h6]
      exact show_none
theorem nrm_one (a : Int) : nrm a 1 = (a, 1) := by
  have e : sg a 1 = 1 := by
    unfold sg
    rw [if_neg (by decide)]
    have : a.natAbs.gcd (1 : Int).natAbs = 1 := Nat.gcd_one_right _
    omega
  unfold nrm
  rw [e, Int.fdiv_one]
  rfl
theorem dp_str {H : Hp} {v : V} {x : Str} (h : Dp K H v (.str x)) : v = .str x := by
  cases h
  rfl
theorem told_wrong {way a b c d : Int} (h : way < 5) (hn : ¬ (isN a b ∧ isN c d)) : toldD way a b c d = errN := by
  unfold toldD
  rw [if_pos h, if_neg hn]
theorem told_wrong1 {way a b c d : Int} (h : ¬ way < 5) (hn : ¬ isN a b) : toldD way a b c d = errN := by
  unfold toldD
  rw [if_neg h, if_neg hn]
def sp_law (K : PySem.W.Frag) : Sp := fun vs H Q _ => ∃ (a : Addr) (ns : List Int), vs = [.ref a] ∧ SqL K H a (ns.map V.int) ∧ ns.length ≤ 63 ∧ ∀ H', Q (.bl true) H'
theorem ok_law (T : Txt K mg ad fd) : CalG P w K mg base CX0 5 "law" (ad 30) (fd 30) ["script"] (sp_law K) := by
  refine ⟨T.f_law.okGn sc_law (fun vs H Q E h => ?_) (fun cdv A outer s H vs Q E gd hr h => ?_), T.g_law, T.f_law.kp, T.f_law.binds (ps := ["script"]) fun _ _ _ _ _ _ us hl => match us, hl with | [_], _ => rfl⟩
  · obtain ⟨a, ns, rfl, _⟩ := h
    rfl
  · obtain ⟨sc, ns, rfl, hS, hlen, q⟩ := h
    have hu := hr.units
    obtain ⟨ds1, c1_number⟩ := ok_number1 T (P := P) (w := w) (base := base)
    have k36 : (1000 : Nat) ^ 12 < 2 ^ 120 := by
      have k1 : (1000 : Nat) ^ 12 = 1000000000000000000000000000000000000 := by decide
      have k2 : (2 : Nat) ^ 120 = 1329227995784915872903807060280344576 := by decide
      omega
    refine ⟨_, (pss_cons (ps_set (i := 1) sc_law.nd rfl (by first | exact Or.inl rfl | exact Or.inr rfl) (pe_cal (ok__law_draws T (P := P) (w := w) (base := base)) (hr.mono (by decide)) pass0 (pa_cons (pv 0) pa_nil)))
    (pss_cons (ps_expr (pe_bm0 PySem.F.plainAttrs_list PySem.F.slot_list_reverse PySem.F.type_list_reverse mt_reverse (pv 1)))
    (pss_cons (ps_set (i := 2) sc_law.nd rfl (by first | exact Or.inl rfl | exact Or.inr rfl) (pe_cal (ok__law_integer T (P := P) (w := w) (base := base)) (hr.mono (by decide)) pass0 (pa_cons (pv 1) pa_nil)))
    (pss_cons (ps_set (i := 3) sc_law.nd rfl (by first | exact Or.inl rfl | exact Or.inr rfl) (pe_cal (ok__law_integer T (P := P) (w := w) (base := base)) (hr.mono (by decide)) pass0 (pa_cons (pv 1) pa_nil)))
    (pss_cons (ps_if (pt_cmpR op_ne (pe_repr gd hu T.m_repr (pa_cons (pe_calG (ok__law_told T (P := P) (w := w) (base := base)) gd (hr.mono (by decide)) (pa_cons pe_int (pa_cons (pv 2) (pa_cons (pv 3) pa_nil)))) pa_nil)) (pe_repr gd hu T.m_repr (pa_cons (pe_ifExp (pt_cmpR op_eq (pv 3) pe_int (nomark _)) pe_str (pe_cal (ok__law_lowest T (P := P) (w := w) (base := base)) (hr.mono (by decide)) pass0 (pa_cons (pv 2) (pa_cons (pv 3) pa_nil)))) pa_nil)) (nomark _)) (pss_one (ps_ret pe_bl)) pss_nil)
    (pss_cons (ps_if (pt_cmpR op_ne (pe_repr gd hu T.m_repr (pa_cons (pe_cal (ok_is_number T (P := P) (w := w) (base := base)) (hr.mono (by decide)) pass0 (pa_cons (pe_tup (pa_cons (pv 2) (pa_cons (pv 3) pa_nil))) pa_nil)) pa_nil)) (pe_repr gd hu T.m_repr (pa_cons (pe_and (pe_cmpR op_gt (pv 3) pe_int (nomark _)) (pe_one (pe_cmpR op_eq (pe_cal (ok__law_divisor T (P := P) (w := w) (base := base)) (hr.mono (by decide)) pass0 (pa_cons (pv 2) (pa_cons (pv 3) pa_nil))) pe_int (nomark _)))) pa_nil)) (nomark _)) (pss_one (ps_ret pe_bl)) pss_nil)
    (pss_cons (ps_set (i := 4) sc_law.nd rfl (by first | exact Or.inl rfl | exact Or.inr rfl) (pe_cal (ok__law_pair T (P := P) (w := w) (base := base)) (hr.mono (by decide)) pass0 (pa_cons (pv 1) pa_nil)))
    (pss_cons (ps_set (i := 5) sc_law.nd rfl (by first | exact Or.inl rfl | exact Or.inr rfl) (pe_cal (ok__law_pair T (P := P) (w := w) (base := base)) (hr.mono (by decide)) pass0 (pa_cons (pv 1) pa_nil)))
    (pss_cons (ps_if (pt_cmpR op_eq (pe_op op_mod (pe_callTy (T := "int") call_int1 (by rfl) T.m_int (by decide +kernel) (pa_cons (pe_cal (ok__law_next T (P := P) (w := w) (base := base)) (hr.mono (by decide)) pass0 (pa_cons (pv 1) pa_nil)) pa_nil)) pe_int) pe_int (nomark _)) (pss_one (ps_set (i := 5) sc_law.nd rfl (by first | exact Or.inl rfl | exact Or.inr rfl) (pe_tup (pa_cons (pe_ix (ix_tupK (K := K)) (pv 4) pe_int (fun _ _ => rfl)) (pa_cons (pe_ix (ix_tupK (K := K)) (pv 4) pe_int (fun _ _ => rfl)) pa_nil))))) pss_nil)
    (pss_cons (ps_for (by first | exact PassesOwn.never | exact passes_of rfl) rfl (pi_list (pe_lst (pa_cons pe_int (pa_cons pe_int (pa_cons pe_int (pa_cons pe_int (pa_cons pe_int (pa_cons pe_int (pa_cons pe_int pa_nil))))))))) (pg_name (i := 6) sc_law.nd rfl (by first | exact Or.inl rfl | exact Or.inr rfl))
      (pss_one (ps_if (pt_cmpR op_ne (pe_repr gd hu T.m_repr (pa_cons (pe_calG (ok__law_told T (P := P) (w := w) (base := base)) gd (hr.mono (by decide)) (pa_cons (pv 6) (pa_cons (pv 4) (pa_cons (pv 5) pa_nil)))) pa_nil)) (pe_repr gd hu T.m_repr (pa_cons (pe_cal (ok__law_due T (P := P) (w := w) (base := base)) (hr.mono (by decide)) pass0 (pa_cons (pv 6) (pa_cons (pv 4) (pa_cons (pv 5) pa_nil)))) pa_nil)) (nomark _)) (pss_one (ps_ret pe_bl)) pss_nil)))
    (pss_cons (ps_set (i := 7) sc_law.nd rfl (by first | exact Or.inl rfl | exact Or.inr rfl) (pe_op op_add pe_int (pe_op op_mod (pe_callTy (T := "int") call_int1 (by rfl) T.m_int (by decide +kernel) (pa_cons (pe_cal (ok__law_next T (P := P) (w := w) (base := base)) (hr.mono (by decide)) pass0 (pa_cons (pv 1) pa_nil)) pa_nil)) pe_int)))
    (pss_cons (ps_set (i := 8) sc_law.nd rfl (by first | exact Or.inl rfl | exact Or.inr rfl) (pe_ix (ix_listK (K := K)) (pe_lst (pa_cons (pe_tup (pa_cons (pe_op op_mulW (pe_ix (ix_tupK (K := K)) (pv 4) pe_int (fun _ _ => rfl)) (pv 7)) (pa_cons (pe_op op_mulW (pe_ix (ix_tupK (K := K)) (pv 4) pe_int (fun _ _ => rfl)) (pv 7)) pa_nil))) (pa_cons (pe_tup (pa_cons (pe_ix (ix_tupK (K := K)) (pv 4) pe_int (fun _ _ => rfl)) (pa_cons (pe_op op_sub pe_int (pe_ix (ix_tupK (K := K)) (pv 4) pe_int (fun _ _ => rfl))) pa_nil))) (pa_cons (pe_tup (pa_cons pe_int (pa_cons pe_int pa_nil))) (pa_cons (pe_tup (pa_cons pe_int (pa_cons pe_int pa_nil))) (pa_cons (pe_tup (pa_cons pe_int (pa_cons pe_int pa_nil))) pa_nil)))))) (pe_op op_mod (pe_callTy (T := "int") call_int1 (by rfl) T.m_int (by decide +kernel) (pa_cons (pe_cal (ok__law_next T (P := P) (w := w) (base := base)) (hr.mono (by decide)) pass0 (pa_cons (pv 1) pa_nil)) pa_nil)) pe_int) (fun _ _ => rfl)))
    (pss_cons (ps_if (L2.PW.pt (pw_or (pt_cmpR op_notBl (pe_cal (ok_is_number T (P := P) (w := w) (base := base)) (hr.mono (by decide)) pass0 (pa_cons (pv 8) pa_nil)) pe_bl (nomark _)) (pw_or1 (pt_cmpR op_notBl (pe_cal (ok_is_number T (P := P) (w := w) (base := base)) (hr.mono (by decide)) pass0 (pa_cons (pv 4) pa_nil)) pe_bl (nomark _))))) (pss_one (ps_ret pe_bl)) pss_nil)
    (pss_cons (ps_for (by first | exact PassesOwn.never | exact passes_of rfl) rfl (pi_range1 rfl T.m_range (pa_cons pe_int pa_nil)) (pg_name (i := 6) sc_law.nd rfl (by first | exact Or.inl rfl | exact Or.inr rfl))
      (pss_one (ps_if (L2.PW.pt (pw_or (pt_cmpR op_ne (pe_calG (ok__law_told T (P := P) (w := w) (base := base)) gd (hr.mono (by decide)) (pa_cons (pv 6) (pa_cons (pv 8) (pa_cons (pv 5) pa_nil)))) pe_str (nomark _)) (pw_or1 (pt_cmpR op_ne (pe_calG (ok__law_told T (P := P) (w := w) (base := base)) gd (hr.mono (by decide)) (pa_cons (pv 6) (pa_cons (pv 5) (pa_cons (pv 8) pa_nil)))) pe_str (nomark _))))) (pss_one (ps_ret pe_bl)) pss_nil)))
    (pss_cons (ps_if (L2.PW.pt (pw_or (pt_cmpR op_ne (pe_calG (ok__law_told T (P := P) (w := w) (base := base)) gd (hr.mono (by decide)) (pa_cons pe_int (pa_cons (pv 8) (pa_cons (pe_tup (pa_cons pe_int (pa_cons pe_int pa_nil))) pa_nil)))) pe_str (nomark _)) (pw_or1 (pt_cmpR op_ne (pe_repr gd hu T.m_repr (pa_cons (pe_cal c1_number (hr.mono (by decide)) passL (pa_cons (pv 2) pa_nil)) pa_nil)) (pe_repr gd hu T.m_repr (pa_cons (pe_tup (pa_cons (pv 2) (pa_cons pe_int pa_nil))) pa_nil)) (nomark _))))) (pss_one (ps_ret pe_bl)) pss_nil)
    (pss_one (ps_ret (pe_callB (cr_all rfl) (by rfl) T.m_all (by decide +kernel) (pa_cons (pe_lc (own := [("way", 6)]) rfl sc_law.nd (pi_list (pe_lst (pa_cons pe_int (pa_cons pe_int (pa_cons pe_int pa_nil))))) (blkOk_by (N := ["script", "draws", "a", "b", "x", "y", "way", "factor", "wrong"]) (sc := defScope s_law) (by decide +kernel)) (fun _ _ _ _ _ => (pg_name (i := 6) sc_law.nd rfl (by first | exact Or.inl rfl | exact Or.inr rfl))) (fun _ _ _ _ _ => pts_nil) (fun _ _ _ _ _ => (pe_cmpR op_eq (pe_calG (ok__law_told T (P := P) (w := w) (base := base)) gd (hr.mono (by decide)) (pa_cons (pv 6) (pa_cons (pv 8) (pa_cons (pv 5) pa_nil)))) pe_str (nomark _)))) pa_nil))))))))))))))))))), ?_⟩
    -- draws
    refine ⟨.ref sc, rfl, sc, ns, rfl, hS, hlen, fun H1 l dH => ?_⟩
    obtain ⟨e1, nl, ds, hl, hd, _⟩ := dH
    refine ⟨.ref l, rfl, .inl ⟨rfl, _, .inl (.inl hl)⟩, l, _, rfl, rfl, hl, ?_⟩
    have dA : DrA l (upd H1 l (.lst (ds.map V.int).reverse)) := ⟨ds.reverse, by rw [upd_same, List.map_reverse], fun d h => hd d (List.mem_reverse.mp h)⟩
    generalize upd H1 l (.lst (ds.map V.int).reverse) = H2 at dA ⊢
    refine ⟨.ref l, rfl, l, rfl, dA, fun H3 a m3 ha => ?_⟩
    refine ⟨.ref l, rfl, l, rfl, m3.2, fun H4 b m4 hb => ?_⟩
    have ha1 : a.natAbs < 2 ^ 1000 := pow_up (Nat.lt_trans ha k36) (by decide)
    have hb1 : b.natAbs < 2 ^ 1000 := pow_up (Nat.lt_trans hb k36) (by decide)
    have dsh : Show1 (if b = 0 then errB else tup2 (nrm a b)) := by
      by_cases h0 : b = 0
      · rw [if_pos h0]
        exact show_errB
      · rw [if_neg h0]
        have hl := nrm_le (a := a) h0
        exact show_pair (Nat.lt_of_le_of_lt hl.1 ha1) (Nat.lt_of_le_of_lt hl.2 hb1)
    -- number
    refine ⟨_, rfl, _, rfl, 5, _, _, rfl, .inl ⟨rfl, a, b, rfl, rfl, pow_up hb1 (by decide), fun H5 v5 e5 d5 => ?_⟩⟩
    refine ⟨v5, _, rfl, d5, dsh, ?_⟩
    refine cut (te := tIf _ _ _) (fun v H' => Ex H5 H' ∧ Dp K H' v (if b = 0 then errB else tup2 (nrm a b))) (fun Q' q' => ?_) (fun v6 H6 ⟨e6, d6⟩ => ?_)
    · refine ⟨_, rfl, rfl, _, rfl, ite2 (fun z => ?_) (fun z => ?_)⟩
      · have z' : b = 0 := V.int.inj (of_decide_eq_true z)
        refine q' _ _ ⟨Ex.refl _, ?_⟩
        rw [if_pos z']
        exact .str _
      · have z' : b ≠ 0 := fun e => z (by rw [e]; rfl)
        refine ⟨_, rfl, _, rfl, a, b, rfl, pow_up ha1 (by decide), pow_up hb1 (by decide), z', fun H6 v6 e6 n6 => q' _ _ ⟨e6, ?_⟩⟩
        rw [if_neg z']
        exact dp_num n6
    refine ⟨v6, _, rfl, d6, dsh, rfl, _, rfl, ?_⟩
    rw [decide_eq_true rfl]
    refine iteF ?_
    have m6 : Mv l H2 H6 := (m3.trans m4).ex (e5.trans e6)
    -- is_number((a, b))
    refine ⟨_, rfl, _, rfl, (by show (2 : Nat) ≤ sizeLine; decide), fun p7 hp7 => ?_⟩
    refine ⟨.ref p7, a, b, rfl, ⟨p7, rfl, .inl (.inl upd_same)⟩, fun H7 e7 => ?_⟩
    refine ⟨_, .bool (decide (isN a b)), rfl, .bl _, show_bool _, ?_⟩
    refine cut (te := tAndV _ _) (fun v H' => Ex H7 H' ∧ v = .bl (decide (isN a b))) (fun Q' q' => ?_) ?_
    · refine ⟨_, rfl, _, _, rfl, rfl, _, rfl, ite2 (fun z => ?_) (fun z => ?_)⟩
      · have z' : 0 < b := of_decide_eq_true z
        refine ⟨_, rfl, _, rfl, a, b, rfl, pow_up ha1 (by decide), pow_up hb1 (by decide), rfl, q' _ _ ⟨Ex.refl _, ?_⟩⟩
        congr 1
        by_cases hg : a.natAbs.gcd b.natAbs = 1
        · rw [decide_eq_true (show isN a b from ⟨by omega, hg⟩), hg]
          rfl
        · rw [decide_eq_false (show ¬ isN a b from fun n => hg n.2)]
          exact decide_eq_false fun e => hg (by have := V.int.inj e; omega)
      · have z' : ¬ 0 < b := fun e => z (decide_eq_true e)
        refine q' _ _ ⟨Ex.refl _, ?_⟩
        rw [decide_eq_false (show ¬ isN a b from fun n => z' (by have := n.1; omega))]
    rintro v8 H8 ⟨e8, rfl⟩
    refine ⟨_, .bool (decide (isN a b)), rfl, .bl _, show_bool _, rfl, _, rfl, ?_⟩
    rw [decide_eq_true rfl]
    refine iteF ?_
    have m8 : Mv l H2 H8 := ((m6.ex (Ex.new hp7)).ex e7).ex e8
    -- x, y
    change Ends.nx _ _ _
    dsimp only
    refine seqA ?_
    refine ⟨.ref l, rfl, l, rfl, m8.2, fun H9 x xa xb m9 nx ix hxa hxb => ?_⟩
    refine seqA ?_
    refine ⟨.ref l, rfl, l, rfl, m9.2, fun H10 y ya yb m10 ny iy hya hyb => ?_⟩
    have nx := mv_num m9.2 m10 nx
    obtain ⟨px, rfl, hpx⟩ := nx
    have nx : Num K H10 (.ref px) xa xb := ⟨px, rfl, hpx⟩
    refine scut (fun σ' H' => ∃ v c d, σ' = [some (.ref sc), some (.ref l), some (.int a), some (.int b), some (.ref px), some v, none, none, none] ∧ DrA l H' ∧ Num K H' (.ref px) xa xb ∧ Num K H' v c d ∧ isN c d ∧ c.natAbs < 2 ^ 120 ∧ d.natAbs < 2 ^ 120) (fun n' q' => ?_) ?_
    · refine ⟨.ref l, rfl, l, rfl, m10.2, fun H11 d hd0 hd1 m11 => .inl ⟨_, rfl, _, _, rfl, rfl, (by show (0 : Int) < 5; decide), rfl, _, rfl, ite2 (fun _ => ?_) (fun _ => ?_)⟩⟩
      · have nx := mv_num m10.2 m11 nx
        have hpx := mv_t m10.2 m11 hpx
        refine ⟨_, rfl, px, _, 0, _, rfl, rfl, hpx, rfl, _, rfl, px, _, 1, _, rfl, rfl, hpx, rfl, (by show (2 : Nat) ≤ sizeLine; decide), fun p hp => q' _ _ ⟨.ref p, xa, xb, rfl, ?_, nx.mono (Ex.new hp), ⟨p, rfl, .inl (.inl upd_same)⟩, ix, hxa, hxb⟩⟩
        exact (m11.ex (Ex.new hp)).2
      · exact q' _ _ ⟨y, ya, yb, rfl, m11.2, mv_num m10.2 m11 nx, mv_num m10.2 m11 ny, iy, hya, hyb⟩
    clear ny iy hya hyb hpx
    rintro σ12 H12 ⟨y, ya, yb, rfl, dA12, nx, ny, iy, hya, hyb⟩
    have hb4 : xa.natAbs < 2 ^ 120 ∧ xb.natAbs < 2 ^ 120 ∧ ya.natAbs < 2 ^ 120 ∧ yb.natAbs < 2 ^ 120 := ⟨hxa, hxb, hya, hyb⟩
    have hxa3 : xa.natAbs < 2 ^ 3000 := pow_up hxa (by decide)
    have hxb3 : xb.natAbs < 2 ^ 3000 := pow_up hxb (by decide)
    have hya3 : ya.natAbs < 2 ^ 3000 := pow_up hya (by decide)
    have hyb3 : yb.natAbs < 2 ^ 3000 := pow_up hyb (by decide)
    -- the ways that are right
    refine ⟨(by show (7 : Nat) ≤ sizeLine; decide), fun p hp => ⟨p, rfl, ⟨_, SqL.of upd_same⟩, for_list (K := K) (a := p) (xs := [.int 0, .int 1, .int 2, .int 3, .int 4, .int 6, .int 7])
      (fun i σ H' => ∃ c6, σ = [some (.ref sc), some (.ref l), some (.int a), some (.int b), some (.ref px), some y, c6, none, none] ∧ Ex (upd H12 p (.lst [.int 0, .int 1, .int 2, .int 3, .int 4, .int 6, .int 7])) H')
      ⟨_, rfl, Ex.refl _⟩ (fun i σ H' _ ⟨_, _, e⟩ => ex_l e (SqL.of upd_same)) ?_ ?_⟩⟩
    · rintro i z σ H13 hi ⟨c6, rfl, e13⟩
      obtain ⟨way, rfl, hw⟩ : ∃ way : Int, z = .int way ∧ (way = 0 ∨ way = 1 ∨ way = 2 ∨ way = 3 ∨ way = 4 ∨ way = 6 ∨ way = 7) := by
        have := List.mem_of_getElem? hi
        simp only [List.mem_cons, List.not_mem_nil, or_false] at this
        rcases this with rfl | rfl | rfl | rfl | rfl | rfl | rfl <;> exact ⟨_, rfl, by decide⟩
      have e12 : Ex H12 H13 := (Ex.new hp).trans e13
      refine ⟨_, rfl, _, rfl, _, rfl, way, .ref px, y, rfl, .inr ⟨by omega, by omega, by omega, xa, xb, ya, yb, nx.mono e12, ny.mono e12, ⟨hxa3, hxb3, hya3, hyb3⟩, fun z => by omega, fun H14 v14 e14 d14 => ?_⟩⟩
      refine ⟨v14, _, rfl, d14, show_told hb4 ix iy, ?_⟩
      refine ⟨_, rfl, _, rfl, _, rfl, way, .ref px, y, xa, xb, ya, yb, rfl, hw, nx.mono (e12.trans e14), ny.mono (e12.trans e14), ix, iy, hb4, fun H15 v15 e15 d15 => ?_⟩
      refine ⟨v15, _, rfl, d15, show_told hb4 ix iy, rfl, _, rfl, ?_⟩
      rw [decide_eq_true rfl]
      refine iteF ?_
      exact ⟨_, rfl, (e13.trans e14).trans e15⟩
    rintro σ13 H13 ⟨c6, rfl, e13⟩
    have e12 : Ex H12 H13 := (Ex.new hp).trans e13
    have nx := nx.mono e12
    have ny := ny.mono e12
    have m13 : Mv l H12 H13 := .of dA12 e12
    -- factor, wrong
    dsimp only
    refine seqA ?_
    refine ⟨.ref l, rfl, l, rfl, m13.2, fun H14 f hf0 hf1 m14 => .inl ⟨_, rfl, _, _, rfl, rfl, (by show (0 : Int) < 5; decide), _, _, rfl, rfl, ?_⟩⟩
    have nx := mv_num m13.2 m14 nx
    have ny := mv_num m13.2 m14 ny
    have hf4 : (2 + f % 5 : Int).natAbs < 2 ^ 4 := by
      have : (2 : Nat) ^ 4 = 16 := by decide
      omega
    have hfac : (2 + f % 5 : Int).natAbs < 2 ^ 3000 := pow_up hf4 (by decide)
    refine acut (fun v H' => Mv l H14 H' ∧ ∃ c d, Num K H' v c d ∧ ¬ isN c d ∧ c.natAbs < 2 ^ 3000 ∧ d.natAbs < 2 ^ 3000) (fun Q' q' => ?_) ?_
    · have hpx : SqT K H14 px [.int xa, .int xb] := by
        obtain ⟨p0, e0, h0⟩ := nx
        cases e0
        exact h0
      have l2 : (2 : Nat) ≤ sizeLine := by decide
      refine ⟨_, rfl, px, _, 0, _, rfl, rfl, hpx, rfl, _, rfl, _, _, rfl, rfl, mul_ok hxa3 hfac, _, rfl, px, _, 1, _, rfl, rfl, hpx, rfl, _, rfl, _, _, rfl, rfl, mul_ok hxb3 hfac, l2, fun p1 h1 => ?_⟩
      have e1 := Ex.new (o := .tup [.int (xa * (2 + f % 5)), .int (xb * (2 + f % 5))]) h1
      have hpx1 := ex_t e1 hpx
      refine ⟨_, rfl, px, _, 0, _, rfl, rfl, hpx1, rfl, _, rfl, px, _, 1, _, rfl, rfl, hpx1, rfl, _, _, rfl, rfl, l2, fun p2 h2 => ?_⟩
      have e2 := Ex.new (o := .tup [.int xa, .int (0 - xb)]) h2
      refine ⟨l2, fun p3 h3 => ?_⟩
      have e3 := Ex.new (o := .tup [.int 1, .int 0]) h3
      refine ⟨l2, fun p4 h4 => ?_⟩
      have e4 := Ex.new (o := .tup [.int 0, .int 0]) h4
      refine ⟨l2, fun p5 h5 => ?_⟩
      have e5 := Ex.new (o := .tup [.int 0, .int 2]) h5
      refine ⟨(by show (5 : Nat) ≤ sizeLine; decide), fun p6 h6 => ?_⟩
      have e6 := Ex.new (o := .lst [.ref p1, .ref p2, .ref p3, .ref p4, .ref p5]) h6
      have k1 := e6 _ _ (e5 _ _ (e4 _ _ (e3 _ _ (e2 p1 _ upd_same))))
      have k2 := e6 _ _ (e5 _ _ (e4 _ _ (e3 p2 _ upd_same)))
      have k3 := e6 _ _ (e5 _ _ (e4 p3 _ upd_same))
      have k4 := e6 _ _ (e5 p4 _ upd_same)
      have k5 := e6 p5 _ upd_same
      have eA := ((((e1.trans e2).trans e3).trans e4).trans e5).trans e6
      have mA : Mv l H14 _ := .of m14.2 eA
      have nl6 : p6 ≠ l := by
        obtain ⟨ds, hl, _⟩ := m14.2
        exact (ne_of_none (((((e1.trans e2).trans e3).trans e4).trans e5) _ _ hl) h6).symm
      refine ⟨.ref l, rfl, l, rfl, mA.2, fun H16 g hg0 hg1 m16 => ?_⟩
      have hL : SqL K H16 p6 [.ref p1, .ref p2, .ref p3, .ref p4, .ref p5] := SqL.of (m16.1 _ _ nl6 upd_same)
      have t1 := mv_t (K := K) mA.2 m16 (SqT.of k1)
      have t2 := mv_t (K := K) mA.2 m16 (SqT.of k2)
      have t3 := mv_t (K := K) mA.2 m16 (SqT.of k3)
      have t4 := mv_t (K := K) mA.2 m16 (SqT.of k4)
      have t5 := mv_t (K := K) mA.2 m16 (SqT.of k5)
      have mB := mA.trans m16
      have small : ∀ {x : Int}, x.natAbs < 2 ^ 120 → (x * (2 + f % 5)).natAbs < 2 ^ 3000 := fun hx => pow_up (wide_lt hx hf4) (by decide)
      have hw : g % 5 = 0 ∨ g % 5 = 1 ∨ g % 5 = 2 ∨ g % 5 = 3 ∨ g % 5 = 4 := by omega
      have hb1 := ix.1
      have hxb0 : (0 - xb).natAbs < 2 ^ 3000 := by
        have e0 : (0 - xb).natAbs = xb.natAbs := by omega
        rw [e0]
        exact hxb3
      rcases hw with e | e | e | e | e
      · refine .inl ⟨_, rfl, _, _, rfl, rfl, (by show (0 : Int) < 5; decide), p6, _, g % 5, _, rfl, rfl, hL, (by rw [e]; rfl), q' _ _ ⟨mB, _, _, ⟨p1, rfl, t1⟩, fun n => ?_, small hxa, small hxb⟩⟩
        have := n.2
        rw [Int.gcd_mul_right, ix.2] at this
        omega
      · exact .inl ⟨_, rfl, _, _, rfl, rfl, (by show (0 : Int) < 5; decide), p6, _, g % 5, _, rfl, rfl, hL, (by rw [e]; rfl), q' _ _ ⟨mB, _, _, ⟨p2, rfl, t2⟩, fun n => (by have := n.1; omega), hxa3, hxb0⟩⟩
      · exact .inl ⟨_, rfl, _, _, rfl, rfl, (by show (0 : Int) < 5; decide), p6, _, g % 5, _, rfl, rfl, hL, (by rw [e]; rfl), q' _ _ ⟨mB, _, _, ⟨p3, rfl, t3⟩, by decide, pow_up (b := 3000) (a := 2) (by decide) (by decide), pow_up (b := 3000) (a := 2) (by decide) (by decide)⟩⟩
      · exact .inl ⟨_, rfl, _, _, rfl, rfl, (by show (0 : Int) < 5; decide), p6, _, g % 5, _, rfl, rfl, hL, (by rw [e]; rfl), q' _ _ ⟨mB, _, _, ⟨p4, rfl, t4⟩, by decide, pow_up (b := 3000) (a := 2) (by decide) (by decide), pow_up (b := 3000) (a := 2) (by decide) (by decide)⟩⟩
      · exact .inl ⟨_, rfl, _, _, rfl, rfl, (by show (0 : Int) < 5; decide), p6, _, g % 5, _, rfl, rfl, hL, (by rw [e]; rfl), q' _ _ ⟨mB, _, _, ⟨p5, rfl, t5⟩, by decide, pow_up (b := 3000) (a := 2) (by decide) (by decide), pow_up (b := 3000) (a := 2) (by decide) (by decide)⟩⟩
    rintro wr H15 ⟨m15, wa, wb, nw, iw, hwa, hwb⟩
    have nx := mv_num m14.2 m15 nx
    have ny := mv_num m14.2 m15 ny
    -- is_number of both
    refine ⟨_, rfl, wr, wa, wb, rfl, nw, fun H16 e16 => ⟨_, _, rfl, rfl, _, rfl, ?_⟩⟩
    rw [decide_eq_false iw, decide_eq_true rfl]
    refine iteF ⟨_, rfl, .ref px, xa, xb, rfl, nx.mono e16, fun H17 e17 => ⟨_, _, rfl, rfl, _, rfl, ?_⟩⟩
    rw [decide_eq_true ix, decide_eq_true rfl]
    refine iteF ?_
    have e15 := e16.trans e17
    have nx := nx.mono e15
    have ny := ny.mono e15
    have nw := nw.mono e15
    -- the wrong one, in both places
    refine ⟨5, rfl, by decide, by decide, for_range (lo := 0) (n := 5)
      (fun i σ H' => ∃ c6, σ = [some (.ref sc), some (.ref l), some (.int a), some (.int b), some (.ref px), some y, c6, some (.int (2 + f % 5)), some wr] ∧ Ex H17 H') ⟨_, rfl, Ex.refl _⟩ ?_ ?_⟩
    · rintro i σ H18 hi ⟨c6', rfl, e18⟩
      refine ⟨_, rfl, _, rfl, _, rfl, _, wr, y, rfl, .inr ⟨by omega, by omega, by omega, wa, wb, ya, yb, nw.mono e18, ny.mono e18, ⟨hwa, hwb, hya3, hyb3⟩, fun z => by omega, fun H19 v19 e19 d19 => ?_⟩⟩
      rw [told_wrong (by omega) (fun n => iw n.1)] at d19
      obtain rfl := dp_str d19
      refine ⟨rfl, _, rfl, ?_⟩
      rw [decide_eq_true rfl]
      refine iteF ⟨_, rfl, _, rfl, _, rfl, _, y, wr, rfl, .inr ⟨by omega, by omega, by omega, ya, yb, wa, wb, ny.mono (e18.trans e19), nw.mono (e18.trans e19), ⟨hya3, hyb3, hwa, hwb⟩, fun z => by omega, fun H20 v20 e20 d20 => ?_⟩⟩
      rw [told_wrong (by omega) (fun n => iw n.2)] at d20
      obtain rfl := dp_str d20
      refine ⟨rfl, _, rfl, ?_⟩
      rw [decide_eq_true rfl]
      refine iteF ?_
      exact ⟨_, rfl, (e18.trans e19).trans e20⟩
    rintro σ18 H18 ⟨c6', rfl, e18⟩
    have nx := nx.mono e18
    have ny := ny.mono e18
    have nw := nw.mono e18
    -- over (0, 1); number(a)
    refine ⟨_, rfl, (by show (2 : Nat) ≤ sizeLine; decide), fun p20 h20 => ?_⟩
    have e20 := Ex.new (o := .tup [.int 0, .int 1]) h20
    refine ⟨3, wr, .ref p20, rfl, .inr ⟨by decide, by decide, by decide, wa, wb, 0, 1, nw.mono e20, ⟨p20, rfl, SqT.of upd_same⟩, ⟨hwa, hwb, pow_up (b := 3000) (a := 2) (by decide) (by decide), pow_up (b := 3000) (a := 2) (by decide) (by decide)⟩, fun z => absurd z (by decide), fun H21 v21 e21 d21 => ?_⟩⟩
    rw [told_wrong (by decide) (fun n => iw n.1)] at d21
    obtain rfl := dp_str d21
    refine ⟨rfl, _, rfl, ?_⟩
    rw [decide_eq_true rfl]
    have one3 : (1 : Int).natAbs < 2 ^ 1000 := pow_up (a := 2) (by decide) (by decide)
    refine iteF ⟨_, rfl, a, 1, rfl, pow_up (a := 2) (by decide) (by decide), fun z => absurd z (by decide), fun _ H22 v22 e22 n22 => ?_⟩
    rw [nrm_one] at n22
    refine ⟨v22, tup2 (a, 1), rfl, dp_num n22, show_pair ha1 one3, ?_⟩
    refine ⟨_, rfl, (by show (2 : Nat) ≤ sizeLine; decide), fun p23 h23 => ?_⟩
    have e23 := Ex.new (o := .tup [.int a, .int 1]) h23
    refine ⟨.ref p23, tup2 (a, 1), rfl, dp_num ⟨p23, rfl, SqT.of upd_same⟩, show_pair ha1 one3, rfl, _, rfl, ?_⟩
    rw [decide_eq_true rfl]
    refine iteF ?_
    have e24 := ((e20.trans e21).trans e22).trans e23
    have ny := ny.mono e24
    have nw := nw.mono e24
    -- all(..)
    refine ⟨(by show (3 : Nat) ≤ sizeLine; decide), fun p hp => ⟨p, rfl, ⟨_, SqL.of upd_same⟩, fun D hD => lc_list (K := K) (a := p) (xs := [.int 6, .int 7, .int 8])
      (fun i H' => Ex (upd _ p (.lst [.int 6, .int 7, .int 8])) H' ∧ H' D = some (.lst (List.replicate i (V.bl true)))) ⟨Ex.new hD, upd_same⟩ (fun i H' _ h => ex_l h.1 (SqL.of upd_same)) ?_ ?_⟩⟩
    · rintro i z H25 hi ⟨e25, hD25⟩
      obtain ⟨way, rfl, hw⟩ : ∃ way : Int, z = .int way ∧ (way = 6 ∨ way = 7 ∨ way = 8) := by
        have := List.mem_of_getElem? hi
        simp only [List.mem_cons, List.not_mem_nil, or_false] at this
        rcases this with rfl | rfl | rfl <;> exact ⟨_, rfl, by decide⟩
      have hi3 : i < 3 := (List.getElem?_eq_some_iff.mp hi).1
      have eF := (Ex.new (o := .lst [.int 6, .int 7, .int 8]) hp).trans e25
      refine ⟨rfl, ?_⟩
      refine ⟨_, rfl, _, rfl, _, rfl, way, wr, y, rfl, .inr ⟨by omega, by omega, by omega, wa, wb, ya, yb, nw.mono eF, ny.mono eF, ⟨hwa, hwb, hya3, hyb3⟩, fun _ => iw, fun H26 v26 e26 d26 => ?_⟩⟩
      rw [told_wrong1 (by omega) iw] at d26
      obtain rfl := dp_str d26
      refine ⟨rfl, _, e26 _ _ hD25, ?_, (e25.trans e26).mut hD, ?_⟩
      · rw [List.length_replicate]
        exact Nat.lt_of_lt_of_le hi3 (by decide)
      · rw [upd_same, List.replicate_succ', decide_eq_true rfl]
    · rintro H25 ⟨e25, hD25⟩
      exact ⟨D, [true, true, true], rfl, SqL.of hD25, q _⟩
end
theorem all_mk {l : PySem.W.OpenLaw} {w : World} {K : PySem.W.Frag} {h : Heap} {mg : Str → Option Value} {fa q2 q3 q4 q5 q8 q9 q10 q11 q12 q13 q14 q15 q16 q17 q19 q21 q22 q23 q24 q25 q26 q27 q28 q29 q30 : Addr} (X : K.In h) (G : h.Ns mainGlobals mg) (hfa : mg "law" = some (.ref fa))
  {oc8 kV8 dc8 pm8 cd8 ct8 : Value} {od8 an8 : Option Addr} {sl8 : Array (Option Value)}
  {oc9 kV9 dc9 pm9 cd9 ct9 : Value} {od9 an9 : Option Addr} {sl9 : Array (Option Value)}
  {oc10 kV10 dc10 pm10 cd10 ct10 : Value} {od10 an10 : Option Addr} {sl10 : Array (Option Value)}
  {T10 : Addr} {nT10 : Nat} {u10 : Tok}
  {oc11 kV11 dc11 pm11 cd11 ct11 : Value} {od11 an11 : Option Addr} {sl11 : Array (Option Value)}
  {oc12 kV12 dc12 pm12 cd12 ct12 : Value} {od12 an12 : Option Addr} {sl12 : Array (Option Value)}
  {oc13 kV13 dc13 pm13 cd13 ct13 : Value} {od13 an13 : Option Addr} {sl13 : Array (Option Value)}
  {oc14 kV14 dc14 pm14 cd14 ct14 : Value} {od14 an14 : Option Addr} {sl14 : Array (Option Value)}
  {oc15 kV15 dc15 pm15 cd15 ct15 : Value} {od15 an15 : Option Addr} {sl15 : Array (Option Value)}
  {oc16 kV16 dc16 pm16 cd16 ct16 : Value} {od16 an16 : Option Addr} {sl16 : Array (Option Value)}
  {oc17 kV17 dc17 pm17 cd17 ct17 : Value} {od17 an17 : Option Addr} {sl17 : Array (Option Value)}
  {oc19 kV19 dc19 pm19 cd19 ct19 : Value} {od19 an19 : Option Addr} {sl19 : Array (Option Value)}
  {oc21 kV21 dc21 pm21 cd21 ct21 : Value} {od21 an21 : Option Addr} {sl21 : Array (Option Value)}
  {oc22 kV22 dc22 pm22 cd22 ct22 : Value} {od22 an22 : Option Addr} {sl22 : Array (Option Value)}
  {oc23 kV23 dc23 pm23 cd23 ct23 : Value} {od23 an23 : Option Addr} {sl23 : Array (Option Value)}
  {oc24 kV24 dc24 pm24 cd24 ct24 : Value} {od24 an24 : Option Addr} {sl24 : Array (Option Value)}
  {oc25 kV25 dc25 pm25 cd25 ct25 : Value} {od25 an25 : Option Addr} {sl25 : Array (Option Value)}
  {oc26 kV26 dc26 pm26 cd26 ct26 : Value} {od26 an26 : Option Addr} {sl26 : Array (Option Value)}
  {oc27 kV27 dc27 pm27 cd27 ct27 : Value} {od27 an27 : Option Addr} {sl27 : Array (Option Value)}
  {oc28 kV28 dc28 pm28 cd28 ct28 : Value} {od28 an28 : Option Addr} {sl28 : Array (Option Value)}
  {oc29 kV29 dc29 pm29 cd29 ct29 : Value} {od29 an29 : Option Addr} {sl29 : Array (Option Value)}
  {oc30 kV30 dc30 pm30 cd30 ct30 : Value} {od30 an30 : Option Addr} {sl30 : Array (Option Value)}
  (a8 : PySem.W.nsIn K mainGlobals "is_number" = some (some (.ref q8)))
  (l8 : K.lookup q8 = some ⟨oc8, od8, .func (PySem.W.fnOf "is_number" "is_number" (defArgs s_is_number) (defBody s_is_number) (defScope s_is_number) .none kV8 dc8 pm8 an8 cd8 ct8), sl8⟩)
  (c8 : PySem.W.codeIn K cd8 "is_number" = true)
  (k8 : PySem.W.keepIn K (.ref q8) = true)
  (a9 : PySem.W.nsIn K mainGlobals "check_number" = some (some (.ref q9)))
  (l9 : K.lookup q9 = some ⟨oc9, od9, .func (PySem.W.fnOf "check_number" "check_number" (defArgs s_check_number) (defBody s_check_number) (defScope s_check_number) .none kV9 dc9 pm9 an9 cd9 ct9), sl9⟩)
  (c9 : PySem.W.codeIn K cd9 "check_number" = true)
  (k9 : PySem.W.keepIn K (.ref q9) = true)
  (a10 : PySem.W.nsIn K mainGlobals "number" = some (some (.ref q10)))
  (l10 : K.lookup q10 = some ⟨oc10, od10, .func (PySem.W.fnOf "number" "number" (defArgs s_number) (defBody s_number) (defScope s_number) (.ref T10) kV10 dc10 pm10 an10 cd10 ct10), sl10⟩)
  (c10 : PySem.W.codeIn K cd10 "number" = true)
  (k10 : PySem.W.keepIn K (.ref q10) = true)
  (t10 : K.lookup T10 = some ⟨.type "tuple", none, .seq [(Value.int 1 u10)].toArray nT10, #[]⟩)
  (a11 : PySem.W.nsIn K mainGlobals "plus" = some (some (.ref q11)))
  (l11 : K.lookup q11 = some ⟨oc11, od11, .func (PySem.W.fnOf "plus" "plus" (defArgs s_plus) (defBody s_plus) (defScope s_plus) .none kV11 dc11 pm11 an11 cd11 ct11), sl11⟩)
  (c11 : PySem.W.codeIn K cd11 "plus" = true)
  (k11 : PySem.W.keepIn K (.ref q11) = true)
  (a12 : PySem.W.nsIn K mainGlobals "minus" = some (some (.ref q12)))
  (l12 : K.lookup q12 = some ⟨oc12, od12, .func (PySem.W.fnOf "minus" "minus" (defArgs s_minus) (defBody s_minus) (defScope s_minus) .none kV12 dc12 pm12 an12 cd12 ct12), sl12⟩)
  (c12 : PySem.W.codeIn K cd12 "minus" = true)
  (k12 : PySem.W.keepIn K (.ref q12) = true)
  (a13 : PySem.W.nsIn K mainGlobals "times" = some (some (.ref q13)))
  (l13 : K.lookup q13 = some ⟨oc13, od13, .func (PySem.W.fnOf "times" "times" (defArgs s_times) (defBody s_times) (defScope s_times) .none kV13 dc13 pm13 an13 cd13 ct13), sl13⟩)
  (c13 : PySem.W.codeIn K cd13 "times" = true)
  (k13 : PySem.W.keepIn K (.ref q13) = true)
  (a14 : PySem.W.nsIn K mainGlobals "over" = some (some (.ref q14)))
  (l14 : K.lookup q14 = some ⟨oc14, od14, .func (PySem.W.fnOf "over" "over" (defArgs s_over) (defBody s_over) (defScope s_over) .none kV14 dc14 pm14 an14 cd14 ct14), sl14⟩)
  (c14 : PySem.W.codeIn K cd14 "over" = true)
  (k14 : PySem.W.keepIn K (.ref q14) = true)
  (a15 : PySem.W.nsIn K mainGlobals "whole_sign" = some (some (.ref q15)))
  (l15 : K.lookup q15 = some ⟨oc15, od15, .func (PySem.W.fnOf "whole_sign" "whole_sign" (defArgs s_whole_sign) (defBody s_whole_sign) (defScope s_whole_sign) .none kV15 dc15 pm15 an15 cd15 ct15), sl15⟩)
  (c15 : PySem.W.codeIn K cd15 "whole_sign" = true)
  (k15 : PySem.W.keepIn K (.ref q15) = true)
  (a16 : PySem.W.nsIn K mainGlobals "sign" = some (some (.ref q16)))
  (l16 : K.lookup q16 = some ⟨oc16, od16, .func (PySem.W.fnOf "sign" "sign" (defArgs s_sign) (defBody s_sign) (defScope s_sign) .none kV16 dc16 pm16 an16 cd16 ct16), sl16⟩)
  (c16 : PySem.W.codeIn K cd16 "sign" = true)
  (k16 : PySem.W.keepIn K (.ref q16) = true)
  (a17 : PySem.W.nsIn K mainGlobals "is_less" = some (some (.ref q17)))
  (l17 : K.lookup q17 = some ⟨oc17, od17, .func (PySem.W.fnOf "is_less" "is_less" (defArgs s_is_less) (defBody s_is_less) (defScope s_is_less) .none kV17 dc17 pm17 an17 cd17 ct17), sl17⟩)
  (c17 : PySem.W.codeIn K cd17 "is_less" = true)
  (k17 : PySem.W.keepIn K (.ref q17) = true)
  (a19 : PySem.W.nsIn K mainGlobals "number_text" = some (some (.ref q19)))
  (l19 : K.lookup q19 = some ⟨oc19, od19, .func (PySem.W.fnOf "number_text" "number_text" (defArgs s_number_text) (defBody s_number_text) (defScope s_number_text) .none kV19 dc19 pm19 an19 cd19 ct19), sl19⟩)
  (c19 : PySem.W.codeIn K cd19 "number_text" = true)
  (k19 : PySem.W.keepIn K (.ref q19) = true)
  (a21 : PySem.W.nsIn K mainGlobals "_law_number" = some (some (.ref q21)))
  (l21 : K.lookup q21 = some ⟨oc21, od21, .func (PySem.W.fnOf "_law_number" "_law_number" (defArgs s__law_number) (defBody s__law_number) (defScope s__law_number) .none kV21 dc21 pm21 an21 cd21 ct21), sl21⟩)
  (c21 : PySem.W.codeIn K cd21 "_law_number" = true)
  (k21 : PySem.W.keepIn K (.ref q21) = true)
  (a22 : PySem.W.nsIn K mainGlobals "_law_draws" = some (some (.ref q22)))
  (l22 : K.lookup q22 = some ⟨oc22, od22, .func (PySem.W.fnOf "_law_draws" "_law_draws" (defArgs s__law_draws) (defBody s__law_draws) (defScope s__law_draws) .none kV22 dc22 pm22 an22 cd22 ct22), sl22⟩)
  (c22 : PySem.W.codeIn K cd22 "_law_draws" = true)
  (k22 : PySem.W.keepIn K (.ref q22) = true)
  (a23 : PySem.W.nsIn K mainGlobals "_law_next" = some (some (.ref q23)))
  (l23 : K.lookup q23 = some ⟨oc23, od23, .func (PySem.W.fnOf "_law_next" "_law_next" (defArgs s__law_next) (defBody s__law_next) (defScope s__law_next) .none kV23 dc23 pm23 an23 cd23 ct23), sl23⟩)
  (c23 : PySem.W.codeIn K cd23 "_law_next" = true)
  (k23 : PySem.W.keepIn K (.ref q23) = true)
  (a24 : PySem.W.nsIn K mainGlobals "_law_divisor" = some (some (.ref q24)))
  (l24 : K.lookup q24 = some ⟨oc24, od24, .func (PySem.W.fnOf "_law_divisor" "_law_divisor" (defArgs s__law_divisor) (defBody s__law_divisor) (defScope s__law_divisor) .none kV24 dc24 pm24 an24 cd24 ct24), sl24⟩)
  (c24 : PySem.W.codeIn K cd24 "_law_divisor" = true)
  (k24 : PySem.W.keepIn K (.ref q24) = true)
  (a25 : PySem.W.nsIn K mainGlobals "_law_lowest" = some (some (.ref q25)))
  (l25 : K.lookup q25 = some ⟨oc25, od25, .func (PySem.W.fnOf "_law_lowest" "_law_lowest" (defArgs s__law_lowest) (defBody s__law_lowest) (defScope s__law_lowest) .none kV25 dc25 pm25 an25 cd25 ct25), sl25⟩)
  (c25 : PySem.W.codeIn K cd25 "_law_lowest" = true)
  (k25 : PySem.W.keepIn K (.ref q25) = true)
  (a26 : PySem.W.nsIn K mainGlobals "_law_integer" = some (some (.ref q26)))
  (l26 : K.lookup q26 = some ⟨oc26, od26, .func (PySem.W.fnOf "_law_integer" "_law_integer" (defArgs s__law_integer) (defBody s__law_integer) (defScope s__law_integer) .none kV26 dc26 pm26 an26 cd26 ct26), sl26⟩)
  (c26 : PySem.W.codeIn K cd26 "_law_integer" = true)
  (k26 : PySem.W.keepIn K (.ref q26) = true)
  (a27 : PySem.W.nsIn K mainGlobals "_law_pair" = some (some (.ref q27)))
  (l27 : K.lookup q27 = some ⟨oc27, od27, .func (PySem.W.fnOf "_law_pair" "_law_pair" (defArgs s__law_pair) (defBody s__law_pair) (defScope s__law_pair) .none kV27 dc27 pm27 an27 cd27 ct27), sl27⟩)
  (c27 : PySem.W.codeIn K cd27 "_law_pair" = true)
  (k27 : PySem.W.keepIn K (.ref q27) = true)
  (a28 : PySem.W.nsIn K mainGlobals "_law_told" = some (some (.ref q28)))
  (l28 : K.lookup q28 = some ⟨oc28, od28, .func (PySem.W.fnOf "_law_told" "_law_told" (defArgs s__law_told) (defBody s__law_told) (defScope s__law_told) .none kV28 dc28 pm28 an28 cd28 ct28), sl28⟩)
  (c28 : PySem.W.codeIn K cd28 "_law_told" = true)
  (k28 : PySem.W.keepIn K (.ref q28) = true)
  (a29 : PySem.W.nsIn K mainGlobals "_law_due" = some (some (.ref q29)))
  (l29 : K.lookup q29 = some ⟨oc29, od29, .func (PySem.W.fnOf "_law_due" "_law_due" (defArgs s__law_due) (defBody s__law_due) (defScope s__law_due) .none kV29 dc29 pm29 an29 cd29 ct29), sl29⟩)
  (c29 : PySem.W.codeIn K cd29 "_law_due" = true)
  (k29 : PySem.W.keepIn K (.ref q29) = true)
  (a30 : PySem.W.nsIn K mainGlobals "law" = some (some (.ref q30)))
  (l30 : K.lookup q30 = some ⟨oc30, od30, .func (PySem.W.fnOf "law" "law" (defArgs s_law) (defBody s_law) (defScope s_law) .none kV30 dc30 pm30 an30 cd30 ct30), sl30⟩)
  (c30 : PySem.W.codeIn K cd30 "law" = true)
  (k30 : PySem.W.keepIn K (.ref q30) = true)
  (m_str : PySem.W.nsIn K mainGlobals "str" = some none)
  (m_abs : PySem.W.nsIn K mainGlobals "abs" = some none)
  (m_range : PySem.W.nsIn K mainGlobals "range" = some none)
  (m_int : PySem.W.nsIn K mainGlobals "int" = some none)
  (m_isinstance : PySem.W.nsIn K mainGlobals "isinstance" = some none)
  (m_all : PySem.W.nsIn K mainGlobals "all" = some none)
  (m_repr : PySem.W.nsIn K mainGlobals "repr" = some none)
  (b_gcd : PySem.W.nsIn K mainGlobals "gcd" = some (some (.builtin "math.gcd")))
  (a2 : PySem.W.nsIn K mainGlobals "PlaneError" = some (some (.ref q2)))
  (a3 : PySem.W.nsIn K mainGlobals "NotNumber" = some (some (.ref q3)))
  (x3 : PySem.W.excIn K q3 [.type "ValueError", .type "Exception", .type "BaseException", .type "object"] "ValueError.__new__" = true)
  (k3 : PySem.W.keepIn K (.ref q3) = true)
  (s3 : PySem.W.subIn K (.ref q3) (.type "BaseException") = some true)
  (t3 : PySem.W.typeIn K (.ref q3) = some (.type "type"))
  (a4 : PySem.W.nsIn K mainGlobals "BadNumber" = some (some (.ref q4)))
  (x4 : PySem.W.excIn K q4 [.type "ValueError", .type "Exception", .type "BaseException", .type "object"] "ValueError.__new__" = true)
  (k4 : PySem.W.keepIn K (.ref q4) = true)
  (s4 : PySem.W.subIn K (.ref q4) (.type "BaseException") = some true)
  (t4 : PySem.W.typeIn K (.ref q4) = some (.type "type"))
  (a5 : PySem.W.nsIn K mainGlobals "TooLarge" = some (some (.ref q5)))
  (s2 : PySem.W.subIn K (.ref q2) (.type "BaseException") = some true)
  (t2 : PySem.W.typeIn K (.ref q2) = some (.type "type"))
  (h2 : PySem.W.hasDictIn K q2 = true)
  (e3_2 : PySem.W.subIn K (.ref q3) (.ref q2) = some true)
  (e4_2 : PySem.W.subIn K (.ref q4) (.ref q2) = some true)
  (cn : PySem.W.specialIn K (.builtin "object.__class__") "__get__" = some (some (.builtin "getset_descriptor.__get__")))
  (ct : PySem.W.takesIn K (.builtin "object.__class__") = some true)
  (cg3 : PySem.W.findIn K (.ref q3) "__getattribute__" = some (some (.builtin "BaseException.__getattribute__")))
  (ck3 : PySem.W.findIn K (.ref q3) "__getattr__" = some none)
  (cd3 : PySem.W.hasDictIn K q3 = true)
  (ca3 : PySem.W.findIn K (.ref q3) "__class__" = some (some (.builtin "object.__class__")))
  (cm3 : PySem.W.mroIn K q3 (.type "object") = some true)
  (cg4 : PySem.W.findIn K (.ref q4) "__getattribute__" = some (some (.builtin "BaseException.__getattribute__")))
  (ck4 : PySem.W.findIn K (.ref q4) "__getattr__" = some none)
  (cd4 : PySem.W.hasDictIn K q4 = true)
  (ca4 : PySem.W.findIn K (.ref q4) "__class__" = some (some (.builtin "object.__class__")))
  (cm4 : PySem.W.mroIn K q4 (.type "object") = some true)
  (i3_3 : PySem.W.kitOne K (.ref q3) (.ref q3) = some true)
  (i3_4 : PySem.W.kitOne K (.ref q3) (.ref q4) = some false)
  (i4_4 : PySem.W.kitOne K (.ref q4) (.ref q4) = some true)
  (i4_3 : PySem.W.kitOne K (.ref q4) (.ref q3) = some false) :
  ∃ fd : FuncData, (∀ (s : Shared) (v : Value), BindsTo s fd ⟨[v], []⟩ [("script", v)]) ∧ ∀ base : Heap, K.In base → base.Ns mainGlobals mg → FnG l.prog w K mg base CX0 5 fa fd ["script"] (sp_law K) := by
  have e := hfa.symm.trans (PySem.W.mg_of X G a30)
  cases e
  have T : Txt K mg (fun i => match i with | 2 => q2 | 3 => q3 | 4 => q4 | 5 => q5 | 8 => q8 | 9 => q9 | 10 => q10 | 11 => q11 | 12 => q12 | 13 => q13 | 14 => q14 | 15 => q15 | 16 => q16 | 17 => q17 | 19 => q19 | 21 => q21 | 22 => q22 | 23 => q23 | 24 => q24 | 25 => q25 | 26 => q26 | 27 => q27 | 28 => q28 | 29 => q29 | 30 => fa | _ => 0) (fun i => match i with | 8 => (PySem.W.fnOf "is_number" "is_number" (defArgs s_is_number) (defBody s_is_number) (defScope s_is_number) .none kV8 dc8 pm8 an8 cd8 ct8) | 9 => (PySem.W.fnOf "check_number" "check_number" (defArgs s_check_number) (defBody s_check_number) (defScope s_check_number) .none kV9 dc9 pm9 an9 cd9 ct9) | 10 => (PySem.W.fnOf "number" "number" (defArgs s_number) (defBody s_number) (defScope s_number) (.ref T10) kV10 dc10 pm10 an10 cd10 ct10) | 11 => (PySem.W.fnOf "plus" "plus" (defArgs s_plus) (defBody s_plus) (defScope s_plus) .none kV11 dc11 pm11 an11 cd11 ct11) | 12 => (PySem.W.fnOf "minus" "minus" (defArgs s_minus) (defBody s_minus) (defScope s_minus) .none kV12 dc12 pm12 an12 cd12 ct12) | 13 => (PySem.W.fnOf "times" "times" (defArgs s_times) (defBody s_times) (defScope s_times) .none kV13 dc13 pm13 an13 cd13 ct13) | 14 => (PySem.W.fnOf "over" "over" (defArgs s_over) (defBody s_over) (defScope s_over) .none kV14 dc14 pm14 an14 cd14 ct14) | 15 => (PySem.W.fnOf "whole_sign" "whole_sign" (defArgs s_whole_sign) (defBody s_whole_sign) (defScope s_whole_sign) .none kV15 dc15 pm15 an15 cd15 ct15) | 16 => (PySem.W.fnOf "sign" "sign" (defArgs s_sign) (defBody s_sign) (defScope s_sign) .none kV16 dc16 pm16 an16 cd16 ct16) | 17 => (PySem.W.fnOf "is_less" "is_less" (defArgs s_is_less) (defBody s_is_less) (defScope s_is_less) .none kV17 dc17 pm17 an17 cd17 ct17) | 19 => (PySem.W.fnOf "number_text" "number_text" (defArgs s_number_text) (defBody s_number_text) (defScope s_number_text) .none kV19 dc19 pm19 an19 cd19 ct19) | 21 => (PySem.W.fnOf "_law_number" "_law_number" (defArgs s__law_number) (defBody s__law_number) (defScope s__law_number) .none kV21 dc21 pm21 an21 cd21 ct21) | 22 => (PySem.W.fnOf "_law_draws" "_law_draws" (defArgs s__law_draws) (defBody s__law_draws) (defScope s__law_draws) .none kV22 dc22 pm22 an22 cd22 ct22) | 23 => (PySem.W.fnOf "_law_next" "_law_next" (defArgs s__law_next) (defBody s__law_next) (defScope s__law_next) .none kV23 dc23 pm23 an23 cd23 ct23) | 24 => (PySem.W.fnOf "_law_divisor" "_law_divisor" (defArgs s__law_divisor) (defBody s__law_divisor) (defScope s__law_divisor) .none kV24 dc24 pm24 an24 cd24 ct24) | 25 => (PySem.W.fnOf "_law_lowest" "_law_lowest" (defArgs s__law_lowest) (defBody s__law_lowest) (defScope s__law_lowest) .none kV25 dc25 pm25 an25 cd25 ct25) | 26 => (PySem.W.fnOf "_law_integer" "_law_integer" (defArgs s__law_integer) (defBody s__law_integer) (defScope s__law_integer) .none kV26 dc26 pm26 an26 cd26 ct26) | 27 => (PySem.W.fnOf "_law_pair" "_law_pair" (defArgs s__law_pair) (defBody s__law_pair) (defScope s__law_pair) .none kV27 dc27 pm27 an27 cd27 ct27) | 28 => (PySem.W.fnOf "_law_told" "_law_told" (defArgs s__law_told) (defBody s__law_told) (defScope s__law_told) .none kV28 dc28 pm28 an28 cd28 ct28) | 29 => (PySem.W.fnOf "_law_due" "_law_due" (defArgs s__law_due) (defBody s__law_due) (defScope s__law_due) .none kV29 dc29 pm29 an29 cd29 ct29) | 30 => (PySem.W.fnOf "law" "law" (defArgs s_law) (defBody s_law) (defScope s_law) .none kV30 dc30 pm30 an30 cd30 ct30) | _ => (PySem.W.fnOf "is_number" "is_number" (defArgs s_is_number) (defBody s_is_number) (defScope s_is_number) .none kV8 dc8 pm8 an8 cd8 ct8)) :=
    { f_is_number := fun_mk (st := s_is_number) l8 c8 k8
      g_is_number := PySem.W.mg_of X G a8
      f_check_number := fun_mk (st := s_check_number) l9 c9 k9
      g_check_number := PySem.W.mg_of X G a9
      f_number := ⟨⟨_, _, _, _, _, _, _, _, _, _, rfl, l10, c10, .inr ⟨by simp, T10, _, _, _, rfl, t10, rfl, (.cons ⟨_, rfl⟩ .nil)⟩, .inl rfl⟩, k10⟩
      g_number := PySem.W.mg_of X G a10
      f_plus := fun_mk (st := s_plus) l11 c11 k11
      g_plus := PySem.W.mg_of X G a11
      f_minus := fun_mk (st := s_minus) l12 c12 k12
      g_minus := PySem.W.mg_of X G a12
      f_times := fun_mk (st := s_times) l13 c13 k13
      g_times := PySem.W.mg_of X G a13
      f_over := fun_mk (st := s_over) l14 c14 k14
      g_over := PySem.W.mg_of X G a14
      f_whole_sign := fun_mk (st := s_whole_sign) l15 c15 k15
      g_whole_sign := PySem.W.mg_of X G a15
      f_sign := fun_mk (st := s_sign) l16 c16 k16
      g_sign := PySem.W.mg_of X G a16
      f_is_less := fun_mk (st := s_is_less) l17 c17 k17
      g_is_less := PySem.W.mg_of X G a17
      f_number_text := fun_mk (st := s_number_text) l19 c19 k19
      g_number_text := PySem.W.mg_of X G a19
      f__law_number := fun_mk (st := s__law_number) l21 c21 k21
      g__law_number := PySem.W.mg_of X G a21
      f__law_draws := fun_mk (st := s__law_draws) l22 c22 k22
      g__law_draws := PySem.W.mg_of X G a22
      f__law_next := fun_mk (st := s__law_next) l23 c23 k23
      g__law_next := PySem.W.mg_of X G a23
      f__law_divisor := fun_mk (st := s__law_divisor) l24 c24 k24
      g__law_divisor := PySem.W.mg_of X G a24
      f__law_lowest := fun_mk (st := s__law_lowest) l25 c25 k25
      g__law_lowest := PySem.W.mg_of X G a25
      f__law_integer := fun_mk (st := s__law_integer) l26 c26 k26
      g__law_integer := PySem.W.mg_of X G a26
      f__law_pair := fun_mk (st := s__law_pair) l27 c27 k27
      g__law_pair := PySem.W.mg_of X G a27
      f__law_told := fun_mk (st := s__law_told) l28 c28 k28
      g__law_told := PySem.W.mg_of X G a28
      f__law_due := fun_mk (st := s__law_due) l29 c29 k29
      g__law_due := PySem.W.mg_of X G a29
      f_law := fun_mk (st := s_law) l30 c30 k30
      g_law := PySem.W.mg_of X G a30
      m_str := PySem.W.mg_none_of X G m_str
      m_abs := PySem.W.mg_none_of X G m_abs
      m_range := PySem.W.mg_none_of X G m_range
      m_int := PySem.W.mg_none_of X G m_int
      m_isinstance := PySem.W.mg_none_of X G m_isinstance
      m_all := PySem.W.mg_none_of X G m_all
      m_repr := PySem.W.mg_none_of X G m_repr
      g_gcd := PySem.W.mg_of X G b_gcd
      g_PlaneError := PySem.W.mg_of X G a2
      g_NotNumber := PySem.W.mg_of X G a3
      x_NotNumber := x3
      k_NotNumber := k3
      s_NotNumber := s3
      t_NotNumber := t3
      g_BadNumber := PySem.W.mg_of X G a4
      x_BadNumber := x4
      k_BadNumber := k4
      s_BadNumber := s4
      t_BadNumber := t4
      g_TooLarge := PySem.W.mg_of X G a5
      e_NotNumber_PlaneError := PySem.W.exm_ref s2 h2 t2 e3_2
      e_BadNumber_PlaneError := PySem.W.exm_ref s2 h2 t2 e4_2
      c_NotNumber := ⟨cg3, ck3, s3, cd3, ca3, cn, ct, cm3⟩
      c_BadNumber := ⟨cg4, ck4, s4, cd4, ca4, cn, ct, cm4⟩
      i_NotNumber_NotNumber := i3_3
      i_NotNumber_BadNumber := i3_4
      i_BadNumber_BadNumber := i4_4
      i_BadNumber_NotNumber := i4_3 }
  exact ⟨(PySem.W.fnOf "law" "law" (defArgs s_law) (defBody s_law) (defScope s_law) .none kV30 dc30 pm30 an30 cd30 ct30), fun s v => .of_eq rfl, fun base _ _ => (ok_law T).ok⟩
end PW
open PySem PySem.W PyProof.Rows
set_option maxHeartbeats 0 in
theorem PySem.Challenge.cw_planeworth_k00_numbers_holds : PySem.Challenge.rw_planeworth_k00_numbers.Holds := by
  w_on; o_law; k_head; (case hw => w_witness2)
  k_fill
  refine PW.walk_ofGK (l := PySem.Challenge.rw_planeworth_k00_numbers) (n := 63) (k := 5) (x := "script") (sp := PW.sp_law) rfl (by decide) rfl ⟨rfl, by decide, by decide⟩ (fun w h Y => PySem.W.kIn_of Y) ?F ?good
  case good =>
    intro K H a ns hl hS
    exact ⟨a, ns, rfl, hS, hl, fun _ => rfl⟩
  case F =>
    intro w mg fa h KX G hmg
    refine' PW.all_mk KX G hmg ?a8 ?l8 ?c8 ?k8 ?a9 ?l9 ?c9 ?k9 ?a10 ?l10 ?c10 ?k10 ?t10 ?a11 ?l11 ?c11 ?k11 ?a12 ?l12 ?c12 ?k12 ?a13 ?l13 ?c13 ?k13 ?a14 ?l14 ?c14 ?k14 ?a15 ?l15 ?c15 ?k15 ?a16 ?l16 ?c16 ?k16 ?a17 ?l17 ?c17 ?k17 ?a19 ?l19 ?c19 ?k19 ?a21 ?l21 ?c21 ?k21 ?a22 ?l22 ?c22 ?k22 ?a23 ?l23 ?c23 ?k23 ?a24 ?l24 ?c24 ?k24 ?a25 ?l25 ?c25 ?k25 ?a26 ?l26 ?c26 ?k26 ?a27 ?l27 ?c27 ?k27 ?a28 ?l28 ?c28 ?k28 ?a29 ?l29 ?c29 ?k29 ?a30 ?l30 ?c30 ?k30 ?m_str ?m_abs ?m_range ?m_int ?m_isinstance ?m_all ?m_repr ?b_gcd ?a2 ?a3 ?x3 ?k3 ?s3 ?t3 ?a4 ?x4 ?k4 ?s4 ?t4 ?a5 ?s2 ?t2 ?h2 ?e3_2 ?e4_2 ?cn ?ct ?cg3 ?ck3 ?cd3 ?ca3 ?cm3 ?cg4 ?ck4 ?cd4 ?ca4 ?cm4 ?i3_3 ?i3_4 ?i4_4 ?i4_3
    (case a8 => k_is)
    (case l8 => k_is)
    (case c8 => k_is)
    (case k8 => k_is)
    (case a9 => k_is)
    (case l9 => k_is)
    (case c9 => k_is)
    (case k9 => k_is)
    (case a10 => k_is)
    (case l10 => k_is)
    (case c10 => k_is)
    (case k10 => k_is)
    (case t10 => k_is)
    (case a11 => k_is)
    (case l11 => k_is)
    (case c11 => k_is)
    (case k11 => k_is)
    (case a12 => k_is)
    (case l12 => k_is)
    (case c12 => k_is)
    (case k12 => k_is)
    (case a13 => k_is)
    (case l13 => k_is)
    (case c13 => k_is)
    (case k13 => k_is)
    (case a14 => k_is)
    (case l14 => k_is)
    (case c14 => k_is)
    (case k14 => k_is)
    (case a15 => k_is)
    (case l15 => k_is)
    (case c15 => k_is)
    (case k15 => k_is)
    (case a16 => k_is)
    (case l16 => k_is)
    (case c16 => k_is)
    (case k16 => k_is)
    (case a17 => k_is)
    (case l17 => k_is)
    (case c17 => k_is)
    (case k17 => k_is)
    (case a19 => k_is)
    (case l19 => k_is)
    (case c19 => k_is)
    (case k19 => k_is)
    (case a21 => k_is)
    (case l21 => k_is)
    (case c21 => k_is)
    (case k21 => k_is)
    (case a22 => k_is)
    (case l22 => k_is)
    (case c22 => k_is)
    (case k22 => k_is)
    (case a23 => k_is)
    (case l23 => k_is)
    (case c23 => k_is)
    (case k23 => k_is)
    (case a24 => k_is)
    (case l24 => k_is)
    (case c24 => k_is)
    (case k24 => k_is)
    (case a25 => k_is)
    (case l25 => k_is)
    (case c25 => k_is)
    (case k25 => k_is)
    (case a26 => k_is)
    (case l26 => k_is)
    (case c26 => k_is)
    (case k26 => k_is)
    (case a27 => k_is)
    (case l27 => k_is)
    (case c27 => k_is)
    (case k27 => k_is)
    (case a28 => k_is)
    (case l28 => k_is)
    (case c28 => k_is)
    (case k28 => k_is)
    (case a29 => k_is)
    (case l29 => k_is)
    (case c29 => k_is)
    (case k29 => k_is)
    (case a30 => k_is)
    (case l30 => k_is)
    (case c30 => k_is)
    (case k30 => k_is)
    (case m_str => k_is)
    (case m_abs => k_is)
    (case m_range => k_is)
    (case m_int => k_is)
    (case m_isinstance => k_is)
    (case m_all => k_is)
    (case m_repr => k_is)
    (case b_gcd => k_is)
    (case a2 => k_is)
    (case a3 => k_is)
    (case x3 => k_exc)
    (case k3 => k_is)
    (case s3 => k_is)
    (case t3 => k_is)
    (case a4 => k_is)
    (case x4 => k_exc)
    (case k4 => k_is)
    (case s4 => k_is)
    (case t4 => k_is)
    (case a5 => k_is)
    (case s2 => k_is)
    (case t2 => k_is)
    (case h2 => k_is)
    (case e3_2 => (first | rfl | k_is))
    (case e4_2 => (first | rfl | k_is))
    (case cn => k_is)
    (case ct => k_is)
    (case cg3 => k_is)
    (case ck3 => k_is)
    (case cd3 => k_is)
    (case ca3 => k_is)
    (case cm3 => k_is)
    (case cg4 => k_is)
    (case ck4 => k_is)
    (case cd4 => k_is)
    (case ca4 => k_is)
    (case cm4 => k_is)
    (case i3_3 => (first | kit_is | k_is | decide +kernel))
    (case i3_4 => (first | kit_is | k_is | decide +kernel))
    (case i4_4 => (first | kit_is | k_is | decide +kernel))
    (case i4_3 => (first | kit_is | k_is | decide +kernel))
