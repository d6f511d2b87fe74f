import PyProof.Rows.All
import Wide.All
import OpenK.AllK
import Wide.FinOn
import HandS.ForExc
import HandS.Gcd
import HandS.Wide
import HandS.ExcIs
import HandS.Evl
import HandS.Defaults
import HandS.RaiseMore
import HandS.Style
import HandS.ForMost
import HandS.TupAny
import HandS.IsInst
import HandS.Conv
import KE.GoesEnum
import KE.GoesZip
import KE.GoesMore
import KE.KMathG
import PyProof.ListStr
import OpenK.KOps
import HandS.More
import HandS.TryOnly
import HandS.ExcCtx
import HandS.Hot
import HandS.HotCalls
import KE.GoesComp
import HandS.TupMul
import HandS.OwnEq
import HandS.ExcOwn
import HandS.Deep
import PySem.Challenge.RW_planeworth_k03_whole_a_solution_or_a_cla
import HandS.FStrTup
import PyProof.ReprLen
set_option Elab.async false
set_option linter.all false
set_option maxRecDepth 100000
set_option maxHeartbeats 4000000
/-! Own layer over HandS: data read deep, texts of data, calls where no text is under way, calls by value. -/
namespace PW
open PySem PySem.Spec PyProof.Rows L2 Evl

/-! ### heaps that only grow -/
theorem dp_mono {K : PySem.W.Frag} {H H' : Hp} (e : Ex H H') {v : V} {d : PyData} (h : Dp K H v d) : Dp K H' v d :=
  Dp.rec (motive_1 := fun v d _ => Dp K H' v d) (motive_2 := fun vs ds _ => DpAll K H' vs ds)
    .non .bl .int .str (fun s _ ih => .lst (ex_l e s) ih) (fun s _ ih => .tup (ex_t e s) ih) .nil (fun _ _ a b => .cons a b) h
theorem dpAll_mono {K : PySem.W.Frag} {H H' : Hp} (e : Ex H H') : ∀ {vs : List V} {ds : List PyData}, DpAll K H vs ds → DpAll K H' vs ds
  | _, _, .nil => .nil
  | _, _, .cons a b => .cons (dp_mono e a) (dpAll_mono e b)

/-! ### // by any divisor but 0 -/
def CDivG (_ j : Int) : Prop := j ≠ 0 ∧ j.natAbs.log2 < 9000
theorem op_fdivG {X : Cx} : OpR X (binaryOp .FloorDiv) (rI CDivG fun i j => .int (i.fdiv j)) := opI fun _ _ _ _ _ _ _ hc q =>
  floordiv_int hc.1 q (.inl (PyProof.noPylong_of_log2 hc.2))

/-! ### the text of data, where no text is under way -/
def Show1 (d : PyData) : Prop := d.showable = true ∧ d.hasDict = false ∧ d.shown.length ≤ sizeLine ∧ d.depth < 40
def rShow (K : PySem.W.Frag) : List V → Hp → VK → Prop := fun vs H Q => ∃ v d, vs = [v] ∧ Dp K H v d ∧ Show1 d ∧ Q (.str d.shown) H
section
variable {X : Cx}
theorem call_repr (hg : X.A.guards = some []) (hu : X.A.units + 64 < cLine) : CallR X (.builtin "repr") (rShow X.K) := by
  intro pins s σ H vs us Q I r h
  obtain ⟨v, d, rfl, hd, ⟨h1, h2, h3, h4⟩, q⟩ := h
  obtain ⟨u, rfl, rv⟩ := vals1 r
  cases v with
  | non =>
    cases hd; cases rv
    exact PySem.P.repr_of_none ⟨.str (PyData.shown .none), H, I.tok _, ⟨_, rfl⟩, q⟩
  | bl b =>
    cases hd; cases rv
    exact PySem.P.repr_of_bool ⟨.str (PyData.shown (.bool b)), H, I.tok _, ⟨s.toks, by cases b <;> rfl⟩, q⟩
  | int i =>
    cases hd
    obtain ⟨t, rfl⟩ := rv
    exact PySem.P.repr_of_int (by simpa [PyData.showable] using h1) ⟨.str (PyData.shown (.int i)), H, I.tok _, ⟨_, rfl⟩, q⟩
  | str x =>
    cases hd
    obtain ⟨t, rfl⟩ := rv
    exact PySem.P.repr_of_str ⟨.str (PyData.shown (.str x)), H, I.tok _, ⟨_, rfl⟩, q⟩ h3
  | byt b => cases hd
  | flt b => cases hd
  | ty n => cases hd
  | ref a =>
    cases rv
    obtain ⟨as, rd⟩ := Dp.reads I d _ _ hd rfl
    exact repr_of_reads' rd h1 (PyData.noDict_hsm h2) hg (by omega) (fun _ _ e => e) (fun h' u tk k => ⟨.str d.shown, H, I.kept k, ⟨_, rfl⟩, q⟩) h3
theorem call_strD (hg : X.A.guards = some []) (hu : X.A.units + 64 < cLine) : CallR X (.type "str") (fun vs H Q => ∃ a d, vs = [.ref a] ∧ Dp X.K H (.ref a) d ∧ Show1 d ∧ Q (.str d.shown) H) := by
  intro pins s σ H vs us Q I r h
  obtain ⟨a, d, rfl, hd, ⟨h1, h2, h3, h4⟩, q⟩ := h
  obtain ⟨u, rfl, rv⟩ := vals1 r
  cases rv
  obtain ⟨as, rd⟩ := Dp.reads I d _ _ hd rfl
  exact str_of_reads rd h1 (PyData.noDict_hsm h2) hg (by omega) (fun _ _ e => e) (fun h' u tk k => ⟨.str d.shown, H, I.kept k, ⟨_, rfl⟩, q⟩) h3
end

/-! ### defs that want no text under way -/
structure FnG (P : Program) (w : World) (K : PySem.W.Frag) (mg : Str → Option Value) (base : Heap) (CX : CXT) (k : Nat) (f : Addr) (fd : FuncData) (ps : List Str) (sp : Sp) : Prop where
  len : ∀ vs H Q E, sp vs H Q E → vs.length = ps.length
  run : ∀ (A : Around) (outer : List Env) (s : Shared) (H : Hp) (args : Args) (us : List Value) (vs : List V) (Q : VK) (E : XK),
    A.guards = some [] → Room k A → Env0 P w K mg base A outer s H → BindsTo s fd args (ps.zip us) → Vals vs us → sp vs H Q E →
    codeAny (model P w) A (.call (.ref f) args) (CR CX outer P w H s Q E) s
section
variable {P : Program} {w : World} {K : PySem.W.Frag} {mg : Str → Option Value} {base : Heap}
/-- a def of the text, by its body -/
theorem _root_.L2.Fun.okG {CX : CXT} {x qual : Str} {st : Stmt} {f : Addr} {fd : FuncData} {N ps : List Str} {k : Nat} {sp : Sp} (F : Fun K x qual st f fd)
    (S : FnScope N ps (defScope st)) (len : ∀ vs H Q E, sp vs H Q E → vs.length = ps.length)
    (body : ∀ (cdv : Value) (A : Around) (outer : List Env) (s : Shared) (H : Hp) (vs : List V) (Q : VK) (E : XK), A.guards = some [] →
      Room k (A.deeper (envOfC qual (defScope st) s.heap.objs.size f cdv)) → sp vs H Q E →
      ∃ t, PSs (cxOf CX P w K mg base N qual (defScope st) f cdv A outer s H E) (defBody st) t ∧
        t { nx := fun _ H' => Q .non H', rt := Q } (start N vs) H) : FnG P w K mg base CX (k + 1) f fd ps sp := by
  obtain ⟨oc, od, kV, doc, pm, an, cdv, ct, osl, rfl, lk, hcd⟩ := F.ex
  constructor
  · exact len
  · intro A outer s H args us vs Q E hg hr e0 hb rv hsp
    have down : ∀ (b : Addr) (o : Obj), base.get? b = some o → s.heap.get? b = some o := fun b o e => (e0.bs b o e).1
    have inK := e0.mod.kin.keeps down
    have kinds : ∀ y ∈ ps.zip us, (defScope st).names.lookup y.1 = some .local ∨
        ((defScope st).names.lookup y.1 = some .cell ∧ ((cellsFrom (s.heap.objs.size + 1) (defScope st).names []).lookup y.1).isSome = true) := by
      rintro ⟨n, v⟩ hy
      have hn := S.par n (List.of_mem_zip hy).1
      exact hn.imp id fun q => ⟨q, PySem.W.cellsFrom_some _ _ _ (.inl q)⟩
    apply codeAny_call_function hr.depth (inK _ _ lk) rfl S.co S.gen rfl (PySem.W.codeRec_of inK hcd)
    refine hb _ _ _ _ (wpAny_newFunctionEnv_cells S.kind kinds ?_)
    rintro env rfl s1 x
    obtain ⟨t, ht, hq⟩ := body cdv A outer s H vs Q E hg (hr.deeper _) hsp
    have I := inv_start (CX := CX) (E := E) (P := P) (w := w) S hr.hd e0 (len _ _ _ _ hsp) rv x
    refine ⟨(e0.mod.nolimit.keeps down).keeps x.toInCall.keep, codeAny_func (wpAny_mono (ht.run [] s1 _ H _ I hq) ?_ fun _ _ z => z)⟩
    intro fl s' hs
    cases fl with
    | ret u =>
      obtain ⟨v, σ', H', J, r', q⟩ := hs
      exact ⟨v, H', J.os, J.bare, J.base, J.hok, r', q⟩
    | next =>
      obtain ⟨σ', H', J, q⟩ := hs
      exact ⟨.non, H', J.os, J.bare, J.base, J.hok, rfl, q⟩
    | brk => exact hs.elim fun _ z => z.elim fun _ z => z.2.elim
    | cont => exact hs.elim fun _ z => z.elim fun _ z => z.2.elim
end
section
variable {X : Cx} {CX : CXT} {k : Nat} {f : Addr} {fd : FuncData} {ps : List Str} {sp : Sp} {E : L2.St → XK} {x : Str} {p pos : Pos} {e fn : Expr} {es : List Expr} {t : TA} {tf : TE}
/-- the call of such a def -/
theorem pe_callG (F : FnG X.prog X.w X.K X.mg X.base CX k f fd ps sp) (gd : X.A.guards = some []) (hr : Room k X.A) (hg : Gl X x) (hm : X.mg x = some (.ref f)) (hk : PySem.W.keepIn X.K (.ref f) = true) (hb : Binds X.K fd ps [])
    (hx : ∀ σ, PassesAt CX X σ (E σ)) (ha : PA X (e :: es) t) (hdb : (x == ("__debug__" : Str)) = false := by decide)
    (he : starEach (e :: es) X.env = (false, eval e X.env) :: starEach es X.env := by rfl) (hpl : (backTo pos (starEach es X.env)).any (·.1) = false := by rfl) :
    PE X (.Call (.Name x p) (e :: es) [] pos) (tCallS sp E t) := by
  constructor
  intro pins s σ H Q I h
  apply wpAny_Call_Name_kw
  apply ld_glob I hg hm _ hdb
  refine PySem.W.callWith_K (h₀ := X.base) I.ok.mod.kin hk (thn (ha.run pos pins s σ H _ I h) ?_) he hpl
  rintro us s1 ⟨vs, H1, I1, rv, q⟩
  have b := hb s1 us I1.kIn (by rw [List.append_nil, ← rv.length]; exact F.len _ _ _ _ q)
  rw [List.append_nil] at b
  refine ⟨I1.kIn, wpAny_call (codeAny_mono (F.run X.A X.stack s1 H1 ⟨us, []⟩ us vs Q (E σ) gd hr I1.env0 b rv q) ?_)⟩
  intro r s' hq
  match r, hq with
  | .error e, hq => exact hx σ pins H1 s1 e s' I1 hq
  | .ok (.ret u), hq => exact I1.after hq
/-- one of several defs, by what the called expression is worth -/
structure Callee (X : Cx) (CX : CXT) (f : Addr) (sp : Sp) : Prop where
  ok : ∃ (k : Nat) (fd : FuncData) (ps : List Str), FnOk X.prog X.w X.K X.mg X.base CX k f fd ps sp ∧ Room k X.A ∧ PySem.W.keepIn X.K (.ref f) = true ∧ Binds X.K fd ps []
def tCallV (C : Addr → Sp → Prop) (E : L2.St → XK) (tf : TE) (t : TA) : TE := fun σ H Q => tf σ H fun v H1 => ∃ (f : Addr) (sp : Sp), v = .ref f ∧ C f sp ∧ t σ H1 fun vs H2 => sp vs H2 Q (E σ)
theorem pe_callV' {C : Addr → Sp → Prop} (hC : ∀ f sp, C f sp → Callee X CX f sp) (hf : PE X fn tf) (hx : ∀ σ, PassesAt CX X σ (E σ)) (ha : PA X (e :: es) t)
    (hc : eval (.Call fn (e :: es) [] pos) X.env = (do
      let u ← eval fn X.env
      callWith pos u [] (backTo pos (starEach (e :: es) X.env)) (backToKw pos (keywordEach [] X.env))) := by rfl)
    (he : starEach (e :: es) X.env = (false, eval e X.env) :: starEach es X.env := by rfl) (hpl : (backTo pos (starEach es X.env)).any (·.1) = false := by rfl) :
    PE X (.Call fn (e :: es) [] pos) (tCallV C E tf t) := by
  constructor
  intro pins s σ H Q I h
  rw [hc]
  refine wpAny_bind (thn (hf.run pins s σ H _ I h) ?_)
  rintro u s0 ⟨v, H0, I0, ru, f, sp, rfl, hCf, h0⟩
  cases ru
  obtain ⟨k, fd, ps, F, hr, hk, hb⟩ := (hC f sp hCf).ok
  refine PySem.W.callWith_K (h₀ := X.base) I0.ok.mod.kin hk (thn (ha.run pos pins s0 σ H0 _ I0 h0) ?_) he hpl
  rintro us s1 ⟨vs, H1, I1, rv, q⟩
  exact ⟨I1.kIn, run_fnS F hr hb (hx σ) I1 rv q⟩
end
end PW
namespace PW
open PySem PySem.Spec PyProof.Rows L2 Evl
section
variable {P : Program} {w : World} {K : PySem.W.Frag} {mg mb : Str → Option Value} {k : Nat} {fa a : Addr} {fd : FuncData} {x : Str} {sp : Sp} {s0 : Shared} {vs : List Value} {ns : List Int}
/-- the law's call, no text being under way, by the law's own promise -/
theorem law_end (KX : K.In s0.heap) (gl : s0.heap.Ns mainGlobals mg) (bl : s0.heap.Ns builtinsNs mb) (bb : ∀ y : Str, y ≠ "__name__" → mb y = bootBuiltins y)
    (lim : s0.heap.NoLimit) (gens : s0.gens = #[]) (at_a : s0.heap.get? a = some { cls := .type "list", data := .seq vs.toArray }) (isInts : IntsAre vs ns)
    (few : ns.length ≤ sizeLine) (room : Room k callerA)
    (F : ∀ base : Heap, K.In base → base.Ns mainGlobals mg → FnG P w K mg base CX0 k fa fd [x] sp)
    (bind : ∀ (s : Shared) (u : Value), BindsTo s fd ⟨[u], []⟩ [(x, u)])
    (good : ∀ H : Hp, SqL K H a (ns.map V.int) → sp [.ref a] H (fun v _ => v = .bl true) fun _ _ _ => False) :
    codeAny (model P w) callerA (.call (.ref fa) ⟨[.ref a], []⟩)
      (fun r s' => r = .ok (.ret (.bool true)) ∧ OldK s0.heap s'.heap ∧ s'.os = s0.os ∧ AllBare s'.gens) s0 := by
  have rv := vals_ints isInts
  have hsize := isInts.length
  obtain ⟨H, hH, hS, hK⟩ : ∃ H : Hp, (∀ b, H b = none ∨ (b = a ∧ K.lookup a = none ∧ H b = some (.frz { cls := .type "list", data := .seq vs.toArray } (.lst (ns.map V.int))))) ∧
      SqL K H a (ns.map V.int) ∧ (∀ b o, K.lookup b = some o → H b = none) := by
    cases hk : K.lookup a with
    | some o =>
      have same := (KX a o hk).symm.trans at_a
      cases same
      refine ⟨fun _ => none, fun _ => .inl rfl, .inr ⟨_, vs.toArray, _, hk, rfl, rfl, rfl, ?_, by simpa using rv⟩, fun _ _ _ => rfl⟩
      rw [List.size_toArray, hsize]
      exact few
    | none =>
      refine ⟨fun b => if b = a then some (.frz { cls := .type "list", data := .seq vs.toArray } (.lst (ns.map V.int))) else none, fun b => ?_, .inl (.inr ⟨_, if_pos rfl⟩), fun b o hb => if_neg ?_⟩
      · by_cases e : b = a
        · exact .inr ⟨e, rfl, if_pos e⟩
        · exact .inl (if_neg e)
      · rintro rfl
        rw [hk] at hb
        cases hb
  have ok : HOk P w H s0.heap := by
    intro b u e
    rcases hH b with z | ⟨rfl, _, z⟩
    · rw [z] at e
      cases e
    · cases z.symm.trans e
      exact ⟨at_a, by rw [List.length_map]; exact few, vs, _, rv, at_a⟩
  have isDict : ∀ (b : Addr) (m : Str → Option Value), s0.heap.Ns b m → (hidT s0.heap H).Ns b m := by
    rintro b m ⟨o, es, ep, e, d, r⟩
    refine ⟨o, es, ep, hidT_get e ?_, d, r⟩
    rcases hH b with z | ⟨rfl, _, z⟩
    · exact z
    · cases at_a.symm.trans e
      cases d
  have inK : K.In (hidT s0.heap H) := fun b o e => hidT_get (KX b o e) (hK b o e)
  have nolim : (hidT s0.heap H).NoLimit := by
    obtain ⟨mc, h1, h2⟩ := lim
    exact ⟨mc, isDict _ _ h1, h2⟩
  have modu : Mod K mg (hidT s0.heap H) := ⟨inK, isDict _ _ gl, ⟨mb, isDict _ _ bl, bb⟩, nolim⟩
  have here : Env0 P w K mg (hidT s0.heap H) callerA [] s0 H :=
    { frames := rfl, mod := modu, bs := fun b o e => of_hidT e, bsz := Nat.le_of_eq (hidT_size _ _), funs := trivial
      frf := fun b hb => by
        have hb' : b ∈ ([] : List Addr) := hb
        cases hb'
      hok := ok, bare := .of_eq gens }
  refine codeAny_mono ((F _ inK (isDict _ _ gl)).run callerA [] s0 H ⟨[.ref a], []⟩ [.ref a] [.ref a] _ _ rfl room here (bind s0 _) (.cons rfl .nil) (good H hS)) ?_
  intro r s' h
  match r, h with
  | .error e, h => exact h.elim
  | .ok (.ret u), ⟨v, H', os, bare, un, ok', r', q⟩ =>
    have q' : v = .bl true := q
    subst q'
    cases r'
    refine ⟨rfl, OldK.of_keep fun b o e => ?_, os, bare⟩
    rcases hH b with z | ⟨rfl, _, z⟩
    · refine un.keep b o e z (fun hb => ?_) (fun hb => nomatch hb)
      have hb' : b ∈ ([] : List Addr) := hb
      cases hb'
    · have e1 := (ok b _ z).1
      have e2 := (ok' b _ (un.frzs b _ _ z)).1
      rw [e] at e1
      cases e1
      exact e2
end
/-- what k_head leaves of a law, from the law's promise (no text under way) -/
theorem walk_ofG {l : PySem.W.OpenLaw} {n k : Nat} {q : Program} {loose : List Str} {XP : (Str → Option Value) → Heap → Prop} {YP : World → Heap → Prop} {d : DefRec} {K : Params → PySem.W.Frag} {sp : World → Sp} {x : Str}
    (most : l.most = some n) (few : n ≤ sizeLine) (hdf : d.params.defaults = []) (room : Room k callerA) (inK : ∀ (w : World) (h : Heap), YP w h → (K w.params).In h)
    (F : ∀ (w : World) (mg : Str → Option Value) (fa : Addr) (h : Heap), (K w.params).In h → h.Ns mainGlobals mg → mg d.name = some (.ref fa) →
      ∃ fd : FuncData, (∀ (s : Shared) (u : Value), BindsTo s fd ⟨[u], []⟩ [(x, u)]) ∧
        ∀ base : Heap, (K w.params).In base → base.Ns mainGlobals mg → FnG l.prog w (K w.params) mg base CX0 k fa fd [x] (sp w))
    (good : ∀ (w : World) (H : Hp) (a : Addr) (ns : List Int), ns.length ≤ n → SqL (K w.params) H a (ns.map V.int) → sp w [.ref a] H (fun v _ => v = .bl true) fun _ _ _ => False) :
    PySem.W.WalkO q loose XP YP l.row.toRowW d [] (fun f vs => PySem.call f vs) := by
  refine Att.attach_call most hdf ?_
  intro w s0 s1 mg mb fa o pm cd doc a vs ns G Y ho hd hcd hmg hobj hints hlen hg
  obtain ⟨fd, hb, hF⟩ := F w mg fa _ (inK w _ Y) G.T.g hmg
  exact law_end (inK w _ Y) G.T.g G.T.b G.T.builtins G.T.nolimit hg hobj hints (Nat.le_trans hlen few) room hF hb fun H hS => good w H a ns hlen hS
/-- the same where the promise hangs on the written part alone -/
theorem walk_ofGK {l : PySem.W.OpenLaw} {n k : Nat} {q : Program} {loose : List Str} {XP : (Str → Option Value) → Heap → Prop} {YP : World → Heap → Prop} {d : DefRec} {K : Params → PySem.W.Frag} {sp : PySem.W.Frag → Sp} {x : Str}
    (most : l.most = some n) (few : n ≤ sizeLine) (hdf : d.params.defaults = []) (room : Room k callerA) (inK : ∀ (w : World) (h : Heap), YP w h → (K w.params).In h)
    (F : ∀ (w : World) (mg : Str → Option Value) (fa : Addr) (h : Heap), (K w.params).In h → h.Ns mainGlobals mg → mg d.name = some (.ref fa) →
      ∃ fd : FuncData, (∀ (s : Shared) (u : Value), BindsTo s fd ⟨[u], []⟩ [(x, u)]) ∧
        ∀ base : Heap, (K w.params).In base → base.Ns mainGlobals mg → FnG l.prog w (K w.params) mg base CX0 k fa fd [x] (sp (K w.params)))
    (good : ∀ (K : PySem.W.Frag) (H : Hp) (a : Addr) (ns : List Int), ns.length ≤ n → SqL K H a (ns.map V.int) → sp K [.ref a] H (fun v _ => v = .bl true) fun _ _ _ => False) :
    PySem.W.WalkO q loose XP YP l.row.toRowW d [] (fun f vs => PySem.call f vs) :=
  walk_ofG (K := K) (sp := fun w => sp (K w.params)) most few hdf room inK F fun w H a ns h1 h2 => good (K w.params) H a ns h1 h2
end PW
namespace PW
open PySem PySem.Spec PyProof.Rows L2 Evl
/-- a def that keeps its promise, under its name -/
structure Cal (P : Program) (w : World) (K : PySem.W.Frag) (mg : Str → Option Value) (base : Heap) (CX : CXT) (k : Nat) (x : Str) (f : Addr) (fd : FuncData) (ps : List Str) (ds : List Value) (dvs : List V) (sp : Sp) : Prop where
  ok : FnOk P w K mg base CX k f fd ps sp
  g : mg x = some (.ref f)
  kp : PySem.W.keepIn K (.ref f) = true
  b : Binds K fd ps ds
  d : Vals dvs ds
structure CalG (P : Program) (w : World) (K : PySem.W.Frag) (mg : Str → Option Value) (base : Heap) (CX : CXT) (k : Nat) (x : Str) (f : Addr) (fd : FuncData) (ps : List Str) (sp : Sp) : Prop where
  ok : FnG P w K mg base CX k f fd ps sp
  g : mg x = some (.ref f)
  kp : PySem.W.keepIn K (.ref f) = true
  b : Binds K fd ps []
section
variable {X : Cx} {CX : CXT} {k : Nat} {f : Addr} {fd : FuncData} {ps : List Str} {ds : List Value} {dvs : List V} {sp : Sp} {E : XK} {E2 : L2.St → XK} {x : Str} {p pos : Pos} {e : Expr} {es : List Expr} {t : TA}
theorem pe_cal (c : Cal X.prog X.w X.K X.mg X.base CX k x f fd ps ds dvs sp) (hr : Room k X.A) (hx : Passes CX X E) (ha : PA X (e :: es) t) (hg : Gl X x := by rfl) (hdb : (x == ("__debug__" : Str)) = false := by decide)
    (he : starEach (e :: es) X.env = (false, eval e X.env) :: starEach es X.env := by rfl) (hpl : (backTo pos (starEach es X.env)).any (·.1) = false := by rfl) :
    PE X (.Call (.Name x p) (e :: es) [] pos) (tCall sp dvs E t) := pe_call c.ok hr hg c.g c.kp c.b c.d hx ha hdb he hpl
theorem pe_calS (c : Cal X.prog X.w X.K X.mg X.base CX k x f fd ps [] [] sp) (hr : Room k X.A) (hx : ∀ σ, PassesAt CX X σ (E2 σ)) (ha : PA X (e :: es) t) (hg : Gl X x := by rfl) (hdb : (x == ("__debug__" : Str)) = false := by decide)
    (he : starEach (e :: es) X.env = (false, eval e X.env) :: starEach es X.env := by rfl) (hpl : (backTo pos (starEach es X.env)).any (·.1) = false := by rfl) :
    PE X (.Call (.Name x p) (e :: es) [] pos) (tCallS sp E2 t) := pe_callS c.ok hr hg c.g c.kp c.b hx ha hdb he hpl
theorem pe_calG (c : CalG X.prog X.w X.K X.mg X.base CX0 k x f fd ps sp) (gd : X.A.guards = some []) (hr : Room k X.A) (ha : PA X (e :: es) t) (hg : Gl X x := by rfl) (hdb : (x == ("__debug__" : Str)) = false := by decide)
    (he : starEach (e :: es) X.env = (false, eval e X.env) :: starEach es X.env := by rfl) (hpl : (backTo pos (starEach es X.env)).any (·.1) = false := by rfl) :
    PE X (.Call (.Name x p) (e :: es) [] pos) (tCallS sp (fun _ => E0) t) := pe_callG c.ok gd hr hg c.g c.kp c.b (fun _ => fun _ _ _ _ _ _ h => h.elim) ha hdb he hpl
theorem pe_globR (hm : X.mg x = some (.ref f)) (hg : Gl X x := by rfl) (hd : (x == ("__debug__" : Str)) = false := by decide) : PE X (.Name x pos) (tC (.ref f)) := pe_glob hg hm rfl hd
theorem pe_strD {K : PySem.W.Frag} (gd : X.A.guards = some []) (hu : X.A.units + 64 < cLine) (hm : X.mg "str" = none) (ha : PA X (e :: es) t) (hK : X.K = K := by rfl) (hg : Gl X "str" := by rfl)
    (he : starEach (e :: es) X.env = (false, eval e X.env) :: starEach es X.env := by rfl) (hpl : (backTo pos (starEach es X.env)).any (·.1) = false := by rfl) :
    PE X (.Call (.Name "str" p) (e :: es) [] pos) (tCB (fun vs H Q => ∃ a d, vs = [.ref a] ∧ Dp K H (.ref a) d ∧ Show1 d ∧ Q (.str d.shown) H) t) := by
  subst hK
  exact pe_callTy (call_strD gd hu) hg hm (by decide +kernel) ha (by decide) (by decide) he hpl
theorem pe_repr (gd : X.A.guards = some []) (hu : X.A.units + 64 < cLine) (hm : X.mg "repr" = none) (ha : PA X (e :: es) t) (hg : Gl X "repr" := by rfl)
    (he : starEach (e :: es) X.env = (false, eval e X.env) :: starEach es X.env := by rfl) (hpl : (backTo pos (starEach es X.env)).any (·.1) = false := by rfl) :
    PE X (.Call (.Name "repr" p) (e :: es) [] pos) (tCB (rShow X.K) t) :=
  pe_callB (call_repr gd hu) hg hm (by decide +kernel) ha (by decide) (by decide) he hpl
theorem ix_listK {K : PySem.W.Frag} (hK : X.K = K := by rfl) : IxR X (rIxL K) := by
  subst hK
  exact ix_list
theorem ix_tupK {K : PySem.W.Frag} (hK : X.K = K := by rfl) : IxR X (rIxT K) := by
  subst hK
  exact ix_tup
theorem Cal.callee (c : Cal X.prog X.w X.K X.mg X.base CX k x f fd ps [] [] sp) (hr : Room k X.A) : Callee X CX f sp := ⟨k, fd, ps, c.ok, hr, c.kp, c.b⟩
end
section
variable {P : Program} {w : World} {K : PySem.W.Frag} {mg : Str → Option Value} {base : Heap}
theorem _root_.L2.Fun.okGn {x qual : Str} {st : Stmt} {f : Addr} {fd : FuncData} {N ps : List Str} {k : Nat} {sp : Sp} (F : Fun K x qual st f fd)
    (S : FnScope N ps (defScope st)) (len : ∀ vs H Q E, sp vs H Q E → vs.length = ps.length)
    (body : ∀ (cdv : Value) (A : Around) (outer : List Env) (s : Shared) (H : Hp) (vs : List V) (Q : VK) (E : XK), A.guards = some [] →
      Room k (A.deeper (envOfC qual (defScope st) s.heap.objs.size f cdv)) → sp vs H Q E →
      ∃ t, PSs (cxOf CX0 P w K mg base N qual (defScope st) f cdv A outer s H E).nox (defBody st) t ∧
        t { nx := fun _ H' => Q .non H', rt := Q } (start N vs) H) : FnG P w K mg base CX0 (k + 1) f fd ps sp :=
  F.okG S len fun cdv A outer s H vs Q E g hr h =>
    have ⟨t, a, b⟩ := body cdv A outer s H vs Q E g hr h
    ⟨t, a.nox, b⟩
theorem gd_deeper {A : Around} {e : Env} (h : A.guards = some []) : (A.deeper e).guards = some [] := h
theorem hu_64 {A : Around} {k : Nat} (hr : Room k A) : A.units + 64 < cLine := hr.units
end
/-- isinstance(e, c) of the exception that the suite holds, its class not told before -/
def rIsX (K : PySem.W.Frag) (a : Addr) (cls : Value) (d : Option Addr) : List V → Hp → VK → Prop := fun xs H Q => cls ≠ cls ∨ ∃ D, cls = .ref D ∧ d = none ∧ ExcC K D ∧ rIsE K D a xs H Q
theorem call_isX {X : Cx} {K : PySem.W.Frag} {a : Addr} {cls : Value} {d : Option Addr} {oe : Obj} {pn : List (Addr × Obj)} (hz : Zc cls d oe) (hf : ∃ vs, oe.data = .fields vs) (hK : X.K = K := by rfl) : CallR (X.suite a ((a, oe) :: pn)) (.builtin "isinstance") (rIsX K a cls d) := by
  subst hK
  intro pins s σ H xs us Q I r h
  rcases h with z | ⟨D, rfl, rfl, C, h⟩
  · exact absurd rfl z
  · exact call_isE C hz hf pins s σ H xs us Q I r h
/-- a number: a pair of ints -/
def Num (K : PySem.W.Frag) (H : Hp) (v : V) (a b : Int) : Prop := ∃ p, v = .ref p ∧ SqT K H p [.int a, .int b]
theorem Num.mono {K : PySem.W.Frag} {H H' : Hp} {v : V} {a b : Int} (e : Ex H H') (n : Num K H v a b) : Num K H' v a b :=
  have ⟨p, h1, h2⟩ := n
  ⟨p, h1, ex_t e h2⟩
def isN (a b : Int) : Prop := 1 ≤ b ∧ Int.gcd a b = 1
instance (a b : Int) : Decidable (isN a b) := inferInstanceAs (Decidable (_ ∧ _))
end PW
/-! Own layer over HandS: lcm, len by an own __len__, enumerate and zip over lists, tuples and texts, list(text). -/
namespace PW
open PySem PySem.Spec PyProof.Rows L2 Evl
/-! ### math.lcm -/
def rLcm : List V → Hp → VK → Prop := fun vs H Q => ∃ a b : Int, vs = [.int a, .int b] ∧ a.natAbs < 2 ^ 9000 ∧ b.natAbs < 2 ^ 9000 ∧ Q (.int ((Nat.lcm a.natAbs b.natAbs : Nat) : Int)) H
theorem lcm_le_mul (m n : Nat) : m.lcm n ≤ m * n := by
  unfold Nat.lcm
  exact Nat.div_le_self _ _
theorem cr_lcm {X : Cx} : CallR X (.builtin "math.lcm") rLcm := by
  intro pins s σ H vs us Q I r h
  obtain ⟨a, b, rfl, ha, hb, q⟩ := h
  obtain ⟨t, u, rfl⟩ := Vals.int2 r
  have lg : ∀ {n : Nat}, n < 2 ^ 9000 → n.log2 ≤ 8999 := fun h => PySem.W.mg_log (k := 8999) h
  have one : (1 : Nat) < 2 ^ 9000 := Nat.one_lt_two_pow (by decide)
  have h1 : (max 1 a.natAbs).log2 ≤ 8999 := lg (by omega)
  have h2 : (max a.natAbs b.natAbs).log2 ≤ 8999 := lg (by omega)
  have e1 : Nat.lcm 1 a.natAbs = a.natAbs := by simp [Nat.lcm]
  have hs : ((((Nat.lcm 1 a.natAbs).lcm b.natAbs : Nat) : Int)).natAbs.log2 < bitsLine := by
    rw [e1]
    have e2 : (((a.natAbs.lcm b.natAbs : Nat) : Int)).natAbs = a.natAbs.lcm b.natAbs := rfl
    rw [e2]
    have h3 : a.natAbs.lcm b.natAbs < 2 ^ (17999 + 1) := by
      refine Nat.lt_of_le_of_lt (lcm_le_mul _ _) ?_
      have : (2 : Nat) ^ (17999 + 1) = 2 ^ 9000 * 2 ^ 9000 := by rw [← Nat.pow_add]
      rw [this]
      exact Nat.mul_lt_mul'' ha hb
    have h4 := PySem.W.mg_log h3
    have : bitsLine = 134217728 := by decide
    omega
  have g := PySem.W.mg_run_lcm a t b u (by omega) (by omega) hs
  refine call_function_meets PySem.W.MGF.kind_lcm PySem.W.MGF.plain_lcm PySem.W.MGF.entry_lcm (PySem.W.MGF.args_lcm _ _) g.meets ⟨.int _, H, I.tok _, ⟨_, rfl⟩, ?_⟩
  rw [e1]
  exact q
/-! ### len(x) by the class's own __len__ -/
theorem call_lenOwn {X : Cx} {CX : CXT} {C f : Addr} {fd : FuncData} {ps : List Str} {n : Nat} {sp : Sp} {E : XK} (F : FnOk X.prog X.w X.K X.mg X.base CX n f fd ps sp)
    (hr : Room (n + 1) X.A) (hs : PySem.W.findIn X.K (.ref C) "__len__" = some (some (.ref f))) (hf : PySem.W.isFn X.K (.ref f) = true) (hb : Binds X.K fd ps []) (hx : Passes CX X E) :
    CallR X (.builtin "len") (fun xs H Q => ∃ a dx fs, xs = [.ref a] ∧ H a = some (.ins C dx fs) ∧ sp [.ref a] H (fun v H' => ∃ n : Nat, v = .int n ∧ n < 2 ^ 62 ∧ Q (.int n) H') E) := by
  intro pins s σ H xs us Q I r h
  obtain ⟨a, dx, fs, rfl, ha, hsp⟩ := h
  obtain ⟨u, rfl, ru⟩ := vals1 r
  cases ru
  obtain ⟨mA, J, _⟩ := ins_get I.hok ha
  obtain ⟨od, J, _⟩ := J.look
  obtain ⟨m, hF⟩ := I.fr
  refine PySem.W.len_K hF I.ok.mod.kin J hs hf ?_
  have e0 : Env0 X.prog X.w X.K X.mg X.base X.A.in1 X.stack s H := by
    have e := I.env0
    exact ⟨e.frames, e.mod, e.bs, e.bsz, e.funs, e.frf, e.hok, e.bare⟩
  have hl := F.len _ _ _ _ hsp
  have r2 : Vals [V.ref a] [Value.ref a] := .cons rfl .nil
  refine wpAny_call (codeAny_mono (F.run X.A.in1 X.stack s H ⟨[.ref a], []⟩ [.ref a] [.ref a] _ E hr.in1 e0 (by
    have := hb s [.ref a] I.kIn (by simpa using hl)
    simpa using this) r2 hsp) fun r s' hq => ?_)
  cases r with
  | error e => exact hx pins σ H s e s' I hq
  | ok fl =>
    cases fl with
    | ret w =>
      obtain ⟨z, H', I', rz, n, ez, hn, q⟩ := I.after hq
      subst ez
      obtain ⟨t, rfl⟩ := rz
      exact ⟨⟨by omega, by omega⟩, .int n, H', I'.tok _, ⟨_, rfl⟩, q⟩
    | next => exact False.elim hq
    | brk => exact False.elim hq
    | cont => exact False.elim hq
/-! ### what is gone through: a list, a tuple, a text -/
inductive Src where
  | lst (a : Addr)
  | tup (a : Addr)
  | str (x : Str)
def chars (x : Str) : List V := x.cps.toList.map fun c => .str ⟨#[c]⟩
def Src.at (K : PySem.W.Frag) (H : Hp) : Src → List V → Prop
  | .lst a, xs => SqL K H a xs
  | .tup a, xs => SqT K H a xs
  | .str x, xs => xs = chars x
def Src.v : Src → V
  | .lst a => .ref a
  | .tup a => .ref a
  | .str x => .str x
def Src.base : Src → List Addr
  | .lst a => [a]
  | .tup a => [a]
  | .str _ => []
def Src.St (it : Addr) (i : Nat) (h : Heap) : Src → Prop
  | .lst a => h.IsListIter it a i
  | .tup a => h.IsTupleIter it a i
  | .str x => ∃ t, h.IsStrIter it (strIterType x) x t i
theorem Src.St.at {S : Src} {it : Addr} {i : Nat} {h h' : Heap} (st : S.St it i h) (k : ∀ o, h.get? it = some o → h'.get? it = some o) : S.St it i h' := by
  cases S with
  | lst a => exact Heap.IsListIter.at st k
  | tup a => exact Heap.IsTupleIter.at st k
  | str x => exact let ⟨t, o, ho, r⟩ := st; ⟨t, o, k o ho, r⟩
theorem Src.St.obj {S : Src} {it : Addr} {i : Nat} {h : Heap} (st : S.St it i h) : ∃ o, h.get? it = some o ∧ ∀ v, o.data ≠ .cell v := by
  cases S with
  | lst a => exact let ⟨o, ho, _, hd⟩ := st; ⟨o, ho, fun v q => by rw [hd] at q; cases q⟩
  | tup a => exact let ⟨o, ho, _, hd⟩ := st; ⟨o, ho, fun v q => by rw [hd] at q; cases q⟩
  | str x => exact let ⟨t, o, ho, _, hd⟩ := st; ⟨o, ho, fun v q => by rw [hd] at q; cases q⟩
section
variable {X : Cx} {pins : List (Addr × Obj)} {σ : L2.St} {H : Hp} {s : Shared} {xs ys : List V}
theorem Src.inj {S : Src} (I : Inv X pins σ H s) (h1 : S.at X.K H xs) (h2 : S.at X.K H ys) : xs = ys := by
  cases S with
  | lst a => exact I.list_inj h1 h2
  | tup a => exact I.tuple_inj h1 h2
  | str x => exact Eq.trans h1 (Eq.symm h2)
theorem Src.draws {S : Src} {A : Around} (I : Inv X pins σ H s) (hh : A.handled = none) (hq : S.at X.K H xs) (it : Addr) (hne : ∀ b ∈ S.base, b ≠ it) (i : Nat) (st : S.St it i s.heap) :
    ∃ (P : Nat → Value → Prop) (St : Nat → Heap → Prop), Draws X.prog X.w A it (it :: S.base) xs.length P St ∧ (∀ i v, P i v → ∃ x, xs[i]? = some x ∧ RelV x v) ∧ St i s.heap ∧ ∀ i h, St i h → S.St it i h := by
  cases S with
  | lst a =>
    obtain ⟨its, rv, p, hz⟩ := I.list hq
    have hl := rv.length
    have D := Draws.list (prog := X.prog) (w := X.w) (A := A) hh it a (hne a (by simp [Src.base])) its.toArray
    rw [List.size_toArray, ← hl] at D
    refine ⟨_, _, D, ?_, ⟨st, p.isList⟩, fun i h q => q.1⟩
    · intro i v hv
      have hv' : its[i]? = some v := by simpa using hv
      have hi : i < xs.length := by
        have := (List.getElem?_eq_some_iff.mp hv').1
        omega
      obtain ⟨u, hu, ru⟩ := rv.get (List.getElem?_eq_getElem hi)
      rw [hu] at hv'
      cases hv'
      exact ⟨_, List.getElem?_eq_getElem hi, ru⟩
  | tup a =>
    obtain ⟨its, rv, p, hz⟩ := I.tuple hq
    have hl := rv.length
    have D := Draws.tuple (prog := X.prog) (w := X.w) (A := A) hh it a (hne a (by simp [Src.base])) its.toArray
    rw [List.size_toArray, ← hl] at D
    refine ⟨_, _, D, ?_, ⟨st, p⟩, fun i h q => q.1⟩
    · intro i v hv
      have hv' : its[i]? = some v := by simpa using hv
      have hi : i < xs.length := by
        have := (List.getElem?_eq_some_iff.mp hv').1
        omega
      obtain ⟨u, hu, ru⟩ := rv.get (List.getElem?_eq_getElem hi)
      rw [hu] at hv'
      cases hv'
      exact ⟨_, List.getElem?_eq_getElem hi, ru⟩
  | str x =>
    obtain ⟨t, st⟩ := st
    have hq : xs = chars x := hq
    subst hq
    have hl : (chars x).length = x.cps.size := by unfold chars; simp
    have D := Draws.text (prog := X.prog) (w := X.w) (A := A) hh it x t
    rw [← hl] at D
    refine ⟨_, _, D, ?_, st, fun i h q => ⟨t, q⟩⟩
    · rintro i v ⟨c, u, hc, rfl⟩
      refine ⟨.str ⟨#[c]⟩, ?_, ⟨u, rfl⟩⟩
      unfold chars
      rw [List.getElem?_map, Array.getElem?_toList, hc]
      rfl
theorem Src.begins {S : Src} {u : Value} (I : Inv X pins σ H s) (hq : S.at X.K H xs) (ru : RelV S.v u) :
    ∃ (o : Obj) (Hh : Heap → Prop), Begins u o Hh ∧ Hh s.heap ∧ (∀ b ∈ S.base, b < s.heap.objs.size) ∧ ∀ it h, h.get? it = some o → S.St it 0 h := by
  cases S with
  | lst a =>
    cases ru
    obtain ⟨its, rv, p, hz⟩ := I.list hq
    exact ⟨_, _, begins_list a its.toArray, p.isList, fun b hb => by rw [List.mem_singleton.mp hb]; exact p.lt, fun it h e => ⟨_, e, rfl, rfl⟩⟩
  | tup a =>
    cases ru
    obtain ⟨its, rv, p, hz⟩ := I.tuple hq
    obtain ⟨o1, ho1, _⟩ := id p
    exact ⟨_, _, begins_tuple a its.toArray, p, fun b hb => by rw [List.mem_singleton.mp hb]; exact Heap.lt_size ho1, fun it h e => ⟨_, e, rfl, rfl⟩⟩
  | str x =>
    obtain ⟨t, rfl⟩ := ru
    exact ⟨_, _, begins_text x t, trivial, fun b hb => absurd hb List.not_mem_nil, fun it h e => ⟨t, _, e, rfl, rfl⟩⟩
end
/-! ### enumerate(..) -/
def ItE (K : PySem.W.Frag) (S : Src) : It :=
  ⟨fun i H => ∃ (xs : List V) (x : V), S.at K H xs ∧ xs[i]? = some x, fun i H v H' => ∃ T x, v = .ref T ∧ H T = none ∧ H' = upd H T (.tup [.int (i : Nat), x]) ∧ ∀ xs, S.at K H xs → xs[i]? = some x, fun i H => ∃ xs : List V, S.at K H xs ∧ xs.length = i⟩
theorem turn_enumS {P : Program} {w : World} {K : PySem.W.Frag} {elts : List Expr} {kk : Nat} {tpos : Pos} (S : Src) (e it : Addr) (hb : ∀ b ∈ S.base, b ≠ it ∧ b ≠ e) :
    Turn P w K (.Tuple elts kk tpos) (ItE K S) [e, it] e (fun i h => (∃ old, IsEnum h e it ((i : Nat) : Int) old) ∧ S.St it i h ∧ e ≠ it) where
  mem := by simp
  obj := fun i h st b hb => by
    obtain ⟨⟨old, he⟩, hs, _⟩ := st
    have e' : b = e ∨ b = it := by simpa using hb
    rcases e' with z | z
    · rw [z]; exact ⟨_, he, fun v q => nomatch q⟩
    · rw [z]; exact hs.obj
  keep := fun i h h' st k => let ⟨⟨old, he⟩, hi, hne⟩ := st; ⟨⟨old, k e (by simp) _ he⟩, hi.at fun o q => k it (by simp) o q, hne⟩
  item := by
    intro X hP hw hK hc i pins s σ H E I hf st hg
    subst hP hw hK
    obtain ⟨⟨old, he⟩, hit, hne⟩ := st
    obtain ⟨xs, x0, hq, hx0⟩ := hg
    obtain ⟨P, St, D, hP, st0, hS⟩ := S.draws (A := X.A.in1) I (I.ok.hd hc) hq it (fun b h => (hb b h).1) i hit
    have hlt : i < xs.length := (List.getElem?_eq_some_iff.mp hx0).1
    have hef : e ∉ it :: S.base := fun h => by
      rcases List.mem_cons.mp h with h | h
      · exact hne h
      · exact (hb e h).2 rfl
    have hel : e < s.heap.objs.size := Heap.lt_size he
    have hil : it < s.heap.objs.size := by obtain ⟨_, q, _⟩ := hit.obj; exact Heap.lt_size q
    refine wpAny_pyNext_enum_itemD D he st0 hlt hne hef fun u h' tk hu ho hst' hT hsz hk => ?_
    obtain ⟨x, hx, ru⟩ := hP i u hu
    refine ⟨_, rfl, wpAny_letOwnedTupleGo_enum (s := { s with heap := h', toks := tk + 1 }) ho fun h'' he' sb => ?_⟩
    have hT2 : h''.get? s.heap.objs.size = some { cls := .type "tuple", data := .seq #[.int i tk, u] } := (sb.2 _ (Nat.ne_of_gt hel)).trans hT
    have new : ObjOk X.prog X.w (upd H s.heap.objs.size (.tup [.int (i : Nat), x])) h'' s.heap.objs.size (.tup [.int (i : Nat), x]) :=
      ⟨by show 2 ≤ sizeLine; decide, [.int i tk, u], .cons ⟨_, rfl⟩ (.cons ru .nil), ⟨_, hT2, rfl, _, rfl⟩⟩
    have I1 : Inv X pins σ (upd H s.heap.objs.size (.tup [.int (i : Nat), x])) { s with heap := h'', toks := tk + 1 } :=
      I.turnedNew (ch := [e, it]) (fun b ob hb q => (sb.2 b (fun z => hb (by simp [z]))).trans (hk b ob (fun z => hb (by simp [z])) (fun z => hb (by simp [z])) q)) hf (Nat.le_refl _) new
    refine ⟨.ref s.heap.objs.size, _, I1, rfl, ⟨_, x, rfl, I.hok.fresh (Nat.le_refl _), rfl, fun ys hy => by rw [S.inj I hy hq]; exact hx⟩, ⟨⟨u, ?_⟩, (hS _ _ hst').at fun o q => (sb.2 it (Ne.symm hne)).trans q, hne⟩, fun b hb => ?_⟩
    · have e1 : ((i + 1 : Nat) : Int) = (i : Int) + 1 := by omega
      rw [e1]; exact he'
    · have hb' : b < s.heap.objs.size := by
        have e' : b = e ∨ b = it := by simpa using hb
        rcases e' with z | z
        · rw [z]; exact hel
        · rw [z]; exact hil
      rw [upd_ne (Nat.ne_of_lt hb')]
      exact (hf b hb).1
  done := by
    intro X hP hw hK hc i pins s σ H E I hf st hg
    subst hP hw hK
    obtain ⟨⟨old, he⟩, hit, hne⟩ := st
    obtain ⟨xs, hq, hx⟩ := hg
    subst hx
    obtain ⟨P, St, D, hP, st0, hS⟩ := S.draws (A := X.A.in1) I (I.ok.hd hc) hq it (fun b h => (hb b h).1) _ hit
    obtain ⟨f0, f1, f2, f3, f4, f5⟩ := hf it (by simp)
    exact wpAny_pyNext_enum_endD D he st0 fun h' eb => ⟨rfl, I.turned (t' := s.toks) (fun b o hb q => eb b o hb q) f0 f1 f3 f4 f5⟩
  self := fun A i s Q E st h => let ⟨⟨_, he⟩, _⟩ := st; wpAny_pyIter_enum he h
theorem ad_ne {N : Nat} (i j : Nat) (h : i ≠ j) : N + i ≠ N + j := by omega
/-! ### zip(.., ..) -/
def ItZ (K : PySem.W.Frag) (S1 S2 : Src) : It :=
  ⟨fun i H => ∃ (xs ys : List V), S1.at K H xs ∧ S2.at K H ys ∧ i < xs.length ∧ i < ys.length,
    fun i H v H' => ∃ T x y, v = .ref T ∧ H T = none ∧ H' = upd H T (.tup [x, y]) ∧ (∀ xs, S1.at K H xs → xs[i]? = some x) ∧ ∀ ys, S2.at K H ys → ys[i]? = some y,
    fun i H => ∃ xs ys : List V, S1.at K H xs ∧ S2.at K H ys ∧ i = min xs.length ys.length⟩
theorem turn_zipS {P : Program} {w : World} {K : PySem.W.Frag} {elts : List Expr} {kk : Nat} {tpos : Pos} {S1 S2 : Src} {z TI TO i1 i2 : Addr} (D : ZipSep2 z TI TO i1 i2 (i1 :: S1.base) (i2 :: S2.base))
    (b1 : ∀ b ∈ S1.base, b ≠ i1) (b2 : ∀ b ∈ S2.base, b ≠ i2) :
    Turn P w K (.Tuple elts kk tpos) (ItZ K S1 S2) [z, TI, TO, i1, i2] z (fun i h => IsZip h z TI TO .none ∧ IsTupOf2 h TI (.ref i1) (.ref i2) ∧ (∃ x y, IsTupOf2 h TO x y) ∧ S1.St i1 i h ∧ S2.St i2 i h) where
  mem := by simp
  obj := fun i h st c hc => by
    obtain ⟨hz, hTI, ⟨x, y, hTO⟩, h1, h2⟩ := st
    have e' : c = z ∨ c = TI ∨ c = TO ∨ c = i1 ∨ c = i2 := by simpa using hc
    rcases e' with q | q | q | q | q
    · rw [q]; exact ⟨_, hz, fun v q => nomatch q⟩
    · rw [q]; exact ⟨_, hTI, fun v q => nomatch q⟩
    · rw [q]; exact ⟨_, hTO, fun v q => nomatch q⟩
    · rw [q]; exact h1.obj
    · rw [q]; exact h2.obj
  keep := fun i h h' st k => by
    obtain ⟨hz, hTI, ⟨x, y, hTO⟩, h1, h2⟩ := st
    exact ⟨k z (by simp) _ hz, k TI (by simp) _ hTI, ⟨x, y, k TO (by simp) _ hTO⟩, h1.at fun o q => k i1 (by simp) o q, h2.at fun o q => k i2 (by simp) o q⟩
  item := by
    intro X hP hw hK hc i pins s σ H E I hf st hg
    subst hP hw hK
    obtain ⟨hz, hTI, ⟨x0, y0, hTO⟩, h1, h2⟩ := st
    obtain ⟨xs, ys, hqx, hqy, hx, hy⟩ := hg
    obtain ⟨P1, St1, D1, hP1, st1, hS1⟩ := S1.draws (A := X.A.in1) I (I.ok.hd hc) hqx i1 b1 i h1
    obtain ⟨P2, St2, D2, hP2, st2, hS2⟩ := S2.draws (A := X.A.in1) I (I.ok.hd hc) hqy i2 b2 i h2
    have hzl : z < s.heap.objs.size := Heap.lt_size hz
    refine wpAny_pyNext_zipD2_item D D1 D2 hz hTI hTO st1 st2 hx hy fun u u2 h' tk p1 p2 z' TO' s1' s2' hT hsz hk => ?_
    obtain ⟨x, hx, ru⟩ := hP1 i u p1
    obtain ⟨y, hy, ru2⟩ := hP2 i u2 p2
    refine ⟨_, rfl, wpAny_letOwnedTupleGo_zip (s := { s with heap := h', toks := tk }) z' fun h'' z'' sb => ?_⟩
    have hT2 : h''.get? s.heap.objs.size = some { cls := .type "tuple", data := .seq #[u, u2] } := (sb.2 _ (Nat.ne_of_gt hzl)).trans hT
    have new : ObjOk X.prog X.w (upd H s.heap.objs.size (.tup [x, y])) h'' s.heap.objs.size (.tup [x, y]) :=
      ⟨by show 2 ≤ sizeLine; decide, [u, u2], .cons ru (.cons ru2 .nil), ⟨_, hT2, rfl, _, rfl⟩⟩
    have I1 : Inv X pins σ (upd H s.heap.objs.size (.tup [x, y])) { s with heap := h'', toks := tk } :=
      I.turnedNew (t' := tk) (ch := [z, TI, TO, i1, i2]) (fun c o hb q => (sb.2 c (fun q' => hb (by simp [q']))).trans (hk c o (fun q' => hb (by simp [q'])) (fun q' => hb (by simp [q'])) (fun q' => hb (by simp [q'])) (fun q' => hb (by simp [q'])) q)) hf (Nat.le_refl _) new
    refine ⟨.ref s.heap.objs.size, _, I1, rfl, ⟨_, x, y, rfl, I.hok.fresh (Nat.le_refl _), rfl, fun l hl => by rw [S1.inj I hl hqx]; exact hx, fun l hl => by rw [S2.inj I hl hqy]; exact hy⟩, ⟨z'', ?_, ⟨u, u2, ?_⟩, ?_, ?_⟩, fun c hcm => ?_⟩
    · exact (sb.2 _ D.TIz).trans (hk _ _ D.TIz D.TITO D.TIi1 D.TIi2 hTI)
    · exact (sb.2 _ D.TOz).trans TO'
    · exact (hS1 _ _ s1').at fun o q => (sb.2 _ D.zi1.symm).trans q
    · exact (hS2 _ _ s2').at fun o q => (sb.2 _ D.zi2.symm).trans q
    · have hlt : c < s.heap.objs.size := by
        have e' : c = z ∨ c = TI ∨ c = TO ∨ c = i1 ∨ c = i2 := by simpa using hcm
        rcases e' with q | q | q | q | q
        · rw [q]; exact hzl
        · rw [q]; exact Heap.lt_size hTI
        · rw [q]; exact Heap.lt_size hTO
        · rw [q]; obtain ⟨_, e1, _⟩ := h1.obj; exact Heap.lt_size e1
        · rw [q]; obtain ⟨_, e1, _⟩ := h2.obj; exact Heap.lt_size e1
      rw [upd_ne (Nat.ne_of_lt hlt)]
      exact (hf c hcm).1
  done := by
    intro X hP hw hK hc i pins s σ H E I hf st hg
    subst hP hw hK
    obtain ⟨hz, hTI, ⟨x0, y0, hTO⟩, h1, h2⟩ := st
    obtain ⟨xs, ys, hqx, hqy, hend⟩ := hg
    obtain ⟨P1, St1, D1, hP1, st1, hS1⟩ := S1.draws (A := X.A.in1) I (I.ok.hd hc) hqx i1 b1 i h1
    obtain ⟨P2, St2, D2, hP2, st2, hS2⟩ := S2.draws (A := X.A.in1) I (I.ok.hd hc) hqy i2 b2 i h2
    exact wpAny_pyNext_zipD2_end D D1 D2 hz hTI hTO st1 st2 (by omega) (by omega) (by omega) fun h' tk hk => ⟨rfl, I.turnedL (t' := tk) (ch := [z, TI, TO, i1, i2]) (fun c o hb q =>
      hk c o (fun q' => hb (by simp [q'])) (fun q' => hb (by simp [q'])) (fun q' => hb (by simp [q'])) (fun q' => hb (by simp [q'])) q) hf⟩
  self := fun A i s Q E st h => wpAny_pyIter_zip st.1 h
def iZipS (K : PySem.W.Frag) (ta : TA) : TI := fun σ H R => ta σ H fun vs H1 => ∃ S1 S2 xs ys, vs = [Src.v S1, Src.v S2] ∧ Src.at K H1 S1 xs ∧ Src.at K H1 S2 ys ∧ R (ItZ K S1 S2) H1
theorem pi_zipS {X : Cx} {e e2 : Expr} {ta : TA} {p pos tpos : Pos} {elts : List Expr} {kk : Nat} (hg : Gl X "zip") (hm : X.mg "zip" = none) (ha : PA X [e, e2] ta)
    (hs : starEach [e, e2] X.env = (false, eval e X.env) :: starEach [e2] X.env := by rfl) (hpl : (backTo pos (starEach [e2] X.env)).any (·.1) = false := by rfl) :
    PI X (.Tuple elts kk tpos) (.Call (.Name "zip" p) [e, e2] [] pos) (iZipS X.K ta) := by
  refine ⟨fun pins s σ H R I h => ?_⟩
  refine Call_ (ld_blt I hg hm PyProof.Rows.boot_zip (PyProof.Rows.callWith_type1 (thn (ha.run pos pins s σ H _ I h) fun us s1 ⟨vs, H1, I1, r1, q1⟩ => ?_) hs hpl))
  obtain ⟨S1, S2, xs, ys, ex, hqx, hqy, q⟩ := q1
  subst ex
  obtain ⟨u1, u2, rfl, ru1, ru2⟩ := vals2 r1
  obtain ⟨o1, G1, B1, g1, l1, m1⟩ := S1.begins I1 hqx ru1
  obtain ⟨o2, G2, B2, g2, l2, m2⟩ := S2.begins I1 hqy ru2
  refine zip_begins2 B1 B2 g1 g2 fun h' hz hTI hTO h1 h2 hsz hk => wpAny_pyIter_zip hz ?_
  have I2 : Inv X pins σ H1 { s1 with heap := h' } := I1.kept (t' := s1.toks) hk
  have n1 : ∀ {j : Nat}, (s1.heap.objs.size + j) ∉ S1.base := fun h => absurd (l1 _ h) (Nat.not_lt.mpr (Nat.le_add_right _ _))
  have n2 : ∀ {j : Nat}, (s1.heap.objs.size + j) ∉ S2.base := fun h => absurd (l2 _ h) (Nat.not_lt.mpr (Nat.le_add_right _ _))
  have sep : ZipSep2 (s1.heap.objs.size + 4) (s1.heap.objs.size + 2) (s1.heap.objs.size + 3) s1.heap.objs.size (s1.heap.objs.size + 1) (s1.heap.objs.size :: S1.base) ((s1.heap.objs.size + 1) :: S2.base) := by
    constructor
    · exact ad_ne 2 4 (by decide)
    · exact ad_ne 3 4 (by decide)
    · exact ad_ne 2 3 (by decide)
    · exact ad_ne 2 0 (by decide)
    · exact List.mem_cons_self ..
    · exact fun h => (List.mem_cons.mp h).elim (ad_ne 4 0 (by decide)) n1
    · exact fun h => (List.mem_cons.mp h).elim (ad_ne 3 0 (by decide)) n1
    · exact ad_ne 2 1 (by decide)
    · exact List.mem_cons_self ..
    · exact fun h => (List.mem_cons.mp h).elim (ad_ne 4 1 (by decide)) n2
    · exact fun h => (List.mem_cons.mp h).elim (ad_ne 3 1 (by decide)) n2
    · exact fun h => (List.mem_cons.mp h).elim (ad_ne 0 1 (by decide)) (n2 (j := 0))
    · exact fun h => (List.mem_cons.mp h).elim (ad_ne 1 0 (by decide)) n1
  refine ⟨s1.heap.objs.size + 4, [s1.heap.objs.size + 4, s1.heap.objs.size + 2, s1.heap.objs.size + 3, s1.heap.objs.size, s1.heap.objs.size + 1], _, _, H1, rfl, I2, turn_zipS sep (fun b hb => Nat.ne_of_lt (l1 b hb)) (fun b hb => Nat.ne_of_lt (Nat.lt_of_lt_of_le (l2 b hb) (Nat.le_add_right _ _))), ⟨hz, hTI, ⟨_, _, hTO⟩, m1 _ _ h1, m2 _ _ h2⟩, fun c hcm => ?_, q⟩
  have e' : c = s1.heap.objs.size + 4 ∨ c = s1.heap.objs.size + 2 ∨ c = s1.heap.objs.size + 3 ∨ c = s1.heap.objs.size ∨ c = s1.heap.objs.size + 1 := by simpa using hcm
  have hle : s1.heap.objs.size ≤ c := by
    rcases e' with z | z | z | z | z
    · rw [z]; exact Nat.le_add_right _ _
    · rw [z]; exact Nat.le_add_right _ _
    · rw [z]; exact Nat.le_add_right _ _
    · rw [z]; exact Nat.le_refl _
    · rw [z]; exact Nat.le_add_right _ _
  exact I1.fpOk hle (I1.hok.fresh hle)

theorem meets_enumB {v : Value} {o : Obj} {H : Heap → Prop} (B : Begins v o H) :
    Meets (Builtin.«enumerate.__new__» ⟨[.type "enumerate", v], []⟩) (fun _ R s => H s.heap ∧
      R (.ok (.ret (.ref (s.heap.push o).objs.size))) { s with heap := (s.heap.push o).push { cls := .type "enumerate", data := .fields #[.none, .bool false, .ref s.heap.objs.size, rawInt 0, .none, .none] } }) :=
  .of_wp fun prog w A R s h => by
    obtain ⟨hp, g, d, tk, os⟩ := s; obtain ⟨h1, h⟩ := h
    have hsub := sub_enumerate
    have q1 : ∀ {A' : Around} {E : Value → Shared → Prop} {Q : Value → Shared → Prop}, Q (.ref hp.objs.size) ⟨hp.push o, g, d, tk, os⟩ → wpAny (model prog w) A' (pyIter v) Q E ⟨hp, g, d, tk, os⟩ :=
      fun q => B.iter prog w _ _ ⟨hp, g, d, tk, os⟩ _ h1 q
    wp_walk using q1
    refine wpAny_stack_any fun st => wpAny_pure ?_
    split
    · rename_i c _ _ _ _ _
      cases (c == Value.type "enumerate")
      · wp_walk using q1
        exact ⟨_, rfl, h⟩
      · wp_walk using q1
        exact ⟨_, rfl, h⟩
    · wp_walk using q1
      exact ⟨_, rfl, h⟩
theorem enum_begins1 {prog : Program} {w : World} {A : Around} {E : Value → Shared → Prop} {s : Shared} {v : Value} {o : Obj} {H : Heap → Prop} {Q : Value → Shared → Prop} (B : Begins v o H) (h1 : H s.heap)
    (h : ∀ h', IsEnum h' (s.heap.objs.size + 1) s.heap.objs.size 0 .none → h'.get? s.heap.objs.size = some o → h'.objs.size = s.heap.objs.size + 2 →
      (∀ b o, s.heap.get? b = some o → h'.get? b = some o) → Q (.ref (s.heap.objs.size + 1)) { s with heap := h' }) :
    wpAny (model prog w) A (call (.type "enumerate") [v]) Q E s := by
  refine callType_new F.called_enumerate (by decide) (F.typeCall_enumerate_1 _) (F.newCall_enumerate_1 _) (fun obj => F.args_object_init_2 obj _) F.entry_enumerate_new
    (meets_enumB B) ⟨h1, ?_⟩
  have hz : (s.heap.push o).objs.size = s.heap.objs.size + 1 := Heap.size_push ..
  show _ ∧ _
  rw [hz]
  have he : IsEnum ((s.heap.push o).push { cls := .type "enumerate", data := .fields #[.none, .bool false, .ref s.heap.objs.size, rawInt 0, .none, .none] }) (s.heap.objs.size + 1) s.heap.objs.size 0 .none := by
    have := Heap.get?_push_size (s.heap.push o) (o := { cls := .type "enumerate", data := .fields #[.none, .bool false, .ref s.heap.objs.size, rawInt 0, .none, .none] }) rfl
    rw [hz] at this; exact this
  refine ⟨⟨_, he, rfl⟩, h _ he (Heap.get?_push_of_some _ (Heap.get?_push_size _ B.free)) (by rw [Heap.size_push, hz]) fun b o x => Heap.get?_push_of_some _ (Heap.get?_push_of_some _ x)⟩
def iEnumS (K : PySem.W.Frag) (ta : TA) : TI := fun σ H R => ta σ H fun vs H1 => ∃ S xs, vs = [Src.v S] ∧ Src.at K H1 S xs ∧ R (ItE K S) H1
theorem pi_enumS {X : Cx} {e : Expr} {ta : TA} {p pos tpos : Pos} {elts : List Expr} {kk : Nat} (hg : Gl X "enumerate") (hm : X.mg "enumerate" = none) (ha : PA X [e] ta) (hs : starEach [e] X.env = [(false, eval e X.env)] := by rfl) :
    PI X (.Tuple elts kk tpos) (.Call (.Name "enumerate" p) [e] [] pos) (iEnumS X.K ta) := by
  refine ⟨fun pins s σ H R I h => ?_⟩
  refine Call_ (ld_blt I hg hm boot_enumerate (PyProof.Rows.callWith_type1 (thn (ha.run pos pins s σ H _ I h) fun us s1 ⟨vs, H1, I1, r1, q1⟩ => ?_) hs rfl))
  obtain ⟨S, xs, ex, hq, q⟩ := q1
  subst ex
  obtain ⟨u, rfl, ru⟩ := vals1 r1
  obtain ⟨o, G, B, g, l, m⟩ := S.begins I1 hq ru
  refine enum_begins1 B g fun h' he h1 hsz hk => wpAny_pyIter_enum he ?_
  have I2 : Inv X pins σ H1 { s1 with heap := h' } := I1.kept (t' := s1.toks) hk
  refine ⟨s1.heap.objs.size + 1, [s1.heap.objs.size + 1, s1.heap.objs.size], _, _, H1, rfl, I2, turn_enumS S (s1.heap.objs.size + 1) s1.heap.objs.size (fun b hb => ⟨Nat.ne_of_lt (l b hb), Nat.ne_of_lt (Nat.lt_succ_of_lt (l b hb))⟩), ⟨⟨.none, he⟩, m _ _ h1, Nat.succ_ne_self _⟩, fun b hb => ?_, q⟩
  have e' : b = s1.heap.objs.size + 1 ∨ b = s1.heap.objs.size := by simpa using hb
  have hle : s1.heap.objs.size ≤ b := by
    rcases e' with z | z
    · rw [z]; exact Nat.le_add_right _ _
    · rw [z]; exact Nat.le_refl _
  exact I1.fpOk hle (I1.hok.fresh hle)
/-! ### list(..) of a text, a list, a tuple -/
theorem call_listS {X : Cx} (hc : X.calm = true) : CallR X (.type "list") (fun xs H Q => ∃ S ys, xs = [Src.v S] ∧ Src.at X.K H S ys ∧ ys.length ≤ sizeLine ∧ ∀ p, H p = none → Q (.ref p) (upd H p (.lst ys))) := by
  intro pins s σ H xs us Q I r h
  obtain ⟨S, ys, rfl, hq, hn, q⟩ := h
  cases S with
  | lst a => exact call_list_of pins s σ H _ us Q I r ⟨a, ys, rfl, .inl hq, q⟩
  | tup a => exact call_list_of pins s σ H _ us Q I r ⟨a, ys, rfl, .inr hq, q⟩
  | str x =>
    have hq : ys = chars x := hq
    subst hq
    obtain ⟨u, rfl, ru⟩ := vals1 r
    obtain ⟨t, rfl⟩ := ru
    have hl : (chars x).length = x.cps.size := by unfold chars; simp
    refine PySem.call_list_str (I.ok.hd hc) x t (hn := by rw [← hl]; exact hn) fun h' tk acc' c' hkeep hS hacc => ?_
    refine ⟨.ref s.heap.objs.size, upd H s.heap.objs.size (.lst (chars x)), I.laid hkeep (Nat.le_refl _) (show ObjOk X.prog X.w _ _ _ (.lst (chars x)) from ⟨hn, acc'.toList, c', ?_, ?_⟩), rfl, q _ (I.hok.fresh (Nat.le_refl _))⟩
    · have el : acc'.toList.length = acc'.size := by simp
      refine vals_of_at (by rw [el, hacc.1, hl]) fun j x' w h1 h2 => ?_
      obtain ⟨c, y, hcx, rfl⟩ := hacc.2 j w (by rw [← Array.getElem?_toList]; exact h2)
      have e1 : (chars x)[j]? = some (.str ⟨#[c]⟩) := by
        unfold chars
        rw [List.getElem?_map, Array.getElem?_toList, hcx]
        rfl
      rw [e1] at h1
      cases h1
      exact ⟨y, rfl⟩
    · exact hS
end PW
/-! Own layer: comprehensions and loops, by what is gone through and what has been gathered. -/
namespace PW
open PySem PySem.Spec PyProof.Rows L2 Evl
theorem ix_kdictK {X : Cx} {K : PySem.W.Frag} {w : World} (hK : X.K = K := by rfl) (hw : X.w = w := by rfl) : IxR X (rIxD K w) := by
  subst hK hw
  exact ix_kdict
theorem op_in_seqK {X : Cx} {K : PySem.W.Frag} (hK : X.K = K := by rfl) : OpR X (compareOp .In) (rIn K false) := by
  subst hK
  exact op_in_seq
theorem op_notIn_seqK {X : Cx} {K : PySem.W.Frag} (hK : X.K = K := by rfl) : OpR X (compareOp .NotIn) (rIn K true) := by
  subst hK
  exact op_notIn_seq
/-- a method's promise -/
structure CalM (P : Program) (w : World) (K : PySem.W.Frag) (mg : Str → Option Value) (base : Heap) (CX : CXT) (k : Nat) (f : Addr) (fd : FuncData) (ps : List Str) (sp : Sp) : Prop where
  ok : FnOk P w K mg base CX k f fd ps sp
  b : Binds K fd ps []
/-- all stands but the object at l -/
def Exo (l : Option Addr) (H H' : Hp) : Prop := ∀ a o, some a ≠ l → H a = some o → H' a = some o
theorem Exo.of {l : Option Addr} {H H' : Hp} (e : Ex H H') : Exo l H H' := fun a o _ h => e a o h
theorem Exo.refl {l : Option Addr} {H : Hp} : Exo l H H := fun _ _ _ h => h
theorem Exo.trans {l : Option Addr} {H H1 H2 : Hp} (a : Exo l H H1) (b : Exo l H1 H2) : Exo l H H2 := fun x o n h => b x o n (a x o n h)
theorem Exo.ex {H H' : Hp} (e : Exo none H H') : Ex H H' := fun a o h => e a o (fun z => nomatch z) h
theorem exo_t {K : PySem.W.Frag} {l : Option Addr} {H H' : Hp} {a : Addr} {xs : List V} (n : some a ≠ l) (e : Exo l H H') (h : SqT K H a xs) : SqT K H' a xs := by
  rcases h with (h | ⟨o, h⟩) | h
  · exact .inl (.inl (e _ _ n h))
  · exact .inl (.inr ⟨o, e _ _ n h⟩)
  · exact .inr h
theorem exo_l {K : PySem.W.Frag} {l : Option Addr} {H H' : Hp} {a : Addr} {xs : List V} (n : some a ≠ l) (e : Exo l H H') (h : SqL K H a xs) : SqL K H' a xs := by
  rcases h with (h | ⟨o, h⟩) | h
  · exact .inl (.inl (e _ _ n h))
  · exact .inl (.inr ⟨o, e _ _ n h⟩)
  · exact .inr h
theorem exo_upd {l : Option Addr} {H H' : Hp} {p : Addr} {o : HO} (e : Exo l H H') (h : H p = none) : Exo l H (upd H' p o) := fun a u n ha => by
  rw [upd_ne (ne_of_none ha h)]
  exact e a u n ha
/-- n items, the i-th of which is as `it` tells, in every heap in which all but l stands as in H0 -/
structure Wk (l : Option Addr) (J : It) (H0 : Hp) (n : Nat) (it : Nat → V → Hp → Prop) : Prop where
  go : ∀ i H, Exo l H0 H → i < n → J.go i H
  stop : ∀ H, Exo l H0 H → J.stop n H
  yld : ∀ i H x H', Exo l H0 H → i < n → J.yld i H x H' → Ex H H' ∧ it i x H'
def offl (l : Option Addr) : Src → Prop
  | .lst a => some a ≠ l
  | .tup a => some a ≠ l
  | .str _ => True
theorem Src.exo {K : PySem.W.Frag} {l : Option Addr} {H H' : Hp} {S : Src} {xs : List V} (n : offl l S) (e : Exo l H H') (h : S.at K H xs) : S.at K H' xs := by
  cases S with
  | lst a => exact exo_l n e h
  | tup a => exact exo_t n e h
  | str x => exact h
section
variable {K : PySem.W.Frag} {l : Option Addr} {H0 : Hp} {xs ys : List V} {a : Addr}
theorem wk_list (n : some a ≠ l) (h : SqL K H0 a xs) : Wk l (Itl K a) H0 xs.length (fun i x _ => xs[i]? = some x) where
  go := fun i H e hi => ⟨xs, xs[i], exo_l n e h, List.getElem?_eq_getElem hi⟩
  stop := fun H e => ⟨xs, exo_l n e h, Nat.le_refl _⟩
  yld := fun i H x H' e hi y => by
    obtain ⟨rfl, y⟩ := y
    exact ⟨Ex.refl _, y xs (exo_l n e h)⟩
theorem wk_tup (n : some a ≠ l) (h : SqT K H0 a xs) : Wk l (Itt K a) H0 xs.length (fun i x _ => xs[i]? = some x) where
  go := fun i H e hi => ⟨xs, xs[i], exo_t n e h, List.getElem?_eq_getElem hi⟩
  stop := fun H e => ⟨xs, exo_t n e h, Nat.le_refl _⟩
  yld := fun i H x H' e hi y => by
    obtain ⟨rfl, y⟩ := y
    exact ⟨Ex.refl _, y xs (exo_t n e h)⟩
theorem wk_range {lo : Int} {n : Nat} : Wk l (Itr lo n) H0 n (fun i x _ => x = .int (lo + i)) where
  go := fun i H e hi => hi
  stop := fun H e => Nat.le_refl _
  yld := fun i H x H' e hi y => by
    obtain ⟨rfl, y⟩ := y
    exact ⟨Ex.refl _, y⟩
theorem wk_str {x : Str} : Wk l (Its x) H0 x.cps.size (fun i v _ => ∃ c, x.cps[i]? = some c ∧ v = .str ⟨#[c]⟩) where
  go := fun i H e hi => hi
  stop := fun H e => Nat.le_refl _
  yld := fun i H x H' e hi y => by
    obtain ⟨rfl, y⟩ := y
    exact ⟨Ex.refl _, y⟩
theorem wk_enum {S : Src} (n : offl l S) (h : S.at K H0 xs) : Wk l (ItE K S) H0 xs.length (fun i v H => ∃ T x, v = .ref T ∧ H T = some (.tup [.int (i : Nat), x]) ∧ xs[i]? = some x) where
  go := fun i H e hi => ⟨xs, xs[i], Src.exo n e h, List.getElem?_eq_getElem hi⟩
  stop := fun H e => ⟨xs, Src.exo n e h, rfl⟩
  yld := fun i H v H' e hi y => by
    obtain ⟨T, x, rfl, hT, rfl, y⟩ := y
    exact ⟨Ex.new hT, T, x, rfl, upd_same, y xs (Src.exo n e h)⟩
theorem wk_zip {S1 S2 : Src} (n1 : offl l S1) (n2 : offl l S2) (h1 : S1.at K H0 xs) (h2 : S2.at K H0 ys) :
    Wk l (ItZ K S1 S2) H0 (min xs.length ys.length) (fun i v H => ∃ T x y, v = .ref T ∧ H T = some (.tup [x, y]) ∧ xs[i]? = some x ∧ ys[i]? = some y) where
  go := fun i H e hi => ⟨xs, ys, Src.exo n1 e h1, Src.exo n2 e h2, by omega, by omega⟩
  stop := fun H e => ⟨xs, ys, Src.exo n1 e h1, Src.exo n2 e h2, rfl⟩
  yld := fun i H v H' e hi y => by
    obtain ⟨T, x, y, rfl, hT, rfl, y1, y2⟩ := y
    exact ⟨Ex.new hT, T, x, y, rfl, upd_same, y1 xs (Src.exo n1 e h1), y2 ys (Src.exo n2 e h2)⟩
end
/-- what has been gathered after i items: the list at D -/
def LcP (l : Option Addr) (H1 : Hp) (D : Addr) (Acc : Nat → List V → Hp → Prop) (i : Nat) (H : Hp) : Prop := Exo l H1 H ∧ ∃ ys, H D = some (.lst ys) ∧ ys.length ≤ i ∧ Acc i ys H
section
variable {l : Option Addr} {H1 : Hp} {D : Addr} {Acc : Nat → List V → Hp → Prop} {i : Nat} {H : Hp} {ys : List V} {y : V}
theorem LcP.push (hD : H1 D = none) (e : Exo l H1 H) (h : H D = some (.lst ys)) (hl : ys.length ≤ i) (hn : i < sizeLine) (a : Acc (i + 1) (ys ++ [y]) (upd H D (.lst (ys ++ [y])))) :
    ∃ acc, H D = some (.lst acc) ∧ acc.length < sizeLine ∧ LcP l H1 D Acc (i + 1) (upd H D (.lst (acc ++ [y]))) :=
  ⟨ys, h, Nat.lt_of_le_of_lt hl hn, exo_upd e hD, ys ++ [y], upd_same, by rw [List.length_append]; exact Nat.succ_le_succ hl, a⟩
theorem LcP.skip (e : Exo l H1 H) (h : H D = some (.lst ys)) (hl : ys.length ≤ i) (a : Acc (i + 1) ys H) : LcP l H1 D Acc (i + 1) H := ⟨e, ys, h, Nat.le_succ_of_le hl, a⟩
end
theorem lc_acc {l : Option Addr} {J : It} {n : Nat} {it : Nat → V → Hp → Prop} {g : TG} {tt : TT} {te : TE} {vs : List Nat} {σ : L2.St} {H1 : Hp} {D : Addr} {Qd : Hp → Prop} (wk : Wk l J H1 n it) (hD : H1 D = none)
    (Acc : Nat → List V → Hp → Prop) (a0 : Acc 0 [] (upd H1 D (.lst []))) (me : ∀ i ys H H', Ex H H' → Acc i ys H → Acc i ys H')
    (hs : ∀ i x H ys, i < n → Exo l H1 H → H D = some (.lst ys) → ys.length ≤ i → Acc i ys H → it i x H → g x (wipe σ vs) H fun σ2 H2 => wipe σ2 vs = wipe σ vs ∧ tt σ2 H2 fun b H3 =>
      if b = true then te σ2 H3 fun y H4 => ∃ acc, H4 D = some (.lst acc) ∧ acc.length < sizeLine ∧ LcP l H1 D Acc (i + 1) (upd H4 D (.lst (acc ++ [y]))) else LcP l H1 D Acc (i + 1) H3)
    (hd : ∀ H ys, Exo l H1 H → H D = some (.lst ys) → Acc n ys H → Qd H) :
    ∃ W : Nat → Nat → Hp → Prop, (∃ m, W 0 m (upd H1 D (.lst []))) ∧ ∀ i m H, W i m H →
      (J.stop i H ∧ Qd H) ∨ (J.go i H ∧ ∃ Nx : Hp → Prop, (∀ H', Nx H' → ∃ m', m' < m ∧ W (i + 1) m' H') ∧ ∀ x H', J.yld i H x H' → g x (wipe σ vs) H' fun σ2 H2 => wipe σ2 vs = wipe σ vs ∧ tt σ2 H2 fun b H3 =>
        if b = true then te σ2 H3 fun y H4 => ∃ acc, H4 D = some (.lst acc) ∧ acc.length < sizeLine ∧ Nx (upd H4 D (.lst (acc ++ [y]))) else Nx H3) := by
  refine ⟨fun i m H => m = n - i ∧ i ≤ n ∧ LcP l H1 D Acc i H, ⟨n, rfl, Nat.zero_le _, exo_upd Exo.refl hD, [], upd_same, Nat.le_refl _, a0⟩, ?_⟩
  rintro i m H ⟨rfl, hi, e, ys, hy, hl, ha⟩
  by_cases hlt : i < n
  · refine .inr ⟨wk.go i H e hlt, LcP l H1 D Acc (i + 1), fun H' p' => ⟨n - (i + 1), by omega, rfl, hlt, p'⟩, fun x H' y => ?_⟩
    obtain ⟨ex, hx⟩ := wk.yld i H x H' e hlt y
    exact hs i x H' ys hlt (e.trans (Exo.of ex)) (ex _ _ hy) hl (me _ _ _ _ ex ha) hx
  · have z : i = n := by omega
    subst z
    exact .inl ⟨wk.stop H e, hd H ys e hy ha⟩
/-- a loop, by what is gone through; Pv of the i-th turn must outlast new objects -/
theorem for_wk {l : Option Addr} {J : It} {n : Nat} {it : Nat → V → Hp → Prop} {g : TG} {tb : TS} {D : Ends} {σ : L2.St} {H0 H : Hp} (wk : Wk l J H0 n it) (Pv : Nat → L2.St → Hp → Prop) (h0 : Pv 0 σ H)
    (he : ∀ i σ H, Pv i σ H → Exo l H0 H) (me : ∀ i σ H H', Ex H H' → Pv i σ H → Pv i σ H')
    (hs : ∀ i x σ H, i < n → it i x H → Pv i σ H → g x σ H fun σ2 H2 => tb { D with nx := Pv (i + 1), ct := Pv (i + 1), bk := D.nx } σ2 H2) (hd : ∀ σ H, Pv n σ H → D.nx σ H) :
    ∃ W : Nat → Nat → L2.St → Hp → Prop, (∃ m, W 0 m σ H) ∧ ∀ i m σ H, W i m σ H →
      (J.stop i H ∧ D.nx σ H) ∨ (J.go i H ∧ ∃ N : L2.St → Hp → Prop, (∀ σ' H', N σ' H' → ∃ m', m' < m ∧ W (i + 1) m' σ' H') ∧ ∀ x H', J.yld i H x H' → g x σ H' fun σ2 H2 => tb { D with nx := N, ct := N, bk := D.nx } σ2 H2) := by
  refine ⟨fun i m σ H => m = n - i ∧ i ≤ n ∧ Pv i σ H, ⟨n, rfl, Nat.zero_le _, h0⟩, ?_⟩
  rintro i m σ H ⟨rfl, hi, p⟩
  by_cases hlt : i < n
  · refine .inr ⟨wk.go i H (he _ _ _ p) hlt, Pv (i + 1), fun σ' H' p' => ⟨n - (i + 1), by omega, rfl, hlt, p'⟩, fun x H' y => ?_⟩
    obtain ⟨ex, hx⟩ := wk.yld i H x H' (he _ _ _ p) hlt y
    exact hs i x σ H' hlt hx (me _ _ _ _ ex p)
  · have z : i = n := by omega
    subst z
    exact .inl ⟨wk.stop H (he _ _ _ p), hd σ H p⟩
end PW
/-! Own layer: defs whose exceptions have no context (raised where nothing is handled). -/
namespace PW
open PySem PySem.Spec PyProof.Rows L2 Evl
theorem passLN {X : Cx} : Passes (L2N.CX X.prog X.w) X E0 := fun _ _ _ _ _ _ _ h => by
  obtain ⟨_, _, _, _, _, _, _, _, _, _, _, _, z⟩ := h
  exact z.elim
theorem takes0N {X : Cx} : L2N.Takes X (fun _ _ _ _ => False) := fun _ _ x => by
  obtain ⟨_, _, _, _, _, _, _, _, _, _, _, _, _, _, _, _, z⟩ := x
  exact z.elim
section
variable {P : Program} {w : World} {K : PySem.W.Frag} {mg : Str → Option Value} {base : Heap}
theorem _root_.L2.Fun.okXN {x qual : Str} {st : Stmt} {f : Addr} {fd : FuncData} {N ps : List Str} {k : Nat} {sp : Sp} (F : Fun K x qual st f fd) (S : FnScope N ps (defScope st)) (len : ∀ vs H Q E, sp vs H Q E → vs.length = ps.length)
    (hbody : ∀ (cdv : Value) (A : Around) (outer : List Env) (s : Shared) (H : Hp) (vs : List V) (Q : VK) (E : XK), Room k (A.deeper (envOfC qual (defScope st) s.heap.objs.size f cdv)) → sp vs H Q E →
      ∃ t, PSs (cxOf (L2N.CX P w) P w K mg base N qual (defScope st) f cdv A outer s H E) (defBody st) t ∧ t { nx := fun _ H' => Q .non H', rt := Q } (start N vs) H) : FnOk P w K mg base (L2N.CX P w) (k + 1) f fd ps sp := by
  obtain ⟨oc, od, kV, doc, pm, an, cdv, ct, osl, e, lk, hcd⟩ := F.ex
  subst e
  exact fn_of lk hcd S len fun A outer s H vs Q E hr hsp => hbody cdv A outer s H vs Q E hr hsp
end
end PW
/-! Own layer: a comprehension over a list within an except suite. -/
namespace PW
open PySem PySem.Spec PyProof.Rows L2 Evl
open HotX
section
variable {prog : Program} {w : World} {A : Around} {E : Value → Shared → Prop} {s : Shared}
/-- the list's end, where an exception without context is handled -/
theorem list_end_hot {it l x1 : Addr} {i : Nat} {items : Array Value} {Q : Option Value → Shared → Prop} (hot : HotAt A x1 s.heap) (hne : x1 ≠ it)
    (hit : s.heap.IsListIter it l i) (hl : s.heap.IsList l items) (hx : items[i]? = none)
    (hQ : ∀ h', (∀ b o, b ≠ it → s.heap.get? b = some o → h'.get? b = some o) → Q none { s with heap := h' }) : wpAny (model prog w) A (pyNext (.ref it)) Q E s := by
  obtain ⟨o, ho, hc, hd⟩ := id hit
  obtain ⟨ol, hol, _, nl, hdl⟩ := hl
  obtain ⟨hh, o1, vs1, h1, d1, c1⟩ := hot
  unfold pyNext
  refine wpAny_bind (wpAny_attempt (wpAny_callSpecial?_slot (name := Str.ofString "__next__") hit.typeIs slot_listiter_next
    (wpAny_call_entry slot_listiter_next hit.typeIs entry_listiter_next ?_ (args_listiter_next _))))
  show wpAny _ _ (field (.ref it) 0 >>= _) _ _ s
  refine wpAny_bind (wpAny_field ho hd (x := .ref l) rfl ?_)
  show wpAny _ _ (if (Value.ref l == Value.none) = true then _ else _) _ _ s
  rw [if_neg (show ¬ ((Value.ref l == Value.none) = true) from Bool.false_ne_true)]
  show wpAny _ _ (field (.ref it) 1 >>= _) _ _ s
  refine wpAny_bind (wpAny_field ho hd (x := .int i 0) rfl ?_)
  show wpAny _ _ (seqItems? (.ref l) >>= _) _ _ s
  refine wpAny_bind (wpAny_seqItems hol hdl ?_)
  simp only [Int.toNat_natCast, hx]
  refine wpAny_bind (wpAny_rule (wpAny_bind (wpAny_setField ho hd (by simp) ?_)))
  have h1' : (s.heap.update it (Obj.mapFields (·.setIfInBounds 0 .none))).get? x1 = some o1 := (Heap.get?_update_other _ _ (Ne.symm hne)).trans h1
  show wpAny _ _ (newExc (.type "StopIteration") [] >>= _) _ _ _
  refine wpAny_bind ?_
  simp only [newExc, newTuple]
  refine wpAny_bind (wpAny_newObj_type ?_ (by size_fits))
  refine wpAny_bind (m := firstArgMember _ _) (wpAny_of_eq (a := Value.none) (by first | rfl | (simp only [firstArgMember]; rfl)) ?_)
  refine wpAny_newObj_type ?_ (by size_fits)
  refine raiseNew_hot ⟨hh, o1, vs1, Heap.get?_push_of_some _ (Heap.get?_push_of_some _ h1'), d1, c1⟩ (Nat.ne_of_lt (Heap.lt_size (Heap.get?_push_of_some _ h1'))) (Heap.get?_push_size _ rfl) rfl (by first | (simp; done) | (simp; omega) | (simp only [Array.size_append]; simp; omega)) ?_
  refine wpAny_bind (wpAny_isInstance (T := "StopIteration") (b := true) ⟨_, Heap.get?_update_self _ (Heap.get?_push_size _ rfl) rfl, rfl⟩ isSubtype_stop ?_)
  refine wpAny_pure (hQ _ fun b o' nb e => ?_)
  have e' : (s.heap.update it (Obj.mapFields (·.setIfInBounds 0 .none))).get? b = some o' := (Heap.get?_update_other _ _ (Ne.symm nb)).trans e
  rw [Heap.get?_update_other _ _ (Nat.ne_of_gt (Heap.lt_size (Heap.get?_push_of_some _ e')))]
  exact Heap.get?_push_of_some _ (Heap.get?_push_of_some _ e')
theorem goes_hot {it l x1 : Addr} {items : Array Value} {target : Expr} (hh : A.handled = some (.ref x1)) (hne : x1 ≠ it) (hl : l ≠ it) :
    Goes prog w A target it [it, l, x1] [it] items.size (fun i v _ => items[i]? = some v) (fun i h => h.IsListIter it l i ∧ h.IsList l items ∧ ∃ (o : Obj) (vs : Array Value), h.get? x1 = some o ∧ o.data = .fields vs ∧ vs[2]? = some .none) where
  sub := fun b hb => by rw [List.mem_singleton.mp hb]; exact List.mem_cons_self ..
  frame := fun i h h' ⟨s1, s2, o, vs, h1, h2, h3⟩ k => ⟨s1.at fun o e => k it (by simp) o e, s2.at fun o e => k l (by simp) o e, o, vs, k x1 (by simp) o h1, h2, h3⟩
  goes := fun i s Q E hi ⟨s1, s2, o, vs, h1, h2, h3⟩ hQ => by
    refine wpAny_pyNext_list_item s1 s2 (x := items[i]) (by simp [hi]) fun h' s1' sb => ⟨_, rfl, ?_⟩
    obtain ⟨oi, e, c, d⟩ := id s1'
    refine go_of (s := { s with heap := h' }) e c d (by decide) (hQ items[i] h' s.toks (by simp [hi]) ⟨s1', s2.extBut sb.extBut hl, o, vs, sb.extBut _ _ hne h1, h2, h3⟩ (fun b o hb e => sb.extBut _ _ (fun z => hb (by simp [z])) e) (Nat.le_refl _))
  stops := fun s Q E ⟨s1, s2, o, vs, h1, h2, h3⟩ hQ =>
    list_end_hot ⟨hh, o, vs, h1, h2, h3⟩ hne s1 s2 (by simp) fun h' k => ⟨rfl, hQ h' s.toks (fun b o hb e => k b o (fun z => hb (by simp [z])) e) (Nat.le_refl _)⟩
  self := fun i s Q E ⟨s1, _⟩ h => wpAny_pyIter_listiter s1 h
end
/-- [int(y) for y in ..] of truth values, where an exception without context is handled -/
def tLcInt (K : PySem.W.Frag) (te : TE) : TE := fun σ H Q => te σ H fun v H1 => ∃ (p : Addr) (bs : List Bool), v = .ref p ∧ SqL K H1 p (bs.map V.bl) ∧ ∀ D, H1 D = none → Q (.ref D) (upd H1 D (.lst (bs.map fun b => V.int (if b = true then 1 else 0))))
theorem pe_lcInt {X : Cx} {y : Str} {iter : Expr} {te : TE} {scope : Scope} {pos px p1 p2 p3 : Pos} (hot : ∃ (a : Addr) (o : Obj), X.A.handled = some (.ref a) ∧ (a, o) ∈ X.pn ∧ ∃ vs : Array Value, o.data = .fields vs ∧ vs[2]? = some .none) (hi : PE X iter te) (hm : X.mg "int" = none)
    (hclos : closureFor scope X.env = pure []) (hcell : ∀ z ∈ scope.names, z.2 ≠ .cell) (hkind : scope.kind = .function) (hnames : ∀ z ∈ scope.names, z.2 = .local → scope.names.lookup z.1 = some .local)
    (hy : ∀ C, (compEnvC scope [] C X.env).kindOf y = some .local) (hint : ∀ C, (compEnvC scope [] C X.env).kindOf "int" = some .globalImplicit) (hyd : (y == ("__debug__" : Str)) = false)
    (hs : ∀ x, foldedSetIterable iter X.env x = pure x := by intro _; rfl) :
    PE X (.ListComp (.Call (.Name "int" p1) [.Name y p2] [] p3) [⟨.Name y px, iter, [], 0⟩] scope pos) (tLcInt X.K te) := by
  refine ⟨fun pins s σ H Q I h => ?_⟩
  refine ListComp_goes (cl := []) hclos hcell hkind hnames (thn (hi.run pins s σ H _ I h) fun xv s1 ⟨v, H1, I1, rv, p, bs, ev, hS, q⟩ => ?_) hs
  subst ev
  cases rv
  obtain ⟨its, rits, pl, hz⟩ := I1.list hS
  have hlen := rits.length
  rw [List.length_map] at hlen
  obtain ⟨x1, o1, hh, hmem, vs1, d1, c1⟩ := hot
  have hx1 : s1.heap.get? x1 = some o1 := (I1.pin (x1, o1) (List.mem_append_left _ hmem)).1
  have lx1 := Heap.lt_size hx1
  have lp := pl.lt
  refine wpAny_pyIter_list pl.isList ?_
  have up : ∀ b o, s1.heap.get? b = some o → (s1.heap.push { cls := .type "list_iterator", data := .fields #[.ref p, .int 0 0] }).get? b = some o := fun b o e => Heap.get?_push_of_some _ e
  refine ⟨s1.heap.objs.size, _, _, _, _, _, rfl, goes_hot (items := its.toArray) hh (Nat.ne_of_lt lx1) (Nat.ne_of_lt lp), by rw [List.size_toArray, ← hlen]; rw [List.length_map] at hz; exact hz, ⟨⟨_, Heap.get?_push_size _ rfl, rfl, rfl⟩, pl.isList.at fun o e => up _ _ e, o1, vs1, up _ _ hx1, d1, c1⟩, fun b hb => ?_, fun D C s3 cb => ?_⟩
  · have e : b = s1.heap.objs.size ∨ b = p ∨ b = x1 := by simpa using hb
    show b < (s1.heap.push _).objs.size
    rw [Heap.size_push]
    rcases e with e | e | e
    · rw [e]; exact Nat.lt_succ_self _
    · rw [e]; exact Nat.lt_succ_of_lt lp
    · rw [e]; exact Nat.lt_succ_of_lt lx1
  have szD : s1.heap.objs.size < D := by
    have := cb.newD
    rw [show ({ s1 with heap := s1.heap.push { cls := .type "list_iterator", data := .fields #[.ref p, .int 0 0] } } : Shared).heap.objs.size = s1.heap.objs.size + 1 from Heap.size_push ..] at this
    exact this
  have szC : s1.heap.objs.size < C := by
    have := cb.newC
    rw [show ({ s1 with heap := s1.heap.push { cls := .type "list_iterator", data := .fields #[.ref p, .int 0 0] } } : Shared).heap.objs.size = s1.heap.objs.size + 1 from Heap.size_push ..] at this
    exact this
  refine ⟨fun i ys s' => (∃ h tk, s' = { s1 with heap := h, toks := tk }) ∧ (∀ b o, s1.heap.get? b = some o → s'.heap.get? b = some o) ∧ (∃ m, s'.heap.Ns C m) ∧ Vals ((bs.take i).map fun b => V.int (if b = true then 1 else 0)) ys, ?_, ?_, ?_, ?_⟩
  · obtain ⟨h, tk, e⟩ := cb.only
    refine ⟨⟨h, tk, e⟩, fun b o e => cb.old b o (up b o e), ⟨_, cb.names⟩, .nil⟩
  · rintro i ys s' h' tk ⟨⟨h, tk0, e⟩, k, ⟨m, hm'⟩, hv⟩ keep _
    subst e
    refine ⟨⟨h', tk, rfl⟩, fun b o e => keep b o ?_ (k b o e), ⟨m, ?_⟩, hv⟩
    · have := Heap.lt_size e
      intro hb
      have e : b = D ∨ b = s1.heap.objs.size := by simpa using hb
      rcases e with e | e
      · rw [e] at this; exact absurd this (Nat.not_lt.mpr (Nat.le_of_lt szD))
      · rw [e] at this; exact absurd this (Nat.lt_irrefl _)
    · refine hm'.at fun o e => keep C o ?_ e
      intro hb
      have e : C = D ∨ C = s1.heap.objs.size := by simpa using hb
      rcases e with e | e
      · exact cb.ne e.symm
      · rw [e] at szC; exact Nat.lt_irrefl _ szC
  · rintro i v ys s' hi hv st ⟨⟨h, tk0, e⟩, k, ⟨m, hm'⟩, hys⟩ hD
    subst e
    have hil : i < bs.length := by rw [hlen]; simpa using hi
    obtain ⟨b, hb⟩ : ∃ b, bs[i]? = some b := ⟨_, List.getElem?_eq_getElem hil⟩
    have hvb : v = .bool b := by
      obtain ⟨u, hu, ru⟩ := rits.get (x := V.bl b) (by rw [List.getElem?_map, hb]; rfl)
      have hv' : its[i]? = some v := by simpa using hv
      rw [hu] at hv'
      cases hv'
      exact ru
    subst hvb
    have hk : (compEnvC scope [] C X.env).scope.kind = .function := hkind
    refine wpAny_assign_Name (wpAny_storeName_local (hy C) hm' (fun h2 hn2 sb2 => ?_) (by rw [hk]; rfl))
    show wpAny _ _ (testsOf [] _) _ _ _
    refine wpAny_pure ?_
    show wpAny _ _ (eval (.Call (.Name "int" p1) [.Name y p2] [] p3) _) _ _ _
    have kC : ∀ b o, s1.heap.get? b = some o → h2.get? b = some o := fun b o e => sb2.extBut b o (by have := Heap.lt_size e; exact Nat.ne_of_lt (Nat.lt_trans this szC)) (k b o e)
    have kb : ∀ b o, X.base.get? b = some o → h2.get? b = some o := fun b o e => kC b o (I1.bk b o e)
    obtain ⟨mb, g1, g2⟩ := I1.mod.blt
    have hgl : h2.Ns (compEnvC scope [] C X.env).globals X.mg := by
      show h2.Ns X.env.globals X.mg
      rw [I1.ok.glob]
      exact I1.mod.glob.keeps kb
    have hbl : h2.Ns (compEnvC scope [] C X.env).builtins mb := by
      show h2.Ns X.env.builtins mb
      rw [I1.ok.blt]
      exact g1.keeps kb
    refine wpAny_Call_Name_kw (Calls.Name_function_global hk (hint C) (Calls.loadGlobal_builtin hgl hm hbl (v := .type "int") ((g2 "int" (by decide)).trans (by decide +kernel)) ?_))
    refine PyProof.Rows.callWith_type1 ?_ rfl rfl
    refine Calls.spliced_cons (wpAny_Name (wpAny_loadName_local hk (hy C) hn2 (v := .bool b) (by rw [if_pos rfl]) ?_) hyd)
    refine Calls.spliced_nil ?_
    refine call_int_bool ?_
    refine ⟨⟨⟨_, _, rfl⟩, kC, ⟨_, hn2⟩, ?_⟩, ?_, ?_⟩
    · rw [List.take_add_one, hb, List.map_append]
      exact hys.append (.cons ⟨_, rfl⟩ .nil)
    · obtain ⟨t1, t2, o, vs, t3, t4, t5⟩ := st
      exact ⟨t1.at fun o e => sb2.extBut _ _ (Nat.ne_of_lt szC) e, t2.at fun o e => sb2.extBut _ _ (Nat.ne_of_lt (Nat.lt_trans lp szC)) e, o, vs, sb2.extBut _ _ (Nat.ne_of_lt (Nat.lt_trans lx1 szC)) t3, t4, t5⟩
    · obtain ⟨c, hc⟩ := hD
      exact ⟨c, sb2.extBut _ _ cb.ne hc⟩
  · rintro ys s' ⟨⟨h, tk0, e⟩, k, ⟨m, hm'⟩, hys⟩ hD
    subst e
    refine ⟨m, hm', fun h' sb => ?_⟩
    obtain ⟨c, hc⟩ := hD
    have hc' := sb.extBut _ _ cb.ne hc
    refine ⟨.ref D, upd H1 D (.lst (bs.map fun b => V.int (if b = true then 1 else 0))), I1.laid (fun b o e => sb.extBut b o (by have := Heap.lt_size e; exact Nat.ne_of_lt (Nat.lt_trans this szC)) (k b o e)) (Nat.le_of_lt szD) ⟨by rw [List.length_map] at hz ⊢; exact hz, ys, c, ?_, hc'⟩, rfl, q D (I1.hok.fresh (Nat.le_of_lt szD))⟩
    rw [List.size_toArray, ← hlen, List.take_length] at hys
    exact hys
theorem pe_lcIntK {X : Cx} {K : PySem.W.Frag} {y : Str} {iter : Expr} {te : TE} {scope : Scope} {pos px p1 p2 p3 : Pos} (hot : ∃ (a : Addr) (o : Obj), X.A.handled = some (.ref a) ∧ (a, o) ∈ X.pn ∧ ∃ vs : Array Value, o.data = .fields vs ∧ vs[2]? = some .none) (hi : PE X iter te) (hm : X.mg "int" = none)
    (hclos : closureFor scope X.env = pure []) (hcell : ∀ z ∈ scope.names, z.2 ≠ .cell) (hkind : scope.kind = .function) (hnames : ∀ z ∈ scope.names, z.2 = .local → scope.names.lookup z.1 = some .local)
    (hy : ∀ C, (compEnvC scope [] C X.env).kindOf y = some .local) (hint : ∀ C, (compEnvC scope [] C X.env).kindOf "int" = some .globalImplicit) (hyd : (y == ("__debug__" : Str)) = false) (hK : X.K = K := by rfl)
    (hs : ∀ x, foldedSetIterable iter X.env x = pure x := by intro _; rfl) :
    PE X (.ListComp (.Call (.Name "int" p1) [.Name y p2] [] p3) [⟨.Name y px, iter, [], 0⟩] scope pos) (tLcInt K te) := by
  subst hK
  exact pe_lcInt hot hi hm hclos hcell hkind hnames hy hint hyd hs
theorem hotN {X : Cx} {a : Addr} {cls : Value} {d : Option Addr} {oe : Obj} {pn : List (Addr × Obj)} (hz : L2N.Zn cls d oe) (hf : ∃ vs, oe.data = .fields vs) :
    ∃ (b : Addr) (o : Obj), (X.suite a ((a, oe) :: pn)).A.handled = some (.ref b) ∧ (b, o) ∈ (X.suite a ((a, oe) :: pn)).pn ∧ ∃ vs : Array Value, o.data = .fields vs ∧ vs[2]? = some .none :=
  let ⟨vs, h⟩ := hf
  ⟨a, oe, rfl, List.mem_cons_self, vs, h, hz.2.2 vs h⟩
theorem pe_indexK {X : Cx} {K : PySem.W.Frag} {o e : Expr} {to : TE} {t : TA} {apos cpos : Pos} (ho : PE X o to) (ha : PA X [e] t) (hK : X.K = K := by rfl)
    (hbase : attributeBase o "index" X.env (eval o X.env) = eval o X.env := by rfl)
    (hfew : ((backTo cpos (starEach [e] X.env)).all (fun x => !x.1) && (backToKw cpos (keywordEach [] X.env)).all (fun x => x.1.isSome)
      && decide (([e] : List Expr).length + ([] : List Keyword).length + (if ([] : List Keyword).isEmpty then 0 else 1) < 30)) = true := by rfl)
    (hline : (apos.endLine == cpos.line) = true := by rfl) (hs : starEach [e] X.env = (false, eval e X.env) :: starEach [] X.env := by rfl) (hplain : (backTo cpos (starEach [] X.env)).any (·.1) = false := by rfl) :
    PE X (.Call (.Attribute o "index" apos) [e] [] cpos) (tBM K "list" (rIndex K) to t) := by
  subst hK
  exact pe_bm PySem.F.plainAttrs_list PySem.F.slot_list_index PySem.F.type_list_index mt_index ho ha hbase hfew hline hs hplain
end PW
/-! Own layer: going through a list or a tuple, whichever it is; a tuple repeated any number of times. -/
namespace PW
open PySem PySem.Spec PyProof.Rows L2 Evl
def Src.sq : Src → Prop
  | .lst _ => True
  | .tup _ => True
  | .str _ => False
def ItP (K : PySem.W.Frag) : Src → It
  | .lst a => Itl K a
  | .tup a => Itt K a
  | .str x => Its x
def iSrc (K : PySem.W.Frag) (te : TE) : TI := fun σ H R => te σ H fun v H1 => ∃ S : Src, v = S.v ∧ S.sq ∧ (∃ xs, S.at K H1 xs) ∧ R (ItP K S) H1
theorem pi_src {X : Cx} {tg l : Expr} {te : TE} (he : PE X l te) : PI X tg l (iSrc X.K te) := by
  constructor
  intro pins s σ H R I h
  refine thn (he.run pins s σ H _ I h) ?_
  rintro u s2 ⟨z, H2, J, ru, S, hz, hs, ⟨ys, hy⟩, q⟩
  subst hz
  cases S with
  | lst b =>
    cases ru
    obtain ⟨is, _, pb, _⟩ := J.list hy
    refine wpAny_pyIter_list pb.isList ?_
    refine ⟨s2.heap.objs.size, [s2.heap.objs.size], _, _, H2, rfl, J.kept (t' := s2.toks) (fun c o w => Heap.get?_push_of_some _ w), turn_list b _, ⟨_, Heap.get?_push_size _ rfl, rfl, rfl⟩, ?_, q⟩
    intro c hc
    rw [List.mem_singleton.mp hc]
    exact J.fpOk (Nat.le_refl _) (J.hok.fresh (Nat.le_refl _))
  | tup b =>
    cases ru
    obtain ⟨is, _, pb, _⟩ := J.tuple hy
    refine wpAny_pyIter_tuple (items := is.toArray) pb ?_
    refine ⟨s2.heap.objs.size, [s2.heap.objs.size], _, _, H2, rfl, J.kept (t' := s2.toks) (fun c o w => Heap.get?_push_of_some _ w), turn_tuple b _, ⟨_, Heap.get?_push_size _ rfl, rfl, rfl⟩, ?_, q⟩
    intro c hc
    rw [List.mem_singleton.mp hc]
    exact J.fpOk (Nat.le_refl _) (J.hok.fresh (Nat.le_refl _))
  | str x => exact hs.elim
theorem wk_src {K : PySem.W.Frag} {l : Option Addr} {H0 : Hp} {xs : List V} {S : Src} (hs : S.sq) (n : offl l S) (h : S.at K H0 xs) : Wk l (ItP K S) H0 xs.length (fun i x _ => xs[i]? = some x) := by
  cases S with
  | lst a => exact wk_list n h
  | tup a => exact wk_tup n h
  | str x => exact hs.elim
/-! ### objects of own classes, asked for their class -/
structure InsC (K : PySem.W.Frag) (C : Addr) : Prop where
  ha : PySem.W.findIn K (.ref C) "__class__" = some (some (.builtin "object.__class__"))
  hn : PySem.W.specialIn K (.builtin "object.__class__") "__get__" = some (some (.builtin "getset_descriptor.__get__"))
  ht : PySem.W.takesIn K (.builtin "object.__class__") = some true
  hm : PySem.W.mroIn K C (.type "object") = some true
theorem InsC.ty {K : PySem.W.Frag} {H : Hp} {a C dx : Addr} {fs : List (Str × V)} (i : InsC K C) (cl : Cls K C) (e : H a = some (.ins C dx fs)) : TyX K H (.ref a) (.ref C) := .base (.ins e cl i.ha i.hn i.ht i.hm)
/-! ### rules that are told K -/
theorem pe_fldK {X : Cx} {K : PySem.W.Frag} {e : Expr} {f : Str} {pos : Pos} {ta : TE} (he : PE X e ta) (hb : attributeBase e f X.env (eval e X.env) = eval e X.env) (hK : X.K = K := by rfl) : PE X (.Attribute e f pos) (tFld K ta f) := by
  subst hK
  exact pe_fld he hb
theorem sl_tupK {X : Cx} {K : PySem.W.Frag} (hK : X.K = K := by rfl) : SlR X (rSlA K) := by
  subst hK
  exact sl_tupA
theorem op_catK {X : Cx} {K : PySem.W.Frag} (hK : X.K = K := by rfl) : OpR X (binaryOp .Add) (rCatA K) := by
  subst hK
  exact op_catA
/-! ### a tuple, repeated -/
theorem tup_mul1 (l : Addr) (items : Array Value) (n : Nat) (dd : Option Addr) (sl : Array (Option Value)) (u : Tok) :
    Meets (Builtin.«tuple.__mul__» ⟨[.ref l, .int 1 u], []⟩) (fun _ R s => s.heap.get? l = some { cls := .type "tuple", dict := dd, data := .seq items n, slots := sl } ∧ ∀ tk, R (.ok (.ret (Value.ref l))) { s with toks := tk }) :=
  .of_wp fun prog w A R s h => by
    obtain ⟨hp, g, d, tk, os⟩ := s
    obtain ⟨hl, h⟩ := h
    have f1 := AutoSeq1.idx_int
    have c0 : (decide ((1 : Int) < -(2 ^ 63)) || decide ((1 : Int) ≥ 2 ^ 63)) = false := by decide
    have c1 : (items.isEmpty || (1 : Int) == 1) = true := by simp
    wp_walk using wpAny_loadPart' hl
    exact ⟨_, rfl, h tk⟩
theorem tup_mul0 (l : Addr) (items : Array Value) (n : Nat) (dd : Option Addr) (sl : Array (Option Value)) (u : Tok) (hne : items.isEmpty = false) :
    Meets (Builtin.«tuple.__mul__» ⟨[.ref l, .int 0 u], []⟩) (fun _ R s => s.heap.get? l = some { cls := .type "tuple", dict := dd, data := .seq items n, slots := sl } ∧
      R (.ok (.ret (Value.ref s.heap.objs.size))) { s with heap := s.heap.push { cls := Value.type "tuple", data := Data.seq #[] }, toks := s.toks }) :=
  .of_wp fun prog w A R s h => by
    obtain ⟨hp, g, d, tk, os⟩ := s
    obtain ⟨hl, h⟩ := h
    have f1 := AutoSeq1.idx_int
    have c0 : (decide ((0 : Int) < -(2 ^ 63)) || decide ((0 : Int) ≥ 2 ^ 63)) = false := by decide
    have c1 : (items.isEmpty || (0 : Int) == 1) = false := by rw [hne]; decide
    have c2 : (decide ((0 : Int) ≤ 0) || items.isEmpty) = true := by simp
    wp_walk using wpAny_loadPart' hl
    exact ⟨_, rfl, h⟩
def rRepA (K : PySem.W.Frag) : R2 := fun x y H Q => ∃ l k ys, x = .ref l ∧ y = .int k ∧ SqT K H l ys ∧ ys ≠ [] ∧ 0 ≤ k ∧ k ≤ 1000 ∧ ys.length ≤ 1000 ∧ (k = 1 → Q (.ref l) H) ∧ (k ≠ 1 → ∀ p, H p = none → Q (.ref p) (upd H p (.tup (List.replicate k.toNat ys).flatten)))
theorem op_repA {X : Cx} {K : PySem.W.Frag} (hK : X.K = K := by rfl) : OpR X (binaryOp .Mult) (rRepA K) := by
  subst hK
  intro pins s σ H x y v u Q I rx ry h
  obtain ⟨l, k, ys, rfl, rfl, hT, hne, k0, k9, hz, q1, q2⟩ := h
  by_cases h2 : 2 ≤ k
  · exact op_repT pins s σ H _ _ v u Q I rx ry ⟨l, k, ys, rfl, rfl, hT, hne, h2, k9, hz, q2 (by omega)⟩
  cases rx
  obtain ⟨c, rfl⟩ := ry
  obtain ⟨is, rv, ⟨⟨oc, od, dt, os⟩, hg, hcl, m, hdt⟩, _⟩ := I.tuple hT
  simp only at hcl hdt
  subst hcl hdt
  have hni : is ≠ [] := fun e => hne (List.eq_nil_of_length_eq_zero (by rw [rv.length, e]; rfl))
  have hem : is.toArray.isEmpty = false := by
    cases is with
    | nil => exact absurd rfl hni
    | cons a b => rfl
  by_cases h1 : k = 1
  · subst h1
    refine wpAny_binaryOp_repeat_ref (T := "tuple") (U := "int") (by decide) ⟨_, hg, rfl⟩ (fun z => typeIs_int z 1 c) noFill_tuple_mul F.fills_int_mul F.slot_int_rmul repeat_tuple F.slot_int_index.lookup ?_
    refine call_meets F.slot_int_rmul (typeIs_int s 1 c) F.entry_int_rmul (F.args_int_rmul_2 _ _) (int_rmul_tuple 1 c l is.toArray m od os) ?_
    refine ⟨hg, rfl, ⟨_, hg, rfl⟩, ?_⟩
    refine call_meets F.slot_tuple_mul ⟨_, hg, rfl⟩ F.entry_tuple_mul (F.args_tuple_mul_2 _ _) (tup_mul1 l is.toArray m od os c) ⟨hg, fun tk => ?_⟩
    exact ⟨.ref l, H, I.tok tk, rfl, q1 rfl⟩
  · have h0 : k = 0 := by omega
    subst h0
    refine wpAny_binaryOp_repeat_ref (T := "tuple") (U := "int") (by decide) ⟨_, hg, rfl⟩ (fun z => typeIs_int z 0 c) noFill_tuple_mul F.fills_int_mul F.slot_int_rmul repeat_tuple F.slot_int_index.lookup ?_
    refine call_meets F.slot_int_rmul (typeIs_int s 0 c) F.entry_int_rmul (F.args_int_rmul_2 _ _) (int_rmul_tuple 0 c l is.toArray m od os) ?_
    refine ⟨hg, rfl, ⟨_, hg, rfl⟩, ?_⟩
    refine call_meets F.slot_tuple_mul ⟨_, hg, rfl⟩ F.entry_tuple_mul (F.args_tuple_mul_2 _ _) (tup_mul0 l is.toArray m od os c hem) ⟨hg, ?_⟩
    refine ⟨.ref s.heap.objs.size, _, I.laid (t' := s.toks) (o := .tup (List.replicate (0 : Int).toNat ys).flatten) (fun b z e => Heap.get?_push_of_some _ e) (Nat.le_refl _) ?_, rfl, q2 h1 _ (I.hok.fresh (Nat.le_refl _))⟩
    exact ⟨Nat.zero_le _, [], .nil, IsTup.new _ _⟩
end PW
/-! Own layer: == by an own __eq__ with either answer; objects that are made, and methods that are called, in a try. -/
namespace PW
open PySem PySem.Spec PyProof.Rows L2 Evl
theorem pi_tupK {X : Cx} {K : PySem.W.Frag} {tg e : Expr} {te : TE} (he : PE X e te) (hK : X.K = K := by rfl) : PI X tg e (iTup K te) := by
  subst hK
  exact pi_tup he
theorem pi_listK {X : Cx} {K : PySem.W.Frag} {tg e : Expr} {te : TE} (he : PE X e te) (hK : X.K = K := by rfl) : PI X tg e (iList K te) := by
  subst hK
  exact pi_list he
theorem call_listSK {X : Cx} {K : PySem.W.Frag} (hc : X.calm = true) (hK : X.K = K := by rfl) : CallR X (.type "list") (fun vs H Q => ∃ S ys, vs = [Src.v S] ∧ Src.at K H S ys ∧ ys.length ≤ sizeLine ∧ ∀ p, H p = none → Q (.ref p) (upd H p (.lst ys))) := by
  subst hK
  exact call_listS hc
theorem call_tupleK {X : Cx} {K : PySem.W.Frag} (hK : X.K = K := by rfl) : CallR X (.type "tuple") (fun vs H Q => ∃ p ys, vs = [.ref p] ∧ ((SqL K H p ys ∧ ∀ l, H l = none → Q (.ref l) (upd H l (.tup ys))) ∨ (SqT K H p ys ∧ Q (.ref p) H))) := by
  subst hK
  exact call_tuple_of
section
variable {X : Cx} {CX : CXT} {C f : Addr} {fd : FuncData} {ps : List Str} {k : Nat} {sp : Sp}
def rEqOwn (C : Addr) (sp : Sp) (E : XK) : R2 := fun x y H Q => ∃ a b dx dy fs gs, x = .ref a ∧ y = .ref b ∧ H a = some (.ins C dx fs) ∧ H b = some (.ins C dy gs) ∧ sp [.ref a, .ref b] H (fun v H' => ∃ t : Bool, v = .bl t ∧ Q (.bl t) H') E
theorem op_eqOwn {E : XK} (F : FnOk X.prog X.w X.K X.mg X.base CX k f fd ps sp) (hr : Room k X.A) (hs : PySem.W.findIn X.K (.ref C) "__eq__" = some (some (.ref f))) (hf : PySem.W.isFn X.K (.ref f) = true) (hb : Binds X.K fd ps []) (hx : Passes CX X E) :
    OpR X (compareOp .Eq) (rEqOwn C sp E) := by
  intro pins s σ H x y v u Q I rx ry hq
  obtain ⟨a, b, dx, dy, fs, gs, rfl, rfl, ha, hbb, hsp⟩ := hq
  cases rx
  cases ry
  show wpAny (model X.prog X.w) X.A (richCompare .Eq (.ref a) (.ref b)) (EP X pins σ Q) X.xe s
  obtain ⟨_, Ja, _⟩ := ins_get I.hok ha
  obtain ⟨_, Jb, _⟩ := ins_get I.hok hbb
  obtain ⟨_, Ja, _⟩ := Ja.look
  obtain ⟨_, Jb, _⟩ := Jb.look
  obtain ⟨_, hF⟩ := I.fr
  refine PySem.W.cmp_K (op := .Eq) (tb := .ref C) hr.units0 hF I.ok.mod.kin Ja Jb.type (by simp [PySem.W.notFirst]) hs hf ?_
  have hl := F.len _ _ _ _ hsp
  have rv : Vals [V.ref a, V.ref b] [Value.ref a, Value.ref b] := .cons rfl (.cons rfl .nil)
  have bd := hb s [.ref a, .ref b] I.kIn (by simpa using hl)
  refine wpAny_call (codeAny_mono (F.run X.A X.stack s H ⟨[.ref a, .ref b], []⟩ [.ref a, .ref b] [.ref a, .ref b] _ E hr I.env0 (by simpa using bd) rv hsp) fun r s' hq => ?_)
  cases r with
  | error e => exact hx pins σ H s e s' I hq
  | ok fl =>
    cases fl with
    | ret z =>
      obtain ⟨c, H', J, rz, t, ez, q⟩ := I.after hq
      subst ez
      cases (show z = Value.bool t from rz)
      exact ⟨.bl t, H', J, rfl, q⟩
    | next => exact False.elim hq
    | brk => exact False.elim hq
    | cont => exact False.elim hq
def tMakeS (C : Addr) (sp : Sp) (E : L2.St → XK) (t : TA) : TE := fun σ H Q => t σ H fun vs H1 => ∀ x dx, H1 x = none → H1 dx = none → dx ≠ x → sp (.ref x :: vs) (upd (upd H1 dx (.own x)) x (.ins C dx [])) (fun v H2 => v = .non ∧ Q (.ref x) H2) (E σ)
theorem pe_makeS {x : Str} {e : Expr} {es : List Expr} {p pos : Pos} {t : TA} {E : L2.St → XK} (M : Mk X.K C f) (F : FnOk X.prog X.w X.K X.mg X.base CX k f fd ps sp) (hr : Room (k + 1) X.A) (hg : Gl X x) (hm : X.mg x = some (.ref C)) (hb : Binds X.K fd ps []) (hx : ∀ σ, PassesAt CX X σ (E σ))
    (ha : PA X (e :: es) t) (hdb : (x == ("__debug__" : Str)) = false := by decide) (he : starEach (e :: es) X.env = (false, eval e X.env) :: starEach es X.env := by rfl) (hpl : (backTo pos (starEach es X.env)).any (·.1) = false := by rfl) :
    PE X (.Call (.Name x p) (e :: es) [] pos) (tMakeS C sp E t) := by
  constructor
  intro pins s σ H Q I h
  refine wpAny_Call_Name_kw (ld_glob I hg hm ?_ hdb)
  refine PySem.W.callWith_K (h₀ := X.base) I.ok.mod.kin M.kp (thn (ha.run pos pins s σ H _ I h) ?_) he hpl
  rintro us s1 ⟨vs, H1, J, r, q⟩
  refine ⟨J.kIn, ?_⟩
  have hq := q (s1.heap.objs.size + 1) s1.heap.objs.size (J.hok.fresh (Nat.le_succ _)) (J.hok.fresh (Nat.le_refl _)) (Nat.ne_of_lt (Nat.lt_succ_self _))
  have J2 := Inv.made (C := C) J
  have rv : Vals (V.ref (s1.heap.objs.size + 1) :: vs) (Value.ref (s1.heap.objs.size + 1) :: us) := .cons rfl r
  have hl : (Value.ref (s1.heap.objs.size + 1) :: us).length = ps.length := by
    have e := rv.length
    rw [F.len _ _ _ _ hq] at e
    exact e.symm
  have bd := hb _ (Value.ref (s1.heap.objs.size + 1) :: us) J2.kIn (by rw [List.append_nil]; exact hl)
  rw [List.append_nil] at bd
  refine wpAny_call (make_map (f := f) J.kIn M.makes M.init (beq_iff_eq.mp M.fn) (codeAny_mono (F.run _ X.stack _ _ ⟨Value.ref (s1.heap.objs.size + 1) :: us, []⟩ (Value.ref (s1.heap.objs.size + 1) :: us) _ _ (E σ) (hr.make C us []) (J2.env0.make C us []) bd rv hq) fun rr s2 hq2 => ?_))
  cases rr with
  | error er => exact hx σ pins _ _ er s2 J2 hq2
  | ok fl =>
    cases fl with
    | ret u =>
      obtain ⟨v, H', J3, rr, ev, q3⟩ := J2.after hq2
      subst ev
      exact ⟨rr, ⟨V.ref (s1.heap.objs.size + 1), H', J3, rfl, q3⟩⟩
    | next => exact False.elim hq2
    | brk => exact False.elim hq2
    | cont => exact False.elim hq2
def tMethS (C : Addr) (m : Str) (sp : Sp) (E : L2.St → XK) (ta : TE) (t : TA) : TE := fun σ H Q => ta σ H fun x H1 => ∃ a dx fs, x = .ref a ∧ H1 a = some (.ins C dx fs) ∧ fs.lookup m = none ∧ t σ H1 fun vs H2 => sp (.ref a :: vs) H2 Q (E σ)
theorem pe_methT {o e : Expr} {es : List Expr} {m : Str} {apos pos : Pos} {pl : Sem Bool} {ta : TE} {t : TA} {E : L2.St → XK} (he : PE X o ta) (c : Cls X.K C) (hm : Meth X.K C m f) (F : FnOk X.prog X.w X.K X.mg X.base CX k f fd ps sp) (hr : Room k X.A) (hb : Binds X.K fd ps []) (hx : ∀ σ, PassesAt CX X σ (E σ)) (ha : PA X (e :: es) t)
    (hst : starEach (e :: es) X.env = (false, eval e X.env) :: starEach es X.env := by rfl) (hpl : (backTo pos (starEach es X.env)).any (·.1) = false := by rfl)
    (ht : eval (.Call (.Attribute o m apos) (e :: es) [] pos) X.env = (do
      let w ← eval o X.env
      standAt apos.atName
      let (g, z) ← holding [w] (getMethod w m pl)
      callWith pos g z (backTo pos (starEach (e :: es) X.env)) (backToKw pos (keywordEach [] X.env))) := by rfl) :
    PE X (.Call (.Attribute o m apos) (e :: es) [] pos) (tMethS C m sp E ta t) := by
  constructor
  intro pins s σ H Q I h
  refine PySem.W.methodCall_KW (pl := pl) (thn (he.run pins s σ H _ I h) ?_) ht
  rintro u s1 ⟨x, H1, J, rx, a, dx, fs, ex, ea, l, q⟩
  subst ex
  obtain rfl : u = Value.ref a := rx
  refine getmeth_ok J ea c hm l ?_
  refine PySem.W.callWith_K (first := [.ref a]) (h₀ := X.base) I.ok.mod.kin hm.kp (thn (ha.run pos pins s1 σ H1 _ J q) ?_) hst hpl
  rintro us s2 ⟨vs, H2, J2, r, q2⟩
  exact ⟨J2.kIn, run_fnS (us := .ref a :: us) (vs := .ref a :: vs) F hr hb (hx σ) J2 (.cons rfl r) q2⟩
end
end PW
/-! Own layer: mirrors. Values as typed data, heaps in a frozen part and lists that the def owns. -/
namespace MI
open PySem PySem.Spec PyProof.Rows L2 Evl PW
/-! ### results -/
inductive Exn where
  | BadNumber | NotNumber | NotMatrix | NoAnswer | NotPlanes | NotPoint | NotRow | TooLarge | Malformed | NotFlat | NotSum | NotGraph | NotPoly | NotStrokes | NotSigns | Other (n : Nat)
  deriving DecidableEq
inductive Res (α : Type) where
  | ok (a : α) | exc (e : Exn) | bad
def Res.bind {α β : Type} : Res α → (α → Res β) → Res β
  | .ok a, f => f a
  | .exc e, _ => .exc e
  | .bad, _ => .bad
@[simp] theorem Res.ok_bind {α β : Type} (a : α) (f : α → Res β) : (Res.ok a).bind f = f a := rfl
@[simp] theorem Res.exc_bind {α β : Type} (e : Exn) (f : α → Res β) : (Res.exc e : Res α).bind f = .exc e := rfl
@[simp] theorem Res.bad_bind {α β : Type} (f : α → Res β) : (Res.bad : Res α).bind f = .bad := rfl
theorem Res.assoc {α β γ : Type} (m : Res α) (f : α → Res β) (g : β → Res γ) : (m.bind f).bind g = m.bind fun a => (f a).bind g := by
  cases m <;> rfl
/-- exceptions taken as failures -/
def Res.only {α : Type} : Res α → Res α
  | .ok a => .ok a
  | _ => .bad
@[simp] theorem Res.only_ok {α : Type} (a : α) : (Res.ok a).only = .ok a := rfl
/-! ### data -/
inductive D where
  | non | bl (b : Bool) | int (i : Int) | str (x : Str) | lst (xs : List D) | tup (xs : List D) | obj (C : Addr) (ns : List Str) (ds : List D)
mutual
inductive Rep (K : PySem.W.Frag) (F : Hp) : V → D → Prop
  | non : Rep K F .non .non
  | bl (b : Bool) : Rep K F (.bl b) (.bl b)
  | int (i : Int) : Rep K F (.int i) (.int i)
  | str (x : Str) : Rep K F (.str x) (.str x)
  | lst {a : Addr} {xs : List V} {ds : List D} : F a = some (.lst xs) → xs.length ≤ sizeLine → Reps K F xs ds → Rep K F (.ref a) (.lst ds)
  | tup {a : Addr} {xs : List V} {ds : List D} : SqT K F a xs → xs.length ≤ sizeLine → Reps K F xs ds → Rep K F (.ref a) (.tup ds)
  | obj {a C dx : Addr} {ns : List Str} {xs : List V} {ds : List D} : F a = some (.ins C dx (ns.zip xs)) → xs.length = ns.length → Reps K F xs ds → Rep K F (.ref a) (.obj C ns ds)
inductive Reps (K : PySem.W.Frag) (F : Hp) : List V → List D → Prop
  | nil : Reps K F [] []
  | cons {v : V} {vs : List V} {d : D} {ds : List D} : Rep K F v d → Reps K F vs ds → Reps K F (v :: vs) (d :: ds)
end
section
variable {K : PySem.W.Frag} {F F' H H' : Hp} {v : V} {vs us : List V} {d : D} {ds es : List D}
theorem Rep.mono (e : Ex F F') (h : Rep K F v d) : Rep K F' v d :=
  Rep.rec (motive_1 := fun v d _ => Rep K F' v d) (motive_2 := fun vs ds _ => Reps K F' vs ds)
    .non .bl .int .str (fun s l _ ih => .lst (e _ _ s) l ih) (fun s l _ ih => .tup (ex_t e s) l ih) (fun s l _ ih => .obj (e _ _ s) l ih) .nil (fun _ _ a b => .cons a b) h
theorem Reps.mono (e : Ex F F') : ∀ {vs : List V} {ds : List D}, Reps K F vs ds → Reps K F' vs ds
  | _, _, .nil => .nil
  | _, _, .cons a b => .cons (a.mono e) (b.mono e)
theorem Reps.length : ∀ {vs : List V} {ds : List D}, Reps K F vs ds → vs.length = ds.length
  | _, _, .nil => rfl
  | _, _, .cons _ b => congrArg (· + 1) b.length
theorem Reps.app : ∀ {vs us : List V} {ds es : List D}, Reps K F vs ds → Reps K F us es → Reps K F (vs ++ us) (ds ++ es)
  | _, _, _, _, .nil, h => h
  | _, _, _, _, .cons a b, h => .cons a (b.app h)
theorem Reps.get : ∀ {vs : List V} {ds : List D} {i : Nat} {d : D}, Reps K F vs ds → ds[i]? = some d → ∃ v, vs[i]? = some v ∧ Rep K F v d
  | _, _, _, _, .nil, e => by simp at e
  | _, _, 0, _, .cons r _, e => by simp at e; subst e; exact ⟨_, rfl, r⟩
  | _, _, i + 1, d, .cons _ t, e => by
    obtain ⟨u, h1, h2⟩ := Reps.get (i := i) (d := d) t (by simpa using e)
    exact ⟨u, by simpa using h1, h2⟩
theorem Reps.get' : ∀ {vs : List V} {ds : List D} {i : Nat} {v : V}, Reps K F vs ds → vs[i]? = some v → ∃ d, ds[i]? = some d ∧ Rep K F v d
  | _, _, _, _, .nil, e => by simp at e
  | _, _, 0, _, .cons r _, e => by simp at e; subst e; exact ⟨_, rfl, r⟩
  | _, _, i + 1, d, .cons _ t, e => by
    obtain ⟨u, h1, h2⟩ := Reps.get' (i := i) (v := d) t (by simpa using e)
    exact ⟨u, by simpa using h1, h2⟩
theorem Reps.take : ∀ {vs : List V} {ds : List D} (n : Nat), Reps K F vs ds → Reps K F (vs.take n) (ds.take n)
  | _, _, 0, _ => .nil
  | _, _, _ + 1, .nil => .nil
  | _, _, n + 1, .cons r t => .cons r (Reps.take n t)
theorem Reps.drop : ∀ {vs : List V} {ds : List D} (n : Nat), Reps K F vs ds → Reps K F (vs.drop n) (ds.drop n)
  | _, _, 0, r => r
  | _, _, _ + 1, .nil => .nil
  | _, _, n + 1, .cons _ t => Reps.drop n t
theorem Reps.set {v : V} {d : D} (r : Rep K F v d) : ∀ {vs : List V} {ds : List D} (i : Nat), Reps K F vs ds → Reps K F (vs.set i v) (ds.set i d)
  | _, _, _, .nil => .nil
  | _, _, 0, .cons _ t => .cons r t
  | _, _, i + 1, .cons q t => .cons q (Reps.set r i t)
theorem Reps.rev : ∀ {vs : List V} {ds : List D}, Reps K F vs ds → Reps K F vs.reverse ds.reverse
  | _, _, .nil => .nil
  | _, _, .cons r t => by
    rw [List.reverse_cons, List.reverse_cons]
    exact t.rev.app (.cons r .nil)
theorem Reps.ints : ∀ ns : List Int, Reps K F (ns.map V.int) (ns.map D.int)
  | [] => .nil
  | n :: ns => .cons (.int n) (Reps.ints ns)
theorem Reps.int_inv : ∀ {vs : List V} {ns : List Int}, Reps K F vs (ns.map D.int) → vs = ns.map V.int
  | _, [], .nil => rfl
  | _, n :: ns, .cons r t => by
    cases r
    rw [List.map_cons, Reps.int_inv t]
theorem Rep.of_list {xs : List V} {a : Addr} (h : F a = some (.lst xs)) (l : xs.length ≤ sizeLine) (r : Reps K F xs ds) : Rep K F (.ref a) (.lst ds) := .lst h l r
theorem Rep.of_tup {xs : List V} {a : Addr} (h : F a = some (.tup xs)) (l : xs.length ≤ sizeLine) (r : Reps K F xs ds) : Rep K F (.ref a) (.tup ds) := .tup (SqT.of h) l r
end
/-! ### steps: what a piece of a def does to the frozen heap and the heap -/
structure Step (F H : Hp) (io : Option Addr) (F' H' : Hp) : Prop where
  ff : Ex F F'
  fh : Ex F' H'
  keep : ∀ a o, io ≠ some a → H a = some o → H' a = some o
  new : ∀ a, F' a ≠ none → F a ≠ none ∨ H a = none
  there : ∀ a, H a ≠ none → H' a ≠ none
section
variable {F H F1 H1 F2 H2 : Hp} {io : Option Addr}
theorem Step.refl (fh : Ex F H) : Step F H io F H := ⟨Ex.refl _, fh, fun _ _ _ h => h, fun _ h => .inl h, fun _ h => h⟩
theorem Step.trans (a : Step F H io F1 H1) (b : Step F1 H1 io F2 H2) : Step F H io F2 H2 where
  ff := a.ff.trans b.ff
  fh := b.fh
  keep := fun x o n h => b.keep x o n (a.keep x o n h)
  new := fun x h => (b.new x h).elim (fun z => a.new x z) fun z => .inr (by
    cases q : H x with
    | none => rfl
    | some o => exact absurd z (a.there x (by rw [q]; exact fun z => nomatch z)))
  there := fun x h => b.there x (a.there x h)
theorem Step.wide (a : Step F H none F1 H1) : Step F H io F1 H1 := ⟨a.ff, a.fh, fun x o _ h => a.keep x o (fun z => nomatch z) h, a.new, a.there⟩
theorem Step.ex (a : Step F H none F1 H1) : Ex H H1 := fun x o h => a.keep x o (fun z => nomatch z) h
/-- a new object that is frozen at once -/
theorem Step.frz {a : Addr} {o : HO} (fh : Ex F H) (n : H a = none) : Step F H io (upd F a o) (upd H a o) := by
  have nf : F a = none := by
    cases q : F a with
    | none => rfl
    | some u => rw [fh a u q] at n; cases n
  refine ⟨Ex.new nf, fun b u h => ?_, fun b u _ h => ?_, fun b h => ?_, fun b h => ?_⟩
  · by_cases e : b = a
    · subst e
      rw [upd_same] at h ⊢
      exact h
    · rw [upd_ne e] at h ⊢
      exact fh b u h
  · exact Ex.new n b u h
  · by_cases e : b = a
    · subst e
      exact .inr n
    · rw [upd_ne e] at h
      exact .inl h
  · cases q : H b with
    | none => exact absurd q h
    | some u => rw [Ex.new (o := o) n b u q]; exact fun z => nomatch z
/-- a new object that is owned -/
theorem Step.own {a : Addr} {o : HO} (fh : Ex F H) (n : H a = none) : Step F H io F (upd H a o) := by
  refine ⟨Ex.refl _, fun b u h => Ex.new n b u (fh b u h), fun b u _ h => Ex.new n b u h, fun b h => .inl h, fun b h => ?_⟩
  cases q : H b with
  | none => exact absurd q h
  | some u => rw [Ex.new (o := o) n b u q]; exact fun z => nomatch z
end
/-! ### slots -/
inductive Sl where
  | un | val (d : D) | own (ds : List D) | io (ds : List D) | rd (ds : List D)
structure Bs where
  F : Hp
  H : Hp
  io : Option Addr
/-- a list that is not frozen -/
structure Own (K : PySem.W.Frag) (F H : Hp) (a : Addr) (ds : List D) : Prop where
  fr : F a = none
  ob : ∃ xs, H a = some (.lst xs) ∧ xs.length ≤ sizeLine ∧ Reps K F xs ds
def SlOk (K : PySem.W.Frag) (B : Bs) (F H : Hp) (v : Option V) : Sl → Prop
  | .un => True
  | .val d => ∃ x, v = some x ∧ Rep K F x d
  | .own ds => ∃ a, v = some (.ref a) ∧ B.H a = none ∧ Own K F H a ds
  | .io ds => ∃ a, v = some (.ref a) ∧ B.io = some a ∧ Own K F H a ds
  | .rd ds => ∃ a, v = some (.ref a) ∧ (B.H a ≠ none ∧ B.io ≠ some a) ∧ Own K F H a ds
structure Ctx (K : PySem.W.Frag) (B : Bs) (F H : Hp) (σ : L2.St) (ss : List Sl) : Prop where
  st : Step B.F B.H B.io F H
  len : σ.length = ss.length
  sl : ∀ (i : Nat) (v : Option V) (s : Sl), σ[i]? = some v → ss[i]? = some s → SlOk K B F H v s
  dis : ∀ (i j : Nat) (a : Addr) (ds es : List D), i ≠ j → ss[i]? = some (.own ds) → ss[j]? = some (.own es) → σ[i]? = some (some (.ref a)) → σ[j]? ≠ some (some (.ref a))
  io : ∀ a, B.io = some a → σ[0]? = some (some (.ref a)) ∧ B.H a ≠ none ∧ B.F a = none
  io0 : ∀ (i : Nat) (ds : List D), ss[i]? = some (.io ds) → i = 0
theorem get_set_same {α : Type} {l : List α} {i : Nat} {x y : α} (h : (l.set i x)[i]? = some y) : y = x := by
  rw [List.getElem?_set_self'] at h
  cases q : l[i]? with
  | none => rw [q] at h; cases h
  | some z => rw [q] at h; cases h; rfl
section
variable {K : PySem.W.Frag} {B : Bs} {F H F' H' : Hp} {σ σ' : L2.St} {ss : List Sl} {a : Addr} {ds es : List D} {d : D} {i : Nat} {v : V}
theorem Own.step (o : Own K F H a ds) (s : Step F H none F' H') : Own K F' H' a ds := by
  obtain ⟨f, xs, h, l, r⟩ := o
  refine ⟨?_, xs, s.ex _ _ h, l, r.mono s.ff⟩
  cases q : F' a with
  | none => rfl
  | some u =>
    rcases s.new a (by rw [q]; exact fun z => nomatch z) with z | z
    · exact absurd f z
    · rw [h] at z; cases z
theorem SlOk.step {v : Option V} {s : Sl} (o : SlOk K B F H v s) (t : Step F H none F' H') : SlOk K B F' H' v s := by
  cases s with
  | un => trivial
  | val d => exact let ⟨x, e, r⟩ := o; ⟨x, e, r.mono t.ff⟩
  | own ds => exact let ⟨x, e, w, r⟩ := o; ⟨x, e, w, r.step t⟩
  | io ds => exact let ⟨x, e, w, r⟩ := o; ⟨x, e, w, r.step t⟩
  | rd ds => exact let ⟨x, e, w, r⟩ := o; ⟨x, e, w, r.step t⟩
theorem Ctx.step (c : Ctx K B F H σ ss) (t : Step F H none F' H') : Ctx K B F' H' σ ss :=
  ⟨c.st.trans t.wide, c.len, fun i v s h1 h2 => (c.sl i v s h1 h2).step t, c.dis, c.io, c.io0⟩
theorem Ctx.fh (c : Ctx K B F H σ ss) : Ex F H := c.st.fh
theorem Ctx.at_ (c : Ctx K B F H σ ss) {s : Sl} (h : ss[i]? = some s) : ∃ v, σ[i]? = some v ∧ SlOk K B F H v s := by
  have hl : i < ss.length := (List.getElem?_eq_some_iff.mp h).1
  rw [← c.len] at hl
  exact ⟨_, List.getElem?_eq_getElem hl, c.sl i _ s (List.getElem?_eq_getElem hl) h⟩
theorem Ctx.val (c : Ctx K B F H σ ss) (h : ss[i]? = some (.val d)) : ∃ v, σ[i]? = some (some v) ∧ Rep K F v d := by
  obtain ⟨v, h1, x, rfl, r⟩ := c.at_ h
  exact ⟨x, h1, r⟩
theorem Ctx.own (c : Ctx K B F H σ ss) (h : ss[i]? = some (.own ds)) : ∃ a, σ[i]? = some (some (.ref a)) ∧ B.H a = none ∧ Own K F H a ds := by
  obtain ⟨v, h1, x, rfl, r⟩ := c.at_ h
  exact ⟨x, h1, r⟩
theorem Ctx.inout (c : Ctx K B F H σ ss) (h : ss[i]? = some (.io ds)) : ∃ a, σ[i]? = some (some (.ref a)) ∧ B.io = some a ∧ Own K F H a ds := by
  obtain ⟨v, h1, x, rfl, r⟩ := c.at_ h
  exact ⟨x, h1, r⟩
/-- a slot is stored to -/
theorem Ctx.set (c : Ctx K B F H σ ss) (n0 : i ≠ 0 ∨ B.io = none) (r : Rep K F v d) : Ctx K B F H (σ.set i (some v)) (ss.set i (.val d)) := by
  refine ⟨c.st, by rw [List.length_set, List.length_set, c.len], fun j x s h1 h2 => ?_, fun j k a ds es ne h1 h2 h3 h4 => ?_, fun a h => ⟨?_, (c.io a h).2⟩, fun j es h => ?_⟩
  · by_cases e : i = j
    · subst e
      cases get_set_same h1
      cases get_set_same h2
      exact ⟨v, rfl, r⟩
    · rw [List.getElem?_set_ne e] at h1 h2
      exact c.sl j x s h1 h2
  · by_cases e : i = j
    · subst e
      cases get_set_same h1
    · by_cases e2 : i = k
      · subst e2
        cases get_set_same h2
      · rw [List.getElem?_set_ne e] at h1 h3
        rw [List.getElem?_set_ne e2] at h2 h4
        exact c.dis j k a ds es ne h1 h2 h3 h4
  · have := (c.io a h).1
    rcases n0 with n0 | n0
    · rw [List.getElem?_set_ne n0]
      exact this
    · rw [n0] at h; cases h
  · by_cases e : i = j
    · subst e
      cases get_set_same h
    · rw [List.getElem?_set_ne e] at h
      exact c.io0 j es h
/-- an owned list that no slot has goes to a slot -/
theorem Ctx.setO (c : Ctx K B F H σ ss) (n0 : i ≠ 0 ∨ B.io = none) (w : B.H a = none) (o : Own K F H a ds) (fresh : ∀ (j : Nat) (es : List D), ss[j]? = some (.own es) → σ[j]? ≠ some (some (.ref a))) : Ctx K B F H (σ.set i (some (.ref a))) (ss.set i (.own ds)) := by
  refine ⟨c.st, by rw [List.length_set, List.length_set, c.len], fun j x s h1 h2 => ?_, fun j k b ds' es ne h1 h2 h3 h4 => ?_, fun a h => ⟨?_, (c.io a h).2⟩, fun j es h => ?_⟩
  · by_cases e : i = j
    · subst e
      cases get_set_same h1
      cases get_set_same h2
      exact ⟨a, rfl, w, o⟩
    · rw [List.getElem?_set_ne e] at h1 h2
      exact c.sl j x s h1 h2
  · by_cases e : i = j
    · subst e
      rw [List.getElem?_set_ne ne] at h2 h4
      cases get_set_same h3
      exact fresh k es h2 h4
    · rw [List.getElem?_set_ne e] at h1 h3
      by_cases e2 : i = k
      · subst e2
        cases get_set_same h4
        exact fresh j ds' h1 h3
      · rw [List.getElem?_set_ne e2] at h2 h4
        exact c.dis j k b ds' es ne h1 h2 h3 h4
  · have := (c.io a h).1
    rcases n0 with n0 | n0
    · rw [List.getElem?_set_ne n0]
      exact this
    · rw [n0] at h; cases h
  · by_cases e : i = j
    · subst e
      cases get_set_same h
    · rw [List.getElem?_set_ne e] at h
      exact c.io0 j es h
/-- less is known of the slots -/
def Sl.le : Sl → Sl → Prop
  | .un, _ => True
  | s, t => s = t
theorem Ctx.weak {ts : List Sl} (c : Ctx K B F H σ ss) (l : ts.length = ss.length) (h : ∀ (i : Nat) (t : Sl), ts[i]? = some t → t ≠ .un → ss[i]? = some t) : Ctx K B F H σ ts := by
  refine ⟨c.st, by rw [c.len, l], fun j x s h1 h2 => ?_, fun j k a ds es ne h1 h2 h3 h4 => c.dis j k a ds es ne (h _ _ h1 (fun z => nomatch z)) (h _ _ h2 (fun z => nomatch z)) h3 h4, c.io, fun j es q => c.io0 j es (h _ _ q (fun z => nomatch z))⟩
  cases s with
  | un => trivial
  | val d => exact c.sl j x _ h1 (h j _ h2 (fun z => nomatch z))
  | own d => exact c.sl j x _ h1 (h j _ h2 (fun z => nomatch z))
  | io d => exact c.sl j x _ h1 (h j _ h2 (fun z => nomatch z))
  | rd d => exact c.sl j x _ h1 (h j _ h2 (fun z => nomatch z))
theorem Ctx.uns (c : Ctx K B F H σ ss) {n : Nat} (h : ss.length = n) : Ctx K B F H σ (List.replicate n .un) :=
  c.weak (by rw [List.length_replicate, h]) fun i t e ne => by
    have := List.mem_of_getElem? e
    exact absurd (List.eq_of_mem_replicate this) ne
theorem Ctx.drop (c : Ctx K B F H σ ss) (i : Nat) : Ctx K B F H σ (ss.set i .un) :=
  c.weak (List.length_set ..) fun j t e ne => by
    by_cases q : i = j
    · subst q
      exact absurd (get_set_same e) ne
    · rw [List.getElem?_set_ne q] at e
      exact e
/-- an owned list is frozen -/
theorem Ctx.frz (c : Ctx K B F H σ ss) (h : ss[i]? = some (.own ds)) : ∃ F', Ex F F' ∧ Ctx K B F' H σ (ss.set i (.val (.lst ds))) := by
  obtain ⟨a, ha, w, f, xs, hx, l, r⟩ := c.own h
  have e : Ex F (upd F a (.lst xs)) := Ex.new f
  have fh : Ex (upd F a (.lst xs)) H := fun b o q => by
    by_cases z : b = a
    · subst z
      rw [upd_same] at q
      cases q
      exact hx
    · rw [upd_ne z] at q
      exact c.fh b o q
  have other : ∀ {j : Nat} {b : Addr} {es : List D}, i ≠ j → ss[j]? = some (.own es) → σ[j]? = some (some (.ref b)) → b ≠ a := fun n q1 q2 z => by
    subst z
    exact c.dis i _ _ ds _ n h q1 ha q2
  refine ⟨_, e, ⟨⟨c.st.ff.trans e, fh, c.st.keep, fun b q => ?_, c.st.there⟩, by rw [List.length_set, c.len], fun j x s h1 h2 => ?_, fun j k b ds' es ne h1 h2 h3 h4 => ?_, c.io, fun j es h => (by
    by_cases e : i = j
    · subst e
      cases get_set_same h
    · rw [List.getElem?_set_ne e] at h
      exact c.io0 j es h)⟩⟩
  · by_cases z : b = a
    · subst z
      exact .inr w
    · rw [upd_ne z] at q
      exact c.st.new b q
  · by_cases z : i = j
    · subst z
      cases get_set_same h2
      rw [ha] at h1
      cases h1
      exact ⟨_, rfl, .lst upd_same l (r.mono e)⟩
    · rw [List.getElem?_set_ne z] at h2
      have q := c.sl j x s h1 h2
      cases s with
      | un => trivial
      | val d => exact let ⟨y, e1, r1⟩ := q; ⟨y, e1, r1.mono e⟩
      | own es =>
        obtain ⟨b, e1, w1, f1, ys, g1, g2, g3⟩ := q
        subst e1
        exact ⟨b, rfl, w1, by rw [upd_ne (other z h2 h1)]; exact f1, ys, g1, g2, g3.mono e⟩
      | io es =>
        obtain ⟨b, e1, w1, f1, ys, g1, g2, g3⟩ := q
        have : b ≠ a := fun q => by
          subst q
          exact (c.io _ w1).2.1 w
        exact ⟨b, e1, w1, by rw [upd_ne this]; exact f1, ys, g1, g2, g3.mono e⟩
      | rd es =>
        obtain ⟨b, e1, w1, f1, ys, g1, g2, g3⟩ := q
        have : b ≠ a := fun q => by
          subst q
          exact w1.1 w
        exact ⟨b, e1, w1, by rw [upd_ne this]; exact f1, ys, g1, g2, g3.mono e⟩
  · have f : ∀ {j : Nat} {ds' : List D}, (ss.set i (.val (.lst ds)))[j]? = some (.own ds') → ss[j]? = some (.own ds') := fun {j ds'} q => by
      by_cases z : i = j
      · subst z
        cases get_set_same q
      · rw [List.getElem?_set_ne z] at q
        exact q
    exact c.dis j k b ds' es ne (f h1) (f h2) h3 h4
/-- an owned list is written -/
theorem Ctx.write (c : Ctx K B F H σ ss) (h : ss[i]? = some (.own ds)) {xs : List V} (l : xs.length ≤ sizeLine) (r : Reps K F xs es) (ha : σ[i]? = some (some (.ref a))) : Ctx K B F (upd H a (.lst xs)) σ (ss.set i (.own es)) := by
  obtain ⟨a', ha', w, f, xs0, hx, _⟩ := c.own h
  cases ha.symm.trans ha'
  have fh : Ex F (upd H a (.lst xs)) := fun b o q => by
    by_cases z : b = a
    · subst z
      rw [f] at q; cases q
    · rw [upd_ne z]
      exact c.fh b o q
  refine ⟨⟨c.st.ff, fh, fun b o n q => ?_, c.st.new, fun b q => ?_⟩, by rw [List.length_set, c.len], fun j x s h1 h2 => ?_, fun j k b ds' es' ne h1 h2 h3 h4 => ?_, c.io, fun j es h => (by
    by_cases e : i = j
    · subst e
      cases get_set_same h
    · rw [List.getElem?_set_ne e] at h
      exact c.io0 j es h)⟩
  · rw [upd_ne (fun z => by subst z; rw [w] at q; cases q)]
    exact c.st.keep b o n q
  · by_cases z : b = a
    · subst z
      rw [upd_same]
      exact fun z => nomatch z
    · rw [upd_ne z]
      exact c.st.there b q
  · by_cases z : i = j
    · subst z
      cases get_set_same h2
      rw [ha] at h1
      cases h1
      exact ⟨_, rfl, w, f, xs, upd_same, l, r⟩
    · rw [List.getElem?_set_ne z] at h2
      have q := c.sl j x s h1 h2
      cases s with
      | un => trivial
      | val d => exact q
      | own es =>
        obtain ⟨b, e1, w1, f1, ys, g1, g2, g3⟩ := q
        subst e1
        have : b ≠ a := fun q => by
          subst q
          exact c.dis i j _ ds _ z h h2 ha h1
        exact ⟨b, rfl, w1, f1, ys, by rw [upd_ne this]; exact g1, g2, g3⟩
      | io es =>
        obtain ⟨b, e1, w1, f1, ys, g1, g2, g3⟩ := q
        have : b ≠ a := fun q => by
          subst q
          exact (c.io _ w1).2.1 w
        exact ⟨b, e1, w1, f1, ys, by rw [upd_ne this]; exact g1, g2, g3⟩
      | rd es =>
        obtain ⟨b, e1, w1, f1, ys, g1, g2, g3⟩ := q
        have : b ≠ a := fun q => by
          subst q
          exact w1.1 w
        exact ⟨b, e1, w1, f1, ys, by rw [upd_ne this]; exact g1, g2, g3⟩
  · have f : ∀ {j : Nat} {ds' : List D}, (ss.set i (.own es))[j]? = some (.own ds') → ∃ d', ss[j]? = some (.own d') := fun {j ds'} q => by
      by_cases z : i = j
      · subst z
        exact ⟨_, h⟩
      · rw [List.getElem?_set_ne z] at q
        exact ⟨_, q⟩
    obtain ⟨d1, q1⟩ := f h1
    obtain ⟨d2, q2⟩ := f h2
    exact c.dis j k b d1 d2 ne q1 q2 h3 h4
/-- the in-out list has been written (by a callee): all else is as a step tells -/
theorem Ctx.wrote (c : Ctx K B F H σ ss) (h : ss[i]? = some (.io ds)) (ha : σ[i]? = some (some (.ref a))) (s : Step F H (some a) F' H') {xs : List V} (hx : H' a = some (.lst xs)) (l : xs.length ≤ sizeLine) (r : Reps K F' xs es) : Ctx K B F' H' σ (ss.set i (.io es)) := by
  obtain ⟨a', ha', w, f, xs0, hx0, _⟩ := c.inout h
  cases ha.symm.trans ha'
  have nf : ∀ {b : Addr}, F b = none → H b ≠ none → F' b = none := fun {b} q1 q2 => by
    cases q : F' b with
    | none => rfl
    | some u =>
      rcases s.new b (by rw [q]; exact fun z => nomatch z) with z | z
      · exact absurd q1 z
      · exact absurd z q2
  refine ⟨?_, by rw [List.length_set, c.len], fun j x t h1 h2 => ?_, fun j k b ds' es' ne h1 h2 h3 h4 => ?_, c.io, fun j es q => (by
    by_cases e : i = j
    · rw [← e]
      exact c.io0 i _ h
    · rw [List.getElem?_set_ne e] at q
      exact c.io0 j es q)⟩
  · have := c.st
    rw [w] at this ⊢
    exact this.trans s
  · by_cases z : i = j
    · subst z
      cases get_set_same h2
      rw [ha] at h1
      cases h1
      exact ⟨_, rfl, w, nf f (by rw [hx0]; exact fun z => nomatch z), xs, hx, l, r⟩
    · rw [List.getElem?_set_ne z] at h2
      have q := c.sl j x t h1 h2
      cases t with
      | un => trivial
      | val d => exact let ⟨y, e1, r1⟩ := q; ⟨y, e1, r1.mono s.ff⟩
      | own es =>
        obtain ⟨b, e1, w1, f1, ys, g1, g2, g3⟩ := q
        subst e1
        have : a ≠ b := fun q => by
          subst q
          exact (c.io _ w).2.1 w1
        exact ⟨b, rfl, w1, nf f1 (by rw [g1]; exact fun z => nomatch z), ys, s.keep _ _ (fun q => this (Option.some.inj q)) g1, g2, g3.mono s.ff⟩
      | io es =>
        exact absurd ((c.io0 i _ h).trans (c.io0 j _ h2).symm) z
      | rd es =>
        obtain ⟨b, e1, w1, f1, ys, g1, g2, g3⟩ := q
        subst e1
        have : a ≠ b := fun q => by
          subst q
          exact w1.2 w
        exact ⟨b, rfl, w1, nf f1 (by rw [g1]; exact fun z => nomatch z), ys, s.keep _ _ (fun q => this (Option.some.inj q)) g1, g2, g3.mono s.ff⟩
  · have f : ∀ {j : Nat} {ds' : List D}, (ss.set i (.io es))[j]? = some (.own ds') → ss[j]? = some (.own ds') := fun {j ds'} q => by
      by_cases z : i = j
      · subst z
        cases get_set_same q
      · rw [List.getElem?_set_ne z] at q
        exact q
    exact c.dis j k b ds' es' ne (f h1) (f h2) h3 h4
end
end MI
/-! Own layer: promises by mirrors; one rule for each step of a reading. -/
namespace MI
open PySem PySem.Spec PyProof.Rows L2 Evl PW
/-! ### what is wanted of what is left -/
structure Sct {ω : Type} (K : PySem.W.Frag) (B : Bs) (n : Nat) (cl : Exn → Addr) (W : WX) (P : Res ω → Prop) : Prop where
  bad : ¬ P .bad
  exc : ∀ e, P (.exc e) → ∀ σ F H, Ctx K B F H σ (List.replicate n .un) → W (.ref (cl e)) none σ H
inductive Rt where
  | val (d : D) | own (ds : List D)
def RtOk (K : PySem.W.Frag) (H0 F H : Hp) (v : V) : Rt → Prop
  | .val d => Rep K F v d
  | .own ds => ∃ a, v = .ref a ∧ H0 a = none ∧ Own K F H a ds
structure Fin {ρ : Type} (K : PySem.W.Frag) (cl : Exn → Addr) (B : Bs) (rt : ρ → Rt) (out : ρ → List D) (Q : VK) (E : XK) (r : Res ρ) : Prop where
  ok : ∀ y, r = .ok y → ∀ v F H, Step B.F B.H B.io F H → RtOk K B.H F H v (rt y) → (∀ a, B.io = some a → Own K F H a (out y)) → Q v H
  exc : ∀ e, r = .exc e → ∀ F H, Step B.F B.H B.io F H → E (.ref (cl e)) none H
  nb : r ≠ .bad
/-- a def's promise: typed arguments, the mirror's answer -/
def SpP {π ρ : Type} (K : PySem.W.Frag) (cl : Exn → Addr) (ps : π → List D) (m : π → Res ρ) (rt : ρ → Rt) : Sp := fun vs H Q E =>
  ∃ F x, Ex F H ∧ Reps K F vs (ps x) ∧ Fin K cl ⟨F, H, none⟩ rt (fun _ => []) Q E (m x)
/-- the same for a def that changes the list which is its first argument -/
def SpI {π ρ : Type} (K : PySem.W.Frag) (cl : Exn → Addr) (din : π → List D) (ps : π → List D) (m : π → Res ρ) (rt : ρ → Rt) (out : ρ → List D) : Sp := fun vs H Q E =>
  ∃ F x l us, vs = .ref l :: us ∧ Ex F H ∧ Own K F H l (din x) ∧ Reps K F us (ps x) ∧ Fin K cl ⟨F, H, some l⟩ rt out Q E (m x)
section
variable {K : PySem.W.Frag} {B : Bs} {cl : Exn → Addr} {W : WX} {n : Nat} {ω α β ρ π : Type} {P : Res ω → Prop} {F H F' H' : Hp} {σ : L2.St} {ss : List Sl} {Q : VK} {E : XK} {v u : V} {vs us : List V} {d e : D} {ds es : List D} {i : Nat}
theorem Sct.bind (s : Sct K B n cl W P) {f : α → Res ω} : Sct K B n cl W (fun r : Res α => P (r.bind f)) := ⟨s.bad, s.exc⟩
theorem Sct.only {B' : Bs} {m : Nat} {W' : WX} {cl' : Exn → Addr} (s : Sct K B n cl W P) {f : α → Res ω} : Sct K B' m cl' W' (fun r : Res α => P (r.only.bind f)) := ⟨s.bad, fun e h => absurd h s.bad⟩
theorem Sct.step (s : Sct K B n cl W P) {m : Res α} {f : α → Res ω} (h : P (m.bind f)) : (∃ y, m = .ok y ∧ P (f y)) ∨ (∃ e, m = .exc e ∧ P (.exc e)) := by
  cases m with
  | ok y => exact .inl ⟨y, rfl, h⟩
  | exc e => exact .inr ⟨e, rfl, h⟩
  | bad => exact absurd h s.bad
/-- a step that only may fail -/
theorem Sct.get (s : Sct K B n cl W P) {m : Res α} {f : α → Res ω} (h : P (m.bind f)) (ne : ∀ e, m ≠ .exc e) : ∃ y, m = .ok y ∧ P (f y) := by
  rcases s.step h with q | ⟨e, q, _⟩
  · exact q
  · exact absurd q (ne e)
theorem Fin.sct {rt : ρ → Rt} {out : ρ → List D} : Sct K B n cl (fun c d _ H => E c d H) (Fin K cl B rt out Q E) := ⟨fun h => h.nb rfl, fun e h σ F H c => h.exc e rfl F H c.st⟩
theorem Fin.ret {rt : ρ → Rt} {out : ρ → List D} {y : ρ} (hm : Fin K cl B rt out Q E (.ok y)) (c : Ctx K B F H σ ss) (r : Rep K F v d) (h : rt y = .val d) (ho : B.io = none ∨ ss[0]? = some (.io (out y))) : Q v H := by
  refine hm.ok y rfl v F H c.st (by rw [h]; exact r) fun a e => ?_
  rcases ho with ho | ho
  · rw [ho] at e; cases e
  · obtain ⟨a', h1, h2, h3⟩ := c.inout ho
    rw [h2] at e
    cases e
    exact h3
theorem Ctx.hnone (c : Ctx K B F H σ ss) {a : Addr} (h : H a = none) : B.H a = none := by
  cases q : B.H a with
  | none => rfl
  | some o => exact absurd h (c.st.there a (by rw [q]; exact fun z => nomatch z))
/-- a new list that the def owns and no slot has -/
def Nw (K : PySem.W.Frag) (B : Bs) (σ : L2.St) (ss : List Sl) (F H : Hp) (v : V) (ds : List D) : Prop :=
  ∃ a, v = .ref a ∧ B.H a = none ∧ Own K F H a ds ∧ ∀ (j : Nat) (es : List D), ss[j]? = some (.own es) → σ[j]? ≠ some (some (.ref a))
theorem Ctx.nofresh (c : Ctx K B F H σ ss) {a : Addr} (h : H a = none) : ∀ (j : Nat) (es : List D), ss[j]? = some (.own es) → σ[j]? ≠ some (some (.ref a)) := fun j es q z => by
  obtain ⟨a', h1, h2, h3⟩ := c.own q
  rw [h1] at z
  cases z
  obtain ⟨xs, h4, _⟩ := h3.ob
  rw [h4] at h
  cases h
theorem Nw.of (c : Ctx K B F H σ ss) {a : Addr} (h : H a = none) (o : Own K F' H' a ds) : Nw K B σ ss F' H' (.ref a) ds := ⟨a, rfl, c.hnone h, o, c.nofresh h⟩
theorem Nw.frz (c : Ctx K B F H σ ss) (h : Nw K B σ ss F H v ds) : ∃ F', Ex F F' ∧ Ctx K B F' H σ ss ∧ Rep K F' v (.lst ds) := by
  obtain ⟨a, rfl, w, ⟨f, xs, hx, l, r⟩, fr⟩ := h
  have e : Ex F (upd F a (.lst xs)) := Ex.new f
  have fh : Ex (upd F a (.lst xs)) H := fun b o q => by
    by_cases z : b = a
    · subst z
      rw [upd_same] at q
      cases q
      exact hx
    · rw [upd_ne z] at q
      exact c.fh b o q
  refine ⟨_, e, ⟨⟨c.st.ff.trans e, fh, c.st.keep, fun b q => ?_, c.st.there⟩, c.len, fun j x s h1 h2 => ?_, c.dis, c.io, c.io0⟩, .lst upd_same l (r.mono e)⟩
  · by_cases z : b = a
    · subst z
      exact .inr w
    · rw [upd_ne z] at q
      exact c.st.new b q
  · have q := c.sl j x s h1 h2
    cases s with
    | un => trivial
    | val d => exact let ⟨y, e1, r1⟩ := q; ⟨y, e1, r1.mono e⟩
    | own es =>
      obtain ⟨b, e1, w1, f1, ys, g1, g2, g3⟩ := q
      subst e1
      exact ⟨b, rfl, w1, by rw [upd_ne (fun z => by subst z; exact fr j es h2 h1)]; exact f1, ys, g1, g2, g3.mono e⟩
    | io es =>
      obtain ⟨b, e1, w1, f1, ys, g1, g2, g3⟩ := q
      have : b ≠ a := fun q => by
        subst q
        exact (c.io _ w1).2.1 w
      exact ⟨b, e1, w1, by rw [upd_ne this]; exact f1, ys, g1, g2, g3.mono e⟩
    | rd es =>
      obtain ⟨b, e1, w1, f1, ys, g1, g2, g3⟩ := q
      have : b ≠ a := fun q => by
        subst q
        exact w1.1 w
      exact ⟨b, e1, w1, by rw [upd_ne this]; exact f1, ys, g1, g2, g3.mono e⟩
theorem Nw.set (c : Ctx K B F H σ ss) (h : Nw K B σ ss F H v ds) (n0 : i ≠ 0 ∨ B.io = none) : Ctx K B F H (σ.set i (some v)) (ss.set i (.own ds)) := by
  obtain ⟨a, rfl, w, o, fr⟩ := h
  exact c.setO n0 w o fr
/-! ### calls -/
theorem s_call {ps : π → List D} {m : π → Res ρ} {rt : ρ → Rt} {f : ρ → Res ω} {x : π} (s : Sct K B n cl W P) (hm : P ((m x).bind f)) (c : Ctx K B F H σ ss) (hn : ss.length = n) (r : Reps K F vs (ps x))
    (k : ∀ y v F' H', P (f y) → Ex F F' → Ctx K B F' H' σ ss → RtOk K H F' H' v (rt y) → Q v H') : SpP K cl ps m rt vs H Q (fun c d H' => W c d σ H') := by
  refine ⟨F, x, c.fh, r, ?_⟩
  rcases s.step hm with ⟨y, e, h⟩ | ⟨e, q, h⟩
  · rw [e]
    refine ⟨fun z hz => ?_, fun _ z => (nomatch z), fun z => (nomatch z)⟩
    cases hz
    exact fun v F' H' st ro _ => k y v F' H' h st.ff (c.step st) ro
  · rw [q]
    refine ⟨fun _ z => (nomatch z), fun z hz => ?_, fun z => (nomatch z)⟩
    cases hz
    exact fun F' H' st => s.exc e h σ F' H' ((c.step st).uns hn)
theorem s_callI {din ps : π → List D} {m : π → Res ρ} {rt : ρ → Rt} {out : ρ → List D} {f : ρ → Res ω} {x : π} (s : Sct K B n cl W P) (hm : P ((m x).bind f)) (c : Ctx K B F H σ ss) (hn : ss.length = n) (hv : σ[i]? = some (some v)) (hi : ss[i]? = some (.io (din x))) (r : Reps K F vs (ps x))
    (k : ∀ y v F' H', P (f y) → Ex F F' → Ctx K B F' H' σ (ss.set i (.io (out y))) → RtOk K H F' H' v (rt y) → Q v H') : SpI K cl din ps m rt out (v :: vs) H Q (fun c d H' => W c d σ H') := by
  obtain ⟨l, h1, h2, h3⟩ := c.inout hi
  rw [hv] at h1
  cases h1
  refine ⟨F, x, l, vs, rfl, c.fh, h3, r, ?_⟩
  have wr : ∀ F' H', Step F H (some l) F' H' → (o : List D) → Own K F' H' l o → Ctx K B F' H' σ (ss.set i (.io o)) := fun F' H' st o ⟨_, xs, g1, g2, g3⟩ => c.wrote hi hv st g1 g2 g3
  rcases s.step hm with ⟨y, e, h⟩ | ⟨e, q, h⟩
  · rw [e]
    refine ⟨fun z hz => ?_, fun _ z => (nomatch z), fun z => (nomatch z)⟩
    cases hz
    exact fun v F' H' st ro ho => k y v F' H' h st.ff (wr F' H' st _ (ho l rfl)) ro
  · rw [q]
    refine ⟨fun _ z => (nomatch z), fun z hz => ?_, fun z => (nomatch z)⟩
    cases hz
    refine fun F' H' st => s.exc e h σ F' H' ?_
    -- what has become of the list is not told
    have b := c.st
    rw [h2] at b
    refine ⟨by rw [h2]; exact b.trans st, by rw [List.length_replicate, c.len, hn], fun j x t q1 q2 => ?_, fun j k a ds es ne q1 => ?_, c.io, fun j es q1 => ?_⟩
    · have := List.eq_of_mem_replicate (List.mem_of_getElem? q2)
      subst this
      trivial
    · have := List.eq_of_mem_replicate (List.mem_of_getElem? q1)
      cases this
    · have := List.eq_of_mem_replicate (List.mem_of_getElem? q1)
      cases this
/-- a result that is owned, of a callee -/
theorem RtOk.nw (c : Ctx K B F H σ ss) {ss' : List Sl} (r : RtOk K H F' H' v (.own ds)) (h : ∀ (j : Nat) (es : List D), ss'[j]? = some (.own es) → ss[j]? = some (.own es)) : Nw K B σ ss' F' H' v ds := by
  obtain ⟨a, rfl, h0, o⟩ := r
  exact ⟨a, rfl, c.hnone h0, o, fun j es q => c.nofresh h0 j es (h j es q)⟩
/-! ### names and constants -/
theorem s_var (c : Ctx K B F H σ ss) (h : ss[i]? = some (.val d)) (k : ∀ v, Rep K F v d → Q v H) : tVar i σ H Q := by
  obtain ⟨v, h1, r⟩ := c.val h
  exact ⟨v, h1, k v r⟩
theorem s_varI {z : Int} (c : Ctx K B F H σ ss) (h : ss[i]? = some (.val (.int z))) (k : Q (.int z) H) : tVar i σ H Q := s_var c h fun v r => by
  cases r
  exact k
theorem s_varB {z : Bool} (c : Ctx K B F H σ ss) (h : ss[i]? = some (.val (.bl z))) (k : Q (.bl z) H) : tVar i σ H Q := s_var c h fun v r => by
  cases r
  exact k
theorem s_varS {z : Str} (c : Ctx K B F H σ ss) (h : ss[i]? = some (.val (.str z))) (k : Q (.str z) H) : tVar i σ H Q := s_var c h fun v r => by
  cases r
  exact k
theorem s_varO (c : Ctx K B F H σ ss) (h : ss[i]? = some (.own ds)) (k : ∀ a xs, σ[i]? = some (some (.ref a)) → H a = some (.lst xs) → xs.length ≤ sizeLine → Reps K F xs ds → Q (.ref a) H) : tVar i σ H Q := by
  obtain ⟨a, h1, _, _, xs, h2, h3, h4⟩ := c.own h
  exact ⟨_, h1, k a xs h1 h2 h3 h4⟩
theorem s_varIO (c : Ctx K B F H σ ss) (h : ss[i]? = some (.io ds)) (k : ∀ a xs, σ[i]? = some (some (.ref a)) → H a = some (.lst xs) → xs.length ≤ sizeLine → Reps K F xs ds → Q (.ref a) H) : tVar i σ H Q := by
  obtain ⟨a, h1, _, _, xs, h2, h3, h4⟩ := c.inout h
  exact ⟨_, h1, k a xs h1 h2 h3 h4⟩
/-! ### stores -/
theorem s_set {N : L2.St → Hp → Prop} {ss' : List Sl} (c : Ctx K B F H σ ss) (n0 : i ≠ 0 ∨ B.io = none) (r : Rep K F v d) (e : ss.set i (.val d) = ss') (k : ∀ σ', Ctx K B F H σ' ss' → N σ' H) : gName i v σ H N := k _ (e ▸ c.set n0 r)
theorem s_setO {N : L2.St → Hp → Prop} {ss' : List Sl} (c : Ctx K B F H σ ss) (n0 : i ≠ 0 ∨ B.io = none) (r : Nw K B σ ss F H v ds) (e : ss.set i (.own ds) = ss') (k : ∀ σ', Ctx K B F H σ' ss' → N σ' H) : gName i v σ H N := k _ (e ▸ r.set c n0)
/-! ### ints, truth values -/
theorem s_i0 {g : Int → Int → V} {a b : Int} (q : Q (g a b) H) : rI0 g (.int a) (.int b) H Q := ⟨a, b, rfl, rfl, q⟩
theorem s_iC {C : Int → Int → Prop} {g : Int → Int → V} {a b : Int} (h : C a b) (q : Q (g a b) H) : rI C g (.int a) (.int b) H Q := ⟨a, b, rfl, rfl, h, q⟩
theorem s_iU {g : Int → V} {a : Int} (q : Q (g a) H) : rU g (.int a) H Q := ⟨a, rfl, q⟩
theorem s_eqI {a b : Int} (q : Q (.bl (decide (a = b))) H) : rEq (.int a) (.int b) H Q := ⟨rfl, by
  have : decide (V.int a = V.int b) = decide (a = b) := by
    by_cases h : a = b
    · subst h; simp
    · rw [decide_eq_false h, decide_eq_false (fun z => h (V.int.inj z))]
  rw [this]
  exact q⟩
theorem s_neI {a b : Int} (q : Q (.bl (decide (a ≠ b))) H) : rNe (.int a) (.int b) H Q := ⟨rfl, by
  have : (!decide (V.int a = V.int b)) = decide (a ≠ b) := by
    by_cases h : a = b
    · subst h; simp
    · rw [decide_eq_false (fun z => h (V.int.inj z)), decide_eq_true h]
      rfl
  rw [this]
  exact q⟩
theorem s_eqS {a b : Str} (q : Q (.bl (decide (a = b))) H) : rEq (.str a) (.str b) H Q := ⟨rfl, by
  have : decide (V.str a = V.str b) = decide (a = b) := by
    by_cases h : a = b
    · subst h; simp
    · rw [decide_eq_false h, decide_eq_false (fun z => h (V.str.inj z))]
  rw [this]
  exact q⟩
theorem s_neS {a b : Str} (q : Q (.bl (decide (a ≠ b))) H) : rNe (.str a) (.str b) H Q := ⟨rfl, by
  have : (!decide (V.str a = V.str b)) = decide (a ≠ b) := by
    by_cases h : a = b
    · subst h; simp
    · rw [decide_eq_false (fun z => h (V.str.inj z)), decide_eq_true h]
      rfl
  rw [this]
  exact q⟩
theorem s_eqB {a b : Bool} (q : Q (.bl (decide (a = b))) H) : rEq (.bl a) (.bl b) H Q := ⟨rfl, by
  have : decide (V.bl a = V.bl b) = decide (a = b) := by cases a <;> cases b <;> rfl
  rw [this]
  exact q⟩
theorem s_neB {a b : Bool} (q : Q (.bl (decide (a ≠ b))) H) : rNe (.bl a) (.bl b) H Q := ⟨rfl, by
  have : (!decide (V.bl a = V.bl b)) = decide (a ≠ b) := by cases a <;> cases b <;> rfl
  rw [this]
  exact q⟩
theorem s_test {b : Bool} {R : Bool → Hp → Prop} (q : R b H) : ∃ k, V.bl b = .bl k ∧ R k H := ⟨b, rfl, q⟩
end
/-! ### what the mirrors are written with -/
/-- of a size that all rules for ints take -/
def Sm (x : Int) : Prop := x.natAbs < 2 ^ 8900
instance (x : Int) : Decidable (Sm x) := inferInstanceAs (Decidable (_ < _))
theorem Sm.log {x : Int} (h : Sm x) : x.natAbs.log2 < 8900 := PySem.Flt.log2_lt_of (by decide) h
def mulR (a b : Int) : Res Int := if Sm a ∧ Sm b then .ok (a * b) else .bad
def divR (a b : Int) : Res Int := if b ≠ 0 ∧ Sm b then .ok (a.fdiv b) else .bad
def modR (a b : Int) : Res Int := if 0 < b then .ok (a % b) else .bad
def ix {α : Type} (xs : List α) (i : Int) : Res α := match atI xs i with
  | some x => .ok x
  | none => .bad
def chkLen {α : Type} (xs : List α) : Res (List α) := if xs.length ≤ 16000000 then .ok xs else .bad
theorem mulR_ok {a b : Int} (ha : Sm a) (hb : Sm b) : mulR a b = .ok (a * b) := if_pos ⟨ha, hb⟩
theorem divR_ok {a b : Int} (h0 : b ≠ 0) (hb : Sm b) : divR a b = .ok (a.fdiv b) := if_pos ⟨h0, hb⟩
theorem modR_ok {a b : Int} (h : 0 < b) : modR a b = .ok (a % b) := if_pos h
theorem chkLen_ok {α : Type} {xs : List α} (h : xs.length ≤ 16000000) : chkLen xs = .ok xs := if_pos h
theorem ixN_len {α β : Type} {xs : List α} {ys : List β} (h : xs.length = ys.length) (i : Int) : ixN xs.length i = ixN ys.length i := by rw [h]
theorem atI_map {α β : Type} (f : α → β) (xs : List α) (i : Int) : atI (xs.map f) i = (atI xs i).map f := by
  unfold atI
  rw [List.length_map]
  cases ixN xs.length i with
  | none => rfl
  | some j => exact List.getElem?_map ..
theorem ix_ok {α : Type} {xs : List α} {i : Int} {x : α} (h : ix xs i = .ok x) : atI xs i = some x := by
  unfold ix at h
  cases q : atI xs i with
  | none => rw [q] at h; cases h
  | some y => rw [q] at h; cases h; rfl
theorem ix_exc {α : Type} {xs : List α} {i : Int} (e : Exn) : ix xs i ≠ .exc e := by
  unfold ix
  cases atI xs i <;> exact fun h => nomatch h
section
variable {K : PySem.W.Frag} {B : Bs} {cl : Exn → Addr} {W : WX} {n : Nat} {ω α β ρ π : Type} {P : Res ω → Prop} {F H F' H' : Hp} {σ : L2.St} {ss : List Sl} {Q : VK} {E : XK} {v u : V} {vs us xs : List V} {d e : D} {ds es : List D} {i : Nat}
theorem Reps.atI {k : Int} (r : Reps K F vs ds) (h : atI ds k = some d) : ∃ v, L2.atI vs k = some v ∧ Rep K F v d := by
  unfold L2.atI at h ⊢
  rw [r.length]
  cases q : ixN ds.length k with
  | none => rw [q] at h; cases h
  | some j =>
    rw [q] at h
    exact r.get h
/-- an item at a written place -/
theorem s_ixT {k : Int} (c : Ctx K B F H σ ss) (r : Rep K F v (.tup ds)) (h : atI ds k = some d) (q : ∀ u, Rep K F u d → Q u H) : rIxT K v (.int k) H Q := by
  cases r with
  | tup s l t =>
    obtain ⟨u, h1, h2⟩ := t.atI h
    exact ⟨_, _, k, u, rfl, rfl, ex_t c.fh s, h1, q u h2⟩
theorem s_ixL {k : Int} (c : Ctx K B F H σ ss) (r : Rep K F v (.lst ds)) (h : atI ds k = some d) (q : ∀ u, Rep K F u d → Q u H) : rIxL K v (.int k) H Q := by
  cases r with
  | lst s l t =>
    obtain ⟨u, h1, h2⟩ := t.atI h
    exact ⟨_, _, k, u, rfl, rfl, SqL.of (c.fh _ _ s), h1, q u h2⟩
/-- an item at a place that is not written -/
theorem s_ixTv {en : α → D} {zs : List α} {k : Int} {f : α → Res ω} (s : Sct K B n cl W P) (hm : P ((ix zs k).bind f)) (c : Ctx K B F H σ ss) (r : Rep K F v (.tup (zs.map en))) (q : ∀ y u, atI zs k = some y → P (f y) → Rep K F u (en y) → Q u H) : rIxT K v (.int k) H Q := by
  obtain ⟨y, e, h⟩ := s.get hm fun e => ix_exc e
  have := ix_ok e
  exact s_ixT c r (by rw [atI_map, this]; rfl) fun u r => q y u this h r
theorem s_ixLv {en : α → D} {zs : List α} {k : Int} {f : α → Res ω} (s : Sct K B n cl W P) (hm : P ((ix zs k).bind f)) (c : Ctx K B F H σ ss) (r : Rep K F v (.lst (zs.map en))) (q : ∀ y u, atI zs k = some y → P (f y) → Rep K F u (en y) → Q u H) : rIxL K v (.int k) H Q := by
  obtain ⟨y, e, h⟩ := s.get hm fun e => ix_exc e
  have := ix_ok e
  exact s_ixL c r (by rw [atI_map, this]; rfl) fun u r => q y u this h r
/-- of an owned list -/
theorem s_ixOv {en : α → D} {zs : List α} {k : Int} {f : α → Res ω} {a : Addr} (s : Sct K B n cl W P) (hm : P ((ix zs k).bind f)) (hx : H a = some (.lst xs)) (r : Reps K F xs (zs.map en)) (q : ∀ y u, atI zs k = some y → P (f y) → Rep K F u (en y) → Q u H) : rIxL K (.ref a) (.int k) H Q := by
  obtain ⟨y, e, h⟩ := s.get hm fun e => ix_exc e
  have := ix_ok e
  obtain ⟨u, h1, h2⟩ := r.atI (d := en y) (by rw [atI_map, this]; rfl)
  exact ⟨_, _, k, u, rfl, rfl, SqL.of hx, h1, q y u this h h2⟩
theorem s_mul {a b : Int} {f : Int → Res ω} (s : Sct K B n cl W P) (hm : P ((mulR a b).bind f)) (q : P (f (a * b)) → Q (.int (a * b)) H) : rI CMulW (fun i j => .int (i * j)) (.int a) (.int b) H Q := by
  unfold mulR at hm
  by_cases h : Sm a ∧ Sm b
  · rw [if_pos h] at hm
    have h1 := h.1.log
    have h2 := h.2.log
    exact ⟨a, b, rfl, rfl, by unfold CMulW; omega, q hm⟩
  · rw [if_neg h] at hm
    exact absurd hm s.bad
theorem s_fdiv {a b : Int} {f : Int → Res ω} (s : Sct K B n cl W P) (hm : P ((divR a b).bind f)) (q : P (f (a.fdiv b)) → Q (.int (a.fdiv b)) H) : rI CDivG (fun i j => .int (i.fdiv j)) (.int a) (.int b) H Q := by
  unfold divR at hm
  by_cases h : b ≠ 0 ∧ Sm b
  · rw [if_pos h] at hm
    have h2 := h.2.log
    exact ⟨a, b, rfl, rfl, ⟨h.1, by omega⟩, q hm⟩
  · rw [if_neg h] at hm
    exact absurd hm s.bad
theorem s_mod {a b : Int} {f : Int → Res ω} (s : Sct K B n cl W P) (hm : P ((modR a b).bind f)) (q : P (f (a % b)) → Q (.int (a % b)) H) : rI (fun _ j => 0 < j) (fun i j => .int (i % j)) (.int a) (.int b) H Q := by
  unfold modR at hm
  by_cases h : 0 < b
  · rw [if_pos h] at hm
    exact ⟨a, b, rfl, rfl, h, q hm⟩
  · rw [if_neg h] at hm
    exact absurd hm s.bad
/-! ### displays -/
theorem s_tup (c : Ctx K B F H σ ss) (r : Reps K F vs ds) (l : vs.length ≤ sizeLine) (q : ∀ v F' H', Ex F F' → Ctx K B F' H' σ ss → Rep K F' v (.tup ds) → Q v H') : vs.length ≤ sizeLine ∧ ∀ p, H p = none → Q (.ref p) (upd H p (.tup vs)) := by
  refine ⟨l, fun p hp => ?_⟩
  have st := Step.frz (io := none) (o := .tup vs) c.fh hp
  exact q _ _ _ st.ff (c.step st) (.tup (SqT.of upd_same) l (r.mono st.ff))
theorem s_lst (c : Ctx K B F H σ ss) (r : Reps K F vs ds) (l : vs.length ≤ sizeLine) (q : ∀ v F' H', Ex F F' → Ctx K B F' H' σ ss → Rep K F' v (.lst ds) → Q v H') : vs.length ≤ sizeLine ∧ ∀ p, H p = none → Q (.ref p) (upd H p (.lst vs)) := by
  refine ⟨l, fun p hp => ?_⟩
  have st := Step.frz (io := none) (o := .lst vs) c.fh hp
  exact q _ _ _ st.ff (c.step st) (.lst upd_same l (r.mono st.ff))
theorem s_lstO (c : Ctx K B F H σ ss) (r : Reps K F vs ds) (l : vs.length ≤ sizeLine) (q : ∀ v H', Ctx K B F H' σ ss → Nw K B σ ss F H' v ds → Q v H') : vs.length ≤ sizeLine ∧ ∀ p, H p = none → Q (.ref p) (upd H p (.lst vs)) := by
  refine ⟨l, fun p hp => ?_⟩
  have st := Step.own (io := none) (o := .lst vs) c.fh hp
  refine q _ _ (c.step st) (Nw.of c hp ⟨?_, _, upd_same, l, r⟩)
  cases z : F p with
  | none => rfl
  | some o => rw [c.fh _ _ z] at hp; cases hp
end
end MI
/-! Own layer: what is gone through, comprehensions, loops, branches. -/
namespace MI
open PySem PySem.Spec PyProof.Rows L2 Evl PW
/-! ### what is gone through -/
structure ItOk {ζ : Type} (K : PySem.W.Frag) (J : It) (F : Hp) (zs : List ζ) (dz : ζ → D) : Prop where
  go : ∀ i F' H, Ex F F' → Ex F' H → i < zs.length → J.go i H
  stop : ∀ F' H, Ex F F' → Ex F' H → J.stop zs.length H
  yld : ∀ i z x F' H H', Ex F F' → Ex F' H → zs[i]? = some z → J.yld i H x H' → ∃ F'', Step F' H none F'' H' ∧ Rep K F'' x (dz z)
def rng (lo hi : Int) : List Int := (List.range (hi - lo).toNat).map fun (i : Nat) => lo + i
def enum {α : Type} (xs : List α) : List (Int × α) := xs.zipIdx.map fun p => ((p.2 : Nat), p.1)
def chs (x : Str) : List Str := x.cps.toList.map fun c => ⟨#[c]⟩
theorem enum_get {α : Type} {xs : List α} {i : Nat} : (enum xs)[i]? = (xs[i]?).map fun x => ((i : Int), x) := by
  unfold enum
  rw [List.getElem?_map, List.getElem?_zipIdx]
  cases xs[i]? with
  | none => rfl
  | some x => simp
theorem enum_len {α : Type} {xs : List α} : (enum xs).length = xs.length := by
  unfold enum
  rw [List.length_map, List.length_zipIdx]
theorem rng_len {lo hi : Int} : (rng lo hi).length = (hi - lo).toNat := by
  unfold rng
  rw [List.length_map, List.length_range]
theorem rng_get {lo hi : Int} {i : Nat} {z : Int} (h : (rng lo hi)[i]? = some z) : z = lo + i := by
  unfold rng at h
  rw [List.getElem?_map] at h
  cases q : (List.range (hi - lo).toNat)[i]? with
  | none => rw [q] at h; cases h
  | some j =>
    rw [q] at h
    have e := (List.getElem?_eq_some_iff.mp q).2
    rw [List.getElem_range] at e
    cases h
    rw [e]
section
variable {K : PySem.W.Frag} {B : Bs} {cl : Exn → Addr} {W : WX} {n : Nat} {ω α β γ ρ π ζ τ : Type} {P : Res ω → Prop} {F H F' H' : Hp} {σ : L2.St} {ss : List Sl} {Q : VK} {E : XK} {v u : V} {vs us xs : List V} {d e : D} {ds es : List D} {i j : Nat} {a : Addr} {R : It → Hp → Prop}
theorem Reps.at_map {en : α → D} {zs : List α} {z : α} (r : Reps K F xs (zs.map en)) (h : zs[i]? = some z) : ∃ v, xs[i]? = some v ∧ Rep K F v (en z) := r.get (by rw [List.getElem?_map, h]; rfl)
theorem Reps.len_map {en : α → D} {zs : List α} (r : Reps K F xs (zs.map en)) : xs.length = zs.length := by rw [r.length, List.length_map]
theorem it_list {en : α → D} {zs : List α} (r : Rep K F (.ref a) (.lst (zs.map en))) : ItOk K (Itl K a) F zs en := by
  cases r with
  | lst s l t =>
    have hl := t.len_map
    refine ⟨fun i F' H e1 e2 hi => ?_, fun F' H e1 e2 => ⟨_, SqL.of (e2 _ _ (e1 _ _ s)), Nat.le_of_eq hl⟩, fun i z x F' H H' e1 e2 hz y => ?_⟩
    · obtain ⟨v, h1, h2⟩ := t.at_map (List.getElem?_eq_getElem hi)
      exact ⟨_, v, SqL.of (e2 _ _ (e1 _ _ s)), h1⟩
    · obtain ⟨rfl, y⟩ := y
      obtain ⟨v, h1, h2⟩ := t.at_map hz
      have := y _ (SqL.of (e2 _ _ (e1 _ _ s)))
      rw [h1] at this
      cases this
      exact ⟨F', Step.refl e2, h2.mono e1⟩
theorem it_tup {en : α → D} {zs : List α} (r : Rep K F (.ref a) (.tup (zs.map en))) : ItOk K (Itt K a) F zs en := by
  cases r with
  | tup s l t =>
    have hl := t.len_map
    refine ⟨fun i F' H e1 e2 hi => ?_, fun F' H e1 e2 => ⟨_, ex_t (e1.trans e2) s, Nat.le_of_eq hl⟩, fun i z x F' H H' e1 e2 hz y => ?_⟩
    · obtain ⟨v, h1, h2⟩ := t.at_map (List.getElem?_eq_getElem hi)
      exact ⟨_, v, ex_t (e1.trans e2) s, h1⟩
    · obtain ⟨rfl, y⟩ := y
      obtain ⟨v, h1, h2⟩ := t.at_map hz
      have := y _ (ex_t (e1.trans e2) s)
      rw [h1] at this
      cases this
      exact ⟨F', Step.refl e2, h2.mono e1⟩
theorem it_rng {lo hi : Int} {m : Nat} (h : m = (hi - lo).toNat) : ItOk K (Itr lo m) F (rng lo hi) D.int := by
  subst h
  refine ⟨fun i F' H e1 e2 hi => by rw [rng_len] at hi; exact hi, fun F' H e1 e2 => by rw [rng_len]; exact Nat.le_refl _, fun i z x F' H H' e1 e2 hz y => ?_⟩
  obtain ⟨rfl, rfl⟩ := y
  rw [← rng_get hz]
  exact ⟨F', Step.refl e2, .int z⟩
theorem it_str {x : Str} : ItOk K (Its x) F (chs x) D.str := by
  have hl : (chs x).length = x.cps.size := by unfold chs; simp
  refine ⟨fun i F' H e1 e2 hi => by rw [hl] at hi; exact hi, fun F' H e1 e2 => by rw [hl]; exact Nat.le_refl _, fun i z y F' H H' e1 e2 hz q => ?_⟩
  obtain ⟨rfl, c, h1, rfl⟩ := q
  have : z = ⟨#[c]⟩ := by
    unfold chs at hz
    rw [List.getElem?_map, Array.getElem?_toList, h1] at hz
    exact (Option.some.inj hz).symm
  subst this
  exact ⟨F', Step.refl e2, .str _⟩
/-- what enumerate and zip take -/
inductive SrcOk (K : PySem.W.Frag) (F : Hp) : V → Src → List D → Prop
  | lst {a : Addr} {ds : List D} : Rep K F (.ref a) (.lst ds) → SrcOk K F (.ref a) (.lst a) ds
  | tup {a : Addr} {ds : List D} : Rep K F (.ref a) (.tup ds) → SrcOk K F (.ref a) (.tup a) ds
  | str (x : Str) : SrcOk K F (.str x) (.str x) ((chs x).map D.str)
theorem SrcOk.vq {S : Src} (h : SrcOk K F v S ds) : v = S.v := by cases h <;> rfl
theorem chs_reps {x : Str} : Reps K F (chars x) ((chs x).map D.str) := by
  unfold chars chs
  rw [List.map_map]
  generalize x.cps.toList = l
  induction l with
  | nil => exact .nil
  | cons c l ih => exact .cons (.str _) ih
theorem SrcOk.at_ {S : Src} (h : SrcOk K F v S ds) : ∃ xs, Reps K F xs ds ∧ ∀ H, Ex F H → S.at K H xs := by
  cases h with
  | lst r =>
    cases r with
    | lst s l t => exact ⟨_, t, fun H e => SqL.of (e _ _ s)⟩
  | tup r =>
    cases r with
    | tup s l t => exact ⟨_, t, fun H e => ex_t e s⟩
  | str x => exact ⟨chars x, chs_reps, fun H e => rfl⟩
theorem it_enum {S : Src} {en : α → D} {zs : List α} (h : SrcOk K F v S (zs.map en)) : ItOk K (ItE K S) F (enum zs) (fun p => .tup [.int p.1, en p.2]) := by
  obtain ⟨xs, t, hs⟩ := h.at_
  have hl := t.len_map
  refine ⟨fun i F' H e1 e2 hi => ?_, fun F' H e1 e2 => ⟨xs, hs _ (e1.trans e2), by rw [enum_len]; exact hl⟩, fun i z x F' H H' e1 e2 hz y => ?_⟩
  · rw [enum_len] at hi
    obtain ⟨v, h1, h2⟩ := t.at_map (List.getElem?_eq_getElem hi)
    exact ⟨xs, v, hs _ (e1.trans e2), h1⟩
  · obtain ⟨T, x, rfl, hT, rfl, y⟩ := y
    rw [enum_get] at hz
    cases q : zs[i]? with
    | none => rw [q] at hz; cases hz
    | some z0 =>
      rw [q] at hz
      cases hz
      obtain ⟨v, h1, h2⟩ := t.at_map q
      have e3 := y _ (hs _ (e1.trans e2))
      rw [h1] at e3
      cases e3
      have st := Step.frz (io := none) (o := .tup [.int (i : Nat), x]) e2 hT
      exact ⟨_, st, Rep.tup (SqT.of upd_same) (by show (2 : Nat) ≤ sizeLine; decide) (.cons (.int _) (.cons ((h2.mono e1).mono st.ff) .nil))⟩
theorem it_zip {S1 S2 : Src} {e1 : α → D} {e2 : β → D} {zs : List α} {ys : List β} (h1 : SrcOk K F v S1 (zs.map e1)) (h2 : SrcOk K F u S2 (ys.map e2)) : ItOk K (ItZ K S1 S2) F (zs.zip ys) (fun p => .tup [e1 p.1, e2 p.2]) := by
  obtain ⟨xs1, t1, hs1⟩ := h1.at_
  obtain ⟨xs2, t2, hs2⟩ := h2.at_
  have hl1 := t1.len_map
  have hl2 := t2.len_map
  refine ⟨fun i F' H q1 q2 hi => ?_, fun F' H q1 q2 => ⟨xs1, xs2, hs1 _ (q1.trans q2), hs2 _ (q1.trans q2), by rw [List.length_zip, hl1, hl2]⟩, fun i z x F' H H' q1 q2 hz y => ?_⟩
  · rw [List.length_zip] at hi
    exact ⟨xs1, xs2, hs1 _ (q1.trans q2), hs2 _ (q1.trans q2), by omega, by omega⟩
  · obtain ⟨T, x, y', rfl, hT, rfl, y1, y2⟩ := y
    obtain ⟨z1, z2⟩ := z
    have hz1 : zs[i]? = some z1 ∧ ys[i]? = some z2 := by
      rw [List.getElem?_zip_eq_some] at hz
      exact hz
    obtain ⟨v, g1, g2⟩ := t1.at_map hz1.1
    obtain ⟨w, g3, g4⟩ := t2.at_map hz1.2
    have a1 := y1 _ (hs1 _ (q1.trans q2))
    have a2 := y2 _ (hs2 _ (q1.trans q2))
    rw [g1] at a1
    rw [g3] at a2
    cases a1
    cases a2
    have st := Step.frz (io := none) (o := .tup [x, y']) q2 hT
    exact ⟨_, st, Rep.tup (SqT.of upd_same) (by show (2 : Nat) ≤ sizeLine; decide) (.cons ((g2.mono q1).mono st.ff) (.cons ((g4.mono q1).mono st.ff) .nil))⟩
theorem s_iList {en : α → D} {zs : List α} (c : Ctx K B F H σ ss) (r : Rep K F v (.lst (zs.map en))) (k : ∀ J, ItOk K J F zs en → R J H) : ∃ a, v = .ref a ∧ (∃ xs, SqL K H a xs) ∧ R (Itl K a) H := by
  cases r with
  | lst s l t => exact ⟨_, rfl, ⟨_, SqL.of (c.fh _ _ s)⟩, k _ (it_list (.lst s l t))⟩
theorem s_iTup {en : α → D} {zs : List α} (c : Ctx K B F H σ ss) (r : Rep K F v (.tup (zs.map en))) (k : ∀ J, ItOk K J F zs en → R J H) : ∃ a, v = .ref a ∧ (∃ xs, SqT K H a xs) ∧ R (Itt K a) H := by
  cases r with
  | tup s l t => exact ⟨_, rfl, ⟨_, ex_t c.fh s⟩, k _ (it_tup (.tup s l t))⟩
theorem s_iStr {x : Str} (k : ∀ J, ItOk K J F (chs x) D.str → R J H) : ∃ z, V.str x = .str z ∧ R (Its z) H := ⟨x, rfl, k _ it_str⟩
/-- bounds of a range -/
def rngR (lo hi : Int) : Res (List Int) := if (-(2 ^ 62) ≤ lo ∧ lo < 2 ^ 62) ∧ (-(2 ^ 62) ≤ hi ∧ hi < 2 ^ 62) then .ok (rng lo hi) else .bad
theorem rngR_ok {lo hi : Int} (h1 : -(2 ^ 62) ≤ lo) (h2 : lo < 2 ^ 62) (h3 : -(2 ^ 62) ≤ hi) (h4 : hi < 2 ^ 62) : rngR lo hi = .ok (rng lo hi) := if_pos ⟨⟨h1, h2⟩, h3, h4⟩
theorem s_iRng1 {hi : Int} {f : List Int → Res ω} (s : Sct K B n cl W P) (hm : P ((rngR 0 hi).bind f)) (k : P (f (rng 0 hi)) → ∀ J, ItOk K J F (rng 0 hi) D.int → R J H) : ∃ j : Int, [V.int hi] = [.int j] ∧ -(2 ^ 62) ≤ j ∧ j < 2 ^ 62 ∧ R (Itr 0 j.toNat) H := by
  unfold rngR at hm
  by_cases h : (-(2 ^ 62) ≤ (0 : Int) ∧ (0 : Int) < 2 ^ 62) ∧ (-(2 ^ 62) ≤ hi ∧ hi < 2 ^ 62)
  · rw [if_pos h] at hm
    exact ⟨hi, rfl, h.2.1, h.2.2, k hm _ (it_rng (by omega))⟩
  · rw [if_neg h] at hm
    exact absurd hm s.bad
theorem s_iRng2 {lo hi : Int} {f : List Int → Res ω} (s : Sct K B n cl W P) (hm : P ((rngR lo hi).bind f)) (k : P (f (rng lo hi)) → ∀ J, ItOk K J F (rng lo hi) D.int → R J H) : ∃ i j : Int, [V.int lo, V.int hi] = [.int i, .int j] ∧ (-(2 ^ 62) ≤ i ∧ i < 2 ^ 62 ∧ -(2 ^ 62) ≤ j ∧ j < 2 ^ 62) ∧ R (Itr i (j - i).toNat) H := by
  unfold rngR at hm
  by_cases h : (-(2 ^ 62) ≤ lo ∧ lo < 2 ^ 62) ∧ (-(2 ^ 62) ≤ hi ∧ hi < 2 ^ 62)
  · rw [if_pos h] at hm
    exact ⟨lo, hi, rfl, ⟨h.1.1, h.1.2, h.2.1, h.2.2⟩, k hm _ (it_rng rfl)⟩
  · rw [if_neg h] at hm
    exact absurd hm s.bad
/-- range of a written number -/
theorem s_iRngC {hi : Int} (h : -(2 ^ 62) ≤ hi ∧ hi < 2 ^ 62) (k : ∀ J, ItOk K J F (rng 0 hi) D.int → R J H) : ∃ j : Int, [V.int hi] = [.int j] ∧ -(2 ^ 62) ≤ j ∧ j < 2 ^ 62 ∧ R (Itr 0 j.toNat) H := ⟨hi, rfl, h.1, h.2, k _ (it_rng (by omega))⟩
theorem s_iEnum {S : Src} {en : α → D} {zs : List α} (c : Ctx K B F H σ ss) (h : SrcOk K F v S (zs.map en)) (k : ∀ J, ItOk K J F (enum zs) (fun p => .tup [.int p.1, en p.2]) → R J H) : ∃ S xs, [v] = [Src.v S] ∧ Src.at K H S xs ∧ R (ItE K S) H := by
  obtain ⟨xs, t, hs⟩ := h.at_
  exact ⟨S, xs, by rw [h.vq], hs _ c.fh, k _ (it_enum h)⟩
theorem s_iZip {S1 S2 : Src} {e1 : α → D} {e2 : β → D} {zs : List α} {ys : List β} (c : Ctx K B F H σ ss) (h1 : SrcOk K F v S1 (zs.map e1)) (h2 : SrcOk K F u S2 (ys.map e2)) (k : ∀ J, ItOk K J F (zs.zip ys) (fun p => .tup [e1 p.1, e2 p.2]) → R J H) :
    ∃ S1 S2 xs ys, [v, u] = [Src.v S1, Src.v S2] ∧ Src.at K H S1 xs ∧ Src.at K H S2 ys ∧ R (ItZ K S1 S2) H := by
  obtain ⟨xs1, t1, hs1⟩ := h1.at_
  obtain ⟨xs2, t2, hs2⟩ := h2.at_
  exact ⟨S1, S2, xs1, xs2, by rw [h1.vq, h2.vq], hs1 _ c.fh, hs2 _ c.fh, k _ (it_zip h1 h2)⟩
theorem srcL {ds : List D} (r : Rep K F v (.lst ds)) : ∃ S, SrcOk K F v S ds := by
  cases r with
  | lst s l t => exact ⟨_, .lst (.lst s l t)⟩
theorem srcT {ds : List D} (r : Rep K F v (.tup ds)) : ∃ S, SrcOk K F v S ds := by
  cases r with
  | tup s l t => exact ⟨_, .tup (.tup s l t)⟩
/-! ### targets -/
theorem wipe_len (σ : L2.St) : ∀ vs : List Nat, (wipe σ vs).length = σ.length
  | [] => rfl
  | v :: vs => by
    show ((wipe σ vs).set v none).length = _
    rw [List.length_set, wipe_len σ vs]
theorem wipe_get {σ : L2.St} {j : Nat} : ∀ {vs : List Nat}, (wipe σ vs)[j]? = if j ∈ vs then (σ[j]?).map (fun _ => none) else σ[j]?
  | [] => by rw [if_neg List.not_mem_nil]; rfl
  | v :: vs => by
    show ((wipe σ vs).set v none)[j]? = _
    rw [List.getElem?_set, wipe_len, wipe_get (vs := vs)]
    by_cases h : v = j
    · subst h
      rw [if_pos rfl, if_pos (List.mem_cons_self ..)]
      by_cases hl : v < σ.length
      · rw [if_pos hl, List.getElem?_eq_getElem hl]
        rfl
      · rw [if_neg hl, List.getElem?_eq_none (by omega)]
        rfl
    · rw [if_neg h]
      by_cases h2 : j ∈ vs
      · rw [if_pos h2, if_pos (List.mem_cons_of_mem _ h2)]
      · rw [if_neg h2, if_neg (fun q => (List.mem_cons.mp q).elim (fun e => h e.symm) h2)]
theorem wipe_set {σ : L2.St} {x : Option V} {vs : List Nat} (h : i ∈ vs) : wipe (σ.set i x) vs = wipe σ vs := by
  apply List.ext_getElem?
  intro j
  rw [wipe_get, wipe_get, List.getElem?_set]
  by_cases e : i = j
  · subst e
    rw [if_pos h, if_pos h, if_pos rfl]
    by_cases hl : i < σ.length
    · rw [if_pos hl, List.getElem?_eq_getElem hl]
      rfl
    · rw [if_neg hl, List.getElem?_eq_none (by omega)]
  · rw [if_neg e]
theorem wipe_wipe {σ : L2.St} {vs : List Nat} : wipe (wipe σ vs) vs = wipe σ vs := by
  apply List.ext_getElem?
  intro j
  rw [wipe_get, wipe_get]
  by_cases h : j ∈ vs
  · rw [if_pos h, if_pos h]
    cases σ[j]? <;> rfl
  · rw [if_neg h, if_neg h]
def wipeS (ss : List Sl) : List Nat → List Sl
  | [] => ss
  | v :: vs => (wipeS ss vs).set v .un
theorem Ctx.wipe1 (c : Ctx K B F H σ ss) (n0 : i ≠ 0 ∨ B.io = none) : Ctx K B F H (σ.set i none) (ss.set i .un) := by
  have c1 := c.drop i
  refine ⟨c1.st, by rw [List.length_set, c1.len], fun j x s h1 h2 => ?_, fun j k a ds es ne h1 h2 h3 h4 => ?_, fun a h => ⟨?_, (c.io a h).2⟩, c1.io0⟩
  · by_cases e : i = j
    · subst e
      cases get_set_same h2
      trivial
    · rw [List.getElem?_set_ne e] at h1
      exact c1.sl j x s h1 h2
  · by_cases e : i = j
    · subst e
      cases get_set_same h1
    · by_cases e2 : i = k
      · subst e2
        cases get_set_same h2
      · rw [List.getElem?_set_ne e] at h3
        rw [List.getElem?_set_ne e2] at h4
        exact c1.dis j k a ds es ne h1 h2 h3 h4
  · rcases n0 with n0 | n0
    · rw [List.getElem?_set_ne n0]
      exact (c.io a h).1
    · rw [n0] at h; cases h
theorem Ctx.wipe (c : Ctx K B F H σ ss) : ∀ {vs : List Nat}, (0 ∉ vs ∨ B.io = none) → Ctx K B F H (wipe σ vs) (wipeS ss vs)
  | [], _ => c
  | v :: vs, h => (Ctx.wipe c (vs := vs) (h.imp (fun q z => q (List.mem_cons_of_mem _ z)) id)).wipe1 (h.imp (fun q z => q (z ▸ List.mem_cons_self ..)) id)
def TgOk (K : PySem.W.Frag) (vs : List Nat) (g : TG) (dz : ζ → D) (up : List Sl → ζ → List Sl) : Prop :=
  ∀ (B : Bs) (F H : Hp) (σ : L2.St) (ss : List Sl) (x : V) (z : ζ) (N : L2.St → Hp → Prop), (0 ∉ vs ∨ B.io = none) → Ctx K B F H σ ss → Rep K F x (dz z) → (∀ σ', Ctx K B F H σ' (up ss z) → L2.wipe σ' vs = L2.wipe σ vs → N σ' H) → g x σ H N
theorem tg_name {vs : List Nat} {dz : ζ → D} (h : i ∈ vs) : TgOk K vs (gName i) dz (fun ss z => ss.set i (.val (dz z))) := fun B F H σ ss x z N n0 c r k =>
  k _ (c.set (n0.imp (fun q e => q (e ▸ h)) id) r) (wipe_set h)
theorem tg_pair {vs : List Nat} {d1 d2 : ζ → D} (h1 : i ∈ vs) (h2 : j ∈ vs) : TgOk K vs (gTup K 2 (gCons (gName i) (gCons (gName j) gNil))) (fun z => .tup [d1 z, d2 z]) (fun ss z => (ss.set i (.val (d1 z))).set j (.val (d2 z))) := fun B F H σ ss x z N n0 c r k => by
  cases r with
  | tup s l t =>
    cases t with
    | cons r1 t =>
      cases t with
      | cons r2 t =>
        cases t
        have c1 := c.set (n0.imp (fun q e => q (e ▸ h1)) id) r1
        have c2 := c1.set (n0.imp (fun q e => q (e ▸ h2)) id) r2
        exact ⟨_, _, rfl, ex_t c.fh s, rfl, _, _, rfl, _, _, rfl, rfl, k _ c2 ((wipe_set h2).trans (wipe_set h1))⟩
theorem tg_three {k : Nat} {vs : List Nat} {d1 d2 d3 : ζ → D} (h1 : i ∈ vs) (h2 : j ∈ vs) (h3 : k ∈ vs) : TgOk K vs (gTup K 3 (gCons (gName i) (gCons (gName j) (gCons (gName k) gNil)))) (fun z => .tup [d1 z, d2 z, d3 z]) (fun ss z => ((ss.set i (.val (d1 z))).set j (.val (d2 z))).set k (.val (d3 z))) := fun B F H σ ss x z N n0 c r q => by
  cases r with
  | tup s l t =>
    cases t with
    | cons r1 t =>
      cases t with
      | cons r2 t =>
        cases t with
        | cons r3 t =>
          cases t
          have c1 := c.set (n0.imp (fun q e => q (e ▸ h1)) id) r1
          have c2 := c1.set (n0.imp (fun q e => q (e ▸ h2)) id) r2
          have c3 := c2.set (n0.imp (fun q e => q (e ▸ h3)) id) r3
          exact ⟨_, _, rfl, ex_t c.fh s, rfl, _, _, rfl, _, _, rfl, _, _, rfl, rfl, q _ c3 ((wipe_set h3).trans ((wipe_set h2).trans (wipe_set h1)))⟩
/-! ### an inner base: what stands is read only -/
def Sl.toRd : Sl → Sl
  | .own ds => .rd ds
  | .io ds => .rd ds
  | s => s
theorem Ctx.inner (c : Ctx K B F H σ ss) : Ctx K ⟨F, H, none⟩ F H σ (ss.map Sl.toRd) := by
  refine ⟨Step.refl c.fh, by rw [List.length_map, c.len], fun j x s h1 h2 => ?_, fun j k a ds es ne h1 => ?_, fun a h => (nomatch h), fun j es h => ?_⟩
  · rw [List.getElem?_map] at h2
    cases q : ss[j]? with
    | none => rw [q] at h2; cases h2
    | some t =>
      rw [q] at h2
      have := c.sl j x t h1 q
      cases t with
      | un => cases h2; trivial
      | val d => cases h2; exact this
      | own ds =>
        cases h2
        obtain ⟨b, e1, w1, o⟩ := this
        obtain ⟨xs, h3, _⟩ := id o.ob
        exact ⟨b, e1, ⟨by show H b ≠ none; rw [h3]; exact fun z => (nomatch z), fun z => (nomatch z)⟩, o⟩
      | io ds =>
        cases h2
        obtain ⟨b, e1, w1, o⟩ := this
        obtain ⟨xs, h3, _⟩ := id o.ob
        exact ⟨b, e1, ⟨by show H b ≠ none; rw [h3]; exact fun z => (nomatch z), fun z => (nomatch z)⟩, o⟩
      | rd ds =>
        cases h2
        obtain ⟨b, e1, w1, o⟩ := this
        obtain ⟨xs, h3, _⟩ := id o.ob
        exact ⟨b, e1, ⟨by show H b ≠ none; rw [h3]; exact fun z => (nomatch z), fun z => (nomatch z)⟩, o⟩
  · rw [List.getElem?_map] at h1
    cases q : ss[j]? with
    | none => rw [q] at h1; cases h1
    | some t => rw [q] at h1; cases t <;> cases h1
  · rw [List.getElem?_map] at h
    cases q : ss[j]? with
    | none => rw [q] at h; cases h
    | some t => rw [q] at h; cases t <;> cases h
/-! ### comprehensions -/
def mapR (el : ζ → Res β) : List ζ → Res (List β)
  | [] => .ok []
  | z :: zs => (el z).only.bind fun b => (mapR el zs).bind fun bs => .ok (b :: bs)
def compR (el : ζ → Res (Option β)) : List ζ → Res (List β)
  | [] => .ok []
  | z :: zs => (el z).only.bind fun b => (compR el zs).bind fun bs => .ok (b.toList ++ bs)
theorem mapR_pure {f : ζ → β} : ∀ zs : List ζ, mapR (fun z => .ok (f z)) zs = .ok (zs.map f)
  | [] => rfl
  | z :: zs => by
    show (mapR (fun z => Res.ok (f z)) zs).bind _ = _
    rw [mapR_pure zs]
    rfl
theorem compR_pure {p : ζ → Bool} {f : ζ → β} : ∀ zs : List ζ, compR (fun z => .ok (if p z then some (f z) else none)) zs = .ok ((zs.filter p).map f)
  | [] => rfl
  | z :: zs => by
    show (compR (fun z => Res.ok (if p z then some (f z) else none)) zs).bind _ = _
    rw [compR_pure zs]
    show Res.ok _ = _
    rw [List.filter_cons]
    by_cases h : p z = true
    · rw [if_pos h, if_pos h]
      rfl
    · rw [if_neg h, if_neg h]
      rfl
theorem mapR_comp {f : ζ → Res β} : ∀ zs : List ζ, compR (fun z => (f z).bind fun b => .ok (some b)) zs = mapR f zs
  | [] => rfl
  | z :: zs => by
    show ((f z).bind _).only.bind _ = (f z).only.bind _
    rw [mapR_comp zs]
    cases f z <;> rfl
theorem s_comp {J : It} {zs : List ζ} {dz : ζ → D} {en : β → D} {el : ζ → Res (Option β)} {f : List β → Res ω} {g : TG} {up : List Sl → ζ → List Sl} {tt : TT} {te : TE} {vs : List Nat} {ss' : ζ → List Sl}
    (s : Sct K B n cl W P) (hm : P ((compR el zs).bind f)) (c : Ctx K B F H σ ss) (it : ItOk K J F zs dz) (n0 : 0 ∉ vs ∨ B.io = none) (tg : TgOk K vs g dz up) (he : ∀ z, up (wipeS (ss.map Sl.toRd) vs) z = ss' z) (hl : zs.length ≤ sizeLine)
    (turn : ∀ (B' : Bs) (z : ζ) (F' H' : Hp) (σ' : L2.St) (P' : Res (Option β) → Prop) (G : VK) (Sk : Hp → Prop), B'.io = none → (∀ m W' cl', Sct K B' m cl' W' P') → P' (el z) → z ∈ zs → Ex F F' → Ctx K B' F' H' σ' (ss' z) →
      (∀ b v F4 H4 σ4 ss4, P' (.ok (some b)) → Ctx K B' F4 H4 σ4 ss4 → Rep K F4 v (en b) → G v H4) → (∀ F4 H4 σ4 ss4, P' (.ok none) → Ctx K B' F4 H4 σ4 ss4 → Sk H4) →
      tt σ' H' fun b H3 => if b = true then te σ' H3 G else Sk H3)
    (k : ∀ v bs H', P (f bs) → (∃ F', Ex F F' ∧ Ctx K B F' H' σ ss ∧ Nw K B σ ss F' H' v (bs.map en)) → Q v H') :
    ∀ D, H D = none → ∃ W : Nat → Nat → Hp → Prop, (∃ m, W 0 m (upd H D (.lst []))) ∧ ∀ i m H, W i m H →
      (J.stop i H ∧ Q (.ref D) H) ∨ (J.go i H ∧ ∃ Nx : Hp → Prop, (∀ H', Nx H' → ∃ m', m' < m ∧ W (i + 1) m' H') ∧ ∀ x H', J.yld i H x H' → g x (L2.wipe σ vs) H' fun σ2 H2 => L2.wipe σ2 vs = L2.wipe σ vs ∧ tt σ2 H2 fun b H3 =>
        if b = true then te σ2 H3 fun y H4 => ∃ acc, H4 D = some (.lst acc) ∧ acc.length < sizeLine ∧ Nx (upd H4 D (.lst (acc ++ [y]))) else Nx H3) := by
  intro D hD
  have fD : F D = none := by
    cases z : F D with
    | none => rfl
    | some o => rw [c.fh _ _ z] at hD; cases hD
  let Inv : Nat → Hp → Prop := fun i Hi => ∃ Fi acc bs, Step F H none Fi Hi ∧ Fi D = none ∧ Hi D = some (.lst acc) ∧ acc.length ≤ i ∧ Reps K Fi acc (bs.map en) ∧ P ((compR el (zs.drop i)).bind fun bs' => f (bs ++ bs'))
  refine ⟨fun i m Hi => m = zs.length - i ∧ i ≤ zs.length ∧ Inv i Hi, ⟨_, rfl, Nat.zero_le _, F, [], [], Step.own c.fh hD, fD, upd_same, Nat.le_refl _, .nil, hm⟩, ?_⟩
  rintro i m Hi ⟨rfl, hi, Fi, acc, bs, st, fi, hd, hlen, hr, hp⟩
  by_cases hlt : i < zs.length
  · obtain ⟨z, hz⟩ : ∃ z, zs[i]? = some z := ⟨_, List.getElem?_eq_getElem hlt⟩
    have hzm : z ∈ zs := List.mem_of_getElem? hz
    refine .inr ⟨it.go i Fi Hi st.ff st.fh hlt, Inv (i + 1), fun H' p' => ⟨zs.length - (i + 1), by omega, rfl, hlt, p'⟩, fun x H' y => ?_⟩
    obtain ⟨F1, st1, rx⟩ := it.yld i z x Fi Hi H' st.ff st.fh hz y
    have st2 := st.trans st1
    have c1 : Ctx K B F1 H' σ ss := c.step st2
    have c2 : Ctx K ⟨F1, H', none⟩ F1 H' (L2.wipe σ vs) (wipeS (ss.map Sl.toRd) vs) := c1.inner.wipe (.inr rfl)
    have hd1 : H' D = some (.lst acc) := st1.ex _ _ hd
    have fd1 : F1 D = none := by
      cases q : F1 D with
      | none => rfl
      | some o =>
        rcases st1.new D (by rw [q]; exact fun z => nomatch z) with z | z
        · exact absurd fi z
        · rw [hd] at z; cases z
    have hdrop : zs.drop i = z :: zs.drop (i + 1) := by
      have e := (List.getElem?_eq_some_iff.mp hz).2
      rw [← e]
      exact List.drop_eq_getElem_cons hlt
    rw [hdrop] at hp
    have hp : P (((el z).only.bind fun b => (compR el (zs.drop (i + 1))).bind fun bs => Res.ok (b.toList ++ bs)).bind fun bs' => f (bs ++ bs')) := hp
    rw [Res.assoc] at hp
    refine tg ⟨F1, H', none⟩ F1 H' _ _ x z _ (.inr rfl) c2 rx fun σ' c3 hw => ⟨hw.trans wipe_wipe, ?_⟩
    rw [he z] at c3
    have after : ∀ F4 H4 σ4 ss4, Ctx K ⟨F1, H', none⟩ F4 H4 σ4 ss4 → Step F H none F4 H4 ∧ F4 D = none ∧ H4 D = some (.lst acc) ∧ Ex Fi F4 := fun F4 H4 σ4 ss4 c4 => by
      have st4 : Step F1 H' none F4 H4 := c4.st
      refine ⟨st2.trans st4, ?_, st4.ex _ _ hd1, st1.ff.trans st4.ff⟩
      cases q : F4 D with
      | none => rfl
      | some o =>
        rcases st4.new D (by rw [q]; exact fun z => nomatch z) with z | z
        · exact absurd fd1 z
        · rw [hd1] at z; cases z
    refine turn ⟨F1, H', none⟩ z F1 H' σ' (fun r => P (r.only.bind fun b => ((compR el (zs.drop (i + 1))).bind fun bs' => Res.ok (b.toList ++ bs')).bind fun bs' => f (bs ++ bs'))) _ _ rfl (fun m W' cl' => ?_) hp hzm (st.ff.trans st1.ff) c3 (fun b v F4 H4 σ4 ss4 hb c4 r4 => ?_) (fun F4 H4 σ4 ss4 hb c4 => ?_)
    · exact s.only
    · obtain ⟨s4, f4, h4, x4⟩ := after F4 H4 σ4 ss4 c4
      refine ⟨acc, h4, by omega, F4, acc ++ [v], bs ++ [b], ⟨s4.ff, fun p o q => ?_, fun p o n q => ?_, s4.new, fun p q => ?_⟩, f4, upd_same, by rw [List.length_append]; show _ + 1 ≤ _; omega, ?_, ?_⟩
      · rw [upd_ne (fun z => by subst z; rw [f4] at q; cases q)]
        exact s4.fh p o q
      · rw [upd_ne (fun z => by subst z; rw [hD] at q; cases q)]
        exact s4.ex p o q
      · by_cases z : p = D
        · subst z
          exact absurd hD q
        · rw [upd_ne z]
          exact s4.there p q
      · rw [List.map_append]
        exact (hr.mono x4).app (.cons r4 .nil)
      · have hb : P (((compR el (zs.drop (i + 1))).bind fun bs' => Res.ok ([b] ++ bs')).bind fun bs' => f (bs ++ bs')) := hb
        rw [Res.assoc] at hb
        refine cast (congrArg P ?_) hb
        congr 1
        funext bs'
        show f (bs ++ ([b] ++ bs')) = f (bs ++ [b] ++ bs')
        rw [List.append_assoc]
    · obtain ⟨s4, f4, h4, x4⟩ := after F4 H4 σ4 ss4 c4
      refine ⟨F4, acc, bs, s4, f4, h4, Nat.le_succ_of_le hlen, hr.mono x4, ?_⟩
      have hb : P (((compR el (zs.drop (i + 1))).bind fun bs' => Res.ok ([] ++ bs')).bind fun bs' => f (bs ++ bs')) := hb
      rw [Res.assoc] at hb
      exact hb
  · have z : i = zs.length := by omega
    subst z
    rw [List.drop_length] at hp
    have hp : P (f (bs ++ [])) := hp
    rw [List.append_nil] at hp
    refine .inl ⟨it.stop Fi Hi st.ff st.fh, k _ bs Hi hp ⟨Fi, st.ff, c.step st, D, rfl, c.hnone hD, ⟨fi, acc, hd, by omega, hr⟩, c.nofresh hD⟩⟩
theorem iteTT {X Y : Prop} (h : X) : if true = true then X else Y := by
  rw [if_pos rfl]
  exact h
/-- the same where the elements use up the in-out list -/
def mapS {ζ β γ : Type} (el : ζ → List γ → Res (β × List γ)) : List ζ → List γ → Res (List β × List γ)
  | [], g => .ok ([], g)
  | z :: zs, g => (el z g).only.bind fun p => (mapS el zs p.2).bind fun q => .ok (p.1 :: q.1, q.2)
theorem Ctx.innerIO {l : Addr} (c : Ctx K B F H σ ss) (hb : B.io = some l) : Ctx K ⟨F, H, some l⟩ F H σ (ss.map fun s => match s with | .own ds => .rd ds | s => s) := by
  obtain ⟨hl, hne, _⟩ := c.io l hb
  have c0 := c
  have hH : H l ≠ none := c.st.there l hne
  have hF : F l = none := by
    cases q : F l with
    | none => rfl
    | some o =>
      rcases c.st.new l (by rw [q]; exact fun z => (nomatch z)) with z | z
      · exact absurd (c.io l hb).2.2 z
      · exact absurd z hne
  refine ⟨Step.refl c.fh, by rw [List.length_map, c.len], fun j x s h1 h2 => ?_, fun j k a ds es ne h1 => ?_, fun a h => ?_, fun j es h => ?_⟩
  · rw [List.getElem?_map] at h2
    cases q : ss[j]? with
    | none => rw [q] at h2; cases h2
    | some t =>
      rw [q] at h2
      have := c.sl j x t h1 q
      cases t with
      | un => cases h2; trivial
      | val d => cases h2; exact this
      | own ds =>
        cases h2
        obtain ⟨b, e1, w1, o⟩ := this
        obtain ⟨xs, h3, _⟩ := id o.ob
        exact ⟨b, e1, ⟨by show H b ≠ none; rw [h3]; exact fun z => (nomatch z), fun z => by cases z; exact hne w1⟩, o⟩
      | io ds =>
        cases h2
        obtain ⟨b, e1, w1, o⟩ := this
        exact ⟨b, e1, by rw [hb] at w1; exact w1, o⟩
      | rd ds =>
        cases h2
        obtain ⟨b, e1, w1, o⟩ := this
        obtain ⟨xs, h3, _⟩ := id o.ob
        exact ⟨b, e1, ⟨by show H b ≠ none; rw [h3]; exact fun z => (nomatch z), fun z => by cases z; exact w1.2 hb⟩, o⟩
  · rw [List.getElem?_map] at h1
    cases q : ss[j]? with
    | none => rw [q] at h1; cases h1
    | some t => rw [q] at h1; cases t <;> cases h1
  · cases h
    exact ⟨hl, hH, hF⟩
  · rw [List.getElem?_map] at h
    cases q : ss[j]? with
    | none => rw [q] at h; cases h
    | some t =>
      rw [q] at h
      cases t with
      | io ds => cases h; exact c.io0 j _ q
      | _ => cases h
/-- a context, after steps that may have written the in-out list -/
theorem Ctx.stepIO {l : Addr} {gs hs : List D} {xs' : List V} (c : Ctx K B F H σ ss) (h0 : ss[0]? = some (.io gs)) (hl : B.io = some l) (st : Step F H (some l) F' H') (hx : H' l = some (.lst xs')) (len : xs'.length ≤ sizeLine) (r : Reps K F' xs' hs) : Ctx K B F' H' σ (ss.set 0 (.io hs)) :=
  c.wrote h0 (c.io l hl).1 st hx len r
theorem s_compS {J : It} {zs : List ζ} {dz : ζ → D} {en : β → D} {eg : γ → D} {gs : List γ} {el : ζ → List γ → Res (β × List γ)} {f : List β × List γ → Res ω} {g : TG} {up : List Sl → ζ → List Sl} {te : TE} {vs : List Nat} {ss' : ζ → List γ → List Sl} {l : Addr}
    (s : Sct K B n cl W P) (hm : P ((mapS el zs gs).bind f)) (c : Ctx K B F H σ ss) (hb : B.io = some l) (h0 : ss[0]? = some (.io (gs.map eg))) (it : ItOk K J F zs dz) (n0 : 0 ∉ vs) (tg : TgOk K vs g dz up)
    (he : ∀ z gs', up (wipeS ((ss.set 0 (.io (gs'.map eg))).map fun s => match s with | .own ds => .rd ds | s => s) vs) z = ss' z gs') (hl : zs.length ≤ sizeLine)
    (turn : ∀ (B' : Bs) (z : ζ) (gs' : List γ) (F' H' : Hp) (σ' : L2.St) (P' : Res (β × List γ) → Prop) (G : VK), B'.io = some l → (∀ m W' cl', Sct K B' m cl' W' P') → P' (el z gs') → z ∈ zs → Ex F F' → Ctx K B' F' H' σ' (ss' z gs') →
      (∀ b gs4 v F4 H4 σ4 ss4, P' (.ok (b, gs4)) → Ctx K B' F4 H4 σ4 ss4 → ss4[0]? = some (.io (gs4.map eg)) → Rep K F4 v (en b) → G v H4) →
      te σ' H' G)
    (k : ∀ v bs gs' H', P (f (bs, gs')) → (∃ F', Ex F F' ∧ Ctx K B F' H' σ (ss.set 0 (.io (gs'.map eg))) ∧ Nw K B σ (ss.set 0 (.io (gs'.map eg))) F' H' v (bs.map en)) → Q v H') :
    ∀ D, H D = none → ∃ W : Nat → Nat → Hp → Prop, (∃ m, W 0 m (upd H D (.lst []))) ∧ ∀ i m H, W i m H →
      (J.stop i H ∧ Q (.ref D) H) ∨ (J.go i H ∧ ∃ Nx : Hp → Prop, (∀ H', Nx H' → ∃ m', m' < m ∧ W (i + 1) m' H') ∧ ∀ x H', J.yld i H x H' → g x (L2.wipe σ vs) H' fun σ2 H2 => L2.wipe σ2 vs = L2.wipe σ vs ∧ tYes σ2 H2 fun b H3 =>
        if b = true then te σ2 H3 fun y H4 => ∃ acc, H4 D = some (.lst acc) ∧ acc.length < sizeLine ∧ Nx (upd H4 D (.lst (acc ++ [y]))) else Nx H3) := by
  intro D hD
  have fD : F D = none := by
    cases z : F D with
    | none => rfl
    | some o => rw [c.fh _ _ z] at hD; cases hD
  have lD : l ≠ D := fun z => by
    subst z
    exact absurd hD (c.st.there _ (c.io _ hb).2.1)
  let Inv : Nat → Hp → Prop := fun i Hi => ∃ Fi acc bs gi xl, Step F H (some l) Fi Hi ∧ Fi D = none ∧ Hi D = some (.lst acc) ∧ acc.length ≤ i ∧ Reps K Fi acc (bs.map en) ∧ (Hi l = some (.lst xl) ∧ xl.length ≤ sizeLine ∧ Reps K Fi xl (gi.map eg)) ∧ P ((mapS el (zs.drop i) gi).bind fun q => f (bs ++ q.1, q.2))
  obtain ⟨l', q1, q2, q3, xl0, q4, q5, q6⟩ := c.inout h0
  rw [hb] at q2
  cases q2
  refine ⟨fun i m Hi => m = zs.length - i ∧ i ≤ zs.length ∧ Inv i Hi, ⟨_, rfl, Nat.zero_le _, F, [], [], gs, xl0, Step.own c.fh hD, fD, upd_same, Nat.le_refl _, .nil, ⟨by rw [upd_ne lD]; exact q4, q5, q6⟩, hm⟩, ?_⟩
  rintro i m Hi ⟨rfl, hi, Fi, acc, bs, gi, xl, st, fi, hd, hlen, hr, ⟨g1, g2, g3⟩, hp⟩
  by_cases hlt : i < zs.length
  · obtain ⟨z, hz⟩ : ∃ z, zs[i]? = some z := ⟨_, List.getElem?_eq_getElem hlt⟩
    have hzm : z ∈ zs := List.mem_of_getElem? hz
    refine .inr ⟨it.go i Fi Hi st.ff st.fh hlt, Inv (i + 1), fun H' p' => ⟨zs.length - (i + 1), by omega, rfl, hlt, p'⟩, fun x H' y => ?_⟩
    obtain ⟨F1, st1, rx⟩ := it.yld i z x Fi Hi H' st.ff st.fh hz y
    have st2 := st.trans st1.wide
    have c1 : Ctx K B F1 H' σ (ss.set 0 (.io (gi.map eg))) := c.stepIO h0 hb st2 (st1.ex _ _ g1) g2 (g3.mono st1.ff)
    have c2 := (c1.innerIO hb).wipe (vs := vs) (.inl n0)
    have hd1 : H' D = some (.lst acc) := st1.ex _ _ hd
    have fd1 : F1 D = none := by
      cases q : F1 D with
      | none => rfl
      | some o =>
        rcases st1.new D (by rw [q]; exact fun z => (nomatch z)) with z | z
        · exact absurd fi z
        · rw [hd] at z; cases z
    have hdrop : zs.drop i = z :: zs.drop (i + 1) := by
      have e := (List.getElem?_eq_some_iff.mp hz).2
      rw [← e]
      exact List.drop_eq_getElem_cons hlt
    rw [hdrop] at hp
    have hp : P (((el z gi).only.bind fun p => (mapS el (zs.drop (i + 1)) p.2).bind fun q => Res.ok (p.1 :: q.1, q.2)).bind fun q => f (bs ++ q.1, q.2)) := hp
    rw [Res.assoc] at hp
    refine tg ⟨F1, H', some l⟩ F1 H' _ _ x z _ (.inl n0) c2 rx fun σ' c3 hw => ⟨hw.trans wipe_wipe, ?_⟩
    rw [he z gi] at c3
    show te σ' H' _
    refine turn ⟨F1, H', some l⟩ z gi F1 H' σ' (fun r => P (r.only.bind fun p => ((mapS el (zs.drop (i + 1)) p.2).bind fun q => Res.ok (p.1 :: q.1, q.2)).bind fun q => f (bs ++ q.1, q.2))) _ rfl (fun m W' cl' => s.only) hp hzm (st.ff.trans st1.ff) c3 (fun b g4 v F4 H4 σ4 ss4 hb4 c4 h04 r4 => ?_)
    have st4 : Step F1 H' (some l) F4 H4 := c4.st
    have s4 := st2.trans st4
    have h4 : H4 D = some (.lst acc) := st4.keep _ _ (fun z => lD (Option.some.inj z)) hd1
    have f4 : F4 D = none := by
      cases q : F4 D with
      | none => rfl
      | some o =>
        rcases st4.new D (by rw [q]; exact fun z => (nomatch z)) with z | z
        · exact absurd fd1 z
        · rw [hd1] at z; cases z
    have x4 : Ex Fi F4 := st1.ff.trans st4.ff
    obtain ⟨l4, w1, w2, w3, xl4, w4, w5, w6⟩ := c4.inout h04
    cases w2
    refine ⟨acc, h4, by omega, F4, acc ++ [v], bs ++ [b], g4, xl4, ⟨s4.ff, fun p o q => ?_, fun p o n q => ?_, s4.new, fun p q => ?_⟩, f4, upd_same, by rw [List.length_append]; show _ + 1 ≤ _; omega, ?_, ⟨by rw [upd_ne lD]; exact w4, w5, w6⟩, ?_⟩
    · rw [upd_ne (fun z => by subst z; rw [f4] at q; cases q)]
      exact s4.fh p o q
    · rw [upd_ne (fun z => by subst z; rw [hD] at q; cases q)]
      exact s4.keep p o n q
    · by_cases z : p = D
      · subst z
        exact absurd hD q
      · rw [upd_ne z]
        exact s4.there p q
    · rw [List.map_append]
      exact (hr.mono x4).app (.cons r4 .nil)
    · have hb : P (((mapS el (zs.drop (i + 1)) g4).bind fun q => Res.ok (b :: q.1, q.2)).bind fun q => f (bs ++ q.1, q.2)) := hb4
      rw [Res.assoc] at hb
      refine cast (congrArg P ?_) hb
      congr 1
      funext q
      show f (bs ++ (b :: q.1), q.2) = f (bs ++ [b] ++ q.1, q.2)
      rw [List.append_assoc]
      rfl
  · have z : i = zs.length := by omega
    subst z
    rw [List.drop_length] at hp
    have hp : P (f (bs ++ [], gi)) := hp
    rw [List.append_nil] at hp
    have c' := c.stepIO h0 hb st g1 g2 g3
    have ho : ∀ (j : Nat) (es : List MI.D), (ss.set 0 (.io (gi.map eg)))[j]? = some (.own es) → ss[j]? = some (.own es) := fun j es q => by
      by_cases e : 0 = j
      · subst e
        cases get_set_same q
      · rw [List.getElem?_set_ne e] at q
        exact q
    exact .inl ⟨it.stop Fi Hi st.ff st.fh, k _ bs gi Hi hp ⟨Fi, st.ff, c', D, rfl, c.hnone hD, ⟨fi, acc, hd, by omega, hr⟩, fun j es q => c.nofresh hD j es (ho j es q)⟩⟩
/-! ### loops -/
inductive Ctl (τ ρ : Type) where
  | nx (s : τ) | bk (s : τ) | rt (r : ρ)
def Ctl.go {τ ρ : Type} (k : τ → Res (Ctl τ ρ)) : Ctl τ ρ → Res (Ctl τ ρ)
  | .nx s => k s
  | .bk s => .ok (.nx s)
  | .rt r => .ok (.rt r)
def foldR (body : ζ → τ → Res τ) : List ζ → τ → Res τ
  | [], s => .ok s
  | z :: zs, s => (body z s).bind fun s' => foldR body zs s'
def loopC (body : ζ → τ → Res (Ctl τ ρ)) : List ζ → τ → Res (Ctl τ ρ)
  | [], s => .ok (.nx s)
  | z :: zs, s => (body z s).bind (Ctl.go (loopC body zs))
theorem loopC_fold (body : ζ → τ → Res τ) : ∀ (zs : List ζ) (s : τ), (loopC (ρ := ρ) (fun z s => (body z s).bind fun s' => .ok (.nx s')) zs s) = (foldR body zs s).bind fun s' => .ok (.nx s')
  | [], s => rfl
  | z :: zs, s => by
    show ((body z s).bind _).bind _ = ((body z s).bind _).bind _
    rw [Res.assoc, Res.assoc]
    congr 1
    funext s'
    exact loopC_fold body zs s'
theorem s_forC {J : It} {zs : List ζ} {dz : ζ → D} {g : TG} {up : List Sl → ζ → List Sl} {vs : List Nat} {nx : τ → List Sl} {body : ζ → τ → Res (Ctl τ ρ)} {f : Ctl τ ρ → Res ω} {s0 : τ} {ss' : ζ → τ → List Sl} {tb : TS} {E : Ends}
    (s : Sct K B n cl W P) (hm : P ((loopC body zs s0).bind f)) (c : Ctx K B F H σ (nx s0)) (it : ItOk K J F zs dz) (n0 : 0 ∉ vs ∨ B.io = none) (tg : TgOk K vs g dz up) (he : ∀ z st, up (nx st) z = ss' z st)
    (turn : ∀ (z : ζ) (st : τ) (F' H' : Hp) (σ' : L2.St) (P' : Res (Ctl τ ρ) → Prop) (N : L2.St → Hp → Prop), Sct K B n cl W P' → P' (body z st) → z ∈ zs → Ex F F' → Ctx K B F' H' σ' (ss' z st) →
      (∀ st' F4 H4 σ4, P' (.ok (.nx st')) → Ex F' F4 → Ctx K B F4 H4 σ4 (nx st') → N σ4 H4) → (∀ st' F4 H4 σ4, P' (.ok (.bk st')) → Ex F' F4 → Ctx K B F4 H4 σ4 (nx st') → E.nx σ4 H4) → (∀ r, P' (.ok (.rt r)) → P (f (.rt r))) →
      tb { E with nx := N, ct := N, bk := E.nx } σ' H')
    (done : ∀ st F' H' σ', P (f (.nx st)) → Ex F F' → Ctx K B F' H' σ' (nx st) → E.nx σ' H') :
    ∃ W : Nat → Nat → L2.St → Hp → Prop, (∃ m, W 0 m σ H) ∧ ∀ i m σ H, W i m σ H →
      (J.stop i H ∧ E.nx σ H) ∨ (J.go i H ∧ ∃ N : L2.St → Hp → Prop, (∀ σ' H', N σ' H' → ∃ m', m' < m ∧ W (i + 1) m' σ' H') ∧ ∀ x H', J.yld i H x H' → g x σ H' fun σ2 H2 => tb { E with nx := N, ct := N, bk := E.nx } σ2 H2) := by
  let Inv : Nat → L2.St → Hp → Prop := fun i σi Hi => ∃ Fi st, Ex F Fi ∧ Ctx K B Fi Hi σi (nx st) ∧ P ((loopC body (zs.drop i) st).bind f)
  refine ⟨fun i m σi Hi => m = zs.length - i ∧ i ≤ zs.length ∧ Inv i σi Hi, ⟨_, rfl, Nat.zero_le _, F, s0, Ex.refl _, c, hm⟩, ?_⟩
  rintro i m σi Hi ⟨rfl, hi, Fi, st, e, ci, hp⟩
  by_cases hlt : i < zs.length
  · obtain ⟨z, hz⟩ : ∃ z, zs[i]? = some z := ⟨_, List.getElem?_eq_getElem hlt⟩
    refine .inr ⟨it.go i Fi Hi e ci.fh hlt, Inv (i + 1), fun σ' H' p' => ⟨zs.length - (i + 1), by omega, rfl, hlt, p'⟩, fun x H' y => ?_⟩
    obtain ⟨F1, st1, rx⟩ := it.yld i z x Fi Hi H' e ci.fh hz y
    have hdrop : zs.drop i = z :: zs.drop (i + 1) := by
      have e := (List.getElem?_eq_some_iff.mp hz).2
      rw [← e]
      exact List.drop_eq_getElem_cons hlt
    rw [hdrop] at hp
    have hp : P (((body z st).bind (Ctl.go (loopC body (zs.drop (i + 1))))).bind f) := hp
    rw [Res.assoc] at hp
    refine tg B F1 H' _ _ x z _ n0 (ci.step st1) rx fun σ' c3 hw => ?_
    rw [he z st] at c3
    have e1 := e.trans st1.ff
    refine turn z st F1 H' σ' (fun r => P (r.bind fun c => (Ctl.go (loopC body (zs.drop (i + 1))) c).bind f)) (Inv (i + 1)) s.bind hp (List.mem_of_getElem? hz) e1 c3 (fun st' F4 H4 σ4 h e4 c4 => ⟨F4, st', e1.trans e4, c4, h⟩) (fun st' F4 H4 σ4 h e4 c4 => done st' F4 H4 σ4 h (e1.trans e4) c4) (fun r h => h)
  · have z : i = zs.length := by omega
    subst z
    rw [List.drop_length] at hp
    exact .inl ⟨it.stop Fi Hi e ci.fh, done st Fi Hi σi hp e ci⟩
/-- no break, no return -/
theorem s_for {J : It} {zs : List ζ} {dz : ζ → D} {g : TG} {up : List Sl → ζ → List Sl} {vs : List Nat} {nx : τ → List Sl} {body : ζ → τ → Res τ} {f : τ → Res ω} {s0 : τ} {ss' : ζ → τ → List Sl} {tb : TS} {E : Ends}
    (s : Sct K B n cl W P) (hm : P ((foldR body zs s0).bind f)) (c : Ctx K B F H σ (nx s0)) (it : ItOk K J F zs dz) (n0 : 0 ∉ vs ∨ B.io = none) (tg : TgOk K vs g dz up) (he : ∀ z st, up (nx st) z = ss' z st)
    (turn : ∀ (z : ζ) (st : τ) (F' H' : Hp) (σ' : L2.St) (P' : Res τ → Prop) (N : L2.St → Hp → Prop), Sct K B n cl W P' → P' (body z st) → z ∈ zs → Ex F F' → Ctx K B F' H' σ' (ss' z st) →
      (∀ st' F4 H4 σ4, P' (.ok st') → Ex F' F4 → Ctx K B F4 H4 σ4 (nx st') → N σ4 H4) →
      tb { E with nx := N, ct := N, bk := E.nx } σ' H')
    (done : ∀ st F' H' σ', P (f st) → Ex F F' → Ctx K B F' H' σ' (nx st) → E.nx σ' H') :
    ∃ W : Nat → Nat → L2.St → Hp → Prop, (∃ m, W 0 m σ H) ∧ ∀ i m σ H, W i m σ H →
      (J.stop i H ∧ E.nx σ H) ∨ (J.go i H ∧ ∃ N : L2.St → Hp → Prop, (∀ σ' H', N σ' H' → ∃ m', m' < m ∧ W (i + 1) m' σ' H') ∧ ∀ x H', J.yld i H x H' → g x σ H' fun σ2 H2 => tb { E with nx := N, ct := N, bk := E.nx } σ2 H2) := by
  refine s_forC (ρ := Unit) (body := fun z s => (body z s).bind fun s' => .ok (.nx s')) (f := fun c => match c with | .nx s => f s | .bk s => f s | .rt _ => .bad) (ss' := ss') s ?_ c it n0 tg he (fun z st F' H' σ' P' N hs hp hz e c kn kb kr => ?_) done
  · rw [loopC_fold, Res.assoc]
    exact hm
  · exact turn z st F' H' σ' (fun r => P' (r.bind fun s' => .ok (.nx s'))) N hs.bind hp hz e c fun st' F4 H4 σ4 h => kn st' F4 H4 σ4 h
/-! ### while -/
def whileR (cond : τ → Res (Bool × τ)) (body : τ → Res (Ctl τ ρ)) : Nat → τ → Res (Ctl τ ρ)
  | 0, _ => .bad
  | m + 1, s => (cond s).bind fun p => if p.1 = true then (body p.2).bind (Ctl.go (whileR cond body m)) else .ok (.nx p.2)
theorem s_while {m : Nat} {nx : τ → List Sl} {cond : τ → Res (Bool × τ)} {body : τ → Res (Ctl τ ρ)} {f : Ctl τ ρ → Res ω} {s0 : τ} {tc : TT} {tb : TS} {E : Ends}
    (s : Sct K B n cl W P) (hm : P ((whileR cond body m s0).bind f)) (c : Ctx K B F H σ (nx s0))
    (test : ∀ (st : τ) (F' H' : Hp) (σ' : L2.St) (P' : Res (Bool × τ) → Prop) (G : Bool → Hp → Prop), Sct K B n cl W P' → P' (cond st) → Ex F F' → Ctx K B F' H' σ' (nx st) →
      (∀ b st' F4 H4, P' (.ok (b, st')) → Ex F' F4 → Ctx K B F4 H4 σ' (nx st') → G b H4) → tc σ' H' G)
    (turn : ∀ (st : τ) (F' H' : Hp) (σ' : L2.St) (P' : Res (Ctl τ ρ) → Prop) (N : L2.St → Hp → Prop), Sct K B n cl W P' → P' (body st) → Ex F F' → Ctx K B F' H' σ' (nx st) →
      (∀ st' F4 H4 σ4, P' (.ok (.nx st')) → Ex F' F4 → Ctx K B F4 H4 σ4 (nx st') → N σ4 H4) → (∀ st' F4 H4 σ4, P' (.ok (.bk st')) → Ex F' F4 → Ctx K B F4 H4 σ4 (nx st') → E.nx σ4 H4) → (∀ r, P' (.ok (.rt r)) → P (f (.rt r))) →
      tb { E with nx := N, ct := N, bk := E.nx } σ' H')
    (done : ∀ st F' H' σ', P (f (.nx st)) → Ex F F' → Ctx K B F' H' σ' (nx st) → E.nx σ' H') : tWhile tc tb E σ H := by
  refine ⟨fun k σi Hi => ∃ Fi st, Ex F Fi ∧ Ctx K B Fi Hi σi (nx st) ∧ P ((whileR cond body k st).bind f), ⟨m, F, s0, Ex.refl _, c, hm⟩, ?_⟩
  rintro k σi Hi ⟨Fi, st, e, ci, hp⟩
  cases k with
  | zero => exact absurd hp s.bad
  | succ k =>
    have hp : P (((cond st).bind fun p => if p.1 = true then (body p.2).bind (Ctl.go (whileR cond body k)) else .ok (.nx p.2)).bind f) := hp
    rw [Res.assoc] at hp
    refine test st Fi Hi σi _ _ s.bind hp e ci fun b st' F4 H4 h e4 c4 => ?_
    have h : P ((if b = true then (body st').bind (Ctl.go (whileR cond body k)) else .ok (.nx st')).bind f) := h
    cases b with
    | true =>
      rw [if_pos rfl] at h ⊢
      rw [Res.assoc] at h
      refine ⟨fun σ' H' => ∃ Fi st, Ex F Fi ∧ Ctx K B Fi H' σ' (nx st) ∧ P ((whileR cond body k st).bind f), fun σ' H' q => ⟨k, Nat.lt_succ_self _, q⟩, ?_⟩
      exact turn st' F4 H4 σi (fun r => P (r.bind fun c => (Ctl.go (whileR cond body k) c).bind f)) _ s.bind h (e.trans e4) c4 (fun st' F5 H5 σ5 h5 e5 c5 => ⟨F5, st', e.trans (e4.trans e5), c5, h5⟩) (fun st' F5 H5 σ5 h5 e5 c5 => done st' F5 H5 σ5 h5 (e.trans (e4.trans e5)) c5) (fun r h => h)
    | false =>
      rw [if_neg Bool.false_ne_true] at h ⊢
      exact done st' F4 H4 σi h (e.trans e4) c4
/-! ### branches -/
theorem s_ite {b : Bool} {X Y : Prop} {mA mB : Res ω} (hm : P (if b = true then mA else mB)) (hA : b = true → P mA → X) (hB : b = false → P mB → Y) : if b = true then X else Y := by
  cases b with
  | true => exact hA rfl hm
  | false => exact hB rfl hm
/-- the parts of a block meet again -/
theorem s_cut {t : TS} {E : Ends} {m : Res τ} {f : τ → Res ω} {nx : τ → List Sl} {R : L2.St → Hp → Prop} (s : Sct K B n cl W P) (hm : P (m.bind f))
    (rest : ∀ st F' H' σ', P (f st) → Ex F F' → Ctx K B F' H' σ' (nx st) → R σ' H')
    (body : ∀ (P' : Res τ → Prop) (N : L2.St → Hp → Prop), Sct K B n cl W P' → P' m → (∀ st F' H' σ', P' (.ok st) → Ex F F' → Ctx K B F' H' σ' (nx st) → N σ' H') → t { E with nx := N } σ H) : t { E with nx := R } σ H :=
  body _ R s.bind hm rest
/-- the value of an expression that branches -/
theorem s_cutE {t : TE} {m : Res τ} {f : τ → Res ω} {nx : τ → List Sl} {en : τ → D} (s : Sct K B n cl W P) (hm : P (m.bind f))
    (rest : ∀ st v F' H', P (f st) → Ex F F' → Ctx K B F' H' σ (nx st) → Rep K F' v (en st) → Q v H')
    (body : ∀ (P' : Res τ → Prop) (Q' : VK), Sct K B n cl W P' → P' m → (∀ st v F' H', P' (.ok st) → Ex F F' → Ctx K B F' H' σ (nx st) → Rep K F' v (en st) → Q' v H') → t σ H Q') : t σ H Q := body _ Q s.bind hm rest
theorem s_cutT {t : TT} {R : Bool → Hp → Prop} {m : Res (Bool × τ)} {f : Bool × τ → Res ω} {nx : τ → List Sl} (s : Sct K B n cl W P) (hm : P (m.bind f))
    (rest : ∀ b st F' H', P (f (b, st)) → Ex F F' → Ctx K B F' H' σ (nx st) → R b H')
    (body : ∀ (P' : Res (Bool × τ) → Prop) (R' : Bool → Hp → Prop), Sct K B n cl W P' → P' m → (∀ b st F' H', P' (.ok (b, st)) → Ex F F' → Ctx K B F' H' σ (nx st) → R' b H') → t σ H R') : t σ H R := body _ R s.bind hm rest
end
end MI
/-! Own layer: calls of defs, methods and classes, no text being under way, exceptions without context. -/
namespace MI
open PySem PySem.Spec PyProof.Rows L2 Evl PW
/-- a def or a method that keeps its promise -/
structure Cm (P : Program) (w : World) (K : PySem.W.Frag) (mg : Str → Option Value) (base : Heap) (k : Nat) (f : Addr) (fd : FuncData) (ps : List Str) (sp : Sp) : Prop where
  ok : FnG P w K mg base (L2N.CX P w) k f fd ps sp
  b : Binds K fd ps []
section
variable {X : Cx} {CX : CXT} {k : Nat} {f C : Addr} {fd : FuncData} {ps : List Str} {sp : Sp} {E : L2.St → XK} {W : WX} {x m : Str} {p pos apos : Pos} {e o fn : Expr} {es : List Expr} {t : TA} {ta : TE}
theorem run_fnG {pins : List (Addr × Obj)} {σ : L2.St} {H : Hp} {s : Shared} {Q : VK} {us : List Value} {vs : List V} (F : FnG X.prog X.w X.K X.mg X.base CX k f fd ps sp) (gd : X.A.guards = some []) (hr : Room k X.A) (hb : Binds X.K fd ps []) (hx : PassesAt CX X σ (E σ))
    (I : Inv X pins σ H s) (r : Vals vs us) (h : sp vs H Q (E σ)) : wpAny (model X.prog X.w) X.A (call (.ref f) us) (EP X pins σ Q) X.xe s := by
  have b := hb s us I.kIn (by rw [List.append_nil, ← r.length]; exact F.len _ _ _ _ h)
  rw [List.append_nil] at b
  refine wpAny_call (codeAny_mono (F.run X.A X.stack s H ⟨us, []⟩ us vs Q (E σ) gd hr I.env0 b r h) fun r s' hq => ?_)
  match r, hq with
  | .error e, hq => exact hx pins H s e s' I hq
  | .ok (.ret u), hq => exact I.after hq
theorem pe_cm (c : Cm X.prog X.w X.K X.mg X.base k f fd ps sp) (gd : X.A.guards = some []) (hr : Room k X.A) (hm : X.mg x = some (.ref f)) (hk : PySem.W.keepIn X.K (.ref f) = true) (tk : L2N.Takes X W) (ha : PA X (e :: es) t) (hg : Gl X x := by rfl) (hdb : (x == ("__debug__" : Str)) = false := by decide)
    (he : starEach (e :: es) X.env = (false, eval e X.env) :: starEach es X.env := by rfl) (hpl : (backTo pos (starEach es X.env)).any (·.1) = false := by rfl) :
    PE X (.Call (.Name x p) (e :: es) [] pos) (tCallS sp (WE W) t) := pe_callG c.ok gd hr hg hm hk c.b (fun σ => L2N.passAt tk σ) ha hdb he hpl
theorem pe_cm0 (c : Cm X.prog X.w X.K X.mg X.base k f fd ps sp) (gd : X.A.guards = some []) (hr : Room k X.A) (hm : X.mg x = some (.ref f)) (hk : PySem.W.keepIn X.K (.ref f) = true) (tk : L2N.Takes X W) (hg : Gl X x := by rfl) (hdb : (x == ("__debug__" : Str)) = false := by decide) :
    PE X (.Call (.Name x p) [] [] pos) (tCallS sp (WE W) tNil) := by
  constructor
  intro pins s σ H Q I h
  refine wpAny_Call_Name_kw (ld_glob I hg hm ?_ hdb)
  exact PySem.W.callWith_K0 I.kIn hk (run_fnG (us := []) (E := WE W) c.ok gd hr c.b (L2N.passAt tk σ) I .nil h)
def tMth (C : Addr) (m : Str) (sp : Sp) (E : L2.St → XK) (ta : TE) (t : TA) : TE := fun σ H Q => ta σ H fun x H1 => ∃ a dx fs, x = .ref a ∧ H1 a = some (.ins C dx fs) ∧ fs.lookup m = none ∧ t σ H1 fun vs H2 => sp (.ref a :: vs) H2 Q (E σ)
theorem pe_mm {pl : Sem Bool} (he : PE X o ta) (c : Cls X.K C) (hm : Meth X.K C m f) (F : Cm X.prog X.w X.K X.mg X.base k f fd ps sp) (gd : X.A.guards = some []) (hr : Room k X.A) (tk : L2N.Takes X W) (ha : PA X (e :: es) t)
    (hst : starEach (e :: es) X.env = (false, eval e X.env) :: starEach es X.env := by rfl) (hpl : (backTo pos (starEach es X.env)).any (·.1) = false := by rfl)
    (ht : eval (.Call (.Attribute o m apos) (e :: es) [] pos) X.env = (do
      let w ← eval o X.env
      standAt apos.atName
      let (g, z) ← holding [w] (getMethod w m pl)
      callWith pos g z (backTo pos (starEach (e :: es) X.env)) (backToKw pos (keywordEach [] X.env))) := by rfl) :
    PE X (.Call (.Attribute o m apos) (e :: es) [] pos) (tMth C m sp (WE W) ta t) := by
  constructor
  intro pins s σ H Q I h
  refine PySem.W.methodCall_KW (pl := pl) (thn (he.run pins s σ H _ I h) ?_) ht
  rintro u s1 ⟨x, H1, J, rx, a, dx, fs, ex, ea, l, q⟩
  subst ex
  obtain rfl : u = Value.ref a := rx
  refine getmeth_ok J ea c hm l ?_
  refine PySem.W.callWith_K (first := [.ref a]) (h₀ := X.base) I.ok.mod.kin hm.kp (thn (ha.run pos pins s1 σ H1 _ J q) ?_) hst hpl
  rintro us s2 ⟨vs, H2, J2, r, q2⟩
  exact ⟨J2.kIn, run_fnG (us := .ref a :: us) (vs := .ref a :: vs) (E := WE W) F.ok gd hr F.b (L2N.passAt tk σ) J2 (.cons rfl r) q2⟩
theorem pe_mm0 {pl : Sem Bool} (he : PE X o ta) (c : Cls X.K C) (hm : Meth X.K C m f) (F : Cm X.prog X.w X.K X.mg X.base k f fd ps sp) (gd : X.A.guards = some []) (hr : Room k X.A) (tk : L2N.Takes X W)
    (ht : eval (.Call (.Attribute o m apos) [] [] pos) X.env = (do
      let w ← eval o X.env
      standAt apos.atName
      let (g, z) ← holding [w] (getMethod w m pl)
      callWith pos g z (backTo pos (starEach [] X.env)) (backToKw pos (keywordEach [] X.env))) := by rfl) :
    PE X (.Call (.Attribute o m apos) [] [] pos) (tMth C m sp (WE W) ta tNil) := by
  constructor
  intro pins s σ H Q I h
  refine PySem.W.methodCall_KW (pl := pl) (thn (he.run pins s σ H _ I h) ?_) ht
  rintro u s1 ⟨x, H1, J, rx, a, dx, fs, ex, ea, l, q⟩
  subst ex
  obtain rfl : u = Value.ref a := rx
  refine getmeth_ok J ea c hm l ?_
  exact PySem.W.callWith_K0 (first := [.ref a]) J.kIn hm.kp (run_fnG (us := [.ref a]) (vs := [.ref a]) (E := WE W) F.ok gd hr F.b (L2N.passAt tk σ) J (.cons rfl .nil) q)
theorem pe_mk (M : Mk X.K C f) (F : Cm X.prog X.w X.K X.mg X.base k f fd ps sp) (gd : X.A.guards = some []) (hr : Room (k + 1) X.A) (hm : X.mg x = some (.ref C)) (tk : L2N.Takes X W) (ha : PA X (e :: es) t) (hg : Gl X x := by rfl) (hdb : (x == ("__debug__" : Str)) = false := by decide)
    (he : starEach (e :: es) X.env = (false, eval e X.env) :: starEach es X.env := by rfl) (hpl : (backTo pos (starEach es X.env)).any (·.1) = false := by rfl) :
    PE X (.Call (.Name x p) (e :: es) [] pos) (tMakeS C sp (WE W) t) := by
  constructor
  intro pins s σ H Q I h
  refine wpAny_Call_Name_kw (ld_glob I hg hm ?_ hdb)
  refine PySem.W.callWith_K (h₀ := X.base) I.ok.mod.kin M.kp (thn (ha.run pos pins s σ H _ I h) ?_) he hpl
  rintro us s1 ⟨vs, H1, J, r, q⟩
  refine ⟨J.kIn, ?_⟩
  have hq := q (s1.heap.objs.size + 1) s1.heap.objs.size (J.hok.fresh (Nat.le_succ _)) (J.hok.fresh (Nat.le_refl _)) (Nat.ne_of_lt (Nat.lt_succ_self _))
  have J2 := Inv.made (C := C) J
  have rv : Vals (V.ref (s1.heap.objs.size + 1) :: vs) (Value.ref (s1.heap.objs.size + 1) :: us) := .cons rfl r
  have hl : (Value.ref (s1.heap.objs.size + 1) :: us).length = ps.length := by
    have e := rv.length
    rw [F.ok.len _ _ _ _ hq] at e
    exact e.symm
  have bd := F.b _ (Value.ref (s1.heap.objs.size + 1) :: us) J2.kIn (by rw [List.append_nil]; exact hl)
  rw [List.append_nil] at bd
  refine wpAny_call (make_map (f := f) J.kIn M.makes M.init (beq_iff_eq.mp M.fn) (codeAny_mono (F.ok.run _ X.stack _ _ ⟨Value.ref (s1.heap.objs.size + 1) :: us, []⟩ (Value.ref (s1.heap.objs.size + 1) :: us) _ _ (WE W σ) gd (hr.make C us []) (J2.env0.make C us []) bd rv hq) fun rr s2 hq2 => ?_))
  cases rr with
  | error er => exact L2N.passAt tk σ pins _ _ er s2 J2 hq2
  | ok fl =>
    cases fl with
    | ret u =>
      obtain ⟨v, H', J3, rr, ev, q3⟩ := J2.after hq2
      subst ev
      exact ⟨rr, ⟨V.ref (s1.heap.objs.size + 1), H', J3, rfl, q3⟩⟩
    | next => exact False.elim hq2
    | brk => exact False.elim hq2
    | cont => exact False.elim hq2
/-- len(x) by the own __len__ -/
theorem call_lenM (F : Cm X.prog X.w X.K X.mg X.base k f fd ps sp) (gd : X.A.guards = some []) (hr : Room (k + 1) X.A) (hs : PySem.W.findIn X.K (.ref C) "__len__" = some (some (.ref f))) (hf : PySem.W.isFn X.K (.ref f) = true) (tk : L2N.Takes X W) (E0 : XK) (hE : ∀ σ c d H, E0 c d H → W c d σ H) :
    CallR X (.builtin "len") (fun xs H Q => ∃ a dx fs, xs = [.ref a] ∧ H a = some (.ins C dx fs) ∧ sp [.ref a] H (fun v H' => ∃ n : Nat, v = .int n ∧ n < 2 ^ 62 ∧ Q (.int n) H') E0) := by
  intro pins s σ H xs us Q I r h
  obtain ⟨a, dx, fs, rfl, ha, hsp⟩ := h
  obtain ⟨u, rfl, ru⟩ := vals1 r
  cases ru
  obtain ⟨mA, J, _⟩ := ins_get I.hok ha
  obtain ⟨od, J, _⟩ := J.look
  obtain ⟨m, hF⟩ := I.fr
  refine PySem.W.len_K hF I.ok.mod.kin J hs hf ?_
  have e0 : Env0 X.prog X.w X.K X.mg X.base X.A.in1 X.stack s H := I.env0.in1
  have hl := F.ok.len _ _ _ _ hsp
  have r2 : Vals [V.ref a] [Value.ref a] := .cons rfl .nil
  refine wpAny_call (codeAny_mono (F.ok.run X.A.in1 X.stack s H ⟨[.ref a], []⟩ [.ref a] [.ref a] _ E0 gd hr.in1 e0 (by
    have := F.b s [.ref a] I.kIn (by simpa using hl)
    simpa using this) r2 hsp) fun r s' hq => ?_)
  cases r with
  | error e => exact tk e s' (L2N.XE.of_call I (fun c d H' h => hE σ c d H' h) hq)
  | ok fl =>
    cases fl with
    | ret w =>
      obtain ⟨z, H', I', rz, n, ez, hn, q⟩ := I.after hq
      subst ez
      obtain ⟨t, rfl⟩ := rz
      exact ⟨⟨by omega, by omega⟩, .int n, H', I'.tok _, ⟨_, rfl⟩, q⟩
    | next => exact False.elim hq
    | brk => exact False.elim hq
    | cont => exact False.elim hq
/-- x == y by the own __eq__ -/
theorem op_eqM (F : Cm X.prog X.w X.K X.mg X.base k f fd ps sp) (gd : X.A.guards = some []) (hr : Room k X.A) (hs : PySem.W.findIn X.K (.ref C) "__eq__" = some (some (.ref f))) (hf : PySem.W.isFn X.K (.ref f) = true) (tk : L2N.Takes X W) (E0 : XK) (hE : ∀ σ c d H, E0 c d H → W c d σ H) :
    OpR X (compareOp .Eq) (rEqOwn C sp E0) := by
  intro pins s σ H x y v u Q I rx ry hq
  obtain ⟨a, b, dx, dy, fs, gs, rfl, rfl, ha, hbb, hsp⟩ := hq
  cases rx
  cases ry
  show wpAny (model X.prog X.w) X.A (richCompare .Eq (.ref a) (.ref b)) (EP X pins σ Q) X.xe s
  obtain ⟨_, Ja, _⟩ := ins_get I.hok ha
  obtain ⟨_, Jb, _⟩ := ins_get I.hok hbb
  obtain ⟨_, Ja, _⟩ := Ja.look
  obtain ⟨_, Jb, _⟩ := Jb.look
  obtain ⟨_, hF⟩ := I.fr
  refine PySem.W.cmp_K (op := .Eq) (tb := .ref C) hr.units0 hF I.ok.mod.kin Ja Jb.type (by simp [PySem.W.notFirst]) hs hf ?_
  have hl := F.ok.len _ _ _ _ hsp
  have rv : Vals [V.ref a, V.ref b] [Value.ref a, Value.ref b] := .cons rfl (.cons rfl .nil)
  have bd := F.b s [.ref a, .ref b] I.kIn (by simpa using hl)
  refine wpAny_call (codeAny_mono (F.ok.run X.A X.stack s H ⟨[.ref a, .ref b], []⟩ [.ref a, .ref b] [.ref a, .ref b] _ E0 gd hr I.env0 (by simpa using bd) rv hsp) fun r s' hq => ?_)
  cases r with
  | error e => exact tk e s' (L2N.XE.of_call I (fun c d H' h => hE σ c d H' h) hq)
  | ok fl =>
    cases fl with
    | ret z =>
      obtain ⟨c, H', J, rz, t, ez, q⟩ := I.after hq
      subst ez
      cases (show z = Value.bool t from rz)
      exact ⟨.bl t, H', J, rfl, q⟩
    | next => exact False.elim hq
    | brk => exact False.elim hq
    | cont => exact False.elim hq
end
end MI
/-! Own layer: encoders; built-ins, lists that are changed, equality of data, branches of expressions. -/
namespace MI
open PySem PySem.Spec PyProof.Rows L2 Evl PW
/-! ### encoders -/
abbrev eL {α : Type} (e : α → D) (xs : List α) : D := .lst (xs.map e)
abbrev eT {α : Type} (e : α → D) (xs : List α) : D := .tup (xs.map e)
abbrev eP {α β : Type} (e : α → D) (f : β → D) (p : α × β) : D := .tup [e p.1, f p.2]
abbrev eP3 {α β γ : Type} (e : α → D) (f : β → D) (g : γ → D) (p : α × β × γ) : D := .tup [e p.1, f p.2.1, g p.2.2]
abbrev eP4 {α β γ δ : Type} (e : α → D) (f : β → D) (g : γ → D) (h : δ → D) (p : α × β × γ × δ) : D := .tup [e p.1, f p.2.1, g p.2.2.1, h p.2.2.2]
abbrev eLP {α β : Type} (e : α → D) (f : β → D) (p : α × β) : D := .lst [e p.1, f p.2]
abbrev eU (_ : Unit) : D := .non
def eO {α : Type} (e : α → D) : Option α → D
  | none => .non
  | some x => e x
def eS {α β : Type} (e : α → D) (f : β → D) : α ⊕ β → D
  | .inl x => e x
  | .inr y => f y
abbrev eQ : Int × Int → D := eP D.int D.int
/-! ### data as the library has it -/
class Dat {α : Type} (e : α → D) where
  p : α → PyData
  dp : ∀ (K : PySem.W.Frag) (F : Hp) (v : V) (x : α), Rep K F v (e x) → Dp K F v (p x)
  ok : α → Bool
  lay : ∀ x, ok x = true → (p x).canLay0 = true
  deep : Nat
  dpt : ∀ x, (p x).depth ≤ deep
  eqv : ∀ x y, PyData.eqv (p x) (p y) = true ↔ x = y
class DatL {α : Type} (e : α → D) [Dat e] : Prop where
  all : ∀ x, Dat.ok e x = true
instance : Dat D.int where
  p := .int
  dp := fun K F v x r => by cases r; exact .int x
  ok := fun _ => true
  lay := fun x _ => by simp [PyData.canLay0]
  deep := 0
  dpt := fun x => by simp [PyData.depth]
  eqv := fun x y => by simp [PyData.eqv]
instance : Dat D.bl where
  p := .bool
  dp := fun K F v x r => by cases r; exact .bl x
  ok := fun _ => true
  lay := fun x _ => by simp [PyData.canLay0]
  deep := 0
  dpt := fun x => by simp [PyData.depth]
  eqv := fun x y => by simp [PyData.eqv]
instance : Dat D.str where
  p := .str
  dp := fun K F v x r => by cases r; exact .str x
  ok := fun x => PyData.strOk x
  lay := fun x h => by simpa [PyData.canLay0] using h
  deep := 0
  dpt := fun x => by simp [PyData.depth]
  eqv := fun x y => by simp [PyData.eqv]
instance : DatL D.int := ⟨fun _ => rfl⟩
instance : DatL D.bl := ⟨fun _ => rfl⟩
section
variable {α β γ δ : Type} {K : PySem.W.Frag} {F : Hp}
theorem dpAll_map {e : α → D} [d : Dat e] : ∀ {xs : List α} {vs : List V}, Reps K F vs (xs.map e) → DpAll K F vs (xs.map (Dat.p e))
  | [], _, .nil => .nil
  | x :: xs, _, .cons r t => .cons (Dat.dp K F _ x r) (dpAll_map t)
theorem layAll_map {e : α → D} [d : Dat e] : ∀ xs : List α, xs.all (Dat.ok e) = true → PyData.canLayAll0 (xs.map (Dat.p e)) = true
  | [], _ => by simp [PyData.canLayAll0]
  | x :: xs, h => by
    rw [List.all_cons, Bool.and_eq_true] at h
    simp [PyData.canLayAll0, Dat.lay (e := e) x h.1, layAll_map xs h.2]
theorem depthAll_map {e : α → D} [d : Dat e] : ∀ xs : List α, PyData.depthAll (xs.map (Dat.p e)) ≤ d.deep
  | [] => by simp [PyData.depthAll]
  | x :: xs => by
    have h1 := d.dpt x
    have h2 := depthAll_map (e := e) xs
    simp only [List.map_cons, PyData.depthAll]
    omega
theorem eqvAll_map {e : α → D} [d : Dat e] : ∀ xs ys : List α, PyData.eqvAll (xs.map (Dat.p e)) (ys.map (Dat.p e)) = true ↔ xs = ys
  | [], [] => by simp [PyData.eqvAll]
  | [], y :: ys => by simp [PyData.eqvAll]
  | x :: xs, [] => by simp [PyData.eqvAll]
  | x :: xs, y :: ys => by
    have := d.eqv x y
    have := eqvAll_map (e := e) xs ys
    simp only [List.map_cons, PyData.eqvAll, Bool.and_eq_true, List.cons.injEq]
    simp_all
end
instance {α : Type} (e : α → D) [d : Dat e] : Dat (eL e) where
  p := fun xs => .list (xs.map (Dat.p e))
  dp := fun K F v x r => by
    cases r with
    | lst s l t => exact .lst (SqL.of s) (dpAll_map t)
  ok := fun x => x.all (Dat.ok e)
  lay := fun x h => by simp only [PyData.canLay0]; exact layAll_map x h
  deep := d.deep + 1
  dpt := fun x => by
    have := depthAll_map (e := e) x
    simp only [PyData.depth]
    omega
  eqv := fun x y => by
    simp only [PyData.eqv]
    exact eqvAll_map x y
instance {α : Type} (e : α → D) [d : Dat e] : Dat (eT e) where
  p := fun xs => .tuple (xs.map (Dat.p e))
  dp := fun K F v x r => by
    cases r with
    | tup s l t => exact .tup s (dpAll_map t)
  ok := fun x => x.all (Dat.ok e)
  lay := fun x h => by simp only [PyData.canLay0]; exact layAll_map x h
  deep := d.deep + 1
  dpt := fun x => by
    have := depthAll_map (e := e) x
    simp only [PyData.depth]
    omega
  eqv := fun x y => by
    simp only [PyData.eqv]
    exact eqvAll_map x y
instance {α β : Type} (e : α → D) (f : β → D) [d : Dat e] [d2 : Dat f] : Dat (eP e f) where
  p := fun x => .tuple [Dat.p e x.1, Dat.p f x.2]
  dp := fun K F v x r => by
    cases r with
    | tup s l t =>
      cases t with
      | cons r1 t =>
        cases t with
        | cons r2 t =>
          cases t
          exact .tup s (.cons (Dat.dp K F _ _ r1) (.cons (Dat.dp K F _ _ r2) .nil))
  ok := fun x => Dat.ok e x.1 && Dat.ok f x.2
  lay := fun x h => by
    rw [Bool.and_eq_true] at h
    simp [PyData.canLay0, PyData.canLayAll0, Dat.lay (e := e) x.1 h.1, Dat.lay (e := f) x.2 h.2]
  deep := d.deep + d2.deep + 1
  dpt := fun x => by
    have h1 := d.dpt x.1
    have h2 := d2.dpt x.2
    simp only [PyData.depth, PyData.depthAll]
    omega
  eqv := fun x y => by
    obtain ⟨x1, x2⟩ := x
    obtain ⟨y1, y2⟩ := y
    have h1 := d.eqv x1 y1
    have h2 := d2.eqv x2 y2
    simp only [PyData.eqv, PyData.eqvAll, Bool.and_true, Bool.and_eq_true, Prod.mk.injEq, h1, h2]
instance {α β γ : Type} (e : α → D) (f : β → D) (g : γ → D) [d : Dat e] [d2 : Dat f] [d3 : Dat g] : Dat (eP3 e f g) where
  p := fun x => .tuple [Dat.p e x.1, Dat.p f x.2.1, Dat.p g x.2.2]
  dp := fun K F v x r => by
    cases r with
    | tup s l t =>
      cases t with
      | cons r1 t =>
        cases t with
        | cons r2 t =>
          cases t with
          | cons r3 t =>
            cases t
            exact .tup s (.cons (Dat.dp K F _ _ r1) (.cons (Dat.dp K F _ _ r2) (.cons (Dat.dp K F _ _ r3) .nil)))
  ok := fun x => Dat.ok e x.1 && (Dat.ok f x.2.1 && Dat.ok g x.2.2)
  lay := fun x h => by
    rw [Bool.and_eq_true, Bool.and_eq_true] at h
    simp [PyData.canLay0, PyData.canLayAll0, Dat.lay (e := e) x.1 h.1, Dat.lay (e := f) x.2.1 h.2.1, Dat.lay (e := g) x.2.2 h.2.2]
  deep := d.deep + d2.deep + d3.deep + 1
  dpt := fun x => by
    have h1 := d.dpt x.1
    have h2 := d2.dpt x.2.1
    have h3 := d3.dpt x.2.2
    simp only [PyData.depth, PyData.depthAll]
    omega
  eqv := fun x y => by
    obtain ⟨x1, x2, x3⟩ := x
    obtain ⟨y1, y2, y3⟩ := y
    have h1 := d.eqv x1 y1
    have h2 := d2.eqv x2 y2
    have h3 := d3.eqv x3 y3
    simp only [PyData.eqv, PyData.eqvAll, Bool.and_true, Bool.and_eq_true, Prod.mk.injEq, h1, h2, h3]
instance {α : Type} (e : α → D) [Dat e] [d : DatL e] : DatL (eL e) := ⟨fun x => by show x.all (Dat.ok e) = true; rw [List.all_eq_true]; exact fun y _ => d.all y⟩
instance {α : Type} (e : α → D) [Dat e] [d : DatL e] : DatL (eT e) := ⟨fun x => by show x.all (Dat.ok e) = true; rw [List.all_eq_true]; exact fun y _ => d.all y⟩
instance {α β : Type} (e : α → D) (f : β → D) [Dat e] [Dat f] [d : DatL e] [d2 : DatL f] : DatL (eP e f) := ⟨fun x => by show (Dat.ok e x.1 && Dat.ok f x.2) = true; rw [d.all, d2.all]; rfl⟩
instance {α β γ : Type} (e : α → D) (f : β → D) (g : γ → D) [Dat e] [Dat f] [Dat g] [d : DatL e] [d2 : DatL f] [d3 : DatL g] : DatL (eP3 e f g) := ⟨fun x => by show (Dat.ok e x.1 && (Dat.ok f x.2.1 && Dat.ok g x.2.2)) = true; rw [d.all, d2.all, d3.all]; rfl⟩
section
variable {α : Type} {e : α → D} [d : Dat e] [dl : DatL e]
theorem Dat.shaped (x : α) (h : d.deep ≤ 64) : SeqAt.shaped (Dat.p e x) = true := by
  show ((Dat.p e x).canLay0 && decide ((Dat.p e x).depth ≤ 64)) = true
  rw [Bool.and_eq_true]
  exact ⟨Dat.lay x (dl.all x), decide_eq_true (Nat.le_trans (Dat.dpt x) h)⟩
omit dl in
theorem Dat.eqd [DecidableEq α] (x y : α) : PyData.eqv (Dat.p e x) (Dat.p e y) = decide (x = y) := by
  by_cases h : x = y
  · rw [decide_eq_true h]
    exact (Dat.eqv x y).mpr h
  · rw [decide_eq_false h]
    exact Bool.eq_false_iff.mpr fun z => h ((Dat.eqv x y).mp z)
end
section
variable {K : PySem.W.Frag} {B : Bs} {cl : Exn → Addr} {W : WX} {n : Nat} {ω α β γ ρ π ζ τ : Type} {P : Res ω → Prop} {F H F' H' : Hp} {σ : L2.St} {ss : List Sl} {Q : VK} {E : XK} {v u : V} {vs us xs : List V} {d e : D} {ds es : List D} {i j : Nat} {a : Addr}
/-! ### == and in, of data -/
theorem s_eqD {en : α → D} [Dat en] [DatL en] [DecidableEq α] {x y : α} (c : Ctx K B F H σ ss) (r1 : Rep K F v (en x)) (r2 : Rep K F u (en y)) (q : Q (.bl (decide (x = y))) H) (h : Dat.deep en ≤ 60 := by decide) : rEqD K v u H Q :=
  ⟨_, _, Dat.dp K H _ x (r1.mono c.fh), Dat.dp K H _ y (r2.mono c.fh), Dat.shaped x (by omega), Dat.shaped y (by omega), by rw [Dat.eqd]; exact q⟩
theorem s_neD {en : α → D} [Dat en] [DatL en] [DecidableEq α] {x y : α} (c : Ctx K B F H σ ss) (r1 : Rep K F v (en x)) (r2 : Rep K F u (en y)) (q : Q (.bl (decide (x ≠ y))) H) (h : Dat.deep en ≤ 60 := by decide) : rNeD K v u H Q :=
  ⟨_, _, Dat.dp K H _ x (r1.mono c.fh), Dat.dp K H _ y (r2.mono c.fh), Dat.shaped x (by omega), Dat.shaped y (by omega), by
    rw [Dat.eqd, ← decide_not]
    exact q⟩
theorem any_eqd {en : α → D} [Dat en] [DecidableEq α] {x : α} : ∀ ys : List α, ((ys.map (Dat.p en)).any fun z => PyData.eqv z (Dat.p en x)) = decide (x ∈ ys)
  | [] => by simp
  | y :: ys => by
    rw [List.map_cons, List.any_cons, any_eqd ys, Dat.eqd]
    by_cases h : x = y
    · subst h; simp
    · have : ¬ y = x := fun q => h q.symm
      simp [this, h]
theorem s_inD {en : α → D} [Dat en] [DatL en] [DecidableEq α] {x : α} {ys : List α} (c : Ctx K B F H σ ss) (r1 : Rep K F v (en x)) (r2 : Rep K F u (eL en ys)) (q : Q (.bl (decide (x ∈ ys))) H) (h : Dat.deep en ≤ 60 := by decide) : rInD K v u H Q :=
  ⟨_, _, Dat.dp K H _ x (r1.mono c.fh), Dat.dp (e := eL en) K H _ ys (r2.mono c.fh), Dat.shaped x (by omega), Dat.shaped (e := eL en) ys (by show Dat.deep en + 1 ≤ 64; omega), by rw [any_eqd]; exact q⟩
theorem s_notInD {en : α → D} [Dat en] [DatL en] [DecidableEq α] {x : α} {ys : List α} (c : Ctx K B F H σ ss) (r1 : Rep K F v (en x)) (r2 : Rep K F u (eL en ys)) (q : Q (.bl (decide (x ∉ ys))) H) (h : Dat.deep en ≤ 60 := by decide) : rNotInD K v u H Q :=
  ⟨_, _, Dat.dp K H _ x (r1.mono c.fh), Dat.dp (e := eL en) K H _ ys (r2.mono c.fh), Dat.shaped x (by omega), Dat.shaped (e := eL en) ys (by show Dat.deep en + 1 ≤ 64; omega), by rw [any_eqd, ← decide_not]; exact q⟩
/-- an owned list, read as data -/
theorem own_list {en : α → D} {ys : List α} (c : Ctx K B F H σ ss) (h : H a = some (.lst xs)) (l : xs.length ≤ sizeLine) (r : Reps K F xs (ys.map en)) : Rep K H (.ref a) (eL en ys) := .lst h l (r.mono c.fh)
theorem s_inO {en : α → D} [Dat en] [DatL en] [DecidableEq α] {x : α} {ys : List α} (c : Ctx K B F H σ ss) (r1 : Rep K F v (en x)) (hx : H a = some (.lst xs)) (l : xs.length ≤ sizeLine) (r2 : Reps K F xs (ys.map en)) (q : Q (.bl (decide (x ∈ ys))) H) (h : Dat.deep en ≤ 60 := by decide) : rInD K v (.ref a) H Q :=
  ⟨_, _, Dat.dp K H _ x (r1.mono c.fh), Dat.dp (e := eL en) K H _ ys (own_list c hx l r2), Dat.shaped x (by omega), Dat.shaped (e := eL en) ys (by show Dat.deep en + 1 ≤ 64; omega), by rw [any_eqd]; exact q⟩
theorem s_notInO {en : α → D} [Dat en] [DatL en] [DecidableEq α] {x : α} {ys : List α} (c : Ctx K B F H σ ss) (r1 : Rep K F v (en x)) (hx : H a = some (.lst xs)) (l : xs.length ≤ sizeLine) (r2 : Reps K F xs (ys.map en)) (q : Q (.bl (decide (x ∉ ys))) H) (h : Dat.deep en ≤ 60 := by decide) : rNotInD K v (.ref a) H Q :=
  ⟨_, _, Dat.dp K H _ x (r1.mono c.fh), Dat.dp (e := eL en) K H _ ys (own_list c hx l r2), Dat.shaped x (by omega), Dat.shaped (e := eL en) ys (by show Dat.deep en + 1 ≤ 64; omega), by rw [any_eqd, ← decide_not]; exact q⟩
/-- ints in a list or a tuple of ints -/
theorem inV_ints {x : Int} : ∀ ys : List Int, inV (.int x) (ys.map V.int) = decide (x ∈ ys)
  | [] => by simp [inV]
  | y :: ys => by
    have ih := inV_ints (x := x) ys
    unfold inV at ih ⊢
    rw [List.map_cons, List.any_cons, ih]
    by_cases h : x = y
    · subst h; simp [eqV]
    · have : ¬ y = x := fun q => h q.symm
      simp [eqV, this, h]
theorem flat_ints : ∀ ys : List Int, (ys.map V.int).all flatV = true
  | [] => rfl
  | y :: ys => by rw [List.map_cons, List.all_cons, flat_ints ys]; rfl
theorem s_inIL {x : Int} {ys : List Int} (c : Ctx K B F H σ ss) (r : Rep K F v (eL D.int ys)) (q : Q (.bl (decide (x ∈ ys))) H) : rIn K false (.int x) v H Q := by
  cases r with
  | lst s l t => exact ⟨_, _, rfl, .inl (SqL.of (c.fh _ _ s)), rfl, by rw [t.int_inv]; exact flat_ints ys, by rw [t.int_inv, inV_ints]; exact q⟩
theorem s_inIT {x : Int} {ys : List Int} (c : Ctx K B F H σ ss) (r : Rep K F v (eT D.int ys)) (q : Q (.bl (decide (x ∈ ys))) H) : rIn K false (.int x) v H Q := by
  cases r with
  | tup s l t => exact ⟨_, _, rfl, .inr (ex_t c.fh s), rfl, by rw [t.int_inv]; exact flat_ints ys, by rw [t.int_inv, inV_ints]; exact q⟩
theorem s_notInIL {x : Int} {ys : List Int} (c : Ctx K B F H σ ss) (r : Rep K F v (eL D.int ys)) (q : Q (.bl (decide (x ∉ ys))) H) : rIn K true (.int x) v H Q := by
  cases r with
  | lst s l t => exact ⟨_, _, rfl, .inl (SqL.of (c.fh _ _ s)), rfl, by rw [t.int_inv]; exact flat_ints ys, by rw [t.int_inv, if_pos rfl, inV_ints, ← decide_not]; exact q⟩
theorem s_notInIT {x : Int} {ys : List Int} (c : Ctx K B F H σ ss) (r : Rep K F v (eT D.int ys)) (q : Q (.bl (decide (x ∉ ys))) H) : rIn K true (.int x) v H Q := by
  cases r with
  | tup s l t => exact ⟨_, _, rfl, .inr (ex_t c.fh s), rfl, by rw [t.int_inv]; exact flat_ints ys, by rw [t.int_inv, if_pos rfl, inV_ints, ← decide_not]; exact q⟩
/-- x is None -/
theorem s_isN {en : α → D} {x : Option α} (r : Rep K F v (eO en x)) (hn : ∀ y, en y ≠ .non) (q : Q (.bl x.isNone) H) : v = v ∧ (V.non = .non ∧ Q (.bl (decide (v = .non))) H) := ⟨rfl, rfl, by
  cases x with
  | none => cases r; exact q
  | some y =>
    have : v ≠ .non := fun z => by
      subst z
      have r : Rep K F .non (en y) := r
      generalize hd : en y = d at r
      cases r
      exact hn y hd
    rw [decide_eq_false this]
    exact q⟩
theorem s_isNone {en : α → D} {x : Option α} (r : Rep K F v (eO en x)) (hn : ∀ y, en y ≠ .non) (q : Q (.bl x.isNone) H) : V.non = .non ∧ Q (.bl (decide (v = .non))) H := (s_isN r hn q).2
theorem s_notNone {en : α → D} {x : Option α} (r : Rep K F v (eO en x)) (hn : ∀ y, en y ≠ .non) (q : Q (.bl x.isSome) H) : V.non = .non ∧ Q (.bl (!decide (v = .non))) H := ⟨rfl, by
  have := (s_isN (Q := fun w _ => w = .bl x.isNone) (H := H) r hn rfl).2.2
  rw [V.bl.inj this]
  cases x <;> exact q⟩
/-! ### built-ins -/
theorem s_gcd {x y : Int} (q : Q (.int ((Nat.gcd x.natAbs y.natAbs : Nat) : Int)) H) : rGcd [.int x, .int y] H Q := ⟨x, y, rfl, q⟩
def lcmR (a b : Int) : Res Int := if Sm a ∧ Sm b then .ok ((Nat.lcm a.natAbs b.natAbs : Nat) : Int) else .bad
theorem s_lcm {x y : Int} {f : Int → Res ω} (s : Sct K B n cl W P) (hm : P ((lcmR x y).bind f)) (q : ∀ z, lcmR x y = .ok z → P (f z) → Q (.int z) H) : rLcm [.int x, .int y] H Q := by
  unfold lcmR at hm
  by_cases h : Sm x ∧ Sm y
  · rw [if_pos h] at hm
    have e : lcmR x y = .ok ((Nat.lcm x.natAbs y.natAbs : Nat) : Int) := if_pos h
    exact ⟨x, y, rfl, Nat.lt_trans h.1 (Nat.pow_lt_pow_right (by decide) (by decide)), Nat.lt_trans h.2 (Nat.pow_lt_pow_right (by decide) (by decide)), q _ e hm⟩
  · rw [if_neg h] at hm
    exact absurd hm s.bad
theorem s_abs {x : Int} (q : Q (.int ((x.natAbs : Nat) : Int)) H) : ∃ i : Int, [V.int x] = [.int i] ∧ Q (.int (if i < 0 then -i else i)) H := ⟨x, rfl, by
  have : (if x < 0 then -x else x) = ((x.natAbs : Nat) : Int) := by split <;> omega
  rw [this]
  exact q⟩
theorem s_intI {x : Int} (q : Q (.int x) H) : (∃ i : Int, [V.int x] = [.int i] ∧ Q (.int i) H) ∨ ∃ k : Bool, [V.int x] = [.bl k] ∧ Q (.int (if k then 1 else 0)) H := .inl ⟨x, rfl, q⟩
theorem s_intB {x : Bool} (q : Q (.int (if x = true then 1 else 0)) H) : (∃ i : Int, [V.bl x] = [.int i] ∧ Q (.int i) H) ∨ ∃ k : Bool, [V.bl x] = [.bl k] ∧ Q (.int (if k then 1 else 0)) H := .inr ⟨x, rfl, q⟩
theorem s_lenL {en : α → D} {zs : List α} (c : Ctx K B F H σ ss) (r : Rep K F v (eL en zs)) (q : Q (.int zs.length) H) : ∃ p ys, [v] = [.ref p] ∧ (SqL K H p ys ∨ SqT K H p ys) ∧ Q (.int ys.length) H := by
  cases r with
  | lst s l t => exact ⟨_, _, rfl, .inl (SqL.of (c.fh _ _ s)), by rw [t.len_map]; exact q⟩
theorem s_lenT {en : α → D} {zs : List α} (c : Ctx K B F H σ ss) (r : Rep K F v (eT en zs)) (q : Q (.int zs.length) H) : ∃ p ys, [v] = [.ref p] ∧ (SqL K H p ys ∨ SqT K H p ys) ∧ Q (.int ys.length) H := by
  cases r with
  | tup s l t => exact ⟨_, _, rfl, .inr (ex_t c.fh s), by rw [t.len_map]; exact q⟩
theorem s_lenO {en : α → D} {zs : List α} (hx : H a = some (.lst xs)) (r : Reps K F xs (zs.map en)) (q : Q (.int zs.length) H) : ∃ p ys, [V.ref a] = [.ref p] ∧ (SqL K H p ys ∨ SqT K H p ys) ∧ Q (.int ys.length) H :=
  ⟨_, _, rfl, .inl (SqL.of hx), by rw [r.len_map]; exact q⟩
def strLen (x : Str) : Res Int := if x.length ≤ 16000000 then .ok x.length else .bad
theorem s_lenS {x : Str} {f : Int → Res ω} (s : Sct K B n cl W P) (hm : P ((strLen x).bind f)) (q : ∀ z, strLen x = .ok z → P (f z) → Q (.int z) H) : ∃ z, [V.str x] = [.str z] ∧ z.length ≤ sizeLine ∧ Q (.int z.length) H := by
  unfold strLen at hm
  by_cases h : x.length ≤ 16000000
  · rw [if_pos h] at hm
    have : sizeLine = 16777216 := sizeLine_eq
    exact ⟨x, rfl, by omega, q _ (if_pos h) hm⟩
  · rw [if_neg h] at hm
    exact absurd hm s.bad
theorem Reps.bl_inv : ∀ {vs : List V} {bs : List Bool}, Reps K F vs (bs.map D.bl) → vs = bs.map V.bl
  | _, [], .nil => rfl
  | _, b :: bs, .cons r t => by
    cases r
    rw [List.map_cons, Reps.bl_inv t]
theorem s_all {bs : List Bool} (c : Ctx K B F H σ ss) (r : Rep K F v (eL D.bl bs)) (q : Q (.bl (bs.all id)) H) : rAll K [v] H Q := by
  cases r with
  | lst s l t => exact ⟨_, bs, rfl, by rw [← t.bl_inv]; exact SqL.of (c.fh _ _ s), q⟩
theorem s_any {bs : List Bool} (c : Ctx K B F H σ ss) (r : Rep K F v (eL D.bl bs)) (q : Q (.bl (bs.any id)) H) : rAny K [v] H Q := by
  cases r with
  | lst s l t => exact ⟨_, bs, rfl, by rw [← t.bl_inv]; exact SqL.of (c.fh _ _ s), q⟩
theorem s_sum {ns : List Int} (c : Ctx K B F H σ ss) (r : Rep K F v (eL D.int ns)) (q : Q (.int ns.sum) H) : rSum K [v] H Q := by
  cases r with
  | lst s l t => exact ⟨_, ns, rfl, by rw [← t.int_inv]; exact SqL.of (c.fh _ _ s), q⟩
/-- tuple(xs) -/
theorem s_tupL {en : α → D} {zs : List α} (c : Ctx K B F H σ ss) (r : Rep K F v (eL en zs)) (q : ∀ u F' H', Ex F F' → Ctx K B F' H' σ ss → Rep K F' u (eT en zs) → Q u H') :
    ∃ p ys, [v] = [.ref p] ∧ ((SqL K H p ys ∧ ∀ l, H l = none → Q (.ref l) (upd H l (.tup ys))) ∨ (SqT K H p ys ∧ Q (.ref p) H)) := by
  cases r with
  | lst s l t =>
    refine ⟨_, _, rfl, .inl ⟨SqL.of (c.fh _ _ s), fun p hp => ?_⟩⟩
    have st := Step.frz (io := none) (o := .tup ‹List V›) c.fh hp
    exact q _ _ _ st.ff (c.step st) (Rep.tup (SqT.of upd_same) l (t.mono st.ff))
theorem s_tupT {en : α → D} {zs : List α} (c : Ctx K B F H σ ss) (r : Rep K F v (eT en zs)) (q : Q v H) :
    ∃ p ys, [v] = [.ref p] ∧ ((SqL K H p ys ∧ ∀ l, H l = none → Q (.ref l) (upd H l (.tup ys))) ∨ (SqT K H p ys ∧ Q (.ref p) H)) := by
  cases r with
  | tup s l t => exact ⟨_, _, rfl, .inr ⟨ex_t c.fh s, q⟩⟩
theorem s_tupO {en : α → D} {zs : List α} (c : Ctx K B F H σ ss) (hx : H a = some (.lst xs)) (l : xs.length ≤ sizeLine) (t : Reps K F xs (zs.map en)) (q : ∀ u F' H', Ex F F' → Ctx K B F' H' σ ss → Rep K F' u (eT en zs) → Q u H') :
    ∃ p ys, [V.ref a] = [.ref p] ∧ ((SqL K H p ys ∧ ∀ l, H l = none → Q (.ref l) (upd H l (.tup ys))) ∨ (SqT K H p ys ∧ Q (.ref p) H)) := by
  refine ⟨_, _, rfl, .inl ⟨SqL.of hx, fun p hp => ?_⟩⟩
  have st := Step.frz (io := none) (o := .tup xs) c.fh hp
  exact q _ _ _ st.ff (c.step st) (Rep.tup (SqT.of upd_same) l (t.mono st.ff))
/-- list(xs) -/
theorem s_list {S : Src} {en : α → D} {zs : List α} (c : Ctx K B F H σ ss) (h : SrcOk K F v S (zs.map en)) (hl : zs.length ≤ sizeLine) (q : ∀ u H', Ctx K B F H' σ ss → Nw K B σ ss F H' u (zs.map en) → Q u H') :
    ∃ S ys, [v] = [Src.v S] ∧ Src.at K H S ys ∧ ys.length ≤ sizeLine ∧ ∀ p, H p = none → Q (.ref p) (upd H p (.lst ys)) := by
  obtain ⟨xs, t, hs⟩ := h.at_
  have l : xs.length ≤ sizeLine := by rw [t.len_map]; exact hl
  obtain ⟨_, k⟩ := s_lstO (Q := Q) c t l q
  exact ⟨S, xs, by rw [h.vq], hs _ c.fh, l, k⟩
theorem SrcOk.len {S : Src} {en : α → D} {zs : List α} (h : SrcOk K F v S (zs.map en)) (nS : ∀ x, v ≠ .str x) : zs.length ≤ sizeLine := by
  generalize hd : zs.map en = ds at h
  cases h with
  | lst r =>
    cases r with
    | lst s l t => rw [← List.length_map (f := en), hd, ← t.length]; exact l
  | tup r =>
    cases r with
    | tup s l t => rw [← List.length_map (f := en), hd, ← t.length]; exact l
  | str x => exact absurd rfl (nS x)
theorem s_listL {en : α → D} {zs : List α} (c : Ctx K B F H σ ss) (r : Rep K F v (eL en zs)) (q : ∀ u H', Ctx K B F H' σ ss → Nw K B σ ss F H' u (zs.map en) → Q u H') :
    ∃ S ys, [v] = [Src.v S] ∧ Src.at K H S ys ∧ ys.length ≤ sizeLine ∧ ∀ p, H p = none → Q (.ref p) (upd H p (.lst ys)) := by
  cases r with
  | lst s l t => exact s_list c (.lst (.lst s l t)) (by rw [← t.len_map]; exact l) q
theorem s_listT {en : α → D} {zs : List α} (c : Ctx K B F H σ ss) (r : Rep K F v (eT en zs)) (q : ∀ u H', Ctx K B F H' σ ss → Nw K B σ ss F H' u (zs.map en) → Q u H') :
    ∃ S ys, [v] = [Src.v S] ∧ Src.at K H S ys ∧ ys.length ≤ sizeLine ∧ ∀ p, H p = none → Q (.ref p) (upd H p (.lst ys)) := by
  cases r with
  | tup s l t => exact s_list c (.tup (.tup s l t)) (by rw [← t.len_map]; exact l) q
theorem s_listO {en : α → D} {zs : List α} (c : Ctx K B F H σ ss) (hx : H a = some (.lst xs)) (l : xs.length ≤ sizeLine) (t : Reps K F xs (zs.map en)) (q : ∀ u H', Ctx K B F H' σ ss → Nw K B σ ss F H' u (zs.map en) → Q u H') :
    ∃ S ys, [V.ref a] = [Src.v S] ∧ Src.at K H S ys ∧ ys.length ≤ sizeLine ∧ ∀ p, H p = none → Q (.ref p) (upd H p (.lst ys)) := by
  obtain ⟨_, k⟩ := s_lstO (Q := Q) c t l q
  exact ⟨.lst a, xs, rfl, SqL.of hx, l, k⟩
/-! ### owned lists that are changed -/
theorem s_tyO {xs : List V} (hx : H a = some (.lst xs)) : tyV K "list" (.ref a) H := .inl ⟨rfl, xs, SqL.of hx⟩
theorem s_append {en : α → D} {zs : List α} {z : α} {f : List α → Res ω} {ss' : List α → List Sl} (s : Sct K B n cl W P) (hm : P ((chkLen (zs ++ [z])).bind f)) (c : Ctx K B F H σ ss) (ha : σ[i]? = some (some (.ref a))) (h : ss[i]? = some (.own (zs.map en))) (r : Rep K F v (en z)) (e : ss.set i (.own ((zs ++ [z]).map en)) = ss' (zs ++ [z]))
    (q : ∀ zs' H', P (f zs') → Ctx K B F H' σ (ss' zs') → Q .non H') : rAppend (.ref a) [v] H Q := by
  unfold chkLen at hm
  by_cases hl : (zs ++ [z]).length ≤ 16000000
  · rw [if_pos hl] at hm
    obtain ⟨a', ha', w, f', xs, hx, l, t⟩ := c.own h
    cases ha.symm.trans ha'
    have lz := t.len_map
    rw [List.length_append] at hl
    have hl : zs.length + 1 ≤ 16000000 := hl
    have : sizeLine = 16777216 := sizeLine_eq
    refine ⟨a, xs, v, rfl, rfl, hx, by omega, q _ _ hm ?_⟩
    rw [← e]
    exact c.write h (by rw [List.length_append]; show _ + 1 ≤ _; omega) (by rw [List.map_append]; exact t.app (.cons r .nil)) ha
  · rw [if_neg hl] at hm
    exact absurd hm s.bad
theorem s_reverse {en : α → D} {zs : List α} {ss' : List Sl} (c : Ctx K B F H σ ss) (ha : σ[i]? = some (some (.ref a))) (h : ss[i]? = some (.own (zs.map en))) (e : ss.set i (.own (zs.reverse.map en)) = ss') (q : ∀ H', Ctx K B F H' σ ss' → Q .non H') : rReverse (.ref a) [] H Q := by
  obtain ⟨a', ha', w, f', xs, hx, l, t⟩ := c.own h
  cases ha.symm.trans ha'
  refine ⟨a, xs, rfl, rfl, hx, q _ ?_⟩
  rw [← e]
  exact c.write h (by rw [List.length_reverse]; exact l) (by rw [List.map_reverse]; exact t.rev) ha
def popR {α : Type} (xs : List α) : Res (α × List α) := match xs.getLast? with
  | some x => .ok (x, xs.dropLast)
  | none => .bad
theorem getLast_ix {α : Type} {xs : List α} {x : α} (h : xs.getLast? = some x) : xs[xs.length - 1]? = some x := by
  rw [← List.getLast?_eq_getElem?]
  exact h
theorem s_pop {en : α → D} {zs : List α} {f : α × List α → Res ω} {ss' : List α → List Sl} (s : Sct K B n cl W P) (hm : P ((popR zs).bind f)) (c : Ctx K B F H σ ss) (ha : σ[i]? = some (some (.ref a))) (h : ss[i]? = some (.own (zs.map en))) (e : ∀ ys, ss.set i (.own (ys.map en)) = ss' ys)
    (q : ∀ x zs' v H', P (f (x, zs')) → Ctx K B F H' σ (ss' zs') → Rep K F v (en x) → Q v H') : rPop (.ref a) [] H Q := by
  unfold popR at hm
  cases hz : zs.getLast? with
  | none => rw [hz] at hm; exact absurd hm s.bad
  | some x =>
    rw [hz] at hm
    obtain ⟨a', ha', w, f', xs, hx, l, t⟩ := c.own h
    cases ha.symm.trans ha'
    have lz := t.len_map
    obtain ⟨v, h1, h2⟩ := t.at_map (getLast_ix hz)
    rw [← lz] at h1
    refine ⟨a, xs, v, rfl, rfl, hx, h1, q x zs.dropLast v _ hm ?_ h2⟩
    rw [← e]
    refine c.write h (by rw [List.length_dropLast]; omega) ?_ ha
    rw [List.map_dropLast, List.dropLast_eq_take, List.dropLast_eq_take, ← t.length]
    exact t.take _
def popAtR {α : Type} (xs : List α) (k : Int) : Res (α × List α) := if 0 ≤ k ∧ k < 2 ^ 62 then (match xs[k.toNat]? with
  | some x => .ok (x, xs.eraseIdx k.toNat)
  | none => .bad) else .bad
theorem Reps.erase {vs : List V} {ds : List D} (t : Reps K F vs ds) (k : Nat) : Reps K F (vs.eraseIdx k) (ds.eraseIdx k) := by
  rw [List.eraseIdx_eq_take_drop_succ, List.eraseIdx_eq_take_drop_succ]
  exact (t.take k).app (t.drop (k + 1))
theorem map_erase {α β : Type} (g : α → β) (xs : List α) (k : Nat) : (xs.eraseIdx k).map g = (xs.map g).eraseIdx k := by
  rw [List.eraseIdx_eq_take_drop_succ, List.eraseIdx_eq_take_drop_succ, List.map_append, List.map_take, List.map_drop]
theorem s_popAt {en : α → D} {zs : List α} {k : Int} {f : α × List α → Res ω} {ss' : List α → List Sl} (s : Sct K B n cl W P) (hm : P ((popAtR zs k).bind f)) (c : Ctx K B F H σ ss) (ha : σ[i]? = some (some (.ref a))) (h : ss[i]? = some (.own (zs.map en))) (e : ∀ ys, ss.set i (.own (ys.map en)) = ss' ys)
    (q : ∀ x zs' v H', P (f (x, zs')) → Ctx K B F H' σ (ss' zs') → Rep K F v (en x) → Q v H') : rPopAt (.ref a) [.int k] H Q := by
  unfold popAtR at hm
  by_cases hk : 0 ≤ k ∧ k < 2 ^ 62
  · rw [if_pos hk] at hm
    cases hz : zs[k.toNat]? with
    | none => rw [hz] at hm; exact absurd hm s.bad
    | some x =>
      rw [hz] at hm
      obtain ⟨a', ha', w, f', xs, hx, l, t⟩ := c.own h
      cases ha.symm.trans ha'
      have lz := t.len_map
      obtain ⟨v, h1, h2⟩ := t.at_map hz
      have hlt := (List.getElem?_eq_some_iff.mp hz).1
      have e1 : seqIndex? k xs.length = some k.toNat := (ixN_seq (by unfold ixN; rw [if_pos hk.1, if_pos (by omega)])).1
      refine ⟨a, xs, k, k.toNat, v, rfl, rfl, hx, by omega, by omega, e1, h1, q x (zs.eraseIdx k.toNat) v _ hm ?_ h2⟩
      rw [← e]
      refine c.write h (Nat.le_trans (len_erase xs _) l) ?_ ha
      rw [map_erase]
      exact t.erase _
  · rw [if_neg hk] at hm
    exact absurd hm s.bad
def insR {α : Type} (xs : List α) (k : Int) (x : α) : Res (List α) := if 0 ≤ k ∧ k ≤ xs.length ∧ xs.length ≤ 16000000 then .ok (xs.take k.toNat ++ x :: xs.drop k.toNat) else .bad
def setR {α : Type} (xs : List α) (k : Int) (x : α) : Res (List α) := match ixN xs.length k with
  | some j => .ok (xs.set j x)
  | none => .bad
theorem s_setIx {en : α → D} {zs : List α} {z : α} {k : Int} {f : List α → Res ω} {ss' : List α → List Sl} {N : Hp → Prop} (s : Sct K B n cl W P) (hm : P ((setR zs k z).bind f)) (c : Ctx K B F H σ ss) (ha : σ[i]? = some (some (.ref a))) (h : ss[i]? = some (.own (zs.map en))) (r : Rep K F v (en z)) (e : ∀ ys, ss.set i (.own (ys.map en)) = ss' ys)
    (q : ∀ zs' H', P (f zs') → Ctx K B F H' σ (ss' zs') → N H') : rSetL (.ref a) (.int k) v H N := by
  unfold setR at hm
  cases hk : ixN zs.length k with
  | none => rw [hk] at hm; exact absurd hm s.bad
  | some j =>
    rw [hk] at hm
    obtain ⟨a', ha', w, f', xs, hx, l, t⟩ := c.own h
    cases ha.symm.trans ha'
    have lz := t.len_map
    refine ⟨a, xs, k, j, rfl, rfl, hx, by rw [lz]; exact hk, q _ _ hm ?_⟩
    rw [← e]
    refine c.write h (by rw [List.length_set]; exact l) ?_ ha
    rw [List.map_set]
    exact Reps.set r j t
/-! ### the in-out list -/
theorem s_truthL {xs : List V} {R : Bool → Hp → Prop} (q : R (!xs.isEmpty) H) (hx : H a = some (.lst xs)) : True := trivial
theorem Reps.empty {en : α → D} {zs : List α} (t : Reps K F xs (zs.map en)) : xs.isEmpty = zs.isEmpty := by
  cases zs with
  | nil => cases t; rfl
  | cons z zs => cases t; rfl
/-! ### texts -/
def catS (x y : Str) : Res Str := if x.length + y.length ≤ 16000000 then .ok (x ++ y) else .bad
theorem s_catS {x y : Str} {f : Str → Res ω} (s : Sct K B n cl W P) (hm : P ((catS x y).bind f)) (q : ∀ z, catS x y = .ok z → P (f z) → Q (.str z) H) : ∃ i j : Str, V.str x = .str i ∧ V.str y = .str j ∧ i.length + j.length ≤ sizeLine ∧ Q (.str (i ++ j)) H := by
  unfold catS at hm
  by_cases h : x.length + y.length ≤ 16000000
  · rw [if_pos h] at hm
    have : sizeLine = 16777216 := sizeLine_eq
    exact ⟨x, y, rfl, rfl, by omega, q _ (if_pos h) hm⟩
  · rw [if_neg h] at hm
    exact absurd hm s.bad
def reprR {α : Type} (e : α → D) [Dat e] (x : α) : Res Str := if (Dat.p e x).showable = true ∧ (Dat.p e x).hasDict = false ∧ (Dat.p e x).shown.length ≤ 16000000 ∧ (Dat.p e x).depth < 40 then .ok (Dat.p e x).shown else .bad
theorem s_repr {en : α → D} [Dat en] {x : α} {f : Str → Res ω} (s : Sct K B n cl W P) (hm : P ((reprR en x).bind f)) (c : Ctx K B F H σ ss) (r : Rep K F v (en x)) (q : ∀ z, reprR en x = .ok z → P (f z) → Q (.str z) H) : rShow K [v] H Q := by
  unfold reprR at hm
  split at hm
  · next h =>
    have : sizeLine = 16777216 := sizeLine_eq
    exact ⟨v, Dat.p en x, rfl, Dat.dp K H v x (r.mono c.fh), ⟨h.1, h.2.1, by omega, h.2.2.2⟩, q _ (if_pos h) hm⟩
  · exact absurd hm s.bad
theorem s_reprO {en : α → D} [Dat en] {zs : List α} {f : Str → Res ω} (s : Sct K B n cl W P) (hm : P ((reprR (eL en) zs).bind f)) (c : Ctx K B F H σ ss) (hx : H a = some (.lst xs)) (l : xs.length ≤ sizeLine) (t : Reps K F xs (zs.map en)) (q : ∀ z, reprR (eL en) zs = .ok z → P (f z) → Q (.str z) H) : rShow K [.ref a] H Q := by
  unfold reprR at hm
  split at hm
  · next h =>
    have : sizeLine = 16777216 := sizeLine_eq
    exact ⟨_, Dat.p (eL en) zs, rfl, Dat.dp (e := eL en) K H _ zs (own_list c hx l t), ⟨h.1, h.2.1, by omega, h.2.2.2⟩, q _ (if_pos h) hm⟩
  · exact absurd hm s.bad
end
end MI
/-! Own layer: the rules in the forms that the printed readings use. -/
namespace MI
open PySem PySem.Spec PyProof.Rows L2 Evl PW
def Res.bind2 {α β γ : Type} (m : Res (α × β)) (f : α → β → Res γ) : Res γ := m.bind fun p => f p.1 p.2
@[simp] theorem Res.ok_bind2 {α β γ : Type} (a : α) (b : β) (f : α → β → Res γ) : (Res.ok (a, b)).bind2 f = f a b := rfl
def Ctl.then {τ ρ ω : Type} (f : τ → Res ω) (g : ρ → Res ω) : Ctl τ ρ → Res ω
  | .nx s => f s
  | .bk s => f s
  | .rt r => g r
def gcdI (a b : Int) : Int := ((Nat.gcd a.natAbs b.natAbs : Nat) : Int)
def absI (a : Int) : Int := ((a.natAbs : Nat) : Int)
def rngL (lo hi : Int) : Res (List Int) := if -(2 ^ 62) ≤ lo ∧ lo < 2 ^ 62 ∧ -(2 ^ 62) ≤ hi ∧ hi < 2 ^ 62 ∧ hi - lo ≤ 16000000 then .ok (rng lo hi) else .bad
def catR {α : Type} (xs ys : List α) : Res (List α) := if xs.length + ys.length ≤ 16000000 then .ok (xs ++ ys) else .bad
def repR {α : Type} (xs : List α) (k : Int) : Res (List α) := if xs ≠ [] ∧ 0 ≤ k ∧ k ≤ 1000 ∧ xs.length ≤ 1000 then .ok (List.replicate k.toNat xs).flatten else .bad
def repLR {α : Type} (xs : List α) (k : Int) : Res (List α) := if k < 2 ^ 62 ∧ -(2 ^ 62) ≤ k ∧ xs.length * k.toNat ≤ 16000000 then .ok (List.replicate k.toNat xs).flatten else .bad
def cut {α : Type} (xs : List α) (lo hi : Option Int) : List α :=
  let a := HT.sIx xs.length 0 lo
  let b := HT.sIx xs.length xs.length hi
  (xs.drop a).take (b - a)
abbrev eSq {α : Type} (b : Bool) (e : α → D) (xs : List α) : D := cond b (.lst (xs.map e)) (.tup (xs.map e))
def isStr {β : Type} (x : Str ⊕ β) (y : Str) : Bool := match x with
  | .inl z => decide (z = y)
  | .inr _ => false
def getL {α β : Type} : α ⊕ β → Res α
  | .inl x => .ok x
  | .inr _ => .bad
def getR {α β : Type} : α ⊕ β → Res β
  | .inl _ => .bad
  | .inr y => .ok y
def getO {α : Type} : Option α → Res α
  | some x => .ok x
  | none => .bad
theorem noOwn0 {ss : List Sl} {s : Sl} {j : Nat} {es : List D} (q : (ss.set 0 (.io es))[j]? = some s) (h : s ≠ .io es) : ss[j]? = some s := by
  by_cases e : 0 = j
  · subst e
    exact absurd (get_set_same q) h
  · rw [List.getElem?_set_ne e] at q
    exact q
def ForP (J : It) (g : TG) (tb : TS) (E : Ends) (σ : L2.St) (H : Hp) : Prop :=
    ∃ W : Nat → Nat → L2.St → Hp → Prop, (∃ m, W 0 m σ H) ∧ ∀ i m σ H, W i m σ H →
      (J.stop i H ∧ E.nx σ H) ∨ (J.go i H ∧ ∃ N : L2.St → Hp → Prop, (∀ σ' H', N σ' H' → ∃ m', m' < m ∧ W (i + 1) m' σ' H') ∧ ∀ x H', J.yld i H x H' → g x σ H' fun σ2 H2 => tb { E with nx := N, ct := N, bk := E.nx } σ2 H2)
def LcQ (J : It) (g : TG) (tt : TT) (te : TE) (vs : List Nat) (σ : L2.St) (H : Hp) (Q : VK) : Prop :=
    ∀ D, H D = none → ∃ W : Nat → Nat → Hp → Prop, (∃ m, W 0 m (upd H D (.lst []))) ∧ ∀ i m H, W i m H →
      (J.stop i H ∧ Q (.ref D) H) ∨ (J.go i H ∧ ∃ Nx : Hp → Prop, (∀ H', Nx H' → ∃ m', m' < m ∧ W (i + 1) m' H') ∧ ∀ x H', J.yld i H x H' → g x (L2.wipe σ vs) H' fun σ2 H2 => L2.wipe σ2 vs = L2.wipe σ vs ∧ tt σ2 H2 fun b H3 =>
        if b = true then te σ2 H3 fun y H4 => ∃ acc, H4 D = some (.lst acc) ∧ acc.length < sizeLine ∧ Nx (upd H4 D (.lst (acc ++ [y]))) else Nx H3)
def ParP (i j : Nat) (D : Ends) (vs : List V) (σ : L2.St) (H : Hp) : Prop := ∃ v w, vs = [v, w] ∧ D.nx ((σ.set i (some v)).set j (some w)) H
section
variable {K : PySem.W.Frag} {B : Bs} {cl : Exn → Addr} {W : WX} {n : Nat} {ω α β γ ρ π ζ τ : Type} {P : Res ω → Prop} {F H F' H' : Hp} {σ : L2.St} {ss ss' : List Sl} {Q : VK} {E : XK} {v u : V} {vs us xs : List V} {d d1 d2 d3 : D} {ds es : List D} {i j m : Nat} {a : Addr} {R : It → Hp → Prop}
/-! ### the start of a def -/
theorem ctx_start {N : List Str} (e : Ex F H) (r : Reps K F vs ds) (h : ss = ds.map Sl.val ++ List.replicate (N.length - ds.length) .un) (l : ds.length ≤ N.length := by decide) : Ctx K ⟨F, H, none⟩ F H (L2.start N vs) ss := by
  have hl := r.length
  subst h
  refine ⟨Step.refl e, ?_, fun i v s h1 h2 => ?_, fun i j a d1 d2 ne h1 => ?_, fun a h => (nomatch h), fun i es h => ?_⟩
  · unfold L2.start
    simp only [List.length_append, List.length_map, List.length_replicate, hl]
  · by_cases hi : i < ds.length
    · unfold L2.start at h1
      rw [List.getElem?_append_left (by rw [List.length_map, hl]; exact hi), List.getElem?_map] at h1
      rw [List.getElem?_append_left (by rw [List.length_map]; exact hi), List.getElem?_map] at h2
      rw [List.getElem?_eq_getElem hi] at h2
      cases h2
      obtain ⟨x, h3, h4⟩ := r.get (List.getElem?_eq_getElem hi)
      rw [h3] at h1
      cases h1
      exact ⟨x, rfl, h4⟩
    · rw [List.getElem?_append_right (by rw [List.length_map]; omega)] at h2
      have := List.eq_of_mem_replicate (List.mem_of_getElem? h2)
      subst this
      trivial
  · by_cases hi : i < ds.length
    · rw [List.getElem?_append_left (by rw [List.length_map]; exact hi), List.getElem?_map, List.getElem?_eq_getElem hi] at h1
      cases h1
    · rw [List.getElem?_append_right (by rw [List.length_map]; omega)] at h1
      cases List.eq_of_mem_replicate (List.mem_of_getElem? h1)
  · by_cases hi : i < ds.length
    · rw [List.getElem?_append_left (by rw [List.length_map]; exact hi), List.getElem?_map, List.getElem?_eq_getElem hi] at h
      cases h
    · rw [List.getElem?_append_right (by rw [List.length_map]; omega)] at h
      cases List.eq_of_mem_replicate (List.mem_of_getElem? h)
theorem ctx_startIO {N : List Str} {l : Addr} {gs : List D} (e : Ex F H) (o : Own K F H l gs) (r : Reps K F vs ds) (h : ss = .io gs :: (ds.map Sl.val ++ List.replicate (N.length - (ds.length + 1)) .un)) (le : ds.length + 1 ≤ N.length := by decide) : Ctx K ⟨F, H, some l⟩ F H (L2.start N (.ref l :: vs)) ss := by
  have hl := r.length
  subst h
  obtain ⟨xs, hx, _⟩ := id o.ob
  have st : L2.start N (.ref l :: vs) = some (.ref l) :: (vs.map some ++ List.replicate (N.length - (vs.length + 1)) none) := rfl
  rw [st]
  refine ⟨Step.refl e, ?_, fun i v s h1 h2 => ?_, fun i j a d1 d2 ne h1 => ?_, fun a h => ?_, fun i es h => ?_⟩
  · simp only [List.length_append, List.length_map, List.length_replicate, hl, List.length_cons]
  · cases i with
    | zero =>
      cases h1
      cases h2
      exact ⟨l, rfl, rfl, o⟩
    | succ i =>
      rw [List.getElem?_cons_succ] at h1 h2
      by_cases hi : i < ds.length
      · rw [List.getElem?_append_left (by rw [List.length_map, hl]; exact hi), List.getElem?_map] at h1
        rw [List.getElem?_append_left (by rw [List.length_map]; exact hi), List.getElem?_map] at h2
        rw [List.getElem?_eq_getElem hi] at h2
        cases h2
        obtain ⟨x, h3, h4⟩ := r.get (List.getElem?_eq_getElem hi)
        rw [h3] at h1
        cases h1
        exact ⟨x, rfl, h4⟩
      · rw [List.getElem?_append_right (by rw [List.length_map]; omega)] at h2
        have := List.eq_of_mem_replicate (List.mem_of_getElem? h2)
        subst this
        trivial
  · cases i with
    | zero => cases h1
    | succ i =>
      rw [List.getElem?_cons_succ] at h1
      by_cases hi : i < ds.length
      · rw [List.getElem?_append_left (by rw [List.length_map]; exact hi), List.getElem?_map, List.getElem?_eq_getElem hi] at h1
        cases h1
      · rw [List.getElem?_append_right (by rw [List.length_map]; omega)] at h1
        cases List.eq_of_mem_replicate (List.mem_of_getElem? h1)
  · cases h
    exact ⟨rfl, by show H l ≠ none; rw [hx]; exact fun z => (nomatch z), o.fr⟩
  · cases i with
    | zero => rfl
    | succ i =>
      rw [List.getElem?_cons_succ] at h
      by_cases hi : i < ds.length
      · rw [List.getElem?_append_left (by rw [List.length_map]; exact hi), List.getElem?_map, List.getElem?_eq_getElem hi] at h
        cases h
      · rw [List.getElem?_append_right (by rw [List.length_map]; omega)] at h
        cases List.eq_of_mem_replicate (List.mem_of_getElem? h)
/-! ### the ends -/
theorem Fin.retN {rt : ρ → Rt} {out : ρ → List D} {y : ρ} (hm : Fin K cl B rt out Q E (.ok y)) (c : Ctx K B F H σ ss) (r : Nw K B σ ss F H v ds) (h : rt y = .own ds) (ho : B.io = none ∨ ss[0]? = some (.io (out y))) : Q v H := by
  obtain ⟨a, rfl, w, o, _⟩ := r
  refine hm.ok y rfl _ F H c.st (by rw [h]; exact ⟨a, rfl, w, o⟩) fun a e => ?_
  rcases ho with ho | ho
  · rw [ho] at e; cases e
  · obtain ⟨a', h1, h2, h3⟩ := c.inout ho
    rw [h2] at e
    cases e
    exact h3
theorem Fin.retS {rt : ρ → Rt} {out : ρ → List D} {y : ρ} (hm : Fin K cl B rt out Q E (.ok y)) (c : Ctx K B F H σ ss) (ha : σ[i]? = some (some (.ref a))) (hs : ss[i]? = some (.own ds)) (h : rt y = .own ds) (ho : B.io = none ∨ ss[0]? = some (.io (out y))) : Q (.ref a) H := by
  obtain ⟨a', h1, w, o⟩ := c.own hs
  cases ha.symm.trans h1
  refine hm.ok y rfl _ F H c.st (by rw [h]; exact ⟨a, rfl, w, o⟩) fun a e => ?_
  rcases ho with ho | ho
  · rw [ho] at e; cases e
  · obtain ⟨a', h1, h2, h3⟩ := c.inout ho
    rw [h2] at e
    cases e
    exact h3
/-! ### values and tests -/
theorem s_test' {b : Bool} {R : Bool → Prop} (q : R b) : ∃ k, V.bl b = .bl k ∧ R k := ⟨b, rfl, q⟩
theorem s_varRd (c : Ctx K B F H σ ss) (h : ss[i]? = some (.rd ds)) (k : ∀ a xs, σ[i]? = some (some (.ref a)) → H a = some (.lst xs) → xs.length ≤ sizeLine → Reps K F xs ds → Q (.ref a) H) : tVar i σ H Q := by
  obtain ⟨v, h1, a, rfl, _, _, xs, h2, h3, h4⟩ := c.at_ h
  exact ⟨_, h1, k a xs h1 h2 h3 h4⟩
theorem own_rep {en : α → D} {zs : List α} (c : Ctx K B F H σ ss) (hx : H a = some (.lst xs)) (l : xs.length ≤ sizeLine) (t : Reps K F xs (zs.map en)) : Rep K H (.ref a) (eL en zs) := .lst hx l (t.mono c.fh)
theorem s_mul' {a b : Int} {f : Int → Res ω} (s : Sct K B n cl W P) (hm : P ((mulR a b).bind f)) (q : ∀ x, mulR a b = .ok x → P (f x) → Q (.int x) H) : rI CMulW (fun i j => .int (i * j)) (.int a) (.int b) H Q :=
  s_mul s hm fun h => q _ (by
    have := hm
    unfold mulR at this ⊢
    split
    · rfl
    · next z => rw [if_neg z] at this; exact absurd this s.bad) h
theorem s_fdiv' {a b : Int} {f : Int → Res ω} (s : Sct K B n cl W P) (hm : P ((divR a b).bind f)) (q : ∀ x, divR a b = .ok x → P (f x) → Q (.int x) H) : rI CDivG (fun i j => .int (i.fdiv j)) (.int a) (.int b) H Q :=
  s_fdiv s hm fun h => q _ (by
    have := hm
    unfold divR at this ⊢
    split
    · rfl
    · next z => rw [if_neg z] at this; exact absurd this s.bad) h
theorem s_mod' {a b : Int} {f : Int → Res ω} (s : Sct K B n cl W P) (hm : P ((modR a b).bind f)) (q : ∀ x, modR a b = .ok x → P (f x) → Q (.int x) H) : rI (fun _ j => 0 < j) (fun i j => .int (i % j)) (.int a) (.int b) H Q :=
  s_mod s hm fun h => q _ (by
    have := hm
    unfold modR at this ⊢
    split
    · rfl
    · next z => rw [if_neg z] at this; exact absurd this s.bad) h
theorem s_andVP {ta tb : TE} {x y : Bool} (ha : ∀ Q', Q' (.bl x) H → ta σ H Q') (hb : ∀ Q', Q' (.bl y) H → tb σ H Q') (k : Q (.bl (x && y)) H) : tAndV ta tb σ H Q := ha _ ⟨x, rfl, by
  cases x with
  | true => exact hb _ k
  | false => exact k⟩
theorem s_orVP {ta tb : TE} {x y : Bool} (ha : ∀ Q', Q' (.bl x) H → ta σ H Q') (hb : ∀ Q', Q' (.bl y) H → tb σ H Q') (k : Q (.bl (x || y)) H) : tOrV ta tb σ H Q := ha _ ⟨x, rfl, by
  cases x with
  | true => exact k
  | false => exact hb _ k⟩
theorem s_andP {ta tb : TT} {x y : Bool} {R : Bool → Hp → Prop} (ha : ∀ R', R' x H → ta σ H R') (hb : ∀ R', R' y H → tb σ H R') (k : R (x && y) H) : tAnd ta tb σ H R := ha _ (by
  cases x with
  | true => exact hb _ k
  | false => exact k)
theorem s_orP {ta tb : TT} {x y : Bool} {R : Bool → Hp → Prop} (ha : ∀ R', R' x H → ta σ H R') (hb : ∀ R', R' y H → tb σ H R') (k : R (x || y) H) : tOr ta tb σ H R := ha _ (by
  cases x with
  | true => exact k
  | false => exact hb _ k)
theorem s_ifPI {tt : TT} {ta tb : TE} {b : Bool} {x y : Int} (ht : ∀ R', R' b H → tt σ H R') (ha : ∀ Q', Q' (.int x) H → ta σ H Q') (hb : ∀ Q', Q' (.int y) H → tb σ H Q') (k : Q (.int (if b = true then x else y)) H) : tIf tt ta tb σ H Q := ht _ (by
  cases b with
  | true => exact ha _ k
  | false => exact hb _ k)
theorem s_ifPB {tt : TT} {ta tb : TE} {b x y : Bool} (ht : ∀ R', R' b H → tt σ H R') (ha : ∀ Q', Q' (.bl x) H → ta σ H Q') (hb : ∀ Q', Q' (.bl y) H → tb σ H Q') (k : Q (.bl (if b = true then x else y)) H) : tIf tt ta tb σ H Q := ht _ (by
  cases b with
  | true => exact ha _ k
  | false => exact hb _ k)
theorem s_ifPS {tt : TT} {ta tb : TE} {b : Bool} {x y : Str} (ht : ∀ R', R' b H → tt σ H R') (ha : ∀ Q', Q' (.str x) H → ta σ H Q') (hb : ∀ Q', Q' (.str y) H → tb σ H Q') (k : Q (.str (if b = true then x else y)) H) : tIf tt ta tb σ H Q := ht _ (by
  cases b with
  | true => exact ha _ k
  | false => exact hb _ k)
theorem s_chainK {tc : TE} {r' : R2} {y : V} {b1 b2 : Bool} (hb : ∀ Q', Q' (.bl b2) H → tc σ H fun w H4 => r' y w H4 Q') (k : Q (.bl (b1 && b2)) H) : ∃ k, V.bl b1 = .bl k ∧ (if k = true then tc σ H fun w H4 => r' y w H4 Q else Q (.bl false) H) := ⟨b1, rfl, by
  cases b1 with
  | true => exact hb _ k
  | false => exact k⟩
theorem s_cutB {t : TT} {R : Bool → Hp → Prop} {mm : Res Bool} {f : Bool → Res ω} (s : Sct K B n cl W P) (hm : P (mm.bind f))
    (rest : ∀ b F' H', P (f b) → Ex F F' → Ctx K B F' H' σ ss' → R b H')
    (body : ∀ (P' : Res Bool → Prop) (R' : Bool → Hp → Prop), Sct K B n cl W P' → P' mm → (∀ b F' H', P' (.ok b) → Ex F F' → Ctx K B F' H' σ ss' → R' b H') → t σ H R') : t σ H R := body _ R s.bind hm rest
theorem s_cut' {t : TS} {u : L2.St → Hp → Prop} {D : Ends} {mm : Res τ} {f : τ → Res ω} {nx : τ → List Sl} (s : Sct K B n cl W P) (hm : P (mm.bind f))
    (rest : ∀ st F' H' σ', P (f st) → Ex F F' → Ctx K B F' H' σ' (nx st) → u σ' H')
    (body : ∀ (P' : Res τ → Prop) (N : L2.St → Hp → Prop), Sct K B n cl W P' → P' mm → (∀ st F' H' σ', P' (.ok st) → Ex F F' → Ctx K B F' H' σ' (nx st) → N σ' H') → t { D with nx := N } σ H) : t { D with nx := u } σ H := body _ u s.bind hm rest
/-! ### lengths, sources -/
theorem lenL {en : α → D} {zs : List α} (r : Rep K F v (eL en zs)) : zs.length ≤ sizeLine := by
  cases r with
  | lst s l t => rw [← t.len_map]; exact l
theorem lenT {en : α → D} {zs : List α} (r : Rep K F v (eT en zs)) : zs.length ≤ sizeLine := by
  cases r with
  | tup s l t => rw [← t.len_map]; exact l
theorem lenS {b : Bool} {en : α → D} {zs : List α} (r : Rep K F v (eSq b en zs)) : zs.length ≤ sizeLine := by
  cases b with
  | true => exact lenL r
  | false => exact lenT r
theorem srcS {b : Bool} {en : α → D} {zs : List α} (r : Rep K F v (eSq b en zs)) : ∃ S, SrcOk K F v S (zs.map en) := by
  cases b with
  | true => exact srcL r
  | false => exact srcT r
theorem zip_len {xs : List α} {ys : List β} (h : xs.length ≤ m) : (xs.zip ys).length ≤ m := by
  rw [List.length_zip]
  omega
theorem s_iSrc {b : Bool} {en : α → D} {zs : List α} (c : Ctx K B F H σ ss) (r : Rep K F v (eSq b en zs)) (k : ∀ J, ItOk K J F zs en → R J H) : ∃ S : Src, v = S.v ∧ S.sq ∧ (∃ xs, S.at K H xs) ∧ R (ItP K S) H := by
  cases b with
  | true =>
    cases r with
    | lst s l t => exact ⟨.lst _, rfl, trivial, ⟨_, SqL.of (c.fh _ _ s)⟩, k _ (it_list (.lst s l t))⟩
  | false =>
    cases r with
    | tup s l t => exact ⟨.tup _, rfl, trivial, ⟨_, ex_t c.fh s⟩, k _ (it_tup (.tup s l t))⟩
theorem s_lenQ {b : Bool} {en : α → D} {zs : List α} (c : Ctx K B F H σ ss) (r : Rep K F v (eSq b en zs)) (q : Q (.int zs.length) H) : ∃ p ys, [v] = [.ref p] ∧ (SqL K H p ys ∨ SqT K H p ys) ∧ Q (.int ys.length) H := by
  cases b with
  | true => exact s_lenL c r q
  | false => exact s_lenT c r q
theorem s_tupS {b : Bool} {en : α → D} {zs : List α} (c : Ctx K B F H σ ss) (r : Rep K F v (eSq b en zs)) (q : ∀ u F' H', Ex F F' → Ctx K B F' H' σ ss → Rep K F' u (eT en zs) → Q u H') :
    ∃ p ys, [v] = [.ref p] ∧ ((SqL K H p ys ∧ ∀ l, H l = none → Q (.ref l) (upd H l (.tup ys))) ∨ (SqT K H p ys ∧ Q (.ref p) H)) := by
  cases b with
  | true => exact s_tupL c r q
  | false => exact s_tupT c r (q _ _ _ (Ex.refl _) c r)
theorem s_iRng1' {hi : Int} {f : List Int → Res ω} (s : Sct K B n cl W P) (hm : P ((rngR 0 hi).bind f)) (k : ∀ zs, rngR 0 hi = .ok zs → P (f zs) → ∀ J, ItOk K J F zs D.int → R J H) : ∃ j : Int, [V.int hi] = [.int j] ∧ -(2 ^ 62) ≤ j ∧ j < 2 ^ 62 ∧ R (Itr 0 j.toNat) H := by
  refine s_iRng1 (F := F) s hm fun h J it => k _ ?_ h J it
  unfold rngR at hm ⊢
  split
  · rfl
  · next z => rw [if_neg z] at hm; exact absurd hm s.bad
theorem s_iRng2' {lo hi : Int} {f : List Int → Res ω} (s : Sct K B n cl W P) (hm : P ((rngR lo hi).bind f)) (k : ∀ zs, rngR lo hi = .ok zs → P (f zs) → ∀ J, ItOk K J F zs D.int → R J H) : ∃ i j : Int, [V.int lo, V.int hi] = [.int i, .int j] ∧ (-(2 ^ 62) ≤ i ∧ i < 2 ^ 62 ∧ -(2 ^ 62) ≤ j ∧ j < 2 ^ 62) ∧ R (Itr i (j - i).toNat) H := by
  refine s_iRng2 (F := F) s hm fun h J it => k _ ?_ h J it
  unfold rngR at hm ⊢
  split
  · rfl
  · next z => rw [if_neg z] at hm; exact absurd hm s.bad
theorem s_iRng1L {hi : Int} {f : List Int → Res ω} (s : Sct K B n cl W P) (hm : P ((rngL 0 hi).bind f)) (k : ∀ zs, zs.length ≤ sizeLine → rngL 0 hi = .ok zs → P (f zs) → ∀ J, ItOk K J F zs D.int → R J H) : ∃ j : Int, [V.int hi] = [.int j] ∧ -(2 ^ 62) ≤ j ∧ j < 2 ^ 62 ∧ R (Itr 0 j.toNat) H := by
  have : sizeLine = 16777216 := sizeLine_eq
  unfold rngL at hm k
  split at hm
  · next h => exact ⟨hi, rfl, h.2.2.1, h.2.2.2.1, k _ (by rw [rng_len]; omega) (if_pos h) hm _ (it_rng (by omega))⟩
  · exact absurd hm s.bad
theorem s_iRng2L {lo hi : Int} {f : List Int → Res ω} (s : Sct K B n cl W P) (hm : P ((rngL lo hi).bind f)) (k : ∀ zs, zs.length ≤ sizeLine → rngL lo hi = .ok zs → P (f zs) → ∀ J, ItOk K J F zs D.int → R J H) : ∃ i j : Int, [V.int lo, V.int hi] = [.int i, .int j] ∧ (-(2 ^ 62) ≤ i ∧ i < 2 ^ 62 ∧ -(2 ^ 62) ≤ j ∧ j < 2 ^ 62) ∧ R (Itr i (j - i).toNat) H := by
  have : sizeLine = 16777216 := sizeLine_eq
  unfold rngL at hm k
  split at hm
  · next h => exact ⟨lo, hi, rfl, ⟨h.1, h.2.1, h.2.2.1, h.2.2.2.1⟩, k _ (by rw [rng_len]; omega) (if_pos h) hm _ (it_rng rfl)⟩
  · exact absurd hm s.bad
/-! ### comprehensions without and with a test -/
theorem s_compM {J : It} {zs : List ζ} {dz : ζ → D} {en : β → D} {el : ζ → Res β} {f : List β → Res ω} {g : TG} {up : List Sl → ζ → List Sl} {te : TE} {vs : List Nat} {ss' : ζ → List Sl}
    (s : Sct K B n cl W P) (hm : P ((mapR el zs).bind f)) (c : Ctx K B F H σ ss) (it : ItOk K J F zs dz) (n0 : 0 ∉ vs ∨ B.io = none) (tg : TgOk K vs g dz up) (he : ∀ z, up (wipeS (ss.map Sl.toRd) vs) z = ss' z) (hl : zs.length ≤ sizeLine)
    (turn : ∀ (B' : Bs) (z : ζ) (F' H' : Hp) (σ' : L2.St) (P' : Res β → Prop) (G : VK) (Sk : Hp → Prop), B'.io = none → (∀ m W' cl', Sct K B' m cl' W' P') → P' (el z) → z ∈ zs → Ex F F' → Ctx K B' F' H' σ' (ss' z) →
      (∀ b v F4 H4 σ4 ss4, P' (.ok b) → Ctx K B' F4 H4 σ4 ss4 → Rep K F4 v (en b) → G v H4) → (∀ F4 H4 σ4 ss4, False → Ctx K B' F4 H4 σ4 ss4 → Sk H4) → te σ' H' G)
    (k : ∀ v bs H', P (f bs) → (∃ F', Ex F F' ∧ Ctx K B F' H' σ ss ∧ Nw K B σ ss F' H' v (bs.map en)) → Q v H') :
    LcQ J g tYes te vs σ H Q := by
  rw [← mapR_comp] at hm
  refine s_comp (en := en) (ss' := ss') s hm c it n0 tg he hl (fun B' z F' H' σ' P' G Sk hio hs hp hz e c' kd ks => ?_) k
  have s' : ∀ m W' cl', Sct K B' m cl' W' (fun r : Res β => P' (r.bind fun b => .ok (some b))) := fun m W' cl' => (hs m W' cl').bind
  show te σ' H' G
  exact turn B' z F' H' σ' (fun r => P' (r.bind fun b => .ok (some b))) G (fun _ => True) hio s' hp hz e c' (fun b v F4 H4 σ4 ss4 h c4 r4 => kd b v F4 H4 σ4 ss4 h c4 r4) (fun _ _ _ _ h => h.elim)
theorem s_compF {J : It} {zs : List ζ} {dz : ζ → D} {en : β → D} {el : ζ → Res (Option β)} {f : List β → Res ω} {g : TG} {up : List Sl → ζ → List Sl} {tt : TT} {te : TE} {vs : List Nat} {ss' : ζ → List Sl}
    (s : Sct K B n cl W P) (hm : P ((compR el zs).bind f)) (c : Ctx K B F H σ ss) (it : ItOk K J F zs dz) (n0 : 0 ∉ vs ∨ B.io = none) (tg : TgOk K vs g dz up) (he : ∀ z, up (wipeS (ss.map Sl.toRd) vs) z = ss' z) (hl : zs.length ≤ sizeLine)
    (turn : ∀ (B' : Bs) (z : ζ) (F' H' : Hp) (σ' : L2.St) (P' : Res (Option β) → Prop) (G : VK) (Sk : Hp → Prop), B'.io = none → (∀ m W' cl', Sct K B' m cl' W' P') → P' (el z) → z ∈ zs → Ex F F' → Ctx K B' F' H' σ' (ss' z) →
      (∀ b v F4 H4 σ4 ss4, P' (.ok (some b)) → Ctx K B' F4 H4 σ4 ss4 → Rep K F4 v (en b) → G v H4) → (∀ F4 H4 σ4 ss4, P' (.ok none) → Ctx K B' F4 H4 σ4 ss4 → Sk H4) →
      tt σ' H' fun b H3 => if b = true then te σ' H3 G else Sk H3)
    (k : ∀ v bs H', P (f bs) → (∃ F', Ex F F' ∧ Ctx K B F' H' σ ss ∧ Nw K B σ ss F' H' v (bs.map en)) → Q v H') :
    LcQ J g tt te vs σ H Q :=
  s_comp s hm c it n0 tg he hl turn k
/-! ### several targets -/
theorem s_par {t : L2.St → Hp → Prop} (c : Ctx K B F H σ ss) (n1 : i ≠ 0 ∨ B.io = none) (n2 : j ≠ 0 ∨ B.io = none) (r1 : Rep K F v d1) (r2 : Rep K F u d2) (e : (ss.set i (.val d1)).set j (.val d2) = ss') (k : ∀ σ', Ctx K B F H σ' ss' → t σ' H) :
    ∃ x y, [v, u] = [x, y] ∧ t ((σ.set i (some x)).set j (some y)) H := ⟨v, u, rfl, k _ (e ▸ (c.set n1 r1).set n2 r2)⟩
theorem s_gP2 {N : L2.St → Hp → Prop} (c : Ctx K B F H σ ss) (n1 : i ≠ 0 ∨ B.io = none) (n2 : j ≠ 0 ∨ B.io = none) (r : Rep K F v (.tup [d1, d2])) (e : (ss.set i (.val d1)).set j (.val d2) = ss') (k : ∀ σ', Ctx K B F H σ' ss' → N σ' H) : gTup K 2 (gCons (gName i) (gCons (gName j) gNil)) v σ H N := by
  cases r with
  | tup s l t =>
    cases t with
    | cons r1 t =>
      cases t with
      | cons r2 t =>
        cases t
        exact ⟨_, _, rfl, ex_t c.fh s, rfl, _, _, rfl, _, _, rfl, rfl, k _ (e ▸ (c.set n1 r1).set n2 r2)⟩
theorem s_gP3 {N : L2.St → Hp → Prop} (c : Ctx K B F H σ ss) (n1 : i ≠ 0 ∨ B.io = none) (n2 : j ≠ 0 ∨ B.io = none) (n3 : m ≠ 0 ∨ B.io = none) (r : Rep K F v (.tup [d1, d2, d3])) (e : ((ss.set i (.val d1)).set j (.val d2)).set m (.val d3) = ss') (k : ∀ σ', Ctx K B F H σ' ss' → N σ' H) : gTup K 3 (gCons (gName i) (gCons (gName j) (gCons (gName m) gNil))) v σ H N := by
  cases r with
  | tup s l t =>
    cases t with
    | cons r1 t =>
      cases t with
      | cons r2 t =>
        cases t with
        | cons r3 t =>
          cases t
          exact ⟨_, _, rfl, ex_t c.fh s, rfl, _, _, rfl, _, _, rfl, _, _, rfl, rfl, k _ (e ▸ ((c.set n1 r1).set n2 r2).set n3 r3)⟩
theorem s_gL2 {N : L2.St → Hp → Prop} (c : Ctx K B F H σ ss) (n1 : i ≠ 0 ∨ B.io = none) (n2 : j ≠ 0 ∨ B.io = none) (r : Rep K F v (.lst [d1, d2])) (e : (ss.set i (.val d1)).set j (.val d2) = ss') (k : ∀ σ', Ctx K B F H σ' ss' → N σ' H) : gLst K 2 (gCons (gName i) (gCons (gName j) gNil)) v σ H N := by
  cases r with
  | lst s l t =>
    cases t with
    | cons r1 t =>
      cases t with
      | cons r2 t =>
        cases t
        exact ⟨_, _, rfl, SqL.of (c.fh _ _ s), rfl, _, _, rfl, _, _, rfl, rfl, k _ (e ▸ (c.set n1 r1).set n2 r2)⟩
/-! ### isinstance of lists and tuples -/
theorem tyx_tup {p : Addr} (h : SqT K H p xs) : TyX K H (.ref p) (.type "tuple") := by
  rcases h with (h | ⟨o, h⟩) | ⟨o, its, n, hk, hc, _⟩
  · exact .base (.tup h)
  · exact .fTuple h
  · exact .kTuple hk hc
theorem s_isiT {en : α → D} {zs : α} {nm : String} {b : Bool} (c : Ctx K B F H σ ss) (r : Rep K F v (en zs)) (ht : ∃ ds, en zs = .tup ds) (kk : PySem.W.kitOne K (.type "tuple") (.type nm) = some b) (q : Q (.bl b) H) : rIsi K [v, .ty nm] H Q := by
  obtain ⟨ds, e⟩ := ht
  rw [e] at r
  cases r with
  | tup s l t => exact ⟨_, .ty nm, .type "tuple", .type nm, b, rfl, .ty nm, tyx_tup (ex_t c.fh s), kk, q⟩
theorem s_isiL {en : α → D} {zs : α} {nm : String} {b : Bool} (c : Ctx K B F H σ ss) (r : Rep K F v (en zs)) (ht : ∃ ds, en zs = .lst ds) (kk : PySem.W.kitOne K (.type "list") (.type nm) = some b) (q : Q (.bl b) H) : rIsi K [v, .ty nm] H Q := by
  obtain ⟨ds, e⟩ := ht
  rw [e] at r
  cases r with
  | lst s l t => exact ⟨_, .ty nm, .type "list", .type nm, b, rfl, .ty nm, .base (.lst (c.fh _ _ s)), kk, q⟩
theorem s_isiO {nm : String} {b : Bool} (hx : H a = some (.lst xs)) (kk : PySem.W.kitOne K (.type "list") (.type nm) = some b) (q : Q (.bl b) H) : rIsi K [.ref a, .ty nm] H Q := ⟨_, .ty nm, .type "list", .type nm, b, rfl, .ty nm, .base (.lst hx), kk, q⟩
/-! ### truth of lists -/
theorem s_truO {en : α → D} {zs : List α} {R : Bool → Prop} (hx : H a = some (.lst xs)) (t : Reps K F xs (zs.map en)) (q : R (!zs.isEmpty)) : ∃ k, TruV K (.ref a) H k ∧ R k := ⟨_, .inl ⟨xs, SqL.of hx, rfl⟩, by rw [t.empty]; exact q⟩
theorem s_truL {en : α → D} {zs : List α} {R : Bool → Prop} (c : Ctx K B F H σ ss) (r : Rep K F v (eL en zs)) (q : R (!zs.isEmpty)) : ∃ k, TruV K v H k ∧ R k := by
  cases r with
  | lst s l t => exact ⟨_, .inl ⟨_, SqL.of (c.fh _ _ s), rfl⟩, by rw [t.empty]; exact q⟩
/-! ### lists and tuples put together, cut -/
theorem s_catT {en : α → D} {zs ys : List α} {f : List α → Res ω} (s : Sct K B n cl W P) (hm : P ((catR zs ys).bind f)) (c : Ctx K B F H σ ss) (r1 : Rep K F v (eT en zs)) (r2 : Rep K F u (eT en ys)) (q : ∀ x w F' H', P (f x) → Ex F F' → Ctx K B F' H' σ ss → Rep K F' w (eT en x) → Q w H') : rCatA K v u H Q := by
  unfold catR at hm
  split at hm
  · next h =>
    cases r1 with
    | tup s1 l1 t1 =>
      cases r2 with
      | tup s2 l2 t2 =>
        rename_i a1 xs1 a2 xs2
        have h1 := t1.len_map
        have h2 := t2.len_map
        have sz : sizeLine = 16777216 := sizeLine_eq
        refine ⟨_, _, _, _, rfl, rfl, ex_t c.fh s1, ex_t c.fh s2, by omega, fun e => ?_, fun e1 e2 => ?_, fun e1 e2 p hp => ?_⟩
        · subst e
          have : zs = [] := List.eq_nil_of_length_eq_zero (by rw [← h1]; rfl)
          subst this
          exact q _ _ _ _ hm (Ex.refl _) c (.tup s2 l2 t2)
        · subst e2
          have : ys = [] := List.eq_nil_of_length_eq_zero (by rw [← h2]; rfl)
          subst this
          rw [List.append_nil] at hm
          exact q _ _ _ _ hm (Ex.refl _) c (.tup s1 l1 t1)
        · have st := Step.frz (io := none) (o := .tup (xs1 ++ xs2)) c.fh hp
          exact q _ _ _ _ hm st.ff (c.step st) (Rep.tup (SqT.of upd_same) (by rw [List.length_append]; omega) (by rw [List.map_append]; exact (t1.app t2).mono st.ff))
  · exact absurd hm s.bad
theorem s_catL {en : α → D} {zs ys : List α} {f : List α → Res ω} (s : Sct K B n cl W P) (hm : P ((catR zs ys).bind f)) (c : Ctx K B F H σ ss) (r1 : Rep K F v (eL en zs)) (r2 : Rep K F u (eL en ys)) (q : ∀ x w H', P (f x) → Ctx K B F H' σ ss → Nw K B σ ss F H' w (x.map en) → Q w H') : rCat v u H Q := by
  unfold catR at hm
  split at hm
  · next h =>
    cases r1 with
    | lst s1 l1 t1 =>
      cases r2 with
      | lst s2 l2 t2 =>
        have h1 := t1.len_map
        have h2 := t2.len_map
        have sz : sizeLine = 16777216 := sizeLine_eq
        obtain ⟨l, k⟩ := s_lstO (Q := Q) c (t1.app t2) (by rw [List.length_append]; omega) fun w H' c' nw => q _ _ _ hm c' (by rw [List.map_append]; exact nw)
        exact ⟨_, _, _, _, rfl, rfl, c.fh _ _ s1, c.fh _ _ s2, by omega, k⟩
  · exact absurd hm s.bad
theorem Reps.rep (t : Reps K F xs ds) : ∀ k : Nat, Reps K F (List.replicate k xs).flatten (List.replicate k ds).flatten
  | 0 => .nil
  | k + 1 => by
    rw [List.replicate_succ, List.replicate_succ, List.flatten_cons, List.flatten_cons]
    exact t.app (Reps.rep t k)
theorem map_rep {en : α → D} {zs : List α} : ∀ k : Nat, (List.replicate k zs).flatten.map en = (List.replicate k (zs.map en)).flatten
  | 0 => rfl
  | k + 1 => by rw [List.replicate_succ, List.replicate_succ, List.flatten_cons, List.flatten_cons, List.map_append, map_rep k]
theorem flat_len {γ : Type} (l : List γ) : ∀ k : Nat, (List.replicate k l).flatten.length = k * l.length
  | 0 => by simp
  | k + 1 => by rw [List.replicate_succ, List.flatten_cons, List.length_append, flat_len l k, Nat.succ_mul, Nat.add_comm]
theorem s_repT {en : α → D} {zs : List α} {k : Int} {f : List α → Res ω} (s : Sct K B n cl W P) (hm : P ((repR zs k).bind f)) (c : Ctx K B F H σ ss) (r1 : Rep K F v (eT en zs)) (q : ∀ x w F' H', P (f x) → Ex F F' → Ctx K B F' H' σ ss → Rep K F' w (eT en x) → Q w H') : rRepA K v (.int k) H Q := by
  unfold repR at hm
  split at hm
  · next h =>
    cases r1 with
    | tup s1 l1 t1 =>
      rename_i a1 xs1
      have h1 := t1.len_map
      have sz : sizeLine = 16777216 := sizeLine_eq
      refine ⟨_, k, _, rfl, rfl, ex_t c.fh s1, fun e => ?_, h.2.1, h.2.2.1, by rw [h1]; exact h.2.2.2, fun e => ?_, fun e p hp => ?_⟩
      · subst e
        exact h.1 (List.eq_nil_of_length_eq_zero (by rw [← h1]; rfl))
      · subst e
        have e1 : (List.replicate (1 : Int).toNat zs).flatten = zs := by
          show (List.replicate 1 zs).flatten = zs
          simp
        rw [e1] at hm
        exact q _ _ _ _ hm (Ex.refl _) c (.tup s1 l1 t1)
      · have st := Step.frz (io := none) (o := .tup (List.replicate k.toNat xs1).flatten) c.fh hp
        refine q _ _ _ _ hm st.ff (c.step st) (Rep.tup (SqT.of upd_same) ?_ ?_)
        · have e1 : k.toNat ≤ 1000 := by omega
          have e2 : zs.length ≤ 1000 := h.2.2.2
          have e3 := Nat.mul_le_mul e1 e2
          rw [flat_len, h1]
          omega
        · rw [map_rep]
          exact (t1.rep _).mono st.ff
  · exact absurd hm s.bad
theorem cut_map {en : α → D} {zs : List α} {lo hi : Option Int} : (cut zs lo hi).map en = ((zs.map en).drop (HT.sIx zs.length 0 lo)).take (HT.sIx zs.length zs.length hi - HT.sIx zs.length 0 lo) := by
  unfold cut
  rw [List.map_take, List.map_drop]
theorem s_sliceT {en : α → D} {zs : List α} {lo hi : Option Int} (c : Ctx K B F H σ ss) (r1 : Rep K F v (eT en zs)) (q : ∀ w F' H', Ex F F' → Ctx K B F' H' σ ss → Rep K F' w (eT en (cut zs lo hi)) → Q w H') : rSlA K v lo hi H Q := by
  cases r1 with
  | tup s1 l1 t1 =>
    rename_i a xs
    have h1 := t1.len_map
    refine ⟨a, xs, rfl, ex_t c.fh s1, fun e => ?_, fun e p hp => ?_⟩
    · rw [h1] at e
      have : cut zs lo hi = zs := by
        unfold cut
        rw [e.1, e.2]
        simp
      exact q _ _ _ (Ex.refl _) c (by rw [this]; exact .tup s1 l1 t1)
    · have st := Step.frz (io := none) (o := .tup (cutV xs lo hi)) c.fh hp
      refine q _ _ _ st.ff (c.step st) (Rep.tup (SqT.of upd_same) (Nat.le_trans (cutV_length _ _ _) l1) ?_)
      have t2 := ((t1.drop (HT.sIx zs.length 0 lo)).take (HT.sIx zs.length zs.length hi - HT.sIx zs.length 0 lo)).mono st.ff
      rw [← cut_map] at t2
      refine cast (congrArg (fun l => Reps K _ l _) ?_) t2
      unfold cutV
      rw [h1]
theorem s_sliceL {en : α → D} {zs : List α} {lo hi : Option Int} (c : Ctx K B F H σ ss) (r1 : Rep K F v (eL en zs)) (q : ∀ w H', Ctx K B F H' σ ss → Nw K B σ ss F H' w ((cut zs lo hi).map en) → Q w H') : rSlL K v lo hi H Q := by
  cases r1 with
  | lst s1 l1 t1 =>
    rename_i a xs
    have h1 := t1.len_map
    obtain ⟨_, k⟩ := s_lstO (Q := Q) (vs := cutV xs lo hi) (ds := (cut zs lo hi).map en) c (by
      rw [cut_map]
      unfold cutV
      rw [h1]
      exact (t1.drop _).take _) (Nat.le_trans (cutV_length _ _ _) l1) q
    exact ⟨a, xs, rfl, SqL.of (c.fh _ _ s1), k⟩
theorem s_sliceO {en : α → D} {zs : List α} {lo hi : Option Int} (c : Ctx K B F H σ ss) (hx : H a = some (.lst xs)) (l1 : xs.length ≤ sizeLine) (t1 : Reps K F xs (zs.map en)) (q : ∀ w H', Ctx K B F H' σ ss → Nw K B σ ss F H' w ((cut zs lo hi).map en) → Q w H') : rSlL K (.ref a) lo hi H Q := by
  have h1 := t1.len_map
  obtain ⟨_, k⟩ := s_lstO (Q := Q) (vs := cutV xs lo hi) (ds := (cut zs lo hi).map en) c (by
    rw [cut_map]
    unfold cutV
    rw [h1]
    exact (t1.drop _).take _) (Nat.le_trans (cutV_length _ _ _) l1) q
  exact ⟨a, xs, rfl, SqL.of hx, k⟩
/-! ### the in-out list -/
theorem Ctx.writeIO (c : Ctx K B F H σ ss) (h : ss[i]? = some (.io ds)) {xs : List V} (l : xs.length ≤ sizeLine) (r : Reps K F xs es) (ha : σ[i]? = some (some (.ref a))) : Ctx K B F (upd H a (.lst xs)) σ (ss.set i (.io es)) := by
  obtain ⟨a', ha', w, f, xs0, hx, _⟩ := c.inout h
  cases ha.symm.trans ha'
  have st : Step F H (some a) F (upd H a (.lst xs)) := by
    refine ⟨Ex.refl _, fun b o q => ?_, fun b o n q => ?_, fun b q => .inl q, fun b q => ?_⟩
    · by_cases z : b = a
      · subst z
        rw [f] at q; cases q
      · rw [upd_ne z]
        exact c.fh b o q
    · rw [upd_ne (fun z => n (by rw [z]))]
      exact q
    · by_cases z : b = a
      · subst z
        rw [upd_same]
        exact fun z => (nomatch z)
      · rw [upd_ne z]
        exact q
  exact c.wrote h ha st upd_same l r
theorem s_popIO {en : α → D} {zs : List α} {f : α → List α → Res ω} {ss' : List α → List Sl} (s : Sct K B n cl W P) (hm : P ((popR zs).bind2 f)) (c : Ctx K B F H σ ss) (ha : σ[i]? = some (some (.ref a))) (h : ss[i]? = some (.io (zs.map en))) (e : ∀ ys, ss.set i (.io (ys.map en)) = ss' ys)
    (q : ∀ x zs' v H', P (f x zs') → Ctx K B F H' σ (ss' zs') → Rep K F v (en x) → Q v H') : rPop (.ref a) [] H Q := by
  unfold popR at hm
  cases hz : zs.getLast? with
  | none => rw [hz] at hm; exact absurd hm s.bad
  | some x =>
    rw [hz] at hm
    obtain ⟨a', ha', w, f', xs, hx, l, t⟩ := c.inout h
    cases ha.symm.trans ha'
    have lz := t.len_map
    obtain ⟨v, h1, h2⟩ := t.at_map (getLast_ix hz)
    rw [← lz] at h1
    refine ⟨a, xs, v, rfl, rfl, hx, h1, q x zs.dropLast v _ hm ?_ h2⟩
    rw [← e]
    refine c.writeIO h (by rw [List.length_dropLast]; omega) ?_ ha
    rw [List.map_dropLast, List.dropLast_eq_take, List.dropLast_eq_take, ← t.length]
    exact t.take _
theorem s_pop2 {en : α → D} {zs : List α} {f : α → List α → Res ω} {ss' : List α → List Sl} (s : Sct K B n cl W P) (hm : P ((popR zs).bind2 f)) (c : Ctx K B F H σ ss) (ha : σ[i]? = some (some (.ref a))) (h : ss[i]? = some (.own (zs.map en))) (e : ∀ ys, ss.set i (.own (ys.map en)) = ss' ys)
    (q : ∀ x zs' v H', P (f x zs') → Ctx K B F H' σ (ss' zs') → Rep K F v (en x) → Q v H') : rPop (.ref a) [] H Q := s_pop (f := fun p => f p.1 p.2) s hm c ha h e q
theorem s_popAt2 {en : α → D} {zs : List α} {k : Int} {f : α → List α → Res ω} {ss' : List α → List Sl} (s : Sct K B n cl W P) (hm : P ((popAtR zs k).bind2 f)) (c : Ctx K B F H σ ss) (ha : σ[i]? = some (some (.ref a))) (h : ss[i]? = some (.own (zs.map en))) (e : ∀ ys, ss.set i (.own (ys.map en)) = ss' ys)
    (q : ∀ x zs' v H', P (f x zs') → Ctx K B F H' σ (ss' zs') → Rep K F v (en x) → Q v H') : rPopAt (.ref a) [.int k] H Q := s_popAt (f := fun p => f p.1 p.2) s hm c ha h e q
theorem s_compS2 {J : It} {zs : List ζ} {dz : ζ → D} {en : β → D} {eg : γ → D} {gs : List γ} {el : ζ → List γ → Res (β × List γ)} {f : List β → List γ → Res ω} {g : TG} {up : List Sl → ζ → List Sl} {te : TE} {vs : List Nat} {ss' : ζ → List γ → List Sl} {l : Addr}
    (s : Sct K B n cl W P) (hm : P ((mapS el zs gs).bind2 f)) (c : Ctx K B F H σ ss) (hb : B.io = some l) (h0 : ss[0]? = some (.io (gs.map eg))) (it : ItOk K J F zs dz) (n0 : 0 ∉ vs) (tg : TgOk K vs g dz up)
    (he : ∀ z gs', up (wipeS ((ss.set 0 (.io (gs'.map eg))).map fun s => match s with | .own ds => .rd ds | s => s) vs) z = ss' z gs') (hl : zs.length ≤ sizeLine)
    (turn : ∀ (B' : Bs) (z : ζ) (gs' : List γ) (F' H' : Hp) (σ' : L2.St) (P' : Res (β × List γ) → Prop) (G : VK), B'.io = some l → (∀ m W' cl', Sct K B' m cl' W' P') → P' (el z gs') → z ∈ zs → Ex F F' → Ctx K B' F' H' σ' (ss' z gs') →
      (∀ b gs4 v F4 H4 σ4 ss4, P' (.ok (b, gs4)) → Ctx K B' F4 H4 σ4 ss4 → ss4[0]? = some (.io (gs4.map eg)) → Rep K F4 v (en b) → G v H4) →
      te σ' H' G)
    (k : ∀ v bs gs' H', P (f bs gs') → (∃ F', Ex F F' ∧ Ctx K B F' H' σ (ss.set 0 (.io (gs'.map eg))) ∧ Nw K B σ (ss.set 0 (.io (gs'.map eg))) F' H' v (bs.map en)) → Q v H') :
    LcQ J g tYes te vs σ H Q :=
  s_compS (f := fun p => f p.1 p.2) s hm c hb h0 it n0 tg he hl turn k
/-! ### insert -/
theorem s_insert {en : α → D} {zs : List α} {z : α} {k : Int} {f : List α → Res ω} {ss' : List α → List Sl} (s : Sct K B n cl W P) (hm : P ((insR zs k z).bind f)) (c : Ctx K B F H σ ss) (ha : σ[i]? = some (some (.ref a))) (h : ss[i]? = some (.own (zs.map en))) (r : Rep K F v (en z)) (e : ∀ ys, ss.set i (.own (ys.map en)) = ss' ys)
    (q : ∀ zs' H', P (f zs') → Ctx K B F H' σ (ss' zs') → Q .non H') : ∃ (l : Addr) (xs : List V) (j : Int) (y : V), V.ref a = .ref l ∧ [V.int k, v] = [.int j, y] ∧ H l = some (.lst xs) ∧ xs.length < sizeLine ∧ 0 ≤ j ∧ j < 2 ^ 63 ∧ Q .non (upd H l (.lst (xs.take j.toNat ++ [y] ++ xs.drop j.toNat))) := by
  unfold insR at hm
  split at hm
  · next hk =>
    obtain ⟨a', ha', w, f', xs, hx, l, t⟩ := c.own h
    cases ha.symm.trans ha'
    have lz := t.len_map
    have sz : sizeLine = 16777216 := sizeLine_eq
    refine ⟨a, xs, k, v, rfl, rfl, hx, by omega, hk.1, by omega, q _ _ hm ?_⟩
    rw [← e]
    refine c.write h (by rw [List.length_append, List.length_append, List.length_take, List.length_drop]; show _ + 1 + _ ≤ _; omega) ?_ ha
    rw [List.map_append, List.map_cons, List.map_take, List.map_drop, List.append_assoc]
    exact (t.take _).app (.cons r (t.drop _))
  · exact absurd hm s.bad
theorem w_andV {ta tb : TE} (h : ta σ H fun x H1 => ∃ c, x = .bl c ∧ if c = true then tb σ H1 Q else Q (.bl false) H1) : tAndV ta tb σ H Q := h
theorem w_orV {ta tb : TE} (h : ta σ H fun x H1 => ∃ c, x = .bl c ∧ if c = true then Q (.bl true) H1 else tb σ H1 Q) : tOrV ta tb σ H Q := h
theorem w_andT {ta tb : TT} {R : Bool → Hp → Prop} (h : ta σ H fun c H1 => if c = true then tb σ H1 R else R false H1) : tAnd ta tb σ H R := h
theorem w_orT {ta tb : TT} {R : Bool → Hp → Prop} (h : ta σ H fun c H1 => if c = true then R true H1 else tb σ H1 R) : tOr ta tb σ H R := h
theorem w_if {tt : TT} {ta tb : TE} (h : tt σ H fun c H1 => if c = true then ta σ H1 Q else tb σ H1 Q) : tIf tt ta tb σ H Q := h
theorem w_for {wi : TI} {g : TG} {tb : TS} {D : Ends} (h : wi σ H fun J H1 => ForP J g tb D σ H1) : tFor wi g tb D σ H := h
theorem w_lc {wi : TI} {g : TG} {tt : TT} {te : TE} {vs : List Nat} (h : wi σ H fun J H1 => LcQ J g tt te vs σ H1 Q) : tLc wi g tt te vs σ H Q := h
theorem w_par {ta : TA} {D : Ends} (h : ta σ H fun vs H1 => ParP i j D vs σ H1) : tPar i j ta D σ H := h
theorem x_list {en : α → D} {zs : List α} (c : Ctx K B F H σ ss) (r : Rep K F v (eL en zs)) : ∃ a, v = .ref a ∧ (∃ xs, SqL K H a xs) ∧ ItOk K (Itl K a) F zs en := by
  cases r with
  | lst s l t => exact ⟨_, rfl, ⟨_, SqL.of (c.fh _ _ s)⟩, it_list (.lst s l t)⟩
theorem x_tup {en : α → D} {zs : List α} (c : Ctx K B F H σ ss) (r : Rep K F v (eT en zs)) : ∃ a, v = .ref a ∧ (∃ xs, SqT K H a xs) ∧ ItOk K (Itt K a) F zs en := by
  cases r with
  | tup s l t => exact ⟨_, rfl, ⟨_, ex_t c.fh s⟩, it_tup (.tup s l t)⟩
theorem x_src {b : Bool} {en : α → D} {zs : List α} (c : Ctx K B F H σ ss) (r : Rep K F v (eSq b en zs)) : ∃ S : Src, v = S.v ∧ S.sq ∧ (∃ xs, S.at K H xs) ∧ ItOk K (ItP K S) F zs en := by
  cases b with
  | true =>
    cases r with
    | lst s l t => exact ⟨.lst _, rfl, trivial, ⟨_, SqL.of (c.fh _ _ s)⟩, it_list (.lst s l t)⟩
  | false =>
    cases r with
    | tup s l t => exact ⟨.tup _, rfl, trivial, ⟨_, ex_t c.fh s⟩, it_tup (.tup s l t)⟩
theorem x_enum {S : Src} {en : α → D} {zs : List α} (c : Ctx K B F H σ ss) (h : SrcOk K F v S (zs.map en)) : ∃ xs, [v] = [Src.v S] ∧ Src.at K H S xs ∧ ItOk K (ItE K S) F (enum zs) (fun p => .tup [.int p.1, en p.2]) := by
  obtain ⟨xs, t, hs⟩ := h.at_
  exact ⟨xs, by rw [h.vq], hs _ c.fh, it_enum h⟩
theorem x_zip {S1 S2 : Src} {e1 : α → D} {e2 : β → D} {zs : List α} {ys : List β} (c : Ctx K B F H σ ss) (h1 : SrcOk K F v S1 (zs.map e1)) (h2 : SrcOk K F u S2 (ys.map e2)) : ∃ xs xs', [v, u] = [Src.v S1, Src.v S2] ∧ Src.at K H S1 xs ∧ Src.at K H S2 xs' ∧ ItOk K (ItZ K S1 S2) F (zs.zip ys) (fun p => .tup [e1 p.1, e2 p.2]) := by
  obtain ⟨xs1, t1, hs1⟩ := h1.at_
  obtain ⟨xs2, t2, hs2⟩ := h2.at_
  exact ⟨xs1, xs2, by rw [h1.vq, h2.vq], hs1 _ c.fh, hs2 _ c.fh, it_zip h1 h2⟩
theorem x_rngR {lo hi : Int} {f : List Int → Res ω} (s : Sct K B n cl W P) (hm : P ((rngR lo hi).bind f)) : ∃ zs, rngR lo hi = .ok zs ∧ P (f zs) ∧ (-(2 ^ 62) ≤ lo ∧ lo < 2 ^ 62 ∧ -(2 ^ 62) ≤ hi ∧ hi < 2 ^ 62) ∧ ItOk K (Itr lo (hi - lo).toNat) F zs D.int := by
  unfold rngR at hm
  split at hm
  · next h => exact ⟨_, if_pos h, hm, ⟨h.1.1, h.1.2, h.2.1, h.2.2⟩, it_rng rfl⟩
  · exact absurd hm s.bad
theorem x_rngL {lo hi : Int} {f : List Int → Res ω} (s : Sct K B n cl W P) (hm : P ((rngL lo hi).bind f)) : ∃ zs, rngL lo hi = .ok zs ∧ P (f zs) ∧ (-(2 ^ 62) ≤ lo ∧ lo < 2 ^ 62 ∧ -(2 ^ 62) ≤ hi ∧ hi < 2 ^ 62) ∧ zs.length ≤ sizeLine ∧ ItOk K (Itr lo (hi - lo).toNat) F zs D.int := by
  have : sizeLine = 16777216 := sizeLine_eq
  unfold rngL at hm
  split at hm
  · next h => exact ⟨_, if_pos h, hm, ⟨h.1, h.2.1, h.2.2.1, h.2.2.2.1⟩, by rw [rng_len]; omega, it_rng rfl⟩
  · exact absurd hm s.bad
theorem it_rng0 {hi : Int} : ItOk K (Itr 0 hi.toNat) F (rng 0 hi) D.int := it_rng (by omega)
theorem it_rng1 {hi : Int} {zs : List Int} (h : ItOk K (Itr 0 (hi - 0).toNat) F zs D.int) : ItOk K (Itr 0 hi.toNat) F zs D.int := by
  have : (hi - 0).toNat = hi.toNat := by omega
  rw [this] at h
  exact h
theorem s_parP {D : Ends} (c : Ctx K B F H σ ss) (n1 : i ≠ 0 ∨ B.io = none) (n2 : j ≠ 0 ∨ B.io = none) (r1 : Rep K F v d1) (r2 : Rep K F u d2) (e : (ss.set i (.val d1)).set j (.val d2) = ss') (k : ∀ σ', Ctx K B F H σ' ss' → D.nx σ' H) : ParP i j D [v, u] σ H :=
  ⟨v, u, rfl, k _ (e ▸ (c.set n1 r1).set n2 r2)⟩
theorem s_forP {J : It} {zs : List ζ} {dz : ζ → D} {g : TG} {up : List Sl → ζ → List Sl} {vs : List Nat} {nx : τ → List Sl} {body : ζ → τ → Res τ} {f : τ → Res ω} {s0 : τ} {ss' : ζ → τ → List Sl} {tb : TS} {E : Ends}
    (s : Sct K B n cl W P) (hm : P ((foldR body zs s0).bind f)) (c : Ctx K B F H σ (nx s0)) (it : ItOk K J F zs dz) (n0 : 0 ∉ vs ∨ B.io = none) (tg : TgOk K vs g dz up) (he : ∀ z st, up (nx st) z = ss' z st)
    (turn : ∀ (z : ζ) (st : τ) (F' H' : Hp) (σ' : L2.St) (P' : Res τ → Prop) (N : L2.St → Hp → Prop), Sct K B n cl W P' → P' (body z st) → z ∈ zs → Ex F F' → Ctx K B F' H' σ' (ss' z st) →
      (∀ st' F4 H4 σ4, P' (.ok st') → Ex F' F4 → Ctx K B F4 H4 σ4 (nx st') → N σ4 H4) →
      tb { E with nx := N, ct := N, bk := E.nx } σ' H')
    (done : ∀ st F' H' σ', P (f st) → Ex F F' → Ctx K B F' H' σ' (nx st) → E.nx σ' H') : ForP J g tb E σ H := s_for s hm c it n0 tg he turn done
theorem s_forCP {J : It} {zs : List ζ} {dz : ζ → D} {g : TG} {up : List Sl → ζ → List Sl} {vs : List Nat} {nx : τ → List Sl} {body : ζ → τ → Res (Ctl τ ρ)} {f : τ → Res ω} {fr : ρ → Res ω} {s0 : τ} {ss' : ζ → τ → List Sl} {tb : TS} {E : Ends}
    (s : Sct K B n cl W P) (hm : P ((loopC body zs s0).bind (Ctl.then f fr))) (c : Ctx K B F H σ (nx s0)) (it : ItOk K J F zs dz) (n0 : 0 ∉ vs ∨ B.io = none) (tg : TgOk K vs g dz up) (he : ∀ z st, up (nx st) z = ss' z st)
    (turn : ∀ (z : ζ) (st : τ) (F' H' : Hp) (σ' : L2.St) (P' : Res (Ctl τ ρ) → Prop) (N : L2.St → Hp → Prop), Sct K B n cl W P' → P' (body z st) → z ∈ zs → Ex F F' → Ctx K B F' H' σ' (ss' z st) →
      (∀ st' F4 H4 σ4, P' (.ok (.nx st')) → Ex F' F4 → Ctx K B F4 H4 σ4 (nx st') → N σ4 H4) → (∀ st' F4 H4 σ4, P' (.ok (.bk st')) → Ex F' F4 → Ctx K B F4 H4 σ4 (nx st') → E.nx σ4 H4) → (∀ r, P' (.ok (.rt r)) → P (fr r)) →
      tb { E with nx := N, ct := N, bk := E.nx } σ' H')
    (done : ∀ st F' H' σ', P (f st) → Ex F F' → Ctx K B F' H' σ' (nx st) → E.nx σ' H') : ForP J g tb E σ H := s_forC (f := Ctl.then f fr) s hm c it n0 tg he turn done
theorem w_seq {t u : TS} {D : Ends} (h : t { D with nx := u D } σ H) : tSeq t u D σ H := h
theorem w_ifS {tt : TT} {t u : TS} {D : Ends} (h : tt σ H fun b H1 => if b = true then t D σ H1 else u D σ H1) : tIfS tt t u D σ H := h
theorem s_cutS {t u : TS} {D : Ends} {mm : Res τ} {f : τ → Res ω} {nx : τ → List Sl} (s : Sct K B n cl W P) (hm : P (mm.bind f))
    (rest : ∀ st F' H' σ', P (f st) → Ex F F' → Ctx K B F' H' σ' (nx st) → u D σ' H')
    (body : ∀ (P' : Res τ → Prop) (N : L2.St → Hp → Prop), Sct K B n cl W P' → P' mm → (∀ st F' H' σ', P' (.ok st) → Ex F F' → Ctx K B F' H' σ' (nx st) → N σ' H') → t { D with nx := N } σ H) : tSeq t u D σ H := body _ (u D) s.bind hm rest
end
end MI
/-! Own layer: relations under names, so that a rule's end is found by its head alone. -/
namespace MI
open PySem PySem.Spec PyProof.Rows L2 Evl PW
def nLst (vs : List V) (H : Hp) (Q : VK) : Prop := vs.length ≤ sizeLine ∧ ∀ p, H p = none → Q (.ref p) (upd H p (.lst vs))
def nTup (vs : List V) (H : Hp) (Q : VK) : Prop := vs.length ≤ sizeLine ∧ ∀ p, H p = none → Q (.ref p) (upd H p (.tup vs))
def nLen (K : PySem.W.Frag) : List V → Hp → VK → Prop := fun xs H Q => ∃ p ys, xs = [.ref p] ∧ (SqL K H p ys ∨ SqT K H p ys) ∧ Q (.int ys.length) H
def nLenS : List V → Hp → VK → Prop := fun xs H Q => ∃ z, xs = [.str z] ∧ z.length ≤ sizeLine ∧ Q (.int z.length) H
def nAbs : List V → Hp → VK → Prop := fun xs H Q => ∃ i, xs = [.int i] ∧ Q (.int (if i < 0 then -i else i)) H
def nInt : List V → Hp → VK → Prop := fun xs H Q => (∃ i, xs = [.int i] ∧ Q (.int i) H) ∨ ∃ k, xs = [.bl k] ∧ Q (.int (if k then 1 else 0)) H
def nTupC (K : PySem.W.Frag) : List V → Hp → VK → Prop := fun vs H Q => ∃ p ys, vs = [.ref p] ∧ ((SqL K H p ys ∧ ∀ l, H l = none → Q (.ref l) (upd H l (.tup ys))) ∨ (SqT K H p ys ∧ Q (.ref p) H))
def nLstC (K : PySem.W.Frag) : List V → Hp → VK → Prop := fun vs H Q => ∃ S ys, vs = [Src.v S] ∧ Src.at K H S ys ∧ ys.length ≤ sizeLine ∧ ∀ p, H p = none → Q (.ref p) (upd H p (.lst ys))
def nChn (r' : R2) (tc : TE) (y z : V) (σ : L2.St) (H : Hp) (Q : VK) : Prop := ∃ k, z = .bl k ∧ (if k = true then tc σ H fun w H4 => r' y w H4 Q else Q (.bl false) H)
def nCatS : R2 := fun x y H Q => ∃ i j, x = .str i ∧ y = .str j ∧ i.length + j.length ≤ sizeLine ∧ Q (.str (i ++ j)) H
def nIsN : R2 := fun x y H Q => y = .non ∧ Q (.bl (decide (x = .non))) H
def nNotN : R2 := fun x y H Q => y = .non ∧ Q (.bl (!decide (x = .non))) H
def nIns : V → List V → Hp → VK → Prop := fun x vs H Q => ∃ (l : Addr) (xs : List V) (i : Int) (y : V), x = .ref l ∧ vs = [.int i, y] ∧ H l = some (.lst xs) ∧ xs.length < sizeLine ∧ 0 ≤ i ∧ i < 2 ^ 63 ∧ Q .non (upd H l (.lst (xs.take i.toNat ++ [y] ++ xs.drop i.toNat)))
def nJoin (K : PySem.W.Frag) : V → List V → Hp → VK → Prop := fun x xs H Q => ∃ a p, ∃ ys : List Str, x = .str a ∧ xs = [.ref p] ∧ (SqL K H p (ys.map V.str) ∨ SqT K H p (ys.map V.str)) ∧ (ys.map (·.length)).sum + ys.length * a.length ≤ 16777216 ∧ Q (.str (Txt.join a ys)) H
section
variable {X : Cx} {K : PySem.W.Frag}
theorem c_len (hK : X.K = K := by rfl) : CallR X (.builtin "len") (nLen K) := by
  subst hK
  exact call_len_seq
theorem c_lenS : CallR X (.builtin "len") nLenS := call_len_str
theorem c_abs : CallR X (.builtin "abs") nAbs := call_abs
theorem c_int : CallR X (.type "int") nInt := call_int1
theorem c_tuple (hK : X.K = K := by rfl) : CallR X (.type "tuple") (nTupC K) := by
  subst hK
  exact call_tuple_of
theorem c_list (hc : X.calm = true) (hK : X.K = K := by rfl) : CallR X (.type "list") (nLstC K) := by
  subst hK
  exact call_listS hc
theorem o_catS : OpR X (binaryOp .Add) nCatS := op_add_str
theorem o_isN : OpR X (compareOp .Is) nIsN := op_isN
theorem o_notN : OpR X (compareOp .IsNot) nNotN := op_notN
theorem m_insert : MtR X "list.insert" nIns := mt_insert
end
section
variable {K : PySem.W.Frag} {B : Bs} {cl : Exn → Addr} {W : WX} {n : Nat} {ω α β γ ρ π ζ τ : Type} {P : Res ω → Prop} {F H F' H' : Hp} {σ : L2.St} {ss ss' : List Sl} {Q : VK} {E : XK} {v u : V} {vs us xs : List V} {d d1 d2 d3 : D} {ds es : List D} {i j m : Nat} {a : Addr} {R : It → Hp → Prop}
theorem w_lst {t : TA} (h : t σ H fun xs H1 => nLst xs H1 Q) : tLst t σ H Q := h
theorem w_tup {t : TA} (h : t σ H fun xs H1 => nTup xs H1 Q) : tTup t σ H Q := h
theorem w_chain {r r' : R2} {ta tb tc : TE} (h : ta σ H fun x H1 => tb σ H1 fun y H2 => r x y H2 fun z H3 => nChn r' tc y z σ H3 Q) : tChain r r' ta tb tc σ H Q := h
theorem n_tup (c : Ctx K B F H σ ss) (r : Reps K F vs ds) (l : vs.length ≤ sizeLine) (q : ∀ v F' H', Ex F F' → Ctx K B F' H' σ ss → Rep K F' v (.tup ds) → Q v H') : nTup vs H Q := s_tup c r l q
theorem n_lst (c : Ctx K B F H σ ss) (r : Reps K F vs ds) (l : vs.length ≤ sizeLine) (q : ∀ v F' H', Ex F F' → Ctx K B F' H' σ ss → Rep K F' v (.lst ds) → Q v H') : nLst vs H Q := s_lst c r l q
theorem n_lstO (c : Ctx K B F H σ ss) (r : Reps K F vs ds) (l : vs.length ≤ sizeLine) (q : ∀ v H', Ctx K B F H' σ ss → Nw K B σ ss F H' v ds → Q v H') : nLst vs H Q := s_lstO c r l q
theorem n_lenL {en : α → D} {zs : List α} (c : Ctx K B F H σ ss) (r : Rep K F v (eL en zs)) (q : Q (.int zs.length) H) : nLen K [v] H Q := s_lenL c r q
theorem n_lenT {en : α → D} {zs : List α} (c : Ctx K B F H σ ss) (r : Rep K F v (eT en zs)) (q : Q (.int zs.length) H) : nLen K [v] H Q := s_lenT c r q
theorem n_lenQ {b : Bool} {en : α → D} {zs : List α} (c : Ctx K B F H σ ss) (r : Rep K F v (eSq b en zs)) (q : Q (.int zs.length) H) : nLen K [v] H Q := s_lenQ c r q
theorem n_lenO {en : α → D} {zs : List α} (hx : H a = some (.lst xs)) (r : Reps K F xs (zs.map en)) (q : Q (.int zs.length) H) : nLen K [.ref a] H Q := s_lenO hx r q
theorem n_lenS {x : Str} {f : Int → Res ω} (s : Sct K B n cl W P) (hm : P ((strLen x).bind f)) (q : ∀ z, strLen x = .ok z → P (f z) → Q (.int z) H) : nLenS [.str x] H Q := s_lenS s hm q
theorem n_abs {x : Int} (q : Q (.int (absI x)) H) : nAbs [.int x] H Q := s_abs q
theorem n_intI {x : Int} (q : Q (.int x) H) : nInt [.int x] H Q := s_intI q
theorem n_intB {x : Bool} (q : Q (.int (if x = true then 1 else 0)) H) : nInt [.bl x] H Q := s_intB q
theorem n_tupL {en : α → D} {zs : List α} (c : Ctx K B F H σ ss) (r : Rep K F v (eL en zs)) (q : ∀ u F' H', Ex F F' → Ctx K B F' H' σ ss → Rep K F' u (eT en zs) → Q u H') : nTupC K [v] H Q := s_tupL c r q
theorem n_tupT {en : α → D} {zs : List α} (c : Ctx K B F H σ ss) (r : Rep K F v (eT en zs)) (q : Q v H) : nTupC K [v] H Q := s_tupT c r q
theorem n_tupO {en : α → D} {zs : List α} (c : Ctx K B F H σ ss) (hx : H a = some (.lst xs)) (l : xs.length ≤ sizeLine) (t : Reps K F xs (zs.map en)) (q : ∀ u F' H', Ex F F' → Ctx K B F' H' σ ss → Rep K F' u (eT en zs) → Q u H') : nTupC K [.ref a] H Q := s_tupO c hx l t q
theorem n_tupS {b : Bool} {en : α → D} {zs : List α} (c : Ctx K B F H σ ss) (r : Rep K F v (eSq b en zs)) (q : ∀ u F' H', Ex F F' → Ctx K B F' H' σ ss → Rep K F' u (eT en zs) → Q u H') : nTupC K [v] H Q := s_tupS c r q
theorem n_listL {en : α → D} {zs : List α} (c : Ctx K B F H σ ss) (r : Rep K F v (eL en zs)) (q : ∀ u H', Ctx K B F H' σ ss → Nw K B σ ss F H' u (zs.map en) → Q u H') : nLstC K [v] H Q := s_listL c r q
theorem n_listT {en : α → D} {zs : List α} (c : Ctx K B F H σ ss) (r : Rep K F v (eT en zs)) (q : ∀ u H', Ctx K B F H' σ ss → Nw K B σ ss F H' u (zs.map en) → Q u H') : nLstC K [v] H Q := s_listT c r q
theorem n_listO {en : α → D} {zs : List α} (c : Ctx K B F H σ ss) (hx : H a = some (.lst xs)) (l : xs.length ≤ sizeLine) (t : Reps K F xs (zs.map en)) (q : ∀ u H', Ctx K B F H' σ ss → Nw K B σ ss F H' u (zs.map en) → Q u H') : nLstC K [.ref a] H Q := s_listO c hx l t q
theorem n_chain {r' : R2} {tc : TE} {y : V} {b1 b2 : Bool} (hb : ∀ Q', Q' (.bl b2) H → tc σ H fun w H4 => r' y w H4 Q') (k : Q (.bl (b1 && b2)) H) : nChn r' tc y (.bl b1) σ H Q := s_chainK hb k
theorem n_catS {x y : Str} {f : Str → Res ω} (s : Sct K B n cl W P) (hm : P ((catS x y).bind f)) (q : ∀ z, catS x y = .ok z → P (f z) → Q (.str z) H) : nCatS (.str x) (.str y) H Q := s_catS s hm q
theorem n_isN {en : α → D} {x : Option α} (r : Rep K F v (eO en x)) (hn : ∀ y, en y ≠ .non) (q : Q (.bl x.isNone) H) : nIsN v .non H Q := s_isNone r hn q
theorem n_notN {en : α → D} {x : Option α} (r : Rep K F v (eO en x)) (hn : ∀ y, en y ≠ .non) (q : Q (.bl x.isSome) H) : nNotN v .non H Q := s_notNone r hn q
theorem n_insert {en : α → D} {zs : List α} {z : α} {k : Int} {f : List α → Res ω} {ss' : List α → List Sl} (s : Sct K B n cl W P) (hm : P ((insR zs k z).bind f)) (c : Ctx K B F H σ ss) (ha : σ[i]? = some (some (.ref a))) (h : ss[i]? = some (.own (zs.map en))) (r : Rep K F v (en z)) (e : ∀ ys, ss.set i (.own (ys.map en)) = ss' ys)
    (q : ∀ zs' H', P (f zs') → Ctx K B F H' σ (ss' zs') → Q .non H') : nIns (.ref a) [.int k, v] H Q := s_insert s hm c ha h r e q
end
end MI
namespace MI
open PySem PySem.Spec PyProof.Rows L2 Evl PW
theorem o_eqD {X : Cx} {K : PySem.W.Frag} (hK : X.K = K) (hu : X.A.units + 64 < cLine) : OpR X (compareOp .Eq) (rEqD K) := by
  subst hK
  exact op_eqD hu
theorem o_neD {X : Cx} {K : PySem.W.Frag} (hK : X.K = K) (hu : X.A.units + 64 < cLine) : OpR X (compareOp .NotEq) (rNeD K) := by
  subst hK
  exact op_neD hu
class NonN {α : Type} (e : α → D) [d : Dat e] : Prop where
  ne : ∀ x, PyData.eqv (Dat.p e x) .none = false ∧ PyData.eqv .none (Dat.p e x) = false
instance : NonN D.int := ⟨fun x => ⟨by simp [Dat.p, PyData.eqv], by simp [Dat.p, PyData.eqv]⟩⟩
instance : NonN D.str := ⟨fun x => ⟨by simp [Dat.p, PyData.eqv], by simp [Dat.p, PyData.eqv]⟩⟩
instance : NonN D.bl := ⟨fun x => ⟨by simp [Dat.p, PyData.eqv], by simp [Dat.p, PyData.eqv]⟩⟩
instance {α : Type} (e : α → D) [d : Dat e] : NonN (eL e) := ⟨fun x => ⟨by simp [Dat.p, PyData.eqv], by simp [Dat.p, PyData.eqv]⟩⟩
instance {α : Type} (e : α → D) [d : Dat e] : NonN (eT e) := ⟨fun x => ⟨by simp [Dat.p, PyData.eqv], by simp [Dat.p, PyData.eqv]⟩⟩
instance {α β : Type} (e : α → D) (f : β → D) [d : Dat e] [d2 : Dat f] : NonN (eP e f) := ⟨fun x => ⟨by simp [Dat.p, PyData.eqv], by simp [Dat.p, PyData.eqv]⟩⟩
instance {α : Type} (e : α → D) [d : Dat e] [nn : NonN e] : Dat (eO e) where
  p := fun o => match o with | none => .none | some x => Dat.p e x
  dp := fun K F v x r => by
    cases x with
    | none => cases r; exact .non
    | some x => exact d.dp K F v x r
  ok := fun o => match o with | none => true | some x => Dat.ok e x
  lay := fun x h => by
    cases x with
    | none => simp [PyData.canLay0]
    | some x => exact d.lay x h
  deep := d.deep
  dpt := fun x => by
    cases x with
    | none => simp [PyData.depth]
    | some x => exact d.dpt x
  eqv := fun x y => by
    cases x with
    | none =>
      cases y with
      | none => simp [PyData.eqv]
      | some y => simp [(nn.ne y).2]
    | some x =>
      cases y with
      | none => simp [(nn.ne x).1]
      | some y => rw [Option.some.injEq]; exact d.eqv x y
instance {α : Type} (e : α → D) [d : Dat e] [nn : NonN e] [l : DatL e] : DatL (eO e) := ⟨fun x => by
  cases x with
  | none => rfl
  | some x => exact l.all x⟩
section
variable {P : Program} {w : World} {K : PySem.W.Frag} {mg : Str → Option Value} {base : Heap} {x qual : Str} {params : Arguments} {body : List Stmt} {scope : Scope} {dvs : List V} {f : Addr} {fd : FuncData}
/-- a def with defaults, by its body -/
theorem okGD {CX : CXT} {N ps : List Str} {k : Nat} {sp : Sp} (F : FunD K x qual params body scope dvs [] f fd) (S : FnScope N ps scope) (len : ∀ vs H Q E, sp vs H Q E → vs.length = ps.length)
    (body : ∀ (cdv : Value) (A : Around) (outer : List Env) (s : Shared) (H : Hp) (vs : List V) (Q : VK) (E : XK), A.guards = some [] → Room k (A.deeper (envOfC qual scope s.heap.objs.size f cdv)) → sp vs H Q E →
      ∃ t, PSs (cxOf CX P w K mg base N qual scope f cdv A outer s H E) body t ∧ t { nx := fun _ H' => Q .non H', rt := Q } (start N vs) H) : FnG P w K mg base CX (k + 1) f fd ps sp := by
  obtain ⟨oc, od, dV, kV, doc, pm, an, cdv, ct, osl, rfl, lk, hcd, _, _⟩ := F.ex
  constructor
  · exact len
  · intro A outer s H args us vs Q E hg hr e0 hb rv hsp
    have down : ∀ (b : Addr) (o : Obj), base.get? b = some o → s.heap.get? b = some o := fun b o e => (e0.bs b o e).1
    have inK := e0.mod.kin.keeps down
    have kinds : ∀ y ∈ ps.zip us, scope.names.lookup y.1 = some .local ∨
        (scope.names.lookup y.1 = some .cell ∧ ((cellsFrom (s.heap.objs.size + 1) scope.names []).lookup y.1).isSome = true) := by
      rintro ⟨n, v⟩ hy
      have hn := S.par n (List.of_mem_zip hy).1
      exact hn.imp id fun q => ⟨q, PySem.W.cellsFrom_some _ _ _ (.inl q)⟩
    apply codeAny_call_function hr.depth (inK _ _ lk) rfl S.co S.gen rfl (PySem.W.codeRec_of inK hcd)
    refine hb _ _ _ _ (wpAny_newFunctionEnv_cells S.kind kinds ?_)
    rintro env rfl s1 x
    obtain ⟨t, ht, hq⟩ := body cdv A outer s H vs Q E hg (hr.deeper _) hsp
    have I := inv_start (CX := CX) (E := E) (P := P) (w := w) S hr.hd e0 (len _ _ _ _ hsp) rv x
    refine ⟨(e0.mod.nolimit.keeps down).keeps x.toInCall.keep, codeAny_func (wpAny_mono (ht.run [] s1 _ H _ I hq) ?_ fun _ _ z => z)⟩
    intro fl s' hs
    cases fl with
    | ret u =>
      obtain ⟨v, σ', H', J, r', q⟩ := hs
      exact ⟨v, H', J.os, J.bare, J.base, J.hok, r', q⟩
    | next =>
      obtain ⟨σ', H', J, q⟩ := hs
      exact ⟨.non, H', J.os, J.bare, J.base, J.hok, rfl, q⟩
    | brk => exact hs.elim fun _ z => z.elim fun _ z => z.2.elim
    | cont => exact hs.elim fun _ z => z.elim fun _ z => z.2.elim
theorem bindsF {ps : List Str} (F : FunD K x qual params body scope dvs [] f fd) (hd : dvs ≠ [])
    (h : ∀ (T : Addr) (kV doc pm : Value) (an : Option Addr) (cdv ct : Value) (us its : List Value), us.length = ps.length → its.length = dvs.length →
      ∃ k, bindArgs (PySem.W.fnOf x qual params body scope (.ref T) kV doc pm an cdv ct) ⟨us, []⟩ = seqItems? (.ref T) >>= k ∧ k (some its.toArray) = pure (ps.zip us)) : Binds K fd ps [] := by
  obtain ⟨ds, h1, h2⟩ := F.binds1 (ps := ps) ps.length dvs.length hd (by omega) (fun T kV doc pm an cdv ct us its hu hi => by
    obtain ⟨k, e1, e2⟩ := h T kV doc pm an cdv ct us its hu hi
    refine ⟨k, e1, ?_⟩
    rw [← hi, List.drop_length, List.append_nil]
    exact e2)
  rw [List.drop_length] at h1
  cases h1
  exact h2
end
theorem rep_kpair {K : PySem.W.Frag} {F : Hp} {q : Addr} {a b : Int} {u1 u2 : Tok} {n : Nat} (l : K.lookup q = some ⟨.type "tuple", none, .seq [Value.int a u1, Value.int b u2].toArray n, #[]⟩) : Rep K F (.ref q) (eP D.int D.int (a, b)) :=
  .tup (xs := [.int a, .int b]) (.inr ⟨_, _, _, l, rfl, rfl, (by show (2 : Nat) ≤ sizeLine; decide), .cons ⟨_, rfl⟩ (.cons ⟨_, rfl⟩ .nil)⟩) (by show (2 : Nat) ≤ sizeLine; decide) (.cons (.int a) (.cons (.int b) .nil))
theorem blkOk_cast {N N' : List Str} {sc sc' scope : Scope} {own : List (Str × Nat)} (h : blkC N sc scope own = true) (e1 : N' = N) (e2 : sc' = sc) : BlkOk N' sc' scope own := by
  subst e1 e2
  exact blkOk_by h
section
variable {K : PySem.W.Frag} {B : Bs} {cl : Exn → Addr} {W : WX} {n : Nat} {ω α β γ ρ π ζ τ : Type} {P : Res ω → Prop} {F H F' H' : Hp} {σ : L2.St} {ss ss' : List Sl} {Q : VK} {E : XK} {v u : V}
theorem s_some {en : α → D} {x : Option α} {f : α → Res ω} (s : Sct K B n cl W P) (hm : P ((getO x).bind f)) (r : Rep K F v (eO en x)) : ∃ y, P (f y) ∧ Rep K F v (en y) := by
  cases x with
  | none => exact absurd hm s.bad
  | some y => exact ⟨y, hm, r⟩
theorem s_unL {e1 : α → D} {e2 : β → D} {x : α ⊕ β} {f : α → Res ω} (s : Sct K B n cl W P) (hm : P ((getL x).bind f)) (r : Rep K F v (eS e1 e2 x)) : ∃ y, P (f y) ∧ Rep K F v (e1 y) := by
  cases x with
  | inl y => exact ⟨y, hm, r⟩
  | inr y => exact absurd hm s.bad
theorem s_unR {e1 : α → D} {e2 : β → D} {x : α ⊕ β} {f : β → Res ω} (s : Sct K B n cl W P) (hm : P ((getR x).bind f)) (r : Rep K F v (eS e1 e2 x)) : ∃ y, P (f y) ∧ Rep K F v (e2 y) := by
  cases x with
  | inl y => exact absurd hm s.bad
  | inr y => exact ⟨y, hm, r⟩
theorem Ctx.ownAt {i : Nat} {a : Addr} {ds : List D} (c : Ctx K B F H σ ss) (hs : ss[i]? = some (.own ds)) (ha : σ[i]? = some (some (.ref a))) : ∃ xs, H a = some (.lst xs) ∧ xs.length ≤ sizeLine ∧ Reps K F xs ds := by
  obtain ⟨a', h1, _, _, xs, hx, l, t⟩ := c.own hs
  cases ha.symm.trans h1
  exact ⟨xs, hx, l, t⟩
theorem Ctx.ioAt {i : Nat} {a : Addr} {ds : List D} (c : Ctx K B F H σ ss) (hs : ss[i]? = some (.io ds)) (ha : σ[i]? = some (some (.ref a))) : ∃ xs, H a = some (.lst xs) ∧ xs.length ≤ sizeLine ∧ Reps K F xs ds := by
  obtain ⟨a', h1, _, _, xs, hx, l, t⟩ := c.inout hs
  cases ha.symm.trans h1
  exact ⟨xs, hx, l, t⟩
theorem Ctx.rdAt {i : Nat} {a : Addr} {ds : List D} (c : Ctx K B F H σ ss) (hs : ss[i]? = some (.rd ds)) (ha : σ[i]? = some (some (.ref a))) : ∃ xs, H a = some (.lst xs) ∧ xs.length ≤ sizeLine ∧ Reps K F xs ds := by
  obtain ⟨v, h1, a', rfl, _, _, xs, hx, l, t⟩ := c.at_ hs
  cases ha.symm.trans h1
  exact ⟨xs, hx, l, t⟩
end

section
variable {K : PySem.W.Frag} {B : Bs} {cl : Exn → Addr} {W : WX} {n : Nat} {ω α β γ ρ π ζ τ : Type} {P : Res ω → Prop} {F H F' H' : Hp} {σ : L2.St} {ss ss' : List Sl} {Q : VK} {E : XK} {v u : V} {vs : List V} {ds es : List D} {i : Nat} {a : Addr}
theorem Ctx.wroteO (c : Ctx K B F H σ ss) (h : ss[i]? = some (.own ds)) (ha : σ[i]? = some (some (.ref a))) (s : Step F H (some a) F' H') {xs : List V} (hx : H' a = some (.lst xs)) (l : xs.length ≤ sizeLine) (r : Reps K F' xs es) : Ctx K B F' H' σ (ss.set i (.own es)) := by
  obtain ⟨a', ha', w, f, xs0, hx0, _⟩ := c.own h
  cases ha.symm.trans ha'
  have nf : ∀ {b : Addr}, F b = none → H b ≠ none → F' b = none := fun {b} q1 q2 => by
    cases q : F' b with
    | none => rfl
    | some u =>
      rcases s.new b (by rw [q]; exact fun z => nomatch z) with z | z
      · exact absurd q1 z
      · exact absurd z q2
  refine ⟨⟨c.st.ff.trans s.ff, s.fh, fun b o n q => s.keep b o (fun z => ?_) (c.st.keep b o n q), fun b q => ?_, fun b q => s.there b (c.st.there b q)⟩, by rw [List.length_set, c.len], fun j x t h1 h2 => ?_, fun j k b ds' es' ne h1 h2 h3 h4 => ?_, c.io, fun j es q => (by
    by_cases e : i = j
    · subst e
      cases get_set_same q
    · rw [List.getElem?_set_ne e] at q
      exact c.io0 j es q)⟩
  · cases z
    rw [w] at q; cases q
  · rcases s.new b q with z | z
    · exact c.st.new b z
    · cases y : B.H b with
      | none => exact .inr rfl
      | some o => exact absurd z (c.st.there b (by rw [y]; exact fun z => nomatch z))
  · by_cases z : i = j
    · subst z
      cases get_set_same h2
      rw [ha] at h1
      cases h1
      exact ⟨_, rfl, w, nf f (by rw [hx0]; exact fun z => nomatch z), xs, hx, l, r⟩
    · rw [List.getElem?_set_ne z] at h2
      have q := c.sl j x t h1 h2
      cases t with
      | un => trivial
      | val d => exact let ⟨y, e1, r1⟩ := q; ⟨y, e1, r1.mono s.ff⟩
      | own es =>
        obtain ⟨b, e1, w1, f1, ys, g1, g2, g3⟩ := q
        subst e1
        have : a ≠ b := fun q => by
          subst q
          exact c.dis i j _ ds _ z h h2 ha h1
        exact ⟨b, rfl, w1, nf f1 (by rw [g1]; exact fun z => nomatch z), ys, s.keep _ _ (fun q => this (Option.some.inj q)) g1, g2, g3.mono s.ff⟩
      | io es =>
        obtain ⟨b, e1, w1, f1, ys, g1, g2, g3⟩ := q
        subst e1
        have : a ≠ b := fun q => by
          subst q
          exact (c.io _ w1).2.1 w
        exact ⟨b, rfl, w1, nf f1 (by rw [g1]; exact fun z => nomatch z), ys, s.keep _ _ (fun q => this (Option.some.inj q)) g1, g2, g3.mono s.ff⟩
      | rd es =>
        obtain ⟨b, e1, w1, f1, ys, g1, g2, g3⟩ := q
        subst e1
        have : a ≠ b := fun q => by
          subst q
          exact w1.1 w
        exact ⟨b, rfl, w1, nf f1 (by rw [g1]; exact fun z => nomatch z), ys, s.keep _ _ (fun q => this (Option.some.inj q)) g1, g2, g3.mono s.ff⟩
  · have f : ∀ {j : Nat} {ds' : List D}, (ss.set i (.own es))[j]? = some (.own ds') → ∃ ds'', ss[j]? = some (.own ds'') := fun {j ds'} q => by
      by_cases z : i = j
      · subst z
        exact ⟨_, h⟩
      · rw [List.getElem?_set_ne z] at q
        exact ⟨_, q⟩
    obtain ⟨d1, q1⟩ := f h1
    obtain ⟨d2, q2⟩ := f h2
    exact c.dis j k b d1 d2 ne q1 q2 h3 h4
theorem ctx_raw (c : Ctx K B F H σ ss) (e : ss' = ss) : Ctx K B F H σ ss' := e ▸ c
theorem RtOk.nwO {o o' : List D} (c : Ctx K B F H σ ss) (hi : ss[i]? = some (.own o')) (r : RtOk K H F' H' v (.own ds)) : Nw K B σ (ss.set i (.own o)) F' H' v ds := by
  obtain ⟨a, rfl, h0, w⟩ := r
  refine ⟨a, rfl, c.hnone h0, w, fun j es q => ?_⟩
  by_cases e : i = j
  · subst e
    exact c.nofresh h0 i _ hi
  · rw [List.getElem?_set_ne e] at q
    exact c.nofresh h0 j es q
theorem s_cutBs {t : TT} {R : Bool → Hp → Prop} {mm : Res (Bool × τ)} {f : Bool × τ → Res ω} {nx : τ → List Sl} (s : Sct K B n cl W P) (hm : P (mm.bind f))
    (rest : ∀ b st F' H', P (f (b, st)) → Ex F F' → Ctx K B F' H' σ (nx st) → R b H')
    (body : ∀ (P' : Res (Bool × τ) → Prop) (R' : Bool → Hp → Prop), Sct K B n cl W P' → P' mm → (∀ b st F' H', P' (.ok (b, st)) → Ex F F' → Ctx K B F' H' σ (nx st) → R' b H') → t σ H R') : t σ H R := body _ R s.bind hm rest
/-- an owned list is handed to a def that changes it -/
theorem s_callO {din ps : π → List D} {m : π → Res ρ} {rt : ρ → Rt} {out : ρ → List D} {f : ρ → Res ω} {x : π} (s : Sct K B n cl W P) (hm : P ((m x).bind f)) (c : Ctx K B F H σ ss) (hn : ss.length = n) (hv : σ[i]? = some (some v)) (hi : ss[i]? = some (.own (din x))) (r : Reps K F vs (ps x))
    (k : ∀ y v F' H', P (f y) → Ex F F' → Ctx K B F' H' σ (ss.set i (.own (out y))) → RtOk K H F' H' v (rt y) → Q v H') : SpI K cl din ps m rt out (v :: vs) H Q (fun c d H' => W c d σ H') := by
  obtain ⟨l, h1, h2, h3⟩ := c.own hi
  rw [hv] at h1
  cases h1
  refine ⟨F, x, l, vs, rfl, c.fh, h3, r, ?_⟩
  have wr : ∀ F' H', Step F H (some l) F' H' → (o : List D) → Own K F' H' l o → Ctx K B F' H' σ (ss.set i (.own o)) := fun F' H' st o ⟨_, xs, g1, g2, g3⟩ => c.wroteO hi hv st g1 g2 g3
  rcases s.step hm with ⟨y, e, h⟩ | ⟨e, q, h⟩
  · rw [e]
    refine ⟨fun z hz => ?_, fun _ z => (nomatch z), fun z => (nomatch z)⟩
    cases hz
    exact fun v F' H' st ro ho => k y v F' H' h st.ff (wr F' H' st _ (ho l rfl)) ro
  · rw [q]
    refine ⟨fun _ z => (nomatch z), fun z hz => ?_, fun z => (nomatch z)⟩
    cases hz
    refine fun F' H' st => s.exc e h σ F' H' ?_
    refine ⟨⟨c.st.ff.trans st.ff, st.fh, fun b o n q => st.keep b o (fun z => ?_) (c.st.keep b o n q), fun b q => ?_, fun b q => st.there b (c.st.there b q)⟩, by rw [List.length_replicate, c.len, hn], fun j x t q1 q2 => ?_, fun j k a ds es ne q1 => ?_, c.io, fun j es q1 => ?_⟩
    · cases z
      rw [h2] at q; cases q
    · rcases st.new b q with z | z
      · exact c.st.new b z
      · cases y : B.H b with
        | none => exact .inr rfl
        | some o => exact absurd z (c.st.there b (by rw [y]; exact fun z => nomatch z))
    · have := List.eq_of_mem_replicate (List.mem_of_getElem? q2)
      subst this
      trivial
    · have := List.eq_of_mem_replicate (List.mem_of_getElem? q1)
      cases this
    · have := List.eq_of_mem_replicate (List.mem_of_getElem? q1)
      cases this
end
section
variable {P : Program} {w : World} {K : PySem.W.Frag} {mg : Str → Option Value} {base : Heap} {k : Nat} {f : Addr} {fd : FuncData} {ps : List Str} {sp : Sp}
/-- a promise that lets nothing out keeps to it where nothing may get out -/
theorem fng0 (h0 : ∀ vs H Q E, sp vs H Q E → sp vs H Q fun _ _ _ => False) (h : FnG P w K mg base (L2N.CX P w) k f fd ps sp) : FnG P w K mg base CX0 k f fd ps sp :=
  ⟨h.len, fun A outer s H args us vs Q E g r e b v q => codeAny_mono (h.run A outer s H args us vs Q _ g r e b v (h0 vs H Q E q)) fun r s' hq => by
    match r, hq with
    | .ok (.ret u), hq => exact hq
    | .error e, hq =>
      obtain ⟨_, _, _, _, _, _, _, _, _, _, _, _, z⟩ := hq
      exact z.elim⟩
theorem ctx_law {H H1 : Hp} {sc l : Addr} {ds : List Int} {n : Nat} (e : Ex H H1) (nl : H l = none) (hl : H1 l = some (.lst (ds.map V.int))) (len : ds.length ≤ sizeLine) :
    Ctx K ⟨fun _ => none, H, none⟩ (fun _ => none) H1 (some (.ref sc) :: some (.ref l) :: List.replicate n none) (.un :: .own (ds.map D.int) :: List.replicate n .un) := by
  refine ⟨⟨fun a o h => (nomatch h), fun a o h => (nomatch h), fun a o _ h => e a o h, fun a h => absurd rfl h, fun a h => ?_⟩, ?_, fun i v s h1 h2 => ?_, fun i j a d1 d2 ne h1 h2 => ?_, fun a h => (nomatch h), fun i es h => ?_⟩
  · cases q : H a with
    | none => exact absurd q h
    | some o => rw [e a o q]; exact fun z => (nomatch z)
  · simp only [List.length_cons, List.length_replicate]
  · match i with
    | 0 => cases h2; trivial
    | 1 =>
      cases h1; cases h2
      refine ⟨l, rfl, nl, rfl, _, hl, by rw [List.length_map]; exact len, ?_⟩
      clear hl len
      induction ds with
      | nil => exact .nil
      | cons d ds ih => exact .cons (.int d) ih
    | i + 2 =>
      rw [List.getElem?_cons_succ, List.getElem?_cons_succ] at h2
      have := List.eq_of_mem_replicate (List.mem_of_getElem? h2)
      subst this
      trivial
  · have one : ∀ {i : Nat} {ds2 : List D}, (Sl.un :: .own (ds.map D.int) :: List.replicate n .un)[i]? = some (.own ds2) → i = 1 := by
      intro i ds2 h
      match i with
      | 0 => cases h
      | 1 => rfl
      | i + 2 =>
        rw [List.getElem?_cons_succ, List.getElem?_cons_succ] at h
        cases List.eq_of_mem_replicate (List.mem_of_getElem? h)
    rw [one h1, one h2] at ne
    exact absurd rfl ne
  · match i with
    | 0 => rfl
    | 1 => cases h
    | i + 2 =>
      rw [List.getElem?_cons_succ, List.getElem?_cons_succ] at h
      cases List.eq_of_mem_replicate (List.mem_of_getElem? h)
theorem gname_law {i : Nat} {v : V} {σ : L2.St} {H : Hp} {R : L2.St → Hp → Prop} (h : R (σ.set i (some v)) H) : gName i v σ H R := h
theorem fin_law {B : Bs} {cl : Exn → Addr} {Q : VK} {E : XK} {r : Res Bool} (h : r = .ok true) (q : ∀ H', Q (.bl true) H') : Fin K cl B (fun y => .val (D.bl y)) (fun _ : Bool => []) Q E r := by
  subst h
  refine ⟨fun y e v F H _ r _ => ?_, fun e h => (nomatch h), fun h => (nomatch h)⟩
  cases e
  cases (show Rep K F v (D.bl true) from r)
  exact q H
end
end MI
namespace MI
open PySem PySem.Spec PyProof.Rows L2 Evl PW
/-! ### this or that -/
class Dj {α β : Type} (e : α → D) (f : β → D) [Dat e] [Dat f] : Prop where
  ne : ∀ a b, PyData.eqv (Dat.p e a) (Dat.p f b) = false ∧ PyData.eqv (Dat.p f b) (Dat.p e a) = false
instance {α : Type} (e : α → D) [Dat e] : Dj (eT e) D.str := ⟨fun a b => ⟨by simp [Dat.p, PyData.eqv], by simp [Dat.p, PyData.eqv]⟩⟩
instance {α : Type} (e : α → D) [Dat e] : Dj (eL e) D.str := ⟨fun a b => ⟨by simp [Dat.p, PyData.eqv], by simp [Dat.p, PyData.eqv]⟩⟩
instance {α β : Type} (e : α → D) (f : β → D) [Dat e] [Dat f] : Dj (eP e f) D.str := ⟨fun a b => ⟨by simp [Dat.p, PyData.eqv], by simp [Dat.p, PyData.eqv]⟩⟩
instance {α β : Type} (e : α → D) (f : β → D) [d : Dat e] [d2 : Dat f] [dj : Dj e f] : Dat (eS e f) where
  p := fun x => match x with | .inl a => Dat.p e a | .inr b => Dat.p f b
  dp := fun K F v x r => by
    cases x with
    | inl a => exact d.dp K F v a r
    | inr b => exact d2.dp K F v b r
  ok := fun x => match x with | .inl a => Dat.ok e a | .inr b => Dat.ok f b
  lay := fun x h => by
    cases x with
    | inl a => exact d.lay a h
    | inr b => exact d2.lay b h
  deep := max d.deep d2.deep
  dpt := fun x => by
    cases x with
    | inl a => exact Nat.le_trans (d.dpt a) (Nat.le_max_left _ _)
    | inr b => exact Nat.le_trans (d2.dpt b) (Nat.le_max_right _ _)
  eqv := fun x y => by
    cases x with
    | inl a =>
      cases y with
      | inl b => rw [Sum.inl.injEq]; exact d.eqv a b
      | inr b => simp [(dj.ne a b).1]
    | inr a =>
      cases y with
      | inl b => simp [(dj.ne b a).2]
      | inr b => rw [Sum.inr.injEq]; exact d2.eqv a b
def sumB {α β : Type} (b1 b2 : Bool) : α ⊕ β → Bool
  | .inl _ => b1
  | .inr _ => b2
def eqR {α : Type} [DecidableEq α] (e : α → D) [Dat e] (x y : α) : Res Bool := if (Dat.ok e x && Dat.ok e y) = true then .ok (decide (x = y)) else .bad
def neR {α : Type} [DecidableEq α] (e : α → D) [Dat e] (x y : α) : Res Bool := if (Dat.ok e x && Dat.ok e y) = true then .ok (decide (x ≠ y)) else .bad
theorem shapedP {α : Type} {e : α → D} [d : Dat e] {x : α} (h : Dat.ok e x = true) (l : d.deep ≤ 64) : SeqAt.shaped (Dat.p e x) = true := by
  show ((Dat.p e x).canLay0 && decide ((Dat.p e x).depth ≤ 64)) = true
  rw [Bool.and_eq_true]
  exact ⟨Dat.lay x h, decide_eq_true (Nat.le_trans (Dat.dpt x) l)⟩
class HasTy {α : Type} (e : α → D) (T : outParam String) : Prop where
  ty : ∀ (K : PySem.W.Frag) (F H : Hp) (v : V) (x : α), Ex F H → Rep K F v (e x) → TyX K H v (.type T)
instance {α : Type} (e : α → D) : HasTy (eT e) "tuple" := ⟨fun K F H v x h r => by cases r with | tup s l t => exact tyx_tup (ex_t h s)⟩
instance {α β : Type} (e : α → D) (f : β → D) : HasTy (eP e f) "tuple" := ⟨fun K F H v x h r => by cases r with | tup s l t => exact tyx_tup (ex_t h s)⟩
instance {α : Type} (e : α → D) : HasTy (eL e) "list" := ⟨fun K F H v x h r => by cases r with | lst s l t => exact .base (.lst (h _ _ s))⟩
instance : HasTy D.str "str" := ⟨fun K F H v x h r => by cases r; exact .base (.str _)⟩
/-! ### one of several defs -/
structure CalleeG (X : Cx) (CX : CXT) (f : Addr) (sp : Sp) : Prop where
  ok : ∃ (k : Nat) (fd : FuncData) (ps : List Str), FnG X.prog X.w X.K X.mg X.base CX k f fd ps sp ∧ Room k X.A ∧ PySem.W.keepIn X.K (.ref f) = true ∧ Binds X.K fd ps []
theorem pe_callVG {X : Cx} {W : WX} {fn e : Expr} {es : List Expr} {tf : TE} {t : TA} {pos : Pos} {C : Addr → Sp → Prop} (hC : ∀ f sp, C f sp → CalleeG X (L2N.CX X.prog X.w) f sp) (gd : X.A.guards = some []) (hf : PE X fn tf) (tk : L2N.Takes X W) (ha : PA X (e :: es) t)
    (hc : eval (.Call fn (e :: es) [] pos) X.env = (do
      let u ← eval fn X.env
      callWith pos u [] (backTo pos (starEach (e :: es) X.env)) (backToKw pos (keywordEach [] X.env))) := by rfl)
    (he : starEach (e :: es) X.env = (false, eval e X.env) :: starEach es X.env := by rfl) (hpl : (backTo pos (starEach es X.env)).any (·.1) = false := by rfl) :
    PE X (.Call fn (e :: es) [] pos) (tCallV C (WE W) tf t) := by
  constructor
  intro pins s σ H Q I h
  rw [hc]
  refine wpAny_bind (thn (hf.run pins s σ H _ I h) ?_)
  rintro u s0 ⟨v, H0, I0, ru, f, sp, rfl, hCf, h0⟩
  cases ru
  obtain ⟨k, fd, ps, F, hr, hk, hb⟩ := (hC f sp hCf).ok
  refine PySem.W.callWith_K (h₀ := X.base) I0.ok.mod.kin hk (thn (ha.run pos pins s0 σ H0 _ I0 h0) ?_) he hpl
  rintro us s1 ⟨vs, H1, I1, rv, q⟩
  exact ⟨I1.kIn, run_fnG F gd hr hb (L2N.passAt tk σ) I1 rv q⟩
theorem w_callV {C : Addr → Sp → Prop} {E : L2.St → XK} {tf : TE} {t : TA} {σ : L2.St} {H : Hp} {Q : VK} (h : tf σ H fun v H1 => ∃ (f : Addr) (sp : Sp), v = .ref f ∧ C f sp ∧ t σ H1 fun vs H2 => sp vs H2 Q (E σ)) : tCallV C E tf t σ H Q := h
/-! ### try: a mirror's exception is told -/
def tTryA (K : PySem.W.Frag) (c : Value) (i : Nat) (ts : Addr → Value → Option Addr → TS) (Wout : WX) (tb : WX → TS) : TS := fun D σ H => tb (wAs K c i ts Wout D) D σ H
theorem ps_tryA {X : Cx} {K : PySem.W.Frag} {x n : Str} {c : Value} {i : Nat} {body suite : List Stmt} {b₀ : Stmt} {np pos pos' : Pos} {tb : WX → TS} {ts : Addr → Value → Option Addr → TS} {Wout : WX}
    (hs : X.stack = X.env :: X.outer) (hf : X.env.frame = some X.env.locals) (hN : X.N.Nodup) (hi : X.N[i]? = some n) (hln : X.env.kindOf n = some .local) (hc : Names X x c) (tk : L2N.Takes X Wout)
    (hb : ∀ (W : WX) (pn : List (Addr × Obj)) (xe : Value → Shared → Prop), L2N.Takes (X.tr pn xe) W → PassesOwn (model X.prog X.w) X.A X.env xe → PSs (X.tr pn xe) body (tb W))
    (hsu : ∀ (a : Addr) (oe : Obj) (cls : Value) (d : Option Addr) (pn : List (Addr × Obj)), L2N.Zn cls d oe → (∃ vs, oe.data = .fields vs) → PSs (X.suite a ((a, oe) :: pn)) (b₀ :: suite) (ts a cls d)) (hK : X.K = K := by rfl) :
    PS X (.Try body [.ExceptHandler (some (.Name x np)) (some n) (b₀ :: suite) pos'] [] [] pos) (tTryA K c i ts Wout tb) := by
  subst hK
  exact L2N.ps_try_as hs hf hN hi hln hc tk hb hsu
def tryC {α : Type} (live : Exn → Bool) (m : Res α) (f : Exn → Res α) : Res α := match m with
  | .ok y => .ok y
  | .exc e => if live e = true then f e else .bad
  | .bad => .bad
def strI (i : Int) : Res Str := if i.natAbs < 2 ^ 1900 then .ok ((toString i : String) : Str) else .bad
def nStrL (K : PySem.W.Frag) : List V → Hp → VK → Prop := fun vs H Q => ∃ a d, vs = [.ref a] ∧ Dp K H (.ref a) d ∧ Show1 d ∧ Q (.str d.shown) H
theorem c_strL {X : Cx} {K : PySem.W.Frag} (gd : X.A.guards = some []) (hu : X.A.units + 64 < cLine) (hK : X.K = K := by rfl) : CallR X (.type "str") (nStrL K) := by
  subst hK
  exact call_strD gd hu
section
variable {K : PySem.W.Frag} {B : Bs} {cl : Exn → Addr} {W : WX} {n : Nat} {ω α β γ ρ π ζ τ : Type} {P : Res ω → Prop} {F H F' H' : Hp} {σ : L2.St} {ss ss' : List Sl} {Q : VK} {E : XK} {v u : V} {vs : List V} {ds es : List D} {i : Nat} {a : Addr}
theorem s_repL {en : α → D} {zs : List α} {k : Int} {f : List α → Res ω} (s : Sct K B n cl W P) (hm : P ((repLR zs k).bind f)) (c : Ctx K B F H σ ss) (r1 : Rep K F v (eL en zs))
    (q : ∀ x w H', P (f x) → Ctx K B F H' σ ss → Nw K B σ ss F H' w (x.map en) → Q w H') : rRep v (.int k) H Q := by
  unfold repLR at hm
  split at hm
  · next h =>
    cases r1 with
    | lst s1 l1 t =>
      rename_i a vs
      have h1 := t.len_map
      have sz : sizeLine = 16777216 := sizeLine_eq
      have hl : (List.replicate k.toNat vs).flatten.length ≤ sizeLine := by rw [flat_len, h1, Nat.mul_comm]; omega
      obtain ⟨_, kk⟩ := s_lstO (Q := Q) c (t.rep k.toNat) hl fun w H' c' nw => q _ _ _ hm c' (by rw [map_rep]; exact nw)
      exact ⟨a, k, vs, rfl, rfl, c.fh _ _ s1, by omega, by omega, by rw [h1]; omega, kk⟩
  · exact absurd hm s.bad
theorem n_strL {en : α → D} [Dat en] {xs : List α} {f : Str → Res ω} (s : Sct K B n cl W P) (hm : P ((reprR (eL en) xs).bind f)) (c : Ctx K B F H σ ss) (r : Rep K F v (eL en xs)) (q : ∀ z, reprR (eL en) xs = .ok z → P (f z) → Q (.str z) H) : nStrL K [v] H Q := by
  unfold reprR at hm
  split at hm
  · next h =>
    have : sizeLine = 16777216 := sizeLine_eq
    have hd := Dat.dp (e := eL en) K H v xs (r.mono c.fh)
    cases r with
    | lst _ _ _ => exact ⟨_, Dat.p (eL en) xs, rfl, hd, ⟨h.1, h.2.1, by omega, h.2.2.2⟩, q _ (if_pos h) hm⟩
  · exact absurd hm s.bad
/-- a list of defs, and one of them taken out -/
theorem s_lstV (c : Ctx K B F H σ ss) (l : vs.length ≤ sizeLine) (k : ∀ a H', Ctx K B F H' σ ss → H' a = some (.lst vs) → Q (.ref a) H') : nLst vs H Q :=
  ⟨l, fun p hp => k p _ (c.step (Step.own (io := none) (o := .lst vs) c.fh hp)) upd_same⟩
theorem s_pickV {gs : List γ} {k : Int} {f : γ → Res ω} (s : Sct K B n cl W P) (hm : P ((ix gs k).bind f)) (hx : H a = some (.lst vs)) (hl : vs.length = gs.length) (q : ∀ (j : Nat) (x : V) (g : γ), vs[j]? = some x → gs[j]? = some g → P (f g) → Q x H) : rIxL K (.ref a) (.int k) H Q := by
  obtain ⟨y, e, h⟩ := s.get hm fun e => ix_exc e
  have h1 := ix_ok e
  unfold atI at h1
  cases hj : ixN gs.length k with
  | none => rw [hj] at h1; cases h1
  | some j =>
    rw [hj] at h1
    have hlt : j < vs.length := by rw [hl]; exact (ixN_seq hj).2.1
    refine ⟨a, vs, k, vs[j], rfl, rfl, SqL.of hx, ?_, q j _ y (List.getElem?_eq_getElem hlt) h1 h⟩
    unfold atI
    rw [hl, hj]
    exact List.getElem?_eq_getElem hlt
theorem s_eqP {en : α → D} [Dat en] [DecidableEq α] {x y : α} {f : Bool → Res ω} (s : Sct K B n cl W P) (hm : P ((eqR en x y).bind f)) (c : Ctx K B F H σ ss) (r1 : Rep K F v (en x)) (r2 : Rep K F u (en y)) (q : ∀ b, eqR en x y = .ok b → P (f b) → Q (.bl b) H) (h : Dat.deep en ≤ 60 := by decide) : rEqD K v u H Q := by
  unfold eqR at hm
  split at hm
  · next k =>
    have k' := k
    rw [Bool.and_eq_true] at k'
    exact ⟨_, _, Dat.dp K H _ x (r1.mono c.fh), Dat.dp K H _ y (r2.mono c.fh), shapedP k'.1 (by omega), shapedP k'.2 (by omega), by rw [Dat.eqd]; exact q _ (if_pos k) hm⟩
  · exact absurd hm s.bad
theorem s_neP {en : α → D} [Dat en] [DecidableEq α] {x y : α} {f : Bool → Res ω} (s : Sct K B n cl W P) (hm : P ((neR en x y).bind f)) (c : Ctx K B F H σ ss) (r1 : Rep K F v (en x)) (r2 : Rep K F u (en y)) (q : ∀ b, neR en x y = .ok b → P (f b) → Q (.bl b) H) (h : Dat.deep en ≤ 60 := by decide) : rNeD K v u H Q := by
  unfold neR at hm
  split at hm
  · next k =>
    have k' := k
    rw [Bool.and_eq_true] at k'
    exact ⟨_, _, Dat.dp K H _ x (r1.mono c.fh), Dat.dp K H _ y (r2.mono c.fh), shapedP k'.1 (by omega), shapedP k'.2 (by omega), by rw [Dat.eqd, ← decide_not]; exact q _ (if_pos k) hm⟩
  · exact absurd hm s.bad
theorem s_isiU {e1 : α → D} {e2 : β → D} {T1 T2 nm : String} [h1 : HasTy e1 T1] [h2 : HasTy e2 T2] {b1 b2 : Bool} {x : α ⊕ β} (c : Ctx K B F H σ ss) (r : Rep K F v (eS e1 e2 x)) (k1 : PySem.W.kitOne K (.type T1) (.type nm) = some b1) (k2 : PySem.W.kitOne K (.type T2) (.type nm) = some b2)
    (q : Q (.bl (sumB b1 b2 x)) H) : rIsi K [v, .ty nm] H Q := by
  cases x with
  | inl a => exact ⟨_, .ty nm, .type T1, .type nm, b1, rfl, .ty nm, h1.ty K F H v a c.fh r, k1, q⟩
  | inr a => exact ⟨_, .ty nm, .type T2, .type nm, b2, rfl, .ty nm, h2.ty K F H v a c.fh r, k2, q⟩
theorem s_cutC {t u : TS} {D : Ends} {mm : Res (Ctl τ ρ)} {f : τ → Res ω} {fr : ρ → Res ω} {nx : τ → List Sl} (s : Sct K B n cl W P) (hm : P (mm.bind (Ctl.then f fr)))
    (rest : ∀ st F' H' σ', P (f st) → Ex F F' → Ctx K B F' H' σ' (nx st) → u D σ' H')
    (body : ∀ (P' : Res (Ctl τ ρ) → Prop) (N : L2.St → Hp → Prop), Sct K B n cl W P' → P' mm → (∀ st F' H' σ', P' (.ok (.nx st)) → Ex F F' → Ctx K B F' H' σ' (nx st) → N σ' H') → (∀ r, P' (.ok (.rt r)) → P (fr r)) → t { D with nx := N } σ H) : tSeq t u D σ H := body _ (u D) s.bind hm rest fun _ h => h
/-- is an exception of such a class -/
theorem s_isX {C X : Addr} {b : Bool} (c : ExcC K C) (k : PySem.W.kitOne K (.ref C) (.ref X) = some b) (q : Q (.bl b) H) : rIsX K a (.ref C) none [.ref a, .ref X] H Q :=
  .inr ⟨C, rfl, rfl, c, .ref X, _, b, rfl, fun u h => h, k, q⟩
/-- a try that ends in returns: its body is strict in the suite -/
theorem s_try {cc : Value} {i : Nat} {ts : Addr → Value → Option Addr → TS} {Wout : WX} {tb : WX → TS} {D : Ends} {live : Exn → Bool} {mb : Res ω} {ms : Exn → Res ω} (s : Sct K B n cl W P) (hm : P (tryC live mb ms))
    (body : ∀ P' : Res ω → Prop, Sct K B n cl (wAs K cc i ts Wout D) P' → P' mb → (∀ y, P' (.ok y) → P (.ok y)) → tb (wAs K cc i ts Wout D) D σ H)
    (suite : ∀ e, live e = true → P (ms e) → ∀ σ F H, Ctx K B F H σ (List.replicate n .un) → wAs K cc i ts Wout D (.ref (cl e)) none σ H) : tTryA K cc i ts Wout tb D σ H := by
  refine body (fun r => P (tryC live r ms)) ⟨s.bad, fun e h σ F H c => ?_⟩ hm fun y h => h
  have h' : P (if live e = true then ms e else .bad) := h
  by_cases q : live e = true
  · rw [if_pos q] at h'
    exact suite e q h' σ F H c
  · rw [if_neg q] at h'
    exact absurd h' s.bad
theorem s_wAs {cc : Value} {ts : Addr → Value → Option Addr → TS} {Wout : WX} {D : Ends} {C : Addr} (xm : PySem.W.exmOne K (.ref C) cc = some true) (c : Ctx K B F H σ (List.replicate n .un)) (hi : i < n) (hz : i ≠ 0 ∨ B.io = none)
    (k : ∀ a σ', H a = none → Ctx K B F H σ' (List.replicate n .un) → σ'[i]? = some (some (.ref a)) → ts a (.ref C) none { nx := fun σ' H' => D.nx (σ'.set i none) H', rt := D.rt, bk := fun σ' H' => D.bk (σ'.set i none) H', ct := fun σ' H' => D.ct (σ'.set i none) H' } σ' H) : wAs K cc i ts Wout D (.ref C) none σ H := by
  refine ⟨true, xm, fun _ a ha => k a _ ha ?_ ?_, fun z => nomatch z⟩
  · have un : ∀ {j : Nat} {t : Sl}, (List.replicate n Sl.un)[j]? = some t → t = .un := fun {j t} q => List.eq_of_mem_replicate (List.mem_of_getElem? q)
    refine ⟨c.st, by rw [List.length_set]; exact c.len, fun j x t h1 h2 => ?_, fun j l b d1 d2 ne h1 => ?_, fun b hb => ?_, fun j es h => ?_⟩
    · rw [un h2]; trivial
    · cases un h1
    · rcases hz with hz | hz
      · have := c.io b hb
        rw [List.getElem?_set_ne hz]
        exact this
      · rw [hz] at hb
        cases hb
    · cases un h
  · have hl := c.len
    rw [List.length_replicate] at hl
    rw [List.getElem?_set_self (by omega)]
end
end MI
/-! fractions in lowest terms as rationals (no model here) -/
namespace MA
/-- a rational as the pair in lowest terms -/
def lw (q : Rat) : Int × Int := (q.num, (q.den : Int))
theorem lw_den (q : Rat) : 0 < (lw q).2 := by
  have := q.den_pos
  show (0 : Int) < (q.den : Int)
  omega
theorem lw_inj {p q : Rat} (h : lw p = lw q) : p = q := by
  have h1 := congrArg Prod.fst h
  have h2 := congrArg Prod.snd h
  refine Rat.ext h1 ?_
  exact Int.ofNat.inj h2
theorem cast_ne {a : Int} (h : a ≠ 0) : (a : Rat) ≠ 0 := by
  intro e
  exact h (by exact_mod_cast e)
/-- a pair in lowest terms is the one of its quotient -/
theorem lw_of {a b : Int} (hb : 0 < b) (hc : Nat.gcd a.natAbs b.natAbs = 1) : lw ((a : Rat) / b) = (a, b) := by
  obtain ⟨d, rfl⟩ : ∃ d : Nat, b = d := ⟨b.toNat, by omega⟩
  have nz : d ≠ 0 := by omega
  have hq : (⟨a, d, nz, by simpa using hc⟩ : Rat) = (a : Rat) / ((d : Int) : Rat) := by
    rw [Rat.mk_eq_divInt, Rat.divInt_eq_div]
  rw [← hq]
  rfl
theorem lw_val (q : Rat) : ((lw q).1 : Rat) / ((lw q).2 : Rat) = q := by
  show (q.num : Rat) / ((q.den : Int) : Rat) = q
  rw [← Rat.divInt_eq_div]
  exact Rat.num_divInt_den q
theorem lw_gcd (q : Rat) : Nat.gcd (lw q).1.natAbs (lw q).2.natAbs = 1 := q.reduced
/-- what is divided by the common divisor is in lowest terms -/
theorem low_eq {a b : Int} (hb : b ≠ 0) : let g : Int := (Nat.gcd a.natAbs b.natAbs : Nat); let s : Int := if b < 0 then -g else g
    (a.fdiv s, b.fdiv s) = lw ((a : Rat) / b) := by
  intro g s
  have gpos : 0 < Nat.gcd a.natAbs b.natAbs := Nat.gcd_pos_of_pos_right _ (by omega)
  have ga : g ∣ a := Int.natAbs_dvd_natAbs.mp (by rw [Int.natAbs_natCast]; exact Nat.gcd_dvd_left _ _)
  have gb : g ∣ b := Int.natAbs_dvd_natAbs.mp (by rw [Int.natAbs_natCast]; exact Nat.gcd_dvd_right _ _)
  have sa : s ∣ a := by
    show (if b < 0 then -g else g) ∣ a
    split
    · exact Int.neg_dvd.mpr ga
    · exact ga
  have sb : s ∣ b := by
    show (if b < 0 then -g else g) ∣ b
    split
    · exact Int.neg_dvd.mpr gb
    · exact gb
  have sn : s.natAbs = Nat.gcd a.natAbs b.natAbs := by
    show (if b < 0 then -g else g).natAbs = _
    split
    · rw [Int.natAbs_neg, Int.natAbs_natCast]
    · rw [Int.natAbs_natCast]
  have s0 : s ≠ 0 := by omega
  obtain ⟨x, hx⟩ := sa
  obtain ⟨y, hy⟩ := sb
  have fx : a.fdiv s = x := by rw [hx, Int.mul_fdiv_cancel_left _ s0]
  have fy : b.fdiv s = y := by rw [hy, Int.mul_fdiv_cancel_left _ s0]
  rw [fx, fy]
  have y0 : y ≠ 0 := fun e => hb (by rw [hy, e, Int.mul_zero])
  have ypos : 0 < y := by
    have hs : s = if b < 0 then -g else g := rfl
    by_cases h : b < 0
    · rw [if_pos h] at hs
      have sl : s < 0 := by omega
      rcases Int.lt_or_lt_of_ne y0 with z | z
      · have := Int.mul_pos_of_neg_of_neg sl z
        omega
      · exact z
    · rw [if_neg h] at hs
      have sl : 0 < s := by omega
      rcases Int.lt_or_lt_of_ne y0 with z | z
      · have := Int.mul_neg_of_pos_of_neg sl z
        omega
      · exact z
  have cop : Nat.gcd x.natAbs y.natAbs = 1 := by
    have e : Nat.gcd a.natAbs b.natAbs = s.natAbs * Nat.gcd x.natAbs y.natAbs := by
      rw [← Nat.gcd_mul_left, ← Int.natAbs_mul, ← Int.natAbs_mul, ← hx, ← hy]
    rw [sn] at e
    have : Nat.gcd a.natAbs b.natAbs * 1 = Nat.gcd a.natAbs b.natAbs * Nat.gcd x.natAbs y.natAbs := by omega
    exact (Nat.eq_of_mul_eq_mul_left gpos this).symm
  rw [← lw_of ypos cop]
  congr 1
  have sq := cast_ne s0
  have yq := cast_ne y0
  have ea : (a : Rat) = (s : Rat) * x := by rw [hx]; exact Rat.intCast_mul _ _
  have eb : (b : Rat) = (s : Rat) * y := by rw [hy]; exact Rat.intCast_mul _ _
  rw [ea, eb]
  grind
/-! ### sizes: a common divisor and what stands above it -/
/-- q times D is whole, and not above M -/
def Wh (D : Nat) (M : Nat) (q : Rat) : Prop := ∃ z : Int, q * (D : Rat) = (z : Rat) ∧ z.natAbs ≤ M
theorem natCast_ne {n : Nat} (h : 0 < n) : (n : Rat) ≠ 0 := by
  intro e
  have : ((n : Int) : Rat) = ((0 : Int) : Rat) := by exact_mod_cast e
  have := Rat.intCast_inj.mp this
  omega
theorem Wh.eq {D M : Nat} {q : Rat} (hD : 0 < D) (h : Wh D M q) : ∃ z : Int, q = (z : Rat) / ((D : Int) : Rat) ∧ z.natAbs ≤ M := by
  obtain ⟨z, h1, h2⟩ := h
  refine ⟨z, ?_, h2⟩
  have := natCast_ne hD
  have e : ((D : Int) : Rat) = (D : Rat) := by exact_mod_cast rfl
  rw [e]
  grind
/-- its two parts divide those -/
theorem Wh.parts {D M : Nat} {q : Rat} (hD : 0 < D) (h : Wh D M q) : q.den ∣ D ∧ q.num.natAbs ≤ M ∧ ∃ z : Int, q * (D : Rat) = z ∧ q.num ∣ z := by
  obtain ⟨z, hz, hM⟩ := h
  have hq : (q.num : Rat) / ((q.den : Int) : Rat) = q := lw_val q
  have hd : ((q.den : Int) : Rat) ≠ 0 := cast_ne (by have := q.den_pos; omega)
  -- num * D = z * den
  have e : q.num * (D : Int) = z * (q.den : Int) := by
    have e1 : (q.num : Rat) * (D : Rat) = (z : Rat) * ((q.den : Int) : Rat) := by
      rw [← hz]
      have : (q.num : Rat) = q * ((q.den : Int) : Rat) := by
        have := hq
        grind
      rw [this]
      grind
    have e2 : ((q.num * (D : Int) : Int) : Rat) = ((z * (q.den : Int) : Int) : Rat) := by
      rw [Rat.intCast_mul, Rat.intCast_mul]
      exact e1
    exact Rat.intCast_inj.mp e2
  have en : q.num.natAbs * D = z.natAbs * q.den := by
    have := congrArg Int.natAbs e
    rw [Int.natAbs_mul, Int.natAbs_mul, Int.natAbs_natCast, Int.natAbs_natCast] at this
    exact this
  have d1 : q.den ∣ D := by
    have : q.den ∣ q.num.natAbs * D := ⟨z.natAbs, by rw [en, Nat.mul_comm]⟩
    exact (Nat.Coprime.dvd_of_dvd_mul_left (Nat.Coprime.symm q.reduced) this)
  have d2 : q.num.natAbs ∣ z.natAbs := by
    have : q.num.natAbs ∣ z.natAbs * q.den := ⟨D, en.symm⟩
    exact Nat.Coprime.dvd_of_dvd_mul_right q.reduced this
  refine ⟨d1, ?_, z, hz, Int.natAbs_dvd_natAbs.mp d2⟩
  rcases Nat.eq_zero_or_pos z.natAbs with h0 | h0
  · rw [h0, Nat.zero_mul] at en
    rcases Nat.mul_eq_zero.mp en with k | k
    · omega
    · omega
  · exact Nat.le_trans (Nat.le_of_dvd h0 d2) hM
theorem Wh.num {D M : Nat} {q : Rat} (hD : 0 < D) (h : Wh D M q) : q.num.natAbs ≤ M := (h.parts hD).2.1
theorem Wh.den {D M : Nat} {q : Rat} (hD : 0 < D) (h : Wh D M q) : q.den ≤ D := Nat.le_of_dvd hD (h.parts hD).1
theorem Wh.mono {D M M' : Nat} {q : Rat} (h : Wh D M q) (l : M ≤ M') : Wh D M' q := by
  obtain ⟨z, h1, h2⟩ := h
  exact ⟨z, h1, Nat.le_trans h2 l⟩
theorem Wh.add {D M N : Nat} {p q : Rat} (h : Wh D M p) (k : Wh D N q) : Wh D (M + N) (p + q) := by
  obtain ⟨z, h1, h2⟩ := h
  obtain ⟨y, h3, h4⟩ := k
  refine ⟨z + y, ?_, by omega⟩
  rw [Rat.intCast_add, ← h1, ← h3]
  grind
theorem Wh.mul {D E M N : Nat} {p q : Rat} (h : Wh D M p) (k : Wh E N q) : Wh (D * E) (M * N) (p * q) := by
  obtain ⟨z, h1, h2⟩ := h
  obtain ⟨y, h3, h4⟩ := k
  refine ⟨z * y, ?_, by rw [Int.natAbs_mul]; exact Nat.mul_le_mul h2 h4⟩
  rw [Rat.intCast_mul, ← h1, ← h3]
  have : ((D * E : Nat) : Rat) = (D : Rat) * (E : Rat) := by exact_mod_cast rfl
  rw [this]
  grind
theorem Wh.up {D M : Nat} {q : Rat} (h : Wh D M q) (k : Nat) : Wh (D * k) (M * k) q := by
  have := h.mul (E := k) (N := k) (q := 1) ⟨k, by rw [Rat.one_mul]; exact_mod_cast rfl, by omega⟩
  rw [Rat.mul_one] at this
  exact this
theorem Wh.neg {D M : Nat} {q : Rat} (h : Wh D M q) : Wh D M (-q) := by
  obtain ⟨z, h1, h2⟩ := h
  refine ⟨-z, ?_, by omega⟩
  rw [Rat.intCast_neg, ← h1]
  grind
theorem Wh.int {M : Nat} {z : Int} (h : z.natAbs ≤ M) : Wh 1 M (z : Rat) := ⟨z, by
  show (z : Rat) * ((1 : Nat) : Rat) = z
  have : ((1 : Nat) : Rat) = 1 := by exact_mod_cast rfl
  rw [this, Rat.mul_one], h⟩
theorem Wh.zero {D M : Nat} : Wh D M 0 := ⟨0, by rw [Rat.zero_mul]; rfl, by simp⟩
end MA
/-! spans and reduced forms (no model here): a row is a function from places to rationals -/
namespace MA
abbrev Row := Nat → Rat
/-- the rows that are combinations of those of S -/
inductive Spn (S : List Row) : Row → Prop
  | zero : Spn S fun _ => 0
  | add {v s : Row} (t : Rat) : Spn S v → s ∈ S → Spn S fun j => v j + t * s j
theorem Spn.cast {S : List Row} {u v : Row} (h : Spn S u) (e : ∀ j, u j = v j) : Spn S v := by
  have : u = v := funext e
  rw [← this]
  exact h
theorem Spn.plus {S : List Row} {u v : Row} (h : Spn S u) (k : Spn S v) : Spn S fun j => u j + v j := by
  induction k with
  | zero => exact h.cast fun j => by grind
  | add t k m ih => exact (Spn.add t ih m).cast fun j => by grind
theorem Spn.times {S : List Row} {u : Row} (c : Rat) (h : Spn S u) : Spn S fun j => c * u j := by
  induction h with
  | zero => exact Spn.zero.cast fun j => by grind
  | add t k m ih => exact (Spn.add (c * t) ih m).cast fun j => by grind
theorem Spn.mem {S : List Row} {s : Row} (h : s ∈ S) : Spn S s := (Spn.add 1 .zero h).cast fun j => by grind
theorem Spn.comb {S : List Row} {u v : Row} (a b : Rat) (h : Spn S u) (k : Spn S v) : Spn S fun j => a * u j + b * v j := (h.times a).plus (k.times b)
theorem Spn.trans {S T : List Row} (h : ∀ s ∈ S, Spn T s) {v : Row} (k : Spn S v) : Spn T v := by
  induction k with
  | zero => exact .zero
  | add t k m ih => exact (ih.plus ((h _ m).times t)).cast fun j => by grind
/-- what holds of all rows and of combinations of two holds of the span -/
theorem Spn.lin {S : List Row} {f : Row → Rat} (h0 : f (fun _ => 0) = 0) (ha : ∀ v s t, f (fun j => v j + t * s j) = f v + t * f s) (hs : ∀ s ∈ S, f s = 0) {v : Row} (k : Spn S v) : f v = 0 := by
  induction k with
  | zero => exact h0
  | add t k m ih =>
    rw [ha, ih, hs _ m]
    grind
/-- the same span -/
def Eqs (S T : List Row) : Prop := ∀ v, Spn S v ↔ Spn T v
theorem Eqs.refl (S : List Row) : Eqs S S := fun _ => Iff.rfl
theorem Eqs.symm {S T : List Row} (h : Eqs S T) : Eqs T S := fun v => (h v).symm
theorem Eqs.trans {S T U : List Row} (h : Eqs S T) (k : Eqs T U) : Eqs S U := fun v => (h v).trans (k v)
theorem Eqs.of {S T : List Row} (h : ∀ s ∈ S, Spn T s) (k : ∀ s ∈ T, Spn S s) : Eqs S T := fun _ => ⟨Spn.trans h, Spn.trans k⟩
/-! ### reduced forms -/
abbrev PRow := Nat × Row
/-- rising places; each row begins at its own place, and is 0 at the others' -/
structure Red (E : List PRow) : Prop where
  up : E.Pairwise fun a b => a.1 < b.1
  one : ∀ a ∈ E, a.2 a.1 ≠ 0
  low : ∀ a ∈ E, ∀ k, k < a.1 → a.2 k = 0
  off : ∀ a ∈ E, ∀ b ∈ E, a.1 ≠ b.1 → a.2 b.1 = 0
/-- the rows from their places -/
def rows (E : List PRow) : List Row := E.map (·.2)
/-- the combination that has given numbers at the places -/
def lin (E : List PRow) (v : Row) : Row := fun j => E.foldr (fun a acc => acc + v a.1 / a.2 a.1 * a.2 j) 0
theorem lin_nil (v : Row) (j : Nat) : lin [] v j = 0 := rfl
theorem lin_cons (a : PRow) (E : List PRow) (v : Row) (j : Nat) : lin (a :: E) v j = lin E v j + v a.1 / a.2 a.1 * a.2 j := rfl
theorem lin_zero {E : List PRow} {v : Row} (h : ∀ a ∈ E, v a.1 = 0) (j : Nat) : lin E v j = 0 := by
  induction E with
  | nil => rfl
  | cons a E ih =>
    rw [lin_cons, ih fun b m => h b (.tail _ m), h a (.head _)]
    grind
theorem lin_add (E : List PRow) (v s : Row) (t : Rat) (j : Nat) : lin E (fun j => v j + t * s j) j = lin E v j + t * lin E s j := by
  induction E with
  | nil => rw [lin_nil, lin_nil, lin_nil]; grind
  | cons a E ih =>
    rw [lin_cons, lin_cons, lin_cons, ih]
    grind
theorem Red.tail {a : PRow} {E : List PRow} (h : Red (a :: E)) : Red E :=
  ⟨(List.pairwise_cons.mp h.up).2, fun b m => h.one b (.tail _ m), fun b m => h.low b (.tail _ m), fun b m c n => h.off b (.tail _ m) c (.tail _ n)⟩
theorem Red.lin_mem {E : List PRow} (h : Red E) {a : PRow} (m : a ∈ E) (j : Nat) : lin E a.2 j = a.2 j := by
  induction E with
  | nil => cases m
  | cons b E ih =>
    rw [lin_cons]
    have hb := (List.pairwise_cons.mp h.up).1
    cases m with
    | head =>
      rw [lin_zero fun c n => h.off a (.head _) c (.tail _ n) (by have := hb c n; omega)]
      have := h.one a (.head _)
      grind
    | tail _ m =>
      rw [ih h.tail m, h.off a (.tail _ m) b (.head _) (by have := hb a m; omega)]
      grind
/-- a row of the span is told by its numbers at the places -/
theorem Red.lin_span {E : List PRow} (h : Red E) {v : Row} (k : Spn (rows E) v) (j : Nat) : lin E v j = v j := by
  induction k with
  | zero => exact lin_zero (fun _ _ => rfl) j
  | @add v s t k m ih =>
    obtain ⟨a, ma, rfl⟩ := List.mem_map.mp m
    rw [lin_add, ih, h.lin_mem ma]
theorem lin_spn (E : List PRow) (v : Row) : Spn (rows E) (lin E v) := by
  have : ∀ T : List PRow, (∀ a ∈ T, a ∈ E) → Spn (rows E) (lin T v) := fun T => by
    induction T with
    | nil => exact fun _ => .zero
    | cons a T ih => exact fun h => (Spn.add (v a.1 / a.2 a.1) (ih fun b m => h b (.tail _ m)) (List.mem_map.mpr ⟨a, h a (.head _), rfl⟩)).cast fun j => rfl
  exact this E fun _ m => m
theorem Red.zero {E : List PRow} (h : Red E) {v : Row} (k : Spn (rows E) v) (z : ∀ a ∈ E, v a.1 = 0) (j : Nat) : v j = 0 := by
  rw [← h.lin_span k j]
  exact lin_zero z j
/-- the places are the span's own -/
theorem Red.places {E G : List PRow} (h : Red E) (k : Red G) (s : ∀ v, Spn (rows E) v → Spn (rows G) v) {a : PRow} (m : a ∈ E) : ∃ b ∈ G, b.1 = a.1 := by
  apply Classical.byContradiction
  intro no
  have ha : Spn (rows G) a.2 := s _ (Spn.mem (List.mem_map.mpr ⟨a, m, rfl⟩))
  have := k.lin_span ha a.1
  have z : lin G a.2 a.1 = 0 := by
    have : ∀ T : List PRow, (∀ b ∈ T, b ∈ G) → lin T a.2 a.1 = 0 := fun T => by
      induction T with
      | nil => exact fun _ => rfl
      | cons b T ih =>
        intro hT
        rw [lin_cons, ih fun c n => hT c (.tail _ n)]
        have mb := hT b (.head _)
        have ne : b.1 ≠ a.1 := fun e => no ⟨b, mb, e⟩
        rcases Nat.lt_or_gt_of_ne ne with l | l
        · rw [h.low a m _ l]
          grind
        · rw [k.low b mb _ l]
          grind
    exact this G fun _ n => n
  exact h.one a m (by rw [← this, z])
theorem sorted_eq : ∀ {l m : List Nat}, l.Pairwise (· < ·) → m.Pairwise (· < ·) → (∀ x, x ∈ l ↔ x ∈ m) → l = m
  | [], [], _, _, _ => rfl
  | [], y :: m, _, _, h => absurd ((h y).mpr (.head _)) (by simp)
  | x :: l, [], _, _, h => absurd ((h x).mp (.head _)) (by simp)
  | x :: l, y :: m, hl, hm, h => by
    have hl' := List.pairwise_cons.mp hl
    have hm' := List.pairwise_cons.mp hm
    have e : x = y := by
      rcases List.mem_cons.mp ((h x).mp (.head _)) with e | e
      · exact e
      · rcases List.mem_cons.mp ((h y).mpr (.head _)) with e2 | e2
        · exact e2.symm
        · have := hm'.1 x e
          have := hl'.1 y e2
          omega
    subst e
    congr 1
    refine sorted_eq hl'.2 hm'.2 fun z => ⟨fun m1 => ?_, fun m1 => ?_⟩
    · rcases List.mem_cons.mp ((h z).mp (.tail _ m1)) with e | e
      · subst e
        have := hl'.1 z m1
        omega
      · exact e
    · rcases List.mem_cons.mp ((h z).mpr (.tail _ m1)) with e | e
      · subst e
        have := hm'.1 z m1
        omega
      · exact e
theorem Red.fsts {E G : List PRow} (h : Red E) (k : Red G) (s : Eqs (rows E) (rows G)) : E.map (·.1) = G.map (·.1) := by
  refine sorted_eq ?_ ?_ fun x => ⟨fun m => ?_, fun m => ?_⟩
  · exact List.pairwise_map.mpr h.up
  · exact List.pairwise_map.mpr k.up
  · obtain ⟨a, ma, rfl⟩ := List.mem_map.mp m
    obtain ⟨b, mb, e⟩ := h.places k (fun v => (s v).mp) ma
    exact List.mem_map.mpr ⟨b, mb, e⟩
  · obtain ⟨a, ma, rfl⟩ := List.mem_map.mp m
    obtain ⟨b, mb, e⟩ := k.places h (fun v => (s v).mpr) ma
    exact List.mem_map.mpr ⟨b, mb, e⟩
/-- each row divided by its number at its own place -/
def unit (a : PRow) : PRow := (a.1, fun j => a.2 j / a.2 a.1)
theorem Red.row_eq {E G : List PRow} (h : Red E) (k : Red G) (s : Eqs (rows E) (rows G)) {a b : PRow} (ma : a ∈ E) (mb : b ∈ G) (e : a.1 = b.1) (j : Nat) : a.2 j / a.2 a.1 = b.2 j / b.2 b.1 := by
  have ha : Spn (rows E) a.2 := Spn.mem (List.mem_map.mpr ⟨a, ma, rfl⟩)
  have hb : Spn (rows E) b.2 := (s _).mpr (Spn.mem (List.mem_map.mpr ⟨b, mb, rfl⟩))
  have hd := ha.comb (1 / a.2 a.1) (-1 / b.2 b.1) hb
  have a0 := h.one a ma
  have b0 := k.one b mb
  have z := h.zero hd (fun c mc => by
    show 1 / a.2 a.1 * a.2 c.1 + -1 / b.2 b.1 * b.2 c.1 = 0
    by_cases q : c.1 = a.1
    · rw [q]
      rw [show b.2 a.1 = b.2 b.1 by rw [e]]
      grind
    · obtain ⟨d, md, ed⟩ := h.places k (fun v => (s v).mp) mc
      rw [h.off a ma c mc fun x => q x.symm, ← ed, k.off b mb d md fun x => q (by rw [← ed, ← x, e])]
      grind) j
  have z' : 1 / a.2 a.1 * a.2 j + -1 / b.2 b.1 * b.2 j = 0 := z
  grind
/-- two reduced forms of one span are the same, but for factors -/
theorem Red.uniq {E G : List PRow} (h : Red E) (k : Red G) (s : Eqs (rows E) (rows G)) : E.map unit = G.map unit := by
  have f := h.fsts k s
  have hl : E.length = G.length := by
    have := congrArg List.length f
    rw [List.length_map, List.length_map] at this
    exact this
  refine List.ext_getElem (by rw [List.length_map, List.length_map]; exact hl) fun i h1 h2 => ?_
  rw [List.getElem_map, List.getElem_map]
  rw [List.length_map] at h1 h2
  have e : (E[i]).1 = (G[i]).1 := by
    have := congrArg (fun l : List Nat => l[i]?) f
    simp only [List.getElem?_map] at this
    rw [List.getElem?_eq_getElem h1, List.getElem?_eq_getElem h2] at this
    exact Option.some.inj this
  unfold unit
  rw [Prod.mk.injEq]
  exact ⟨e, funext fun j => h.row_eq k s (List.getElem_mem h1) (List.getElem_mem h2) e j⟩
/-! ### a step of an elimination -/
/-- after the places below p: what is done, what is left -/
structure Inv (S : List Row) (p : Nat) (done : List PRow) (left : List Row) : Prop where
  red : Red done
  lt : ∀ a ∈ done, a.1 < p
  van : ∀ r ∈ left, ∀ k, k < p → r k = 0
  spn : Eqs S (rows done ++ left)
theorem Inv.start (S : List Row) : Inv S 0 [] S := ⟨⟨.nil, fun _ m => (nomatch m), fun _ m => (nomatch m), fun _ m => (nomatch m)⟩, fun _ m => (nomatch m), fun _ _ k h => absurd h (Nat.not_lt_zero k), Eqs.refl _⟩
theorem Inv.skip {S : List Row} {p : Nat} {done : List PRow} {left : List Row} (h : Inv S p done left) (z : ∀ r ∈ left, r p = 0) : Inv S (p + 1) done left :=
  ⟨h.red, fun a m => Nat.lt_succ_of_lt (h.lt a m), fun r m k l => by
    rcases Nat.lt_succ_iff_lt_or_eq.mp l with q | q
    · exact h.van r m k q
    · subst q
      exact z r m, h.spn⟩
/-- b from a: a times something, and by -/
def Stk (by_ : Row) (p : Nat) (a b : Row) : Prop := ∃ u v : Rat, u ≠ 0 ∧ (∀ j, b j = u * a j + v * by_ j) ∧ b p = 0
inductive Fa {α β : Type} (R : α → β → Prop) : List α → List β → Prop
  | nil : Fa R [] []
  | cons {a : α} {b : β} {l : List α} {m : List β} : R a b → Fa R l m → Fa R (a :: l) (b :: m)
theorem Fa.len {α β : Type} {R : α → β → Prop} {l : List α} {m : List β} (h : Fa R l m) : l.length = m.length := by
  induction h with
  | nil => rfl
  | cons _ _ ih => rw [List.length_cons, List.length_cons, ih]
theorem Fa.left {α β : Type} {R : α → β → Prop} {l : List α} {m : List β} (h : Fa R l m) {a : α} (k : a ∈ l) : ∃ b ∈ m, R a b := by
  induction h with
  | nil => cases k
  | cons r _ ih =>
    cases k with
    | head => exact ⟨_, .head _, r⟩
    | tail _ k =>
      obtain ⟨b, m, q⟩ := ih k
      exact ⟨b, .tail _ m, q⟩
theorem Fa.right {α β : Type} {R : α → β → Prop} {l : List α} {m : List β} (h : Fa R l m) {b : β} (k : b ∈ m) : ∃ a ∈ l, R a b := by
  induction h with
  | nil => cases k
  | cons r _ ih =>
    cases k with
    | head => exact ⟨_, .head _, r⟩
    | tail _ k =>
      obtain ⟨b, m, q⟩ := ih k
      exact ⟨b, .tail _ m, q⟩
theorem Fa.imp {α β : Type} {R R' : α → β → Prop} {l : List α} {m : List β} (h : Fa R l m) (f : ∀ a b, R a b → R' a b) : Fa R' l m := by
  induction h with
  | nil => exact .nil
  | cons r _ ih => exact .cons (f _ _ r) ih
theorem Fa.map2 {α β γ δ : Type} {R : α → β → Prop} {f : α → γ} {g : β → δ} {R' : γ → δ → Prop} {l : List α} {m : List β} (h : Fa R l m) (k : ∀ a b, R a b → R' (f a) (g b)) : Fa R' (l.map f) (m.map g) := by
  induction h with
  | nil => exact .nil
  | cons r _ ih => exact .cons (k _ _ r) ih
theorem pw_fst {R : PRow → PRow → Prop} : ∀ {l m : List PRow}, Fa R l m → (∀ a b, R a b → b.1 = a.1) → l.map (·.1) = m.map (·.1)
  | _, _, .nil, _ => rfl
  | _, _, .cons r h, k => by rw [List.map_cons, List.map_cons, k _ _ r, pw_fst h k]
theorem Inv.step {S : List Row} {p : Nat} {done done' : List PRow} {left left' rest : List Row} {by_ : Row} {c : Rat} (h : Inv S p done left) (hb : by_ ∈ left) (hr : ∀ r, r ∈ left → r = by_ ∨ r ∈ rest) (hr2 : ∀ r ∈ rest, r ∈ left)
    (b0 : by_ p ≠ 0) (c0 : c ≠ 0) (hl : Fa (Stk by_ p) rest left') (hd : Fa (fun a b : PRow => b.1 = a.1 ∧ Stk by_ p a.2 b.2) done done') : Inv S (p + 1) (done' ++ [(p, fun j => c * by_ j)]) left' := by
  have bv := h.van by_ hb
  -- the old done row of a new one
  have back : ∀ b ∈ done', ∃ a ∈ done, b.1 = a.1 ∧ Stk by_ p a.2 b.2 := fun b m => hd.right m
  have at_ : ∀ {a b : Row} {k : Nat}, Stk by_ p a b → k < p → ∃ u, u ≠ 0 ∧ b k = u * a k := fun ⟨u, v, u0, e, _⟩ l => ⟨u, u0, by rw [e, bv _ l]; grind⟩
  have fs : done.map (·.1) = done'.map (·.1) := pw_fst hd fun _ _ r => r.1
  have up' : done'.Pairwise fun a b => a.1 < b.1 := by
    have := List.pairwise_map.mpr h.red.up
    rw [fs] at this
    exact List.pairwise_map.mp this
  have lt' : ∀ b ∈ done', b.1 < p := fun b m => by
    obtain ⟨a, ma, e, _⟩ := back b m
    rw [e]
    exact h.lt a ma
  refine ⟨⟨?_, fun a m => ?_, fun a m k l => ?_, fun a m b n ne => ?_⟩, fun a m => ?_, fun r m k l => ?_, ?_⟩
  · refine List.pairwise_append.mpr ⟨up', List.pairwise_singleton _ _, fun a m b n => ?_⟩
    cases List.mem_singleton.mp n
    exact lt' a m
  · rcases List.mem_append.mp m with m | m
    · obtain ⟨a', ma, e, s⟩ := back a m
      obtain ⟨u, u0, q⟩ := at_ s (lt' a m)
      rw [q, e]
      have := h.red.one a' ma
      intro z
      rcases Rat.mul_eq_zero.mp z with z | z
      · exact u0 z
      · exact this z
    · cases List.mem_singleton.mp m
      intro z
      rcases Rat.mul_eq_zero.mp z with z | z
      · exact c0 z
      · exact b0 z
  · rcases List.mem_append.mp m with m | m
    · obtain ⟨a', ma, e, s⟩ := back a m
      obtain ⟨u, u0, q⟩ := at_ s (Nat.lt_trans l (lt' a m))
      rw [q, h.red.low a' ma k (by omega)]
      grind
    · cases List.mem_singleton.mp m
      show c * by_ k = 0
      rw [bv k l]
      grind
  · rcases List.mem_append.mp m with m | m
    · obtain ⟨a', ma, e, s⟩ := back a m
      rcases List.mem_append.mp n with n | n
      · obtain ⟨b', mb, e2, _⟩ := back b n
        obtain ⟨u, u0, q⟩ := at_ s (lt' b n)
        rw [q, e2, h.red.off a' ma b' mb (by omega)]
        grind
      · cases List.mem_singleton.mp n
        exact s.choose_spec.choose_spec.2.2
    · cases List.mem_singleton.mp m
      rcases List.mem_append.mp n with n | n
      · show c * by_ b.1 = 0
        rw [bv _ (lt' b n)]
        grind
      · cases List.mem_singleton.mp n
        exact absurd rfl ne
  · rcases List.mem_append.mp m with m | m
    · exact Nat.lt_succ_of_lt (lt' a m)
    · cases List.mem_singleton.mp m
      exact Nat.lt_succ_self p
  · obtain ⟨a, ma, s⟩ := hl.right m
    rcases Nat.lt_succ_iff_lt_or_eq.mp l with q | q
    · obtain ⟨u, _, e⟩ := at_ s q
      rw [e, h.van a (hr2 a ma) k q]
      grind
    · subst q
      exact s.choose_spec.choose_spec.2.2
  · refine h.spn.trans (Eqs.of (fun s m => ?_) fun s m => ?_)
    · -- the old rows from the new ones
      have hby : Spn (rows (done' ++ [(p, fun j => c * by_ j)]) ++ left') by_ := by
        have : Spn (rows (done' ++ [(p, fun j => c * by_ j)]) ++ left') (fun j => c * by_ j) := Spn.mem (List.mem_append.mpr (.inl (List.mem_map.mpr ⟨_, List.mem_append.mpr (.inr (.head _)), rfl⟩)))
        exact (this.times (1 / c)).cast fun j => by grind
      have un : ∀ {a b : Row}, Stk by_ p a b → Spn (rows (done' ++ [(p, fun j => c * by_ j)]) ++ left') b → Spn (rows (done' ++ [(p, fun j => c * by_ j)]) ++ left') a := fun ⟨u, v, u0, e, _⟩ k =>
        (k.comb (1 / u) (-v / u) hby).cast fun j => by rw [e]; grind
      rcases List.mem_append.mp m with m | m
      · obtain ⟨a, ma, rfl⟩ := List.mem_map.mp m
        obtain ⟨b, mb, _, s⟩ := hd.left ma
        exact un s (Spn.mem (List.mem_append.mpr (.inl (List.mem_map.mpr ⟨b, List.mem_append.mpr (.inl mb), rfl⟩))))
      · rcases hr s m with rfl | m
        · exact hby
        · obtain ⟨b, mb, st⟩ := hl.left m
          exact un st (Spn.mem (List.mem_append.mpr (.inr mb)))
    · have hby : Spn (rows done ++ left) by_ := Spn.mem (List.mem_append.mpr (.inr hb))
      have un : ∀ {a b : Row}, Stk by_ p a b → Spn (rows done ++ left) a → Spn (rows done ++ left) b := fun ⟨u, v, u0, e, _⟩ k =>
        (k.comb u v hby).cast fun j => by rw [e]
      rcases List.mem_append.mp m with m | m
      · obtain ⟨b, mb, rfl⟩ := List.mem_map.mp m
        rcases List.mem_append.mp mb with mb | mb
        · obtain ⟨a, ma, _, s⟩ := back b mb
          exact un s (Spn.mem (List.mem_append.mpr (.inl (List.mem_map.mpr ⟨a, ma, rfl⟩))))
        · cases List.mem_singleton.mp mb
          exact (hby.times c).cast fun j => rfl
      · obtain ⟨a, ma, s⟩ := hl.right m
        exact un s (Spn.mem (List.mem_append.mpr (.inr (hr2 a ma))))
/-- at the end: nothing is left but rows of 0 -/
theorem Inv.done {S : List Row} {w : Nat} {done : List PRow} {left : List Row} (h : Inv S w done left) (hw : ∀ r ∈ left, ∀ k, w ≤ k → r k = 0) : Eqs S (rows done) := by
  refine h.spn.trans (Eqs.of (fun s m => ?_) fun s m => Spn.mem (List.mem_append.mpr (.inl m)))
  rcases List.mem_append.mp m with m | m
  · exact Spn.mem m
  · exact Spn.zero.cast fun j => by
      by_cases q : j < w
      · exact (h.van s m j q).symm
      · exact (hw s m j (by omega)).symm
/-- there is a reduced form, with no more rows than the given ones -/
theorem exists_red (S : List Row) (w : Nat) (hw : ∀ r ∈ S, ∀ k, w ≤ k → r k = 0) : ∃ E, Red E ∧ Eqs S (rows E) ∧ E.length ≤ S.length := by
  have : ∀ p, ∃ done left, Inv S p done left ∧ done.length + left.length = S.length ∧ ∀ r ∈ left, ∀ k, w ≤ k → r k = 0 := fun p => by
    induction p with
    | zero => exact ⟨[], S, Inv.start S, by simp, hw⟩
    | succ p ih =>
      obtain ⟨done, left, h, hl, hz⟩ := ih
      by_cases z : ∀ r ∈ left, r p = 0
      · exact ⟨done, left, h.skip z, hl, hz⟩
      · obtain ⟨by_, hb, b0⟩ : ∃ r ∈ left, r p ≠ 0 := by
          apply Classical.byContradiction
          intro no
          exact z fun r m => Classical.byContradiction fun q => no ⟨r, m, q⟩
        obtain ⟨l1, l2, rfl⟩ := List.append_of_mem hb
        have stk : ∀ a : Row, Stk by_ p a (fun j => a j + -(a p / by_ p) * by_ j) := fun a => ⟨1, -(a p / by_ p), by decide, fun j => by grind, by grind⟩
        have fa : ∀ l : List Row, Fa (Stk by_ p) l (l.map fun a j => a j + -(a p / by_ p) * by_ j) := fun l => by
          induction l with
          | nil => exact .nil
          | cons a l ih => exact .cons (stk a) ih
        have fd : ∀ l : List PRow, Fa (fun a b : PRow => b.1 = a.1 ∧ Stk by_ p a.2 b.2) l (l.map fun a => (a.1, fun j => a.2 j + -(a.2 p / by_ p) * by_ j)) := fun l => by
          induction l with
          | nil => exact .nil
          | cons a l ih => exact .cons ⟨rfl, stk a.2⟩ ih
        refine ⟨_, _, h.step (rest := l1 ++ l2) (c := 1) hb (fun r m => ?_) (fun r m => ?_) b0 (by decide) (fa _) (fd _), ?_, fun r m k hk => ?_⟩
        · rcases List.mem_append.mp m with m | m
          · exact .inr (List.mem_append.mpr (.inl m))
          · cases m with
            | head => exact .inl rfl
            | tail _ m => exact .inr (List.mem_append.mpr (.inr m))
        · rcases List.mem_append.mp m with m | m
          · exact List.mem_append.mpr (.inl m)
          · exact List.mem_append.mpr (.inr (.tail _ m))
        · simp only [List.length_append, List.length_map, List.length_cons, List.length_nil] at hl ⊢
          omega
        · obtain ⟨a, ma, rfl⟩ := List.mem_map.mp m
          have h1 := hz a (by
            rcases List.mem_append.mp ma with m | m
            · exact List.mem_append.mpr (.inl m)
            · exact List.mem_append.mpr (.inr (.tail _ m))) k hk
          have h2 := hz by_ hb k hk
          show a k + -(a p / by_ p) * by_ k = 0
          rw [h1, h2]
          grind
  obtain ⟨done, left, h, hl, hz⟩ := this w
  exact ⟨done, h.red, h.done hz, by omega⟩
/-! ### rows and columns -/
/-- a matrix and the turned one have one rank -/
theorem rank_le {m n : Nat} {A : Nat → Nat → Rat} {E G : List PRow} (hE : Red E) (hG : Red G)
    (sE : Eqs ((List.range m).map fun i => fun j => if j < n then A i j else 0) (rows E))
    (sG : Eqs ((List.range n).map fun j => fun i => if i < m then A i j else 0) (rows G)) : G.length ≤ E.length := by
  -- the columns at the places of E
  let C : List Row := E.map fun a => fun i => if i < m then (if a.1 < n then A i a.1 else 0) / a.2 a.1 else 0
  have hC : ∀ s ∈ (List.range n).map (fun j => fun i => if i < m then A i j else 0), Spn C s := fun s ms => by
    obtain ⟨j, mj, rfl⟩ := List.mem_map.mp ms
    have hj : j < n := List.mem_range.mp mj
    -- column j: the sum over E of e j times C e
    have : ∀ T : List PRow, (∀ a ∈ T, a ∈ E) → Spn C (fun i => if i < m then lin T (fun k => if k < n then A i k else 0) j else 0) := fun T => by
      induction T with
      | nil => exact fun _ => Spn.zero.cast fun i => by rw [lin_nil]; split <;> rfl
      | cons a T ih =>
        intro h
        refine (Spn.add (a.2 j) (ih fun b q => h b (.tail _ q)) (List.mem_map.mpr ⟨a, h a (.head _), rfl⟩)).cast fun i => ?_
        by_cases hi : i < m
        · simp only [if_pos hi]
          rw [lin_cons]
          grind
        · simp only [if_neg hi]
          grind
    refine (this E fun _ q => q).cast fun i => ?_
    by_cases hi : i < m
    · rw [if_pos hi, if_pos hi]
      have : Spn (rows E) (fun j => if j < n then A i j else 0) := (sE _).mp (Spn.mem (List.mem_map.mpr ⟨i, List.mem_range.mpr hi, rfl⟩))
      rw [hE.lin_span this, if_pos hj]
    · rw [if_neg hi, if_neg hi]
  have hC0 : ∀ r ∈ C, ∀ k, m ≤ k → r k = 0 := fun r mr k hk => by
    obtain ⟨a, _, rfl⟩ := List.mem_map.mp mr
    exact if_neg (by omega)
  obtain ⟨X, hX, sX, lX⟩ := exists_red C m hC0
  -- each row of G is in the span of C, so of X; the places of G are places of X
  have sub : ∀ v, Spn (rows G) v → Spn (rows X) v := fun v k => (sX v).mp (Spn.trans hC ((sG v).mpr k))
  have pl : ∀ p, p ∈ G.map (·.1) → p ∈ X.map (·.1) := fun p q => by
    obtain ⟨a, ma, rfl⟩ := List.mem_map.mp q
    obtain ⟨b, mb, e⟩ := hG.places hX sub ma
    exact List.mem_map.mpr ⟨b, mb, e⟩
  have nd : (G.map (·.1)).Nodup := (List.pairwise_map.mpr hG.up).imp fun h => Nat.ne_of_lt h
  have := (List.subset_def.mpr fun {a} => pl a : G.map (·.1) ⊆ X.map (·.1))
  have l1 : (G.map (·.1)).length ≤ (X.map (·.1)).length := nd.length_le_of_subset this
  rw [List.length_map, List.length_map] at l1
  have : C.length = E.length := List.length_map _
  omega
end MA
namespace MI
open PySem PySem.Spec PyProof.Rows L2 Evl PW
open MA
/-! ### mirrors' own operations where nothing goes wrong -/
section
variable {α β γ ζ τ ρ : Type}
theorem only_of {r : Res α} {a : α} (h : r = .ok a) : r.only = .ok a := by rw [h]; rfl
theorem mapR_ok {f : ζ → Res β} {g : ζ → β} : ∀ {zs : List ζ}, (∀ z ∈ zs, f z = .ok (g z)) → mapR f zs = .ok (zs.map g)
  | [], _ => rfl
  | z :: zs, h => by
    show (f z).only.bind _ = _
    rw [only_of (h z (.head _)), Res.ok_bind, mapR_ok fun y m => h y (.tail _ m)]
    rfl
theorem mapR_fa {f : ζ → Res β} {R : ζ → β → Prop} : ∀ {zs : List ζ}, (∀ z ∈ zs, ∃ b, f z = .ok b ∧ R z b) → ∃ bs, mapR f zs = .ok bs ∧ Fa R zs bs
  | [], _ => ⟨[], rfl, .nil⟩
  | z :: zs, h => by
    obtain ⟨b, e, r⟩ := h z (.head _)
    obtain ⟨bs, e2, r2⟩ := mapR_fa (R := R) fun y m => h y (.tail _ m)
    refine ⟨b :: bs, ?_, .cons r r2⟩
    show (f z).only.bind _ = _
    rw [only_of e, Res.ok_bind, e2]
    rfl
theorem compR_ok {f : ζ → Res (Option β)} {g : ζ → Option β} : ∀ {zs : List ζ}, (∀ z ∈ zs, f z = .ok (g z)) → compR f zs = .ok (zs.filterMap g)
  | [], _ => rfl
  | z :: zs, h => by
    show (f z).only.bind _ = _
    rw [only_of (h z (.head _)), Res.ok_bind, compR_ok fun y m => h y (.tail _ m), Res.ok_bind, List.filterMap_cons]
    cases g z <;> rfl
theorem foldR_nat {body : Int → τ → Res τ} (I : Nat → τ → Prop) : ∀ (n k : Nat) (s : τ), I k s → (∀ j s, k ≤ j → j < k + n → I j s → ∃ s', body (j : Int) s = .ok s' ∧ I (j + 1) s') →
    ∃ s', foldR body ((List.range' k n).map fun (i : Nat) => (i : Int)) s = .ok s' ∧ I (k + n) s'
  | 0, k, s, h, _ => ⟨s, rfl, h⟩
  | n + 1, k, s, h, st => by
    obtain ⟨s1, e1, h1⟩ := st k s (Nat.le_refl _) (by omega) h
    obtain ⟨s2, e2, h2⟩ := foldR_nat I n (k + 1) s1 h1 fun j s a b => st j s (by omega) (by omega)
    refine ⟨s2, ?_, by rw [show k + (n + 1) = k + 1 + n by omega]; exact h2⟩
    rw [List.range'_succ, List.map_cons]
    show (body (k : Int) s).bind _ = _
    rw [e1, Res.ok_bind]
    exact e2
theorem rng_nat (n : Nat) : rng 0 (n : Int) = (List.range n).map fun (i : Nat) => (i : Int) := by
  unfold rng
  rw [show ((n : Int) - 0).toNat = n by omega]
  refine List.map_congr_left fun i _ => by omega
theorem foldR_rng {body : Int → τ → Res τ} {n : Nat} {s : τ} (I : Nat → τ → Prop) (h0 : I 0 s) (st : ∀ j s, j < n → I j s → ∃ s', body (j : Int) s = .ok s' ∧ I (j + 1) s') :
    ∃ s', foldR body (rng 0 (n : Int)) s = .ok s' ∧ I n s' := by
  rw [rng_nat, List.range_eq_range']
  obtain ⟨s', e, h⟩ := foldR_nat I n 0 s h0 fun j s _ b => st j s (by omega)
  exact ⟨s', e, by rw [Nat.zero_add] at h; exact h⟩
theorem foldR_list {body : ζ → τ → Res τ} (I : List ζ → τ → Prop) : ∀ (zs pre : List ζ) (s : τ), I pre s → (∀ pre z post s, pre ++ z :: post = pre ++ z :: post → I pre s → z ∈ zs → ∃ s', body z s = .ok s' ∧ I (pre ++ [z]) s') →
    ∃ s', foldR body zs s = .ok s' ∧ I (pre ++ zs) s'
  | [], pre, s, h, _ => ⟨s, rfl, by rw [List.append_nil]; exact h⟩
  | z :: zs, pre, s, h, st => by
    obtain ⟨s1, e1, h1⟩ := st pre z zs s rfl h (.head _)
    obtain ⟨s2, e2, h2⟩ := foldR_list I zs (pre ++ [z]) s1 h1 fun p y q s e i m => st p y q s e i (.tail _ m)
    refine ⟨s2, ?_, by rw [List.append_assoc] at h2; exact h2⟩
    show (body z s).bind _ = _
    rw [e1, Res.ok_bind]
    exact e2
theorem rngR_nat {n : Nat} (h : n ≤ 1000000) : rngR 0 (n : Int) = .ok (rng 0 n) := rngR_ok (by decide) (by decide) (by omega) (by omega)
theorem rngL_nat {n : Nat} (h : n ≤ 1000000) : rngL 0 (n : Int) = .ok (rng 0 n) := if_pos ⟨by decide, by decide, by omega, by omega, by omega⟩
theorem mem_rng {n : Nat} {z : Int} (h : z ∈ rng 0 (n : Int)) : ∃ i : Nat, z = i ∧ i < n := by
  rw [rng_nat] at h
  obtain ⟨i, m, rfl⟩ := List.mem_map.mp h
  exact ⟨i, rfl, List.mem_range.mp m⟩
theorem ix_nat {xs : List α} {i : Nat} (h : i < xs.length) : ix xs (i : Int) = .ok xs[i] := by
  have : atI xs (i : Int) = some xs[i] := by
    unfold atI
    rw [ixN_nat h]
    exact List.getElem?_eq_getElem h
  unfold ix
  rw [this]
/-- the whole of a list, place by place -/
theorem mapR_rng {f : Int → Res β} {n : Nat} {g : Nat → β} (h : ∀ i, i < n → f (i : Int) = .ok (g i)) : mapR f (rng 0 (n : Int)) = .ok ((List.range n).map g) := by
  rw [rng_nat]
  have : mapR f ((List.range n).map fun (i : Nat) => (i : Int)) = mapR (fun i : Nat => f (i : Int)) (List.range n) := by
    generalize List.range n = l
    induction l with
    | nil => rfl
    | cons x l ih =>
      show (f (x : Int)).only.bind _ = (f (x : Int)).only.bind _
      rw [ih]
  rw [this]
  exact mapR_ok fun i m => h i (List.mem_range.mp m)
end
/-! ### the divisor by Euclid's way -/
def ebody : Int → Int × Int → Res (Ctl (Int × Int) Int) := fun z4 st4 =>
    if (decide (st4.2 = (0 : Int))) = true then
    Res.ok (Ctl.bk (st4.1, st4.2))
  else
    (modR st4.1 st4.2).bind fun x7 =>
  Res.ok (Ctl.nx (st4.2, x7))
theorem ebody_0 {z a : Int} : ebody z (a, 0) = .ok (.bk (a, 0)) := rfl
theorem ebody_s {z a b : Int} (h : 0 < b) : ebody z (a, b) = .ok (.nx (b, a % b)) := by
  unfold ebody
  rw [if_neg (by simp; omega)]
  show (modR a b).bind _ = _
  rw [modR_ok h]
  rfl
theorem euclid : ∀ (k : Nat) (zs : List Int) (a b : Nat), b < 2 ^ k → 2 * k < zs.length → loopC ebody zs ((a : Int), (b : Int)) = .ok (.nx ((Nat.gcd a b : Nat), 0))
  | k, [], a, b, hb, hl => absurd hl (by simp)
  | k, z :: zs, a, b, hb, hl => by
    rcases Nat.eq_zero_or_pos b with rfl | hp
    · show (ebody z (a, 0)).bind _ = _
      rw [ebody_0, Nat.gcd_zero_right]
      rfl
    · show (ebody z (a, b)).bind _ = _
      rw [ebody_s (by omega), Res.ok_bind]
      show loopC ebody zs ((b : Int), (a : Int) % (b : Int)) = _
      rw [show (a : Int) % (b : Int) = ((a % b : Nat) : Int) from (Int.natCast_emod a b).symm]
      cases k with
      | zero => omega
      | succ k =>
        rcases Nat.eq_zero_or_pos (a % b) with h0 | h0
        · rw [h0]
          cases zs with
          | nil => simp at hl
          | cons y zs =>
            show (ebody y (b, 0)).bind _ = _
            rw [ebody_0]
            rw [Nat.gcd_comm a b, Nat.gcd_rec b a, h0, Nat.gcd_zero_left]
            rfl
        · cases zs with
          | nil => simp at hl
          | cons y zs =>
            show (ebody y ((b : Int), ((a % b : Nat) : Int))).bind _ = _
            rw [ebody_s (by omega), Res.ok_bind]
            show loopC ebody zs (((a % b : Nat) : Int), (b : Int) % ((a % b : Nat) : Int)) = _
            rw [show (b : Int) % ((a % b : Nat) : Int) = ((b % (a % b) : Nat) : Int) from (Int.natCast_emod b (a % b)).symm]
            have l1 := Nat.mod_lt b h0
            have l2 := Nat.mod_lt a hp
            have l3 : b % (a % b) + (a % b) ≤ b := by
              have := Nat.div_add_mod b (a % b)
              have h1 : 1 ≤ b / (a % b) := Nat.div_pos (by omega) h0
              have : (a % b) * 1 ≤ (a % b) * (b / (a % b)) := Nat.mul_le_mul_left _ h1
              omega
            have e2 : (2 : Nat) ^ (k + 1) = 2 ^ k * 2 := Nat.pow_succ _ _
            rw [euclid k zs (a % b) (b % (a % b)) (by omega) (by simp at hl; omega)]
            have g1 : Nat.gcd a b = Nat.gcd (a % b) b := by rw [Nat.gcd_comm a b, Nat.gcd_rec b a]
            have g2 : Nat.gcd (a % b) b = Nat.gcd (b % (a % b)) (a % b) := Nat.gcd_rec _ _
            rw [g1, g2, Nat.gcd_comm]
theorem euclid_all {a b : Int} (h : Sm b) : loopC ebody (rng 0 (1000000000 : Int)) ((absI a), (absI b)) = .ok (.nx (gcdI a b, 0)) := by
  have e : (rng 0 (1000000000 : Int)).length = 1000000000 := by
    unfold rng
    rw [List.length_map, List.length_range]
    rfl
  exact euclid 8900 _ a.natAbs b.natAbs h (by rw [e]; decide)
theorem Sm.of {z : Int} {k : Nat} (h : z.natAbs < 2 ^ k) (l : k ≤ 8900) : Sm z := Nat.lt_of_lt_of_le h (Nat.pow_le_pow_right (by decide) l)
theorem gcd_sm {a b : Int} (h0 : b ≠ 0) (h : Sm b) : Sm (gcdI a b) := by
  show (((Nat.gcd a.natAbs b.natAbs : Nat) : Int)).natAbs < _
  rw [Int.natAbs_natCast]
  exact Nat.lt_of_le_of_lt (Nat.gcd_le_right _ (by omega)) h
end MI
namespace MI
open PySem PySem.Spec PyProof.Rows L2 Evl PW
open L2 (start)
def topS (i : Nat) : Stmt := PySem.Challenge.pw_planeworth_k03_whole_a_solution_or_a_cla.main.body.getD i (.Pass ⟨0, 0, 0, 0⟩)
abbrev s_is_number : Stmt := topS 10
theorem sc_is_number : FnScope ["x", "a", "b"] ["x"] (defScope s_is_number) := ⟨rfl, rfl, rfl, by decide +kernel, rfl, by decide +kernel, by decide +kernel⟩
abbrev s_check_number : Stmt := topS 11
theorem sc_check_number : FnScope ["x"] ["x"] (defScope s_check_number) := ⟨rfl, rfl, rfl, by decide +kernel, rfl, by decide +kernel, by decide +kernel⟩
abbrev s_number : Stmt := topS 12
theorem sc_number : FnScope ["a", "b", "shared"] ["a", "b"] (defScope s_number) := ⟨rfl, rfl, rfl, by decide +kernel, rfl, by decide +kernel, by decide +kernel⟩
abbrev s_content : Stmt := topS 13
theorem sc_content : FnScope ["integers", "shared", "a"] ["integers"] (defScope s_content) := ⟨rfl, rfl, rfl, by decide +kernel, rfl, by decide +kernel, by decide +kernel⟩
abbrev s_primitive : Stmt := topS 14
theorem sc_primitive : FnScope ["integers", "shared", "a"] ["integers"] (defScope s_primitive) := ⟨rfl, rfl, rfl, by decide +kernel, rfl, by decide +kernel, by decide +kernel⟩
abbrev s_over_one_divisor : Stmt := topS 15
theorem sc_over_one_divisor : FnScope ["row", "divisor", "x"] ["row"] (defScope s_over_one_divisor) := ⟨rfl, rfl, rfl, by decide +kernel, rfl, by decide +kernel, by decide +kernel⟩
abbrev s_cleared : Stmt := topS 16
theorem sc_cleared : FnScope ["row", "integers", "_"] ["row"] (defScope s_cleared) := ⟨rfl, rfl, rfl, by decide +kernel, rfl, by decide +kernel, by decide +kernel⟩
abbrev s_is_number_row : Stmt := topS 20
theorem sc_is_number_row : FnScope ["width", "row", "x"] ["width", "row"] (defScope s_is_number_row) := ⟨rfl, rfl, rfl, by decide +kernel, rfl, by decide +kernel, by decide +kernel⟩
abbrev s_check_matrix : Stmt := topS 21
theorem sc_check_matrix : FnScope ["width", "rows", "row"] ["width", "rows"] (defScope s_check_matrix) := ⟨rfl, rfl, rfl, by decide +kernel, rfl, by decide +kernel, by decide +kernel⟩
abbrev s_unit_row : Stmt := topS 22
theorem sc_unit_row : FnScope ["width", "place", "k"] ["width", "place"] (defScope s_unit_row) := ⟨rfl, rfl, rfl, by decide +kernel, rfl, by decide +kernel, by decide +kernel⟩
abbrev s_first_row_with : Stmt := topS 23
theorem sc_first_row_with : FnScope ["rows", "place", "at", "row"] ["rows", "place"] (defScope s_first_row_with) := ⟨rfl, rfl, rfl, by decide +kernel, rfl, by decide +kernel, by decide +kernel⟩
abbrev s_struck : Stmt := topS 24
theorem sc_struck : FnScope ["row", "by", "place", "shared", "much", "less", "a", "b"] ["row", "by", "place"] (defScope s_struck) := ⟨rfl, rfl, rfl, by decide +kernel, rfl, by decide +kernel, by decide +kernel⟩
abbrev s_whole_echelon : Stmt := topS 25
theorem sc_whole_echelon : FnScope ["width", "rows", "done", "left", "row", "place", "at", "by", "pivot", "k"] ["width", "rows"] (defScope s_whole_echelon) := ⟨rfl, rfl, rfl, by decide +kernel, rfl, by decide +kernel, by decide +kernel⟩
abbrev s_solution_from : Stmt := topS 26
theorem sc_solution_from : FnScope ["width", "found", "row", "pivot", "line"] ["width", "found"] (defScope s_solution_from) := ⟨rfl, rfl, rfl, by decide +kernel, rfl, by decide +kernel, by decide +kernel⟩
abbrev s_solution_or_none : Stmt := topS 27
theorem sc_solution_or_none : FnScope ["width", "rows", "wanted", "longer", "row", "x"] ["width", "rows", "wanted"] (defScope s_solution_or_none) := ⟨rfl, rfl, rfl, by decide +kernel, rfl, by decide +kernel, by decide +kernel⟩
abbrev s_columns_of : Stmt := topS 28
theorem sc_columns_of : FnScope ["width", "rows", "row", "place"] ["width", "rows"] (defScope s_columns_of) := ⟨rfl, rfl, rfl, by decide +kernel, rfl, by decide +kernel, by decide +kernel⟩
abbrev s_check_wanted : Stmt := topS 29
theorem sc_check_wanted : FnScope ["rows", "wanted"] ["rows", "wanted"] (defScope s_check_wanted) := ⟨rfl, rfl, rfl, by decide +kernel, rfl, by decide +kernel, by decide +kernel⟩
abbrev s_solution : Stmt := topS 30
theorem sc_solution : FnScope ["width", "rows", "wanted", "found"] ["width", "rows", "wanted"] (defScope s_solution) := ⟨rfl, rfl, rfl, by decide +kernel, rfl, by decide +kernel, by decide +kernel⟩
abbrev s_clash : Stmt := topS 31
theorem sc_clash : FnScope ["width", "rows", "wanted", "lines", "found"] ["width", "rows", "wanted"] (defScope s_clash) := ⟨rfl, rfl, rfl, by decide +kernel, rfl, by decide +kernel, by decide +kernel⟩
abbrev s__law_number : Stmt := topS 33
theorem sc__law_number : FnScope ["cell"] ["cell"] (defScope s__law_number) := ⟨rfl, rfl, rfl, by decide +kernel, rfl, by decide +kernel, by decide +kernel⟩
abbrev s__law_draws : Stmt := topS 34
theorem sc__law_draws : FnScope ["script", "draws", "cell", "rest", "k", "once", "twice"] ["script"] (defScope s__law_draws) := ⟨rfl, rfl, rfl, by decide +kernel, rfl, by decide +kernel, by decide +kernel⟩
abbrev s__law_next : Stmt := topS 35
theorem sc__law_next : FnScope ["draws"] ["draws"] (defScope s__law_next) := ⟨rfl, rfl, rfl, by decide +kernel, rfl, by decide +kernel, by decide +kernel⟩
abbrev s__law_divisor : Stmt := topS 36
theorem sc__law_divisor : FnScope ["a", "b", "one", "other", "j"] ["a", "b"] (defScope s__law_divisor) := ⟨rfl, rfl, rfl, by decide +kernel, rfl, by decide +kernel, by decide +kernel⟩
abbrev s__law_lowest : Stmt := topS 37
theorem sc__law_lowest : FnScope ["a", "b", "common"] ["a", "b"] (defScope s__law_lowest) := ⟨rfl, rfl, rfl, by decide +kernel, rfl, by decide +kernel, by decide +kernel⟩
abbrev s__law_plus : Stmt := topS 38
theorem sc__law_plus : FnScope ["x", "y"] ["x", "y"] (defScope s__law_plus) := ⟨rfl, rfl, rfl, by decide +kernel, rfl, by decide +kernel, by decide +kernel⟩
abbrev s__law_times : Stmt := topS 39
theorem sc__law_times : FnScope ["x", "y"] ["x", "y"] (defScope s__law_times) := ⟨rfl, rfl, rfl, by decide +kernel, rfl, by decide +kernel, by decide +kernel⟩
abbrev s__law_less : Stmt := topS 40
theorem sc__law_less : FnScope ["x", "y"] ["x", "y"] (defScope s__law_less) := ⟨rfl, rfl, rfl, by decide +kernel, rfl, by decide +kernel, by decide +kernel⟩
abbrev s__law_dot : Stmt := topS 41
theorem sc__law_dot : FnScope ["one", "other", "total", "at"] ["one", "other"] (defScope s__law_dot) := ⟨rfl, rfl, rfl, by decide +kernel, rfl, by decide +kernel, by decide +kernel⟩
abbrev s__law_fraction : Stmt := topS 42
theorem sc__law_fraction : FnScope ["draws"] ["draws"] (defScope s__law_fraction) := ⟨rfl, rfl, rfl, by decide +kernel, rfl, by decide +kernel, by decide +kernel⟩
abbrev s__law_matrix : Stmt := topS 43
theorem sc__law_matrix : FnScope ["draws", "many", "width", "rows", "at", "kind", "one", "other", "x", "j"] ["draws", "many", "width"] (defScope s__law_matrix) := ⟨rfl, rfl, rfl, by decide +kernel, rfl, by decide +kernel, by decide +kernel⟩
abbrev s__law_over : Stmt := topS 44
theorem sc__law_over : FnScope ["x", "y"] ["x", "y"] (defScope s__law_over) := ⟨rfl, rfl, rfl, by decide +kernel, rfl, by decide +kernel, by decide +kernel⟩
abbrev s__law_echelon : Stmt := topS 45
theorem sc__law_echelon : FnScope ["width", "rows", "left", "row", "done", "column", "here", "at", "lead", "x"] ["width", "rows"] (defScope s__law_echelon) := ⟨rfl, rfl, rfl, by decide +kernel, rfl, by decide +kernel, by decide +kernel⟩
abbrev s__law_taken : Stmt := topS 46
theorem sc__law_taken : FnScope ["row", "lead", "column", "j"] ["row", "lead", "column"] (defScope s__law_taken) := ⟨rfl, rfl, rfl, by decide +kernel, rfl, by decide +kernel, by decide +kernel⟩
abbrev s__law_pivots : Stmt := topS 47
theorem sc__law_pivots : FnScope ["rows", "found", "row", "at"] ["rows"] (defScope s__law_pivots) := ⟨rfl, rfl, rfl, by decide +kernel, rfl, by decide +kernel, by decide +kernel⟩
abbrev s__law_told : Stmt := topS 48
theorem sc__law_told : FnScope ["way", "width", "rows", "wanted", "error"] ["way", "width", "rows", "wanted"] (defScope s__law_told) := ⟨rfl, rfl, rfl, by decide +kernel, rfl, by decide +kernel, by decide +kernel⟩
abbrev s__law_wanted : Stmt := topS 49
theorem sc__law_wanted : FnScope ["draws", "width", "rows", "x", "j", "wanted", "row", "kind", "at"] ["draws", "width", "rows"] (defScope s__law_wanted) := ⟨rfl, rfl, rfl, by decide +kernel, rfl, by decide +kernel, by decide +kernel⟩
abbrev s__law_solves : Stmt := topS 50
theorem sc__law_solves : FnScope ["width", "rows", "wanted", "x", "row", "pivots", "at"] ["width", "rows", "wanted", "x"] (defScope s__law_solves) := ⟨rfl, rfl, rfl, by decide +kernel, rfl, by decide +kernel, by decide +kernel⟩
abbrev s__law_clashes : Stmt := topS 51
theorem sc__law_clashes : FnScope ["width", "rows", "wanted", "y", "columns", "row", "at", "zeros"] ["width", "rows", "wanted", "y"] (defScope s__law_clashes) := ⟨rfl, rfl, rfl, by decide +kernel, rfl, by decide +kernel, by decide +kernel⟩
abbrev s_law : Stmt := topS 52
theorem sc_law : FnScope ["script", "draws", "width", "rows", "wanted", "kept", "x", "y", "at", "bad", "way"] ["script"] (defScope s_law) := ⟨rfl, rfl, rfl, by decide +kernel, rfl, by decide +kernel, by decide +kernel⟩
structure Txt (K : PySem.W.Frag) (w : World) (mg : Str → Option Value) (ad : Nat → Addr) (fd : Nat → FuncData) : Prop where
  f_is_number : Fun K "is_number" "is_number" s_is_number (ad 10) (fd 10)
  g_is_number : mg "is_number" = some (.ref (ad 10))
  f_check_number : Fun K "check_number" "check_number" s_check_number (ad 11) (fd 11)
  g_check_number : mg "check_number" = some (.ref (ad 11))
  f_number : FunD K "number" "number" (defArgs s_number) (defBody s_number) (defScope s_number) [.int 1] [] (ad 12) (fd 12)
  g_number : mg "number" = some (.ref (ad 12))
  f_content : Fun K "content" "content" s_content (ad 13) (fd 13)
  g_content : mg "content" = some (.ref (ad 13))
  f_primitive : Fun K "primitive" "primitive" s_primitive (ad 14) (fd 14)
  g_primitive : mg "primitive" = some (.ref (ad 14))
  f_over_one_divisor : Fun K "over_one_divisor" "over_one_divisor" s_over_one_divisor (ad 15) (fd 15)
  g_over_one_divisor : mg "over_one_divisor" = some (.ref (ad 15))
  f_cleared : Fun K "cleared" "cleared" s_cleared (ad 16) (fd 16)
  g_cleared : mg "cleared" = some (.ref (ad 16))
  f_is_number_row : Fun K "is_number_row" "is_number_row" s_is_number_row (ad 20) (fd 20)
  g_is_number_row : mg "is_number_row" = some (.ref (ad 20))
  f_check_matrix : Fun K "check_matrix" "check_matrix" s_check_matrix (ad 21) (fd 21)
  g_check_matrix : mg "check_matrix" = some (.ref (ad 21))
  f_unit_row : Fun K "unit_row" "unit_row" s_unit_row (ad 22) (fd 22)
  g_unit_row : mg "unit_row" = some (.ref (ad 22))
  f_first_row_with : Fun K "first_row_with" "first_row_with" s_first_row_with (ad 23) (fd 23)
  g_first_row_with : mg "first_row_with" = some (.ref (ad 23))
  f_struck : Fun K "struck" "struck" s_struck (ad 24) (fd 24)
  g_struck : mg "struck" = some (.ref (ad 24))
  f_whole_echelon : Fun K "whole_echelon" "whole_echelon" s_whole_echelon (ad 25) (fd 25)
  g_whole_echelon : mg "whole_echelon" = some (.ref (ad 25))
  f_solution_from : Fun K "solution_from" "solution_from" s_solution_from (ad 26) (fd 26)
  g_solution_from : mg "solution_from" = some (.ref (ad 26))
  f_solution_or_none : Fun K "solution_or_none" "solution_or_none" s_solution_or_none (ad 27) (fd 27)
  g_solution_or_none : mg "solution_or_none" = some (.ref (ad 27))
  f_columns_of : Fun K "columns_of" "columns_of" s_columns_of (ad 28) (fd 28)
  g_columns_of : mg "columns_of" = some (.ref (ad 28))
  f_check_wanted : Fun K "check_wanted" "check_wanted" s_check_wanted (ad 29) (fd 29)
  g_check_wanted : mg "check_wanted" = some (.ref (ad 29))
  f_solution : Fun K "solution" "solution" s_solution (ad 30) (fd 30)
  g_solution : mg "solution" = some (.ref (ad 30))
  f_clash : Fun K "clash" "clash" s_clash (ad 31) (fd 31)
  g_clash : mg "clash" = some (.ref (ad 31))
  f__law_number : Fun K "_law_number" "_law_number" s__law_number (ad 33) (fd 33)
  g__law_number : mg "_law_number" = some (.ref (ad 33))
  f__law_draws : Fun K "_law_draws" "_law_draws" s__law_draws (ad 34) (fd 34)
  g__law_draws : mg "_law_draws" = some (.ref (ad 34))
  f__law_next : Fun K "_law_next" "_law_next" s__law_next (ad 35) (fd 35)
  g__law_next : mg "_law_next" = some (.ref (ad 35))
  f__law_divisor : Fun K "_law_divisor" "_law_divisor" s__law_divisor (ad 36) (fd 36)
  g__law_divisor : mg "_law_divisor" = some (.ref (ad 36))
  f__law_lowest : Fun K "_law_lowest" "_law_lowest" s__law_lowest (ad 37) (fd 37)
  g__law_lowest : mg "_law_lowest" = some (.ref (ad 37))
  f__law_plus : Fun K "_law_plus" "_law_plus" s__law_plus (ad 38) (fd 38)
  g__law_plus : mg "_law_plus" = some (.ref (ad 38))
  f__law_times : Fun K "_law_times" "_law_times" s__law_times (ad 39) (fd 39)
  g__law_times : mg "_law_times" = some (.ref (ad 39))
  f__law_less : Fun K "_law_less" "_law_less" s__law_less (ad 40) (fd 40)
  g__law_less : mg "_law_less" = some (.ref (ad 40))
  f__law_dot : Fun K "_law_dot" "_law_dot" s__law_dot (ad 41) (fd 41)
  g__law_dot : mg "_law_dot" = some (.ref (ad 41))
  f__law_fraction : Fun K "_law_fraction" "_law_fraction" s__law_fraction (ad 42) (fd 42)
  g__law_fraction : mg "_law_fraction" = some (.ref (ad 42))
  f__law_matrix : Fun K "_law_matrix" "_law_matrix" s__law_matrix (ad 43) (fd 43)
  g__law_matrix : mg "_law_matrix" = some (.ref (ad 43))
  f__law_over : Fun K "_law_over" "_law_over" s__law_over (ad 44) (fd 44)
  g__law_over : mg "_law_over" = some (.ref (ad 44))
  f__law_echelon : Fun K "_law_echelon" "_law_echelon" s__law_echelon (ad 45) (fd 45)
  g__law_echelon : mg "_law_echelon" = some (.ref (ad 45))
  f__law_taken : Fun K "_law_taken" "_law_taken" s__law_taken (ad 46) (fd 46)
  g__law_taken : mg "_law_taken" = some (.ref (ad 46))
  f__law_pivots : Fun K "_law_pivots" "_law_pivots" s__law_pivots (ad 47) (fd 47)
  g__law_pivots : mg "_law_pivots" = some (.ref (ad 47))
  f__law_told : Fun K "_law_told" "_law_told" s__law_told (ad 48) (fd 48)
  g__law_told : mg "_law_told" = some (.ref (ad 48))
  f__law_wanted : Fun K "_law_wanted" "_law_wanted" s__law_wanted (ad 49) (fd 49)
  g__law_wanted : mg "_law_wanted" = some (.ref (ad 49))
  f__law_solves : Fun K "_law_solves" "_law_solves" s__law_solves (ad 50) (fd 50)
  g__law_solves : mg "_law_solves" = some (.ref (ad 50))
  f__law_clashes : Fun K "_law_clashes" "_law_clashes" s__law_clashes (ad 51) (fd 51)
  g__law_clashes : mg "_law_clashes" = some (.ref (ad 51))
  f_law : Fun K "law" "law" s_law (ad 52) (fd 52)
  g_law : mg "law" = some (.ref (ad 52))
  v_MOST_WIDTH : ∃ u, mg "MOST_WIDTH" = some (.int 64 u)
  v_MOST_ROWS : ∃ u, mg "MOST_ROWS" = some (.int 64 u)
  m_tuple : mg "tuple" = none
  m_isinstance : mg "isinstance" = none
  m_all : mg "all" = none
  m_len : mg "len" = none
  m_range : mg "range" = none
  m_enumerate : mg "enumerate" = none
  m_zip : mg "zip" = none
  m_int : mg "int" = none
  m_abs : mg "abs" = none
  m_list : mg "list" = none
  m_str : mg "str" = none
  g_gcd : mg "gcd" = some (.builtin "math.gcd")
  g_lcm : mg "lcm" = some (.builtin "math.lcm")
  g_PlaneError : mg "PlaneError" = some (.ref (ad 2))
  g_NotNumber : mg "NotNumber" = some (.ref (ad 3))
  x_NotNumber : PySem.W.excIn K (ad 3) [.type "ValueError", .type "Exception", .type "BaseException", .type "object"] "ValueError.__new__" = true
  k_NotNumber : PySem.W.keepIn K (.ref (ad 3)) = true
  s_NotNumber : PySem.W.subIn K (.ref (ad 3)) (.type "BaseException") = some true
  t_NotNumber : PySem.W.typeIn K (.ref (ad 3)) = some (.type "type")
  g_NotMatrix : mg "NotMatrix" = some (.ref (ad 4))
  x_NotMatrix : PySem.W.excIn K (ad 4) [.type "ValueError", .type "Exception", .type "BaseException", .type "object"] "ValueError.__new__" = true
  k_NotMatrix : PySem.W.keepIn K (.ref (ad 4)) = true
  s_NotMatrix : PySem.W.subIn K (.ref (ad 4)) (.type "BaseException") = some true
  t_NotMatrix : PySem.W.typeIn K (.ref (ad 4)) = some (.type "type")
  g_BadNumber : mg "BadNumber" = some (.ref (ad 5))
  x_BadNumber : PySem.W.excIn K (ad 5) [.type "ValueError", .type "Exception", .type "BaseException", .type "object"] "ValueError.__new__" = true
  k_BadNumber : PySem.W.keepIn K (.ref (ad 5)) = true
  s_BadNumber : PySem.W.subIn K (.ref (ad 5)) (.type "BaseException") = some true
  t_BadNumber : PySem.W.typeIn K (.ref (ad 5)) = some (.type "type")
  g_NoAnswer : mg "NoAnswer" = some (.ref (ad 6))
  x_NoAnswer : PySem.W.excIn K (ad 6) [.type "ValueError", .type "Exception", .type "BaseException", .type "object"] "ValueError.__new__" = true
  k_NoAnswer : PySem.W.keepIn K (.ref (ad 6)) = true
  s_NoAnswer : PySem.W.subIn K (.ref (ad 6)) (.type "BaseException") = some true
  t_NoAnswer : PySem.W.typeIn K (.ref (ad 6)) = some (.type "type")
  e_BadNumber_PlaneError : PySem.W.exmOne K (.ref (ad 5)) (.ref (ad 2)) = some true
  e_NoAnswer_PlaneError : PySem.W.exmOne K (.ref (ad 6)) (.ref (ad 2)) = some true
  e_NotMatrix_PlaneError : PySem.W.exmOne K (.ref (ad 4)) (.ref (ad 2)) = some true
  e_NotNumber_PlaneError : PySem.W.exmOne K (.ref (ad 3)) (.ref (ad 2)) = some true
  c_BadNumber : ExcC K (ad 5)
  c_NoAnswer : ExcC K (ad 6)
  c_NotMatrix : ExcC K (ad 4)
  c_NotNumber : ExcC K (ad 3)
  i_BadNumber_NoAnswer : PySem.W.kitOne K (.ref (ad 5)) (.ref (ad 6)) = some false
  i_BadNumber_NotMatrix : PySem.W.kitOne K (.ref (ad 5)) (.ref (ad 4)) = some false
  i_NoAnswer_NoAnswer : PySem.W.kitOne K (.ref (ad 6)) (.ref (ad 6)) = some true
  i_NoAnswer_NotMatrix : PySem.W.kitOne K (.ref (ad 6)) (.ref (ad 4)) = some false
  i_NotMatrix_NoAnswer : PySem.W.kitOne K (.ref (ad 4)) (.ref (ad 6)) = some false
  i_NotMatrix_NotMatrix : PySem.W.kitOne K (.ref (ad 4)) (.ref (ad 4)) = some true
  i_NotNumber_NoAnswer : PySem.W.kitOne K (.ref (ad 3)) (.ref (ad 6)) = some false
  i_NotNumber_NotMatrix : PySem.W.kitOne K (.ref (ad 3)) (.ref (ad 4)) = some false
  v_ZERO : ∃ a, mg "ZERO" = some (.ref a) ∧ ∀ {F : Hp}, Rep K F (.ref a) ((eP D.int D.int) ((0 : Int), (1 : Int)))
  v_ONE : ∃ a, mg "ONE" = some (.ref a) ∧ ∀ {F : Hp}, Rep K F (.ref a) ((eP D.int D.int) ((1 : Int), (1 : Int)))
def ecl (ad : Nat → Addr) : Exn → Addr
  | .NotNumber => ad 3
  | .NotMatrix => ad 4
  | .BadNumber => ad 5
  | .NoAnswer => ad 6
  | _ => 0
def live_PlaneError : Exn → Bool
  | .BadNumber => true
  | .NoAnswer => true
  | .NotMatrix => true
  | .NotNumber => true
  | _ => false
theorem exm_PlaneError {K : PySem.W.Frag} {w : World} {mg : Str → Option Value} {ad : Nat → Addr} {fd : Nat → FuncData} (T : Txt K w mg ad fd) : ∀ e, live_PlaneError e = true → PySem.W.exmOne K (.ref (ecl ad e)) (.ref (ad 2)) = some true := by
  intro e h
  cases e <;> first | exact absurd h Bool.false_ne_true | exact T.e_BadNumber_PlaneError | exact T.e_NoAnswer_PlaneError | exact T.e_NotMatrix_PlaneError | exact T.e_NotNumber_PlaneError
theorem excc {K : PySem.W.Frag} {w : World} {mg : Str → Option Value} {ad : Nat → Addr} {fd : Nat → FuncData} (T : Txt K w mg ad fd) : ∀ e, live_PlaneError e = true → ExcC K (ecl ad e) := by
  intro e h
  cases e <;> first | exact absurd h Bool.false_ne_true | exact T.c_BadNumber | exact T.c_NoAnswer | exact T.c_NotMatrix | exact T.c_NotNumber
def is_NoAnswer : Exn → Bool
  | .NoAnswer => true
  | _ => false
theorem kit_NoAnswer {K : PySem.W.Frag} {w : World} {mg : Str → Option Value} {ad : Nat → Addr} {fd : Nat → FuncData} (T : Txt K w mg ad fd) : ∀ e, live_PlaneError e = true → PySem.W.kitOne K (.ref (ecl ad e)) (.ref (ad 6)) = some (is_NoAnswer e) := by
  intro e h
  cases e <;> first | exact absurd h Bool.false_ne_true | exact T.i_BadNumber_NoAnswer | exact T.i_NoAnswer_NoAnswer | exact T.i_NotMatrix_NoAnswer | exact T.i_NotNumber_NoAnswer
def is_NotMatrix : Exn → Bool
  | .NotMatrix => true
  | _ => false
theorem kit_NotMatrix {K : PySem.W.Frag} {w : World} {mg : Str → Option Value} {ad : Nat → Addr} {fd : Nat → FuncData} (T : Txt K w mg ad fd) : ∀ e, live_PlaneError e = true → PySem.W.kitOne K (.ref (ecl ad e)) (.ref (ad 4)) = some (is_NotMatrix e) := by
  intro e h
  cases e <;> first | exact absurd h Bool.false_ne_true | exact T.i_BadNumber_NotMatrix | exact T.i_NoAnswer_NotMatrix | exact T.i_NotMatrix_NotMatrix | exact T.i_NotNumber_NotMatrix
section
variable {P : Program} {w : World} {K : PySem.W.Frag} {mg : Str → Option Value} {base : Heap} {ad : Nat → Addr} {fd : Nat → FuncData}
@[irreducible] def m_is_number (x_ : (Int × Int)) : Res Bool :=
  Res.ok ((decide ((1 : Int) ≤ x_.2)) && (decide ((gcdI x_.1 x_.2) = (1 : Int))))
abbrev sp_is_number (K : PySem.W.Frag) (ad : Nat → Addr) : Sp := SpP (π := (Int × Int)) K (ecl ad) (fun x => [(eP D.int D.int) x]) (fun x => m_is_number x) (fun y => .val (D.bl y))
theorem ok_is_number (T : Txt K w mg ad fd) : Cm P w K mg base 1 (ad 10) (fd 10) ["x"] (sp_is_number K ad) := by
  refine ⟨T.f_is_number.okG sc_is_number (fun vs H Q E h => ?_) (fun cdv A outer sh H0 vs Q E gd hr h => ?_), T.f_is_number.binds (ps := ["x"]) fun _ _ _ _ _ _ us hl => match us, hl with | [_], _ => rfl⟩
  · obtain ⟨F, x, _, r, _⟩ := h
    exact r.length
  · obtain ⟨F0, x_, fh0, r0, hm⟩ := h
    have hu := hr.units
    have r0 : Reps K F0 vs [(eP D.int D.int) x_] := r0
    have c0 : Ctx K ⟨F0, H0, none⟩ F0 H0 (start ["x", "a", "b"] vs) [.val ((eP D.int D.int) x_), .un, .un] := ctx_start fh0 r0 rfl (by show (1 : Nat) ≤ 3; decide)
    have s := Fin.sct (K := K) (B := ⟨F0, H0, none⟩) (n := 3) (cl := ecl ad) (rt := fun y => .val (D.bl y)) (out := fun _ : Bool => []) (Q := Q) (E := E)
    refine ⟨_, (pss_cons (ps_asg (pv 0) (pg_tup (n := 2) rfl (pgs_cons (pg_name (i := 1) sc_is_number.nd rfl (by first | exact Or.inl rfl | exact Or.inr rfl)) (pgs_cons (pg_name (i := 2) sc_is_number.nd rfl (by first | exact Or.inl rfl | exact Or.inr rfl)) pgs_nil))))
    (pss_one (ps_ret (pe_and (pe_cmpR op_ge (pv 2) pe_int (nomark _)) (pe_one (pe_cmpR op_eq (pe_callBfun cr_gcd rfl T.g_gcd (pa_cons (pv 1) (pa_cons (pv 2) pa_nil))) pe_int (nomark _))))))), ?_⟩
    generalize start _ _ = σ at c0 ⊢
    try dsimp only [tAsg, tRet, tRetN, tOp, tUn, tTest, tB, tCons, tNil, tCB, tC, tNext, tCallS, tDrop, tNot, tNotV, tSl, tNoPart, tPart, tBM, tBM0, iList, iTup, iStr, iSrc, iRng1, iRng2, iEnumS, iZipS, tBreak, tCont, gSub, tAug, tMth, tMakeS, tM1, tM0, tFld, cxOf]
    try dsimp only at hm
    unfold m_is_number at hm
    refine w_seq ?_
    try try dsimp only [tAsg, tRet, tRetN, tOp, tUn, tTest, tB, tCons, tNil, tCB, tC, tNext, tCallS, tDrop, tNot, tNotV, tSl, tNoPart, tPart, tBM, tBM0, iList, iTup, iStr, iSrc, iRng1, iRng2, iEnumS, iZipS, tBreak, tCont, gSub, tAug, tMth, tMakeS, tM1, tM0, tFld, cxOf]
    refine s_var c0 (i := 0) rfl fun v1 r2 => ?_
    refine s_gP2 (d1 := D.int x_.1) (d2 := D.int x_.2) (ss' := [.val ((eP D.int D.int) x_), .val (D.int x_.1), .val (D.int x_.2)]) c0 (.inl (by decide)) (.inl (by decide)) (show Rep K _ _ ((eP D.int D.int) x_) from r2) rfl fun σ c3 => ?_
    try try dsimp only [tAsg, tRet, tRetN, tOp, tUn, tTest, tB, tCons, tNil, tCB, tC, tNext, tCallS, tDrop, tNot, tNotV, tSl, tNoPart, tPart, tBM, tBM0, iList, iTup, iStr, iSrc, iRng1, iRng2, iEnumS, iZipS, tBreak, tCont, gSub, tAug, tMth, tMakeS, tM1, tM0, tFld, cxOf]
    refine s_andVP (x := (decide ((1 : Int) ≤ x_.2))) (y := (decide ((gcdI x_.1 x_.2) = (1 : Int)))) (fun Q' hQ => ?_) (fun Q' hQ => ?_) ?_
    ·
      try dsimp only [tAsg, tRet, tRetN, tOp, tUn, tTest, tB, tCons, tNil, tCB, tC, tNext, tCallS, tDrop, tNot, tNotV, tSl, tNoPart, tPart, tBM, tBM0, iList, iTup, iStr, iSrc, iRng1, iRng2, iEnumS, iZipS, tBreak, tCont, gSub, tAug, tMth, tMakeS, tM1, tM0, tFld, cxOf]
      refine s_varI c3 (i := 2) rfl ?_
      refine s_i0 ?_
      exact hQ
    ·
      try dsimp only [tAsg, tRet, tRetN, tOp, tUn, tTest, tB, tCons, tNil, tCB, tC, tNext, tCallS, tDrop, tNot, tNotV, tSl, tNoPart, tPart, tBM, tBM0, iList, iTup, iStr, iSrc, iRng1, iRng2, iEnumS, iZipS, tBreak, tCont, gSub, tAug, tMth, tMakeS, tM1, tM0, tFld, cxOf]
      refine s_varI c3 (i := 1) rfl ?_
      refine s_varI c3 (i := 2) rfl ?_
      refine s_gcd ?_
      refine s_eqI ?_
      exact hQ
    exact Fin.ret (d := D.bl ((decide ((1 : Int) ≤ x_.2)) && (decide ((gcdI x_.1 x_.2) = (1 : Int))))) hm c3 ((Rep.bl _)) rfl (.inl rfl)
@[irreducible] def m_check_number (x_ : (Int × Int)) : Res Unit :=
  (m_is_number x_).bind fun y3 =>
  if (!y3) = true then
    Res.exc .NotNumber
  else
    Res.ok ()
abbrev sp_check_number (K : PySem.W.Frag) (ad : Nat → Addr) : Sp := SpP (π := (Int × Int)) K (ecl ad) (fun x => [(eP D.int D.int) x]) (fun x => m_check_number x) (fun y => .val (eU y))
theorem ok_check_number (T : Txt K w mg ad fd) : Cm P w K mg base 2 (ad 11) (fd 11) ["x"] (sp_check_number K ad) := by
  refine ⟨T.f_check_number.okG sc_check_number (fun vs H Q E h => ?_) (fun cdv A outer sh H0 vs Q E gd hr h => ?_), T.f_check_number.binds (ps := ["x"]) fun _ _ _ _ _ _ us hl => match us, hl with | [_], _ => rfl⟩
  · obtain ⟨F, x, _, r, _⟩ := h
    exact r.length
  · obtain ⟨F0, x_, fh0, r0, hm⟩ := h
    have hu := hr.units
    have r0 : Reps K F0 vs [(eP D.int D.int) x_] := r0
    have c0 : Ctx K ⟨F0, H0, none⟩ F0 H0 (start ["x"] vs) [.val ((eP D.int D.int) x_)] := ctx_start fh0 r0 rfl (by show (1 : Nat) ≤ 1; decide)
    have s := Fin.sct (K := K) (B := ⟨F0, H0, none⟩) (n := 1) (cl := ecl ad) (rt := fun y => .val (eU y)) (out := fun _ : Unit => []) (Q := Q) (E := E)
    refine ⟨_, (pss_one (ps_if (pt_not (pt_val (pe_cm (ok_is_number T (P := P) (w := w) (base := base)) gd (hr.mono (by decide)) T.g_is_number T.f_is_number.kp (L2N.takes_of rfl rfl rfl rfl) (pa_cons (pv 0) pa_nil)))) (pss_one (L2N.ps_raise rfl (L2N.takes_of rfl rfl rfl rfl) (L2N.pmk_own PySem.F.excBase_ValueError T.x_NotNumber T.g_NotNumber T.k_NotNumber (raises_own T.s_NotNumber T.t_NotNumber) rfl))) pss_nil)), ?_⟩
    generalize start _ _ = σ at c0 ⊢
    try dsimp only [tAsg, tRet, tRetN, tOp, tUn, tTest, tB, tCons, tNil, tCB, tC, tNext, tCallS, tDrop, tNot, tNotV, tSl, tNoPart, tPart, tBM, tBM0, iList, iTup, iStr, iSrc, iRng1, iRng2, iEnumS, iZipS, tBreak, tCont, gSub, tAug, tMth, tMakeS, tM1, tM0, tFld, cxOf]
    try dsimp only at hm
    unfold m_check_number at hm
    refine w_ifS ?_
    try dsimp only [tAsg, tRet, tRetN, tOp, tUn, tTest, tB, tCons, tNil, tCB, tC, tNext, tCallS, tDrop, tNot, tNotV, tSl, tNoPart, tPart, tBM, tBM0, iList, iTup, iStr, iSrc, iRng1, iRng2, iEnumS, iZipS, tBreak, tCont, gSub, tAug, tMth, tMakeS, tM1, tM0, tFld, cxOf]
    refine s_var c0 (i := 0) rfl fun v1 r2 => ?_
    refine s_call (ps := (fun x : (Int × Int) => [(eP D.int D.int) x])) (m := (fun x => m_is_number x)) (x := (x_)) s hm c0 rfl (Reps.cons (show Rep K _ _ ((eP D.int D.int) x_) from r2) Reps.nil) fun y3 v3 F3 H3 hm3 e3 c3 r3 => ?_
    cases (show Rep K _ _ (D.bl y3) from r3)
    refine s_test' ?_
    refine s_ite hm3 (fun _ hm4 => ?_) (fun _ hm5 => ?_)
    ·
      try try dsimp only [tAsg, tRet, tRetN, tOp, tUn, tTest, tB, tCons, tNil, tCB, tC, tNext, tCallS, tDrop, tNot, tNotV, tSl, tNoPart, tPart, tBM, tBM0, iList, iTup, iStr, iSrc, iRng1, iRng2, iEnumS, iZipS, tBreak, tCont, gSub, tAug, tMth, tMakeS, tM1, tM0, tFld, cxOf]
      exact s.exc .NotNumber hm4 _ _ _ (c3.uns rfl)
    ·
      exact Fin.ret (d := eU ()) hm5 c3 (Rep.non) rfl (.inl rfl)
@[irreducible] def m_number (a : Int) (b : Int) : Res (Int × Int) :=
  if (decide (b = (0 : Int))) = true then
    Res.exc .BadNumber
  else
    (if (decide (b < (0 : Int))) = true then
    Res.ok (-(gcdI a b))
  else
    Res.ok (gcdI a b)).bind fun st4 =>
  (divR a st4).bind fun x5 =>
  (divR b st4).bind fun x8 =>
  Res.ok (x5, x8)
abbrev sp_number (K : PySem.W.Frag) (ad : Nat → Addr) : Sp := SpP (π := (Int × Int)) K (ecl ad) (fun x => [D.int x.1, D.int x.2]) (fun x => m_number x.1 x.2) (fun y => .val ((eP D.int D.int) y))
theorem ok_number (T : Txt K w mg ad fd) : Cm P w K mg base 1 (ad 12) (fd 12) ["a", "b"] (sp_number K ad) := by
  refine ⟨okGD T.f_number sc_number (fun vs H Q E h => ?_) (fun cdv A outer sh H0 vs Q E gd hr h => ?_), bindsF (ps := ["a", "b"]) T.f_number (by simp) fun Tq kV doc pm an cdv ct us its hu hi => by
    match us, hu, its, hi with
    | [_, _], _, [_], _ => exact ⟨_, rfl, rfl⟩⟩
  · obtain ⟨F, x, _, r, _⟩ := h
    exact r.length
  · obtain ⟨F0, ⟨a, b⟩, fh0, r0, hm⟩ := h
    have hu := hr.units
    have r0 : Reps K F0 vs [D.int a, D.int b] := r0
    have c0 : Ctx K ⟨F0, H0, none⟩ F0 H0 (start ["a", "b", "shared"] vs) [.val (D.int a), .val (D.int b), .un] := ctx_start fh0 r0 rfl (by show (2 : Nat) ≤ 3; decide)
    have s := Fin.sct (K := K) (B := ⟨F0, H0, none⟩) (n := 3) (cl := ecl ad) (rt := fun y => .val ((eP D.int D.int) y)) (out := fun _ : (Int × Int) => []) (Q := Q) (E := E)
    refine ⟨_, (pss_cons (ps_if (pt_cmpR op_eq (pv 1) pe_int (nomark _)) (pss_one (L2N.ps_raise rfl (L2N.takes_of rfl rfl rfl rfl) (L2N.pmk_own PySem.F.excBase_ValueError T.x_BadNumber T.g_BadNumber T.k_BadNumber (raises_own T.s_BadNumber T.t_BadNumber) rfl))) pss_nil)
    (pss_cons (ps_set (i := 2) sc_number.nd rfl (by first | exact Or.inl rfl | exact Or.inr rfl) (pe_callBfun cr_gcd rfl T.g_gcd (pa_cons (pv 0) (pa_cons (pv 1) pa_nil))))
    (pss_cons (ps_if (pt_cmpR op_lt (pv 1) pe_int (nomark _)) (pss_one (ps_set (i := 2) sc_number.nd rfl (by first | exact Or.inl rfl | exact Or.inr rfl) (pe_un un_neg (pv 2)))) pss_nil)
    (pss_one (ps_ret (pe_tup (pa_cons (pe_op op_fdivG (pv 0) (pv 2)) (pa_cons (pe_op op_fdivG (pv 1) (pv 2)) pa_nil)))))))), ?_⟩
    generalize start _ _ = σ at c0 ⊢
    try dsimp only [tAsg, tRet, tRetN, tOp, tUn, tTest, tB, tCons, tNil, tCB, tC, tNext, tCallS, tDrop, tNot, tNotV, tSl, tNoPart, tPart, tBM, tBM0, iList, iTup, iStr, iSrc, iRng1, iRng2, iEnumS, iZipS, tBreak, tCont, gSub, tAug, tMth, tMakeS, tM1, tM0, tFld, cxOf]
    try dsimp only at hm
    unfold m_number at hm
    refine w_seq ?_
    refine w_ifS ?_
    try dsimp only [tAsg, tRet, tRetN, tOp, tUn, tTest, tB, tCons, tNil, tCB, tC, tNext, tCallS, tDrop, tNot, tNotV, tSl, tNoPart, tPart, tBM, tBM0, iList, iTup, iStr, iSrc, iRng1, iRng2, iEnumS, iZipS, tBreak, tCont, gSub, tAug, tMth, tMakeS, tM1, tM0, tFld, cxOf]
    refine s_varI c0 (i := 1) rfl ?_
    refine s_eqI ?_
    refine s_test' ?_
    refine s_ite hm (fun _ hm1 => ?_) (fun _ hm2 => ?_)
    ·
      try try dsimp only [tAsg, tRet, tRetN, tOp, tUn, tTest, tB, tCons, tNil, tCB, tC, tNext, tCallS, tDrop, tNot, tNotV, tSl, tNoPart, tPart, tBM, tBM0, iList, iTup, iStr, iSrc, iRng1, iRng2, iEnumS, iZipS, tBreak, tCont, gSub, tAug, tMth, tMakeS, tM1, tM0, tFld, cxOf]
      exact s.exc .BadNumber hm1 _ _ _ (c0.uns rfl)
    ·
      refine w_seq ?_
      try try dsimp only [tAsg, tRet, tRetN, tOp, tUn, tTest, tB, tCons, tNil, tCB, tC, tNext, tCallS, tDrop, tNot, tNotV, tSl, tNoPart, tPart, tBM, tBM0, iList, iTup, iStr, iSrc, iRng1, iRng2, iEnumS, iZipS, tBreak, tCont, gSub, tAug, tMth, tMakeS, tM1, tM0, tFld, cxOf]
      refine s_varI c0 (i := 0) rfl ?_
      refine s_varI c0 (i := 1) rfl ?_
      refine s_gcd ?_
      refine s_set (i := 2) (d := D.int (gcdI a b)) (ss' := [.val (D.int a), .val (D.int b), .val (D.int (gcdI a b))]) c0 (.inl (by decide)) ((Rep.int _)) rfl fun σ c3 => ?_
      refine s_cutS (F := F0) (nx := fun st4 => [.val (D.int a), .val (D.int b), .val (D.int st4)]) s hm2 (fun st4 F4 H4 σ hm4 e4 c4 => ?_) (fun P4 N4 s4 h4 kn4 => ?_)
      ·
        try try dsimp only [tAsg, tRet, tRetN, tOp, tUn, tTest, tB, tCons, tNil, tCB, tC, tNext, tCallS, tDrop, tNot, tNotV, tSl, tNoPart, tPart, tBM, tBM0, iList, iTup, iStr, iSrc, iRng1, iRng2, iEnumS, iZipS, tBreak, tCont, gSub, tAug, tMth, tMakeS, tM1, tM0, tFld, cxOf]
        refine w_tup ?_
        try dsimp only [tAsg, tRet, tRetN, tOp, tUn, tTest, tB, tCons, tNil, tCB, tC, tNext, tCallS, tDrop, tNot, tNotV, tSl, tNoPart, tPart, tBM, tBM0, iList, iTup, iStr, iSrc, iRng1, iRng2, iEnumS, iZipS, tBreak, tCont, gSub, tAug, tMth, tMakeS, tM1, tM0, tFld, cxOf]
        refine s_varI c4 (i := 0) rfl ?_
        refine s_varI c4 (i := 2) rfl ?_
        refine s_fdiv' s hm4 fun x5 q7 hm6 => ?_
        refine s_varI c4 (i := 1) rfl ?_
        refine s_varI c4 (i := 2) rfl ?_
        refine s_fdiv' s hm6 fun x8 q10 hm9 => ?_
        refine n_tup c4 (Reps.cons (Rep.int _) (Reps.cons (Rep.int _) Reps.nil)) (by show (2 : Nat) ≤ sizeLine; decide) fun v11 F11 H11 e11 c11 r11 => ?_
        exact Fin.ret (d := (eP D.int D.int) (x5, x8)) hm9 c11 (r11) rfl (.inl rfl)
      ·
        refine w_ifS ?_
        try dsimp only [tAsg, tRet, tRetN, tOp, tUn, tTest, tB, tCons, tNil, tCB, tC, tNext, tCallS, tDrop, tNot, tNotV, tSl, tNoPart, tPart, tBM, tBM0, iList, iTup, iStr, iSrc, iRng1, iRng2, iEnumS, iZipS, tBreak, tCont, gSub, tAug, tMth, tMakeS, tM1, tM0, tFld, cxOf]
        refine s_varI c3 (i := 1) rfl ?_
        refine s_i0 ?_
        refine s_test' ?_
        refine s_ite h4 (fun _ hm12 => ?_) (fun _ hm13 => ?_)
        ·
          try try dsimp only [tAsg, tRet, tRetN, tOp, tUn, tTest, tB, tCons, tNil, tCB, tC, tNext, tCallS, tDrop, tNot, tNotV, tSl, tNoPart, tPart, tBM, tBM0, iList, iTup, iStr, iSrc, iRng1, iRng2, iEnumS, iZipS, tBreak, tCont, gSub, tAug, tMth, tMakeS, tM1, tM0, tFld, cxOf]
          refine s_varI c3 (i := 2) rfl ?_
          refine s_iU ?_
          refine s_set (i := 2) (d := D.int (-(gcdI a b))) (ss' := [.val (D.int a), .val (D.int b), .val (D.int (-(gcdI a b)))]) c3 (.inl (by decide)) ((Rep.int _)) rfl fun σ c14 => ?_
          exact kn4 (-(gcdI a b)) _ _ _ hm12 (Ex.refl _) c14
        ·
          exact kn4 (gcdI a b) _ _ _ hm13 (Ex.refl _) c3
@[irreducible] def m_content (integers : (List Int)) : Res Int :=
  (loopC (fun z5 st5 =>
    if (decide ((gcdI st5 z5) = (1 : Int))) = true then
    Res.ok (Ctl.rt (1 : Int))
  else
    Res.ok (Ctl.nx (gcdI st5 z5))) integers (0 : Int)).bind (Ctl.then (fun st5 =>
  Res.ok st5) (fun r => Res.ok r))
abbrev sp_content (K : PySem.W.Frag) (ad : Nat → Addr) : Sp := SpP (π := ((List Int) × Bool)) K (ecl ad) (fun x => [(eSq x.2 D.int) x.1]) (fun x => m_content x.1) (fun y => .val (D.int y))
theorem ok_content (T : Txt K w mg ad fd) : Cm P w K mg base 1 (ad 13) (fd 13) ["integers"] (sp_content K ad) := by
  refine ⟨T.f_content.okG sc_content (fun vs H Q E h => ?_) (fun cdv A outer sh H0 vs Q E gd hr h => ?_), T.f_content.binds (ps := ["integers"]) fun _ _ _ _ _ _ us hl => match us, hl with | [_], _ => rfl⟩
  · obtain ⟨F, x, _, r, _⟩ := h
    exact r.length
  · obtain ⟨F0, ⟨integers, fl_integers⟩, fh0, r0, hm⟩ := h
    have hu := hr.units
    have r0 : Reps K F0 vs [(eSq fl_integers D.int) integers] := r0
    have c0 : Ctx K ⟨F0, H0, none⟩ F0 H0 (start ["integers", "shared", "a"] vs) [.val ((eSq fl_integers D.int) integers), .un, .un] := ctx_start fh0 r0 rfl (by show (1 : Nat) ≤ 3; decide)
    have s := Fin.sct (K := K) (B := ⟨F0, H0, none⟩) (n := 3) (cl := ecl ad) (rt := fun y => .val (D.int y)) (out := fun _ : Int => []) (Q := Q) (E := E)
    refine ⟨_, (pss_cons (ps_set (i := 1) sc_content.nd rfl (by first | exact Or.inl rfl | exact Or.inr rfl) pe_int)
    (pss_cons (ps_for (by first | exact PassesOwn.never | exact passes_of rfl) rfl (pi_src (pv 0)) (pg_name (i := 2) sc_content.nd rfl (by first | exact Or.inl rfl | exact Or.inr rfl))
      (pss_cons (ps_set (i := 1) sc_content.nd rfl (by first | exact Or.inl rfl | exact Or.inr rfl) (pe_callBfun cr_gcd rfl T.g_gcd (pa_cons (pv 1) (pa_cons (pv 2) pa_nil))))
    (pss_one (ps_if (pt_cmpR op_eq (pv 1) pe_int (nomark _)) (pss_one (ps_ret pe_int)) pss_nil))))
    (pss_one (ps_ret (pv 1))))), ?_⟩
    generalize start _ _ = σ at c0 ⊢
    try dsimp only [tAsg, tRet, tRetN, tOp, tUn, tTest, tB, tCons, tNil, tCB, tC, tNext, tCallS, tDrop, tNot, tNotV, tSl, tNoPart, tPart, tBM, tBM0, iList, iTup, iStr, iSrc, iRng1, iRng2, iEnumS, iZipS, tBreak, tCont, gSub, tAug, tMth, tMakeS, tM1, tM0, tFld, cxOf]
    try dsimp only at hm
    unfold m_content at hm
    refine w_seq ?_
    try try dsimp only [tAsg, tRet, tRetN, tOp, tUn, tTest, tB, tCons, tNil, tCB, tC, tNext, tCallS, tDrop, tNot, tNotV, tSl, tNoPart, tPart, tBM, tBM0, iList, iTup, iStr, iSrc, iRng1, iRng2, iEnumS, iZipS, tBreak, tCont, gSub, tAug, tMth, tMakeS, tM1, tM0, tFld, cxOf]
    refine s_set (i := 1) (d := D.int (0 : Int)) (ss' := [.val ((eSq fl_integers D.int) integers), .val (D.int (0 : Int)), .un]) c0 (.inl (by decide)) ((Rep.int _)) rfl fun σ c1 => ?_
    refine w_seq ?_
    try try dsimp only [tAsg, tRet, tRetN, tOp, tUn, tTest, tB, tCons, tNil, tCB, tC, tNext, tCallS, tDrop, tNot, tNotV, tSl, tNoPart, tPart, tBM, tBM0, iList, iTup, iStr, iSrc, iRng1, iRng2, iEnumS, iZipS, tBreak, tCont, gSub, tAug, tMth, tMakeS, tM1, tM0, tFld, cxOf]
    refine w_for ?_
    try dsimp only [tAsg, tRet, tRetN, tOp, tUn, tTest, tB, tCons, tNil, tCB, tC, tNext, tCallS, tDrop, tNot, tNotV, tSl, tNoPart, tPart, tBM, tBM0, iList, iTup, iStr, iSrc, iRng1, iRng2, iEnumS, iZipS, tBreak, tCont, gSub, tAug, tMth, tMakeS, tM1, tM0, tFld, cxOf]
    refine s_var c1 (i := 0) rfl fun v2 r3 => ?_
    have sl4 := lenS (show Rep K _ _ ((eSq fl_integers D.int) integers) from r3)
    obtain ⟨S4, q4, w4, x4, it4⟩ := x_src c1 (show Rep K _ _ ((eSq fl_integers D.int) integers) from r3)
    refine ⟨S4, q4, w4, x4, ?_⟩
    refine s_forCP (vs := [2]) (nx := fun st5 => [.val ((eSq fl_integers D.int) integers), .val (D.int st5), .un]) (ss' := fun z5 st5 => [.val ((eSq fl_integers D.int) integers), .val (D.int st5), .val (D.int z5)]) (s0 := (0 : Int)) s hm c1 it4 (.inl (by decide)) (tg_name (by decide)) (fun _ _ => rfl) (fun z5 st5 F5 H5 σ P5 N5 s5 h5 zm5 e5 c5 kn5 kb5 kr5 => ?_) (fun st5 F5 H5 σ hm5 e5 c5 => ?_)
    ·
      refine w_seq ?_
      try try dsimp only [tAsg, tRet, tRetN, tOp, tUn, tTest, tB, tCons, tNil, tCB, tC, tNext, tCallS, tDrop, tNot, tNotV, tSl, tNoPart, tPart, tBM, tBM0, iList, iTup, iStr, iSrc, iRng1, iRng2, iEnumS, iZipS, tBreak, tCont, gSub, tAug, tMth, tMakeS, tM1, tM0, tFld, cxOf]
      refine s_varI c5 (i := 1) rfl ?_
      refine s_varI c5 (i := 2) rfl ?_
      refine s_gcd ?_
      refine s_set (i := 1) (d := D.int (gcdI st5 z5)) (ss' := [.val ((eSq fl_integers D.int) integers), .val (D.int (gcdI st5 z5)), .val (D.int z5)]) c5 (.inl (by decide)) ((Rep.int _)) rfl fun σ c6 => ?_
      refine w_ifS ?_
      try dsimp only [tAsg, tRet, tRetN, tOp, tUn, tTest, tB, tCons, tNil, tCB, tC, tNext, tCallS, tDrop, tNot, tNotV, tSl, tNoPart, tPart, tBM, tBM0, iList, iTup, iStr, iSrc, iRng1, iRng2, iEnumS, iZipS, tBreak, tCont, gSub, tAug, tMth, tMakeS, tM1, tM0, tFld, cxOf]
      refine s_varI c6 (i := 1) rfl ?_
      refine s_eqI ?_
      refine s_test' ?_
      refine s_ite h5 (fun _ hm7 => ?_) (fun _ hm8 => ?_)
      ·
        try try dsimp only [tAsg, tRet, tRetN, tOp, tUn, tTest, tB, tCons, tNil, tCB, tC, tNext, tCallS, tDrop, tNot, tNotV, tSl, tNoPart, tPart, tBM, tBM0, iList, iTup, iStr, iSrc, iRng1, iRng2, iEnumS, iZipS, tBreak, tCont, gSub, tAug, tMth, tMakeS, tM1, tM0, tFld, cxOf]
        have hm9 := kr5 _ hm7
        exact Fin.ret (d := D.int (1 : Int)) hm9 c6 ((Rep.int _)) rfl (.inl rfl)
      ·
        exact kn5 (gcdI st5 z5) _ _ _ hm8 (Ex.refl _) (c6.drop 2)
    ·
      have c10 := c5
      try try dsimp only [tAsg, tRet, tRetN, tOp, tUn, tTest, tB, tCons, tNil, tCB, tC, tNext, tCallS, tDrop, tNot, tNotV, tSl, tNoPart, tPart, tBM, tBM0, iList, iTup, iStr, iSrc, iRng1, iRng2, iEnumS, iZipS, tBreak, tCont, gSub, tAug, tMth, tMakeS, tM1, tM0, tFld, cxOf]
      refine s_varI c10 (i := 1) rfl ?_
      exact Fin.ret (d := D.int st5) hm5 c10 ((Rep.int _)) rfl (.inl rfl)
@[irreducible] def m_unit_row (width : Int) (place : Int) : Res (List (Int × Int)) :=
  (rngL 0 width).bind fun zs3 =>
  (mapR (fun z4 =>
    (if (decide (z4 = place)) = true then Res.ok ((1 : Int), (1 : Int)) else Res.ok ((0 : Int), (1 : Int))).bind fun y5 =>
  Res.ok y5) zs3).bind fun bs4 =>
  Res.ok bs4
abbrev sp_unit_row (K : PySem.W.Frag) (ad : Nat → Addr) : Sp := SpP (π := (Int × Int)) K (ecl ad) (fun x => [D.int x.1, D.int x.2]) (fun x => m_unit_row x.1 x.2) (fun y => .val ((eT (eP D.int D.int)) y))
theorem ok_unit_row (T : Txt K w mg ad fd) : Cm P w K mg base 1 (ad 22) (fd 22) ["width", "place"] (sp_unit_row K ad) := by
  refine ⟨T.f_unit_row.okG sc_unit_row (fun vs H Q E h => ?_) (fun cdv A outer sh H0 vs Q E gd hr h => ?_), T.f_unit_row.binds (ps := ["width", "place"]) fun _ _ _ _ _ _ us hl => match us, hl with | [_, _], _ => rfl⟩
  · obtain ⟨F, x, _, r, _⟩ := h
    exact r.length
  · obtain ⟨F0, ⟨width, place⟩, fh0, r0, hm⟩ := h
    have hu := hr.units
    have r0 : Reps K F0 vs [D.int width, D.int place] := r0
    have c0 : Ctx K ⟨F0, H0, none⟩ F0 H0 (start ["width", "place", "k"] vs) [.val (D.int width), .val (D.int place), .un] := ctx_start fh0 r0 rfl (by show (2 : Nat) ≤ 3; decide)
    have s := Fin.sct (K := K) (B := ⟨F0, H0, none⟩) (n := 3) (cl := ecl ad) (rt := fun y => .val ((eT (eP D.int D.int)) y)) (out := fun _ : (List (Int × Int)) => []) (Q := Q) (E := E)
    obtain ⟨t_ZERO, g_ZERO, rt_ZERO⟩ := T.v_ZERO
    obtain ⟨t_ONE, g_ONE, rt_ONE⟩ := T.v_ONE
    refine ⟨_, (pss_one (ps_ret (pe_callTy (T := "tuple") (c_tuple (K := K)) (by rfl) T.m_tuple (by decide +kernel) (pa_cons (pe_lc (own := [("k", 2)]) rfl sc_unit_row.nd (pi_range1 rfl T.m_range (pa_cons (pv 0) pa_nil)) (blkOk_by (N := ["width", "place", "k"]) (sc := defScope s_unit_row) (by decide +kernel)) (fun _ _ _ _ _ => (pg_name (i := 2) sc_unit_row.nd rfl (by first | exact Or.inl rfl | exact Or.inr rfl))) (fun _ _ _ _ _ => pts_nil) (fun _ _ _ _ _ => (pe_ifExp (pt_cmpR op_eq (pv 2) (pv 1) (nomark _)) (pe_globR (f := t_ONE) g_ONE) (pe_globR (f := t_ZERO) g_ZERO)))) pa_nil)))), ?_⟩
    generalize start _ _ = σ at c0 ⊢
    try dsimp only [tAsg, tRet, tRetN, tOp, tUn, tTest, tB, tCons, tNil, tCB, tC, tNext, tCallS, tDrop, tNot, tNotV, tSl, tNoPart, tPart, tBM, tBM0, iList, iTup, iStr, iSrc, iRng1, iRng2, iEnumS, iZipS, tBreak, tCont, gSub, tAug, tMth, tMakeS, tM1, tM0, tFld, cxOf]
    try dsimp only at hm
    unfold m_unit_row at hm
    try try dsimp only [tAsg, tRet, tRetN, tOp, tUn, tTest, tB, tCons, tNil, tCB, tC, tNext, tCallS, tDrop, tNot, tNotV, tSl, tNoPart, tPart, tBM, tBM0, iList, iTup, iStr, iSrc, iRng1, iRng2, iEnumS, iZipS, tBreak, tCont, gSub, tAug, tMth, tMakeS, tM1, tM0, tFld, cxOf]
    refine w_lc ?_
    try dsimp only [tAsg, tRet, tRetN, tOp, tUn, tTest, tB, tCons, tNil, tCB, tC, tNext, tCallS, tDrop, tNot, tNotV, tSl, tNoPart, tPart, tBM, tBM0, iList, iTup, iStr, iSrc, iRng1, iRng2, iEnumS, iZipS, tBreak, tCont, gSub, tAug, tMth, tMakeS, tM1, tM0, tFld, cxOf]
    refine s_varI c0 (i := 0) rfl ?_
    obtain ⟨zs3, q1, hm2, b1, hl1, it1⟩ := x_rngL (F := F0) s hm
    replace it1 := it_rng1 it1
    refine ⟨_, rfl, b1.2.2.1, b1.2.2.2, ?_⟩
    refine s_compM (vs := [2]) (en := (eP D.int D.int)) (ss' := fun z4 => [.val (D.int width), .val (D.int place), .val (D.int z4)]) s hm2 c0 it1 (.inl (by decide)) (tg_name (by decide)) (fun _ => rfl) hl1 (fun B4 z4 F4 H4 σ4 P4 G4 Sk4 hio4 s4 h4 zm4 e4 c4 kd4 ks4 => ?_) (fun v4 bs4 HH4 hm4 q4 => ?_)
    ·
      replace s4 := s4 3 (fun _ _ _ _ => False) (ecl ad)
      try dsimp only [tAsg, tRet, tRetN, tOp, tUn, tTest, tB, tCons, tNil, tCB, tC, tNext, tCallS, tDrop, tNot, tNotV, tSl, tNoPart, tPart, tBM, tBM0, iList, iTup, iStr, iSrc, iRng1, iRng2, iEnumS, iZipS, tBreak, tCont, gSub, tAug, tMth, tMakeS, tM1, tM0, tFld, cxOf]
      refine s_cutE (F := F4) (nx := fun _ => [.val (D.int width), .val (D.int place), .val (D.int z4)]) (en := (eP D.int D.int)) s4 h4 (fun y5 v5 F5 H5 hm5 e5 c5 r5 => ?_) (fun P5 Q5 s5 h5 kn5 => ?_)
      ·
        exact kd4 _ _ _ _ _ _ hm5 c5 (show Rep K _ _ ((eP D.int D.int) y5) from r5)
      ·
        refine w_if ?_
        try dsimp only [tAsg, tRet, tRetN, tOp, tUn, tTest, tB, tCons, tNil, tCB, tC, tNext, tCallS, tDrop, tNot, tNotV, tSl, tNoPart, tPart, tBM, tBM0, iList, iTup, iStr, iSrc, iRng1, iRng2, iEnumS, iZipS, tBreak, tCont, gSub, tAug, tMth, tMakeS, tM1, tM0, tFld, cxOf]
        refine s_varI c4 (i := 2) rfl ?_
        refine s_varI c4 (i := 1) rfl ?_
        refine s_eqI ?_
        refine s_test' ?_
        refine s_ite h5 (fun _ hm6 => ?_) (fun _ hm7 => ?_)
        ·
          exact kn5 _ _ _ _ hm6 (Ex.refl _) c4 (show Rep K _ _ ((eP D.int D.int) ((1 : Int), (1 : Int))) from (rt_ONE (F := F4)))
        ·
          exact kn5 _ _ _ _ hm7 (Ex.refl _) c4 (show Rep K _ _ ((eP D.int D.int) ((0 : Int), (1 : Int))) from (rt_ZERO (F := F4)))
    ·
      obtain ⟨F8, e8, c8, r8⟩ := q4
      obtain ⟨F9, e9, c9, r9⟩ := Nw.frz c8 r8
      refine n_tupL c9 (show Rep K _ _ ((eL (eP D.int D.int)) bs4) from r9) fun v10 F10 H10 e10 c10 r10 => ?_
      exact Fin.ret (d := (eT (eP D.int D.int)) bs4) hm4 c10 (r10) rfl (.inl rfl)
@[irreducible] def m_first_row_with (rows : (List (List Int))) (place : Int) : Res (Option Int) :=
  (loopC (fun z5 st5 =>
    (ix z5.2 place).bind fun x8 =>
  if (decide (x8 ≠ (0 : Int))) = true then
    Res.ok (Ctl.rt (some z5.1))
  else
    Res.ok (Ctl.nx ())) (enum rows) ()).bind (Ctl.then (fun st5 =>
  Res.ok none) (fun r => Res.ok r))
abbrev sp_first_row_with (K : PySem.W.Frag) (ad : Nat → Addr) : Sp := SpP (π := ((List (List Int)) × Int)) K (ecl ad) (fun x => [(eL (eT D.int)) x.1, D.int x.2]) (fun x => m_first_row_with x.1 x.2) (fun y => .val ((eO D.int) y))
theorem ok_first_row_with (T : Txt K w mg ad fd) : Cm P w K mg base 1 (ad 23) (fd 23) ["rows", "place"] (sp_first_row_with K ad) := by
  refine ⟨T.f_first_row_with.okG sc_first_row_with (fun vs H Q E h => ?_) (fun cdv A outer sh H0 vs Q E gd hr h => ?_), T.f_first_row_with.binds (ps := ["rows", "place"]) fun _ _ _ _ _ _ us hl => match us, hl with | [_, _], _ => rfl⟩
  · obtain ⟨F, x, _, r, _⟩ := h
    exact r.length
  · obtain ⟨F0, ⟨rows, place⟩, fh0, r0, hm⟩ := h
    have hu := hr.units
    have r0 : Reps K F0 vs [(eL (eT D.int)) rows, D.int place] := r0
    have c0 : Ctx K ⟨F0, H0, none⟩ F0 H0 (start ["rows", "place", "at", "row"] vs) [.val ((eL (eT D.int)) rows), .val (D.int place), .un, .un] := ctx_start fh0 r0 rfl (by show (2 : Nat) ≤ 4; decide)
    have s := Fin.sct (K := K) (B := ⟨F0, H0, none⟩) (n := 4) (cl := ecl ad) (rt := fun y => .val ((eO D.int) y)) (out := fun _ : (Option Int) => []) (Q := Q) (E := E)
    refine ⟨_, (pss_cons (ps_for (by first | exact PassesOwn.never | exact passes_of rfl) rfl (pi_enumS (by rfl) T.m_enumerate (pa_cons (pv 0) pa_nil)) (pg_tup (n := 2) rfl (pgs_cons (pg_name (i := 2) sc_first_row_with.nd rfl (by first | exact Or.inl rfl | exact Or.inr rfl)) (pgs_cons (pg_name (i := 3) sc_first_row_with.nd rfl (by first | exact Or.inl rfl | exact Or.inr rfl)) pgs_nil)))
      (pss_one (ps_if (pt_cmpR op_ne (pe_ix (ix_tupK (K := K)) (pv 3) (pv 1) (fun _ _ => rfl)) pe_int (nomark _)) (pss_one (ps_ret (pv 2))) pss_nil)))
    (pss_one (ps_ret pe_non))), ?_⟩
    generalize start _ _ = σ at c0 ⊢
    try dsimp only [tAsg, tRet, tRetN, tOp, tUn, tTest, tB, tCons, tNil, tCB, tC, tNext, tCallS, tDrop, tNot, tNotV, tSl, tNoPart, tPart, tBM, tBM0, iList, iTup, iStr, iSrc, iRng1, iRng2, iEnumS, iZipS, tBreak, tCont, gSub, tAug, tMth, tMakeS, tM1, tM0, tFld, cxOf]
    try dsimp only at hm
    unfold m_first_row_with at hm
    refine w_seq ?_
    try try dsimp only [tAsg, tRet, tRetN, tOp, tUn, tTest, tB, tCons, tNil, tCB, tC, tNext, tCallS, tDrop, tNot, tNotV, tSl, tNoPart, tPart, tBM, tBM0, iList, iTup, iStr, iSrc, iRng1, iRng2, iEnumS, iZipS, tBreak, tCont, gSub, tAug, tMth, tMakeS, tM1, tM0, tFld, cxOf]
    refine w_for ?_
    try dsimp only [tAsg, tRet, tRetN, tOp, tUn, tTest, tB, tCons, tNil, tCB, tC, tNext, tCallS, tDrop, tNot, tNotV, tSl, tNoPart, tPart, tBM, tBM0, iList, iTup, iStr, iSrc, iRng1, iRng2, iEnumS, iZipS, tBreak, tCont, gSub, tAug, tMth, tMakeS, tM1, tM0, tFld, cxOf]
    refine s_var c0 (i := 0) rfl fun v1 r2 => ?_
    obtain ⟨S3, so3⟩ := srcL (show Rep K _ _ ((eL (eT D.int)) rows) from r2)
    have sl3 := lenL (show Rep K _ _ ((eL (eT D.int)) rows) from r2)
    obtain ⟨xs4, q4, a4, it4⟩ := x_enum (en := (eT D.int)) c0 so3
    refine ⟨_, xs4, q4, a4, ?_⟩
    refine s_forCP (vs := [2, 3]) (nx := fun st5 => [.val ((eL (eT D.int)) rows), .val (D.int place), .un, .un]) (ss' := fun z5 st5 => [.val ((eL (eT D.int)) rows), .val (D.int place), .val (D.int z5.1), .val ((eT D.int) z5.2)]) (s0 := ()) s hm c0 it4 (.inl (by decide)) (tg_pair (by decide) (by decide)) (fun _ _ => rfl) (fun z5 st5 F5 H5 σ P5 N5 s5 h5 zm5 e5 c5 kn5 kb5 kr5 => ?_) (fun st5 F5 H5 σ hm5 e5 c5 => ?_)
    ·
      refine w_ifS ?_
      try dsimp only [tAsg, tRet, tRetN, tOp, tUn, tTest, tB, tCons, tNil, tCB, tC, tNext, tCallS, tDrop, tNot, tNotV, tSl, tNoPart, tPart, tBM, tBM0, iList, iTup, iStr, iSrc, iRng1, iRng2, iEnumS, iZipS, tBreak, tCont, gSub, tAug, tMth, tMakeS, tM1, tM0, tFld, cxOf]
      refine s_var c5 (i := 3) rfl fun v6 r7 => ?_
      refine s_varI c5 (i := 1) rfl ?_
      refine s_ixTv (en := D.int) s5 h5 c5 (show Rep K _ _ ((eT D.int) z5.2) from r7) fun x8 v11 q10 hm9 r12 => ?_
      cases r12
      refine s_neI ?_
      refine s_test' ?_
      refine s_ite hm9 (fun _ hm13 => ?_) (fun _ hm14 => ?_)
      ·
        try try dsimp only [tAsg, tRet, tRetN, tOp, tUn, tTest, tB, tCons, tNil, tCB, tC, tNext, tCallS, tDrop, tNot, tNotV, tSl, tNoPart, tPart, tBM, tBM0, iList, iTup, iStr, iSrc, iRng1, iRng2, iEnumS, iZipS, tBreak, tCont, gSub, tAug, tMth, tMakeS, tM1, tM0, tFld, cxOf]
        refine s_varI c5 (i := 2) rfl ?_
        have hm15 := kr5 _ hm13
        exact Fin.ret (d := (eO D.int) (some z5.1)) hm15 c5 (((Rep.int _).mono e5)) rfl (.inl rfl)
      ·
        exact kn5 () _ _ _ hm14 (Ex.refl _) ((c5.drop 2).drop 3)
    ·
      have c16 := c5
      try try dsimp only [tAsg, tRet, tRetN, tOp, tUn, tTest, tB, tCons, tNil, tCB, tC, tNext, tCallS, tDrop, tNot, tNotV, tSl, tNoPart, tPart, tBM, tBM0, iList, iTup, iStr, iSrc, iRng1, iRng2, iEnumS, iZipS, tBreak, tCont, gSub, tAug, tMth, tMakeS, tM1, tM0, tFld, cxOf]
      exact Fin.ret (d := (eO D.int) none) hm5 c16 ((Rep.non.mono e5)) rfl (.inl rfl)
@[irreducible] def m_columns_of (width : Int) (rows : (List (List (Int × Int)))) : Res (List (List (Int × Int))) :=
  (rngL 0 width).bind fun zs3 =>
  (mapR (fun z4 =>
    (mapR (fun z8 =>
    (ix z8 z4).bind fun x11 =>
  Res.ok x11) rows).bind fun bs8 =>
  Res.ok bs8) zs3).bind fun bs4 =>
  Res.ok bs4
abbrev sp_columns_of (K : PySem.W.Frag) (ad : Nat → Addr) : Sp := SpP (π := (Int × (List (List (Int × Int))))) K (ecl ad) (fun x => [D.int x.1, (eL (eT (eP D.int D.int))) x.2]) (fun x => m_columns_of x.1 x.2) (fun y => .own (List.map (eT (eP D.int D.int)) y))
theorem ok_columns_of (T : Txt K w mg ad fd) : Cm P w K mg base 1 (ad 28) (fd 28) ["width", "rows"] (sp_columns_of K ad) := by
  refine ⟨T.f_columns_of.okG sc_columns_of (fun vs H Q E h => ?_) (fun cdv A outer sh H0 vs Q E gd hr h => ?_), T.f_columns_of.binds (ps := ["width", "rows"]) fun _ _ _ _ _ _ us hl => match us, hl with | [_, _], _ => rfl⟩
  · obtain ⟨F, x, _, r, _⟩ := h
    exact r.length
  · obtain ⟨F0, ⟨width, rows⟩, fh0, r0, hm⟩ := h
    have hu := hr.units
    have r0 : Reps K F0 vs [D.int width, (eL (eT (eP D.int D.int))) rows] := r0
    have c0 : Ctx K ⟨F0, H0, none⟩ F0 H0 (start ["width", "rows", "row", "place"] vs) [.val (D.int width), .val ((eL (eT (eP D.int D.int))) rows), .un, .un] := ctx_start fh0 r0 rfl (by show (2 : Nat) ≤ 4; decide)
    have s := Fin.sct (K := K) (B := ⟨F0, H0, none⟩) (n := 4) (cl := ecl ad) (rt := fun y => .own (List.map (eT (eP D.int D.int)) y)) (out := fun _ : (List (List (Int × Int))) => []) (Q := Q) (E := E)
    refine ⟨_, (pss_one (ps_ret (pe_lc (own := [("place", 3)]) rfl sc_columns_of.nd (pi_range1 rfl T.m_range (pa_cons (pv 0) pa_nil)) (blkOk_by (N := ["width", "rows", "row", "place"]) (sc := defScope s_columns_of) (by decide +kernel)) (fun _ _ _ _ _ => (pg_name (i := 3) sc_columns_of.nd rfl (by first | exact Or.inl rfl | exact Or.inr rfl))) (fun _ _ _ _ _ => pts_nil) (fun _ _ _ _ _ => (pe_callTy (T := "tuple") (c_tuple (K := K)) (by rfl) T.m_tuple (by decide +kernel) (pa_cons (pe_lc (own := [("row", 2)]) rfl sc_columns_of.nd (pi_listK (K := K) (pv 1)) (blkOk_cast (N := ["width", "rows", "row", "place"]) (sc := { kind := PySem.ScopeKind.function, names := [ (PySem.Str.ofString ".0", PySem.NameKind.local), (PySem.Str.ofString "place", PySem.NameKind.cell), (PySem.Str.ofString "tuple", PySem.NameKind.globalImplicit), (PySem.Str.ofString "rows", PySem.NameKind.cell)], isGenerator := false, isCoroutine := false, more := [] : PySem.Scope }) (by decide +kernel) (by rfl) (by rfl)) (fun _ _ _ _ _ => (pg_name (i := 2) sc_columns_of.nd rfl (by first | exact Or.inl rfl | exact Or.inr rfl))) (fun _ _ _ _ _ => pts_nil) (fun _ _ _ _ _ => (pe_ix (ix_tupK (K := K)) (pv 2) (pv 3) (fun _ _ => rfl)))) pa_nil)))))), ?_⟩
    generalize start _ _ = σ at c0 ⊢
    try dsimp only [tAsg, tRet, tRetN, tOp, tUn, tTest, tB, tCons, tNil, tCB, tC, tNext, tCallS, tDrop, tNot, tNotV, tSl, tNoPart, tPart, tBM, tBM0, iList, iTup, iStr, iSrc, iRng1, iRng2, iEnumS, iZipS, tBreak, tCont, gSub, tAug, tMth, tMakeS, tM1, tM0, tFld, cxOf]
    try dsimp only at hm
    unfold m_columns_of at hm
    try try dsimp only [tAsg, tRet, tRetN, tOp, tUn, tTest, tB, tCons, tNil, tCB, tC, tNext, tCallS, tDrop, tNot, tNotV, tSl, tNoPart, tPart, tBM, tBM0, iList, iTup, iStr, iSrc, iRng1, iRng2, iEnumS, iZipS, tBreak, tCont, gSub, tAug, tMth, tMakeS, tM1, tM0, tFld, cxOf]
    refine w_lc ?_
    try dsimp only [tAsg, tRet, tRetN, tOp, tUn, tTest, tB, tCons, tNil, tCB, tC, tNext, tCallS, tDrop, tNot, tNotV, tSl, tNoPart, tPart, tBM, tBM0, iList, iTup, iStr, iSrc, iRng1, iRng2, iEnumS, iZipS, tBreak, tCont, gSub, tAug, tMth, tMakeS, tM1, tM0, tFld, cxOf]
    refine s_varI c0 (i := 0) rfl ?_
    obtain ⟨zs3, q1, hm2, b1, hl1, it1⟩ := x_rngL (F := F0) s hm
    replace it1 := it_rng1 it1
    refine ⟨_, rfl, b1.2.2.1, b1.2.2.2, ?_⟩
    refine s_compM (vs := [3]) (en := (eT (eP D.int D.int))) (ss' := fun z4 => [.val (D.int width), .val ((eL (eT (eP D.int D.int))) rows), .un, .val (D.int z4)]) s hm2 c0 it1 (.inl (by decide)) (tg_name (by decide)) (fun _ => rfl) hl1 (fun B4 z4 F4 H4 σ4 P4 G4 Sk4 hio4 s4 h4 zm4 e4 c4 kd4 ks4 => ?_) (fun v4 bs4 HH4 hm4 q4 => ?_)
    ·
      replace s4 := s4 4 (fun _ _ _ _ => False) (ecl ad)
      try dsimp only [tAsg, tRet, tRetN, tOp, tUn, tTest, tB, tCons, tNil, tCB, tC, tNext, tCallS, tDrop, tNot, tNotV, tSl, tNoPart, tPart, tBM, tBM0, iList, iTup, iStr, iSrc, iRng1, iRng2, iEnumS, iZipS, tBreak, tCont, gSub, tAug, tMth, tMakeS, tM1, tM0, tFld, cxOf]
      refine w_lc ?_
      try dsimp only [tAsg, tRet, tRetN, tOp, tUn, tTest, tB, tCons, tNil, tCB, tC, tNext, tCallS, tDrop, tNot, tNotV, tSl, tNoPart, tPart, tBM, tBM0, iList, iTup, iStr, iSrc, iRng1, iRng2, iEnumS, iZipS, tBreak, tCont, gSub, tAug, tMth, tMakeS, tM1, tM0, tFld, cxOf]
      refine s_var c4 (i := 1) rfl fun v5 r6 => ?_
      have sl7 := lenL (show Rep K _ _ ((eL (eT (eP D.int D.int))) rows) from r6)
      obtain ⟨a7, q7, x7, it7⟩ := x_list c4 (show Rep K _ _ ((eL (eT (eP D.int D.int))) rows) from r6)
      refine ⟨a7, q7, x7, ?_⟩
      refine s_compM (vs := [2]) (en := (eP D.int D.int)) (ss' := fun z8 => [.val (D.int width), .val ((eL (eT (eP D.int D.int))) rows), .val ((eT (eP D.int D.int)) z8), .val (D.int z4)]) s4 h4 c4 it7 (.inl (by decide)) (tg_name (by decide)) (fun _ => rfl) sl7 (fun B8 z8 F8 H8 σ8 P8 G8 Sk8 hio8 s8 h8 zm8 e8 c8 kd8 ks8 => ?_) (fun v8 bs8 HH8 hm8 q8 => ?_)
      ·
        replace s8 := s8 4 (fun _ _ _ _ => False) (ecl ad)
        try dsimp only [tAsg, tRet, tRetN, tOp, tUn, tTest, tB, tCons, tNil, tCB, tC, tNext, tCallS, tDrop, tNot, tNotV, tSl, tNoPart, tPart, tBM, tBM0, iList, iTup, iStr, iSrc, iRng1, iRng2, iEnumS, iZipS, tBreak, tCont, gSub, tAug, tMth, tMakeS, tM1, tM0, tFld, cxOf]
        refine s_var c8 (i := 2) rfl fun v9 r10 => ?_
        refine s_varI c8 (i := 3) rfl ?_
        refine s_ixTv (en := (eP D.int D.int)) s8 h8 c8 (show Rep K _ _ ((eT (eP D.int D.int)) z8) from r10) fun x11 v14 q13 hm12 r15 => ?_
        exact kd8 _ _ _ _ _ _ hm12 c8 (show Rep K _ _ ((eP D.int D.int) x11) from r15)
      ·
        obtain ⟨F16, e16, c16, r16⟩ := q8
        obtain ⟨F17, e17, c17, r17⟩ := Nw.frz c16 r16
        refine n_tupL c17 (show Rep K _ _ ((eL (eP D.int D.int)) bs8) from r17) fun v18 F18 H18 e18 c18 r18 => ?_
        exact kd4 _ _ _ _ _ _ hm8 c18 (show Rep K _ _ ((eT (eP D.int D.int)) bs8) from r18)
    ·
      obtain ⟨F19, e19, c19, r19⟩ := q4
      exact Fin.retN hm4 c19 r19 rfl (.inl rfl)
@[irreducible] def m__law_number (cell : Int) : Res Int :=
  if (decide (cell < (0 : Int))) = true then
    Res.ok ((0 : Int) - cell)
  else
    Res.ok cell
abbrev sp__law_number (K : PySem.W.Frag) (ad : Nat → Addr) : Sp := SpP (π := Int) K (ecl ad) (fun x => [D.int x]) (fun x => m__law_number x) (fun y => .val (D.int y))
theorem ok__law_number (T : Txt K w mg ad fd) : Cm P w K mg base 1 (ad 33) (fd 33) ["cell"] (sp__law_number K ad) := by
  refine ⟨T.f__law_number.okG sc__law_number (fun vs H Q E h => ?_) (fun cdv A outer sh H0 vs Q E gd hr h => ?_), T.f__law_number.binds (ps := ["cell"]) fun _ _ _ _ _ _ us hl => match us, hl with | [_], _ => rfl⟩
  · obtain ⟨F, x, _, r, _⟩ := h
    exact r.length
  · obtain ⟨F0, cell, fh0, r0, hm⟩ := h
    have hu := hr.units
    have r0 : Reps K F0 vs [D.int cell] := r0
    have c0 : Ctx K ⟨F0, H0, none⟩ F0 H0 (start ["cell"] vs) [.val (D.int cell)] := ctx_start fh0 r0 rfl (by show (1 : Nat) ≤ 1; decide)
    have s := Fin.sct (K := K) (B := ⟨F0, H0, none⟩) (n := 1) (cl := ecl ad) (rt := fun y => .val (D.int y)) (out := fun _ : Int => []) (Q := Q) (E := E)
    refine ⟨_, (pss_cons (ps_if (pt_cmpR op_lt (pv 0) pe_int (nomark _)) (pss_one (ps_ret (pe_op op_sub pe_int (pv 0)))) pss_nil)
    (pss_one (ps_ret (pv 0)))), ?_⟩
    generalize start _ _ = σ at c0 ⊢
    try dsimp only [tAsg, tRet, tRetN, tOp, tUn, tTest, tB, tCons, tNil, tCB, tC, tNext, tCallS, tDrop, tNot, tNotV, tSl, tNoPart, tPart, tBM, tBM0, iList, iTup, iStr, iSrc, iRng1, iRng2, iEnumS, iZipS, tBreak, tCont, gSub, tAug, tMth, tMakeS, tM1, tM0, tFld, cxOf]
    try dsimp only at hm
    unfold m__law_number at hm
    refine w_seq ?_
    refine w_ifS ?_
    try dsimp only [tAsg, tRet, tRetN, tOp, tUn, tTest, tB, tCons, tNil, tCB, tC, tNext, tCallS, tDrop, tNot, tNotV, tSl, tNoPart, tPart, tBM, tBM0, iList, iTup, iStr, iSrc, iRng1, iRng2, iEnumS, iZipS, tBreak, tCont, gSub, tAug, tMth, tMakeS, tM1, tM0, tFld, cxOf]
    refine s_varI c0 (i := 0) rfl ?_
    refine s_i0 ?_
    refine s_test' ?_
    refine s_ite hm (fun _ hm1 => ?_) (fun _ hm2 => ?_)
    ·
      try try dsimp only [tAsg, tRet, tRetN, tOp, tUn, tTest, tB, tCons, tNil, tCB, tC, tNext, tCallS, tDrop, tNot, tNotV, tSl, tNoPart, tPart, tBM, tBM0, iList, iTup, iStr, iSrc, iRng1, iRng2, iEnumS, iZipS, tBreak, tCont, gSub, tAug, tMth, tMakeS, tM1, tM0, tFld, cxOf]
      refine s_varI c0 (i := 0) rfl ?_
      refine s_i0 ?_
      exact Fin.ret (d := D.int ((0 : Int) - cell)) hm1 c0 ((Rep.int _)) rfl (.inl rfl)
    ·
      try try dsimp only [tAsg, tRet, tRetN, tOp, tUn, tTest, tB, tCons, tNil, tCB, tC, tNext, tCallS, tDrop, tNot, tNotV, tSl, tNoPart, tPart, tBM, tBM0, iList, iTup, iStr, iSrc, iRng1, iRng2, iEnumS, iZipS, tBreak, tCont, gSub, tAug, tMth, tMakeS, tM1, tM0, tFld, cxOf]
      refine s_varI c0 (i := 0) rfl ?_
      exact Fin.ret (d := D.int cell) hm2 c0 ((Rep.int _)) rfl (.inl rfl)
@[irreducible] def m__law_next (draws : (List Int)) : Res (Int × List Int) :=
  if (!List.isEmpty draws) = true then
    (popR draws).bind2 fun x5 xs6 =>
  Res.ok (x5, xs6)
  else
    Res.ok ((0 : Int), draws)
abbrev sp__law_next (K : PySem.W.Frag) (ad : Nat → Addr) : Sp := SpI (π := (List Int)) K (ecl ad) (fun x => List.map D.int x) (fun x => []) (fun x => m__law_next x) (fun y => .val (D.int y.1)) (fun y => List.map D.int y.2)
theorem ok__law_next (T : Txt K w mg ad fd) : Cm P w K mg base 1 (ad 35) (fd 35) ["draws"] (sp__law_next K ad) := by
  refine ⟨T.f__law_next.okG sc__law_next (fun vs H Q E h => ?_) (fun cdv A outer sh H0 vs Q E gd hr h => ?_), T.f__law_next.binds (ps := ["draws"]) fun _ _ _ _ _ _ us hl => match us, hl with | [_], _ => rfl⟩
  · obtain ⟨F, x, l, us, rfl, _, _, r, _⟩ := h
    exact congrArg (· + 1) r.length
  · obtain ⟨F0, draws, l0, us, rfl, fh0, o0, r0, hm⟩ := h
    have hu := hr.units
    have r0 : Reps K F0 us [] := r0
    have o0 : Own K F0 H0 l0 (List.map D.int draws) := o0
    have c0 : Ctx K ⟨F0, H0, some l0⟩ F0 H0 (start ["draws"] (.ref l0 :: us)) [.io (List.map D.int draws)] := ctx_startIO fh0 o0 r0 rfl (by show (1 : Nat) ≤ 1; decide)
    have s := Fin.sct (K := K) (B := ⟨F0, H0, some l0⟩) (n := 1) (cl := ecl ad) (rt := fun y => .val (D.int y.1)) (out := fun y : (Int × List Int) => List.map D.int y.2) (Q := Q) (E := E)
    refine ⟨_, (pss_cons (ps_if (pt_truth (pv 0) (fun _ => rfl)) (pss_one (ps_ret (pe_bm0 PySem.F.plainAttrs_list PySem.F.slot_list_pop PySem.F.type_list_pop mt_pop (pv 0)))) pss_nil)
    (pss_one (ps_ret pe_int))), ?_⟩
    generalize start _ _ = σ at c0 ⊢
    try dsimp only [tAsg, tRet, tRetN, tOp, tUn, tTest, tB, tCons, tNil, tCB, tC, tNext, tCallS, tDrop, tNot, tNotV, tSl, tNoPart, tPart, tBM, tBM0, iList, iTup, iStr, iSrc, iRng1, iRng2, iEnumS, iZipS, tBreak, tCont, gSub, tAug, tMth, tMakeS, tM1, tM0, tFld, cxOf]
    try dsimp only at hm
    unfold m__law_next at hm
    refine w_seq ?_
    refine w_ifS ?_
    try dsimp only [tAsg, tRet, tRetN, tOp, tUn, tTest, tB, tCons, tNil, tCB, tC, tNext, tCallS, tDrop, tNot, tNotV, tSl, tNoPart, tPart, tBM, tBM0, iList, iTup, iStr, iSrc, iRng1, iRng2, iEnumS, iZipS, tBreak, tCont, gSub, tAug, tMth, tMakeS, tM1, tM0, tFld, cxOf]
    refine s_varIO c0 (i := 0) rfl fun a1 xs1 ha1 hx1 l1 t1 => ?_
    refine s_truO hx1 t1 ?_
    refine s_ite hm (fun _ hm2 => ?_) (fun _ hm3 => ?_)
    ·
      try try dsimp only [tAsg, tRet, tRetN, tOp, tUn, tTest, tB, tCons, tNil, tCB, tC, tNext, tCallS, tDrop, tNot, tNotV, tSl, tNoPart, tPart, tBM, tBM0, iList, iTup, iStr, iSrc, iRng1, iRng2, iEnumS, iZipS, tBreak, tCont, gSub, tAug, tMth, tMakeS, tM1, tM0, tFld, cxOf]
      refine s_varIO c0 (i := 0) rfl fun a4 xs4 ha4 hx4 l4 t4 => ?_
      refine ⟨s_tyO hx4, ?_⟩
      refine s_popIO (i := 0) (en := D.int) (ss' := fun ys => [.io (List.map D.int ys)]) s hm2 c0 ha4 rfl (fun _ => rfl) fun x5 xs6 v8 H8 hm7 c8 r8 => ?_
      cases r8
      exact Fin.ret (d := D.int x5) hm7 c8 ((Rep.int _)) rfl (.inr rfl)
    ·
      try try dsimp only [tAsg, tRet, tRetN, tOp, tUn, tTest, tB, tCons, tNil, tCB, tC, tNext, tCallS, tDrop, tNot, tNotV, tSl, tNoPart, tPart, tBM, tBM0, iList, iTup, iStr, iSrc, iRng1, iRng2, iEnumS, iZipS, tBreak, tCont, gSub, tAug, tMth, tMakeS, tM1, tM0, tFld, cxOf]
      exact Fin.ret (d := D.int (0 : Int)) hm3 c0 ((Rep.int _)) rfl (.inr rfl)
@[irreducible] def m__law_divisor (a : Int) (b : Int) : Res Int :=
  (loopC (fun z4 st4 =>
    if (decide (st4.2 = (0 : Int))) = true then
    Res.ok (Ctl.bk (st4.1, st4.2))
  else
    (modR st4.1 st4.2).bind fun x7 =>
  Res.ok (Ctl.nx (st4.2, x7))) (rng 0 (1000000000 : Int)) ((absI a), (absI b))).bind (Ctl.then (fun st4 =>
  Res.ok st4.1) (fun r => Res.ok r))
abbrev sp__law_divisor (K : PySem.W.Frag) (ad : Nat → Addr) : Sp := SpP (π := (Int × Int)) K (ecl ad) (fun x => [D.int x.1, D.int x.2]) (fun x => m__law_divisor x.1 x.2) (fun y => .val (D.int y))
theorem ok__law_divisor (T : Txt K w mg ad fd) : Cm P w K mg base 1 (ad 36) (fd 36) ["a", "b"] (sp__law_divisor K ad) := by
  refine ⟨T.f__law_divisor.okG sc__law_divisor (fun vs H Q E h => ?_) (fun cdv A outer sh H0 vs Q E gd hr h => ?_), T.f__law_divisor.binds (ps := ["a", "b"]) fun _ _ _ _ _ _ us hl => match us, hl with | [_, _], _ => rfl⟩
  · obtain ⟨F, x, _, r, _⟩ := h
    exact r.length
  · obtain ⟨F0, ⟨a, b⟩, fh0, r0, hm⟩ := h
    have hu := hr.units
    have r0 : Reps K F0 vs [D.int a, D.int b] := r0
    have c0 : Ctx K ⟨F0, H0, none⟩ F0 H0 (start ["a", "b", "one", "other", "j"] vs) [.val (D.int a), .val (D.int b), .un, .un, .un] := ctx_start fh0 r0 rfl (by show (2 : Nat) ≤ 5; decide)
    have s := Fin.sct (K := K) (B := ⟨F0, H0, none⟩) (n := 5) (cl := ecl ad) (rt := fun y => .val (D.int y)) (out := fun _ : Int => []) (Q := Q) (E := E)
    refine ⟨_, (pss_cons (ps_set (i := 2) sc__law_divisor.nd rfl (by first | exact Or.inl rfl | exact Or.inr rfl) (pe_callB c_abs (by rfl) T.m_abs (by decide +kernel) (pa_cons (pv 0) pa_nil)))
    (pss_cons (ps_set (i := 3) sc__law_divisor.nd rfl (by first | exact Or.inl rfl | exact Or.inr rfl) (pe_callB c_abs (by rfl) T.m_abs (by decide +kernel) (pa_cons (pv 1) pa_nil)))
    (pss_cons (ps_for (by first | exact PassesOwn.never | exact passes_of rfl) rfl (pi_range1 rfl T.m_range (pa_cons (pe_op op_pow pe_int pe_int) pa_nil)) (pg_name (i := 4) sc__law_divisor.nd rfl (by first | exact Or.inl rfl | exact Or.inr rfl))
      (pss_cons (ps_if (pt_cmpR op_eq (pv 3) pe_int (nomark _)) (pss_one ps_break) pss_nil)
    (pss_one (ps_par (i := 2) (j := 3) rfl sc__law_divisor.nd rfl rfl (by decide) rfl rfl (pa_cons (pv 3) (pa_cons (pe_op op_mod (pe_callTy (T := "int") c_int (by rfl) T.m_int (by decide +kernel) (pa_cons (pv 2) pa_nil)) (pv 3)) pa_nil)) rfl))))
    (pss_one (ps_ret (pv 2)))))), ?_⟩
    generalize start _ _ = σ at c0 ⊢
    try dsimp only [tAsg, tRet, tRetN, tOp, tUn, tTest, tB, tCons, tNil, tCB, tC, tNext, tCallS, tDrop, tNot, tNotV, tSl, tNoPart, tPart, tBM, tBM0, iList, iTup, iStr, iSrc, iRng1, iRng2, iEnumS, iZipS, tBreak, tCont, gSub, tAug, tMth, tMakeS, tM1, tM0, tFld, cxOf]
    try dsimp only at hm
    unfold m__law_divisor at hm
    refine w_seq ?_
    try try dsimp only [tAsg, tRet, tRetN, tOp, tUn, tTest, tB, tCons, tNil, tCB, tC, tNext, tCallS, tDrop, tNot, tNotV, tSl, tNoPart, tPart, tBM, tBM0, iList, iTup, iStr, iSrc, iRng1, iRng2, iEnumS, iZipS, tBreak, tCont, gSub, tAug, tMth, tMakeS, tM1, tM0, tFld, cxOf]
    refine s_varI c0 (i := 0) rfl ?_
    refine n_abs ?_
    refine s_set (i := 2) (d := D.int (absI a)) (ss' := [.val (D.int a), .val (D.int b), .val (D.int (absI a)), .un, .un]) c0 (.inl (by decide)) ((Rep.int _)) rfl fun σ c1 => ?_
    refine w_seq ?_
    try try dsimp only [tAsg, tRet, tRetN, tOp, tUn, tTest, tB, tCons, tNil, tCB, tC, tNext, tCallS, tDrop, tNot, tNotV, tSl, tNoPart, tPart, tBM, tBM0, iList, iTup, iStr, iSrc, iRng1, iRng2, iEnumS, iZipS, tBreak, tCont, gSub, tAug, tMth, tMakeS, tM1, tM0, tFld, cxOf]
    refine s_varI c1 (i := 1) rfl ?_
    refine n_abs ?_
    refine s_set (i := 3) (d := D.int (absI b)) (ss' := [.val (D.int a), .val (D.int b), .val (D.int (absI a)), .val (D.int (absI b)), .un]) c1 (.inl (by decide)) ((Rep.int _)) rfl fun σ c2 => ?_
    refine w_seq ?_
    try try dsimp only [tAsg, tRet, tRetN, tOp, tUn, tTest, tB, tCons, tNil, tCB, tC, tNext, tCallS, tDrop, tNot, tNotV, tSl, tNoPart, tPart, tBM, tBM0, iList, iTup, iStr, iSrc, iRng1, iRng2, iEnumS, iZipS, tBreak, tCont, gSub, tAug, tMth, tMakeS, tM1, tM0, tFld, cxOf]
    refine w_for ?_
    try dsimp only [tAsg, tRet, tRetN, tOp, tUn, tTest, tB, tCons, tNil, tCB, tC, tNext, tCallS, tDrop, tNot, tNotV, tSl, tNoPart, tPart, tBM, tBM0, iList, iTup, iStr, iSrc, iRng1, iRng2, iEnumS, iZipS, tBreak, tCont, gSub, tAug, tMth, tMakeS, tM1, tM0, tFld, cxOf]
    refine s_iC ⟨by decide, by decide, by decide⟩ ?_
    rw [show ((10 : Int) ^ Int.toNat 9) = 1000000000 from by decide]
    refine ⟨_, rfl, by decide, by decide, ?_⟩
    have it3 := it_rng0 (K := K) (F := F0) (hi := (1000000000 : Int))
    refine s_forCP (vs := [4]) (nx := fun st4 => [.val (D.int a), .val (D.int b), .val (D.int st4.1), .val (D.int st4.2), .un]) (ss' := fun z4 st4 => [.val (D.int a), .val (D.int b), .val (D.int st4.1), .val (D.int st4.2), .val (D.int z4)]) (s0 := ((absI a), (absI b))) s hm c2 it3 (.inl (by decide)) (tg_name (by decide)) (fun _ _ => rfl) (fun z4 st4 F4 H4 σ P4 N4 s4 h4 zm4 e4 c4 kn4 kb4 kr4 => ?_) (fun st4 F4 H4 σ hm4 e4 c4 => ?_)
    ·
      refine w_seq ?_
      refine w_ifS ?_
      try dsimp only [tAsg, tRet, tRetN, tOp, tUn, tTest, tB, tCons, tNil, tCB, tC, tNext, tCallS, tDrop, tNot, tNotV, tSl, tNoPart, tPart, tBM, tBM0, iList, iTup, iStr, iSrc, iRng1, iRng2, iEnumS, iZipS, tBreak, tCont, gSub, tAug, tMth, tMakeS, tM1, tM0, tFld, cxOf]
      refine s_varI c4 (i := 3) rfl ?_
      refine s_eqI ?_
      refine s_test' ?_
      refine s_ite h4 (fun _ hm5 => ?_) (fun _ hm6 => ?_)
      ·
        try try dsimp only [tAsg, tRet, tRetN, tOp, tUn, tTest, tB, tCons, tNil, tCB, tC, tNext, tCallS, tDrop, tNot, tNotV, tSl, tNoPart, tPart, tBM, tBM0, iList, iTup, iStr, iSrc, iRng1, iRng2, iEnumS, iZipS, tBreak, tCont, gSub, tAug, tMth, tMakeS, tM1, tM0, tFld, cxOf]
        exact kb4 (st4.1, st4.2) _ _ _ hm5 (Ex.refl _) (c4.drop 4)
      ·
        try try dsimp only [tAsg, tRet, tRetN, tOp, tUn, tTest, tB, tCons, tNil, tCB, tC, tNext, tCallS, tDrop, tNot, tNotV, tSl, tNoPart, tPart, tBM, tBM0, iList, iTup, iStr, iSrc, iRng1, iRng2, iEnumS, iZipS, tBreak, tCont, gSub, tAug, tMth, tMakeS, tM1, tM0, tFld, cxOf]
        refine w_par ?_
        try dsimp only [tAsg, tRet, tRetN, tOp, tUn, tTest, tB, tCons, tNil, tCB, tC, tNext, tCallS, tDrop, tNot, tNotV, tSl, tNoPart, tPart, tBM, tBM0, iList, iTup, iStr, iSrc, iRng1, iRng2, iEnumS, iZipS, tBreak, tCont, gSub, tAug, tMth, tMakeS, tM1, tM0, tFld, cxOf]
        refine s_varI c4 (i := 3) rfl ?_
        refine s_varI c4 (i := 2) rfl ?_
        refine n_intI ?_
        refine s_varI c4 (i := 3) rfl ?_
        refine s_mod' s4 hm6 fun x7 q9 hm8 => ?_
        refine s_parP (d1 := D.int st4.2) (d2 := D.int x7) (ss' := [.val (D.int a), .val (D.int b), .val (D.int st4.2), .val (D.int x7), .val (D.int z4)]) c4 (.inl (by decide)) (.inl (by decide)) ((Rep.int _)) ((Rep.int _)) rfl fun σ c10 => ?_
        exact kn4 (st4.2, x7) _ _ _ hm8 (Ex.refl _) (c10.drop 4)
    ·
      have c11 := c4
      try try dsimp only [tAsg, tRet, tRetN, tOp, tUn, tTest, tB, tCons, tNil, tCB, tC, tNext, tCallS, tDrop, tNot, tNotV, tSl, tNoPart, tPart, tBM, tBM0, iList, iTup, iStr, iSrc, iRng1, iRng2, iEnumS, iZipS, tBreak, tCont, gSub, tAug, tMth, tMakeS, tM1, tM0, tFld, cxOf]
      refine s_varI c11 (i := 2) rfl ?_
      exact Fin.ret (d := D.int st4.1) hm4 c11 ((Rep.int _)) rfl (.inl rfl)
@[irreducible] def m__law_pivots (rows : (List (List (Int × Int)))) : Res (List Int) :=
  (foldR (fun z6 st6 =>
    (rngL 0 (z6.length : Int)).bind fun zs12 =>
  (compR (fun z13 =>
    (ix z6 z13).bind fun x16 =>
  if (decide (x16.1 ≠ (0 : Int))) = true then Res.ok (some z13) else Res.ok none) zs12).bind fun bs13 =>
  (ix bs13 (0 : Int)).bind fun x27 =>
  (chkLen (st6 ++ [x27])).bind fun x32 =>
  Res.ok x32) rows ([] : List Int)).bind fun st6 =>
  Res.ok st6
abbrev sp__law_pivots (K : PySem.W.Frag) (ad : Nat → Addr) : Sp := SpP (π := (List (List (Int × Int)))) K (ecl ad) (fun x => [(eL (eT (eP D.int D.int))) x]) (fun x => m__law_pivots x) (fun y => .val ((eL D.int) y))
theorem ok__law_pivots (T : Txt K w mg ad fd) : Cm P w K mg base 1 (ad 47) (fd 47) ["rows"] (sp__law_pivots K ad) := by
  refine ⟨T.f__law_pivots.okG sc__law_pivots (fun vs H Q E h => ?_) (fun cdv A outer sh H0 vs Q E gd hr h => ?_), T.f__law_pivots.binds (ps := ["rows"]) fun _ _ _ _ _ _ us hl => match us, hl with | [_], _ => rfl⟩
  · obtain ⟨F, x, _, r, _⟩ := h
    exact r.length
  · obtain ⟨F0, rows, fh0, r0, hm⟩ := h
    have hu := hr.units
    have r0 : Reps K F0 vs [(eL (eT (eP D.int D.int))) rows] := r0
    have c0 : Ctx K ⟨F0, H0, none⟩ F0 H0 (start ["rows", "found", "row", "at"] vs) [.val ((eL (eT (eP D.int D.int))) rows), .un, .un, .un] := ctx_start fh0 r0 rfl (by show (1 : Nat) ≤ 4; decide)
    have s := Fin.sct (K := K) (B := ⟨F0, H0, none⟩) (n := 4) (cl := ecl ad) (rt := fun y => .val ((eL D.int) y)) (out := fun _ : (List Int) => []) (Q := Q) (E := E)
    refine ⟨_, (pss_cons (ps_set (i := 1) sc__law_pivots.nd rfl (by first | exact Or.inl rfl | exact Or.inr rfl) (pe_lst pa_nil))
    (pss_cons (ps_for (by first | exact PassesOwn.never | exact passes_of rfl) rfl (pi_list (pv 0)) (pg_name (i := 2) sc__law_pivots.nd rfl (by first | exact Or.inl rfl | exact Or.inr rfl))
      (pss_one (ps_expr (pe_bm PySem.F.plainAttrs_list PySem.F.slot_list_append PySem.F.type_list_append mt_append (pv 1) (pa_cons (pe_ix (ix_listK (K := K)) (pe_lc (own := [("at", 3)]) rfl sc__law_pivots.nd (pi_range1 rfl T.m_range (pa_cons (pe_callB (c_len (K := K)) (by rfl) T.m_len PySem.boot_len (pa_cons (pv 2) pa_nil)) pa_nil)) (blkOk_by (N := ["rows", "found", "row", "at"]) (sc := defScope s__law_pivots) (by decide +kernel)) (fun _ _ _ _ _ => (pg_name (i := 3) sc__law_pivots.nd rfl (by first | exact Or.inl rfl | exact Or.inr rfl))) (fun _ _ _ _ _ => (pts_one (pt_cmpR op_ne (pe_ix (ix_tupK (K := K)) (pe_ix (ix_tupK (K := K)) (pv 2) (pv 3) (fun _ _ => rfl)) pe_int (fun _ _ => rfl)) pe_int (nomark _)))) (fun _ _ _ _ _ => (pv 3))) pe_int (fun _ _ => rfl)) pa_nil)))))
    (pss_one (ps_ret (pv 1))))), ?_⟩
    generalize start _ _ = σ at c0 ⊢
    try dsimp only [tAsg, tRet, tRetN, tOp, tUn, tTest, tB, tCons, tNil, tCB, tC, tNext, tCallS, tDrop, tNot, tNotV, tSl, tNoPart, tPart, tBM, tBM0, iList, iTup, iStr, iSrc, iRng1, iRng2, iEnumS, iZipS, tBreak, tCont, gSub, tAug, tMth, tMakeS, tM1, tM0, tFld, cxOf]
    try dsimp only at hm
    unfold m__law_pivots at hm
    refine w_seq ?_
    try try dsimp only [tAsg, tRet, tRetN, tOp, tUn, tTest, tB, tCons, tNil, tCB, tC, tNext, tCallS, tDrop, tNot, tNotV, tSl, tNoPart, tPart, tBM, tBM0, iList, iTup, iStr, iSrc, iRng1, iRng2, iEnumS, iZipS, tBreak, tCont, gSub, tAug, tMth, tMakeS, tM1, tM0, tFld, cxOf]
    refine w_lst ?_
    try dsimp only [tAsg, tRet, tRetN, tOp, tUn, tTest, tB, tCons, tNil, tCB, tC, tNext, tCallS, tDrop, tNot, tNotV, tSl, tNoPart, tPart, tBM, tBM0, iList, iTup, iStr, iSrc, iRng1, iRng2, iEnumS, iZipS, tBreak, tCont, gSub, tAug, tMth, tMakeS, tM1, tM0, tFld, cxOf]
    refine n_lstO c0 Reps.nil (by show (0 : Nat) ≤ sizeLine; decide) fun v1 H1 c1 r1 => ?_
    refine s_setO (i := 1) (ss' := [.val ((eL (eT (eP D.int D.int))) rows), .own (List.map D.int ([] : List Int)), .un, .un]) c1 (.inl (by decide)) r1 rfl fun σ c2 => ?_
    refine w_seq ?_
    try try dsimp only [tAsg, tRet, tRetN, tOp, tUn, tTest, tB, tCons, tNil, tCB, tC, tNext, tCallS, tDrop, tNot, tNotV, tSl, tNoPart, tPart, tBM, tBM0, iList, iTup, iStr, iSrc, iRng1, iRng2, iEnumS, iZipS, tBreak, tCont, gSub, tAug, tMth, tMakeS, tM1, tM0, tFld, cxOf]
    refine w_for ?_
    try dsimp only [tAsg, tRet, tRetN, tOp, tUn, tTest, tB, tCons, tNil, tCB, tC, tNext, tCallS, tDrop, tNot, tNotV, tSl, tNoPart, tPart, tBM, tBM0, iList, iTup, iStr, iSrc, iRng1, iRng2, iEnumS, iZipS, tBreak, tCont, gSub, tAug, tMth, tMakeS, tM1, tM0, tFld, cxOf]
    refine s_var c2 (i := 0) rfl fun v3 r4 => ?_
    have sl5 := lenL (show Rep K _ _ ((eL (eT (eP D.int D.int))) rows) from r4)
    obtain ⟨a5, q5, x5, it5⟩ := x_list c2 (show Rep K _ _ ((eL (eT (eP D.int D.int))) rows) from r4)
    refine ⟨a5, q5, x5, ?_⟩
    refine s_forP (vs := [2]) (nx := fun st6 => [.val ((eL (eT (eP D.int D.int))) rows), .own (List.map D.int st6), .un, .un]) (ss' := fun z6 st6 => [.val ((eL (eT (eP D.int D.int))) rows), .own (List.map D.int st6), .val ((eT (eP D.int D.int)) z6), .un]) (s0 := ([] : List Int)) s hm c2 it5 (.inl (by decide)) (tg_name (by decide)) (fun _ _ => rfl) (fun z6 st6 F6 H6 σ P6 N6 s6 h6 zm6 e6 c6 kn6 => ?_) (fun st6 F6 H6 σ hm6 e6 c6 => ?_)
    ·
      try try dsimp only [tAsg, tRet, tRetN, tOp, tUn, tTest, tB, tCons, tNil, tCB, tC, tNext, tCallS, tDrop, tNot, tNotV, tSl, tNoPart, tPart, tBM, tBM0, iList, iTup, iStr, iSrc, iRng1, iRng2, iEnumS, iZipS, tBreak, tCont, gSub, tAug, tMth, tMakeS, tM1, tM0, tFld, cxOf]
      refine s_varO c6 (i := 1) rfl fun a7 xs7 ha7 hx7 l7 t7 => ?_
      refine ⟨s_tyO hx7, ?_⟩
      refine w_lc ?_
      try dsimp only [tAsg, tRet, tRetN, tOp, tUn, tTest, tB, tCons, tNil, tCB, tC, tNext, tCallS, tDrop, tNot, tNotV, tSl, tNoPart, tPart, tBM, tBM0, iList, iTup, iStr, iSrc, iRng1, iRng2, iEnumS, iZipS, tBreak, tCont, gSub, tAug, tMth, tMakeS, tM1, tM0, tFld, cxOf]
      refine s_var c6 (i := 2) rfl fun v8 r9 => ?_
      refine n_lenT c6 (show Rep K _ _ ((eT (eP D.int D.int)) z6) from r9) ?_
      obtain ⟨zs12, q10, hm11, b10, hl10, it10⟩ := x_rngL (F := F6) s6 h6
      replace it10 := it_rng1 it10
      refine ⟨_, rfl, b10.2.2.1, b10.2.2.2, ?_⟩
      refine s_compF (vs := [3]) (en := D.int) (ss' := fun z13 => [.val ((eL (eT (eP D.int D.int))) rows), .rd (List.map D.int st6), .val ((eT (eP D.int D.int)) z6), .val (D.int z13)]) s6 hm11 c6 it10 (.inl (by decide)) (tg_name (by decide)) (fun _ => rfl) hl10 (fun B13 z13 F13 H13 σ13 P13 G13 Sk13 hio13 s13 h13 zm13 e13 c13 kd13 ks13 => ?_) (fun v13 bs13 HH13 hm13 q13 => ?_)
      ·
        replace s13 := s13 4 (fun _ _ _ _ => False) (ecl ad)
        try dsimp only [tAsg, tRet, tRetN, tOp, tUn, tTest, tB, tCons, tNil, tCB, tC, tNext, tCallS, tDrop, tNot, tNotV, tSl, tNoPart, tPart, tBM, tBM0, iList, iTup, iStr, iSrc, iRng1, iRng2, iEnumS, iZipS, tBreak, tCont, gSub, tAug, tMth, tMakeS, tM1, tM0, tFld, cxOf]
        refine s_var c13 (i := 2) rfl fun v14 r15 => ?_
        refine s_varI c13 (i := 3) rfl ?_
        refine s_ixTv (en := (eP D.int D.int)) s13 h13 c13 (show Rep K _ _ ((eT (eP D.int D.int)) z6) from r15) fun x16 v19 q18 hm17 r20 => ?_
        refine s_ixT c13 (show Rep K _ _ ((eP D.int D.int) x16) from r20) (d := D.int x16.1) rfl fun v21 r22 => ?_
        cases r22
        refine s_neI ?_
        refine s_test' ?_
        refine s_ite hm17 (fun _ hm23 => ?_) (fun _ hm24 => ?_)
        ·
          refine s_varI c13 (i := 3) rfl ?_
          exact kd13 _ _ _ _ _ _ hm23 c13 (show Rep K _ _ (D.int z13) from (Rep.int _))
        ·
          exact ks13 _ _ _ _ hm24 c13
      ·
        obtain ⟨F25, e25, c25, r25⟩ := q13
        obtain ⟨F26, e26, c26, r26⟩ := Nw.frz c25 r25
        refine s_ixLv (en := D.int) s6 hm13 c26 (show Rep K _ _ ((eL D.int) bs13) from r26) fun x27 v30 q29 hm28 r31 => ?_
        cases r31
        refine s_append (i := 1) (en := D.int) (ss' := fun ys => [.val ((eL (eT (eP D.int D.int))) rows), .own (List.map D.int ys), .val ((eT (eP D.int D.int)) z6), .un]) s6 hm28 c26 ha7 rfl (show Rep K _ _ (D.int x27) from (Rep.int _)) rfl fun x32 H34 hm33 c35 => ?_
        exact kn6 x32 _ _ _ hm33 (e25.trans e26) (c35.drop 2)
    ·
      have c36 := c6
      try try dsimp only [tAsg, tRet, tRetN, tOp, tUn, tTest, tB, tCons, tNil, tCB, tC, tNext, tCallS, tDrop, tNot, tNotV, tSl, tNoPart, tPart, tBM, tBM0, iList, iTup, iStr, iSrc, iRng1, iRng2, iEnumS, iZipS, tBreak, tCont, gSub, tAug, tMth, tMakeS, tM1, tM0, tFld, cxOf]
      refine s_varO c36 (i := 1) rfl fun a37 xs37 ha37 hx37 l37 t37 => ?_
      obtain ⟨F38, e38, c38⟩ := c36.frz (i := 1) rfl
      replace c38 : Ctx K _ _ _ _ [.val ((eL (eT (eP D.int D.int))) rows), .val ((eL D.int) st6), .un, .un] := c38
      obtain ⟨v39, hv38, r40⟩ := c38.val (i := 1) rfl
      cases ha37.symm.trans hv38
      exact Fin.ret (d := (eL D.int) st6) hm6 c38 (r40) rfl (.inl rfl)
@[irreducible] def m_primitive (integers : (List Int)) : Res (List Int) :=
  (m_content integers).bind fun y3 =>
  if (decide ((1 : Int) < y3)) = true then
    (mapR (fun z10 =>
    (divR z10 y3).bind fun x11 =>
  Res.ok x11) integers).bind fun bs10 =>
  Res.ok bs10
  else
    Res.ok integers
abbrev sp_primitive (K : PySem.W.Frag) (ad : Nat → Addr) : Sp := SpP (π := ((List Int) × Bool)) K (ecl ad) (fun x => [(eSq x.2 D.int) x.1]) (fun x => m_primitive x.1) (fun y => .val ((eT D.int) y))
theorem ok_primitive (T : Txt K w mg ad fd) : Cm P w K mg base 2 (ad 14) (fd 14) ["integers"] (sp_primitive K ad) := by
  refine ⟨T.f_primitive.okG sc_primitive (fun vs H Q E h => ?_) (fun cdv A outer sh H0 vs Q E gd hr h => ?_), T.f_primitive.binds (ps := ["integers"]) fun _ _ _ _ _ _ us hl => match us, hl with | [_], _ => rfl⟩
  · obtain ⟨F, x, _, r, _⟩ := h
    exact r.length
  · obtain ⟨F0, ⟨integers, fl_integers⟩, fh0, r0, hm⟩ := h
    have hu := hr.units
    have r0 : Reps K F0 vs [(eSq fl_integers D.int) integers] := r0
    have c0 : Ctx K ⟨F0, H0, none⟩ F0 H0 (start ["integers", "shared", "a"] vs) [.val ((eSq fl_integers D.int) integers), .un, .un] := ctx_start fh0 r0 rfl (by show (1 : Nat) ≤ 3; decide)
    have s := Fin.sct (K := K) (B := ⟨F0, H0, none⟩) (n := 3) (cl := ecl ad) (rt := fun y => .val ((eT D.int) y)) (out := fun _ : (List Int) => []) (Q := Q) (E := E)
    refine ⟨_, (pss_cons (ps_set (i := 1) sc_primitive.nd rfl (by first | exact Or.inl rfl | exact Or.inr rfl) (pe_cm (ok_content T (P := P) (w := w) (base := base)) gd (hr.mono (by decide)) T.g_content T.f_content.kp (L2N.takes_of rfl rfl rfl rfl) (pa_cons (pv 0) pa_nil)))
    (pss_cons (ps_if (pt_cmpR op_gt (pv 1) pe_int (nomark _)) (pss_one (ps_ret (pe_callTy (T := "tuple") (c_tuple (K := K)) (by rfl) T.m_tuple (by decide +kernel) (pa_cons (pe_lc (own := [("a", 2)]) rfl sc_primitive.nd (pi_src (pv 0)) (blkOk_by (N := ["integers", "shared", "a"]) (sc := defScope s_primitive) (by decide +kernel)) (fun _ _ _ _ _ => (pg_name (i := 2) sc_primitive.nd rfl (by first | exact Or.inl rfl | exact Or.inr rfl))) (fun _ _ _ _ _ => pts_nil) (fun _ _ _ _ _ => (pe_op op_fdivG (pv 2) (pv 1)))) pa_nil)))) pss_nil)
    (pss_one (ps_ret (pe_callTy (T := "tuple") (c_tuple (K := K)) (by rfl) T.m_tuple (by decide +kernel) (pa_cons (pv 0) pa_nil)))))), ?_⟩
    generalize start _ _ = σ at c0 ⊢
    try dsimp only [tAsg, tRet, tRetN, tOp, tUn, tTest, tB, tCons, tNil, tCB, tC, tNext, tCallS, tDrop, tNot, tNotV, tSl, tNoPart, tPart, tBM, tBM0, iList, iTup, iStr, iSrc, iRng1, iRng2, iEnumS, iZipS, tBreak, tCont, gSub, tAug, tMth, tMakeS, tM1, tM0, tFld, cxOf]
    try dsimp only at hm
    unfold m_primitive at hm
    refine w_seq ?_
    try try dsimp only [tAsg, tRet, tRetN, tOp, tUn, tTest, tB, tCons, tNil, tCB, tC, tNext, tCallS, tDrop, tNot, tNotV, tSl, tNoPart, tPart, tBM, tBM0, iList, iTup, iStr, iSrc, iRng1, iRng2, iEnumS, iZipS, tBreak, tCont, gSub, tAug, tMth, tMakeS, tM1, tM0, tFld, cxOf]
    refine s_var c0 (i := 0) rfl fun v1 r2 => ?_
    refine s_call (ps := (fun x : ((List Int) × Bool) => [(eSq x.2 D.int) x.1])) (m := (fun x => m_content x.1)) (x := (integers, fl_integers)) s hm c0 rfl (Reps.cons (show Rep K _ _ ((eSq fl_integers D.int) integers) from r2) Reps.nil) fun y3 v3 F3 H3 hm3 e3 c3 r3 => ?_
    cases (show Rep K _ _ (D.int y3) from r3)
    refine s_set (i := 1) (d := D.int y3) (ss' := [.val ((eSq fl_integers D.int) integers), .val (D.int y3), .un]) c3 (.inl (by decide)) ((Rep.int _)) rfl fun σ c4 => ?_
    refine w_seq ?_
    refine w_ifS ?_
    try dsimp only [tAsg, tRet, tRetN, tOp, tUn, tTest, tB, tCons, tNil, tCB, tC, tNext, tCallS, tDrop, tNot, tNotV, tSl, tNoPart, tPart, tBM, tBM0, iList, iTup, iStr, iSrc, iRng1, iRng2, iEnumS, iZipS, tBreak, tCont, gSub, tAug, tMth, tMakeS, tM1, tM0, tFld, cxOf]
    refine s_varI c4 (i := 1) rfl ?_
    refine s_i0 ?_
    refine s_test' ?_
    refine s_ite hm3 (fun _ hm5 => ?_) (fun _ hm6 => ?_)
    ·
      try try dsimp only [tAsg, tRet, tRetN, tOp, tUn, tTest, tB, tCons, tNil, tCB, tC, tNext, tCallS, tDrop, tNot, tNotV, tSl, tNoPart, tPart, tBM, tBM0, iList, iTup, iStr, iSrc, iRng1, iRng2, iEnumS, iZipS, tBreak, tCont, gSub, tAug, tMth, tMakeS, tM1, tM0, tFld, cxOf]
      refine w_lc ?_
      try dsimp only [tAsg, tRet, tRetN, tOp, tUn, tTest, tB, tCons, tNil, tCB, tC, tNext, tCallS, tDrop, tNot, tNotV, tSl, tNoPart, tPart, tBM, tBM0, iList, iTup, iStr, iSrc, iRng1, iRng2, iEnumS, iZipS, tBreak, tCont, gSub, tAug, tMth, tMakeS, tM1, tM0, tFld, cxOf]
      refine s_var c4 (i := 0) rfl fun v7 r8 => ?_
      have sl9 := lenS (show Rep K _ _ ((eSq fl_integers D.int) integers) from r8)
      obtain ⟨S9, q9, w9, x9, it9⟩ := x_src c4 (show Rep K _ _ ((eSq fl_integers D.int) integers) from r8)
      refine ⟨S9, q9, w9, x9, ?_⟩
      refine s_compM (vs := [2]) (en := D.int) (ss' := fun z10 => [.val ((eSq fl_integers D.int) integers), .val (D.int y3), .val (D.int z10)]) s hm5 c4 it9 (.inl (by decide)) (tg_name (by decide)) (fun _ => rfl) sl9 (fun B10 z10 F10 H10 σ10 P10 G10 Sk10 hio10 s10 h10 zm10 e10 c10 kd10 ks10 => ?_) (fun v10 bs10 HH10 hm10 q10 => ?_)
      ·
        replace s10 := s10 3 (fun _ _ _ _ => False) (ecl ad)
        try dsimp only [tAsg, tRet, tRetN, tOp, tUn, tTest, tB, tCons, tNil, tCB, tC, tNext, tCallS, tDrop, tNot, tNotV, tSl, tNoPart, tPart, tBM, tBM0, iList, iTup, iStr, iSrc, iRng1, iRng2, iEnumS, iZipS, tBreak, tCont, gSub, tAug, tMth, tMakeS, tM1, tM0, tFld, cxOf]
        refine s_varI c10 (i := 2) rfl ?_
        refine s_varI c10 (i := 1) rfl ?_
        refine s_fdiv' s10 h10 fun x11 q13 hm12 => ?_
        exact kd10 _ _ _ _ _ _ hm12 c10 (show Rep K _ _ (D.int x11) from (Rep.int _))
      ·
        obtain ⟨F14, e14, c14, r14⟩ := q10
        obtain ⟨F15, e15, c15, r15⟩ := Nw.frz c14 r14
        refine n_tupL c15 (show Rep K _ _ ((eL D.int) bs10) from r15) fun v16 F16 H16 e16 c16 r16 => ?_
        exact Fin.ret (d := (eT D.int) bs10) hm10 c16 (r16) rfl (.inl rfl)
    ·
      try try dsimp only [tAsg, tRet, tRetN, tOp, tUn, tTest, tB, tCons, tNil, tCB, tC, tNext, tCallS, tDrop, tNot, tNotV, tSl, tNoPart, tPart, tBM, tBM0, iList, iTup, iStr, iSrc, iRng1, iRng2, iEnumS, iZipS, tBreak, tCont, gSub, tAug, tMth, tMakeS, tM1, tM0, tFld, cxOf]
      refine s_var c4 (i := 0) rfl fun v17 r18 => ?_
      refine n_tupS c4 (show Rep K _ _ ((eSq fl_integers D.int) integers) from r18) fun v19 F19 H19 e19 c19 r19 => ?_
      exact Fin.ret (d := (eT D.int) integers) hm6 c19 (r19) rfl (.inl rfl)
@[irreducible] def m_is_number_row (width : Int) (row : (List (Int × Int))) : Res Bool :=
  (if true = true then if (decide ((row.length : Int) = width)) = true then (mapR (fun z13 =>
    (m_is_number z13).bind fun y16 =>
  Res.ok y16) row).bind fun bs13 =>
  Res.ok (List.all bs13 id) else Res.ok false else Res.ok false).bind fun y1 =>
  Res.ok y1
abbrev sp_is_number_row (K : PySem.W.Frag) (ad : Nat → Addr) : Sp := SpP (π := (Int × (List (Int × Int)))) K (ecl ad) (fun x => [D.int x.1, (eT (eP D.int D.int)) x.2]) (fun x => m_is_number_row x.1 x.2) (fun y => .val (D.bl y))
theorem ok_is_number_row (T : Txt K w mg ad fd) : Cm P w K mg base 2 (ad 20) (fd 20) ["width", "row"] (sp_is_number_row K ad) := by
  refine ⟨T.f_is_number_row.okG sc_is_number_row (fun vs H Q E h => ?_) (fun cdv A outer sh H0 vs Q E gd hr h => ?_), T.f_is_number_row.binds (ps := ["width", "row"]) fun _ _ _ _ _ _ us hl => match us, hl with | [_, _], _ => rfl⟩
  · obtain ⟨F, x, _, r, _⟩ := h
    exact r.length
  · obtain ⟨F0, ⟨width, row⟩, fh0, r0, hm⟩ := h
    have hu := hr.units
    have r0 : Reps K F0 vs [D.int width, (eT (eP D.int D.int)) row] := r0
    have c0 : Ctx K ⟨F0, H0, none⟩ F0 H0 (start ["width", "row", "x"] vs) [.val (D.int width), .val ((eT (eP D.int D.int)) row), .un] := ctx_start fh0 r0 rfl (by show (2 : Nat) ≤ 3; decide)
    have s := Fin.sct (K := K) (B := ⟨F0, H0, none⟩) (n := 3) (cl := ecl ad) (rt := fun y => .val (D.bl y)) (out := fun _ : Bool => []) (Q := Q) (E := E)
    refine ⟨_, (pss_one (ps_ret (pe_and (pe_callB call_isi (by rfl) T.m_isinstance (by decide +kernel) (pa_cons (pv 1) (pa_cons (pe_bltn (by rfl) T.m_tuple (v := .ty "tuple") (u := .type "tuple") rfl rfl) pa_nil))) (pe_and (pe_cmpR op_eq (pe_callB (c_len (K := K)) (by rfl) T.m_len PySem.boot_len (pa_cons (pv 1) pa_nil)) (pv 0) (nomark _)) (pe_one (pe_callB (cr_all rfl) (by rfl) T.m_all (by decide +kernel) (pa_cons (pe_lc (own := [("x", 2)]) rfl sc_is_number_row.nd (pi_tup (pv 1)) (blkOk_by (N := ["width", "row", "x"]) (sc := defScope s_is_number_row) (by decide +kernel)) (fun _ _ _ _ _ => (pg_name (i := 2) sc_is_number_row.nd rfl (by first | exact Or.inl rfl | exact Or.inr rfl))) (fun _ _ _ _ _ => pts_nil) (fun _ _ _ _ _ => (pe_cm (ok_is_number T (P := P) (w := w) (base := base)) gd (hr.mono (by decide)) T.g_is_number T.f_is_number.kp takes0N (pa_cons (pv 2) pa_nil)))) pa_nil))))))), ?_⟩
    generalize start _ _ = σ at c0 ⊢
    try dsimp only [tAsg, tRet, tRetN, tOp, tUn, tTest, tB, tCons, tNil, tCB, tC, tNext, tCallS, tDrop, tNot, tNotV, tSl, tNoPart, tPart, tBM, tBM0, iList, iTup, iStr, iSrc, iRng1, iRng2, iEnumS, iZipS, tBreak, tCont, gSub, tAug, tMth, tMakeS, tM1, tM0, tFld, cxOf]
    try dsimp only at hm
    unfold m_is_number_row at hm
    try try dsimp only [tAsg, tRet, tRetN, tOp, tUn, tTest, tB, tCons, tNil, tCB, tC, tNext, tCallS, tDrop, tNot, tNotV, tSl, tNoPart, tPart, tBM, tBM0, iList, iTup, iStr, iSrc, iRng1, iRng2, iEnumS, iZipS, tBreak, tCont, gSub, tAug, tMth, tMakeS, tM1, tM0, tFld, cxOf]
    refine s_cutE (F := F0) (nx := fun _ => [.val (D.int width), .val ((eT (eP D.int D.int)) row), .un]) (en := D.bl) s hm (fun y1 v1 F1 H1 hm1 e1 c1 r1 => ?_) (fun P1 Q1 s1 h1 kn1 => ?_)
    ·
      cases r1
      exact Fin.ret (d := D.bl y1) hm1 c1 ((Rep.bl _)) rfl (.inl rfl)
    ·
      refine w_andV ?_
      try dsimp only [tAsg, tRet, tRetN, tOp, tUn, tTest, tB, tCons, tNil, tCB, tC, tNext, tCallS, tDrop, tNot, tNotV, tSl, tNoPart, tPart, tBM, tBM0, iList, iTup, iStr, iSrc, iRng1, iRng2, iEnumS, iZipS, tBreak, tCont, gSub, tAug, tMth, tMakeS, tM1, tM0, tFld, cxOf]
      refine s_var c0 (i := 1) rfl fun v2 r3 => ?_
      refine s_isiT (b := true) c0 (show Rep K _ _ ((eT (eP D.int D.int)) row) from r3) ⟨_, rfl⟩ (kit_ty (by decide +kernel)) ?_
      refine s_test' ?_
      refine s_ite h1 (fun _ hm4 => ?_) (fun _ hm5 => ?_)
      ·
        refine w_andV ?_
        try dsimp only [tAsg, tRet, tRetN, tOp, tUn, tTest, tB, tCons, tNil, tCB, tC, tNext, tCallS, tDrop, tNot, tNotV, tSl, tNoPart, tPart, tBM, tBM0, iList, iTup, iStr, iSrc, iRng1, iRng2, iEnumS, iZipS, tBreak, tCont, gSub, tAug, tMth, tMakeS, tM1, tM0, tFld, cxOf]
        refine s_var c0 (i := 1) rfl fun v6 r7 => ?_
        refine n_lenT c0 (show Rep K _ _ ((eT (eP D.int D.int)) row) from r7) ?_
        refine s_varI c0 (i := 0) rfl ?_
        refine s_eqI ?_
        refine s_test' ?_
        refine s_ite hm4 (fun _ hm8 => ?_) (fun _ hm9 => ?_)
        ·
          refine w_lc ?_
          try dsimp only [tAsg, tRet, tRetN, tOp, tUn, tTest, tB, tCons, tNil, tCB, tC, tNext, tCallS, tDrop, tNot, tNotV, tSl, tNoPart, tPart, tBM, tBM0, iList, iTup, iStr, iSrc, iRng1, iRng2, iEnumS, iZipS, tBreak, tCont, gSub, tAug, tMth, tMakeS, tM1, tM0, tFld, cxOf]
          refine s_var c0 (i := 1) rfl fun v10 r11 => ?_
          have sl12 := lenT (show Rep K _ _ ((eT (eP D.int D.int)) row) from r11)
          obtain ⟨a12, q12, x12, it12⟩ := x_tup c0 (show Rep K _ _ ((eT (eP D.int D.int)) row) from r11)
          refine ⟨a12, q12, x12, ?_⟩
          refine s_compM (vs := [2]) (en := D.bl) (ss' := fun z13 => [.val (D.int width), .val ((eT (eP D.int D.int)) row), .val ((eP D.int D.int) z13)]) s1 hm8 c0 it12 (.inl (by decide)) (tg_name (by decide)) (fun _ => rfl) sl12 (fun B13 z13 F13 H13 σ13 P13 G13 Sk13 hio13 s13 h13 zm13 e13 c13 kd13 ks13 => ?_) (fun v13 bs13 HH13 hm13 q13 => ?_)
          ·
            replace s13 := s13 3 (fun _ _ _ _ => False) (ecl ad)
            try dsimp only [tAsg, tRet, tRetN, tOp, tUn, tTest, tB, tCons, tNil, tCB, tC, tNext, tCallS, tDrop, tNot, tNotV, tSl, tNoPart, tPart, tBM, tBM0, iList, iTup, iStr, iSrc, iRng1, iRng2, iEnumS, iZipS, tBreak, tCont, gSub, tAug, tMth, tMakeS, tM1, tM0, tFld, cxOf]
            refine s_var c13 (i := 2) rfl fun v14 r15 => ?_
            refine s_call (ps := (fun x : (Int × Int) => [(eP D.int D.int) x])) (m := (fun x => m_is_number x)) (x := (z13)) s13 h13 c13 rfl (Reps.cons (show Rep K _ _ ((eP D.int D.int) z13) from r15) Reps.nil) fun y16 v16 F16 H16 hm16 e16 c16 r16 => ?_
            cases (show Rep K _ _ (D.bl y16) from r16)
            exact kd13 _ _ _ _ _ _ hm16 c16 (show Rep K _ _ (D.bl y16) from (Rep.bl _))
          ·
            obtain ⟨F17, e17, c17, r17⟩ := q13
            obtain ⟨F18, e18, c18, r18⟩ := Nw.frz c17 r17
            refine s_all c18 (show Rep K _ _ ((eL D.bl) bs13) from r18) ?_
            exact kn1 _ _ _ _ hm13 (e17.trans e18) c18 (show Rep K _ _ (D.bl (List.all bs13 id)) from (Rep.bl _))
        ·
          exact kn1 _ _ _ _ hm9 (Ex.refl _) c0 (show Rep K _ _ (D.bl false) from (Rep.bl _))
      ·
        exact kn1 _ _ _ _ hm5 (Ex.refl _) c0 (show Rep K _ _ (D.bl false) from (Rep.bl _))
@[irreducible] def m_solution_from (width : Int) (found : (List (Int × (List Int)))) : Res (Option (List (Int × Int))) :=
  (repLR [((0 : Int), (1 : Int))] width).bind fun x2 =>
  (loopC (fun z9 st9 =>
    if (decide (z9.1 = width)) = true then
    Res.ok (Ctl.rt none)
  else
    (ix z9.2 width).bind fun x15 =>
  (ix z9.2 z9.1).bind fun x22 =>
  (m_number x15 x22).bind fun y27 =>
  (setR st9 z9.1 y27).bind fun x29 =>
  Res.ok (Ctl.nx x29)) found x2).bind (Ctl.then (fun st9 =>
  Res.ok (some st9)) (fun r => Res.ok r))
abbrev sp_solution_from (K : PySem.W.Frag) (ad : Nat → Addr) : Sp := SpP (π := (Int × (List (Int × (List Int))))) K (ecl ad) (fun x => [D.int x.1, (eL (eP D.int (eT D.int))) x.2]) (fun x => m_solution_from x.1 x.2) (fun y => .val ((eO (eT (eP D.int D.int))) y))
theorem ok_solution_from (T : Txt K w mg ad fd) : Cm P w K mg base 2 (ad 26) (fd 26) ["width", "found"] (sp_solution_from K ad) := by
  refine ⟨T.f_solution_from.okG sc_solution_from (fun vs H Q E h => ?_) (fun cdv A outer sh H0 vs Q E gd hr h => ?_), T.f_solution_from.binds (ps := ["width", "found"]) fun _ _ _ _ _ _ us hl => match us, hl with | [_, _], _ => rfl⟩
  · obtain ⟨F, x, _, r, _⟩ := h
    exact r.length
  · obtain ⟨F0, ⟨width, found⟩, fh0, r0, hm⟩ := h
    have hu := hr.units
    have r0 : Reps K F0 vs [D.int width, (eL (eP D.int (eT D.int))) found] := r0
    have c0 : Ctx K ⟨F0, H0, none⟩ F0 H0 (start ["width", "found", "row", "pivot", "line"] vs) [.val (D.int width), .val ((eL (eP D.int (eT D.int))) found), .un, .un, .un] := ctx_start fh0 r0 rfl (by show (2 : Nat) ≤ 5; decide)
    have s := Fin.sct (K := K) (B := ⟨F0, H0, none⟩) (n := 5) (cl := ecl ad) (rt := fun y => .val ((eO (eT (eP D.int D.int))) y)) (out := fun _ : (Option (List (Int × Int))) => []) (Q := Q) (E := E)
    obtain ⟨t_ZERO, g_ZERO, rt_ZERO⟩ := T.v_ZERO
    refine ⟨_, (pss_cons (ps_set (i := 2) sc_solution_from.nd rfl (by first | exact Or.inl rfl | exact Or.inr rfl) (pe_op op_rep (pe_lst (pa_cons (pe_globR (f := t_ZERO) g_ZERO) pa_nil)) (pv 0)))
    (pss_cons (ps_for (by first | exact PassesOwn.never | exact passes_of rfl) rfl (pi_list (pv 1)) (pg_tup (n := 2) rfl (pgs_cons (pg_name (i := 3) sc_solution_from.nd rfl (by first | exact Or.inl rfl | exact Or.inr rfl)) (pgs_cons (pg_name (i := 4) sc_solution_from.nd rfl (by first | exact Or.inl rfl | exact Or.inr rfl)) pgs_nil)))
      (pss_cons (ps_if (pt_cmpR op_eq (pv 3) (pv 0) (nomark _)) (pss_one (ps_ret pe_non)) pss_nil)
    (pss_one (ps_asg (pe_cm (ok_number T (P := P) (w := w) (base := base)) gd (hr.mono (by decide)) T.g_number T.f_number.kp (L2N.takes_of rfl rfl rfl rfl) (pa_cons (pe_ix (ix_tupK (K := K)) (pv 4) (pv 0) (fun _ _ => rfl)) (pa_cons (pe_ix (ix_tupK (K := K)) (pv 4) (pv 3) (fun _ _ => rfl)) pa_nil))) (pg_sub (pv 2) (pv 3) set_list)))))
    (pss_one (ps_ret (pe_callTy (T := "tuple") (c_tuple (K := K)) (by rfl) T.m_tuple (by decide +kernel) (pa_cons (pv 2) pa_nil)))))), ?_⟩
    generalize start _ _ = σ at c0 ⊢
    try dsimp only [tAsg, tRet, tRetN, tOp, tUn, tTest, tB, tCons, tNil, tCB, tC, tNext, tCallS, tDrop, tNot, tNotV, tSl, tNoPart, tPart, tBM, tBM0, iList, iTup, iStr, iSrc, iRng1, iRng2, iEnumS, iZipS, tBreak, tCont, gSub, tAug, tMth, tMakeS, tM1, tM0, tFld, cxOf]
    try dsimp only at hm
    unfold m_solution_from at hm
    refine w_seq ?_
    try try dsimp only [tAsg, tRet, tRetN, tOp, tUn, tTest, tB, tCons, tNil, tCB, tC, tNext, tCallS, tDrop, tNot, tNotV, tSl, tNoPart, tPart, tBM, tBM0, iList, iTup, iStr, iSrc, iRng1, iRng2, iEnumS, iZipS, tBreak, tCont, gSub, tAug, tMth, tMakeS, tM1, tM0, tFld, cxOf]
    refine w_lst ?_
    try dsimp only [tAsg, tRet, tRetN, tOp, tUn, tTest, tB, tCons, tNil, tCB, tC, tNext, tCallS, tDrop, tNot, tNotV, tSl, tNoPart, tPart, tBM, tBM0, iList, iTup, iStr, iSrc, iRng1, iRng2, iEnumS, iZipS, tBreak, tCont, gSub, tAug, tMth, tMakeS, tM1, tM0, tFld, cxOf]
    refine n_lst c0 (Reps.cons (rt_ZERO (F := F0)) Reps.nil) (by show (1 : Nat) ≤ sizeLine; decide) fun v1 F1 H1 e1 c1 r1 => ?_
    refine s_varI c1 (i := 0) rfl ?_
    refine s_repL s hm c1 (show Rep K _ _ ((eL (eP D.int D.int)) [((0 : Int), (1 : Int))]) from r1) fun x2 v4 H4 hm3 c4 r4 => ?_
    refine s_setO (i := 2) (ss' := [.val (D.int width), .val ((eL (eP D.int (eT D.int))) found), .own (List.map (eP D.int D.int) x2), .un, .un]) c4 (.inl (by decide)) r4 rfl fun σ c5 => ?_
    refine w_seq ?_
    try try dsimp only [tAsg, tRet, tRetN, tOp, tUn, tTest, tB, tCons, tNil, tCB, tC, tNext, tCallS, tDrop, tNot, tNotV, tSl, tNoPart, tPart, tBM, tBM0, iList, iTup, iStr, iSrc, iRng1, iRng2, iEnumS, iZipS, tBreak, tCont, gSub, tAug, tMth, tMakeS, tM1, tM0, tFld, cxOf]
    refine w_for ?_
    try dsimp only [tAsg, tRet, tRetN, tOp, tUn, tTest, tB, tCons, tNil, tCB, tC, tNext, tCallS, tDrop, tNot, tNotV, tSl, tNoPart, tPart, tBM, tBM0, iList, iTup, iStr, iSrc, iRng1, iRng2, iEnumS, iZipS, tBreak, tCont, gSub, tAug, tMth, tMakeS, tM1, tM0, tFld, cxOf]
    refine s_var c5 (i := 1) rfl fun v6 r7 => ?_
    have sl8 := lenL (show Rep K _ _ ((eL (eP D.int (eT D.int))) found) from r7)
    obtain ⟨a8, q8, x8, it8⟩ := x_list c5 (show Rep K _ _ ((eL (eP D.int (eT D.int))) found) from r7)
    refine ⟨a8, q8, x8, ?_⟩
    refine s_forCP (vs := [3, 4]) (nx := fun st9 => [.val (D.int width), .val ((eL (eP D.int (eT D.int))) found), .own (List.map (eP D.int D.int) st9), .un, .un]) (ss' := fun z9 st9 => [.val (D.int width), .val ((eL (eP D.int (eT D.int))) found), .own (List.map (eP D.int D.int) st9), .val (D.int z9.1), .val ((eT D.int) z9.2)]) (s0 := x2) s hm3 c5 it8 (.inl (by decide)) (tg_pair (by decide) (by decide)) (fun _ _ => rfl) (fun z9 st9 F9 H9 σ P9 N9 s9 h9 zm9 e9 c9 kn9 kb9 kr9 => ?_) (fun st9 F9 H9 σ hm9 e9 c9 => ?_)
    ·
      refine w_seq ?_
      refine w_ifS ?_
      try dsimp only [tAsg, tRet, tRetN, tOp, tUn, tTest, tB, tCons, tNil, tCB, tC, tNext, tCallS, tDrop, tNot, tNotV, tSl, tNoPart, tPart, tBM, tBM0, iList, iTup, iStr, iSrc, iRng1, iRng2, iEnumS, iZipS, tBreak, tCont, gSub, tAug, tMth, tMakeS, tM1, tM0, tFld, cxOf]
      refine s_varI c9 (i := 3) rfl ?_
      refine s_varI c9 (i := 0) rfl ?_
      refine s_eqI ?_
      refine s_test' ?_
      refine s_ite h9 (fun _ hm10 => ?_) (fun _ hm11 => ?_)
      ·
        try try dsimp only [tAsg, tRet, tRetN, tOp, tUn, tTest, tB, tCons, tNil, tCB, tC, tNext, tCallS, tDrop, tNot, tNotV, tSl, tNoPart, tPart, tBM, tBM0, iList, iTup, iStr, iSrc, iRng1, iRng2, iEnumS, iZipS, tBreak, tCont, gSub, tAug, tMth, tMakeS, tM1, tM0, tFld, cxOf]
        have hm12 := kr9 _ hm10
        exact Fin.ret (d := (eO (eT (eP D.int D.int))) none) hm12 c9 ((Rep.non.mono (e1.trans e9))) rfl (.inl rfl)
      ·
        try try dsimp only [tAsg, tRet, tRetN, tOp, tUn, tTest, tB, tCons, tNil, tCB, tC, tNext, tCallS, tDrop, tNot, tNotV, tSl, tNoPart, tPart, tBM, tBM0, iList, iTup, iStr, iSrc, iRng1, iRng2, iEnumS, iZipS, tBreak, tCont, gSub, tAug, tMth, tMakeS, tM1, tM0, tFld, cxOf]
        refine s_var c9 (i := 4) rfl fun v13 r14 => ?_
        refine s_varI c9 (i := 0) rfl ?_
        refine s_ixTv (en := D.int) s9 hm11 c9 (show Rep K _ _ ((eT D.int) z9.2) from r14) fun x15 v18 q17 hm16 r19 => ?_
        cases r19
        refine s_var c9 (i := 4) rfl fun v20 r21 => ?_
        refine s_varI c9 (i := 3) rfl ?_
        refine s_ixTv (en := D.int) s9 hm16 c9 (show Rep K _ _ ((eT D.int) z9.2) from r21) fun x22 v25 q24 hm23 r26 => ?_
        cases r26
        refine s_call (ps := (fun x : (Int × Int) => [D.int x.1, D.int x.2])) (m := (fun x => m_number x.1 x.2)) (x := (x15, x22)) s9 hm23 c9 rfl (Reps.cons (show Rep K _ _ (D.int x15) from (Rep.int _)) (Reps.cons (show Rep K _ _ (D.int x22) from (Rep.int _)) Reps.nil)) fun y27 v27 F27 H27 hm27 e27 c27 r27 => ?_
        refine s_varO c27 (i := 2) rfl fun a28 xs28 ha28 hx28 l28 t28 => ?_
        refine s_varI c27 (i := 3) rfl ?_
        refine s_setIx (i := 2) (en := (eP D.int D.int)) (ss' := fun ys => [.val (D.int width), .val ((eL (eP D.int (eT D.int))) found), .own (List.map (eP D.int D.int) ys), .val (D.int z9.1), .val ((eT D.int) z9.2)]) s9 hm27 c27 ha28 rfl (show Rep K _ _ ((eP D.int D.int) y27) from r27) (fun _ => rfl) fun x29 H31 hm30 c31 => ?_
        exact kn9 x29 _ _ _ hm30 e27 ((c31.drop 3).drop 4)
    ·
      have c32 := c9
      try try dsimp only [tAsg, tRet, tRetN, tOp, tUn, tTest, tB, tCons, tNil, tCB, tC, tNext, tCallS, tDrop, tNot, tNotV, tSl, tNoPart, tPart, tBM, tBM0, iList, iTup, iStr, iSrc, iRng1, iRng2, iEnumS, iZipS, tBreak, tCont, gSub, tAug, tMth, tMakeS, tM1, tM0, tFld, cxOf]
      refine s_varO c32 (i := 2) rfl fun a33 xs33 ha33 hx33 l33 t33 => ?_
      refine n_tupO c32 hx33 l33 t33 fun v34 F34 H34 e34 c34 r34 => ?_
      exact Fin.ret (d := (eO (eT (eP D.int D.int))) (some st9)) hm9 c34 (r34) rfl (.inl rfl)
@[irreducible] def m__law_lowest (a : Int) (b : Int) : Res (Int × Int) :=
  (m__law_divisor a b).bind fun y1 =>
  (if (decide (b < (0 : Int))) = true then
    Res.ok ((0 : Int) - y1)
  else
    Res.ok y1).bind fun st3 =>
  (divR a st3).bind fun x4 =>
  (divR b st3).bind fun x7 =>
  Res.ok (x4, x7)
abbrev sp__law_lowest (K : PySem.W.Frag) (ad : Nat → Addr) : Sp := SpP (π := (Int × Int)) K (ecl ad) (fun x => [D.int x.1, D.int x.2]) (fun x => m__law_lowest x.1 x.2) (fun y => .val ((eP D.int D.int) y))
theorem ok__law_lowest (T : Txt K w mg ad fd) : Cm P w K mg base 2 (ad 37) (fd 37) ["a", "b"] (sp__law_lowest K ad) := by
  refine ⟨T.f__law_lowest.okG sc__law_lowest (fun vs H Q E h => ?_) (fun cdv A outer sh H0 vs Q E gd hr h => ?_), T.f__law_lowest.binds (ps := ["a", "b"]) fun _ _ _ _ _ _ us hl => match us, hl with | [_, _], _ => rfl⟩
  · obtain ⟨F, x, _, r, _⟩ := h
    exact r.length
  · obtain ⟨F0, ⟨a, b⟩, fh0, r0, hm⟩ := h
    have hu := hr.units
    have r0 : Reps K F0 vs [D.int a, D.int b] := r0
    have c0 : Ctx K ⟨F0, H0, none⟩ F0 H0 (start ["a", "b", "common"] vs) [.val (D.int a), .val (D.int b), .un] := ctx_start fh0 r0 rfl (by show (2 : Nat) ≤ 3; decide)
    have s := Fin.sct (K := K) (B := ⟨F0, H0, none⟩) (n := 3) (cl := ecl ad) (rt := fun y => .val ((eP D.int D.int) y)) (out := fun _ : (Int × Int) => []) (Q := Q) (E := E)
    refine ⟨_, (pss_cons (ps_set (i := 2) sc__law_lowest.nd rfl (by first | exact Or.inl rfl | exact Or.inr rfl) (pe_cm (ok__law_divisor T (P := P) (w := w) (base := base)) gd (hr.mono (by decide)) T.g__law_divisor T.f__law_divisor.kp (L2N.takes_of rfl rfl rfl rfl) (pa_cons (pv 0) (pa_cons (pv 1) pa_nil))))
    (pss_cons (ps_if (pt_cmpR op_lt (pv 1) pe_int (nomark _)) (pss_one (ps_set (i := 2) sc__law_lowest.nd rfl (by first | exact Or.inl rfl | exact Or.inr rfl) (pe_op op_sub pe_int (pv 2)))) pss_nil)
    (pss_one (ps_ret (pe_tup (pa_cons (pe_op op_fdivG (pv 0) (pv 2)) (pa_cons (pe_op op_fdivG (pv 1) (pv 2)) pa_nil))))))), ?_⟩
    generalize start _ _ = σ at c0 ⊢
    try dsimp only [tAsg, tRet, tRetN, tOp, tUn, tTest, tB, tCons, tNil, tCB, tC, tNext, tCallS, tDrop, tNot, tNotV, tSl, tNoPart, tPart, tBM, tBM0, iList, iTup, iStr, iSrc, iRng1, iRng2, iEnumS, iZipS, tBreak, tCont, gSub, tAug, tMth, tMakeS, tM1, tM0, tFld, cxOf]
    try dsimp only at hm
    unfold m__law_lowest at hm
    refine w_seq ?_
    try try dsimp only [tAsg, tRet, tRetN, tOp, tUn, tTest, tB, tCons, tNil, tCB, tC, tNext, tCallS, tDrop, tNot, tNotV, tSl, tNoPart, tPart, tBM, tBM0, iList, iTup, iStr, iSrc, iRng1, iRng2, iEnumS, iZipS, tBreak, tCont, gSub, tAug, tMth, tMakeS, tM1, tM0, tFld, cxOf]
    refine s_varI c0 (i := 0) rfl ?_
    refine s_varI c0 (i := 1) rfl ?_
    refine s_call (ps := (fun x : (Int × Int) => [D.int x.1, D.int x.2])) (m := (fun x => m__law_divisor x.1 x.2)) (x := (a, b)) s hm c0 rfl (Reps.cons (show Rep K _ _ (D.int a) from (Rep.int _)) (Reps.cons (show Rep K _ _ (D.int b) from (Rep.int _)) Reps.nil)) fun y1 v1 F1 H1 hm1 e1 c1 r1 => ?_
    cases (show Rep K _ _ (D.int y1) from r1)
    refine s_set (i := 2) (d := D.int y1) (ss' := [.val (D.int a), .val (D.int b), .val (D.int y1)]) c1 (.inl (by decide)) ((Rep.int _)) rfl fun σ c2 => ?_
    refine s_cutS (F := F1) (nx := fun st3 => [.val (D.int a), .val (D.int b), .val (D.int st3)]) s hm1 (fun st3 F3 H3 σ hm3 e3 c3 => ?_) (fun P3 N3 s3 h3 kn3 => ?_)
    ·
      try try dsimp only [tAsg, tRet, tRetN, tOp, tUn, tTest, tB, tCons, tNil, tCB, tC, tNext, tCallS, tDrop, tNot, tNotV, tSl, tNoPart, tPart, tBM, tBM0, iList, iTup, iStr, iSrc, iRng1, iRng2, iEnumS, iZipS, tBreak, tCont, gSub, tAug, tMth, tMakeS, tM1, tM0, tFld, cxOf]
      refine w_tup ?_
      try dsimp only [tAsg, tRet, tRetN, tOp, tUn, tTest, tB, tCons, tNil, tCB, tC, tNext, tCallS, tDrop, tNot, tNotV, tSl, tNoPart, tPart, tBM, tBM0, iList, iTup, iStr, iSrc, iRng1, iRng2, iEnumS, iZipS, tBreak, tCont, gSub, tAug, tMth, tMakeS, tM1, tM0, tFld, cxOf]
      refine s_varI c3 (i := 0) rfl ?_
      refine s_varI c3 (i := 2) rfl ?_
      refine s_fdiv' s hm3 fun x4 q6 hm5 => ?_
      refine s_varI c3 (i := 1) rfl ?_
      refine s_varI c3 (i := 2) rfl ?_
      refine s_fdiv' s hm5 fun x7 q9 hm8 => ?_
      refine n_tup c3 (Reps.cons (Rep.int _) (Reps.cons (Rep.int _) Reps.nil)) (by show (2 : Nat) ≤ sizeLine; decide) fun v10 F10 H10 e10 c10 r10 => ?_
      exact Fin.ret (d := (eP D.int D.int) (x4, x7)) hm8 c10 (r10) rfl (.inl rfl)
    ·
      refine w_ifS ?_
      try dsimp only [tAsg, tRet, tRetN, tOp, tUn, tTest, tB, tCons, tNil, tCB, tC, tNext, tCallS, tDrop, tNot, tNotV, tSl, tNoPart, tPart, tBM, tBM0, iList, iTup, iStr, iSrc, iRng1, iRng2, iEnumS, iZipS, tBreak, tCont, gSub, tAug, tMth, tMakeS, tM1, tM0, tFld, cxOf]
      refine s_varI c2 (i := 1) rfl ?_
      refine s_i0 ?_
      refine s_test' ?_
      refine s_ite h3 (fun _ hm11 => ?_) (fun _ hm12 => ?_)
      ·
        try try dsimp only [tAsg, tRet, tRetN, tOp, tUn, tTest, tB, tCons, tNil, tCB, tC, tNext, tCallS, tDrop, tNot, tNotV, tSl, tNoPart, tPart, tBM, tBM0, iList, iTup, iStr, iSrc, iRng1, iRng2, iEnumS, iZipS, tBreak, tCont, gSub, tAug, tMth, tMakeS, tM1, tM0, tFld, cxOf]
        refine s_varI c2 (i := 2) rfl ?_
        refine s_i0 ?_
        refine s_set (i := 2) (d := D.int ((0 : Int) - y1)) (ss' := [.val (D.int a), .val (D.int b), .val (D.int ((0 : Int) - y1))]) c2 (.inl (by decide)) ((Rep.int _)) rfl fun σ c13 => ?_
        exact kn3 ((0 : Int) - y1) _ _ _ hm11 (Ex.refl _) c13
      ·
        exact kn3 y1 _ _ _ hm12 (Ex.refl _) c2
@[irreducible] def m_over_one_divisor (row : (List (Int × Int))) : Res ((List Int) × Int) :=
  (foldR (fun z5 st5 =>
    (m_check_number z5).bind fun y8 =>
  (lcmR st5 z5.2).bind fun x13 =>
  Res.ok x13) row (1 : Int)).bind fun st5 =>
  (mapR (fun z21 =>
    (divR st5 z21.2).bind fun x30 =>
  (mulR z21.1 x30).bind fun x33 =>
  Res.ok x33) row).bind fun bs21 =>
  Res.ok (bs21, st5)
abbrev sp_over_one_divisor (K : PySem.W.Frag) (ad : Nat → Addr) : Sp := SpP (π := (List (Int × Int))) K (ecl ad) (fun x => [(eT (eP D.int D.int)) x]) (fun x => m_over_one_divisor x) (fun y => .val ((eP (eL D.int) D.int) y))
theorem ok_over_one_divisor (T : Txt K w mg ad fd) : Cm P w K mg base 3 (ad 15) (fd 15) ["row"] (sp_over_one_divisor K ad) := by
  refine ⟨T.f_over_one_divisor.okG sc_over_one_divisor (fun vs H Q E h => ?_) (fun cdv A outer sh H0 vs Q E gd hr h => ?_), T.f_over_one_divisor.binds (ps := ["row"]) fun _ _ _ _ _ _ us hl => match us, hl with | [_], _ => rfl⟩
  · obtain ⟨F, x, _, r, _⟩ := h
    exact r.length
  · obtain ⟨F0, row, fh0, r0, hm⟩ := h
    have hu := hr.units
    have r0 : Reps K F0 vs [(eT (eP D.int D.int)) row] := r0
    have c0 : Ctx K ⟨F0, H0, none⟩ F0 H0 (start ["row", "divisor", "x"] vs) [.val ((eT (eP D.int D.int)) row), .un, .un] := ctx_start fh0 r0 rfl (by show (1 : Nat) ≤ 3; decide)
    have s := Fin.sct (K := K) (B := ⟨F0, H0, none⟩) (n := 3) (cl := ecl ad) (rt := fun y => .val ((eP (eL D.int) D.int) y)) (out := fun _ : ((List Int) × Int) => []) (Q := Q) (E := E)
    refine ⟨_, (pss_cons (ps_set (i := 1) sc_over_one_divisor.nd rfl (by first | exact Or.inl rfl | exact Or.inr rfl) pe_int)
    (pss_cons (ps_for (by first | exact PassesOwn.never | exact passes_of rfl) rfl (pi_tup (pv 0)) (pg_name (i := 2) sc_over_one_divisor.nd rfl (by first | exact Or.inl rfl | exact Or.inr rfl))
      (pss_cons (ps_expr (pe_cm (ok_check_number T (P := P) (w := w) (base := base)) gd (hr.mono (by decide)) T.g_check_number T.f_check_number.kp (L2N.takes_of rfl rfl rfl rfl) (pa_cons (pv 2) pa_nil)))
    (pss_one (ps_set (i := 1) sc_over_one_divisor.nd rfl (by first | exact Or.inl rfl | exact Or.inr rfl) (pe_callBfun cr_lcm rfl T.g_lcm (pa_cons (pv 1) (pa_cons (pe_ix (ix_tupK (K := K)) (pv 2) pe_int (fun _ _ => rfl)) pa_nil)))))))
    (pss_one (ps_ret (pe_tup (pa_cons (pe_lc (own := [("x", 2)]) rfl sc_over_one_divisor.nd (pi_tup (pv 0)) (blkOk_by (N := ["row", "divisor", "x"]) (sc := defScope s_over_one_divisor) (by decide +kernel)) (fun _ _ _ _ _ => (pg_name (i := 2) sc_over_one_divisor.nd rfl (by first | exact Or.inl rfl | exact Or.inr rfl))) (fun _ _ _ _ _ => pts_nil) (fun _ _ _ _ _ => (pe_op op_mulW (pe_ix (ix_tupK (K := K)) (pv 2) pe_int (fun _ _ => rfl)) (pe_op op_fdivG (pv 1) (pe_ix (ix_tupK (K := K)) (pv 2) pe_int (fun _ _ => rfl)))))) (pa_cons (pv 1) pa_nil))))))), ?_⟩
    generalize start _ _ = σ at c0 ⊢
    try dsimp only [tAsg, tRet, tRetN, tOp, tUn, tTest, tB, tCons, tNil, tCB, tC, tNext, tCallS, tDrop, tNot, tNotV, tSl, tNoPart, tPart, tBM, tBM0, iList, iTup, iStr, iSrc, iRng1, iRng2, iEnumS, iZipS, tBreak, tCont, gSub, tAug, tMth, tMakeS, tM1, tM0, tFld, cxOf]
    try dsimp only at hm
    unfold m_over_one_divisor at hm
    refine w_seq ?_
    try try dsimp only [tAsg, tRet, tRetN, tOp, tUn, tTest, tB, tCons, tNil, tCB, tC, tNext, tCallS, tDrop, tNot, tNotV, tSl, tNoPart, tPart, tBM, tBM0, iList, iTup, iStr, iSrc, iRng1, iRng2, iEnumS, iZipS, tBreak, tCont, gSub, tAug, tMth, tMakeS, tM1, tM0, tFld, cxOf]
    refine s_set (i := 1) (d := D.int (1 : Int)) (ss' := [.val ((eT (eP D.int D.int)) row), .val (D.int (1 : Int)), .un]) c0 (.inl (by decide)) ((Rep.int _)) rfl fun σ c1 => ?_
    refine w_seq ?_
    try try dsimp only [tAsg, tRet, tRetN, tOp, tUn, tTest, tB, tCons, tNil, tCB, tC, tNext, tCallS, tDrop, tNot, tNotV, tSl, tNoPart, tPart, tBM, tBM0, iList, iTup, iStr, iSrc, iRng1, iRng2, iEnumS, iZipS, tBreak, tCont, gSub, tAug, tMth, tMakeS, tM1, tM0, tFld, cxOf]
    refine w_for ?_
    try dsimp only [tAsg, tRet, tRetN, tOp, tUn, tTest, tB, tCons, tNil, tCB, tC, tNext, tCallS, tDrop, tNot, tNotV, tSl, tNoPart, tPart, tBM, tBM0, iList, iTup, iStr, iSrc, iRng1, iRng2, iEnumS, iZipS, tBreak, tCont, gSub, tAug, tMth, tMakeS, tM1, tM0, tFld, cxOf]
    refine s_var c1 (i := 0) rfl fun v2 r3 => ?_
    have sl4 := lenT (show Rep K _ _ ((eT (eP D.int D.int)) row) from r3)
    obtain ⟨a4, q4, x4, it4⟩ := x_tup c1 (show Rep K _ _ ((eT (eP D.int D.int)) row) from r3)
    refine ⟨a4, q4, x4, ?_⟩
    refine s_forP (vs := [2]) (nx := fun st5 => [.val ((eT (eP D.int D.int)) row), .val (D.int st5), .un]) (ss' := fun z5 st5 => [.val ((eT (eP D.int D.int)) row), .val (D.int st5), .val ((eP D.int D.int) z5)]) (s0 := (1 : Int)) s hm c1 it4 (.inl (by decide)) (tg_name (by decide)) (fun _ _ => rfl) (fun z5 st5 F5 H5 σ P5 N5 s5 h5 zm5 e5 c5 kn5 => ?_) (fun st5 F5 H5 σ hm5 e5 c5 => ?_)
    ·
      refine w_seq ?_
      try try dsimp only [tAsg, tRet, tRetN, tOp, tUn, tTest, tB, tCons, tNil, tCB, tC, tNext, tCallS, tDrop, tNot, tNotV, tSl, tNoPart, tPart, tBM, tBM0, iList, iTup, iStr, iSrc, iRng1, iRng2, iEnumS, iZipS, tBreak, tCont, gSub, tAug, tMth, tMakeS, tM1, tM0, tFld, cxOf]
      refine s_var c5 (i := 2) rfl fun v6 r7 => ?_
      refine s_call (ps := (fun x : (Int × Int) => [(eP D.int D.int) x])) (m := (fun x => m_check_number x)) (x := (z5)) s5 h5 c5 rfl (Reps.cons (show Rep K _ _ ((eP D.int D.int) z5) from r7) Reps.nil) fun y8 v8 F8 H8 hm8 e8 c8 r8 => ?_
      cases (show Rep K _ _ (eU y8) from r8)
      try try dsimp only [tAsg, tRet, tRetN, tOp, tUn, tTest, tB, tCons, tNil, tCB, tC, tNext, tCallS, tDrop, tNot, tNotV, tSl, tNoPart, tPart, tBM, tBM0, iList, iTup, iStr, iSrc, iRng1, iRng2, iEnumS, iZipS, tBreak, tCont, gSub, tAug, tMth, tMakeS, tM1, tM0, tFld, cxOf]
      refine s_varI c8 (i := 1) rfl ?_
      refine s_var c8 (i := 2) rfl fun v9 r10 => ?_
      refine s_ixT c8 (show Rep K _ _ ((eP D.int D.int) z5) from r10) (d := D.int z5.2) rfl fun v11 r12 => ?_
      cases r12
      refine s_lcm s5 hm8 fun x13 q15 hm14 => ?_
      refine s_set (i := 1) (d := D.int x13) (ss' := [.val ((eT (eP D.int D.int)) row), .val (D.int x13), .val ((eP D.int D.int) z5)]) c8 (.inl (by decide)) ((Rep.int _)) rfl fun σ c16 => ?_
      exact kn5 x13 _ _ _ hm14 e8 (c16.drop 2)
    ·
      have c17 := c5
      try try dsimp only [tAsg, tRet, tRetN, tOp, tUn, tTest, tB, tCons, tNil, tCB, tC, tNext, tCallS, tDrop, tNot, tNotV, tSl, tNoPart, tPart, tBM, tBM0, iList, iTup, iStr, iSrc, iRng1, iRng2, iEnumS, iZipS, tBreak, tCont, gSub, tAug, tMth, tMakeS, tM1, tM0, tFld, cxOf]
      refine w_tup ?_
      try dsimp only [tAsg, tRet, tRetN, tOp, tUn, tTest, tB, tCons, tNil, tCB, tC, tNext, tCallS, tDrop, tNot, tNotV, tSl, tNoPart, tPart, tBM, tBM0, iList, iTup, iStr, iSrc, iRng1, iRng2, iEnumS, iZipS, tBreak, tCont, gSub, tAug, tMth, tMakeS, tM1, tM0, tFld, cxOf]
      refine w_lc ?_
      try dsimp only [tAsg, tRet, tRetN, tOp, tUn, tTest, tB, tCons, tNil, tCB, tC, tNext, tCallS, tDrop, tNot, tNotV, tSl, tNoPart, tPart, tBM, tBM0, iList, iTup, iStr, iSrc, iRng1, iRng2, iEnumS, iZipS, tBreak, tCont, gSub, tAug, tMth, tMakeS, tM1, tM0, tFld, cxOf]
      refine s_var c17 (i := 0) rfl fun v18 r19 => ?_
      have sl20 := lenT (show Rep K _ _ ((eT (eP D.int D.int)) row) from r19)
      obtain ⟨a20, q20, x20, it20⟩ := x_tup c17 (show Rep K _ _ ((eT (eP D.int D.int)) row) from r19)
      refine ⟨a20, q20, x20, ?_⟩
      refine s_compM (vs := [2]) (en := D.int) (ss' := fun z21 => [.val ((eT (eP D.int D.int)) row), .val (D.int st5), .val ((eP D.int D.int) z21)]) s hm5 c17 it20 (.inl (by decide)) (tg_name (by decide)) (fun _ => rfl) sl20 (fun B21 z21 F21 H21 σ21 P21 G21 Sk21 hio21 s21 h21 zm21 e21 c21 kd21 ks21 => ?_) (fun v21 bs21 HH21 hm21 q21 => ?_)
      ·
        replace s21 := s21 3 (fun _ _ _ _ => False) (ecl ad)
        try dsimp only [tAsg, tRet, tRetN, tOp, tUn, tTest, tB, tCons, tNil, tCB, tC, tNext, tCallS, tDrop, tNot, tNotV, tSl, tNoPart, tPart, tBM, tBM0, iList, iTup, iStr, iSrc, iRng1, iRng2, iEnumS, iZipS, tBreak, tCont, gSub, tAug, tMth, tMakeS, tM1, tM0, tFld, cxOf]
        refine s_var c21 (i := 2) rfl fun v22 r23 => ?_
        refine s_ixT c21 (show Rep K _ _ ((eP D.int D.int) z21) from r23) (d := D.int z21.1) rfl fun v24 r25 => ?_
        cases r25
        refine s_varI c21 (i := 1) rfl ?_
        refine s_var c21 (i := 2) rfl fun v26 r27 => ?_
        refine s_ixT c21 (show Rep K _ _ ((eP D.int D.int) z21) from r27) (d := D.int z21.2) rfl fun v28 r29 => ?_
        cases r29
        refine s_fdiv' s21 h21 fun x30 q32 hm31 => ?_
        refine s_mul' s21 hm31 fun x33 q35 hm34 => ?_
        exact kd21 _ _ _ _ _ _ hm34 c21 (show Rep K _ _ (D.int x33) from (Rep.int _))
      ·
        obtain ⟨F36, e36, c36, r36⟩ := q21
        obtain ⟨F37, e37, c37, r37⟩ := Nw.frz c36 r36
        refine s_varI c37 (i := 1) rfl ?_
        refine n_tup c37 (Reps.cons r37 (Reps.cons (Rep.int _) Reps.nil)) (by show (2 : Nat) ≤ sizeLine; decide) fun v38 F38 H38 e38 c38 r38 => ?_
        exact Fin.ret (d := (eP (eL D.int) D.int) (bs21, st5)) hm21 c38 (r38) rfl (.inl rfl)
@[irreducible] def m_check_matrix (width : Int) (rows : (List (List (Int × Int)))) : Res Unit :=
  if (!((decide ((0 : Int) ≤ width)) && (decide (width ≤ (64 : Int))))) = true then
    Res.exc .BadNumber
  else
    if (decide ((64 : Int) < (rows.length : Int))) = true then
    Res.exc .NotMatrix
  else
    (foldR (fun z10 st10 =>
    (m_is_number_row width z10).bind fun y13 =>
  if (!y13) = true then
    Res.exc .NotMatrix
  else
    Res.ok ()) rows ()).bind fun st10 =>
  Res.ok ()
abbrev sp_check_matrix (K : PySem.W.Frag) (ad : Nat → Addr) : Sp := SpP (π := (Int × (List (List (Int × Int))))) K (ecl ad) (fun x => [D.int x.1, (eL (eT (eP D.int D.int))) x.2]) (fun x => m_check_matrix x.1 x.2) (fun y => .val (eU y))
theorem ok_check_matrix (T : Txt K w mg ad fd) : Cm P w K mg base 3 (ad 21) (fd 21) ["width", "rows"] (sp_check_matrix K ad) := by
  refine ⟨T.f_check_matrix.okG sc_check_matrix (fun vs H Q E h => ?_) (fun cdv A outer sh H0 vs Q E gd hr h => ?_), T.f_check_matrix.binds (ps := ["width", "rows"]) fun _ _ _ _ _ _ us hl => match us, hl with | [_, _], _ => rfl⟩
  · obtain ⟨F, x, _, r, _⟩ := h
    exact r.length
  · obtain ⟨F0, ⟨width, rows⟩, fh0, r0, hm⟩ := h
    have hu := hr.units
    have r0 : Reps K F0 vs [D.int width, (eL (eT (eP D.int D.int))) rows] := r0
    have c0 : Ctx K ⟨F0, H0, none⟩ F0 H0 (start ["width", "rows", "row"] vs) [.val (D.int width), .val ((eL (eT (eP D.int D.int))) rows), .un] := ctx_start fh0 r0 rfl (by show (2 : Nat) ≤ 3; decide)
    have s := Fin.sct (K := K) (B := ⟨F0, H0, none⟩) (n := 3) (cl := ecl ad) (rt := fun y => .val (eU y)) (out := fun _ : Unit => []) (Q := Q) (E := E)
    obtain ⟨u_MOST_WIDTH, g_MOST_WIDTH⟩ := T.v_MOST_WIDTH
    obtain ⟨u_MOST_ROWS, g_MOST_ROWS⟩ := T.v_MOST_ROWS
    refine ⟨_, (pss_cons (ps_if (pt_not (pt_chain op_le op_le pe_int (pv 0) (pe_glob (v := .int 64) rfl g_MOST_WIDTH ⟨_, rfl⟩))) (pss_one (L2N.ps_raise rfl (L2N.takes_of rfl rfl rfl rfl) (L2N.pmk_own PySem.F.excBase_ValueError T.x_BadNumber T.g_BadNumber T.k_BadNumber (raises_own T.s_BadNumber T.t_BadNumber) rfl))) pss_nil)
    (pss_cons (ps_if (pt_cmpR op_gt (pe_callB (c_len (K := K)) (by rfl) T.m_len PySem.boot_len (pa_cons (pv 1) pa_nil)) (pe_glob (v := .int 64) rfl g_MOST_ROWS ⟨_, rfl⟩) (nomark _)) (pss_one (L2N.ps_raise rfl (L2N.takes_of rfl rfl rfl rfl) (L2N.pmk_own PySem.F.excBase_ValueError T.x_NotMatrix T.g_NotMatrix T.k_NotMatrix (raises_own T.s_NotMatrix T.t_NotMatrix) rfl))) pss_nil)
    (pss_one (ps_for (by first | exact PassesOwn.never | exact passes_of rfl) rfl (pi_list (pv 1)) (pg_name (i := 2) sc_check_matrix.nd rfl (by first | exact Or.inl rfl | exact Or.inr rfl))
      (pss_one (ps_if (pt_not (pt_val (pe_cm (ok_is_number_row T (P := P) (w := w) (base := base)) gd (hr.mono (by decide)) T.g_is_number_row T.f_is_number_row.kp (L2N.takes_of rfl rfl rfl rfl) (pa_cons (pv 0) (pa_cons (pv 2) pa_nil))))) (pss_one (L2N.ps_raise rfl (L2N.takes_of rfl rfl rfl rfl) (L2N.pmk_own PySem.F.excBase_ValueError T.x_NotMatrix T.g_NotMatrix T.k_NotMatrix (raises_own T.s_NotMatrix T.t_NotMatrix) rfl))) pss_nil)))))), ?_⟩
    generalize start _ _ = σ at c0 ⊢
    try dsimp only [tAsg, tRet, tRetN, tOp, tUn, tTest, tB, tCons, tNil, tCB, tC, tNext, tCallS, tDrop, tNot, tNotV, tSl, tNoPart, tPart, tBM, tBM0, iList, iTup, iStr, iSrc, iRng1, iRng2, iEnumS, iZipS, tBreak, tCont, gSub, tAug, tMth, tMakeS, tM1, tM0, tFld, cxOf]
    try dsimp only at hm
    unfold m_check_matrix at hm
    refine w_seq ?_
    refine w_ifS ?_
    try dsimp only [tAsg, tRet, tRetN, tOp, tUn, tTest, tB, tCons, tNil, tCB, tC, tNext, tCallS, tDrop, tNot, tNotV, tSl, tNoPart, tPart, tBM, tBM0, iList, iTup, iStr, iSrc, iRng1, iRng2, iEnumS, iZipS, tBreak, tCont, gSub, tAug, tMth, tMakeS, tM1, tM0, tFld, cxOf]
    refine w_chain ?_
    try dsimp only [tAsg, tRet, tRetN, tOp, tUn, tTest, tB, tCons, tNil, tCB, tC, tNext, tCallS, tDrop, tNot, tNotV, tSl, tNoPart, tPart, tBM, tBM0, iList, iTup, iStr, iSrc, iRng1, iRng2, iEnumS, iZipS, tBreak, tCont, gSub, tAug, tMth, tMakeS, tM1, tM0, tFld, cxOf]
    refine s_varI c0 (i := 0) rfl ?_
    refine s_i0 ?_
    refine n_chain (b2 := (decide (width ≤ (64 : Int)))) (fun Q' hQ => ?_) ?_
    ·
      refine s_i0 ?_
      exact hQ
    refine s_test' ?_
    refine s_ite hm (fun _ hm1 => ?_) (fun _ hm2 => ?_)
    ·
      try try dsimp only [tAsg, tRet, tRetN, tOp, tUn, tTest, tB, tCons, tNil, tCB, tC, tNext, tCallS, tDrop, tNot, tNotV, tSl, tNoPart, tPart, tBM, tBM0, iList, iTup, iStr, iSrc, iRng1, iRng2, iEnumS, iZipS, tBreak, tCont, gSub, tAug, tMth, tMakeS, tM1, tM0, tFld, cxOf]
      exact s.exc .BadNumber hm1 _ _ _ (c0.uns rfl)
    ·
      refine w_seq ?_
      refine w_ifS ?_
      try dsimp only [tAsg, tRet, tRetN, tOp, tUn, tTest, tB, tCons, tNil, tCB, tC, tNext, tCallS, tDrop, tNot, tNotV, tSl, tNoPart, tPart, tBM, tBM0, iList, iTup, iStr, iSrc, iRng1, iRng2, iEnumS, iZipS, tBreak, tCont, gSub, tAug, tMth, tMakeS, tM1, tM0, tFld, cxOf]
      refine s_var c0 (i := 1) rfl fun v3 r4 => ?_
      refine n_lenL c0 (show Rep K _ _ ((eL (eT (eP D.int D.int))) rows) from r4) ?_
      refine s_i0 ?_
      refine s_test' ?_
      refine s_ite hm2 (fun _ hm5 => ?_) (fun _ hm6 => ?_)
      ·
        try try dsimp only [tAsg, tRet, tRetN, tOp, tUn, tTest, tB, tCons, tNil, tCB, tC, tNext, tCallS, tDrop, tNot, tNotV, tSl, tNoPart, tPart, tBM, tBM0, iList, iTup, iStr, iSrc, iRng1, iRng2, iEnumS, iZipS, tBreak, tCont, gSub, tAug, tMth, tMakeS, tM1, tM0, tFld, cxOf]
        exact s.exc .NotMatrix hm5 _ _ _ (c0.uns rfl)
      ·
        try try dsimp only [tAsg, tRet, tRetN, tOp, tUn, tTest, tB, tCons, tNil, tCB, tC, tNext, tCallS, tDrop, tNot, tNotV, tSl, tNoPart, tPart, tBM, tBM0, iList, iTup, iStr, iSrc, iRng1, iRng2, iEnumS, iZipS, tBreak, tCont, gSub, tAug, tMth, tMakeS, tM1, tM0, tFld, cxOf]
        refine w_for ?_
        try dsimp only [tAsg, tRet, tRetN, tOp, tUn, tTest, tB, tCons, tNil, tCB, tC, tNext, tCallS, tDrop, tNot, tNotV, tSl, tNoPart, tPart, tBM, tBM0, iList, iTup, iStr, iSrc, iRng1, iRng2, iEnumS, iZipS, tBreak, tCont, gSub, tAug, tMth, tMakeS, tM1, tM0, tFld, cxOf]
        refine s_var c0 (i := 1) rfl fun v7 r8 => ?_
        have sl9 := lenL (show Rep K _ _ ((eL (eT (eP D.int D.int))) rows) from r8)
        obtain ⟨a9, q9, x9, it9⟩ := x_list c0 (show Rep K _ _ ((eL (eT (eP D.int D.int))) rows) from r8)
        refine ⟨a9, q9, x9, ?_⟩
        refine s_forP (vs := [2]) (nx := fun st10 => [.val (D.int width), .val ((eL (eT (eP D.int D.int))) rows), .un]) (ss' := fun z10 st10 => [.val (D.int width), .val ((eL (eT (eP D.int D.int))) rows), .val ((eT (eP D.int D.int)) z10)]) (s0 := ()) s hm6 c0 it9 (.inl (by decide)) (tg_name (by decide)) (fun _ _ => rfl) (fun z10 st10 F10 H10 σ P10 N10 s10 h10 zm10 e10 c10 kn10 => ?_) (fun st10 F10 H10 σ hm10 e10 c10 => ?_)
        ·
          refine w_ifS ?_
          try dsimp only [tAsg, tRet, tRetN, tOp, tUn, tTest, tB, tCons, tNil, tCB, tC, tNext, tCallS, tDrop, tNot, tNotV, tSl, tNoPart, tPart, tBM, tBM0, iList, iTup, iStr, iSrc, iRng1, iRng2, iEnumS, iZipS, tBreak, tCont, gSub, tAug, tMth, tMakeS, tM1, tM0, tFld, cxOf]
          refine s_varI c10 (i := 0) rfl ?_
          refine s_var c10 (i := 2) rfl fun v11 r12 => ?_
          refine s_call (ps := (fun x : (Int × (List (Int × Int))) => [D.int x.1, (eT (eP D.int D.int)) x.2])) (m := (fun x => m_is_number_row x.1 x.2)) (x := (width, z10)) s10 h10 c10 rfl (Reps.cons (show Rep K _ _ (D.int width) from (Rep.int _)) (Reps.cons (show Rep K _ _ ((eT (eP D.int D.int)) z10) from r12) Reps.nil)) fun y13 v13 F13 H13 hm13 e13 c13 r13 => ?_
          cases (show Rep K _ _ (D.bl y13) from r13)
          refine s_test' ?_
          refine s_ite hm13 (fun _ hm14 => ?_) (fun _ hm15 => ?_)
          ·
            try try dsimp only [tAsg, tRet, tRetN, tOp, tUn, tTest, tB, tCons, tNil, tCB, tC, tNext, tCallS, tDrop, tNot, tNotV, tSl, tNoPart, tPart, tBM, tBM0, iList, iTup, iStr, iSrc, iRng1, iRng2, iEnumS, iZipS, tBreak, tCont, gSub, tAug, tMth, tMakeS, tM1, tM0, tFld, cxOf]
            exact s10.exc .NotMatrix hm14 _ _ _ (c13.uns rfl)
          ·
            exact kn10 () _ _ _ hm15 e13 (c13.drop 2)
        ·
          have c16 := c10
          exact Fin.ret (d := eU ()) hm10 c16 (Rep.non) rfl (.inl rfl)
@[irreducible] def m_struck (row : (List Int)) (by_ : (List Int)) (place : Int) : Res (List Int) :=
  (ix row place).bind fun x3 =>
  if (decide (x3 = (0 : Int))) = true then
    Res.ok row
  else
    (ix row place).bind fun x14 =>
  (ix by_ place).bind fun x21 =>
  (ix by_ place).bind fun x29 =>
  (divR x29 (gcdI x14 x21)).bind fun x34 =>
  (ix row place).bind fun x40 =>
  (divR x40 (gcdI x14 x21)).bind fun x45 =>
  (mapR (fun z56 =>
    (mulR x34 z56.1).bind fun x57 =>
  (mulR x45 z56.2).bind fun x60 =>
  Res.ok (x57 - x60)) (List.zip row by_)).bind fun bs56 =>
  (m_primitive bs56).bind fun y65 =>
  Res.ok y65
abbrev sp_struck (K : PySem.W.Frag) (ad : Nat → Addr) : Sp := SpP (π := ((List Int) × (List Int) × Int)) K (ecl ad) (fun x => [(eT D.int) x.1, (eT D.int) x.2.1, D.int x.2.2]) (fun x => m_struck x.1 x.2.1 x.2.2) (fun y => .val ((eT D.int) y))
theorem ok_struck (T : Txt K w mg ad fd) : Cm P w K mg base 3 (ad 24) (fd 24) ["row", "by", "place"] (sp_struck K ad) := by
  refine ⟨T.f_struck.okG sc_struck (fun vs H Q E h => ?_) (fun cdv A outer sh H0 vs Q E gd hr h => ?_), T.f_struck.binds (ps := ["row", "by", "place"]) fun _ _ _ _ _ _ us hl => match us, hl with | [_, _, _], _ => rfl⟩
  · obtain ⟨F, x, _, r, _⟩ := h
    exact r.length
  · obtain ⟨F0, ⟨row, by_, place⟩, fh0, r0, hm⟩ := h
    have hu := hr.units
    have r0 : Reps K F0 vs [(eT D.int) row, (eT D.int) by_, D.int place] := r0
    have c0 : Ctx K ⟨F0, H0, none⟩ F0 H0 (start ["row", "by", "place", "shared", "much", "less", "a", "b"] vs) [.val ((eT D.int) row), .val ((eT D.int) by_), .val (D.int place), .un, .un, .un, .un, .un] := ctx_start fh0 r0 rfl (by show (3 : Nat) ≤ 8; decide)
    have s := Fin.sct (K := K) (B := ⟨F0, H0, none⟩) (n := 8) (cl := ecl ad) (rt := fun y => .val ((eT D.int) y)) (out := fun _ : (List Int) => []) (Q := Q) (E := E)
    refine ⟨_, (pss_cons (ps_if (pt_cmpR op_eq (pe_ix (ix_tupK (K := K)) (pv 0) (pv 2) (fun _ _ => rfl)) pe_int (nomark _)) (pss_one (ps_ret (pv 0))) pss_nil)
    (pss_cons (ps_set (i := 3) sc_struck.nd rfl (by first | exact Or.inl rfl | exact Or.inr rfl) (pe_callBfun cr_gcd rfl T.g_gcd (pa_cons (pe_ix (ix_tupK (K := K)) (pv 0) (pv 2) (fun _ _ => rfl)) (pa_cons (pe_ix (ix_tupK (K := K)) (pv 1) (pv 2) (fun _ _ => rfl)) pa_nil))))
    (pss_cons (ps_set (i := 4) sc_struck.nd rfl (by first | exact Or.inl rfl | exact Or.inr rfl) (pe_op op_fdivG (pe_ix (ix_tupK (K := K)) (pv 1) (pv 2) (fun _ _ => rfl)) (pv 3)))
    (pss_cons (ps_set (i := 5) sc_struck.nd rfl (by first | exact Or.inl rfl | exact Or.inr rfl) (pe_op op_fdivG (pe_ix (ix_tupK (K := K)) (pv 0) (pv 2) (fun _ _ => rfl)) (pv 3)))
    (pss_one (ps_ret (pe_cm (ok_primitive T (P := P) (w := w) (base := base)) gd (hr.mono (by decide)) T.g_primitive T.f_primitive.kp (L2N.takes_of rfl rfl rfl rfl) (pa_cons (pe_lc (own := [("a", 6), ("b", 7)]) (g := gTup K 2 (gCons (gName 6) (gCons (gName 7) gNil))) rfl sc_struck.nd (pi_zipS (by rfl) T.m_zip (pa_cons (pv 0) (pa_cons (pv 1) pa_nil))) (blkOk_by (N := ["row", "by", "place", "shared", "much", "less", "a", "b"]) (sc := defScope s_struck) (by decide +kernel)) (fun _ _ _ _ _ => (pg_tup (n := 2) rfl (pgs_cons (pg_name (i := 6) sc_struck.nd rfl (by first | exact Or.inl rfl | exact Or.inr rfl)) (pgs_cons (pg_name (i := 7) sc_struck.nd rfl (by first | exact Or.inl rfl | exact Or.inr rfl)) pgs_nil)))) (fun _ _ _ _ _ => pts_nil) (fun _ _ _ _ _ => (pe_op op_sub (pe_op op_mulW (pv 4) (pv 6)) (pe_op op_mulW (pv 5) (pv 7))))) pa_nil)))))))), ?_⟩
    generalize start _ _ = σ at c0 ⊢
    try dsimp only [tAsg, tRet, tRetN, tOp, tUn, tTest, tB, tCons, tNil, tCB, tC, tNext, tCallS, tDrop, tNot, tNotV, tSl, tNoPart, tPart, tBM, tBM0, iList, iTup, iStr, iSrc, iRng1, iRng2, iEnumS, iZipS, tBreak, tCont, gSub, tAug, tMth, tMakeS, tM1, tM0, tFld, cxOf]
    try dsimp only at hm
    unfold m_struck at hm
    refine w_seq ?_
    refine w_ifS ?_
    try dsimp only [tAsg, tRet, tRetN, tOp, tUn, tTest, tB, tCons, tNil, tCB, tC, tNext, tCallS, tDrop, tNot, tNotV, tSl, tNoPart, tPart, tBM, tBM0, iList, iTup, iStr, iSrc, iRng1, iRng2, iEnumS, iZipS, tBreak, tCont, gSub, tAug, tMth, tMakeS, tM1, tM0, tFld, cxOf]
    refine s_var c0 (i := 0) rfl fun v1 r2 => ?_
    refine s_varI c0 (i := 2) rfl ?_
    refine s_ixTv (en := D.int) s hm c0 (show Rep K _ _ ((eT D.int) row) from r2) fun x3 v6 q5 hm4 r7 => ?_
    cases r7
    refine s_eqI ?_
    refine s_test' ?_
    refine s_ite hm4 (fun _ hm8 => ?_) (fun _ hm9 => ?_)
    ·
      try try dsimp only [tAsg, tRet, tRetN, tOp, tUn, tTest, tB, tCons, tNil, tCB, tC, tNext, tCallS, tDrop, tNot, tNotV, tSl, tNoPart, tPart, tBM, tBM0, iList, iTup, iStr, iSrc, iRng1, iRng2, iEnumS, iZipS, tBreak, tCont, gSub, tAug, tMth, tMakeS, tM1, tM0, tFld, cxOf]
      refine s_var c0 (i := 0) rfl fun v10 r11 => ?_
      exact Fin.ret (d := (eT D.int) row) hm8 c0 (r11) rfl (.inl rfl)
    ·
      refine w_seq ?_
      try try dsimp only [tAsg, tRet, tRetN, tOp, tUn, tTest, tB, tCons, tNil, tCB, tC, tNext, tCallS, tDrop, tNot, tNotV, tSl, tNoPart, tPart, tBM, tBM0, iList, iTup, iStr, iSrc, iRng1, iRng2, iEnumS, iZipS, tBreak, tCont, gSub, tAug, tMth, tMakeS, tM1, tM0, tFld, cxOf]
      refine s_var c0 (i := 0) rfl fun v12 r13 => ?_
      refine s_varI c0 (i := 2) rfl ?_
      refine s_ixTv (en := D.int) s hm9 c0 (show Rep K _ _ ((eT D.int) row) from r13) fun x14 v17 q16 hm15 r18 => ?_
      cases r18
      refine s_var c0 (i := 1) rfl fun v19 r20 => ?_
      refine s_varI c0 (i := 2) rfl ?_
      refine s_ixTv (en := D.int) s hm15 c0 (show Rep K _ _ ((eT D.int) by_) from r20) fun x21 v24 q23 hm22 r25 => ?_
      cases r25
      refine s_gcd ?_
      refine s_set (i := 3) (d := D.int (gcdI x14 x21)) (ss' := [.val ((eT D.int) row), .val ((eT D.int) by_), .val (D.int place), .val (D.int (gcdI x14 x21)), .un, .un, .un, .un]) c0 (.inl (by decide)) ((Rep.int _)) rfl fun σ c26 => ?_
      refine w_seq ?_
      try try dsimp only [tAsg, tRet, tRetN, tOp, tUn, tTest, tB, tCons, tNil, tCB, tC, tNext, tCallS, tDrop, tNot, tNotV, tSl, tNoPart, tPart, tBM, tBM0, iList, iTup, iStr, iSrc, iRng1, iRng2, iEnumS, iZipS, tBreak, tCont, gSub, tAug, tMth, tMakeS, tM1, tM0, tFld, cxOf]
      refine s_var c26 (i := 1) rfl fun v27 r28 => ?_
      refine s_varI c26 (i := 2) rfl ?_
      refine s_ixTv (en := D.int) s hm22 c26 (show Rep K _ _ ((eT D.int) by_) from r28) fun x29 v32 q31 hm30 r33 => ?_
      cases r33
      refine s_varI c26 (i := 3) rfl ?_
      refine s_fdiv' s hm30 fun x34 q36 hm35 => ?_
      refine s_set (i := 4) (d := D.int x34) (ss' := [.val ((eT D.int) row), .val ((eT D.int) by_), .val (D.int place), .val (D.int (gcdI x14 x21)), .val (D.int x34), .un, .un, .un]) c26 (.inl (by decide)) ((Rep.int _)) rfl fun σ c37 => ?_
      refine w_seq ?_
      try try dsimp only [tAsg, tRet, tRetN, tOp, tUn, tTest, tB, tCons, tNil, tCB, tC, tNext, tCallS, tDrop, tNot, tNotV, tSl, tNoPart, tPart, tBM, tBM0, iList, iTup, iStr, iSrc, iRng1, iRng2, iEnumS, iZipS, tBreak, tCont, gSub, tAug, tMth, tMakeS, tM1, tM0, tFld, cxOf]
      refine s_var c37 (i := 0) rfl fun v38 r39 => ?_
      refine s_varI c37 (i := 2) rfl ?_
      refine s_ixTv (en := D.int) s hm35 c37 (show Rep K _ _ ((eT D.int) row) from r39) fun x40 v43 q42 hm41 r44 => ?_
      cases r44
      refine s_varI c37 (i := 3) rfl ?_
      refine s_fdiv' s hm41 fun x45 q47 hm46 => ?_
      refine s_set (i := 5) (d := D.int x45) (ss' := [.val ((eT D.int) row), .val ((eT D.int) by_), .val (D.int place), .val (D.int (gcdI x14 x21)), .val (D.int x34), .val (D.int x45), .un, .un]) c37 (.inl (by decide)) ((Rep.int _)) rfl fun σ c48 => ?_
      try try dsimp only [tAsg, tRet, tRetN, tOp, tUn, tTest, tB, tCons, tNil, tCB, tC, tNext, tCallS, tDrop, tNot, tNotV, tSl, tNoPart, tPart, tBM, tBM0, iList, iTup, iStr, iSrc, iRng1, iRng2, iEnumS, iZipS, tBreak, tCont, gSub, tAug, tMth, tMakeS, tM1, tM0, tFld, cxOf]
      refine w_lc ?_
      try dsimp only [tAsg, tRet, tRetN, tOp, tUn, tTest, tB, tCons, tNil, tCB, tC, tNext, tCallS, tDrop, tNot, tNotV, tSl, tNoPart, tPart, tBM, tBM0, iList, iTup, iStr, iSrc, iRng1, iRng2, iEnumS, iZipS, tBreak, tCont, gSub, tAug, tMth, tMakeS, tM1, tM0, tFld, cxOf]
      refine s_var c48 (i := 0) rfl fun v49 r50 => ?_
      refine s_var c48 (i := 1) rfl fun v51 r52 => ?_
      obtain ⟨S53, so53⟩ := srcT (show Rep K _ _ ((eT D.int) row) from r50)
      have sl53 := lenT (show Rep K _ _ ((eT D.int) row) from r50)
      obtain ⟨S54, so54⟩ := srcT (show Rep K _ _ ((eT D.int) by_) from r52)
      have sl54 := lenT (show Rep K _ _ ((eT D.int) by_) from r52)
      obtain ⟨xs55, ys55, q55, a55, b55, it55⟩ := x_zip (e1 := D.int) (e2 := D.int) c48 so53 so54
      refine ⟨_, _, xs55, ys55, q55, a55, b55, ?_⟩
      refine s_compM (vs := [6, 7]) (en := D.int) (ss' := fun z56 => [.val ((eT D.int) row), .val ((eT D.int) by_), .val (D.int place), .val (D.int (gcdI x14 x21)), .val (D.int x34), .val (D.int x45), .val (D.int z56.1), .val (D.int z56.2)]) s hm46 c48 it55 (.inl (by decide)) (tg_pair (by decide) (by decide)) (fun _ => rfl) (zip_len sl53) (fun B56 z56 F56 H56 σ56 P56 G56 Sk56 hio56 s56 h56 zm56 e56 c56 kd56 ks56 => ?_) (fun v56 bs56 HH56 hm56 q56 => ?_)
      ·
        replace s56 := s56 8 (fun _ _ _ _ => False) (ecl ad)
        try dsimp only [tAsg, tRet, tRetN, tOp, tUn, tTest, tB, tCons, tNil, tCB, tC, tNext, tCallS, tDrop, tNot, tNotV, tSl, tNoPart, tPart, tBM, tBM0, iList, iTup, iStr, iSrc, iRng1, iRng2, iEnumS, iZipS, tBreak, tCont, gSub, tAug, tMth, tMakeS, tM1, tM0, tFld, cxOf]
        refine s_varI c56 (i := 4) rfl ?_
        refine s_varI c56 (i := 6) rfl ?_
        refine s_mul' s56 h56 fun x57 q59 hm58 => ?_
        refine s_varI c56 (i := 5) rfl ?_
        refine s_varI c56 (i := 7) rfl ?_
        refine s_mul' s56 hm58 fun x60 q62 hm61 => ?_
        refine s_i0 ?_
        exact kd56 _ _ _ _ _ _ hm61 c56 (show Rep K _ _ (D.int (x57 - x60)) from (Rep.int _))
      ·
        obtain ⟨F63, e63, c63, r63⟩ := q56
        obtain ⟨F64, e64, c64, r64⟩ := Nw.frz c63 r63
        refine s_call (ps := (fun x : ((List Int) × Bool) => [(eSq x.2 D.int) x.1])) (m := (fun x => m_primitive x.1)) (x := (bs56, true)) s hm56 c64 rfl (Reps.cons (show Rep K _ _ ((eSq true D.int) bs56) from r64) Reps.nil) fun y65 v65 F65 H65 hm65 e65 c65 r65 => ?_
        exact Fin.ret (d := (eT D.int) y65) hm65 c65 (r65) rfl (.inl rfl)
@[irreducible] def m_check_wanted (rows : (List (List (Int × Int)))) (wanted : (List (Int × Int))) : Res Unit :=
  (m_is_number_row (rows.length : Int) wanted).bind fun y5 =>
  if (!y5) = true then
    Res.exc .NotMatrix
  else
    Res.ok ()
abbrev sp_check_wanted (K : PySem.W.Frag) (ad : Nat → Addr) : Sp := SpP (π := ((List (List (Int × Int))) × (List (Int × Int)))) K (ecl ad) (fun x => [(eL (eT (eP D.int D.int))) x.1, (eT (eP D.int D.int)) x.2]) (fun x => m_check_wanted x.1 x.2) (fun y => .val (eU y))
theorem ok_check_wanted (T : Txt K w mg ad fd) : Cm P w K mg base 3 (ad 29) (fd 29) ["rows", "wanted"] (sp_check_wanted K ad) := by
  refine ⟨T.f_check_wanted.okG sc_check_wanted (fun vs H Q E h => ?_) (fun cdv A outer sh H0 vs Q E gd hr h => ?_), T.f_check_wanted.binds (ps := ["rows", "wanted"]) fun _ _ _ _ _ _ us hl => match us, hl with | [_, _], _ => rfl⟩
  · obtain ⟨F, x, _, r, _⟩ := h
    exact r.length
  · obtain ⟨F0, ⟨rows, wanted⟩, fh0, r0, hm⟩ := h
    have hu := hr.units
    have r0 : Reps K F0 vs [(eL (eT (eP D.int D.int))) rows, (eT (eP D.int D.int)) wanted] := r0
    have c0 : Ctx K ⟨F0, H0, none⟩ F0 H0 (start ["rows", "wanted"] vs) [.val ((eL (eT (eP D.int D.int))) rows), .val ((eT (eP D.int D.int)) wanted)] := ctx_start fh0 r0 rfl (by show (2 : Nat) ≤ 2; decide)
    have s := Fin.sct (K := K) (B := ⟨F0, H0, none⟩) (n := 2) (cl := ecl ad) (rt := fun y => .val (eU y)) (out := fun _ : Unit => []) (Q := Q) (E := E)
    refine ⟨_, (pss_one (ps_if (pt_not (pt_val (pe_cm (ok_is_number_row T (P := P) (w := w) (base := base)) gd (hr.mono (by decide)) T.g_is_number_row T.f_is_number_row.kp (L2N.takes_of rfl rfl rfl rfl) (pa_cons (pe_callB (c_len (K := K)) (by rfl) T.m_len PySem.boot_len (pa_cons (pv 0) pa_nil)) (pa_cons (pv 1) pa_nil))))) (pss_one (L2N.ps_raise rfl (L2N.takes_of rfl rfl rfl rfl) (L2N.pmk_own PySem.F.excBase_ValueError T.x_NotMatrix T.g_NotMatrix T.k_NotMatrix (raises_own T.s_NotMatrix T.t_NotMatrix) rfl))) pss_nil)), ?_⟩
    generalize start _ _ = σ at c0 ⊢
    try dsimp only [tAsg, tRet, tRetN, tOp, tUn, tTest, tB, tCons, tNil, tCB, tC, tNext, tCallS, tDrop, tNot, tNotV, tSl, tNoPart, tPart, tBM, tBM0, iList, iTup, iStr, iSrc, iRng1, iRng2, iEnumS, iZipS, tBreak, tCont, gSub, tAug, tMth, tMakeS, tM1, tM0, tFld, cxOf]
    try dsimp only at hm
    unfold m_check_wanted at hm
    refine w_ifS ?_
    try dsimp only [tAsg, tRet, tRetN, tOp, tUn, tTest, tB, tCons, tNil, tCB, tC, tNext, tCallS, tDrop, tNot, tNotV, tSl, tNoPart, tPart, tBM, tBM0, iList, iTup, iStr, iSrc, iRng1, iRng2, iEnumS, iZipS, tBreak, tCont, gSub, tAug, tMth, tMakeS, tM1, tM0, tFld, cxOf]
    refine s_var c0 (i := 0) rfl fun v1 r2 => ?_
    refine n_lenL c0 (show Rep K _ _ ((eL (eT (eP D.int D.int))) rows) from r2) ?_
    refine s_var c0 (i := 1) rfl fun v3 r4 => ?_
    refine s_call (ps := (fun x : (Int × (List (Int × Int))) => [D.int x.1, (eT (eP D.int D.int)) x.2])) (m := (fun x => m_is_number_row x.1 x.2)) (x := ((rows.length : Int), wanted)) s hm c0 rfl (Reps.cons (show Rep K _ _ (D.int (rows.length : Int)) from (Rep.int _)) (Reps.cons (show Rep K _ _ ((eT (eP D.int D.int)) wanted) from r4) Reps.nil)) fun y5 v5 F5 H5 hm5 e5 c5 r5 => ?_
    cases (show Rep K _ _ (D.bl y5) from r5)
    refine s_test' ?_
    refine s_ite hm5 (fun _ hm6 => ?_) (fun _ hm7 => ?_)
    ·
      try try dsimp only [tAsg, tRet, tRetN, tOp, tUn, tTest, tB, tCons, tNil, tCB, tC, tNext, tCallS, tDrop, tNot, tNotV, tSl, tNoPart, tPart, tBM, tBM0, iList, iTup, iStr, iSrc, iRng1, iRng2, iEnumS, iZipS, tBreak, tCont, gSub, tAug, tMth, tMakeS, tM1, tM0, tFld, cxOf]
      exact s.exc .NotMatrix hm6 _ _ _ (c5.uns rfl)
    ·
      exact Fin.ret (d := eU ()) hm7 c5 (Rep.non) rfl (.inl rfl)
@[irreducible] def m__law_plus (x_ : (Int × Int)) (y : (Int × Int)) : Res (Int × Int) :=
  (mulR x_.1 y.2).bind fun x9 =>
  (mulR y.1 x_.2).bind fun x20 =>
  (mulR x_.2 y.2).bind fun x31 =>
  (m__law_lowest (x9 + x20) x31).bind fun y34 =>
  Res.ok y34
abbrev sp__law_plus (K : PySem.W.Frag) (ad : Nat → Addr) : Sp := SpP (π := ((Int × Int) × (Int × Int))) K (ecl ad) (fun x => [(eP D.int D.int) x.1, (eP D.int D.int) x.2]) (fun x => m__law_plus x.1 x.2) (fun y => .val ((eP D.int D.int) y))
theorem ok__law_plus (T : Txt K w mg ad fd) : Cm P w K mg base 3 (ad 38) (fd 38) ["x", "y"] (sp__law_plus K ad) := by
  refine ⟨T.f__law_plus.okG sc__law_plus (fun vs H Q E h => ?_) (fun cdv A outer sh H0 vs Q E gd hr h => ?_), T.f__law_plus.binds (ps := ["x", "y"]) fun _ _ _ _ _ _ us hl => match us, hl with | [_, _], _ => rfl⟩
  · obtain ⟨F, x, _, r, _⟩ := h
    exact r.length
  · obtain ⟨F0, ⟨x_, y⟩, fh0, r0, hm⟩ := h
    have hu := hr.units
    have r0 : Reps K F0 vs [(eP D.int D.int) x_, (eP D.int D.int) y] := r0
    have c0 : Ctx K ⟨F0, H0, none⟩ F0 H0 (start ["x", "y"] vs) [.val ((eP D.int D.int) x_), .val ((eP D.int D.int) y)] := ctx_start fh0 r0 rfl (by show (2 : Nat) ≤ 2; decide)
    have s := Fin.sct (K := K) (B := ⟨F0, H0, none⟩) (n := 2) (cl := ecl ad) (rt := fun y => .val ((eP D.int D.int) y)) (out := fun _ : (Int × Int) => []) (Q := Q) (E := E)
    refine ⟨_, (pss_one (ps_ret (pe_cm (ok__law_lowest T (P := P) (w := w) (base := base)) gd (hr.mono (by decide)) T.g__law_lowest T.f__law_lowest.kp (L2N.takes_of rfl rfl rfl rfl) (pa_cons (pe_op op_add (pe_op op_mulW (pe_ix (ix_tupK (K := K)) (pv 0) pe_int (fun _ _ => rfl)) (pe_ix (ix_tupK (K := K)) (pv 1) pe_int (fun _ _ => rfl))) (pe_op op_mulW (pe_ix (ix_tupK (K := K)) (pv 1) pe_int (fun _ _ => rfl)) (pe_ix (ix_tupK (K := K)) (pv 0) pe_int (fun _ _ => rfl)))) (pa_cons (pe_op op_mulW (pe_ix (ix_tupK (K := K)) (pv 0) pe_int (fun _ _ => rfl)) (pe_ix (ix_tupK (K := K)) (pv 1) pe_int (fun _ _ => rfl))) pa_nil))))), ?_⟩
    generalize start _ _ = σ at c0 ⊢
    try dsimp only [tAsg, tRet, tRetN, tOp, tUn, tTest, tB, tCons, tNil, tCB, tC, tNext, tCallS, tDrop, tNot, tNotV, tSl, tNoPart, tPart, tBM, tBM0, iList, iTup, iStr, iSrc, iRng1, iRng2, iEnumS, iZipS, tBreak, tCont, gSub, tAug, tMth, tMakeS, tM1, tM0, tFld, cxOf]
    try dsimp only at hm
    unfold m__law_plus at hm
    try try dsimp only [tAsg, tRet, tRetN, tOp, tUn, tTest, tB, tCons, tNil, tCB, tC, tNext, tCallS, tDrop, tNot, tNotV, tSl, tNoPart, tPart, tBM, tBM0, iList, iTup, iStr, iSrc, iRng1, iRng2, iEnumS, iZipS, tBreak, tCont, gSub, tAug, tMth, tMakeS, tM1, tM0, tFld, cxOf]
    refine s_var c0 (i := 0) rfl fun v1 r2 => ?_
    refine s_ixT c0 (show Rep K _ _ ((eP D.int D.int) x_) from r2) (d := D.int x_.1) rfl fun v3 r4 => ?_
    cases r4
    refine s_var c0 (i := 1) rfl fun v5 r6 => ?_
    refine s_ixT c0 (show Rep K _ _ ((eP D.int D.int) y) from r6) (d := D.int y.2) rfl fun v7 r8 => ?_
    cases r8
    refine s_mul' s hm fun x9 q11 hm10 => ?_
    refine s_var c0 (i := 1) rfl fun v12 r13 => ?_
    refine s_ixT c0 (show Rep K _ _ ((eP D.int D.int) y) from r13) (d := D.int y.1) rfl fun v14 r15 => ?_
    cases r15
    refine s_var c0 (i := 0) rfl fun v16 r17 => ?_
    refine s_ixT c0 (show Rep K _ _ ((eP D.int D.int) x_) from r17) (d := D.int x_.2) rfl fun v18 r19 => ?_
    cases r19
    refine s_mul' s hm10 fun x20 q22 hm21 => ?_
    refine s_i0 ?_
    refine s_var c0 (i := 0) rfl fun v23 r24 => ?_
    refine s_ixT c0 (show Rep K _ _ ((eP D.int D.int) x_) from r24) (d := D.int x_.2) rfl fun v25 r26 => ?_
    cases r26
    refine s_var c0 (i := 1) rfl fun v27 r28 => ?_
    refine s_ixT c0 (show Rep K _ _ ((eP D.int D.int) y) from r28) (d := D.int y.2) rfl fun v29 r30 => ?_
    cases r30
    refine s_mul' s hm21 fun x31 q33 hm32 => ?_
    refine s_call (ps := (fun x : (Int × Int) => [D.int x.1, D.int x.2])) (m := (fun x => m__law_lowest x.1 x.2)) (x := ((x9 + x20), x31)) s hm32 c0 rfl (Reps.cons (show Rep K _ _ (D.int (x9 + x20)) from (Rep.int _)) (Reps.cons (show Rep K _ _ (D.int x31) from (Rep.int _)) Reps.nil)) fun y34 v34 F34 H34 hm34 e34 c34 r34 => ?_
    exact Fin.ret (d := (eP D.int D.int) y34) hm34 c34 (r34) rfl (.inl rfl)
@[irreducible] def m__law_times (x_ : (Int × Int)) (y : (Int × Int)) : Res (Int × Int) :=
  (mulR x_.1 y.1).bind fun x9 =>
  (mulR x_.2 y.2).bind fun x20 =>
  (m__law_lowest x9 x20).bind fun y23 =>
  Res.ok y23
abbrev sp__law_times (K : PySem.W.Frag) (ad : Nat → Addr) : Sp := SpP (π := ((Int × Int) × (Int × Int))) K (ecl ad) (fun x => [(eP D.int D.int) x.1, (eP D.int D.int) x.2]) (fun x => m__law_times x.1 x.2) (fun y => .val ((eP D.int D.int) y))
theorem ok__law_times (T : Txt K w mg ad fd) : Cm P w K mg base 3 (ad 39) (fd 39) ["x", "y"] (sp__law_times K ad) := by
  refine ⟨T.f__law_times.okG sc__law_times (fun vs H Q E h => ?_) (fun cdv A outer sh H0 vs Q E gd hr h => ?_), T.f__law_times.binds (ps := ["x", "y"]) fun _ _ _ _ _ _ us hl => match us, hl with | [_, _], _ => rfl⟩
  · obtain ⟨F, x, _, r, _⟩ := h
    exact r.length
  · obtain ⟨F0, ⟨x_, y⟩, fh0, r0, hm⟩ := h
    have hu := hr.units
    have r0 : Reps K F0 vs [(eP D.int D.int) x_, (eP D.int D.int) y] := r0
    have c0 : Ctx K ⟨F0, H0, none⟩ F0 H0 (start ["x", "y"] vs) [.val ((eP D.int D.int) x_), .val ((eP D.int D.int) y)] := ctx_start fh0 r0 rfl (by show (2 : Nat) ≤ 2; decide)
    have s := Fin.sct (K := K) (B := ⟨F0, H0, none⟩) (n := 2) (cl := ecl ad) (rt := fun y => .val ((eP D.int D.int) y)) (out := fun _ : (Int × Int) => []) (Q := Q) (E := E)
    refine ⟨_, (pss_one (ps_ret (pe_cm (ok__law_lowest T (P := P) (w := w) (base := base)) gd (hr.mono (by decide)) T.g__law_lowest T.f__law_lowest.kp (L2N.takes_of rfl rfl rfl rfl) (pa_cons (pe_op op_mulW (pe_ix (ix_tupK (K := K)) (pv 0) pe_int (fun _ _ => rfl)) (pe_ix (ix_tupK (K := K)) (pv 1) pe_int (fun _ _ => rfl))) (pa_cons (pe_op op_mulW (pe_ix (ix_tupK (K := K)) (pv 0) pe_int (fun _ _ => rfl)) (pe_ix (ix_tupK (K := K)) (pv 1) pe_int (fun _ _ => rfl))) pa_nil))))), ?_⟩
    generalize start _ _ = σ at c0 ⊢
    try dsimp only [tAsg, tRet, tRetN, tOp, tUn, tTest, tB, tCons, tNil, tCB, tC, tNext, tCallS, tDrop, tNot, tNotV, tSl, tNoPart, tPart, tBM, tBM0, iList, iTup, iStr, iSrc, iRng1, iRng2, iEnumS, iZipS, tBreak, tCont, gSub, tAug, tMth, tMakeS, tM1, tM0, tFld, cxOf]
    try dsimp only at hm
    unfold m__law_times at hm
    try try dsimp only [tAsg, tRet, tRetN, tOp, tUn, tTest, tB, tCons, tNil, tCB, tC, tNext, tCallS, tDrop, tNot, tNotV, tSl, tNoPart, tPart, tBM, tBM0, iList, iTup, iStr, iSrc, iRng1, iRng2, iEnumS, iZipS, tBreak, tCont, gSub, tAug, tMth, tMakeS, tM1, tM0, tFld, cxOf]
    refine s_var c0 (i := 0) rfl fun v1 r2 => ?_
    refine s_ixT c0 (show Rep K _ _ ((eP D.int D.int) x_) from r2) (d := D.int x_.1) rfl fun v3 r4 => ?_
    cases r4
    refine s_var c0 (i := 1) rfl fun v5 r6 => ?_
    refine s_ixT c0 (show Rep K _ _ ((eP D.int D.int) y) from r6) (d := D.int y.1) rfl fun v7 r8 => ?_
    cases r8
    refine s_mul' s hm fun x9 q11 hm10 => ?_
    refine s_var c0 (i := 0) rfl fun v12 r13 => ?_
    refine s_ixT c0 (show Rep K _ _ ((eP D.int D.int) x_) from r13) (d := D.int x_.2) rfl fun v14 r15 => ?_
    cases r15
    refine s_var c0 (i := 1) rfl fun v16 r17 => ?_
    refine s_ixT c0 (show Rep K _ _ ((eP D.int D.int) y) from r17) (d := D.int y.2) rfl fun v18 r19 => ?_
    cases r19
    refine s_mul' s hm10 fun x20 q22 hm21 => ?_
    refine s_call (ps := (fun x : (Int × Int) => [D.int x.1, D.int x.2])) (m := (fun x => m__law_lowest x.1 x.2)) (x := (x9, x20)) s hm21 c0 rfl (Reps.cons (show Rep K _ _ (D.int x9) from (Rep.int _)) (Reps.cons (show Rep K _ _ (D.int x20) from (Rep.int _)) Reps.nil)) fun y23 v23 F23 H23 hm23 e23 c23 r23 => ?_
    exact Fin.ret (d := (eP D.int D.int) y23) hm23 c23 (r23) rfl (.inl rfl)
@[irreducible] def m__law_less (x_ : (Int × Int)) (y : (Int × Int)) : Res (Int × Int) :=
  (mulR x_.1 y.2).bind fun x9 =>
  (mulR y.1 x_.2).bind fun x20 =>
  (mulR x_.2 y.2).bind fun x31 =>
  (m__law_lowest (x9 - x20) x31).bind fun y34 =>
  Res.ok y34
abbrev sp__law_less (K : PySem.W.Frag) (ad : Nat → Addr) : Sp := SpP (π := ((Int × Int) × (Int × Int))) K (ecl ad) (fun x => [(eP D.int D.int) x.1, (eP D.int D.int) x.2]) (fun x => m__law_less x.1 x.2) (fun y => .val ((eP D.int D.int) y))
theorem ok__law_less (T : Txt K w mg ad fd) : Cm P w K mg base 3 (ad 40) (fd 40) ["x", "y"] (sp__law_less K ad) := by
  refine ⟨T.f__law_less.okG sc__law_less (fun vs H Q E h => ?_) (fun cdv A outer sh H0 vs Q E gd hr h => ?_), T.f__law_less.binds (ps := ["x", "y"]) fun _ _ _ _ _ _ us hl => match us, hl with | [_, _], _ => rfl⟩
  · obtain ⟨F, x, _, r, _⟩ := h
    exact r.length
  · obtain ⟨F0, ⟨x_, y⟩, fh0, r0, hm⟩ := h
    have hu := hr.units
    have r0 : Reps K F0 vs [(eP D.int D.int) x_, (eP D.int D.int) y] := r0
    have c0 : Ctx K ⟨F0, H0, none⟩ F0 H0 (start ["x", "y"] vs) [.val ((eP D.int D.int) x_), .val ((eP D.int D.int) y)] := ctx_start fh0 r0 rfl (by show (2 : Nat) ≤ 2; decide)
    have s := Fin.sct (K := K) (B := ⟨F0, H0, none⟩) (n := 2) (cl := ecl ad) (rt := fun y => .val ((eP D.int D.int) y)) (out := fun _ : (Int × Int) => []) (Q := Q) (E := E)
    refine ⟨_, (pss_one (ps_ret (pe_cm (ok__law_lowest T (P := P) (w := w) (base := base)) gd (hr.mono (by decide)) T.g__law_lowest T.f__law_lowest.kp (L2N.takes_of rfl rfl rfl rfl) (pa_cons (pe_op op_sub (pe_op op_mulW (pe_ix (ix_tupK (K := K)) (pv 0) pe_int (fun _ _ => rfl)) (pe_ix (ix_tupK (K := K)) (pv 1) pe_int (fun _ _ => rfl))) (pe_op op_mulW (pe_ix (ix_tupK (K := K)) (pv 1) pe_int (fun _ _ => rfl)) (pe_ix (ix_tupK (K := K)) (pv 0) pe_int (fun _ _ => rfl)))) (pa_cons (pe_op op_mulW (pe_ix (ix_tupK (K := K)) (pv 0) pe_int (fun _ _ => rfl)) (pe_ix (ix_tupK (K := K)) (pv 1) pe_int (fun _ _ => rfl))) pa_nil))))), ?_⟩
    generalize start _ _ = σ at c0 ⊢
    try dsimp only [tAsg, tRet, tRetN, tOp, tUn, tTest, tB, tCons, tNil, tCB, tC, tNext, tCallS, tDrop, tNot, tNotV, tSl, tNoPart, tPart, tBM, tBM0, iList, iTup, iStr, iSrc, iRng1, iRng2, iEnumS, iZipS, tBreak, tCont, gSub, tAug, tMth, tMakeS, tM1, tM0, tFld, cxOf]
    try dsimp only at hm
    unfold m__law_less at hm
    try try dsimp only [tAsg, tRet, tRetN, tOp, tUn, tTest, tB, tCons, tNil, tCB, tC, tNext, tCallS, tDrop, tNot, tNotV, tSl, tNoPart, tPart, tBM, tBM0, iList, iTup, iStr, iSrc, iRng1, iRng2, iEnumS, iZipS, tBreak, tCont, gSub, tAug, tMth, tMakeS, tM1, tM0, tFld, cxOf]
    refine s_var c0 (i := 0) rfl fun v1 r2 => ?_
    refine s_ixT c0 (show Rep K _ _ ((eP D.int D.int) x_) from r2) (d := D.int x_.1) rfl fun v3 r4 => ?_
    cases r4
    refine s_var c0 (i := 1) rfl fun v5 r6 => ?_
    refine s_ixT c0 (show Rep K _ _ ((eP D.int D.int) y) from r6) (d := D.int y.2) rfl fun v7 r8 => ?_
    cases r8
    refine s_mul' s hm fun x9 q11 hm10 => ?_
    refine s_var c0 (i := 1) rfl fun v12 r13 => ?_
    refine s_ixT c0 (show Rep K _ _ ((eP D.int D.int) y) from r13) (d := D.int y.1) rfl fun v14 r15 => ?_
    cases r15
    refine s_var c0 (i := 0) rfl fun v16 r17 => ?_
    refine s_ixT c0 (show Rep K _ _ ((eP D.int D.int) x_) from r17) (d := D.int x_.2) rfl fun v18 r19 => ?_
    cases r19
    refine s_mul' s hm10 fun x20 q22 hm21 => ?_
    refine s_i0 ?_
    refine s_var c0 (i := 0) rfl fun v23 r24 => ?_
    refine s_ixT c0 (show Rep K _ _ ((eP D.int D.int) x_) from r24) (d := D.int x_.2) rfl fun v25 r26 => ?_
    cases r26
    refine s_var c0 (i := 1) rfl fun v27 r28 => ?_
    refine s_ixT c0 (show Rep K _ _ ((eP D.int D.int) y) from r28) (d := D.int y.2) rfl fun v29 r30 => ?_
    cases r30
    refine s_mul' s hm21 fun x31 q33 hm32 => ?_
    refine s_call (ps := (fun x : (Int × Int) => [D.int x.1, D.int x.2])) (m := (fun x => m__law_lowest x.1 x.2)) (x := ((x9 - x20), x31)) s hm32 c0 rfl (Reps.cons (show Rep K _ _ (D.int (x9 - x20)) from (Rep.int _)) (Reps.cons (show Rep K _ _ (D.int x31) from (Rep.int _)) Reps.nil)) fun y34 v34 F34 H34 hm34 e34 c34 r34 => ?_
    exact Fin.ret (d := (eP D.int D.int) y34) hm34 c34 (r34) rfl (.inl rfl)
@[irreducible] def m__law_fraction (draws : (List Int)) : Res ((Int × Int) × List Int) :=
  (m__law_next draws).bind fun y2 =>
  (m__law_next y2.2).bind fun y4 =>
  (m__law_lowest ((y2.1 % (13 : Int)) - (6 : Int)) ((1 : Int) + (y4.1 % (4 : Int)))).bind fun y5 =>
  Res.ok (y5, y4.2)
abbrev sp__law_fraction (K : PySem.W.Frag) (ad : Nat → Addr) : Sp := SpI (π := (List Int)) K (ecl ad) (fun x => List.map D.int x) (fun x => []) (fun x => m__law_fraction x) (fun y => .val ((eP D.int D.int) y.1)) (fun y => List.map D.int y.2)
theorem ok__law_fraction (T : Txt K w mg ad fd) : Cm P w K mg base 3 (ad 42) (fd 42) ["draws"] (sp__law_fraction K ad) := by
  refine ⟨T.f__law_fraction.okG sc__law_fraction (fun vs H Q E h => ?_) (fun cdv A outer sh H0 vs Q E gd hr h => ?_), T.f__law_fraction.binds (ps := ["draws"]) fun _ _ _ _ _ _ us hl => match us, hl with | [_], _ => rfl⟩
  · obtain ⟨F, x, l, us, rfl, _, _, r, _⟩ := h
    exact congrArg (· + 1) r.length
  · obtain ⟨F0, draws, l0, us, rfl, fh0, o0, r0, hm⟩ := h
    have hu := hr.units
    have r0 : Reps K F0 us [] := r0
    have o0 : Own K F0 H0 l0 (List.map D.int draws) := o0
    have c0 : Ctx K ⟨F0, H0, some l0⟩ F0 H0 (start ["draws"] (.ref l0 :: us)) [.io (List.map D.int draws)] := ctx_startIO fh0 o0 r0 rfl (by show (1 : Nat) ≤ 1; decide)
    have s := Fin.sct (K := K) (B := ⟨F0, H0, some l0⟩) (n := 1) (cl := ecl ad) (rt := fun y => .val ((eP D.int D.int) y.1)) (out := fun y : ((Int × Int) × List Int) => List.map D.int y.2) (Q := Q) (E := E)
    refine ⟨_, (pss_one (ps_ret (pe_cm (ok__law_lowest T (P := P) (w := w) (base := base)) gd (hr.mono (by decide)) T.g__law_lowest T.f__law_lowest.kp (L2N.takes_of rfl rfl rfl rfl) (pa_cons (pe_op op_sub (pe_op op_mod (pe_callTy (T := "int") c_int (by rfl) T.m_int (by decide +kernel) (pa_cons (pe_cm (ok__law_next T (P := P) (w := w) (base := base)) gd (hr.mono (by decide)) T.g__law_next T.f__law_next.kp (L2N.takes_of rfl rfl rfl rfl) (pa_cons (pv 0) pa_nil)) pa_nil)) pe_int) pe_int) (pa_cons (pe_op op_add pe_int (pe_op op_mod (pe_callTy (T := "int") c_int (by rfl) T.m_int (by decide +kernel) (pa_cons (pe_cm (ok__law_next T (P := P) (w := w) (base := base)) gd (hr.mono (by decide)) T.g__law_next T.f__law_next.kp (L2N.takes_of rfl rfl rfl rfl) (pa_cons (pv 0) pa_nil)) pa_nil)) pe_int)) pa_nil))))), ?_⟩
    generalize start _ _ = σ at c0 ⊢
    try dsimp only [tAsg, tRet, tRetN, tOp, tUn, tTest, tB, tCons, tNil, tCB, tC, tNext, tCallS, tDrop, tNot, tNotV, tSl, tNoPart, tPart, tBM, tBM0, iList, iTup, iStr, iSrc, iRng1, iRng2, iEnumS, iZipS, tBreak, tCont, gSub, tAug, tMth, tMakeS, tM1, tM0, tFld, cxOf]
    try dsimp only at hm
    unfold m__law_fraction at hm
    try try dsimp only [tAsg, tRet, tRetN, tOp, tUn, tTest, tB, tCons, tNil, tCB, tC, tNext, tCallS, tDrop, tNot, tNotV, tSl, tNoPart, tPart, tBM, tBM0, iList, iTup, iStr, iSrc, iRng1, iRng2, iEnumS, iZipS, tBreak, tCont, gSub, tAug, tMth, tMakeS, tM1, tM0, tFld, cxOf]
    refine s_varIO c0 (i := 0) rfl fun a1 xs1 ha1 hx1 l1 t1 => ?_
    refine s_callI (ps := (fun x : (List Int) => [])) (m := (fun x => m__law_next x)) (x := (draws)) (i := 0) s hm c0 rfl ha1 rfl Reps.nil fun y2 v2 F2 H2 hm2 e2 c2 r2 => ?_
    replace c2 : Ctx K _ _ _ _ [.io (List.map D.int y2.2)] := c2
    cases (show Rep K _ _ (D.int y2.1) from r2)
    refine n_intI ?_
    refine s_iC (by decide) ?_
    refine s_i0 ?_
    refine s_varIO c2 (i := 0) rfl fun a3 xs3 ha3 hx3 l3 t3 => ?_
    refine s_callI (ps := (fun x : (List Int) => [])) (m := (fun x => m__law_next x)) (x := (y2.2)) (i := 0) s hm2 c2 rfl ha3 rfl Reps.nil fun y4 v4 F4 H4 hm4 e4 c4 r4 => ?_
    replace c4 : Ctx K _ _ _ _ [.io (List.map D.int y4.2)] := c4
    cases (show Rep K _ _ (D.int y4.1) from r4)
    refine n_intI ?_
    refine s_iC (by decide) ?_
    refine s_i0 ?_
    refine s_call (ps := (fun x : (Int × Int) => [D.int x.1, D.int x.2])) (m := (fun x => m__law_lowest x.1 x.2)) (x := (((y2.1 % (13 : Int)) - (6 : Int)), ((1 : Int) + (y4.1 % (4 : Int))))) s hm4 c4 rfl (Reps.cons (show Rep K _ _ (D.int ((y2.1 % (13 : Int)) - (6 : Int))) from (Rep.int _)) (Reps.cons (show Rep K _ _ (D.int ((1 : Int) + (y4.1 % (4 : Int)))) from (Rep.int _)) Reps.nil)) fun y5 v5 F5 H5 hm5 e5 c5 r5 => ?_
    exact Fin.ret (d := (eP D.int D.int) y5) hm5 c5 (r5) rfl (.inr rfl)
@[irreducible] def m__law_over (x_ : (Int × Int)) (y : (Int × Int)) : Res (Int × Int) :=
  (mulR x_.1 y.2).bind fun x9 =>
  (mulR x_.2 y.1).bind fun x20 =>
  (m__law_lowest x9 x20).bind fun y23 =>
  Res.ok y23
abbrev sp__law_over (K : PySem.W.Frag) (ad : Nat → Addr) : Sp := SpP (π := ((Int × Int) × (Int × Int))) K (ecl ad) (fun x => [(eP D.int D.int) x.1, (eP D.int D.int) x.2]) (fun x => m__law_over x.1 x.2) (fun y => .val ((eP D.int D.int) y))
theorem ok__law_over (T : Txt K w mg ad fd) : Cm P w K mg base 3 (ad 44) (fd 44) ["x", "y"] (sp__law_over K ad) := by
  refine ⟨T.f__law_over.okG sc__law_over (fun vs H Q E h => ?_) (fun cdv A outer sh H0 vs Q E gd hr h => ?_), T.f__law_over.binds (ps := ["x", "y"]) fun _ _ _ _ _ _ us hl => match us, hl with | [_, _], _ => rfl⟩
  · obtain ⟨F, x, _, r, _⟩ := h
    exact r.length
  · obtain ⟨F0, ⟨x_, y⟩, fh0, r0, hm⟩ := h
    have hu := hr.units
    have r0 : Reps K F0 vs [(eP D.int D.int) x_, (eP D.int D.int) y] := r0
    have c0 : Ctx K ⟨F0, H0, none⟩ F0 H0 (start ["x", "y"] vs) [.val ((eP D.int D.int) x_), .val ((eP D.int D.int) y)] := ctx_start fh0 r0 rfl (by show (2 : Nat) ≤ 2; decide)
    have s := Fin.sct (K := K) (B := ⟨F0, H0, none⟩) (n := 2) (cl := ecl ad) (rt := fun y => .val ((eP D.int D.int) y)) (out := fun _ : (Int × Int) => []) (Q := Q) (E := E)
    refine ⟨_, (pss_one (ps_ret (pe_cm (ok__law_lowest T (P := P) (w := w) (base := base)) gd (hr.mono (by decide)) T.g__law_lowest T.f__law_lowest.kp (L2N.takes_of rfl rfl rfl rfl) (pa_cons (pe_op op_mulW (pe_ix (ix_tupK (K := K)) (pv 0) pe_int (fun _ _ => rfl)) (pe_ix (ix_tupK (K := K)) (pv 1) pe_int (fun _ _ => rfl))) (pa_cons (pe_op op_mulW (pe_ix (ix_tupK (K := K)) (pv 0) pe_int (fun _ _ => rfl)) (pe_ix (ix_tupK (K := K)) (pv 1) pe_int (fun _ _ => rfl))) pa_nil))))), ?_⟩
    generalize start _ _ = σ at c0 ⊢
    try dsimp only [tAsg, tRet, tRetN, tOp, tUn, tTest, tB, tCons, tNil, tCB, tC, tNext, tCallS, tDrop, tNot, tNotV, tSl, tNoPart, tPart, tBM, tBM0, iList, iTup, iStr, iSrc, iRng1, iRng2, iEnumS, iZipS, tBreak, tCont, gSub, tAug, tMth, tMakeS, tM1, tM0, tFld, cxOf]
    try dsimp only at hm
    unfold m__law_over at hm
    try try dsimp only [tAsg, tRet, tRetN, tOp, tUn, tTest, tB, tCons, tNil, tCB, tC, tNext, tCallS, tDrop, tNot, tNotV, tSl, tNoPart, tPart, tBM, tBM0, iList, iTup, iStr, iSrc, iRng1, iRng2, iEnumS, iZipS, tBreak, tCont, gSub, tAug, tMth, tMakeS, tM1, tM0, tFld, cxOf]
    refine s_var c0 (i := 0) rfl fun v1 r2 => ?_
    refine s_ixT c0 (show Rep K _ _ ((eP D.int D.int) x_) from r2) (d := D.int x_.1) rfl fun v3 r4 => ?_
    cases r4
    refine s_var c0 (i := 1) rfl fun v5 r6 => ?_
    refine s_ixT c0 (show Rep K _ _ ((eP D.int D.int) y) from r6) (d := D.int y.2) rfl fun v7 r8 => ?_
    cases r8
    refine s_mul' s hm fun x9 q11 hm10 => ?_
    refine s_var c0 (i := 0) rfl fun v12 r13 => ?_
    refine s_ixT c0 (show Rep K _ _ ((eP D.int D.int) x_) from r13) (d := D.int x_.2) rfl fun v14 r15 => ?_
    cases r15
    refine s_var c0 (i := 1) rfl fun v16 r17 => ?_
    refine s_ixT c0 (show Rep K _ _ ((eP D.int D.int) y) from r17) (d := D.int y.1) rfl fun v18 r19 => ?_
    cases r19
    refine s_mul' s hm10 fun x20 q22 hm21 => ?_
    refine s_call (ps := (fun x : (Int × Int) => [D.int x.1, D.int x.2])) (m := (fun x => m__law_lowest x.1 x.2)) (x := (x9, x20)) s hm21 c0 rfl (Reps.cons (show Rep K _ _ (D.int x9) from (Rep.int _)) (Reps.cons (show Rep K _ _ (D.int x20) from (Rep.int _)) Reps.nil)) fun y23 v23 F23 H23 hm23 e23 c23 r23 => ?_
    exact Fin.ret (d := (eP D.int D.int) y23) hm23 c23 (r23) rfl (.inl rfl)
@[irreducible] def m_cleared (row : (List (Int × Int))) : Res (List Int) :=
  (m_over_one_divisor row).bind fun y3 =>
  (m_primitive y3.1).bind fun y7 =>
  Res.ok y7
abbrev sp_cleared (K : PySem.W.Frag) (ad : Nat → Addr) : Sp := SpP (π := (List (Int × Int))) K (ecl ad) (fun x => [(eT (eP D.int D.int)) x]) (fun x => m_cleared x) (fun y => .val ((eT D.int) y))
theorem ok_cleared (T : Txt K w mg ad fd) : Cm P w K mg base 4 (ad 16) (fd 16) ["row"] (sp_cleared K ad) := by
  refine ⟨T.f_cleared.okG sc_cleared (fun vs H Q E h => ?_) (fun cdv A outer sh H0 vs Q E gd hr h => ?_), T.f_cleared.binds (ps := ["row"]) fun _ _ _ _ _ _ us hl => match us, hl with | [_], _ => rfl⟩
  · obtain ⟨F, x, _, r, _⟩ := h
    exact r.length
  · obtain ⟨F0, row, fh0, r0, hm⟩ := h
    have hu := hr.units
    have r0 : Reps K F0 vs [(eT (eP D.int D.int)) row] := r0
    have c0 : Ctx K ⟨F0, H0, none⟩ F0 H0 (start ["row", "integers", "_"] vs) [.val ((eT (eP D.int D.int)) row), .un, .un] := ctx_start fh0 r0 rfl (by show (1 : Nat) ≤ 3; decide)
    have s := Fin.sct (K := K) (B := ⟨F0, H0, none⟩) (n := 3) (cl := ecl ad) (rt := fun y => .val ((eT D.int) y)) (out := fun _ : (List Int) => []) (Q := Q) (E := E)
    refine ⟨_, (pss_cons (ps_asg (pe_cm (ok_over_one_divisor T (P := P) (w := w) (base := base)) gd (hr.mono (by decide)) T.g_over_one_divisor T.f_over_one_divisor.kp (L2N.takes_of rfl rfl rfl rfl) (pa_cons (pv 0) pa_nil)) (pg_tup (n := 2) rfl (pgs_cons (pg_name (i := 1) sc_cleared.nd rfl (by first | exact Or.inl rfl | exact Or.inr rfl)) (pgs_cons (pg_name (i := 2) sc_cleared.nd rfl (by first | exact Or.inl rfl | exact Or.inr rfl)) pgs_nil))))
    (pss_one (ps_ret (pe_cm (ok_primitive T (P := P) (w := w) (base := base)) gd (hr.mono (by decide)) T.g_primitive T.f_primitive.kp (L2N.takes_of rfl rfl rfl rfl) (pa_cons (pv 1) pa_nil))))), ?_⟩
    generalize start _ _ = σ at c0 ⊢
    try dsimp only [tAsg, tRet, tRetN, tOp, tUn, tTest, tB, tCons, tNil, tCB, tC, tNext, tCallS, tDrop, tNot, tNotV, tSl, tNoPart, tPart, tBM, tBM0, iList, iTup, iStr, iSrc, iRng1, iRng2, iEnumS, iZipS, tBreak, tCont, gSub, tAug, tMth, tMakeS, tM1, tM0, tFld, cxOf]
    try dsimp only at hm
    unfold m_cleared at hm
    refine w_seq ?_
    try try dsimp only [tAsg, tRet, tRetN, tOp, tUn, tTest, tB, tCons, tNil, tCB, tC, tNext, tCallS, tDrop, tNot, tNotV, tSl, tNoPart, tPart, tBM, tBM0, iList, iTup, iStr, iSrc, iRng1, iRng2, iEnumS, iZipS, tBreak, tCont, gSub, tAug, tMth, tMakeS, tM1, tM0, tFld, cxOf]
    refine s_var c0 (i := 0) rfl fun v1 r2 => ?_
    refine s_call (ps := (fun x : (List (Int × Int)) => [(eT (eP D.int D.int)) x])) (m := (fun x => m_over_one_divisor x)) (x := (row)) s hm c0 rfl (Reps.cons (show Rep K _ _ ((eT (eP D.int D.int)) row) from r2) Reps.nil) fun y3 v3 F3 H3 hm3 e3 c3 r3 => ?_
    refine s_gP2 (d1 := (eL D.int) y3.1) (d2 := D.int y3.2) (ss' := [.val ((eT (eP D.int D.int)) row), .val ((eL D.int) y3.1), .val (D.int y3.2)]) c3 (.inl (by decide)) (.inl (by decide)) (show Rep K _ _ ((eP (eL D.int) D.int) y3) from r3) rfl fun σ c4 => ?_
    try try dsimp only [tAsg, tRet, tRetN, tOp, tUn, tTest, tB, tCons, tNil, tCB, tC, tNext, tCallS, tDrop, tNot, tNotV, tSl, tNoPart, tPart, tBM, tBM0, iList, iTup, iStr, iSrc, iRng1, iRng2, iEnumS, iZipS, tBreak, tCont, gSub, tAug, tMth, tMakeS, tM1, tM0, tFld, cxOf]
    refine s_var c4 (i := 1) rfl fun v5 r6 => ?_
    refine s_call (ps := (fun x : ((List Int) × Bool) => [(eSq x.2 D.int) x.1])) (m := (fun x => m_primitive x.1)) (x := (y3.1, true)) s hm3 c4 rfl (Reps.cons (show Rep K _ _ ((eSq true D.int) y3.1) from r6) Reps.nil) fun y7 v7 F7 H7 hm7 e7 c7 r7 => ?_
    exact Fin.ret (d := (eT D.int) y7) hm7 c7 (r7) rfl (.inl rfl)
end
end MI
namespace MI
open PySem PySem.Spec PyProof.Rows L2 Evl PW
open L2 (start)
section
variable {P : Program} {w : World} {K : PySem.W.Frag} {mg : Str → Option Value} {base : Heap} {ad : Nat → Addr} {fd : Nat → FuncData}
@[irreducible] def m_whole_echelon (width : Int) (rows : (List (List Int))) : Res (List (Int × (List Int))) :=
  (mapR (fun z6 =>
    (m_primitive z6).bind fun y9 =>
  Res.ok y9) rows).bind fun bs6 =>
  (rngR 0 width).bind fun zs15 =>
  (foldR (fun z16 st16 =>
    (m_first_row_with st16.2 z16).bind fun y19 =>
  if y19.isSome = true then
    (getO y19).bind fun y29 =>
  (ix st16.2 y29).bind fun x32 =>
  (mapR (fun z43 =>
    (m_struck z43.2 x32 z16).bind fun y48 =>
  Res.ok (z43.1, y48)) st16.1).bind fun bs43 =>
  (chkLen (bs43 ++ [(z16, x32)])).bind fun x56 =>
  (compR (fun z64 =>
    if (decide ((some z64.1) ≠ y19)) = true then (m_struck z64.2 x32 z16).bind fun y73 =>
  Res.ok (some y73) else Res.ok none) (enum st16.2)).bind fun bs64 =>
  Res.ok (x56, bs64)
  else
    Res.ok (st16.1, st16.2)) zs15 (([] : List (Int × (List Int))), bs6)).bind fun st16 =>
  Res.ok st16.1
abbrev sp_whole_echelon (K : PySem.W.Frag) (ad : Nat → Addr) : Sp := SpP (π := (Int × (List (List Int)))) K (ecl ad) (fun x => [D.int x.1, (eL (eT D.int)) x.2]) (fun x => m_whole_echelon x.1 x.2) (fun y => .val ((eL (eP D.int (eT D.int))) y))
theorem ok_whole_echelon (T : Txt K w mg ad fd) : Cm P w K mg base 4 (ad 25) (fd 25) ["width", "rows"] (sp_whole_echelon K ad) := by
  refine ⟨T.f_whole_echelon.okG sc_whole_echelon (fun vs H Q E h => ?_) (fun cdv A outer sh H0 vs Q E gd hr h => ?_), T.f_whole_echelon.binds (ps := ["width", "rows"]) fun _ _ _ _ _ _ us hl => match us, hl with | [_, _], _ => rfl⟩
  · obtain ⟨F, x, _, r, _⟩ := h
    exact r.length
  · obtain ⟨F0, ⟨width, rows⟩, fh0, r0, hm⟩ := h
    have hu := hr.units
    have r0 : Reps K F0 vs [D.int width, (eL (eT D.int)) rows] := r0
    have c0 : Ctx K ⟨F0, H0, none⟩ F0 H0 (start ["width", "rows", "done", "left", "row", "place", "at", "by", "pivot", "k"] vs) [.val (D.int width), .val ((eL (eT D.int)) rows), .un, .un, .un, .un, .un, .un, .un, .un] := ctx_start fh0 r0 rfl (by show (2 : Nat) ≤ 10; decide)
    have s := Fin.sct (K := K) (B := ⟨F0, H0, none⟩) (n := 10) (cl := ecl ad) (rt := fun y => .val ((eL (eP D.int (eT D.int))) y)) (out := fun _ : (List (Int × (List Int))) => []) (Q := Q) (E := E)
    refine ⟨_, (pss_cons (ps_set (i := 2) sc_whole_echelon.nd rfl (by first | exact Or.inl rfl | exact Or.inr rfl) (pe_lst pa_nil))
    (pss_cons (ps_setLc (i := 3) (own := [("row", 4)]) rfl sc_whole_echelon.nd rfl rfl (sw_true rfl rfl rfl (by decide +kernel)) (pi_listK (K := K) (pv 1)) (blkOk_by (N := ["width", "rows", "done", "left", "row", "place", "at", "by", "pivot", "k"]) (sc := defScope s_whole_echelon) (by decide +kernel)) (fun _ _ _ _ _ => (pg_name (i := 4) sc_whole_echelon.nd rfl (by first | exact Or.inl rfl | exact Or.inr rfl))) (fun _ _ _ _ _ => pts_nil) (fun _ _ _ _ _ => (pe_cm (ok_primitive T (P := P) (w := w) (base := base)) gd (hr.mono (by decide)) T.g_primitive T.f_primitive.kp takes0N (pa_cons (pv 4) pa_nil))))
    (pss_cons (ps_for (by first | exact PassesOwn.never | exact passes_of rfl) rfl (pi_range1 rfl T.m_range (pa_cons (pv 0) pa_nil)) (pg_name (i := 5) sc_whole_echelon.nd rfl (by first | exact Or.inl rfl | exact Or.inr rfl))
      (pss_cons (ps_set (i := 6) sc_whole_echelon.nd rfl (by first | exact Or.inl rfl | exact Or.inr rfl) (pe_cm (ok_first_row_with T (P := P) (w := w) (base := base)) gd (hr.mono (by decide)) T.g_first_row_with T.f_first_row_with.kp (L2N.takes_of rfl rfl rfl rfl) (pa_cons (pv 3) (pa_cons (pv 5) pa_nil))))
    (pss_one (ps_if (pt_cmpR o_notN (pv 6) pe_non (nomark _)) (pss_cons (ps_set (i := 7) sc_whole_echelon.nd rfl (by first | exact Or.inl rfl | exact Or.inr rfl) (pe_ix (ix_listK (K := K)) (pv 3) (pv 6) (fun _ _ => rfl)))
    (pss_cons (ps_setLc (i := 2) (own := [("pivot", 8), ("row", 4)]) (g := gTup K 2 (gCons (gName 8) (gCons (gName 4) gNil))) rfl sc_whole_echelon.nd rfl rfl (sw_true rfl rfl rfl (by decide +kernel)) (pi_listK (K := K) (pv 2)) (blkOk_by (N := ["width", "rows", "done", "left", "row", "place", "at", "by", "pivot", "k"]) (sc := defScope s_whole_echelon) (by decide +kernel)) (fun _ _ _ _ _ => (pg_tup (n := 2) rfl (pgs_cons (pg_name (i := 8) sc_whole_echelon.nd rfl (by first | exact Or.inl rfl | exact Or.inr rfl)) (pgs_cons (pg_name (i := 4) sc_whole_echelon.nd rfl (by first | exact Or.inl rfl | exact Or.inr rfl)) pgs_nil)))) (fun _ _ _ _ _ => pts_nil) (fun _ _ _ _ _ => (pe_tup (pa_cons (pv 8) (pa_cons (pe_cm (ok_struck T (P := P) (w := w) (base := base)) gd (hr.mono (by decide)) T.g_struck T.f_struck.kp takes0N (pa_cons (pv 4) (pa_cons (pv 7) (pa_cons (pv 5) pa_nil)))) pa_nil)))))
    (pss_cons (ps_expr (pe_bm PySem.F.plainAttrs_list PySem.F.slot_list_append PySem.F.type_list_append mt_append (pv 2) (pa_cons (pe_tup (pa_cons (pv 5) (pa_cons (pv 7) pa_nil))) pa_nil)))
    (pss_one (ps_setLc (i := 3) (own := [("k", 9), ("row", 4)]) (g := gTup K 2 (gCons (gName 9) (gCons (gName 4) gNil))) rfl sc_whole_echelon.nd rfl rfl (sw_true rfl rfl rfl (by decide +kernel)) (pi_enumS (by rfl) T.m_enumerate (pa_cons (pv 3) pa_nil)) (blkOk_by (N := ["width", "rows", "done", "left", "row", "place", "at", "by", "pivot", "k"]) (sc := defScope s_whole_echelon) (by decide +kernel)) (fun _ _ _ _ _ => (pg_tup (n := 2) rfl (pgs_cons (pg_name (i := 9) sc_whole_echelon.nd rfl (by first | exact Or.inl rfl | exact Or.inr rfl)) (pgs_cons (pg_name (i := 4) sc_whole_echelon.nd rfl (by first | exact Or.inl rfl | exact Or.inr rfl)) pgs_nil)))) (fun _ _ _ _ _ => (pts_one (pt_cmpR (o_neD (by rfl) hu) (pv 9) (pv 6) (nomark _)))) (fun _ _ _ _ _ => (pe_cm (ok_struck T (P := P) (w := w) (base := base)) gd (hr.mono (by decide)) T.g_struck T.f_struck.kp takes0N (pa_cons (pv 4) (pa_cons (pv 7) (pa_cons (pv 5) pa_nil)))))))))) pss_nil))))
    (pss_one (ps_ret (pv 2)))))), ?_⟩
    generalize start _ _ = σ at c0 ⊢
    try dsimp only [tAsg, tRet, tRetN, tOp, tUn, tTest, tB, tCons, tNil, tCB, tC, tNext, tCallS, tDrop, tNot, tNotV, tSl, tNoPart, tPart, tBM, tBM0, iList, iTup, iStr, iSrc, iRng1, iRng2, iEnumS, iZipS, tBreak, tCont, gSub, tAug, tMth, tMakeS, tM1, tM0, tFld, cxOf]
    try dsimp only at hm
    unfold m_whole_echelon at hm
    refine w_seq ?_
    try try dsimp only [tAsg, tRet, tRetN, tOp, tUn, tTest, tB, tCons, tNil, tCB, tC, tNext, tCallS, tDrop, tNot, tNotV, tSl, tNoPart, tPart, tBM, tBM0, iList, iTup, iStr, iSrc, iRng1, iRng2, iEnumS, iZipS, tBreak, tCont, gSub, tAug, tMth, tMakeS, tM1, tM0, tFld, cxOf]
    refine w_lst ?_
    try dsimp only [tAsg, tRet, tRetN, tOp, tUn, tTest, tB, tCons, tNil, tCB, tC, tNext, tCallS, tDrop, tNot, tNotV, tSl, tNoPart, tPart, tBM, tBM0, iList, iTup, iStr, iSrc, iRng1, iRng2, iEnumS, iZipS, tBreak, tCont, gSub, tAug, tMth, tMakeS, tM1, tM0, tFld, cxOf]
    refine n_lstO c0 Reps.nil (by show (0 : Nat) ≤ sizeLine; decide) fun v1 H1 c1 r1 => ?_
    refine s_setO (i := 2) (ss' := [.val (D.int width), .val ((eL (eT D.int)) rows), .own (List.map (eP D.int (eT D.int)) ([] : List (Int × (List Int)))), .un, .un, .un, .un, .un, .un, .un]) c1 (.inl (by decide)) r1 rfl fun σ c2 => ?_
    refine w_seq ?_
    try try dsimp only [tAsg, tRet, tRetN, tOp, tUn, tTest, tB, tCons, tNil, tCB, tC, tNext, tCallS, tDrop, tNot, tNotV, tSl, tNoPart, tPart, tBM, tBM0, iList, iTup, iStr, iSrc, iRng1, iRng2, iEnumS, iZipS, tBreak, tCont, gSub, tAug, tMth, tMakeS, tM1, tM0, tFld, cxOf]
    refine w_lc ?_
    try dsimp only [tAsg, tRet, tRetN, tOp, tUn, tTest, tB, tCons, tNil, tCB, tC, tNext, tCallS, tDrop, tNot, tNotV, tSl, tNoPart, tPart, tBM, tBM0, iList, iTup, iStr, iSrc, iRng1, iRng2, iEnumS, iZipS, tBreak, tCont, gSub, tAug, tMth, tMakeS, tM1, tM0, tFld, cxOf]
    refine s_var c2 (i := 1) rfl fun v3 r4 => ?_
    have sl5 := lenL (show Rep K _ _ ((eL (eT D.int)) rows) from r4)
    obtain ⟨a5, q5, x5, it5⟩ := x_list c2 (show Rep K _ _ ((eL (eT D.int)) rows) from r4)
    refine ⟨a5, q5, x5, ?_⟩
    refine s_compM (vs := [4]) (en := (eT D.int)) (ss' := fun z6 => [.val (D.int width), .val ((eL (eT D.int)) rows), .rd (List.map (eP D.int (eT D.int)) ([] : List (Int × (List Int)))), .un, .val ((eT D.int) z6), .un, .un, .un, .un, .un]) s hm c2 it5 (.inl (by decide)) (tg_name (by decide)) (fun _ => rfl) sl5 (fun B6 z6 F6 H6 σ6 P6 G6 Sk6 hio6 s6 h6 zm6 e6 c6 kd6 ks6 => ?_) (fun v6 bs6 HH6 hm6 q6 => ?_)
    ·
      replace s6 := s6 10 (fun _ _ _ _ => False) (ecl ad)
      try dsimp only [tAsg, tRet, tRetN, tOp, tUn, tTest, tB, tCons, tNil, tCB, tC, tNext, tCallS, tDrop, tNot, tNotV, tSl, tNoPart, tPart, tBM, tBM0, iList, iTup, iStr, iSrc, iRng1, iRng2, iEnumS, iZipS, tBreak, tCont, gSub, tAug, tMth, tMakeS, tM1, tM0, tFld, cxOf]
      refine s_var c6 (i := 4) rfl fun v7 r8 => ?_
      refine s_call (ps := (fun x : ((List Int) × Bool) => [(eSq x.2 D.int) x.1])) (m := (fun x => m_primitive x.1)) (x := (z6, false)) s6 h6 c6 rfl (Reps.cons (show Rep K _ _ ((eSq false D.int) z6) from r8) Reps.nil) fun y9 v9 F9 H9 hm9 e9 c9 r9 => ?_
      exact kd6 _ _ _ _ _ _ hm9 c9 (show Rep K _ _ ((eT D.int) y9) from r9)
    ·
      obtain ⟨F10, e10, c10, r10⟩ := q6
      obtain ⟨F11, e11, c11, r11⟩ := Nw.frz c10 r10
      refine s_set (i := 3) (d := (eL (eT D.int)) bs6) (ss' := [.val (D.int width), .val ((eL (eT D.int)) rows), .own (List.map (eP D.int (eT D.int)) ([] : List (Int × (List Int)))), .val ((eL (eT D.int)) bs6), .un, .un, .un, .un, .un, .un]) c11 (.inl (by decide)) (r11) rfl fun σ c12 => ?_
      refine w_seq ?_
      try try dsimp only [tAsg, tRet, tRetN, tOp, tUn, tTest, tB, tCons, tNil, tCB, tC, tNext, tCallS, tDrop, tNot, tNotV, tSl, tNoPart, tPart, tBM, tBM0, iList, iTup, iStr, iSrc, iRng1, iRng2, iEnumS, iZipS, tBreak, tCont, gSub, tAug, tMth, tMakeS, tM1, tM0, tFld, cxOf]
      refine w_for ?_
      try dsimp only [tAsg, tRet, tRetN, tOp, tUn, tTest, tB, tCons, tNil, tCB, tC, tNext, tCallS, tDrop, tNot, tNotV, tSl, tNoPart, tPart, tBM, tBM0, iList, iTup, iStr, iSrc, iRng1, iRng2, iEnumS, iZipS, tBreak, tCont, gSub, tAug, tMth, tMakeS, tM1, tM0, tFld, cxOf]
      refine s_varI c12 (i := 0) rfl ?_
      obtain ⟨zs15, q13, hm14, b13, it13⟩ := x_rngR (F := F11) s hm6
      replace it13 := it_rng1 it13
      refine ⟨_, rfl, b13.2.2.1, b13.2.2.2, ?_⟩
      refine s_forP (vs := [5]) (nx := fun st16 => [.val (D.int width), .val ((eL (eT D.int)) rows), .own (List.map (eP D.int (eT D.int)) st16.1), .val ((eL (eT D.int)) st16.2), .un, .un, .un, .un, .un, .un]) (ss' := fun z16 st16 => [.val (D.int width), .val ((eL (eT D.int)) rows), .own (List.map (eP D.int (eT D.int)) st16.1), .val ((eL (eT D.int)) st16.2), .un, .val (D.int z16), .un, .un, .un, .un]) (s0 := (([] : List (Int × (List Int))), bs6)) s hm14 c12 it13 (.inl (by decide)) (tg_name (by decide)) (fun _ _ => rfl) (fun z16 st16 F16 H16 σ P16 N16 s16 h16 zm16 e16 c16 kn16 => ?_) (fun st16 F16 H16 σ hm16 e16 c16 => ?_)
      ·
        refine w_seq ?_
        try try dsimp only [tAsg, tRet, tRetN, tOp, tUn, tTest, tB, tCons, tNil, tCB, tC, tNext, tCallS, tDrop, tNot, tNotV, tSl, tNoPart, tPart, tBM, tBM0, iList, iTup, iStr, iSrc, iRng1, iRng2, iEnumS, iZipS, tBreak, tCont, gSub, tAug, tMth, tMakeS, tM1, tM0, tFld, cxOf]
        refine s_var c16 (i := 3) rfl fun v17 r18 => ?_
        refine s_varI c16 (i := 5) rfl ?_
        refine s_call (ps := (fun x : ((List (List Int)) × Int) => [(eL (eT D.int)) x.1, D.int x.2])) (m := (fun x => m_first_row_with x.1 x.2)) (x := (st16.2, z16)) s16 h16 c16 rfl (Reps.cons (show Rep K _ _ ((eL (eT D.int)) st16.2) from r18) (Reps.cons (show Rep K _ _ (D.int z16) from (Rep.int _)) Reps.nil)) fun y19 v19 F19 H19 hm19 e19 c19 r19 => ?_
        refine s_set (i := 6) (d := (eO D.int) y19) (ss' := [.val (D.int width), .val ((eL (eT D.int)) rows), .own (List.map (eP D.int (eT D.int)) st16.1), .val ((eL (eT D.int)) st16.2), .un, .val (D.int z16), .val ((eO D.int) y19), .un, .un, .un]) c19 (.inl (by decide)) (r19) rfl fun σ c20 => ?_
        refine w_ifS ?_
        try dsimp only [tAsg, tRet, tRetN, tOp, tUn, tTest, tB, tCons, tNil, tCB, tC, tNext, tCallS, tDrop, tNot, tNotV, tSl, tNoPart, tPart, tBM, tBM0, iList, iTup, iStr, iSrc, iRng1, iRng2, iEnumS, iZipS, tBreak, tCont, gSub, tAug, tMth, tMakeS, tM1, tM0, tFld, cxOf]
        refine s_var c20 (i := 6) rfl fun v21 r22 => ?_
        refine n_notN (show Rep K _ _ ((eO D.int) y19) from r22) (by intro y h; cases h) ?_
        refine s_test' ?_
        refine s_ite hm19 (fun _ hm23 => ?_) (fun _ hm24 => ?_)
        ·
          refine w_seq ?_
          try try dsimp only [tAsg, tRet, tRetN, tOp, tUn, tTest, tB, tCons, tNil, tCB, tC, tNext, tCallS, tDrop, tNot, tNotV, tSl, tNoPart, tPart, tBM, tBM0, iList, iTup, iStr, iSrc, iRng1, iRng2, iEnumS, iZipS, tBreak, tCont, gSub, tAug, tMth, tMakeS, tM1, tM0, tFld, cxOf]
          refine s_var c20 (i := 3) rfl fun v25 r26 => ?_
          refine s_var c20 (i := 6) rfl fun v27 r28 => ?_
          obtain ⟨y29, hm30, r31⟩ := s_some s16 hm23 (show Rep K _ _ ((eO D.int) y19) from r28)
          cases r31
          refine s_ixLv (en := (eT D.int)) s16 hm30 c20 (show Rep K _ _ ((eL (eT D.int)) st16.2) from r26) fun x32 v35 q34 hm33 r36 => ?_
          refine s_set (i := 7) (d := (eT D.int) x32) (ss' := [.val (D.int width), .val ((eL (eT D.int)) rows), .own (List.map (eP D.int (eT D.int)) st16.1), .val ((eL (eT D.int)) st16.2), .un, .val (D.int z16), .val ((eO D.int) y19), .val ((eT D.int) x32), .un, .un]) c20 (.inl (by decide)) (r36) rfl fun σ c37 => ?_
          refine w_seq ?_
          try try dsimp only [tAsg, tRet, tRetN, tOp, tUn, tTest, tB, tCons, tNil, tCB, tC, tNext, tCallS, tDrop, tNot, tNotV, tSl, tNoPart, tPart, tBM, tBM0, iList, iTup, iStr, iSrc, iRng1, iRng2, iEnumS, iZipS, tBreak, tCont, gSub, tAug, tMth, tMakeS, tM1, tM0, tFld, cxOf]
          refine w_lc ?_
          try dsimp only [tAsg, tRet, tRetN, tOp, tUn, tTest, tB, tCons, tNil, tCB, tC, tNext, tCallS, tDrop, tNot, tNotV, tSl, tNoPart, tPart, tBM, tBM0, iList, iTup, iStr, iSrc, iRng1, iRng2, iEnumS, iZipS, tBreak, tCont, gSub, tAug, tMth, tMakeS, tM1, tM0, tFld, cxOf]
          refine s_varO c37 (i := 2) rfl fun a38 xs38 ha38 hx38 l38 t38 => ?_
          obtain ⟨F39, e39, c39⟩ := c37.frz (i := 2) rfl
          replace c39 : Ctx K _ _ _ _ [.val (D.int width), .val ((eL (eT D.int)) rows), .val ((eL (eP D.int (eT D.int))) st16.1), .val ((eL (eT D.int)) st16.2), .un, .val (D.int z16), .val ((eO D.int) y19), .val ((eT D.int) x32), .un, .un] := c39
          obtain ⟨v40, hv39, r41⟩ := c39.val (i := 2) rfl
          cases ha38.symm.trans hv39
          have sl42 := lenL (show Rep K _ _ ((eL (eP D.int (eT D.int))) st16.1) from r41)
          obtain ⟨a42, q42, x42, it42⟩ := x_list c39 (show Rep K _ _ ((eL (eP D.int (eT D.int))) st16.1) from r41)
          refine ⟨a42, q42, x42, ?_⟩
          refine s_compM (vs := [8, 4]) (en := (eP D.int (eT D.int))) (ss' := fun z43 => [.val (D.int width), .val ((eL (eT D.int)) rows), .val ((eL (eP D.int (eT D.int))) st16.1), .val ((eL (eT D.int)) st16.2), .val ((eT D.int) z43.2), .val (D.int z16), .val ((eO D.int) y19), .val ((eT D.int) x32), .val (D.int z43.1), .un]) s16 hm33 c39 it42 (.inl (by decide)) (tg_pair (by decide) (by decide)) (fun _ => rfl) sl42 (fun B43 z43 F43 H43 σ43 P43 G43 Sk43 hio43 s43 h43 zm43 e43 c43 kd43 ks43 => ?_) (fun v43 bs43 HH43 hm43 q43 => ?_)
          ·
            replace s43 := s43 10 (fun _ _ _ _ => False) (ecl ad)
            try dsimp only [tAsg, tRet, tRetN, tOp, tUn, tTest, tB, tCons, tNil, tCB, tC, tNext, tCallS, tDrop, tNot, tNotV, tSl, tNoPart, tPart, tBM, tBM0, iList, iTup, iStr, iSrc, iRng1, iRng2, iEnumS, iZipS, tBreak, tCont, gSub, tAug, tMth, tMakeS, tM1, tM0, tFld, cxOf]
            refine w_tup ?_
            try dsimp only [tAsg, tRet, tRetN, tOp, tUn, tTest, tB, tCons, tNil, tCB, tC, tNext, tCallS, tDrop, tNot, tNotV, tSl, tNoPart, tPart, tBM, tBM0, iList, iTup, iStr, iSrc, iRng1, iRng2, iEnumS, iZipS, tBreak, tCont, gSub, tAug, tMth, tMakeS, tM1, tM0, tFld, cxOf]
            refine s_varI c43 (i := 8) rfl ?_
            refine s_var c43 (i := 4) rfl fun v44 r45 => ?_
            refine s_var c43 (i := 7) rfl fun v46 r47 => ?_
            refine s_varI c43 (i := 5) rfl ?_
            refine s_call (ps := (fun x : ((List Int) × (List Int) × Int) => [(eT D.int) x.1, (eT D.int) x.2.1, D.int x.2.2])) (m := (fun x => m_struck x.1 x.2.1 x.2.2)) (x := (z43.2, x32, z16)) s43 h43 c43 rfl (Reps.cons (show Rep K _ _ ((eT D.int) z43.2) from r45) (Reps.cons (show Rep K _ _ ((eT D.int) x32) from r47) (Reps.cons (show Rep K _ _ (D.int z16) from (Rep.int _)) Reps.nil))) fun y48 v48 F48 H48 hm48 e48 c48 r48 => ?_
            refine n_tup c48 (Reps.cons (Rep.int _) (Reps.cons r48 Reps.nil)) (by show (2 : Nat) ≤ sizeLine; decide) fun v49 F49 H49 e49 c49 r49 => ?_
            exact kd43 _ _ _ _ _ _ hm48 c49 (show Rep K _ _ ((eP D.int (eT D.int)) (z43.1, y48)) from r49)
          ·
            obtain ⟨F50, e50, c50, r50⟩ := q43
            refine s_setO (i := 2) (ss' := [.val (D.int width), .val ((eL (eT D.int)) rows), .own (List.map (eP D.int (eT D.int)) bs43), .val ((eL (eT D.int)) st16.2), .un, .val (D.int z16), .val ((eO D.int) y19), .val ((eT D.int) x32), .un, .un]) c50 (.inl (by decide)) r50 rfl fun σ c51 => ?_
            refine w_seq ?_
            try try dsimp only [tAsg, tRet, tRetN, tOp, tUn, tTest, tB, tCons, tNil, tCB, tC, tNext, tCallS, tDrop, tNot, tNotV, tSl, tNoPart, tPart, tBM, tBM0, iList, iTup, iStr, iSrc, iRng1, iRng2, iEnumS, iZipS, tBreak, tCont, gSub, tAug, tMth, tMakeS, tM1, tM0, tFld, cxOf]
            refine s_varO c51 (i := 2) rfl fun a52 xs52 ha52 hx52 l52 t52 => ?_
            refine ⟨s_tyO hx52, ?_⟩
            refine w_tup ?_
            try dsimp only [tAsg, tRet, tRetN, tOp, tUn, tTest, tB, tCons, tNil, tCB, tC, tNext, tCallS, tDrop, tNot, tNotV, tSl, tNoPart, tPart, tBM, tBM0, iList, iTup, iStr, iSrc, iRng1, iRng2, iEnumS, iZipS, tBreak, tCont, gSub, tAug, tMth, tMakeS, tM1, tM0, tFld, cxOf]
            refine s_varI c51 (i := 5) rfl ?_
            refine s_var c51 (i := 7) rfl fun v53 r54 => ?_
            refine n_tup c51 (Reps.cons (Rep.int _) (Reps.cons r54 Reps.nil)) (by show (2 : Nat) ≤ sizeLine; decide) fun v55 F55 H55 e55 c55 r55 => ?_
            refine s_append (i := 2) (en := (eP D.int (eT D.int))) (ss' := fun ys => [.val (D.int width), .val ((eL (eT D.int)) rows), .own (List.map (eP D.int (eT D.int)) ys), .val ((eL (eT D.int)) st16.2), .un, .val (D.int z16), .val ((eO D.int) y19), .val ((eT D.int) x32), .un, .un]) s16 hm43 c55 ha52 rfl (show Rep K _ _ ((eP D.int (eT D.int)) (z16, x32)) from r55) rfl fun x56 H58 hm57 c59 => ?_
            try try dsimp only [tAsg, tRet, tRetN, tOp, tUn, tTest, tB, tCons, tNil, tCB, tC, tNext, tCallS, tDrop, tNot, tNotV, tSl, tNoPart, tPart, tBM, tBM0, iList, iTup, iStr, iSrc, iRng1, iRng2, iEnumS, iZipS, tBreak, tCont, gSub, tAug, tMth, tMakeS, tM1, tM0, tFld, cxOf]
            refine w_lc ?_
            try dsimp only [tAsg, tRet, tRetN, tOp, tUn, tTest, tB, tCons, tNil, tCB, tC, tNext, tCallS, tDrop, tNot, tNotV, tSl, tNoPart, tPart, tBM, tBM0, iList, iTup, iStr, iSrc, iRng1, iRng2, iEnumS, iZipS, tBreak, tCont, gSub, tAug, tMth, tMakeS, tM1, tM0, tFld, cxOf]
            refine s_var c59 (i := 3) rfl fun v60 r61 => ?_
            obtain ⟨S62, so62⟩ := srcL (show Rep K _ _ ((eL (eT D.int)) st16.2) from r61)
            have sl62 := lenL (show Rep K _ _ ((eL (eT D.int)) st16.2) from r61)
            obtain ⟨xs63, q63, a63, it63⟩ := x_enum (en := (eT D.int)) c59 so62
            refine ⟨_, xs63, q63, a63, ?_⟩
            refine s_compF (vs := [9, 4]) (en := (eT D.int)) (ss' := fun z64 => [.val (D.int width), .val ((eL (eT D.int)) rows), .rd (List.map (eP D.int (eT D.int)) x56), .val ((eL (eT D.int)) st16.2), .val ((eT D.int) z64.2), .val (D.int z16), .val ((eO D.int) y19), .val ((eT D.int) x32), .un, .val (D.int z64.1)]) s16 hm57 c59 it63 (.inl (by decide)) (tg_pair (by decide) (by decide)) (fun _ => rfl) (by rw [enum_len]; exact sl62) (fun B64 z64 F64 H64 σ64 P64 G64 Sk64 hio64 s64 h64 zm64 e64 c64 kd64 ks64 => ?_) (fun v64 bs64 HH64 hm64 q64 => ?_)
            ·
              replace s64 := s64 10 (fun _ _ _ _ => False) (ecl ad)
              try dsimp only [tAsg, tRet, tRetN, tOp, tUn, tTest, tB, tCons, tNil, tCB, tC, tNext, tCallS, tDrop, tNot, tNotV, tSl, tNoPart, tPart, tBM, tBM0, iList, iTup, iStr, iSrc, iRng1, iRng2, iEnumS, iZipS, tBreak, tCont, gSub, tAug, tMth, tMakeS, tM1, tM0, tFld, cxOf]
              refine s_varI c64 (i := 9) rfl ?_
              refine s_var c64 (i := 6) rfl fun v65 r66 => ?_
              refine s_neD (en := (eO D.int)) c64 (show Rep K _ _ ((eO D.int) (some z64.1)) from ((Rep.int _).mono (e10.trans (e11.trans (e16.trans (e19.trans (e39.trans (e50.trans (e55.trans e64))))))))) (show Rep K _ _ ((eO D.int) y19) from r66) ?_
              refine s_test' ?_
              refine s_ite h64 (fun _ hm67 => ?_) (fun _ hm68 => ?_)
              ·
                refine s_var c64 (i := 4) rfl fun v69 r70 => ?_
                refine s_var c64 (i := 7) rfl fun v71 r72 => ?_
                refine s_varI c64 (i := 5) rfl ?_
                refine s_call (ps := (fun x : ((List Int) × (List Int) × Int) => [(eT D.int) x.1, (eT D.int) x.2.1, D.int x.2.2])) (m := (fun x => m_struck x.1 x.2.1 x.2.2)) (x := (z64.2, x32, z16)) s64 hm67 c64 rfl (Reps.cons (show Rep K _ _ ((eT D.int) z64.2) from r70) (Reps.cons (show Rep K _ _ ((eT D.int) x32) from r72) (Reps.cons (show Rep K _ _ (D.int z16) from (Rep.int _)) Reps.nil))) fun y73 v73 F73 H73 hm73 e73 c73 r73 => ?_
                exact kd64 _ _ _ _ _ _ hm73 c73 (show Rep K _ _ ((eT D.int) y73) from r73)
              ·
                exact ks64 _ _ _ _ hm68 c64
            ·
              obtain ⟨F74, e74, c74, r74⟩ := q64
              obtain ⟨F75, e75, c75, r75⟩ := Nw.frz c74 r74
              refine s_set (i := 3) (d := (eL (eT D.int)) bs64) (ss' := [.val (D.int width), .val ((eL (eT D.int)) rows), .own (List.map (eP D.int (eT D.int)) x56), .val ((eL (eT D.int)) bs64), .un, .val (D.int z16), .val ((eO D.int) y19), .val ((eT D.int) x32), .un, .un]) c75 (.inl (by decide)) (r75) rfl fun σ c76 => ?_
              exact kn16 (x56, bs64) _ _ _ hm64 (e19.trans (e39.trans (e50.trans (e55.trans (e74.trans e75))))) (((c76.drop 6).drop 7).drop 5)
        ·
          exact kn16 (st16.1, st16.2) _ _ _ hm24 e19 ((c20.drop 6).drop 5)
      ·
        have c77 := c16
        try try dsimp only [tAsg, tRet, tRetN, tOp, tUn, tTest, tB, tCons, tNil, tCB, tC, tNext, tCallS, tDrop, tNot, tNotV, tSl, tNoPart, tPart, tBM, tBM0, iList, iTup, iStr, iSrc, iRng1, iRng2, iEnumS, iZipS, tBreak, tCont, gSub, tAug, tMth, tMakeS, tM1, tM0, tFld, cxOf]
        refine s_varO c77 (i := 2) rfl fun a78 xs78 ha78 hx78 l78 t78 => ?_
        obtain ⟨F79, e79, c79⟩ := c77.frz (i := 2) rfl
        replace c79 : Ctx K _ _ _ _ [.val (D.int width), .val ((eL (eT D.int)) rows), .val ((eL (eP D.int (eT D.int))) st16.1), .val ((eL (eT D.int)) st16.2), .un, .un, .un, .un, .un, .un] := c79
        obtain ⟨v80, hv79, r81⟩ := c79.val (i := 2) rfl
        cases ha78.symm.trans hv79
        exact Fin.ret (d := (eL (eP D.int (eT D.int))) st16.1) hm16 c79 (r81) rfl (.inl rfl)
@[irreducible] def m__law_dot (one : (List (Int × Int))) (other : (List (Int × Int))) : Res (Int × Int) :=
  (rngR 0 (one.length : Int)).bind fun zs7 =>
  (foldR (fun z8 st8 =>
    (ix one z8).bind fun x13 =>
  (ix other z8).bind fun x20 =>
  (m__law_times x13 x20).bind fun y25 =>
  (m__law_plus st8 y25).bind fun y26 =>
  Res.ok y26) zs7 ((0 : Int), (1 : Int))).bind fun st8 =>
  Res.ok st8
abbrev sp__law_dot (K : PySem.W.Frag) (ad : Nat → Addr) : Sp := SpP (π := ((List (Int × Int)) × (List (Int × Int)))) K (ecl ad) (fun x => [(eT (eP D.int D.int)) x.1, (eT (eP D.int D.int)) x.2]) (fun x => m__law_dot x.1 x.2) (fun y => .val ((eP D.int D.int) y))
theorem ok__law_dot (T : Txt K w mg ad fd) : Cm P w K mg base 4 (ad 41) (fd 41) ["one", "other"] (sp__law_dot K ad) := by
  refine ⟨T.f__law_dot.okG sc__law_dot (fun vs H Q E h => ?_) (fun cdv A outer sh H0 vs Q E gd hr h => ?_), T.f__law_dot.binds (ps := ["one", "other"]) fun _ _ _ _ _ _ us hl => match us, hl with | [_, _], _ => rfl⟩
  · obtain ⟨F, x, _, r, _⟩ := h
    exact r.length
  · obtain ⟨F0, ⟨one, other⟩, fh0, r0, hm⟩ := h
    have hu := hr.units
    have r0 : Reps K F0 vs [(eT (eP D.int D.int)) one, (eT (eP D.int D.int)) other] := r0
    have c0 : Ctx K ⟨F0, H0, none⟩ F0 H0 (start ["one", "other", "total", "at"] vs) [.val ((eT (eP D.int D.int)) one), .val ((eT (eP D.int D.int)) other), .un, .un] := ctx_start fh0 r0 rfl (by show (2 : Nat) ≤ 4; decide)
    have s := Fin.sct (K := K) (B := ⟨F0, H0, none⟩) (n := 4) (cl := ecl ad) (rt := fun y => .val ((eP D.int D.int) y)) (out := fun _ : (Int × Int) => []) (Q := Q) (E := E)
    refine ⟨_, (pss_cons (ps_set (i := 2) sc__law_dot.nd rfl (by first | exact Or.inl rfl | exact Or.inr rfl) (pe_tup (pa_cons pe_int (pa_cons pe_int pa_nil))))
    (pss_cons (ps_for (by first | exact PassesOwn.never | exact passes_of rfl) rfl (pi_range1 rfl T.m_range (pa_cons (pe_callB (c_len (K := K)) (by rfl) T.m_len PySem.boot_len (pa_cons (pv 0) pa_nil)) pa_nil)) (pg_name (i := 3) sc__law_dot.nd rfl (by first | exact Or.inl rfl | exact Or.inr rfl))
      (pss_one (ps_set (i := 2) sc__law_dot.nd rfl (by first | exact Or.inl rfl | exact Or.inr rfl) (pe_cm (ok__law_plus T (P := P) (w := w) (base := base)) gd (hr.mono (by decide)) T.g__law_plus T.f__law_plus.kp (L2N.takes_of rfl rfl rfl rfl) (pa_cons (pv 2) (pa_cons (pe_cm (ok__law_times T (P := P) (w := w) (base := base)) gd (hr.mono (by decide)) T.g__law_times T.f__law_times.kp (L2N.takes_of rfl rfl rfl rfl) (pa_cons (pe_ix (ix_tupK (K := K)) (pv 0) (pv 3) (fun _ _ => rfl)) (pa_cons (pe_ix (ix_tupK (K := K)) (pv 1) (pv 3) (fun _ _ => rfl)) pa_nil))) pa_nil))))))
    (pss_one (ps_ret (pv 2))))), ?_⟩
    generalize start _ _ = σ at c0 ⊢
    try dsimp only [tAsg, tRet, tRetN, tOp, tUn, tTest, tB, tCons, tNil, tCB, tC, tNext, tCallS, tDrop, tNot, tNotV, tSl, tNoPart, tPart, tBM, tBM0, iList, iTup, iStr, iSrc, iRng1, iRng2, iEnumS, iZipS, tBreak, tCont, gSub, tAug, tMth, tMakeS, tM1, tM0, tFld, cxOf]
    try dsimp only at hm
    unfold m__law_dot at hm
    refine w_seq ?_
    try try dsimp only [tAsg, tRet, tRetN, tOp, tUn, tTest, tB, tCons, tNil, tCB, tC, tNext, tCallS, tDrop, tNot, tNotV, tSl, tNoPart, tPart, tBM, tBM0, iList, iTup, iStr, iSrc, iRng1, iRng2, iEnumS, iZipS, tBreak, tCont, gSub, tAug, tMth, tMakeS, tM1, tM0, tFld, cxOf]
    refine w_tup ?_
    try dsimp only [tAsg, tRet, tRetN, tOp, tUn, tTest, tB, tCons, tNil, tCB, tC, tNext, tCallS, tDrop, tNot, tNotV, tSl, tNoPart, tPart, tBM, tBM0, iList, iTup, iStr, iSrc, iRng1, iRng2, iEnumS, iZipS, tBreak, tCont, gSub, tAug, tMth, tMakeS, tM1, tM0, tFld, cxOf]
    refine n_tup c0 (Reps.cons (Rep.int _) (Reps.cons (Rep.int _) Reps.nil)) (by show (2 : Nat) ≤ sizeLine; decide) fun v1 F1 H1 e1 c1 r1 => ?_
    refine s_set (i := 2) (d := (eP D.int D.int) ((0 : Int), (1 : Int))) (ss' := [.val ((eT (eP D.int D.int)) one), .val ((eT (eP D.int D.int)) other), .val ((eP D.int D.int) ((0 : Int), (1 : Int))), .un]) c1 (.inl (by decide)) (r1) rfl fun σ c2 => ?_
    refine w_seq ?_
    try try dsimp only [tAsg, tRet, tRetN, tOp, tUn, tTest, tB, tCons, tNil, tCB, tC, tNext, tCallS, tDrop, tNot, tNotV, tSl, tNoPart, tPart, tBM, tBM0, iList, iTup, iStr, iSrc, iRng1, iRng2, iEnumS, iZipS, tBreak, tCont, gSub, tAug, tMth, tMakeS, tM1, tM0, tFld, cxOf]
    refine w_for ?_
    try dsimp only [tAsg, tRet, tRetN, tOp, tUn, tTest, tB, tCons, tNil, tCB, tC, tNext, tCallS, tDrop, tNot, tNotV, tSl, tNoPart, tPart, tBM, tBM0, iList, iTup, iStr, iSrc, iRng1, iRng2, iEnumS, iZipS, tBreak, tCont, gSub, tAug, tMth, tMakeS, tM1, tM0, tFld, cxOf]
    refine s_var c2 (i := 0) rfl fun v3 r4 => ?_
    refine n_lenT c2 (show Rep K _ _ ((eT (eP D.int D.int)) one) from r4) ?_
    obtain ⟨zs7, q5, hm6, b5, it5⟩ := x_rngR (F := F1) s hm
    replace it5 := it_rng1 it5
    refine ⟨_, rfl, b5.2.2.1, b5.2.2.2, ?_⟩
    refine s_forP (vs := [3]) (nx := fun st8 => [.val ((eT (eP D.int D.int)) one), .val ((eT (eP D.int D.int)) other), .val ((eP D.int D.int) st8), .un]) (ss' := fun z8 st8 => [.val ((eT (eP D.int D.int)) one), .val ((eT (eP D.int D.int)) other), .val ((eP D.int D.int) st8), .val (D.int z8)]) (s0 := ((0 : Int), (1 : Int))) s hm6 c2 it5 (.inl (by decide)) (tg_name (by decide)) (fun _ _ => rfl) (fun z8 st8 F8 H8 σ P8 N8 s8 h8 zm8 e8 c8 kn8 => ?_) (fun st8 F8 H8 σ hm8 e8 c8 => ?_)
    ·
      try try dsimp only [tAsg, tRet, tRetN, tOp, tUn, tTest, tB, tCons, tNil, tCB, tC, tNext, tCallS, tDrop, tNot, tNotV, tSl, tNoPart, tPart, tBM, tBM0, iList, iTup, iStr, iSrc, iRng1, iRng2, iEnumS, iZipS, tBreak, tCont, gSub, tAug, tMth, tMakeS, tM1, tM0, tFld, cxOf]
      refine s_var c8 (i := 2) rfl fun v9 r10 => ?_
      refine s_var c8 (i := 0) rfl fun v11 r12 => ?_
      refine s_varI c8 (i := 3) rfl ?_
      refine s_ixTv (en := (eP D.int D.int)) s8 h8 c8 (show Rep K _ _ ((eT (eP D.int D.int)) one) from r12) fun x13 v16 q15 hm14 r17 => ?_
      refine s_var c8 (i := 1) rfl fun v18 r19 => ?_
      refine s_varI c8 (i := 3) rfl ?_
      refine s_ixTv (en := (eP D.int D.int)) s8 hm14 c8 (show Rep K _ _ ((eT (eP D.int D.int)) other) from r19) fun x20 v23 q22 hm21 r24 => ?_
      refine s_call (ps := (fun x : ((Int × Int) × (Int × Int)) => [(eP D.int D.int) x.1, (eP D.int D.int) x.2])) (m := (fun x => m__law_times x.1 x.2)) (x := (x13, x20)) s8 hm21 c8 rfl (Reps.cons (show Rep K _ _ ((eP D.int D.int) x13) from r17) (Reps.cons (show Rep K _ _ ((eP D.int D.int) x20) from r24) Reps.nil)) fun y25 v25 F25 H25 hm25 e25 c25 r25 => ?_
      refine s_call (ps := (fun x : ((Int × Int) × (Int × Int)) => [(eP D.int D.int) x.1, (eP D.int D.int) x.2])) (m := (fun x => m__law_plus x.1 x.2)) (x := (st8, y25)) s8 hm25 c25 rfl (Reps.cons (show Rep K _ _ ((eP D.int D.int) st8) from (r10.mono e25)) (Reps.cons (show Rep K _ _ ((eP D.int D.int) y25) from r25) Reps.nil)) fun y26 v26 F26 H26 hm26 e26 c26 r26 => ?_
      refine s_set (i := 2) (d := (eP D.int D.int) y26) (ss' := [.val ((eT (eP D.int D.int)) one), .val ((eT (eP D.int D.int)) other), .val ((eP D.int D.int) y26), .val (D.int z8)]) c26 (.inl (by decide)) (r26) rfl fun σ c27 => ?_
      exact kn8 y26 _ _ _ hm26 (e25.trans e26) (c27.drop 3)
    ·
      have c28 := c8
      try try dsimp only [tAsg, tRet, tRetN, tOp, tUn, tTest, tB, tCons, tNil, tCB, tC, tNext, tCallS, tDrop, tNot, tNotV, tSl, tNoPart, tPart, tBM, tBM0, iList, iTup, iStr, iSrc, iRng1, iRng2, iEnumS, iZipS, tBreak, tCont, gSub, tAug, tMth, tMakeS, tM1, tM0, tFld, cxOf]
      refine s_var c28 (i := 2) rfl fun v29 r30 => ?_
      exact Fin.ret (d := (eP D.int D.int) st8) hm8 c28 (r30) rfl (.inl rfl)

abbrev sp__law_dot__v2 (K : PySem.W.Frag) (ad : Nat → Addr) : Sp := SpP (π := ((List (Int × Int)) × (List (Int × Int)))) K (ecl ad) (fun x => [(eT (eP D.int D.int)) x.1, (eL (eP D.int D.int)) x.2]) (fun x => m__law_dot x.1 x.2) (fun y => .val ((eP D.int D.int) y))
theorem ok__law_dot__v2 (T : Txt K w mg ad fd) : Cm P w K mg base 4 (ad 41) (fd 41) ["one", "other"] (sp__law_dot__v2 K ad) := by
  refine ⟨T.f__law_dot.okG sc__law_dot (fun vs H Q E h => ?_) (fun cdv A outer sh H0 vs Q E gd hr h => ?_), T.f__law_dot.binds (ps := ["one", "other"]) fun _ _ _ _ _ _ us hl => match us, hl with | [_, _], _ => rfl⟩
  · obtain ⟨F, x, _, r, _⟩ := h
    exact r.length
  · obtain ⟨F0, ⟨one, other⟩, fh0, r0, hm⟩ := h
    have hu := hr.units
    have r0 : Reps K F0 vs [(eT (eP D.int D.int)) one, (eL (eP D.int D.int)) other] := r0
    have c0 : Ctx K ⟨F0, H0, none⟩ F0 H0 (start ["one", "other", "total", "at"] vs) [.val ((eT (eP D.int D.int)) one), .val ((eL (eP D.int D.int)) other), .un, .un] := ctx_start fh0 r0 rfl (by show (2 : Nat) ≤ 4; decide)
    have s := Fin.sct (K := K) (B := ⟨F0, H0, none⟩) (n := 4) (cl := ecl ad) (rt := fun y => .val ((eP D.int D.int) y)) (out := fun _ : (Int × Int) => []) (Q := Q) (E := E)
    refine ⟨_, (pss_cons (ps_set (i := 2) sc__law_dot.nd rfl (by first | exact Or.inl rfl | exact Or.inr rfl) (pe_tup (pa_cons pe_int (pa_cons pe_int pa_nil))))
    (pss_cons (ps_for (by first | exact PassesOwn.never | exact passes_of rfl) rfl (pi_range1 rfl T.m_range (pa_cons (pe_callB (c_len (K := K)) (by rfl) T.m_len PySem.boot_len (pa_cons (pv 0) pa_nil)) pa_nil)) (pg_name (i := 3) sc__law_dot.nd rfl (by first | exact Or.inl rfl | exact Or.inr rfl))
      (pss_one (ps_set (i := 2) sc__law_dot.nd rfl (by first | exact Or.inl rfl | exact Or.inr rfl) (pe_cm (ok__law_plus T (P := P) (w := w) (base := base)) gd (hr.mono (by decide)) T.g__law_plus T.f__law_plus.kp (L2N.takes_of rfl rfl rfl rfl) (pa_cons (pv 2) (pa_cons (pe_cm (ok__law_times T (P := P) (w := w) (base := base)) gd (hr.mono (by decide)) T.g__law_times T.f__law_times.kp (L2N.takes_of rfl rfl rfl rfl) (pa_cons (pe_ix (ix_tupK (K := K)) (pv 0) (pv 3) (fun _ _ => rfl)) (pa_cons (pe_ix (ix_listK (K := K)) (pv 1) (pv 3) (fun _ _ => rfl)) pa_nil))) pa_nil))))))
    (pss_one (ps_ret (pv 2))))), ?_⟩
    generalize start _ _ = σ at c0 ⊢
    try dsimp only [tAsg, tRet, tRetN, tOp, tUn, tTest, tB, tCons, tNil, tCB, tC, tNext, tCallS, tDrop, tNot, tNotV, tSl, tNoPart, tPart, tBM, tBM0, iList, iTup, iStr, iSrc, iRng1, iRng2, iEnumS, iZipS, tBreak, tCont, gSub, tAug, tMth, tMakeS, tM1, tM0, tFld, cxOf]
    try dsimp only at hm
    unfold m__law_dot at hm
    refine w_seq ?_
    try try dsimp only [tAsg, tRet, tRetN, tOp, tUn, tTest, tB, tCons, tNil, tCB, tC, tNext, tCallS, tDrop, tNot, tNotV, tSl, tNoPart, tPart, tBM, tBM0, iList, iTup, iStr, iSrc, iRng1, iRng2, iEnumS, iZipS, tBreak, tCont, gSub, tAug, tMth, tMakeS, tM1, tM0, tFld, cxOf]
    refine w_tup ?_
    try dsimp only [tAsg, tRet, tRetN, tOp, tUn, tTest, tB, tCons, tNil, tCB, tC, tNext, tCallS, tDrop, tNot, tNotV, tSl, tNoPart, tPart, tBM, tBM0, iList, iTup, iStr, iSrc, iRng1, iRng2, iEnumS, iZipS, tBreak, tCont, gSub, tAug, tMth, tMakeS, tM1, tM0, tFld, cxOf]
    refine n_tup c0 (Reps.cons (Rep.int _) (Reps.cons (Rep.int _) Reps.nil)) (by show (2 : Nat) ≤ sizeLine; decide) fun v1 F1 H1 e1 c1 r1 => ?_
    refine s_set (i := 2) (d := (eP D.int D.int) ((0 : Int), (1 : Int))) (ss' := [.val ((eT (eP D.int D.int)) one), .val ((eL (eP D.int D.int)) other), .val ((eP D.int D.int) ((0 : Int), (1 : Int))), .un]) c1 (.inl (by decide)) (r1) rfl fun σ c2 => ?_
    refine w_seq ?_
    try try dsimp only [tAsg, tRet, tRetN, tOp, tUn, tTest, tB, tCons, tNil, tCB, tC, tNext, tCallS, tDrop, tNot, tNotV, tSl, tNoPart, tPart, tBM, tBM0, iList, iTup, iStr, iSrc, iRng1, iRng2, iEnumS, iZipS, tBreak, tCont, gSub, tAug, tMth, tMakeS, tM1, tM0, tFld, cxOf]
    refine w_for ?_
    try dsimp only [tAsg, tRet, tRetN, tOp, tUn, tTest, tB, tCons, tNil, tCB, tC, tNext, tCallS, tDrop, tNot, tNotV, tSl, tNoPart, tPart, tBM, tBM0, iList, iTup, iStr, iSrc, iRng1, iRng2, iEnumS, iZipS, tBreak, tCont, gSub, tAug, tMth, tMakeS, tM1, tM0, tFld, cxOf]
    refine s_var c2 (i := 0) rfl fun v3 r4 => ?_
    refine n_lenT c2 (show Rep K _ _ ((eT (eP D.int D.int)) one) from r4) ?_
    obtain ⟨zs7, q5, hm6, b5, it5⟩ := x_rngR (F := F1) s hm
    replace it5 := it_rng1 it5
    refine ⟨_, rfl, b5.2.2.1, b5.2.2.2, ?_⟩
    refine s_forP (vs := [3]) (nx := fun st8 => [.val ((eT (eP D.int D.int)) one), .val ((eL (eP D.int D.int)) other), .val ((eP D.int D.int) st8), .un]) (ss' := fun z8 st8 => [.val ((eT (eP D.int D.int)) one), .val ((eL (eP D.int D.int)) other), .val ((eP D.int D.int) st8), .val (D.int z8)]) (s0 := ((0 : Int), (1 : Int))) s hm6 c2 it5 (.inl (by decide)) (tg_name (by decide)) (fun _ _ => rfl) (fun z8 st8 F8 H8 σ P8 N8 s8 h8 zm8 e8 c8 kn8 => ?_) (fun st8 F8 H8 σ hm8 e8 c8 => ?_)
    ·
      try try dsimp only [tAsg, tRet, tRetN, tOp, tUn, tTest, tB, tCons, tNil, tCB, tC, tNext, tCallS, tDrop, tNot, tNotV, tSl, tNoPart, tPart, tBM, tBM0, iList, iTup, iStr, iSrc, iRng1, iRng2, iEnumS, iZipS, tBreak, tCont, gSub, tAug, tMth, tMakeS, tM1, tM0, tFld, cxOf]
      refine s_var c8 (i := 2) rfl fun v9 r10 => ?_
      refine s_var c8 (i := 0) rfl fun v11 r12 => ?_
      refine s_varI c8 (i := 3) rfl ?_
      refine s_ixTv (en := (eP D.int D.int)) s8 h8 c8 (show Rep K _ _ ((eT (eP D.int D.int)) one) from r12) fun x13 v16 q15 hm14 r17 => ?_
      refine s_var c8 (i := 1) rfl fun v18 r19 => ?_
      refine s_varI c8 (i := 3) rfl ?_
      refine s_ixLv (en := (eP D.int D.int)) s8 hm14 c8 (show Rep K _ _ ((eL (eP D.int D.int)) other) from r19) fun x20 v23 q22 hm21 r24 => ?_
      refine s_call (ps := (fun x : ((Int × Int) × (Int × Int)) => [(eP D.int D.int) x.1, (eP D.int D.int) x.2])) (m := (fun x => m__law_times x.1 x.2)) (x := (x13, x20)) s8 hm21 c8 rfl (Reps.cons (show Rep K _ _ ((eP D.int D.int) x13) from r17) (Reps.cons (show Rep K _ _ ((eP D.int D.int) x20) from r24) Reps.nil)) fun y25 v25 F25 H25 hm25 e25 c25 r25 => ?_
      refine s_call (ps := (fun x : ((Int × Int) × (Int × Int)) => [(eP D.int D.int) x.1, (eP D.int D.int) x.2])) (m := (fun x => m__law_plus x.1 x.2)) (x := (st8, y25)) s8 hm25 c25 rfl (Reps.cons (show Rep K _ _ ((eP D.int D.int) st8) from (r10.mono e25)) (Reps.cons (show Rep K _ _ ((eP D.int D.int) y25) from r25) Reps.nil)) fun y26 v26 F26 H26 hm26 e26 c26 r26 => ?_
      refine s_set (i := 2) (d := (eP D.int D.int) y26) (ss' := [.val ((eT (eP D.int D.int)) one), .val ((eL (eP D.int D.int)) other), .val ((eP D.int D.int) y26), .val (D.int z8)]) c26 (.inl (by decide)) (r26) rfl fun σ c27 => ?_
      exact kn8 y26 _ _ _ hm26 (e25.trans e26) (c27.drop 3)
    ·
      have c28 := c8
      try try dsimp only [tAsg, tRet, tRetN, tOp, tUn, tTest, tB, tCons, tNil, tCB, tC, tNext, tCallS, tDrop, tNot, tNotV, tSl, tNoPart, tPart, tBM, tBM0, iList, iTup, iStr, iSrc, iRng1, iRng2, iEnumS, iZipS, tBreak, tCont, gSub, tAug, tMth, tMakeS, tM1, tM0, tFld, cxOf]
      refine s_var c28 (i := 2) rfl fun v29 r30 => ?_
      exact Fin.ret (d := (eP D.int D.int) st8) hm8 c28 (r30) rfl (.inl rfl)
@[irreducible] def m__law_matrix (draws : (List Int)) (many : Int) (width : Int) : Res ((List (List (Int × Int))) × List Int) :=
  (rngR 0 many).bind fun zs5 =>
  (foldR (fun z6 st6 =>
    (m__law_next st6.1).bind fun y8 =>
  if ((decide ((y8.1 % (4 : Int)) = (0 : Int))) && (!List.isEmpty st6.2)) = true then
    (m__law_next y8.2).bind fun y15 =>
  (modR y15.1 (st6.2.length : Int)).bind fun x17 =>
  (ix st6.2 x17).bind fun x20 =>
  (m__law_next y15.2).bind fun y29 =>
  (modR y29.1 (st6.2.length : Int)).bind fun x31 =>
  (ix st6.2 x31).bind fun x34 =>
  (m__law_fraction y29.2).bind fun y42 =>
  (rngL 0 width).bind fun zs47 =>
  (mapR (fun z48 =>
    (ix x20 z48).bind fun x51 =>
  (ix x34 z48).bind fun x60 =>
  (m__law_times y42.1 x60).bind fun y65 =>
  (m__law_plus x51 y65).bind fun y66 =>
  Res.ok y66) zs47).bind fun bs48 =>
  (chkLen (st6.2 ++ [bs48])).bind fun x70 =>
  Res.ok (y42.2, x70)
  else
    if (decide ((y8.1 % (4 : Int)) = (1 : Int))) = true then
    (rngL 0 width).bind fun zs79 =>
  (mapS (fun z80 gs80 =>
    (m__law_next gs80).bind fun y82 =>
  Res.ok ((((y82.1 % (3 : Int)) - (1 : Int)), (1 : Int)), y82.2)) zs79 y8.2).bind2 fun bs80 gq80 =>
  (chkLen (st6.2 ++ [bs80])).bind fun x87 =>
  Res.ok (gq80, x87)
  else
    (rngL 0 width).bind fun zs94 =>
  (mapS (fun z95 gs95 =>
    (m__law_fraction gs95).bind fun y97 =>
  Res.ok (y97.1, y97.2)) zs94 y8.2).bind2 fun bs95 gq95 =>
  (chkLen (st6.2 ++ [bs95])).bind fun x101 =>
  Res.ok (gq95, x101)) zs5 (draws, ([] : List (List (Int × Int))))).bind fun st6 =>
  Res.ok (st6.2, st6.1)
abbrev sp__law_matrix (K : PySem.W.Frag) (ad : Nat → Addr) : Sp := SpI (π := ((List Int) × Int × Int)) K (ecl ad) (fun x => List.map D.int x.1) (fun x => [D.int x.2.1, D.int x.2.2]) (fun x => m__law_matrix x.1 x.2.1 x.2.2) (fun y => .own (List.map (eT (eP D.int D.int)) y.1)) (fun y => List.map D.int y.2)
theorem ok__law_matrix (T : Txt K w mg ad fd) : Cm P w K mg base 4 (ad 43) (fd 43) ["draws", "many", "width"] (sp__law_matrix K ad) := by
  refine ⟨T.f__law_matrix.okG sc__law_matrix (fun vs H Q E h => ?_) (fun cdv A outer sh H0 vs Q E gd hr h => ?_), T.f__law_matrix.binds (ps := ["draws", "many", "width"]) fun _ _ _ _ _ _ us hl => match us, hl with | [_, _, _], _ => rfl⟩
  · obtain ⟨F, x, l, us, rfl, _, _, r, _⟩ := h
    exact congrArg (· + 1) r.length
  · obtain ⟨F0, ⟨draws, many, width⟩, l0, us, rfl, fh0, o0, r0, hm⟩ := h
    have hu := hr.units
    have r0 : Reps K F0 us [D.int many, D.int width] := r0
    have o0 : Own K F0 H0 l0 (List.map D.int draws) := o0
    have c0 : Ctx K ⟨F0, H0, some l0⟩ F0 H0 (start ["draws", "many", "width", "rows", "at", "kind", "one", "other", "x", "j"] (.ref l0 :: us)) [.io (List.map D.int draws), .val (D.int many), .val (D.int width), .un, .un, .un, .un, .un, .un, .un] := ctx_startIO fh0 o0 r0 rfl (by show (3 : Nat) ≤ 10; decide)
    have s := Fin.sct (K := K) (B := ⟨F0, H0, some l0⟩) (n := 10) (cl := ecl ad) (rt := fun y => .own (List.map (eT (eP D.int D.int)) y.1)) (out := fun y : ((List (List (Int × Int))) × List Int) => List.map D.int y.2) (Q := Q) (E := E)
    refine ⟨_, (pss_cons (ps_set (i := 3) sc__law_matrix.nd rfl (by first | exact Or.inl rfl | exact Or.inr rfl) (pe_lst pa_nil))
    (pss_cons (ps_for (by first | exact PassesOwn.never | exact passes_of rfl) rfl (pi_range1 rfl T.m_range (pa_cons (pv 1) pa_nil)) (pg_name (i := 4) sc__law_matrix.nd rfl (by first | exact Or.inl rfl | exact Or.inr rfl))
      (pss_cons (ps_set (i := 5) sc__law_matrix.nd rfl (by first | exact Or.inl rfl | exact Or.inr rfl) (pe_op op_mod (pe_callTy (T := "int") c_int (by rfl) T.m_int (by decide +kernel) (pa_cons (pe_cm (ok__law_next T (P := P) (w := w) (base := base)) gd (hr.mono (by decide)) T.g__law_next T.f__law_next.kp (L2N.takes_of rfl rfl rfl rfl) (pa_cons (pv 0) pa_nil)) pa_nil)) pe_int))
    (pss_one (ps_if (L2.PW.pt (pw_and (pt_cmpR op_eq (pv 5) pe_int (nomark _)) (pw_and1 (pt_truth (pv 3) (fun _ => rfl))))) (pss_cons (ps_set (i := 6) sc__law_matrix.nd rfl (by first | exact Or.inl rfl | exact Or.inr rfl) (pe_ix (ix_listK (K := K)) (pv 3) (pe_op op_mod (pe_callTy (T := "int") c_int (by rfl) T.m_int (by decide +kernel) (pa_cons (pe_cm (ok__law_next T (P := P) (w := w) (base := base)) gd (hr.mono (by decide)) T.g__law_next T.f__law_next.kp (L2N.takes_of rfl rfl rfl rfl) (pa_cons (pv 0) pa_nil)) pa_nil)) (pe_callB (c_len (K := K)) (by rfl) T.m_len PySem.boot_len (pa_cons (pv 3) pa_nil))) (fun _ _ => rfl)))
    (pss_cons (ps_set (i := 7) sc__law_matrix.nd rfl (by first | exact Or.inl rfl | exact Or.inr rfl) (pe_ix (ix_listK (K := K)) (pv 3) (pe_op op_mod (pe_callTy (T := "int") c_int (by rfl) T.m_int (by decide +kernel) (pa_cons (pe_cm (ok__law_next T (P := P) (w := w) (base := base)) gd (hr.mono (by decide)) T.g__law_next T.f__law_next.kp (L2N.takes_of rfl rfl rfl rfl) (pa_cons (pv 0) pa_nil)) pa_nil)) (pe_callB (c_len (K := K)) (by rfl) T.m_len PySem.boot_len (pa_cons (pv 3) pa_nil))) (fun _ _ => rfl)))
    (pss_cons (ps_set (i := 8) sc__law_matrix.nd rfl (by first | exact Or.inl rfl | exact Or.inr rfl) (pe_cm (ok__law_fraction T (P := P) (w := w) (base := base)) gd (hr.mono (by decide)) T.g__law_fraction T.f__law_fraction.kp (L2N.takes_of rfl rfl rfl rfl) (pa_cons (pv 0) pa_nil)))
    (pss_one (ps_expr (pe_bm PySem.F.plainAttrs_list PySem.F.slot_list_append PySem.F.type_list_append mt_append (pv 3) (pa_cons (pe_callTy (T := "tuple") (c_tuple (K := K)) (by rfl) T.m_tuple (by decide +kernel) (pa_cons (pe_lc (own := [("j", 9)]) rfl sc__law_matrix.nd (pi_range1 rfl T.m_range (pa_cons (pv 2) pa_nil)) (blkOk_by (N := ["draws", "many", "width", "rows", "at", "kind", "one", "other", "x", "j"]) (sc := defScope s__law_matrix) (by decide +kernel)) (fun _ _ _ _ _ => (pg_name (i := 9) sc__law_matrix.nd rfl (by first | exact Or.inl rfl | exact Or.inr rfl))) (fun _ _ _ _ _ => pts_nil) (fun _ _ _ _ _ => (pe_cm (ok__law_plus T (P := P) (w := w) (base := base)) gd (hr.mono (by decide)) T.g__law_plus T.f__law_plus.kp takes0N (pa_cons (pe_ix (ix_tupK (K := K)) (pv 6) (pv 9) (fun _ _ => rfl)) (pa_cons (pe_cm (ok__law_times T (P := P) (w := w) (base := base)) gd (hr.mono (by decide)) T.g__law_times T.f__law_times.kp takes0N (pa_cons (pv 8) (pa_cons (pe_ix (ix_tupK (K := K)) (pv 7) (pv 9) (fun _ _ => rfl)) pa_nil))) pa_nil))))) pa_nil)) pa_nil))))))) (pss_one (ps_if (pt_cmpR op_eq (pv 5) pe_int (nomark _)) (pss_one (ps_expr (pe_bm PySem.F.plainAttrs_list PySem.F.slot_list_append PySem.F.type_list_append mt_append (pv 3) (pa_cons (pe_callTy (T := "tuple") (c_tuple (K := K)) (by rfl) T.m_tuple (by decide +kernel) (pa_cons (pe_lc (own := [("j", 9)]) rfl sc__law_matrix.nd (pi_range1 rfl T.m_range (pa_cons (pv 2) pa_nil)) (blkOk_by (N := ["draws", "many", "width", "rows", "at", "kind", "one", "other", "x", "j"]) (sc := defScope s__law_matrix) (by decide +kernel)) (fun _ _ _ _ _ => (pg_name (i := 9) sc__law_matrix.nd rfl (by first | exact Or.inl rfl | exact Or.inr rfl))) (fun _ _ _ _ _ => pts_nil) (fun _ _ _ _ _ => (pe_tup (pa_cons (pe_op op_sub (pe_op op_mod (pe_callTy (T := "int") c_int (by rfl) T.m_int (by decide +kernel) (pa_cons (pe_cm (ok__law_next T (P := P) (w := w) (base := base)) gd (hr.mono (by decide)) T.g__law_next T.f__law_next.kp takes0N (pa_cons (pv 0) pa_nil)) pa_nil)) pe_int) pe_int) (pa_cons pe_int pa_nil))))) pa_nil)) pa_nil)))) (pss_one (ps_expr (pe_bm PySem.F.plainAttrs_list PySem.F.slot_list_append PySem.F.type_list_append mt_append (pv 3) (pa_cons (pe_callTy (T := "tuple") (c_tuple (K := K)) (by rfl) T.m_tuple (by decide +kernel) (pa_cons (pe_lc (own := [("j", 9)]) rfl sc__law_matrix.nd (pi_range1 rfl T.m_range (pa_cons (pv 2) pa_nil)) (blkOk_by (N := ["draws", "many", "width", "rows", "at", "kind", "one", "other", "x", "j"]) (sc := defScope s__law_matrix) (by decide +kernel)) (fun _ _ _ _ _ => (pg_name (i := 9) sc__law_matrix.nd rfl (by first | exact Or.inl rfl | exact Or.inr rfl))) (fun _ _ _ _ _ => pts_nil) (fun _ _ _ _ _ => (pe_cm (ok__law_fraction T (P := P) (w := w) (base := base)) gd (hr.mono (by decide)) T.g__law_fraction T.f__law_fraction.kp takes0N (pa_cons (pv 0) pa_nil)))) pa_nil)) pa_nil))))))))))
    (pss_one (ps_ret (pv 3))))), ?_⟩
    generalize start _ _ = σ at c0 ⊢
    try dsimp only [tAsg, tRet, tRetN, tOp, tUn, tTest, tB, tCons, tNil, tCB, tC, tNext, tCallS, tDrop, tNot, tNotV, tSl, tNoPart, tPart, tBM, tBM0, iList, iTup, iStr, iSrc, iRng1, iRng2, iEnumS, iZipS, tBreak, tCont, gSub, tAug, tMth, tMakeS, tM1, tM0, tFld, cxOf]
    try dsimp only at hm
    unfold m__law_matrix at hm
    refine w_seq ?_
    try try dsimp only [tAsg, tRet, tRetN, tOp, tUn, tTest, tB, tCons, tNil, tCB, tC, tNext, tCallS, tDrop, tNot, tNotV, tSl, tNoPart, tPart, tBM, tBM0, iList, iTup, iStr, iSrc, iRng1, iRng2, iEnumS, iZipS, tBreak, tCont, gSub, tAug, tMth, tMakeS, tM1, tM0, tFld, cxOf]
    refine w_lst ?_
    try dsimp only [tAsg, tRet, tRetN, tOp, tUn, tTest, tB, tCons, tNil, tCB, tC, tNext, tCallS, tDrop, tNot, tNotV, tSl, tNoPart, tPart, tBM, tBM0, iList, iTup, iStr, iSrc, iRng1, iRng2, iEnumS, iZipS, tBreak, tCont, gSub, tAug, tMth, tMakeS, tM1, tM0, tFld, cxOf]
    refine n_lstO c0 Reps.nil (by show (0 : Nat) ≤ sizeLine; decide) fun v1 H1 c1 r1 => ?_
    refine s_setO (i := 3) (ss' := [.io (List.map D.int draws), .val (D.int many), .val (D.int width), .own (List.map (eT (eP D.int D.int)) ([] : List (List (Int × Int)))), .un, .un, .un, .un, .un, .un]) c1 (.inl (by decide)) r1 rfl fun σ c2 => ?_
    refine w_seq ?_
    try try dsimp only [tAsg, tRet, tRetN, tOp, tUn, tTest, tB, tCons, tNil, tCB, tC, tNext, tCallS, tDrop, tNot, tNotV, tSl, tNoPart, tPart, tBM, tBM0, iList, iTup, iStr, iSrc, iRng1, iRng2, iEnumS, iZipS, tBreak, tCont, gSub, tAug, tMth, tMakeS, tM1, tM0, tFld, cxOf]
    refine w_for ?_
    try dsimp only [tAsg, tRet, tRetN, tOp, tUn, tTest, tB, tCons, tNil, tCB, tC, tNext, tCallS, tDrop, tNot, tNotV, tSl, tNoPart, tPart, tBM, tBM0, iList, iTup, iStr, iSrc, iRng1, iRng2, iEnumS, iZipS, tBreak, tCont, gSub, tAug, tMth, tMakeS, tM1, tM0, tFld, cxOf]
    refine s_varI c2 (i := 1) rfl ?_
    obtain ⟨zs5, q3, hm4, b3, it3⟩ := x_rngR (F := F0) s hm
    replace it3 := it_rng1 it3
    refine ⟨_, rfl, b3.2.2.1, b3.2.2.2, ?_⟩
    refine s_forP (vs := [4]) (nx := fun st6 => [.io (List.map D.int st6.1), .val (D.int many), .val (D.int width), .own (List.map (eT (eP D.int D.int)) st6.2), .un, .un, .un, .un, .un, .un]) (ss' := fun z6 st6 => [.io (List.map D.int st6.1), .val (D.int many), .val (D.int width), .own (List.map (eT (eP D.int D.int)) st6.2), .val (D.int z6), .un, .un, .un, .un, .un]) (s0 := (draws, ([] : List (List (Int × Int))))) s hm4 c2 it3 (.inl (by decide)) (tg_name (by decide)) (fun _ _ => rfl) (fun z6 st6 F6 H6 σ P6 N6 s6 h6 zm6 e6 c6 kn6 => ?_) (fun st6 F6 H6 σ hm6 e6 c6 => ?_)
    ·
      refine w_seq ?_
      try try dsimp only [tAsg, tRet, tRetN, tOp, tUn, tTest, tB, tCons, tNil, tCB, tC, tNext, tCallS, tDrop, tNot, tNotV, tSl, tNoPart, tPart, tBM, tBM0, iList, iTup, iStr, iSrc, iRng1, iRng2, iEnumS, iZipS, tBreak, tCont, gSub, tAug, tMth, tMakeS, tM1, tM0, tFld, cxOf]
      refine s_varIO c6 (i := 0) rfl fun a7 xs7 ha7 hx7 l7 t7 => ?_
      refine s_callI (ps := (fun x : (List Int) => [])) (m := (fun x => m__law_next x)) (x := (st6.1)) (i := 0) s6 h6 c6 rfl ha7 rfl Reps.nil fun y8 v8 F8 H8 hm8 e8 c8 r8 => ?_
      replace c8 : Ctx K _ _ _ _ [.io (List.map D.int y8.2), .val (D.int many), .val (D.int width), .own (List.map (eT (eP D.int D.int)) st6.2), .val (D.int z6), .un, .un, .un, .un, .un] := c8
      cases (show Rep K _ _ (D.int y8.1) from r8)
      refine n_intI ?_
      refine s_iC (by decide) ?_
      refine s_set (i := 5) (d := D.int (y8.1 % (4 : Int))) (ss' := [.io (List.map D.int y8.2), .val (D.int many), .val (D.int width), .own (List.map (eT (eP D.int D.int)) st6.2), .val (D.int z6), .val (D.int (y8.1 % (4 : Int))), .un, .un, .un, .un]) c8 (.inl (by decide)) ((Rep.int _)) rfl fun σ c9 => ?_
      refine w_ifS ?_
      try dsimp only [tAsg, tRet, tRetN, tOp, tUn, tTest, tB, tCons, tNil, tCB, tC, tNext, tCallS, tDrop, tNot, tNotV, tSl, tNoPart, tPart, tBM, tBM0, iList, iTup, iStr, iSrc, iRng1, iRng2, iEnumS, iZipS, tBreak, tCont, gSub, tAug, tMth, tMakeS, tM1, tM0, tFld, cxOf]
      refine s_andP (x := (decide ((y8.1 % (4 : Int)) = (0 : Int)))) (y := (!List.isEmpty st6.2)) (fun R' hR => ?_) (fun R' hR => ?_) ?_
      ·
        try dsimp only [tAsg, tRet, tRetN, tOp, tUn, tTest, tB, tCons, tNil, tCB, tC, tNext, tCallS, tDrop, tNot, tNotV, tSl, tNoPart, tPart, tBM, tBM0, iList, iTup, iStr, iSrc, iRng1, iRng2, iEnumS, iZipS, tBreak, tCont, gSub, tAug, tMth, tMakeS, tM1, tM0, tFld, cxOf]
        refine s_varI c9 (i := 5) rfl ?_
        refine s_eqI ?_
        refine s_test' ?_
        exact hR
      ·
        try dsimp only [tAsg, tRet, tRetN, tOp, tUn, tTest, tB, tCons, tNil, tCB, tC, tNext, tCallS, tDrop, tNot, tNotV, tSl, tNoPart, tPart, tBM, tBM0, iList, iTup, iStr, iSrc, iRng1, iRng2, iEnumS, iZipS, tBreak, tCont, gSub, tAug, tMth, tMakeS, tM1, tM0, tFld, cxOf]
        refine s_varO c9 (i := 3) rfl fun a10 xs10 ha10 hx10 l10 t10 => ?_
        refine s_truO hx10 t10 ?_
        exact hR
      refine s_ite hm8 (fun _ hm11 => ?_) (fun _ hm12 => ?_)
      ·
        refine w_seq ?_
        try try dsimp only [tAsg, tRet, tRetN, tOp, tUn, tTest, tB, tCons, tNil, tCB, tC, tNext, tCallS, tDrop, tNot, tNotV, tSl, tNoPart, tPart, tBM, tBM0, iList, iTup, iStr, iSrc, iRng1, iRng2, iEnumS, iZipS, tBreak, tCont, gSub, tAug, tMth, tMakeS, tM1, tM0, tFld, cxOf]
        refine s_varO c9 (i := 3) rfl fun a13 xs13 ha13 hx13 l13 t13 => ?_
        refine s_varIO c9 (i := 0) rfl fun a14 xs14 ha14 hx14 l14 t14 => ?_
        refine s_callI (ps := (fun x : (List Int) => [])) (m := (fun x => m__law_next x)) (x := (y8.2)) (i := 0) s6 hm11 c9 rfl ha14 rfl Reps.nil fun y15 v15 F15 H15 hm15 e15 c15 r15 => ?_
        replace c15 : Ctx K _ _ _ _ [.io (List.map D.int y15.2), .val (D.int many), .val (D.int width), .own (List.map (eT (eP D.int D.int)) st6.2), .val (D.int z6), .val (D.int (y8.1 % (4 : Int))), .un, .un, .un, .un] := c15
        cases (show Rep K _ _ (D.int y15.1) from r15)
        refine n_intI ?_
        refine s_varO c15 (i := 3) rfl fun a16 xs16 ha16 hx16 l16 t16 => ?_
        refine n_lenO hx16 t16 ?_
        refine s_mod' s6 hm15 fun x17 q19 hm18 => ?_
        obtain ⟨xs25, hx25, l25, t25⟩ := c15.ownAt (i := 3) rfl ha13
        refine s_ixOv (en := (eT (eP D.int D.int))) s6 hm18 hx25 t25 fun x20 v23 q22 hm21 r24 => ?_
        refine s_set (i := 6) (d := (eT (eP D.int D.int)) x20) (ss' := [.io (List.map D.int y15.2), .val (D.int many), .val (D.int width), .own (List.map (eT (eP D.int D.int)) st6.2), .val (D.int z6), .val (D.int (y8.1 % (4 : Int))), .val ((eT (eP D.int D.int)) x20), .un, .un, .un]) c15 (.inl (by decide)) (r24) rfl fun σ c26 => ?_
        refine w_seq ?_
        try try dsimp only [tAsg, tRet, tRetN, tOp, tUn, tTest, tB, tCons, tNil, tCB, tC, tNext, tCallS, tDrop, tNot, tNotV, tSl, tNoPart, tPart, tBM, tBM0, iList, iTup, iStr, iSrc, iRng1, iRng2, iEnumS, iZipS, tBreak, tCont, gSub, tAug, tMth, tMakeS, tM1, tM0, tFld, cxOf]
        refine s_varO c26 (i := 3) rfl fun a27 xs27 ha27 hx27 l27 t27 => ?_
        refine s_varIO c26 (i := 0) rfl fun a28 xs28 ha28 hx28 l28 t28 => ?_
        refine s_callI (ps := (fun x : (List Int) => [])) (m := (fun x => m__law_next x)) (x := (y15.2)) (i := 0) s6 hm21 c26 rfl ha28 rfl Reps.nil fun y29 v29 F29 H29 hm29 e29 c29 r29 => ?_
        replace c29 : Ctx K _ _ _ _ [.io (List.map D.int y29.2), .val (D.int many), .val (D.int width), .own (List.map (eT (eP D.int D.int)) st6.2), .val (D.int z6), .val (D.int (y8.1 % (4 : Int))), .val ((eT (eP D.int D.int)) x20), .un, .un, .un] := c29
        cases (show Rep K _ _ (D.int y29.1) from r29)
        refine n_intI ?_
        refine s_varO c29 (i := 3) rfl fun a30 xs30 ha30 hx30 l30 t30 => ?_
        refine n_lenO hx30 t30 ?_
        refine s_mod' s6 hm29 fun x31 q33 hm32 => ?_
        obtain ⟨xs39, hx39, l39, t39⟩ := c29.ownAt (i := 3) rfl ha27
        refine s_ixOv (en := (eT (eP D.int D.int))) s6 hm32 hx39 t39 fun x34 v37 q36 hm35 r38 => ?_
        refine s_set (i := 7) (d := (eT (eP D.int D.int)) x34) (ss' := [.io (List.map D.int y29.2), .val (D.int many), .val (D.int width), .own (List.map (eT (eP D.int D.int)) st6.2), .val (D.int z6), .val (D.int (y8.1 % (4 : Int))), .val ((eT (eP D.int D.int)) x20), .val ((eT (eP D.int D.int)) x34), .un, .un]) c29 (.inl (by decide)) (r38) rfl fun σ c40 => ?_
        refine w_seq ?_
        try try dsimp only [tAsg, tRet, tRetN, tOp, tUn, tTest, tB, tCons, tNil, tCB, tC, tNext, tCallS, tDrop, tNot, tNotV, tSl, tNoPart, tPart, tBM, tBM0, iList, iTup, iStr, iSrc, iRng1, iRng2, iEnumS, iZipS, tBreak, tCont, gSub, tAug, tMth, tMakeS, tM1, tM0, tFld, cxOf]
        refine s_varIO c40 (i := 0) rfl fun a41 xs41 ha41 hx41 l41 t41 => ?_
        refine s_callI (ps := (fun x : (List Int) => [])) (m := (fun x => m__law_fraction x)) (x := (y29.2)) (i := 0) s6 hm35 c40 rfl ha41 rfl Reps.nil fun y42 v42 F42 H42 hm42 e42 c42 r42 => ?_
        replace c42 : Ctx K _ _ _ _ [.io (List.map D.int y42.2), .val (D.int many), .val (D.int width), .own (List.map (eT (eP D.int D.int)) st6.2), .val (D.int z6), .val (D.int (y8.1 % (4 : Int))), .val ((eT (eP D.int D.int)) x20), .val ((eT (eP D.int D.int)) x34), .un, .un] := c42
        refine s_set (i := 8) (d := (eP D.int D.int) y42.1) (ss' := [.io (List.map D.int y42.2), .val (D.int many), .val (D.int width), .own (List.map (eT (eP D.int D.int)) st6.2), .val (D.int z6), .val (D.int (y8.1 % (4 : Int))), .val ((eT (eP D.int D.int)) x20), .val ((eT (eP D.int D.int)) x34), .val ((eP D.int D.int) y42.1), .un]) c42 (.inl (by decide)) (r42) rfl fun σ c43 => ?_
        try try dsimp only [tAsg, tRet, tRetN, tOp, tUn, tTest, tB, tCons, tNil, tCB, tC, tNext, tCallS, tDrop, tNot, tNotV, tSl, tNoPart, tPart, tBM, tBM0, iList, iTup, iStr, iSrc, iRng1, iRng2, iEnumS, iZipS, tBreak, tCont, gSub, tAug, tMth, tMakeS, tM1, tM0, tFld, cxOf]
        refine s_varO c43 (i := 3) rfl fun a44 xs44 ha44 hx44 l44 t44 => ?_
        refine ⟨s_tyO hx44, ?_⟩
        refine w_lc ?_
        try dsimp only [tAsg, tRet, tRetN, tOp, tUn, tTest, tB, tCons, tNil, tCB, tC, tNext, tCallS, tDrop, tNot, tNotV, tSl, tNoPart, tPart, tBM, tBM0, iList, iTup, iStr, iSrc, iRng1, iRng2, iEnumS, iZipS, tBreak, tCont, gSub, tAug, tMth, tMakeS, tM1, tM0, tFld, cxOf]
        refine s_varI c43 (i := 2) rfl ?_
        obtain ⟨zs47, q45, hm46, b45, hl45, it45⟩ := x_rngL (F := F42) s6 hm42
        replace it45 := it_rng1 it45
        refine ⟨_, rfl, b45.2.2.1, b45.2.2.2, ?_⟩
        refine s_compM (vs := [9]) (en := (eP D.int D.int)) (ss' := fun z48 => [.rd (List.map D.int y42.2), .val (D.int many), .val (D.int width), .rd (List.map (eT (eP D.int D.int)) st6.2), .val (D.int z6), .val (D.int (y8.1 % (4 : Int))), .val ((eT (eP D.int D.int)) x20), .val ((eT (eP D.int D.int)) x34), .val ((eP D.int D.int) y42.1), .val (D.int z48)]) s6 hm46 c43 it45 (.inl (by decide)) (tg_name (by decide)) (fun _ => rfl) hl45 (fun B48 z48 F48 H48 σ48 P48 G48 Sk48 hio48 s48 h48 zm48 e48 c48 kd48 ks48 => ?_) (fun v48 bs48 HH48 hm48 q48 => ?_)
        ·
          replace s48 := s48 10 (fun _ _ _ _ => False) (ecl ad)
          try dsimp only [tAsg, tRet, tRetN, tOp, tUn, tTest, tB, tCons, tNil, tCB, tC, tNext, tCallS, tDrop, tNot, tNotV, tSl, tNoPart, tPart, tBM, tBM0, iList, iTup, iStr, iSrc, iRng1, iRng2, iEnumS, iZipS, tBreak, tCont, gSub, tAug, tMth, tMakeS, tM1, tM0, tFld, cxOf]
          refine s_var c48 (i := 6) rfl fun v49 r50 => ?_
          refine s_varI c48 (i := 9) rfl ?_
          refine s_ixTv (en := (eP D.int D.int)) s48 h48 c48 (show Rep K _ _ ((eT (eP D.int D.int)) x20) from r50) fun x51 v54 q53 hm52 r55 => ?_
          refine s_var c48 (i := 8) rfl fun v56 r57 => ?_
          refine s_var c48 (i := 7) rfl fun v58 r59 => ?_
          refine s_varI c48 (i := 9) rfl ?_
          refine s_ixTv (en := (eP D.int D.int)) s48 hm52 c48 (show Rep K _ _ ((eT (eP D.int D.int)) x34) from r59) fun x60 v63 q62 hm61 r64 => ?_
          refine s_call (ps := (fun x : ((Int × Int) × (Int × Int)) => [(eP D.int D.int) x.1, (eP D.int D.int) x.2])) (m := (fun x => m__law_times x.1 x.2)) (x := (y42.1, x60)) s48 hm61 c48 rfl (Reps.cons (show Rep K _ _ ((eP D.int D.int) y42.1) from r57) (Reps.cons (show Rep K _ _ ((eP D.int D.int) x60) from r64) Reps.nil)) fun y65 v65 F65 H65 hm65 e65 c65 r65 => ?_
          refine s_call (ps := (fun x : ((Int × Int) × (Int × Int)) => [(eP D.int D.int) x.1, (eP D.int D.int) x.2])) (m := (fun x => m__law_plus x.1 x.2)) (x := (x51, y65)) s48 hm65 c65 rfl (Reps.cons (show Rep K _ _ ((eP D.int D.int) x51) from (r55.mono e65)) (Reps.cons (show Rep K _ _ ((eP D.int D.int) y65) from r65) Reps.nil)) fun y66 v66 F66 H66 hm66 e66 c66 r66 => ?_
          exact kd48 _ _ _ _ _ _ hm66 c66 (show Rep K _ _ ((eP D.int D.int) y66) from r66)
        ·
          obtain ⟨F67, e67, c67, r67⟩ := q48
          obtain ⟨F68, e68, c68, r68⟩ := Nw.frz c67 r67
          refine n_tupL c68 (show Rep K _ _ ((eL (eP D.int D.int)) bs48) from r68) fun v69 F69 H69 e69 c69 r69 => ?_
          refine s_append (i := 3) (en := (eT (eP D.int D.int))) (ss' := fun ys => [.io (List.map D.int y42.2), .val (D.int many), .val (D.int width), .own (List.map (eT (eP D.int D.int)) ys), .val (D.int z6), .val (D.int (y8.1 % (4 : Int))), .val ((eT (eP D.int D.int)) x20), .val ((eT (eP D.int D.int)) x34), .val ((eP D.int D.int) y42.1), .un]) s6 hm48 c69 ha44 rfl (show Rep K _ _ ((eT (eP D.int D.int)) bs48) from r69) rfl fun x70 H72 hm71 c73 => ?_
          exact kn6 (y42.2, x70) _ _ _ hm71 (e8.trans (e15.trans (e29.trans (e42.trans (e67.trans (e68.trans e69)))))) (((((c73.drop 5).drop 6).drop 7).drop 8).drop 4)
      ·
        refine w_ifS ?_
        try dsimp only [tAsg, tRet, tRetN, tOp, tUn, tTest, tB, tCons, tNil, tCB, tC, tNext, tCallS, tDrop, tNot, tNotV, tSl, tNoPart, tPart, tBM, tBM0, iList, iTup, iStr, iSrc, iRng1, iRng2, iEnumS, iZipS, tBreak, tCont, gSub, tAug, tMth, tMakeS, tM1, tM0, tFld, cxOf]
        refine s_varI c9 (i := 5) rfl ?_
        refine s_eqI ?_
        refine s_test' ?_
        refine s_ite hm12 (fun _ hm74 => ?_) (fun _ hm75 => ?_)
        ·
          try try dsimp only [tAsg, tRet, tRetN, tOp, tUn, tTest, tB, tCons, tNil, tCB, tC, tNext, tCallS, tDrop, tNot, tNotV, tSl, tNoPart, tPart, tBM, tBM0, iList, iTup, iStr, iSrc, iRng1, iRng2, iEnumS, iZipS, tBreak, tCont, gSub, tAug, tMth, tMakeS, tM1, tM0, tFld, cxOf]
          refine s_varO c9 (i := 3) rfl fun a76 xs76 ha76 hx76 l76 t76 => ?_
          refine ⟨s_tyO hx76, ?_⟩
          refine w_lc ?_
          try dsimp only [tAsg, tRet, tRetN, tOp, tUn, tTest, tB, tCons, tNil, tCB, tC, tNext, tCallS, tDrop, tNot, tNotV, tSl, tNoPart, tPart, tBM, tBM0, iList, iTup, iStr, iSrc, iRng1, iRng2, iEnumS, iZipS, tBreak, tCont, gSub, tAug, tMth, tMakeS, tM1, tM0, tFld, cxOf]
          refine s_varI c9 (i := 2) rfl ?_
          obtain ⟨zs79, q77, hm78, b77, hl77, it77⟩ := x_rngL (F := F8) s6 hm74
          replace it77 := it_rng1 it77
          refine ⟨_, rfl, b77.2.2.1, b77.2.2.2, ?_⟩
          refine s_compS2 (l := l0) (vs := [9]) (en := (eP D.int D.int)) (eg := D.int) (ss' := fun z80 gs80 => [.io (List.map D.int gs80), .val (D.int many), .val (D.int width), .rd (List.map (eT (eP D.int D.int)) st6.2), .val (D.int z6), .val (D.int (y8.1 % (4 : Int))), .un, .un, .un, .val (D.int z80)]) s6 hm78 c9 rfl rfl it77 (by decide) (tg_name (by decide)) (fun _ _ => rfl) hl77 (fun B80 z80 gs80 F80 H80 σ80 P80 G80 hio80 s80 h80 zm80 e80 c80 kd80 => ?_) (fun v80 bs80 gq80 HH80 hm80 q80 => ?_)
          ·
            replace s80 := s80 10 (fun _ _ _ _ => False) (ecl ad)
            try dsimp only [tAsg, tRet, tRetN, tOp, tUn, tTest, tB, tCons, tNil, tCB, tC, tNext, tCallS, tDrop, tNot, tNotV, tSl, tNoPart, tPart, tBM, tBM0, iList, iTup, iStr, iSrc, iRng1, iRng2, iEnumS, iZipS, tBreak, tCont, gSub, tAug, tMth, tMakeS, tM1, tM0, tFld, cxOf]
            refine w_tup ?_
            try dsimp only [tAsg, tRet, tRetN, tOp, tUn, tTest, tB, tCons, tNil, tCB, tC, tNext, tCallS, tDrop, tNot, tNotV, tSl, tNoPart, tPart, tBM, tBM0, iList, iTup, iStr, iSrc, iRng1, iRng2, iEnumS, iZipS, tBreak, tCont, gSub, tAug, tMth, tMakeS, tM1, tM0, tFld, cxOf]
            refine s_varIO c80 (i := 0) rfl fun a81 xs81 ha81 hx81 l81 t81 => ?_
            refine s_callI (ps := (fun x : (List Int) => [])) (m := (fun x => m__law_next x)) (x := (gs80)) (i := 0) s80 h80 c80 rfl ha81 rfl Reps.nil fun y82 v82 F82 H82 hm82 e82 c82 r82 => ?_
            replace c82 : Ctx K _ _ _ _ [.io (List.map D.int y82.2), .val (D.int many), .val (D.int width), .rd (List.map (eT (eP D.int D.int)) st6.2), .val (D.int z6), .val (D.int (y8.1 % (4 : Int))), .un, .un, .un, .val (D.int z80)] := c82
            cases (show Rep K _ _ (D.int y82.1) from r82)
            refine n_intI ?_
            refine s_iC (by decide) ?_
            refine s_i0 ?_
            refine n_tup c82 (Reps.cons (Rep.int _) (Reps.cons (Rep.int _) Reps.nil)) (by show (2 : Nat) ≤ sizeLine; decide) fun v83 F83 H83 e83 c83 r83 => ?_
            exact kd80 _ _ _ _ _ _ _ hm82 c83 rfl (show Rep K _ _ ((eP D.int D.int) (((y82.1 % (3 : Int)) - (1 : Int)), (1 : Int))) from r83)
          ·
            obtain ⟨F84, e84, c84, r84⟩ := q80
            replace c84 : Ctx K _ _ _ _ [.io (List.map D.int gq80), .val (D.int many), .val (D.int width), .own (List.map (eT (eP D.int D.int)) st6.2), .val (D.int z6), .val (D.int (y8.1 % (4 : Int))), .un, .un, .un, .un] := c84
            replace r84 : Nw K _ _ [.io (List.map D.int gq80), .val (D.int many), .val (D.int width), .own (List.map (eT (eP D.int D.int)) st6.2), .val (D.int z6), .val (D.int (y8.1 % (4 : Int))), .un, .un, .un, .un] _ _ _ _ := r84
            obtain ⟨F85, e85, c85, r85⟩ := Nw.frz c84 r84
            refine n_tupL c85 (show Rep K _ _ ((eL (eP D.int D.int)) bs80) from r85) fun v86 F86 H86 e86 c86 r86 => ?_
            refine s_append (i := 3) (en := (eT (eP D.int D.int))) (ss' := fun ys => [.io (List.map D.int gq80), .val (D.int many), .val (D.int width), .own (List.map (eT (eP D.int D.int)) ys), .val (D.int z6), .val (D.int (y8.1 % (4 : Int))), .un, .un, .un, .un]) s6 hm80 c86 ha76 rfl (show Rep K _ _ ((eT (eP D.int D.int)) bs80) from r86) rfl fun x87 H89 hm88 c90 => ?_
            exact kn6 (gq80, x87) _ _ _ hm88 (e8.trans (e84.trans (e85.trans e86))) ((c90.drop 5).drop 4)
        ·
          try try dsimp only [tAsg, tRet, tRetN, tOp, tUn, tTest, tB, tCons, tNil, tCB, tC, tNext, tCallS, tDrop, tNot, tNotV, tSl, tNoPart, tPart, tBM, tBM0, iList, iTup, iStr, iSrc, iRng1, iRng2, iEnumS, iZipS, tBreak, tCont, gSub, tAug, tMth, tMakeS, tM1, tM0, tFld, cxOf]
          refine s_varO c9 (i := 3) rfl fun a91 xs91 ha91 hx91 l91 t91 => ?_
          refine ⟨s_tyO hx91, ?_⟩
          refine w_lc ?_
          try dsimp only [tAsg, tRet, tRetN, tOp, tUn, tTest, tB, tCons, tNil, tCB, tC, tNext, tCallS, tDrop, tNot, tNotV, tSl, tNoPart, tPart, tBM, tBM0, iList, iTup, iStr, iSrc, iRng1, iRng2, iEnumS, iZipS, tBreak, tCont, gSub, tAug, tMth, tMakeS, tM1, tM0, tFld, cxOf]
          refine s_varI c9 (i := 2) rfl ?_
          obtain ⟨zs94, q92, hm93, b92, hl92, it92⟩ := x_rngL (F := F8) s6 hm75
          replace it92 := it_rng1 it92
          refine ⟨_, rfl, b92.2.2.1, b92.2.2.2, ?_⟩
          refine s_compS2 (l := l0) (vs := [9]) (en := (eP D.int D.int)) (eg := D.int) (ss' := fun z95 gs95 => [.io (List.map D.int gs95), .val (D.int many), .val (D.int width), .rd (List.map (eT (eP D.int D.int)) st6.2), .val (D.int z6), .val (D.int (y8.1 % (4 : Int))), .un, .un, .un, .val (D.int z95)]) s6 hm93 c9 rfl rfl it92 (by decide) (tg_name (by decide)) (fun _ _ => rfl) hl92 (fun B95 z95 gs95 F95 H95 σ95 P95 G95 hio95 s95 h95 zm95 e95 c95 kd95 => ?_) (fun v95 bs95 gq95 HH95 hm95 q95 => ?_)
          ·
            replace s95 := s95 10 (fun _ _ _ _ => False) (ecl ad)
            try dsimp only [tAsg, tRet, tRetN, tOp, tUn, tTest, tB, tCons, tNil, tCB, tC, tNext, tCallS, tDrop, tNot, tNotV, tSl, tNoPart, tPart, tBM, tBM0, iList, iTup, iStr, iSrc, iRng1, iRng2, iEnumS, iZipS, tBreak, tCont, gSub, tAug, tMth, tMakeS, tM1, tM0, tFld, cxOf]
            refine s_varIO c95 (i := 0) rfl fun a96 xs96 ha96 hx96 l96 t96 => ?_
            refine s_callI (ps := (fun x : (List Int) => [])) (m := (fun x => m__law_fraction x)) (x := (gs95)) (i := 0) s95 h95 c95 rfl ha96 rfl Reps.nil fun y97 v97 F97 H97 hm97 e97 c97 r97 => ?_
            replace c97 : Ctx K _ _ _ _ [.io (List.map D.int y97.2), .val (D.int many), .val (D.int width), .rd (List.map (eT (eP D.int D.int)) st6.2), .val (D.int z6), .val (D.int (y8.1 % (4 : Int))), .un, .un, .un, .val (D.int z95)] := c97
            exact kd95 _ _ _ _ _ _ _ hm97 c97 rfl (show Rep K _ _ ((eP D.int D.int) y97.1) from r97)
          ·
            obtain ⟨F98, e98, c98, r98⟩ := q95
            replace c98 : Ctx K _ _ _ _ [.io (List.map D.int gq95), .val (D.int many), .val (D.int width), .own (List.map (eT (eP D.int D.int)) st6.2), .val (D.int z6), .val (D.int (y8.1 % (4 : Int))), .un, .un, .un, .un] := c98
            replace r98 : Nw K _ _ [.io (List.map D.int gq95), .val (D.int many), .val (D.int width), .own (List.map (eT (eP D.int D.int)) st6.2), .val (D.int z6), .val (D.int (y8.1 % (4 : Int))), .un, .un, .un, .un] _ _ _ _ := r98
            obtain ⟨F99, e99, c99, r99⟩ := Nw.frz c98 r98
            refine n_tupL c99 (show Rep K _ _ ((eL (eP D.int D.int)) bs95) from r99) fun v100 F100 H100 e100 c100 r100 => ?_
            refine s_append (i := 3) (en := (eT (eP D.int D.int))) (ss' := fun ys => [.io (List.map D.int gq95), .val (D.int many), .val (D.int width), .own (List.map (eT (eP D.int D.int)) ys), .val (D.int z6), .val (D.int (y8.1 % (4 : Int))), .un, .un, .un, .un]) s6 hm95 c100 ha91 rfl (show Rep K _ _ ((eT (eP D.int D.int)) bs95) from r100) rfl fun x101 H103 hm102 c104 => ?_
            exact kn6 (gq95, x101) _ _ _ hm102 (e8.trans (e98.trans (e99.trans e100))) ((c104.drop 5).drop 4)
    ·
      have c105 := c6
      try try dsimp only [tAsg, tRet, tRetN, tOp, tUn, tTest, tB, tCons, tNil, tCB, tC, tNext, tCallS, tDrop, tNot, tNotV, tSl, tNoPart, tPart, tBM, tBM0, iList, iTup, iStr, iSrc, iRng1, iRng2, iEnumS, iZipS, tBreak, tCont, gSub, tAug, tMth, tMakeS, tM1, tM0, tFld, cxOf]
      refine s_varO c105 (i := 3) rfl fun a106 xs106 ha106 hx106 l106 t106 => ?_
      exact Fin.retS (i := 3) hm6 c105 ha106 rfl rfl (.inr rfl)
@[irreducible] def m__law_taken (row : (List (Int × Int))) (lead : (List (Int × Int))) (column : Int) : Res (List (Int × Int)) :=
  (rngL 0 (row.length : Int)).bind fun zs5 =>
  (mapR (fun z6 =>
    (ix row z6).bind fun x9 =>
  (ix row column).bind fun x16 =>
  (ix lead z6).bind fun x23 =>
  (m__law_times x16 x23).bind fun y28 =>
  (m__law_less x9 y28).bind fun y29 =>
  Res.ok y29) zs5).bind fun bs6 =>
  Res.ok bs6
abbrev sp__law_taken (K : PySem.W.Frag) (ad : Nat → Addr) : Sp := SpP (π := ((List (Int × Int)) × (List (Int × Int)) × Int)) K (ecl ad) (fun x => [(eL (eP D.int D.int)) x.1, (eL (eP D.int D.int)) x.2.1, D.int x.2.2]) (fun x => m__law_taken x.1 x.2.1 x.2.2) (fun y => .val ((eL (eP D.int D.int)) y))
theorem ok__law_taken (T : Txt K w mg ad fd) : Cm P w K mg base 4 (ad 46) (fd 46) ["row", "lead", "column"] (sp__law_taken K ad) := by
  refine ⟨T.f__law_taken.okG sc__law_taken (fun vs H Q E h => ?_) (fun cdv A outer sh H0 vs Q E gd hr h => ?_), T.f__law_taken.binds (ps := ["row", "lead", "column"]) fun _ _ _ _ _ _ us hl => match us, hl with | [_, _, _], _ => rfl⟩
  · obtain ⟨F, x, _, r, _⟩ := h
    exact r.length
  · obtain ⟨F0, ⟨row, lead, column⟩, fh0, r0, hm⟩ := h
    have hu := hr.units
    have r0 : Reps K F0 vs [(eL (eP D.int D.int)) row, (eL (eP D.int D.int)) lead, D.int column] := r0
    have c0 : Ctx K ⟨F0, H0, none⟩ F0 H0 (start ["row", "lead", "column", "j"] vs) [.val ((eL (eP D.int D.int)) row), .val ((eL (eP D.int D.int)) lead), .val (D.int column), .un] := ctx_start fh0 r0 rfl (by show (3 : Nat) ≤ 4; decide)
    have s := Fin.sct (K := K) (B := ⟨F0, H0, none⟩) (n := 4) (cl := ecl ad) (rt := fun y => .val ((eL (eP D.int D.int)) y)) (out := fun _ : (List (Int × Int)) => []) (Q := Q) (E := E)
    refine ⟨_, (pss_one (ps_ret (pe_lc (own := [("j", 3)]) rfl sc__law_taken.nd (pi_range1 rfl T.m_range (pa_cons (pe_callB (c_len (K := K)) (by rfl) T.m_len PySem.boot_len (pa_cons (pv 0) pa_nil)) pa_nil)) (blkOk_by (N := ["row", "lead", "column", "j"]) (sc := defScope s__law_taken) (by decide +kernel)) (fun _ _ _ _ _ => (pg_name (i := 3) sc__law_taken.nd rfl (by first | exact Or.inl rfl | exact Or.inr rfl))) (fun _ _ _ _ _ => pts_nil) (fun _ _ _ _ _ => (pe_cm (ok__law_less T (P := P) (w := w) (base := base)) gd (hr.mono (by decide)) T.g__law_less T.f__law_less.kp takes0N (pa_cons (pe_ix (ix_listK (K := K)) (pv 0) (pv 3) (fun _ _ => rfl)) (pa_cons (pe_cm (ok__law_times T (P := P) (w := w) (base := base)) gd (hr.mono (by decide)) T.g__law_times T.f__law_times.kp takes0N (pa_cons (pe_ix (ix_listK (K := K)) (pv 0) (pv 2) (fun _ _ => rfl)) (pa_cons (pe_ix (ix_listK (K := K)) (pv 1) (pv 3) (fun _ _ => rfl)) pa_nil))) pa_nil))))))), ?_⟩
    generalize start _ _ = σ at c0 ⊢
    try dsimp only [tAsg, tRet, tRetN, tOp, tUn, tTest, tB, tCons, tNil, tCB, tC, tNext, tCallS, tDrop, tNot, tNotV, tSl, tNoPart, tPart, tBM, tBM0, iList, iTup, iStr, iSrc, iRng1, iRng2, iEnumS, iZipS, tBreak, tCont, gSub, tAug, tMth, tMakeS, tM1, tM0, tFld, cxOf]
    try dsimp only at hm
    unfold m__law_taken at hm
    try try dsimp only [tAsg, tRet, tRetN, tOp, tUn, tTest, tB, tCons, tNil, tCB, tC, tNext, tCallS, tDrop, tNot, tNotV, tSl, tNoPart, tPart, tBM, tBM0, iList, iTup, iStr, iSrc, iRng1, iRng2, iEnumS, iZipS, tBreak, tCont, gSub, tAug, tMth, tMakeS, tM1, tM0, tFld, cxOf]
    refine w_lc ?_
    try dsimp only [tAsg, tRet, tRetN, tOp, tUn, tTest, tB, tCons, tNil, tCB, tC, tNext, tCallS, tDrop, tNot, tNotV, tSl, tNoPart, tPart, tBM, tBM0, iList, iTup, iStr, iSrc, iRng1, iRng2, iEnumS, iZipS, tBreak, tCont, gSub, tAug, tMth, tMakeS, tM1, tM0, tFld, cxOf]
    refine s_var c0 (i := 0) rfl fun v1 r2 => ?_
    refine n_lenL c0 (show Rep K _ _ ((eL (eP D.int D.int)) row) from r2) ?_
    obtain ⟨zs5, q3, hm4, b3, hl3, it3⟩ := x_rngL (F := F0) s hm
    replace it3 := it_rng1 it3
    refine ⟨_, rfl, b3.2.2.1, b3.2.2.2, ?_⟩
    refine s_compM (vs := [3]) (en := (eP D.int D.int)) (ss' := fun z6 => [.val ((eL (eP D.int D.int)) row), .val ((eL (eP D.int D.int)) lead), .val (D.int column), .val (D.int z6)]) s hm4 c0 it3 (.inl (by decide)) (tg_name (by decide)) (fun _ => rfl) hl3 (fun B6 z6 F6 H6 σ6 P6 G6 Sk6 hio6 s6 h6 zm6 e6 c6 kd6 ks6 => ?_) (fun v6 bs6 HH6 hm6 q6 => ?_)
    ·
      replace s6 := s6 4 (fun _ _ _ _ => False) (ecl ad)
      try dsimp only [tAsg, tRet, tRetN, tOp, tUn, tTest, tB, tCons, tNil, tCB, tC, tNext, tCallS, tDrop, tNot, tNotV, tSl, tNoPart, tPart, tBM, tBM0, iList, iTup, iStr, iSrc, iRng1, iRng2, iEnumS, iZipS, tBreak, tCont, gSub, tAug, tMth, tMakeS, tM1, tM0, tFld, cxOf]
      refine s_var c6 (i := 0) rfl fun v7 r8 => ?_
      refine s_varI c6 (i := 3) rfl ?_
      refine s_ixLv (en := (eP D.int D.int)) s6 h6 c6 (show Rep K _ _ ((eL (eP D.int D.int)) row) from r8) fun x9 v12 q11 hm10 r13 => ?_
      refine s_var c6 (i := 0) rfl fun v14 r15 => ?_
      refine s_varI c6 (i := 2) rfl ?_
      refine s_ixLv (en := (eP D.int D.int)) s6 hm10 c6 (show Rep K _ _ ((eL (eP D.int D.int)) row) from r15) fun x16 v19 q18 hm17 r20 => ?_
      refine s_var c6 (i := 1) rfl fun v21 r22 => ?_
      refine s_varI c6 (i := 3) rfl ?_
      refine s_ixLv (en := (eP D.int D.int)) s6 hm17 c6 (show Rep K _ _ ((eL (eP D.int D.int)) lead) from r22) fun x23 v26 q25 hm24 r27 => ?_
      refine s_call (ps := (fun x : ((Int × Int) × (Int × Int)) => [(eP D.int D.int) x.1, (eP D.int D.int) x.2])) (m := (fun x => m__law_times x.1 x.2)) (x := (x16, x23)) s6 hm24 c6 rfl (Reps.cons (show Rep K _ _ ((eP D.int D.int) x16) from r20) (Reps.cons (show Rep K _ _ ((eP D.int D.int) x23) from r27) Reps.nil)) fun y28 v28 F28 H28 hm28 e28 c28 r28 => ?_
      refine s_call (ps := (fun x : ((Int × Int) × (Int × Int)) => [(eP D.int D.int) x.1, (eP D.int D.int) x.2])) (m := (fun x => m__law_less x.1 x.2)) (x := (x9, y28)) s6 hm28 c28 rfl (Reps.cons (show Rep K _ _ ((eP D.int D.int) x9) from (r13.mono e28)) (Reps.cons (show Rep K _ _ ((eP D.int D.int) y28) from r28) Reps.nil)) fun y29 v29 F29 H29 hm29 e29 c29 r29 => ?_
      exact kd6 _ _ _ _ _ _ hm29 c29 (show Rep K _ _ ((eP D.int D.int) y29) from r29)
    ·
      obtain ⟨F30, e30, c30, r30⟩ := q6
      obtain ⟨F31, e31, c31, r31⟩ := Nw.frz c30 r30
      exact Fin.ret (d := (eL (eP D.int D.int)) bs6) hm6 c31 (r31) rfl (.inl rfl)
@[irreducible] def m_solution_or_none (width : Int) (rows : (List (List (Int × Int)))) (wanted : (List (Int × Int))) : Res (Option (List (Int × Int))) :=
  (mapR (fun z8 =>
    (catR z8.1 [z8.2]).bind fun x14 =>
  (m_cleared x14).bind fun y17 =>
  Res.ok y17) (List.zip rows wanted)).bind fun bs8 =>
  (m_whole_echelon (width + (1 : Int)) bs8).bind fun y23 =>
  (m_solution_from width y23).bind fun y24 =>
  Res.ok y24
abbrev sp_solution_or_none (K : PySem.W.Frag) (ad : Nat → Addr) : Sp := SpP (π := (Int × (List (List (Int × Int))) × (List (Int × Int)))) K (ecl ad) (fun x => [D.int x.1, (eL (eT (eP D.int D.int))) x.2.1, (eT (eP D.int D.int)) x.2.2]) (fun x => m_solution_or_none x.1 x.2.1 x.2.2) (fun y => .val ((eO (eT (eP D.int D.int))) y))
theorem ok_solution_or_none (T : Txt K w mg ad fd) : Cm P w K mg base 5 (ad 27) (fd 27) ["width", "rows", "wanted"] (sp_solution_or_none K ad) := by
  refine ⟨T.f_solution_or_none.okG sc_solution_or_none (fun vs H Q E h => ?_) (fun cdv A outer sh H0 vs Q E gd hr h => ?_), T.f_solution_or_none.binds (ps := ["width", "rows", "wanted"]) fun _ _ _ _ _ _ us hl => match us, hl with | [_, _, _], _ => rfl⟩
  · obtain ⟨F, x, _, r, _⟩ := h
    exact r.length
  · obtain ⟨F0, ⟨width, rows, wanted⟩, fh0, r0, hm⟩ := h
    have hu := hr.units
    have r0 : Reps K F0 vs [D.int width, (eL (eT (eP D.int D.int))) rows, (eT (eP D.int D.int)) wanted] := r0
    have c0 : Ctx K ⟨F0, H0, none⟩ F0 H0 (start ["width", "rows", "wanted", "longer", "row", "x"] vs) [.val (D.int width), .val ((eL (eT (eP D.int D.int))) rows), .val ((eT (eP D.int D.int)) wanted), .un, .un, .un] := ctx_start fh0 r0 rfl (by show (3 : Nat) ≤ 6; decide)
    have s := Fin.sct (K := K) (B := ⟨F0, H0, none⟩) (n := 6) (cl := ecl ad) (rt := fun y => .val ((eO (eT (eP D.int D.int))) y)) (out := fun _ : (Option (List (Int × Int))) => []) (Q := Q) (E := E)
    refine ⟨_, (pss_cons (ps_setLc (i := 3) (own := [("row", 4), ("x", 5)]) (g := gTup K 2 (gCons (gName 4) (gCons (gName 5) gNil))) rfl sc_solution_or_none.nd rfl rfl (sw_true rfl rfl rfl (by decide +kernel)) (pi_zipS (by rfl) T.m_zip (pa_cons (pv 1) (pa_cons (pv 2) pa_nil))) (blkOk_by (N := ["width", "rows", "wanted", "longer", "row", "x"]) (sc := defScope s_solution_or_none) (by decide +kernel)) (fun _ _ _ _ _ => (pg_tup (n := 2) rfl (pgs_cons (pg_name (i := 4) sc_solution_or_none.nd rfl (by first | exact Or.inl rfl | exact Or.inr rfl)) (pgs_cons (pg_name (i := 5) sc_solution_or_none.nd rfl (by first | exact Or.inl rfl | exact Or.inr rfl)) pgs_nil)))) (fun _ _ _ _ _ => pts_nil) (fun _ _ _ _ _ => (pe_cm (ok_cleared T (P := P) (w := w) (base := base)) gd (hr.mono (by decide)) T.g_cleared T.f_cleared.kp takes0N (pa_cons (pe_op (op_catK (K := K)) (pv 4) (pe_tup (pa_cons (pv 5) pa_nil))) pa_nil))))
    (pss_one (ps_ret (pe_cm (ok_solution_from T (P := P) (w := w) (base := base)) gd (hr.mono (by decide)) T.g_solution_from T.f_solution_from.kp (L2N.takes_of rfl rfl rfl rfl) (pa_cons (pv 0) (pa_cons (pe_cm (ok_whole_echelon T (P := P) (w := w) (base := base)) gd (hr.mono (by decide)) T.g_whole_echelon T.f_whole_echelon.kp (L2N.takes_of rfl rfl rfl rfl) (pa_cons (pe_op op_add (pv 0) pe_int) (pa_cons (pv 3) pa_nil))) pa_nil)))))), ?_⟩
    generalize start _ _ = σ at c0 ⊢
    try dsimp only [tAsg, tRet, tRetN, tOp, tUn, tTest, tB, tCons, tNil, tCB, tC, tNext, tCallS, tDrop, tNot, tNotV, tSl, tNoPart, tPart, tBM, tBM0, iList, iTup, iStr, iSrc, iRng1, iRng2, iEnumS, iZipS, tBreak, tCont, gSub, tAug, tMth, tMakeS, tM1, tM0, tFld, cxOf]
    try dsimp only at hm
    unfold m_solution_or_none at hm
    refine w_seq ?_
    try try dsimp only [tAsg, tRet, tRetN, tOp, tUn, tTest, tB, tCons, tNil, tCB, tC, tNext, tCallS, tDrop, tNot, tNotV, tSl, tNoPart, tPart, tBM, tBM0, iList, iTup, iStr, iSrc, iRng1, iRng2, iEnumS, iZipS, tBreak, tCont, gSub, tAug, tMth, tMakeS, tM1, tM0, tFld, cxOf]
    refine w_lc ?_
    try dsimp only [tAsg, tRet, tRetN, tOp, tUn, tTest, tB, tCons, tNil, tCB, tC, tNext, tCallS, tDrop, tNot, tNotV, tSl, tNoPart, tPart, tBM, tBM0, iList, iTup, iStr, iSrc, iRng1, iRng2, iEnumS, iZipS, tBreak, tCont, gSub, tAug, tMth, tMakeS, tM1, tM0, tFld, cxOf]
    refine s_var c0 (i := 1) rfl fun v1 r2 => ?_
    refine s_var c0 (i := 2) rfl fun v3 r4 => ?_
    obtain ⟨S5, so5⟩ := srcL (show Rep K _ _ ((eL (eT (eP D.int D.int))) rows) from r2)
    have sl5 := lenL (show Rep K _ _ ((eL (eT (eP D.int D.int))) rows) from r2)
    obtain ⟨S6, so6⟩ := srcT (show Rep K _ _ ((eT (eP D.int D.int)) wanted) from r4)
    have sl6 := lenT (show Rep K _ _ ((eT (eP D.int D.int)) wanted) from r4)
    obtain ⟨xs7, ys7, q7, a7, b7, it7⟩ := x_zip (e1 := (eT (eP D.int D.int))) (e2 := (eP D.int D.int)) c0 so5 so6
    refine ⟨_, _, xs7, ys7, q7, a7, b7, ?_⟩
    refine s_compM (vs := [4, 5]) (en := (eT D.int)) (ss' := fun z8 => [.val (D.int width), .val ((eL (eT (eP D.int D.int))) rows), .val ((eT (eP D.int D.int)) wanted), .un, .val ((eT (eP D.int D.int)) z8.1), .val ((eP D.int D.int) z8.2)]) s hm c0 it7 (.inl (by decide)) (tg_pair (by decide) (by decide)) (fun _ => rfl) (zip_len sl5) (fun B8 z8 F8 H8 σ8 P8 G8 Sk8 hio8 s8 h8 zm8 e8 c8 kd8 ks8 => ?_) (fun v8 bs8 HH8 hm8 q8 => ?_)
    ·
      replace s8 := s8 6 (fun _ _ _ _ => False) (ecl ad)
      try dsimp only [tAsg, tRet, tRetN, tOp, tUn, tTest, tB, tCons, tNil, tCB, tC, tNext, tCallS, tDrop, tNot, tNotV, tSl, tNoPart, tPart, tBM, tBM0, iList, iTup, iStr, iSrc, iRng1, iRng2, iEnumS, iZipS, tBreak, tCont, gSub, tAug, tMth, tMakeS, tM1, tM0, tFld, cxOf]
      refine s_var c8 (i := 4) rfl fun v9 r10 => ?_
      refine w_tup ?_
      try dsimp only [tAsg, tRet, tRetN, tOp, tUn, tTest, tB, tCons, tNil, tCB, tC, tNext, tCallS, tDrop, tNot, tNotV, tSl, tNoPart, tPart, tBM, tBM0, iList, iTup, iStr, iSrc, iRng1, iRng2, iEnumS, iZipS, tBreak, tCont, gSub, tAug, tMth, tMakeS, tM1, tM0, tFld, cxOf]
      refine s_var c8 (i := 5) rfl fun v11 r12 => ?_
      refine n_tup c8 (Reps.cons r12 Reps.nil) (by show (1 : Nat) ≤ sizeLine; decide) fun v13 F13 H13 e13 c13 r13 => ?_
      refine s_catT s8 h8 c13 (show Rep K _ _ ((eT (eP D.int D.int)) z8.1) from (r10.mono e13)) (show Rep K _ _ ((eT (eP D.int D.int)) [z8.2]) from r13) fun x14 v16 F16 H16 hm15 e16 c16 r16 => ?_
      refine s_call (ps := (fun x : (List (Int × Int)) => [(eT (eP D.int D.int)) x])) (m := (fun x => m_cleared x)) (x := (x14)) s8 hm15 c16 rfl (Reps.cons (show Rep K _ _ ((eT (eP D.int D.int)) x14) from r16) Reps.nil) fun y17 v17 F17 H17 hm17 e17 c17 r17 => ?_
      exact kd8 _ _ _ _ _ _ hm17 c17 (show Rep K _ _ ((eT D.int) y17) from r17)
    ·
      obtain ⟨F18, e18, c18, r18⟩ := q8
      obtain ⟨F19, e19, c19, r19⟩ := Nw.frz c18 r18
      refine s_set (i := 3) (d := (eL (eT D.int)) bs8) (ss' := [.val (D.int width), .val ((eL (eT (eP D.int D.int))) rows), .val ((eT (eP D.int D.int)) wanted), .val ((eL (eT D.int)) bs8), .un, .un]) c19 (.inl (by decide)) (r19) rfl fun σ c20 => ?_
      try try dsimp only [tAsg, tRet, tRetN, tOp, tUn, tTest, tB, tCons, tNil, tCB, tC, tNext, tCallS, tDrop, tNot, tNotV, tSl, tNoPart, tPart, tBM, tBM0, iList, iTup, iStr, iSrc, iRng1, iRng2, iEnumS, iZipS, tBreak, tCont, gSub, tAug, tMth, tMakeS, tM1, tM0, tFld, cxOf]
      refine s_varI c20 (i := 0) rfl ?_
      refine s_varI c20 (i := 0) rfl ?_
      refine s_i0 ?_
      refine s_var c20 (i := 3) rfl fun v21 r22 => ?_
      refine s_call (ps := (fun x : (Int × (List (List Int))) => [D.int x.1, (eL (eT D.int)) x.2])) (m := (fun x => m_whole_echelon x.1 x.2)) (x := ((width + (1 : Int)), bs8)) s hm8 c20 rfl (Reps.cons (show Rep K _ _ (D.int (width + (1 : Int))) from (Rep.int _)) (Reps.cons (show Rep K _ _ ((eL (eT D.int)) bs8) from r22) Reps.nil)) fun y23 v23 F23 H23 hm23 e23 c23 r23 => ?_
      refine s_call (ps := (fun x : (Int × (List (Int × (List Int)))) => [D.int x.1, (eL (eP D.int (eT D.int))) x.2])) (m := (fun x => m_solution_from x.1 x.2)) (x := (width, y23)) s hm23 c23 rfl (Reps.cons (show Rep K _ _ (D.int width) from (Rep.int _)) (Reps.cons (show Rep K _ _ ((eL (eP D.int (eT D.int))) y23) from r23) Reps.nil)) fun y24 v24 F24 H24 hm24 e24 c24 r24 => ?_
      exact Fin.ret (d := (eO (eT (eP D.int D.int))) y24) hm24 c24 (r24) rfl (.inl rfl)
@[irreducible] def m__law_echelon (width : Int) (rows : (List (List (Int × Int)))) : Res (List (List (Int × Int))) :=
  (mapR (fun z4 =>
    Res.ok z4) rows).bind fun bs4 =>
  (rngR 0 width).bind fun zs15 =>
  (foldR (fun z16 st16 =>
    (rngL 0 (st16.1.length : Int)).bind fun zs20 =>
  (compR (fun z21 =>
    (ix st16.1 z21).bind fun x23 =>
  (ix x23 z16).bind fun x28 =>
  if (decide (x28.1 ≠ (0 : Int))) = true then Res.ok (some z21) else Res.ok none) zs20).bind fun bs21 =>
  if (!(!List.isEmpty bs21)) = true then
    Res.ok (st16.1, st16.2)
  else
    (ix bs21 (0 : Int)).bind fun x47 =>
  (popAtR st16.1 x47).bind2 fun x52 xs53 =>
  (mapR (fun z60 =>
    (ix x52 z16).bind fun x65 =>
  (m__law_over z60 x65).bind fun y70 =>
  Res.ok y70) x52).bind fun bs60 =>
  (mapR (fun z79 =>
    (m__law_taken z79 bs60 z16).bind fun y84 =>
  Res.ok y84) xs53).bind fun bs79 =>
  (mapR (fun z90 =>
    (m__law_taken z90 bs60 z16).bind fun y95 =>
  Res.ok y95) st16.2).bind fun bs90 =>
  (catR bs90 [bs60]).bind fun x101 =>
  Res.ok (bs79, x101)) zs15 (bs4, ([] : List (List (Int × Int))))).bind fun st16 =>
  (mapR (fun z110 =>
    Res.ok z110) st16.2).bind fun bs110 =>
  Res.ok bs110
abbrev sp__law_echelon (K : PySem.W.Frag) (ad : Nat → Addr) : Sp := SpP (π := (Int × (List (List (Int × Int))))) K (ecl ad) (fun x => [D.int x.1, (eL (eT (eP D.int D.int))) x.2]) (fun x => m__law_echelon x.1 x.2) (fun y => .val ((eL (eT (eP D.int D.int))) y))
theorem ok__law_echelon (T : Txt K w mg ad fd) : Cm P w K mg base 5 (ad 45) (fd 45) ["width", "rows"] (sp__law_echelon K ad) := by
  refine ⟨T.f__law_echelon.okG sc__law_echelon (fun vs H Q E h => ?_) (fun cdv A outer sh H0 vs Q E gd hr h => ?_), T.f__law_echelon.binds (ps := ["width", "rows"]) fun _ _ _ _ _ _ us hl => match us, hl with | [_, _], _ => rfl⟩
  · obtain ⟨F, x, _, r, _⟩ := h
    exact r.length
  · obtain ⟨F0, ⟨width, rows⟩, fh0, r0, hm⟩ := h
    have hu := hr.units
    have r0 : Reps K F0 vs [D.int width, (eL (eT (eP D.int D.int))) rows] := r0
    have c0 : Ctx K ⟨F0, H0, none⟩ F0 H0 (start ["width", "rows", "left", "row", "done", "column", "here", "at", "lead", "x"] vs) [.val (D.int width), .val ((eL (eT (eP D.int D.int))) rows), .un, .un, .un, .un, .un, .un, .un, .un] := ctx_start fh0 r0 rfl (by show (2 : Nat) ≤ 10; decide)
    have s := Fin.sct (K := K) (B := ⟨F0, H0, none⟩) (n := 10) (cl := ecl ad) (rt := fun y => .val ((eL (eT (eP D.int D.int))) y)) (out := fun _ : (List (List (Int × Int))) => []) (Q := Q) (E := E)
    refine ⟨_, (pss_cons (ps_set (i := 2) sc__law_echelon.nd rfl (by first | exact Or.inl rfl | exact Or.inr rfl) (pe_lc (own := [("row", 3)]) rfl sc__law_echelon.nd (pi_list (pv 1)) (blkOk_by (N := ["width", "rows", "left", "row", "done", "column", "here", "at", "lead", "x"]) (sc := defScope s__law_echelon) (by decide +kernel)) (fun _ _ _ _ _ => (pg_name (i := 3) sc__law_echelon.nd rfl (by first | exact Or.inl rfl | exact Or.inr rfl))) (fun _ _ _ _ _ => pts_nil) (fun _ _ _ _ _ => (pe_callTy (T := "list") (c_list (K := K) rfl) (by rfl) T.m_list (by decide +kernel) (pa_cons (pv 3) pa_nil)))))
    (pss_cons (ps_set (i := 4) sc__law_echelon.nd rfl (by first | exact Or.inl rfl | exact Or.inr rfl) (pe_lst pa_nil))
    (pss_cons (ps_for (by first | exact PassesOwn.never | exact passes_of rfl) rfl (pi_range1 rfl T.m_range (pa_cons (pv 0) pa_nil)) (pg_name (i := 5) sc__law_echelon.nd rfl (by first | exact Or.inl rfl | exact Or.inr rfl))
      (pss_cons (ps_setLc (i := 6) (own := [("at", 7)]) rfl sc__law_echelon.nd rfl rfl (sw_true rfl rfl rfl (by decide +kernel)) (pi_range1 rfl T.m_range (pa_cons (pe_callB (c_len (K := K)) (by rfl) T.m_len PySem.boot_len (pa_cons (pv 2) pa_nil)) pa_nil)) (blkOk_by (N := ["width", "rows", "left", "row", "done", "column", "here", "at", "lead", "x"]) (sc := defScope s__law_echelon) (by decide +kernel)) (fun _ _ _ _ _ => (pg_name (i := 7) sc__law_echelon.nd rfl (by first | exact Or.inl rfl | exact Or.inr rfl))) (fun _ _ _ _ _ => (pts_one (pt_cmpR op_ne (pe_ix (ix_tupK (K := K)) (pe_ix (ix_listK (K := K)) (pe_ix (ix_listK (K := K)) (pv 2) (pv 7) (fun _ _ => rfl)) (pv 5) (fun _ _ => rfl)) pe_int (fun _ _ => rfl)) pe_int (nomark _)))) (fun _ _ _ _ _ => (pv 7)))
    (pss_cons (ps_if (pt_not (pt_truth (pv 6) (fun _ => rfl))) (pss_one ps_continue) pss_nil)
    (pss_cons (ps_set (i := 8) sc__law_echelon.nd rfl (by first | exact Or.inl rfl | exact Or.inr rfl) (pe_bm PySem.F.plainAttrs_list PySem.F.slot_list_pop PySem.F.type_list_pop mt_popAt (pv 2) (pa_cons (pe_ix (ix_listK (K := K)) (pv 6) pe_int (fun _ _ => rfl)) pa_nil)))
    (pss_cons (ps_set (i := 8) sc__law_echelon.nd rfl (by first | exact Or.inl rfl | exact Or.inr rfl) (pe_lc (own := [("x", 9)]) rfl sc__law_echelon.nd (pi_list (pv 8)) (blkOk_by (N := ["width", "rows", "left", "row", "done", "column", "here", "at", "lead", "x"]) (sc := defScope s__law_echelon) (by decide +kernel)) (fun _ _ _ _ _ => (pg_name (i := 9) sc__law_echelon.nd rfl (by first | exact Or.inl rfl | exact Or.inr rfl))) (fun _ _ _ _ _ => pts_nil) (fun _ _ _ _ _ => (pe_cm (ok__law_over T (P := P) (w := w) (base := base)) gd (hr.mono (by decide)) T.g__law_over T.f__law_over.kp takes0N (pa_cons (pv 9) (pa_cons (pe_ix (ix_listK (K := K)) (pv 8) (pv 5) (fun _ _ => rfl)) pa_nil))))))
    (pss_cons (ps_set (i := 2) sc__law_echelon.nd rfl (by first | exact Or.inl rfl | exact Or.inr rfl) (pe_lc (own := [("row", 3)]) rfl sc__law_echelon.nd (pi_list (pv 2)) (blkOk_by (N := ["width", "rows", "left", "row", "done", "column", "here", "at", "lead", "x"]) (sc := defScope s__law_echelon) (by decide +kernel)) (fun _ _ _ _ _ => (pg_name (i := 3) sc__law_echelon.nd rfl (by first | exact Or.inl rfl | exact Or.inr rfl))) (fun _ _ _ _ _ => pts_nil) (fun _ _ _ _ _ => (pe_cm (ok__law_taken T (P := P) (w := w) (base := base)) gd (hr.mono (by decide)) T.g__law_taken T.f__law_taken.kp takes0N (pa_cons (pv 3) (pa_cons (pv 8) (pa_cons (pv 5) pa_nil)))))))
    (pss_one (ps_set (i := 4) sc__law_echelon.nd rfl (by first | exact Or.inl rfl | exact Or.inr rfl) (pe_op op_cat (pe_lc (own := [("row", 3)]) rfl sc__law_echelon.nd (pi_list (pv 4)) (blkOk_by (N := ["width", "rows", "left", "row", "done", "column", "here", "at", "lead", "x"]) (sc := defScope s__law_echelon) (by decide +kernel)) (fun _ _ _ _ _ => (pg_name (i := 3) sc__law_echelon.nd rfl (by first | exact Or.inl rfl | exact Or.inr rfl))) (fun _ _ _ _ _ => pts_nil) (fun _ _ _ _ _ => (pe_cm (ok__law_taken T (P := P) (w := w) (base := base)) gd (hr.mono (by decide)) T.g__law_taken T.f__law_taken.kp takes0N (pa_cons (pv 3) (pa_cons (pv 8) (pa_cons (pv 5) pa_nil)))))) (pe_lst (pa_cons (pv 8) pa_nil)))))))))))
    (pss_one (ps_ret (pe_lc (own := [("row", 3)]) rfl sc__law_echelon.nd (pi_list (pv 4)) (blkOk_by (N := ["width", "rows", "left", "row", "done", "column", "here", "at", "lead", "x"]) (sc := defScope s__law_echelon) (by decide +kernel)) (fun _ _ _ _ _ => (pg_name (i := 3) sc__law_echelon.nd rfl (by first | exact Or.inl rfl | exact Or.inr rfl))) (fun _ _ _ _ _ => pts_nil) (fun _ _ _ _ _ => (pe_callTy (T := "tuple") (c_tuple (K := K)) (by rfl) T.m_tuple (by decide +kernel) (pa_cons (pv 3) pa_nil))))))))), ?_⟩
    generalize start _ _ = σ at c0 ⊢
    try dsimp only [tAsg, tRet, tRetN, tOp, tUn, tTest, tB, tCons, tNil, tCB, tC, tNext, tCallS, tDrop, tNot, tNotV, tSl, tNoPart, tPart, tBM, tBM0, iList, iTup, iStr, iSrc, iRng1, iRng2, iEnumS, iZipS, tBreak, tCont, gSub, tAug, tMth, tMakeS, tM1, tM0, tFld, cxOf]
    try dsimp only at hm
    unfold m__law_echelon at hm
    refine w_seq ?_
    try try dsimp only [tAsg, tRet, tRetN, tOp, tUn, tTest, tB, tCons, tNil, tCB, tC, tNext, tCallS, tDrop, tNot, tNotV, tSl, tNoPart, tPart, tBM, tBM0, iList, iTup, iStr, iSrc, iRng1, iRng2, iEnumS, iZipS, tBreak, tCont, gSub, tAug, tMth, tMakeS, tM1, tM0, tFld, cxOf]
    refine w_lc ?_
    try dsimp only [tAsg, tRet, tRetN, tOp, tUn, tTest, tB, tCons, tNil, tCB, tC, tNext, tCallS, tDrop, tNot, tNotV, tSl, tNoPart, tPart, tBM, tBM0, iList, iTup, iStr, iSrc, iRng1, iRng2, iEnumS, iZipS, tBreak, tCont, gSub, tAug, tMth, tMakeS, tM1, tM0, tFld, cxOf]
    refine s_var c0 (i := 1) rfl fun v1 r2 => ?_
    have sl3 := lenL (show Rep K _ _ ((eL (eT (eP D.int D.int))) rows) from r2)
    obtain ⟨a3, q3, x3, it3⟩ := x_list c0 (show Rep K _ _ ((eL (eT (eP D.int D.int))) rows) from r2)
    refine ⟨a3, q3, x3, ?_⟩
    refine s_compM (vs := [3]) (en := (eL (eP D.int D.int))) (ss' := fun z4 => [.val (D.int width), .val ((eL (eT (eP D.int D.int))) rows), .un, .val ((eT (eP D.int D.int)) z4), .un, .un, .un, .un, .un, .un]) s hm c0 it3 (.inl (by decide)) (tg_name (by decide)) (fun _ => rfl) sl3 (fun B4 z4 F4 H4 σ4 P4 G4 Sk4 hio4 s4 h4 zm4 e4 c4 kd4 ks4 => ?_) (fun v4 bs4 HH4 hm4 q4 => ?_)
    ·
      replace s4 := s4 10 (fun _ _ _ _ => False) (ecl ad)
      try dsimp only [tAsg, tRet, tRetN, tOp, tUn, tTest, tB, tCons, tNil, tCB, tC, tNext, tCallS, tDrop, tNot, tNotV, tSl, tNoPart, tPart, tBM, tBM0, iList, iTup, iStr, iSrc, iRng1, iRng2, iEnumS, iZipS, tBreak, tCont, gSub, tAug, tMth, tMakeS, tM1, tM0, tFld, cxOf]
      refine s_var c4 (i := 3) rfl fun v5 r6 => ?_
      refine n_listT c4 (show Rep K _ _ ((eT (eP D.int D.int)) z4) from r6) fun v7 H7 c7 r7 => ?_
      obtain ⟨F8, e8, c8, r8⟩ := Nw.frz c7 r7
      exact kd4 _ _ _ _ _ _ h4 c8 (show Rep K _ _ ((eL (eP D.int D.int)) z4) from r8)
    ·
      obtain ⟨F9, e9, c9, r9⟩ := q4
      refine s_setO (i := 2) (ss' := [.val (D.int width), .val ((eL (eT (eP D.int D.int))) rows), .own (List.map (eL (eP D.int D.int)) bs4), .un, .un, .un, .un, .un, .un, .un]) c9 (.inl (by decide)) r9 rfl fun σ c10 => ?_
      refine w_seq ?_
      try try dsimp only [tAsg, tRet, tRetN, tOp, tUn, tTest, tB, tCons, tNil, tCB, tC, tNext, tCallS, tDrop, tNot, tNotV, tSl, tNoPart, tPart, tBM, tBM0, iList, iTup, iStr, iSrc, iRng1, iRng2, iEnumS, iZipS, tBreak, tCont, gSub, tAug, tMth, tMakeS, tM1, tM0, tFld, cxOf]
      refine w_lst ?_
      try dsimp only [tAsg, tRet, tRetN, tOp, tUn, tTest, tB, tCons, tNil, tCB, tC, tNext, tCallS, tDrop, tNot, tNotV, tSl, tNoPart, tPart, tBM, tBM0, iList, iTup, iStr, iSrc, iRng1, iRng2, iEnumS, iZipS, tBreak, tCont, gSub, tAug, tMth, tMakeS, tM1, tM0, tFld, cxOf]
      refine n_lst c10 Reps.nil (by show (0 : Nat) ≤ sizeLine; decide) fun v11 F11 H11 e11 c11 r11 => ?_
      refine s_set (i := 4) (d := (eL (eL (eP D.int D.int))) ([] : List (List (Int × Int)))) (ss' := [.val (D.int width), .val ((eL (eT (eP D.int D.int))) rows), .own (List.map (eL (eP D.int D.int)) bs4), .un, .val ((eL (eL (eP D.int D.int))) ([] : List (List (Int × Int)))), .un, .un, .un, .un, .un]) c11 (.inl (by decide)) (r11) rfl fun σ c12 => ?_
      refine w_seq ?_
      try try dsimp only [tAsg, tRet, tRetN, tOp, tUn, tTest, tB, tCons, tNil, tCB, tC, tNext, tCallS, tDrop, tNot, tNotV, tSl, tNoPart, tPart, tBM, tBM0, iList, iTup, iStr, iSrc, iRng1, iRng2, iEnumS, iZipS, tBreak, tCont, gSub, tAug, tMth, tMakeS, tM1, tM0, tFld, cxOf]
      refine w_for ?_
      try dsimp only [tAsg, tRet, tRetN, tOp, tUn, tTest, tB, tCons, tNil, tCB, tC, tNext, tCallS, tDrop, tNot, tNotV, tSl, tNoPart, tPart, tBM, tBM0, iList, iTup, iStr, iSrc, iRng1, iRng2, iEnumS, iZipS, tBreak, tCont, gSub, tAug, tMth, tMakeS, tM1, tM0, tFld, cxOf]
      refine s_varI c12 (i := 0) rfl ?_
      obtain ⟨zs15, q13, hm14, b13, it13⟩ := x_rngR (F := F11) s hm4
      replace it13 := it_rng1 it13
      refine ⟨_, rfl, b13.2.2.1, b13.2.2.2, ?_⟩
      refine s_forP (vs := [5]) (nx := fun st16 => [.val (D.int width), .val ((eL (eT (eP D.int D.int))) rows), .own (List.map (eL (eP D.int D.int)) st16.1), .un, .val ((eL (eL (eP D.int D.int))) st16.2), .un, .un, .un, .un, .un]) (ss' := fun z16 st16 => [.val (D.int width), .val ((eL (eT (eP D.int D.int))) rows), .own (List.map (eL (eP D.int D.int)) st16.1), .un, .val ((eL (eL (eP D.int D.int))) st16.2), .val (D.int z16), .un, .un, .un, .un]) (s0 := (bs4, ([] : List (List (Int × Int))))) s hm14 c12 it13 (.inl (by decide)) (tg_name (by decide)) (fun _ _ => rfl) (fun z16 st16 F16 H16 σ P16 N16 s16 h16 zm16 e16 c16 kn16 => ?_) (fun st16 F16 H16 σ hm16 e16 c16 => ?_)
      ·
        refine w_seq ?_
        try try dsimp only [tAsg, tRet, tRetN, tOp, tUn, tTest, tB, tCons, tNil, tCB, tC, tNext, tCallS, tDrop, tNot, tNotV, tSl, tNoPart, tPart, tBM, tBM0, iList, iTup, iStr, iSrc, iRng1, iRng2, iEnumS, iZipS, tBreak, tCont, gSub, tAug, tMth, tMakeS, tM1, tM0, tFld, cxOf]
        refine w_lc ?_
        try dsimp only [tAsg, tRet, tRetN, tOp, tUn, tTest, tB, tCons, tNil, tCB, tC, tNext, tCallS, tDrop, tNot, tNotV, tSl, tNoPart, tPart, tBM, tBM0, iList, iTup, iStr, iSrc, iRng1, iRng2, iEnumS, iZipS, tBreak, tCont, gSub, tAug, tMth, tMakeS, tM1, tM0, tFld, cxOf]
        refine s_varO c16 (i := 2) rfl fun a17 xs17 ha17 hx17 l17 t17 => ?_
        refine n_lenO hx17 t17 ?_
        obtain ⟨zs20, q18, hm19, b18, hl18, it18⟩ := x_rngL (F := F16) s16 h16
        replace it18 := it_rng1 it18
        refine ⟨_, rfl, b18.2.2.1, b18.2.2.2, ?_⟩
        refine s_compF (vs := [7]) (en := D.int) (ss' := fun z21 => [.val (D.int width), .val ((eL (eT (eP D.int D.int))) rows), .rd (List.map (eL (eP D.int D.int)) st16.1), .un, .val ((eL (eL (eP D.int D.int))) st16.2), .val (D.int z16), .un, .val (D.int z21), .un, .un]) s16 hm19 c16 it18 (.inl (by decide)) (tg_name (by decide)) (fun _ => rfl) hl18 (fun B21 z21 F21 H21 σ21 P21 G21 Sk21 hio21 s21 h21 zm21 e21 c21 kd21 ks21 => ?_) (fun v21 bs21 HH21 hm21 q21 => ?_)
        ·
          replace s21 := s21 10 (fun _ _ _ _ => False) (ecl ad)
          try dsimp only [tAsg, tRet, tRetN, tOp, tUn, tTest, tB, tCons, tNil, tCB, tC, tNext, tCallS, tDrop, tNot, tNotV, tSl, tNoPart, tPart, tBM, tBM0, iList, iTup, iStr, iSrc, iRng1, iRng2, iEnumS, iZipS, tBreak, tCont, gSub, tAug, tMth, tMakeS, tM1, tM0, tFld, cxOf]
          refine s_varRd c21 (i := 2) rfl fun a22 xs22 ha22 hx22 l22 t22 => ?_
          refine s_varI c21 (i := 7) rfl ?_
          refine s_ixOv (en := (eL (eP D.int D.int))) s21 h21 hx22 t22 fun x23 v26 q25 hm24 r27 => ?_
          refine s_varI c21 (i := 5) rfl ?_
          refine s_ixLv (en := (eP D.int D.int)) s21 hm24 c21 (show Rep K _ _ ((eL (eP D.int D.int)) x23) from r27) fun x28 v31 q30 hm29 r32 => ?_
          refine s_ixT c21 (show Rep K _ _ ((eP D.int D.int) x28) from r32) (d := D.int x28.1) rfl fun v33 r34 => ?_
          cases r34
          refine s_neI ?_
          refine s_test' ?_
          refine s_ite hm29 (fun _ hm35 => ?_) (fun _ hm36 => ?_)
          ·
            refine s_varI c21 (i := 7) rfl ?_
            exact kd21 _ _ _ _ _ _ hm35 c21 (show Rep K _ _ (D.int z21) from (Rep.int _))
          ·
            exact ks21 _ _ _ _ hm36 c21
        ·
          obtain ⟨F37, e37, c37, r37⟩ := q21
          obtain ⟨F38, e38, c38, r38⟩ := Nw.frz c37 r37
          refine s_set (i := 6) (d := (eL D.int) bs21) (ss' := [.val (D.int width), .val ((eL (eT (eP D.int D.int))) rows), .own (List.map (eL (eP D.int D.int)) st16.1), .un, .val ((eL (eL (eP D.int D.int))) st16.2), .val (D.int z16), .val ((eL D.int) bs21), .un, .un, .un]) c38 (.inl (by decide)) (r38) rfl fun σ c39 => ?_
          refine w_seq ?_
          refine w_ifS ?_
          try dsimp only [tAsg, tRet, tRetN, tOp, tUn, tTest, tB, tCons, tNil, tCB, tC, tNext, tCallS, tDrop, tNot, tNotV, tSl, tNoPart, tPart, tBM, tBM0, iList, iTup, iStr, iSrc, iRng1, iRng2, iEnumS, iZipS, tBreak, tCont, gSub, tAug, tMth, tMakeS, tM1, tM0, tFld, cxOf]
          refine s_var c39 (i := 6) rfl fun v40 r41 => ?_
          refine s_truL c39 (show Rep K _ _ ((eL D.int) bs21) from r41) ?_
          refine s_ite hm21 (fun _ hm42 => ?_) (fun _ hm43 => ?_)
          ·
            try try dsimp only [tAsg, tRet, tRetN, tOp, tUn, tTest, tB, tCons, tNil, tCB, tC, tNext, tCallS, tDrop, tNot, tNotV, tSl, tNoPart, tPart, tBM, tBM0, iList, iTup, iStr, iSrc, iRng1, iRng2, iEnumS, iZipS, tBreak, tCont, gSub, tAug, tMth, tMakeS, tM1, tM0, tFld, cxOf]
            exact kn16 (st16.1, st16.2) _ _ _ hm42 (e37.trans e38) ((c39.drop 6).drop 5)
          ·
            refine w_seq ?_
            try try dsimp only [tAsg, tRet, tRetN, tOp, tUn, tTest, tB, tCons, tNil, tCB, tC, tNext, tCallS, tDrop, tNot, tNotV, tSl, tNoPart, tPart, tBM, tBM0, iList, iTup, iStr, iSrc, iRng1, iRng2, iEnumS, iZipS, tBreak, tCont, gSub, tAug, tMth, tMakeS, tM1, tM0, tFld, cxOf]
            refine s_varO c39 (i := 2) rfl fun a44 xs44 ha44 hx44 l44 t44 => ?_
            refine ⟨s_tyO hx44, ?_⟩
            refine s_var c39 (i := 6) rfl fun v45 r46 => ?_
            refine s_ixLv (en := D.int) s16 hm43 c39 (show Rep K _ _ ((eL D.int) bs21) from r46) fun x47 v50 q49 hm48 r51 => ?_
            cases r51
            refine s_popAt2 (i := 2) (en := (eL (eP D.int D.int))) (ss' := fun ys => [.val (D.int width), .val ((eL (eT (eP D.int D.int))) rows), .own (List.map (eL (eP D.int D.int)) ys), .un, .val ((eL (eL (eP D.int D.int))) st16.2), .val (D.int z16), .val ((eL D.int) bs21), .un, .un, .un]) s16 hm48 c39 ha44 rfl (fun _ => rfl) fun x52 xs53 v55 H55 hm54 c55 r55 => ?_
            refine s_set (i := 8) (d := (eL (eP D.int D.int)) x52) (ss' := [.val (D.int width), .val ((eL (eT (eP D.int D.int))) rows), .own (List.map (eL (eP D.int D.int)) xs53), .un, .val ((eL (eL (eP D.int D.int))) st16.2), .val (D.int z16), .val ((eL D.int) bs21), .un, .val ((eL (eP D.int D.int)) x52), .un]) c55 (.inl (by decide)) (r55) rfl fun σ c56 => ?_
            refine w_seq ?_
            try try dsimp only [tAsg, tRet, tRetN, tOp, tUn, tTest, tB, tCons, tNil, tCB, tC, tNext, tCallS, tDrop, tNot, tNotV, tSl, tNoPart, tPart, tBM, tBM0, iList, iTup, iStr, iSrc, iRng1, iRng2, iEnumS, iZipS, tBreak, tCont, gSub, tAug, tMth, tMakeS, tM1, tM0, tFld, cxOf]
            refine w_lc ?_
            try dsimp only [tAsg, tRet, tRetN, tOp, tUn, tTest, tB, tCons, tNil, tCB, tC, tNext, tCallS, tDrop, tNot, tNotV, tSl, tNoPart, tPart, tBM, tBM0, iList, iTup, iStr, iSrc, iRng1, iRng2, iEnumS, iZipS, tBreak, tCont, gSub, tAug, tMth, tMakeS, tM1, tM0, tFld, cxOf]
            refine s_var c56 (i := 8) rfl fun v57 r58 => ?_
            have sl59 := lenL (show Rep K _ _ ((eL (eP D.int D.int)) x52) from r58)
            obtain ⟨a59, q59, x59, it59⟩ := x_list c56 (show Rep K _ _ ((eL (eP D.int D.int)) x52) from r58)
            refine ⟨a59, q59, x59, ?_⟩
            refine s_compM (vs := [9]) (en := (eP D.int D.int)) (ss' := fun z60 => [.val (D.int width), .val ((eL (eT (eP D.int D.int))) rows), .rd (List.map (eL (eP D.int D.int)) xs53), .un, .val ((eL (eL (eP D.int D.int))) st16.2), .val (D.int z16), .val ((eL D.int) bs21), .un, .val ((eL (eP D.int D.int)) x52), .val ((eP D.int D.int) z60)]) s16 hm54 c56 it59 (.inl (by decide)) (tg_name (by decide)) (fun _ => rfl) sl59 (fun B60 z60 F60 H60 σ60 P60 G60 Sk60 hio60 s60 h60 zm60 e60 c60 kd60 ks60 => ?_) (fun v60 bs60 HH60 hm60 q60 => ?_)
            ·
              replace s60 := s60 10 (fun _ _ _ _ => False) (ecl ad)
              try dsimp only [tAsg, tRet, tRetN, tOp, tUn, tTest, tB, tCons, tNil, tCB, tC, tNext, tCallS, tDrop, tNot, tNotV, tSl, tNoPart, tPart, tBM, tBM0, iList, iTup, iStr, iSrc, iRng1, iRng2, iEnumS, iZipS, tBreak, tCont, gSub, tAug, tMth, tMakeS, tM1, tM0, tFld, cxOf]
              refine s_var c60 (i := 9) rfl fun v61 r62 => ?_
              refine s_var c60 (i := 8) rfl fun v63 r64 => ?_
              refine s_varI c60 (i := 5) rfl ?_
              refine s_ixLv (en := (eP D.int D.int)) s60 h60 c60 (show Rep K _ _ ((eL (eP D.int D.int)) x52) from r64) fun x65 v68 q67 hm66 r69 => ?_
              refine s_call (ps := (fun x : ((Int × Int) × (Int × Int)) => [(eP D.int D.int) x.1, (eP D.int D.int) x.2])) (m := (fun x => m__law_over x.1 x.2)) (x := (z60, x65)) s60 hm66 c60 rfl (Reps.cons (show Rep K _ _ ((eP D.int D.int) z60) from r62) (Reps.cons (show Rep K _ _ ((eP D.int D.int) x65) from r69) Reps.nil)) fun y70 v70 F70 H70 hm70 e70 c70 r70 => ?_
              exact kd60 _ _ _ _ _ _ hm70 c70 (show Rep K _ _ ((eP D.int D.int) y70) from r70)
            ·
              obtain ⟨F71, e71, c71, r71⟩ := q60
              obtain ⟨F72, e72, c72, r72⟩ := Nw.frz c71 r71
              refine s_set (i := 8) (d := (eL (eP D.int D.int)) bs60) (ss' := [.val (D.int width), .val ((eL (eT (eP D.int D.int))) rows), .own (List.map (eL (eP D.int D.int)) xs53), .un, .val ((eL (eL (eP D.int D.int))) st16.2), .val (D.int z16), .val ((eL D.int) bs21), .un, .val ((eL (eP D.int D.int)) bs60), .un]) c72 (.inl (by decide)) (r72) rfl fun σ c73 => ?_
              refine w_seq ?_
              try try dsimp only [tAsg, tRet, tRetN, tOp, tUn, tTest, tB, tCons, tNil, tCB, tC, tNext, tCallS, tDrop, tNot, tNotV, tSl, tNoPart, tPart, tBM, tBM0, iList, iTup, iStr, iSrc, iRng1, iRng2, iEnumS, iZipS, tBreak, tCont, gSub, tAug, tMth, tMakeS, tM1, tM0, tFld, cxOf]
              refine w_lc ?_
              try dsimp only [tAsg, tRet, tRetN, tOp, tUn, tTest, tB, tCons, tNil, tCB, tC, tNext, tCallS, tDrop, tNot, tNotV, tSl, tNoPart, tPart, tBM, tBM0, iList, iTup, iStr, iSrc, iRng1, iRng2, iEnumS, iZipS, tBreak, tCont, gSub, tAug, tMth, tMakeS, tM1, tM0, tFld, cxOf]
              refine s_varO c73 (i := 2) rfl fun a74 xs74 ha74 hx74 l74 t74 => ?_
              obtain ⟨F75, e75, c75⟩ := c73.frz (i := 2) rfl
              replace c75 : Ctx K _ _ _ _ [.val (D.int width), .val ((eL (eT (eP D.int D.int))) rows), .val ((eL (eL (eP D.int D.int))) xs53), .un, .val ((eL (eL (eP D.int D.int))) st16.2), .val (D.int z16), .val ((eL D.int) bs21), .un, .val ((eL (eP D.int D.int)) bs60), .un] := c75
              obtain ⟨v76, hv75, r77⟩ := c75.val (i := 2) rfl
              cases ha74.symm.trans hv75
              have sl78 := lenL (show Rep K _ _ ((eL (eL (eP D.int D.int))) xs53) from r77)
              obtain ⟨a78, q78, x78, it78⟩ := x_list c75 (show Rep K _ _ ((eL (eL (eP D.int D.int))) xs53) from r77)
              refine ⟨a78, q78, x78, ?_⟩
              refine s_compM (vs := [3]) (en := (eL (eP D.int D.int))) (ss' := fun z79 => [.val (D.int width), .val ((eL (eT (eP D.int D.int))) rows), .val ((eL (eL (eP D.int D.int))) xs53), .val ((eL (eP D.int D.int)) z79), .val ((eL (eL (eP D.int D.int))) st16.2), .val (D.int z16), .val ((eL D.int) bs21), .un, .val ((eL (eP D.int D.int)) bs60), .un]) s16 hm60 c75 it78 (.inl (by decide)) (tg_name (by decide)) (fun _ => rfl) sl78 (fun B79 z79 F79 H79 σ79 P79 G79 Sk79 hio79 s79 h79 zm79 e79 c79 kd79 ks79 => ?_) (fun v79 bs79 HH79 hm79 q79 => ?_)
              ·
                replace s79 := s79 10 (fun _ _ _ _ => False) (ecl ad)
                try dsimp only [tAsg, tRet, tRetN, tOp, tUn, tTest, tB, tCons, tNil, tCB, tC, tNext, tCallS, tDrop, tNot, tNotV, tSl, tNoPart, tPart, tBM, tBM0, iList, iTup, iStr, iSrc, iRng1, iRng2, iEnumS, iZipS, tBreak, tCont, gSub, tAug, tMth, tMakeS, tM1, tM0, tFld, cxOf]
                refine s_var c79 (i := 3) rfl fun v80 r81 => ?_
                refine s_var c79 (i := 8) rfl fun v82 r83 => ?_
                refine s_varI c79 (i := 5) rfl ?_
                refine s_call (ps := (fun x : ((List (Int × Int)) × (List (Int × Int)) × Int) => [(eL (eP D.int D.int)) x.1, (eL (eP D.int D.int)) x.2.1, D.int x.2.2])) (m := (fun x => m__law_taken x.1 x.2.1 x.2.2)) (x := (z79, bs60, z16)) s79 h79 c79 rfl (Reps.cons (show Rep K _ _ ((eL (eP D.int D.int)) z79) from r81) (Reps.cons (show Rep K _ _ ((eL (eP D.int D.int)) bs60) from r83) (Reps.cons (show Rep K _ _ (D.int z16) from (Rep.int _)) Reps.nil))) fun y84 v84 F84 H84 hm84 e84 c84 r84 => ?_
                exact kd79 _ _ _ _ _ _ hm84 c84 (show Rep K _ _ ((eL (eP D.int D.int)) y84) from r84)
              ·
                obtain ⟨F85, e85, c85, r85⟩ := q79
                refine s_setO (i := 2) (ss' := [.val (D.int width), .val ((eL (eT (eP D.int D.int))) rows), .own (List.map (eL (eP D.int D.int)) bs79), .un, .val ((eL (eL (eP D.int D.int))) st16.2), .val (D.int z16), .val ((eL D.int) bs21), .un, .val ((eL (eP D.int D.int)) bs60), .un]) c85 (.inl (by decide)) r85 rfl fun σ c86 => ?_
                try try dsimp only [tAsg, tRet, tRetN, tOp, tUn, tTest, tB, tCons, tNil, tCB, tC, tNext, tCallS, tDrop, tNot, tNotV, tSl, tNoPart, tPart, tBM, tBM0, iList, iTup, iStr, iSrc, iRng1, iRng2, iEnumS, iZipS, tBreak, tCont, gSub, tAug, tMth, tMakeS, tM1, tM0, tFld, cxOf]
                refine w_lc ?_
                try dsimp only [tAsg, tRet, tRetN, tOp, tUn, tTest, tB, tCons, tNil, tCB, tC, tNext, tCallS, tDrop, tNot, tNotV, tSl, tNoPart, tPart, tBM, tBM0, iList, iTup, iStr, iSrc, iRng1, iRng2, iEnumS, iZipS, tBreak, tCont, gSub, tAug, tMth, tMakeS, tM1, tM0, tFld, cxOf]
                refine s_var c86 (i := 4) rfl fun v87 r88 => ?_
                have sl89 := lenL (show Rep K _ _ ((eL (eL (eP D.int D.int))) st16.2) from r88)
                obtain ⟨a89, q89, x89, it89⟩ := x_list c86 (show Rep K _ _ ((eL (eL (eP D.int D.int))) st16.2) from r88)
                refine ⟨a89, q89, x89, ?_⟩
                refine s_compM (vs := [3]) (en := (eL (eP D.int D.int))) (ss' := fun z90 => [.val (D.int width), .val ((eL (eT (eP D.int D.int))) rows), .rd (List.map (eL (eP D.int D.int)) bs79), .val ((eL (eP D.int D.int)) z90), .val ((eL (eL (eP D.int D.int))) st16.2), .val (D.int z16), .val ((eL D.int) bs21), .un, .val ((eL (eP D.int D.int)) bs60), .un]) s16 hm79 c86 it89 (.inl (by decide)) (tg_name (by decide)) (fun _ => rfl) sl89 (fun B90 z90 F90 H90 σ90 P90 G90 Sk90 hio90 s90 h90 zm90 e90 c90 kd90 ks90 => ?_) (fun v90 bs90 HH90 hm90 q90 => ?_)
                ·
                  replace s90 := s90 10 (fun _ _ _ _ => False) (ecl ad)
                  try dsimp only [tAsg, tRet, tRetN, tOp, tUn, tTest, tB, tCons, tNil, tCB, tC, tNext, tCallS, tDrop, tNot, tNotV, tSl, tNoPart, tPart, tBM, tBM0, iList, iTup, iStr, iSrc, iRng1, iRng2, iEnumS, iZipS, tBreak, tCont, gSub, tAug, tMth, tMakeS, tM1, tM0, tFld, cxOf]
                  refine s_var c90 (i := 3) rfl fun v91 r92 => ?_
                  refine s_var c90 (i := 8) rfl fun v93 r94 => ?_
                  refine s_varI c90 (i := 5) rfl ?_
                  refine s_call (ps := (fun x : ((List (Int × Int)) × (List (Int × Int)) × Int) => [(eL (eP D.int D.int)) x.1, (eL (eP D.int D.int)) x.2.1, D.int x.2.2])) (m := (fun x => m__law_taken x.1 x.2.1 x.2.2)) (x := (z90, bs60, z16)) s90 h90 c90 rfl (Reps.cons (show Rep K _ _ ((eL (eP D.int D.int)) z90) from r92) (Reps.cons (show Rep K _ _ ((eL (eP D.int D.int)) bs60) from r94) (Reps.cons (show Rep K _ _ (D.int z16) from (Rep.int _)) Reps.nil))) fun y95 v95 F95 H95 hm95 e95 c95 r95 => ?_
                  exact kd90 _ _ _ _ _ _ hm95 c95 (show Rep K _ _ ((eL (eP D.int D.int)) y95) from r95)
                ·
                  obtain ⟨F96, e96, c96, r96⟩ := q90
                  obtain ⟨F97, e97, c97, r97⟩ := Nw.frz c96 r96
                  refine w_lst ?_
                  try dsimp only [tAsg, tRet, tRetN, tOp, tUn, tTest, tB, tCons, tNil, tCB, tC, tNext, tCallS, tDrop, tNot, tNotV, tSl, tNoPart, tPart, tBM, tBM0, iList, iTup, iStr, iSrc, iRng1, iRng2, iEnumS, iZipS, tBreak, tCont, gSub, tAug, tMth, tMakeS, tM1, tM0, tFld, cxOf]
                  refine s_var c97 (i := 8) rfl fun v98 r99 => ?_
                  refine n_lst c97 (Reps.cons r99 Reps.nil) (by show (1 : Nat) ≤ sizeLine; decide) fun v100 F100 H100 e100 c100 r100 => ?_
                  refine s_catL s16 hm90 c100 (show Rep K _ _ ((eL (eL (eP D.int D.int))) bs90) from (r97.mono e100)) (show Rep K _ _ ((eL (eL (eP D.int D.int))) [bs60]) from r100) fun x101 v103 H103 hm102 c103 r103 => ?_
                  obtain ⟨F104, e104, c104, r104⟩ := Nw.frz c103 r103
                  refine s_set (i := 4) (d := (eL (eL (eP D.int D.int))) x101) (ss' := [.val (D.int width), .val ((eL (eT (eP D.int D.int))) rows), .own (List.map (eL (eP D.int D.int)) bs79), .un, .val ((eL (eL (eP D.int D.int))) x101), .val (D.int z16), .val ((eL D.int) bs21), .un, .val ((eL (eP D.int D.int)) bs60), .un]) c104 (.inl (by decide)) (r104) rfl fun σ c105 => ?_
                  exact kn16 (bs79, x101) _ _ _ hm102 (e37.trans (e38.trans (e71.trans (e72.trans (e75.trans (e85.trans (e96.trans (e97.trans (e100.trans e104))))))))) (((c105.drop 6).drop 8).drop 5)
      ·
        have c106 := c16
        try try dsimp only [tAsg, tRet, tRetN, tOp, tUn, tTest, tB, tCons, tNil, tCB, tC, tNext, tCallS, tDrop, tNot, tNotV, tSl, tNoPart, tPart, tBM, tBM0, iList, iTup, iStr, iSrc, iRng1, iRng2, iEnumS, iZipS, tBreak, tCont, gSub, tAug, tMth, tMakeS, tM1, tM0, tFld, cxOf]
        refine w_lc ?_
        try dsimp only [tAsg, tRet, tRetN, tOp, tUn, tTest, tB, tCons, tNil, tCB, tC, tNext, tCallS, tDrop, tNot, tNotV, tSl, tNoPart, tPart, tBM, tBM0, iList, iTup, iStr, iSrc, iRng1, iRng2, iEnumS, iZipS, tBreak, tCont, gSub, tAug, tMth, tMakeS, tM1, tM0, tFld, cxOf]
        refine s_var c106 (i := 4) rfl fun v107 r108 => ?_
        have sl109 := lenL (show Rep K _ _ ((eL (eL (eP D.int D.int))) st16.2) from r108)
        obtain ⟨a109, q109, x109, it109⟩ := x_list c106 (show Rep K _ _ ((eL (eL (eP D.int D.int))) st16.2) from r108)
        refine ⟨a109, q109, x109, ?_⟩
        refine s_compM (vs := [3]) (en := (eT (eP D.int D.int))) (ss' := fun z110 => [.val (D.int width), .val ((eL (eT (eP D.int D.int))) rows), .rd (List.map (eL (eP D.int D.int)) st16.1), .val ((eL (eP D.int D.int)) z110), .val ((eL (eL (eP D.int D.int))) st16.2), .un, .un, .un, .un, .un]) s hm16 c106 it109 (.inl (by decide)) (tg_name (by decide)) (fun _ => rfl) sl109 (fun B110 z110 F110 H110 σ110 P110 G110 Sk110 hio110 s110 h110 zm110 e110 c110 kd110 ks110 => ?_) (fun v110 bs110 HH110 hm110 q110 => ?_)
        ·
          replace s110 := s110 10 (fun _ _ _ _ => False) (ecl ad)
          try dsimp only [tAsg, tRet, tRetN, tOp, tUn, tTest, tB, tCons, tNil, tCB, tC, tNext, tCallS, tDrop, tNot, tNotV, tSl, tNoPart, tPart, tBM, tBM0, iList, iTup, iStr, iSrc, iRng1, iRng2, iEnumS, iZipS, tBreak, tCont, gSub, tAug, tMth, tMakeS, tM1, tM0, tFld, cxOf]
          refine s_var c110 (i := 3) rfl fun v111 r112 => ?_
          refine n_tupL c110 (show Rep K _ _ ((eL (eP D.int D.int)) z110) from r112) fun v113 F113 H113 e113 c113 r113 => ?_
          exact kd110 _ _ _ _ _ _ h110 c113 (show Rep K _ _ ((eT (eP D.int D.int)) z110) from r113)
        ·
          obtain ⟨F114, e114, c114, r114⟩ := q110
          obtain ⟨F115, e115, c115, r115⟩ := Nw.frz c114 r114
          exact Fin.ret (d := (eL (eT (eP D.int D.int))) bs110) hm110 c115 (r115) rfl (.inl rfl)
@[irreducible] def m__law_wanted (draws : (List Int)) (width : Int) (rows : (List (List (Int × Int)))) : Res ((List (Int × Int)) × List Int) :=
  (rngL 0 width).bind fun zs3 =>
  (mapS (fun z4 gs4 =>
    (m__law_fraction gs4).bind fun y6 =>
  Res.ok (y6.1, y6.2)) zs3 draws).bind2 fun bs4 gq4 =>
  (mapR (fun z13 =>
    (m__law_dot z13 bs4).bind fun y18 =>
  Res.ok y18) rows).bind fun bs13 =>
  (m__law_next gq4).bind fun y22 =>
  (if ((decide ((y22.1 % (4 : Int)) = (1 : Int))) && (!List.isEmpty rows)) = true then
    (m__law_next y22.2).bind fun y32 =>
  (modR y32.1 (rows.length : Int)).bind fun x35 =>
  (ix bs13 x35).bind fun x40 =>
  (m__law_next y32.2).bind fun y46 =>
  (m__law_plus x40 ((1 : Int), ((1 : Int) + (y46.1 % (3 : Int))))).bind fun y48 =>
  (setR bs13 x35 y48).bind fun x50 =>
  Res.ok (y46.2, x50)
  else
    if (decide ((y22.1 % (4 : Int)) = (2 : Int))) = true then
    (mapS (fun z58 gs58 =>
    (m__law_fraction gs58).bind fun y60 =>
  Res.ok (y60.1, y60.2)) rows y22.2).bind2 fun bs58 gq58 =>
  Res.ok (gq58, bs58)
  else
    Res.ok (y22.2, bs13)).bind fun st24 =>
  Res.ok (st24.2, st24.1)
abbrev sp__law_wanted (K : PySem.W.Frag) (ad : Nat → Addr) : Sp := SpI (π := ((List Int) × Int × (List (List (Int × Int))))) K (ecl ad) (fun x => List.map D.int x.1) (fun x => [D.int x.2.1, (eL (eT (eP D.int D.int))) x.2.2]) (fun x => m__law_wanted x.1 x.2.1 x.2.2) (fun y => .val ((eT (eP D.int D.int)) y.1)) (fun y => List.map D.int y.2)
theorem ok__law_wanted (T : Txt K w mg ad fd) : Cm P w K mg base 5 (ad 49) (fd 49) ["draws", "width", "rows"] (sp__law_wanted K ad) := by
  refine ⟨T.f__law_wanted.okG sc__law_wanted (fun vs H Q E h => ?_) (fun cdv A outer sh H0 vs Q E gd hr h => ?_), T.f__law_wanted.binds (ps := ["draws", "width", "rows"]) fun _ _ _ _ _ _ us hl => match us, hl with | [_, _, _], _ => rfl⟩
  · obtain ⟨F, x, l, us, rfl, _, _, r, _⟩ := h
    exact congrArg (· + 1) r.length
  · obtain ⟨F0, ⟨draws, width, rows⟩, l0, us, rfl, fh0, o0, r0, hm⟩ := h
    have hu := hr.units
    have r0 : Reps K F0 us [D.int width, (eL (eT (eP D.int D.int))) rows] := r0
    have o0 : Own K F0 H0 l0 (List.map D.int draws) := o0
    have c0 : Ctx K ⟨F0, H0, some l0⟩ F0 H0 (start ["draws", "width", "rows", "x", "j", "wanted", "row", "kind", "at"] (.ref l0 :: us)) [.io (List.map D.int draws), .val (D.int width), .val ((eL (eT (eP D.int D.int))) rows), .un, .un, .un, .un, .un, .un] := ctx_startIO fh0 o0 r0 rfl (by show (3 : Nat) ≤ 9; decide)
    have s := Fin.sct (K := K) (B := ⟨F0, H0, some l0⟩) (n := 9) (cl := ecl ad) (rt := fun y => .val ((eT (eP D.int D.int)) y.1)) (out := fun y : ((List (Int × Int)) × List Int) => List.map D.int y.2) (Q := Q) (E := E)
    refine ⟨_, (pss_cons (ps_set (i := 3) sc__law_wanted.nd rfl (by first | exact Or.inl rfl | exact Or.inr rfl) (pe_lc (own := [("j", 4)]) rfl sc__law_wanted.nd (pi_range1 rfl T.m_range (pa_cons (pv 1) pa_nil)) (blkOk_by (N := ["draws", "width", "rows", "x", "j", "wanted", "row", "kind", "at"]) (sc := defScope s__law_wanted) (by decide +kernel)) (fun _ _ _ _ _ => (pg_name (i := 4) sc__law_wanted.nd rfl (by first | exact Or.inl rfl | exact Or.inr rfl))) (fun _ _ _ _ _ => pts_nil) (fun _ _ _ _ _ => (pe_cm (ok__law_fraction T (P := P) (w := w) (base := base)) gd (hr.mono (by decide)) T.g__law_fraction T.f__law_fraction.kp takes0N (pa_cons (pv 0) pa_nil)))))
    (pss_cons (ps_setLc (i := 5) (own := [("row", 6)]) rfl sc__law_wanted.nd rfl rfl (sw_true rfl rfl rfl (by decide +kernel)) (pi_listK (K := K) (pv 2)) (blkOk_by (N := ["draws", "width", "rows", "x", "j", "wanted", "row", "kind", "at"]) (sc := defScope s__law_wanted) (by decide +kernel)) (fun _ _ _ _ _ => (pg_name (i := 6) sc__law_wanted.nd rfl (by first | exact Or.inl rfl | exact Or.inr rfl))) (fun _ _ _ _ _ => pts_nil) (fun _ _ _ _ _ => (pe_cm (ok__law_dot__v2 T (P := P) (w := w) (base := base)) gd (hr.mono (by decide)) T.g__law_dot T.f__law_dot.kp takes0N (pa_cons (pv 6) (pa_cons (pv 3) pa_nil)))))
    (pss_cons (ps_set (i := 7) sc__law_wanted.nd rfl (by first | exact Or.inl rfl | exact Or.inr rfl) (pe_op op_mod (pe_callTy (T := "int") c_int (by rfl) T.m_int (by decide +kernel) (pa_cons (pe_cm (ok__law_next T (P := P) (w := w) (base := base)) gd (hr.mono (by decide)) T.g__law_next T.f__law_next.kp (L2N.takes_of rfl rfl rfl rfl) (pa_cons (pv 0) pa_nil)) pa_nil)) pe_int))
    (pss_cons (ps_if (L2.PW.pt (pw_and (pt_cmpR op_eq (pv 7) pe_int (nomark _)) (pw_and1 (pt_truth (pv 2) (fun _ => rfl))))) (pss_cons (ps_set (i := 8) sc__law_wanted.nd rfl (by first | exact Or.inl rfl | exact Or.inr rfl) (pe_op op_mod (pe_callTy (T := "int") c_int (by rfl) T.m_int (by decide +kernel) (pa_cons (pe_cm (ok__law_next T (P := P) (w := w) (base := base)) gd (hr.mono (by decide)) T.g__law_next T.f__law_next.kp (L2N.takes_of rfl rfl rfl rfl) (pa_cons (pv 0) pa_nil)) pa_nil)) (pe_callB (c_len (K := K)) (by rfl) T.m_len PySem.boot_len (pa_cons (pv 2) pa_nil))))
    (pss_one (ps_asg (pe_cm (ok__law_plus T (P := P) (w := w) (base := base)) gd (hr.mono (by decide)) T.g__law_plus T.f__law_plus.kp (L2N.takes_of rfl rfl rfl rfl) (pa_cons (pe_ix (ix_listK (K := K)) (pv 5) (pv 8) (fun _ _ => rfl)) (pa_cons (pe_tup (pa_cons pe_int (pa_cons (pe_op op_add pe_int (pe_op op_mod (pe_callTy (T := "int") c_int (by rfl) T.m_int (by decide +kernel) (pa_cons (pe_cm (ok__law_next T (P := P) (w := w) (base := base)) gd (hr.mono (by decide)) T.g__law_next T.f__law_next.kp (L2N.takes_of rfl rfl rfl rfl) (pa_cons (pv 0) pa_nil)) pa_nil)) pe_int)) pa_nil))) pa_nil))) (pg_sub (pv 5) (pv 8) set_list)))) (pss_one (ps_if (pt_cmpR op_eq (pv 7) pe_int (nomark _)) (pss_one (ps_setLc (i := 5) (own := [("row", 6)]) rfl sc__law_wanted.nd rfl rfl (sw_true rfl rfl rfl (by decide +kernel)) (pi_listK (K := K) (pv 2)) (blkOk_by (N := ["draws", "width", "rows", "x", "j", "wanted", "row", "kind", "at"]) (sc := defScope s__law_wanted) (by decide +kernel)) (fun _ _ _ _ _ => (pg_name (i := 6) sc__law_wanted.nd rfl (by first | exact Or.inl rfl | exact Or.inr rfl))) (fun _ _ _ _ _ => pts_nil) (fun _ _ _ _ _ => (pe_cm (ok__law_fraction T (P := P) (w := w) (base := base)) gd (hr.mono (by decide)) T.g__law_fraction T.f__law_fraction.kp takes0N (pa_cons (pv 0) pa_nil))))) pss_nil)))
    (pss_one (ps_ret (pe_callTy (T := "tuple") (c_tuple (K := K)) (by rfl) T.m_tuple (by decide +kernel) (pa_cons (pv 5) pa_nil)))))))), ?_⟩
    generalize start _ _ = σ at c0 ⊢
    try dsimp only [tAsg, tRet, tRetN, tOp, tUn, tTest, tB, tCons, tNil, tCB, tC, tNext, tCallS, tDrop, tNot, tNotV, tSl, tNoPart, tPart, tBM, tBM0, iList, iTup, iStr, iSrc, iRng1, iRng2, iEnumS, iZipS, tBreak, tCont, gSub, tAug, tMth, tMakeS, tM1, tM0, tFld, cxOf]
    try dsimp only at hm
    unfold m__law_wanted at hm
    refine w_seq ?_
    try try dsimp only [tAsg, tRet, tRetN, tOp, tUn, tTest, tB, tCons, tNil, tCB, tC, tNext, tCallS, tDrop, tNot, tNotV, tSl, tNoPart, tPart, tBM, tBM0, iList, iTup, iStr, iSrc, iRng1, iRng2, iEnumS, iZipS, tBreak, tCont, gSub, tAug, tMth, tMakeS, tM1, tM0, tFld, cxOf]
    refine w_lc ?_
    try dsimp only [tAsg, tRet, tRetN, tOp, tUn, tTest, tB, tCons, tNil, tCB, tC, tNext, tCallS, tDrop, tNot, tNotV, tSl, tNoPart, tPart, tBM, tBM0, iList, iTup, iStr, iSrc, iRng1, iRng2, iEnumS, iZipS, tBreak, tCont, gSub, tAug, tMth, tMakeS, tM1, tM0, tFld, cxOf]
    refine s_varI c0 (i := 1) rfl ?_
    obtain ⟨zs3, q1, hm2, b1, hl1, it1⟩ := x_rngL (F := F0) s hm
    replace it1 := it_rng1 it1
    refine ⟨_, rfl, b1.2.2.1, b1.2.2.2, ?_⟩
    refine s_compS2 (l := l0) (vs := [4]) (en := (eP D.int D.int)) (eg := D.int) (ss' := fun z4 gs4 => [.io (List.map D.int gs4), .val (D.int width), .val ((eL (eT (eP D.int D.int))) rows), .un, .val (D.int z4), .un, .un, .un, .un]) s hm2 c0 rfl rfl it1 (by decide) (tg_name (by decide)) (fun _ _ => rfl) hl1 (fun B4 z4 gs4 F4 H4 σ4 P4 G4 hio4 s4 h4 zm4 e4 c4 kd4 => ?_) (fun v4 bs4 gq4 HH4 hm4 q4 => ?_)
    ·
      replace s4 := s4 9 (fun _ _ _ _ => False) (ecl ad)
      try dsimp only [tAsg, tRet, tRetN, tOp, tUn, tTest, tB, tCons, tNil, tCB, tC, tNext, tCallS, tDrop, tNot, tNotV, tSl, tNoPart, tPart, tBM, tBM0, iList, iTup, iStr, iSrc, iRng1, iRng2, iEnumS, iZipS, tBreak, tCont, gSub, tAug, tMth, tMakeS, tM1, tM0, tFld, cxOf]
      refine s_varIO c4 (i := 0) rfl fun a5 xs5 ha5 hx5 l5 t5 => ?_
      refine s_callI (ps := (fun x : (List Int) => [])) (m := (fun x => m__law_fraction x)) (x := (gs4)) (i := 0) s4 h4 c4 rfl ha5 rfl Reps.nil fun y6 v6 F6 H6 hm6 e6 c6 r6 => ?_
      replace c6 : Ctx K _ _ _ _ [.io (List.map D.int y6.2), .val (D.int width), .val ((eL (eT (eP D.int D.int))) rows), .un, .val (D.int z4), .un, .un, .un, .un] := c6
      exact kd4 _ _ _ _ _ _ _ hm6 c6 rfl (show Rep K _ _ ((eP D.int D.int) y6.1) from r6)
    ·
      obtain ⟨F7, e7, c7, r7⟩ := q4
      replace c7 : Ctx K _ _ _ _ [.io (List.map D.int gq4), .val (D.int width), .val ((eL (eT (eP D.int D.int))) rows), .un, .un, .un, .un, .un, .un] := c7
      replace r7 : Nw K _ _ [.io (List.map D.int gq4), .val (D.int width), .val ((eL (eT (eP D.int D.int))) rows), .un, .un, .un, .un, .un, .un] _ _ _ _ := r7
      obtain ⟨F8, e8, c8, r8⟩ := Nw.frz c7 r7
      refine s_set (i := 3) (d := (eL (eP D.int D.int)) bs4) (ss' := [.io (List.map D.int gq4), .val (D.int width), .val ((eL (eT (eP D.int D.int))) rows), .val ((eL (eP D.int D.int)) bs4), .un, .un, .un, .un, .un]) c8 (.inl (by decide)) (r8) rfl fun σ c9 => ?_
      refine w_seq ?_
      try try dsimp only [tAsg, tRet, tRetN, tOp, tUn, tTest, tB, tCons, tNil, tCB, tC, tNext, tCallS, tDrop, tNot, tNotV, tSl, tNoPart, tPart, tBM, tBM0, iList, iTup, iStr, iSrc, iRng1, iRng2, iEnumS, iZipS, tBreak, tCont, gSub, tAug, tMth, tMakeS, tM1, tM0, tFld, cxOf]
      refine w_lc ?_
      try dsimp only [tAsg, tRet, tRetN, tOp, tUn, tTest, tB, tCons, tNil, tCB, tC, tNext, tCallS, tDrop, tNot, tNotV, tSl, tNoPart, tPart, tBM, tBM0, iList, iTup, iStr, iSrc, iRng1, iRng2, iEnumS, iZipS, tBreak, tCont, gSub, tAug, tMth, tMakeS, tM1, tM0, tFld, cxOf]
      refine s_var c9 (i := 2) rfl fun v10 r11 => ?_
      have sl12 := lenL (show Rep K _ _ ((eL (eT (eP D.int D.int))) rows) from r11)
      obtain ⟨a12, q12, x12, it12⟩ := x_list c9 (show Rep K _ _ ((eL (eT (eP D.int D.int))) rows) from r11)
      refine ⟨a12, q12, x12, ?_⟩
      refine s_compM (vs := [6]) (en := (eP D.int D.int)) (ss' := fun z13 => [.rd (List.map D.int gq4), .val (D.int width), .val ((eL (eT (eP D.int D.int))) rows), .val ((eL (eP D.int D.int)) bs4), .un, .un, .val ((eT (eP D.int D.int)) z13), .un, .un]) s hm4 c9 it12 (.inl (by decide)) (tg_name (by decide)) (fun _ => rfl) sl12 (fun B13 z13 F13 H13 σ13 P13 G13 Sk13 hio13 s13 h13 zm13 e13 c13 kd13 ks13 => ?_) (fun v13 bs13 HH13 hm13 q13 => ?_)
      ·
        replace s13 := s13 9 (fun _ _ _ _ => False) (ecl ad)
        try dsimp only [tAsg, tRet, tRetN, tOp, tUn, tTest, tB, tCons, tNil, tCB, tC, tNext, tCallS, tDrop, tNot, tNotV, tSl, tNoPart, tPart, tBM, tBM0, iList, iTup, iStr, iSrc, iRng1, iRng2, iEnumS, iZipS, tBreak, tCont, gSub, tAug, tMth, tMakeS, tM1, tM0, tFld, cxOf]
        refine s_var c13 (i := 6) rfl fun v14 r15 => ?_
        refine s_var c13 (i := 3) rfl fun v16 r17 => ?_
        refine s_call (ps := (fun x : ((List (Int × Int)) × (List (Int × Int))) => [(eT (eP D.int D.int)) x.1, (eL (eP D.int D.int)) x.2])) (m := (fun x => m__law_dot x.1 x.2)) (x := (z13, bs4)) s13 h13 c13 rfl (Reps.cons (show Rep K _ _ ((eT (eP D.int D.int)) z13) from r15) (Reps.cons (show Rep K _ _ ((eL (eP D.int D.int)) bs4) from r17) Reps.nil)) fun y18 v18 F18 H18 hm18 e18 c18 r18 => ?_
        exact kd13 _ _ _ _ _ _ hm18 c18 (show Rep K _ _ ((eP D.int D.int) y18) from r18)
      ·
        obtain ⟨F19, e19, c19, r19⟩ := q13
        refine s_setO (i := 5) (ss' := [.io (List.map D.int gq4), .val (D.int width), .val ((eL (eT (eP D.int D.int))) rows), .val ((eL (eP D.int D.int)) bs4), .un, .own (List.map (eP D.int D.int) bs13), .un, .un, .un]) c19 (.inl (by decide)) r19 rfl fun σ c20 => ?_
        refine w_seq ?_
        try try dsimp only [tAsg, tRet, tRetN, tOp, tUn, tTest, tB, tCons, tNil, tCB, tC, tNext, tCallS, tDrop, tNot, tNotV, tSl, tNoPart, tPart, tBM, tBM0, iList, iTup, iStr, iSrc, iRng1, iRng2, iEnumS, iZipS, tBreak, tCont, gSub, tAug, tMth, tMakeS, tM1, tM0, tFld, cxOf]
        refine s_varIO c20 (i := 0) rfl fun a21 xs21 ha21 hx21 l21 t21 => ?_
        refine s_callI (ps := (fun x : (List Int) => [])) (m := (fun x => m__law_next x)) (x := (gq4)) (i := 0) s hm13 c20 rfl ha21 rfl Reps.nil fun y22 v22 F22 H22 hm22 e22 c22 r22 => ?_
        replace c22 : Ctx K _ _ _ _ [.io (List.map D.int y22.2), .val (D.int width), .val ((eL (eT (eP D.int D.int))) rows), .val ((eL (eP D.int D.int)) bs4), .un, .own (List.map (eP D.int D.int) bs13), .un, .un, .un] := c22
        cases (show Rep K _ _ (D.int y22.1) from r22)
        refine n_intI ?_
        refine s_iC (by decide) ?_
        refine s_set (i := 7) (d := D.int (y22.1 % (4 : Int))) (ss' := [.io (List.map D.int y22.2), .val (D.int width), .val ((eL (eT (eP D.int D.int))) rows), .val ((eL (eP D.int D.int)) bs4), .un, .own (List.map (eP D.int D.int) bs13), .un, .val (D.int (y22.1 % (4 : Int))), .un]) c22 (.inl (by decide)) ((Rep.int _)) rfl fun σ c23 => ?_
        refine s_cutS (F := F22) (nx := fun st24 => [.io (List.map D.int st24.1), .val (D.int width), .val ((eL (eT (eP D.int D.int))) rows), .val ((eL (eP D.int D.int)) bs4), .un, .own (List.map (eP D.int D.int) st24.2), .un, .val (D.int (y22.1 % (4 : Int))), .un]) s hm22 (fun st24 F24 H24 σ hm24 e24 c24 => ?_) (fun P24 N24 s24 h24 kn24 => ?_)
        ·
          try try dsimp only [tAsg, tRet, tRetN, tOp, tUn, tTest, tB, tCons, tNil, tCB, tC, tNext, tCallS, tDrop, tNot, tNotV, tSl, tNoPart, tPart, tBM, tBM0, iList, iTup, iStr, iSrc, iRng1, iRng2, iEnumS, iZipS, tBreak, tCont, gSub, tAug, tMth, tMakeS, tM1, tM0, tFld, cxOf]
          refine s_varO c24 (i := 5) rfl fun a25 xs25 ha25 hx25 l25 t25 => ?_
          refine n_tupO c24 hx25 l25 t25 fun v26 F26 H26 e26 c26 r26 => ?_
          exact Fin.ret (d := (eT (eP D.int D.int)) st24.2) hm24 c26 (r26) rfl (.inr rfl)
        ·
          refine w_ifS ?_
          try dsimp only [tAsg, tRet, tRetN, tOp, tUn, tTest, tB, tCons, tNil, tCB, tC, tNext, tCallS, tDrop, tNot, tNotV, tSl, tNoPart, tPart, tBM, tBM0, iList, iTup, iStr, iSrc, iRng1, iRng2, iEnumS, iZipS, tBreak, tCont, gSub, tAug, tMth, tMakeS, tM1, tM0, tFld, cxOf]
          refine s_andP (x := (decide ((y22.1 % (4 : Int)) = (1 : Int)))) (y := (!List.isEmpty rows)) (fun R' hR => ?_) (fun R' hR => ?_) ?_
          ·
            try dsimp only [tAsg, tRet, tRetN, tOp, tUn, tTest, tB, tCons, tNil, tCB, tC, tNext, tCallS, tDrop, tNot, tNotV, tSl, tNoPart, tPart, tBM, tBM0, iList, iTup, iStr, iSrc, iRng1, iRng2, iEnumS, iZipS, tBreak, tCont, gSub, tAug, tMth, tMakeS, tM1, tM0, tFld, cxOf]
            refine s_varI c23 (i := 7) rfl ?_
            refine s_eqI ?_
            refine s_test' ?_
            exact hR
          ·
            try dsimp only [tAsg, tRet, tRetN, tOp, tUn, tTest, tB, tCons, tNil, tCB, tC, tNext, tCallS, tDrop, tNot, tNotV, tSl, tNoPart, tPart, tBM, tBM0, iList, iTup, iStr, iSrc, iRng1, iRng2, iEnumS, iZipS, tBreak, tCont, gSub, tAug, tMth, tMakeS, tM1, tM0, tFld, cxOf]
            refine s_var c23 (i := 2) rfl fun v27 r28 => ?_
            refine s_truL c23 (show Rep K _ _ ((eL (eT (eP D.int D.int))) rows) from r28) ?_
            exact hR
          refine s_ite h24 (fun _ hm29 => ?_) (fun _ hm30 => ?_)
          ·
            refine w_seq ?_
            try try dsimp only [tAsg, tRet, tRetN, tOp, tUn, tTest, tB, tCons, tNil, tCB, tC, tNext, tCallS, tDrop, tNot, tNotV, tSl, tNoPart, tPart, tBM, tBM0, iList, iTup, iStr, iSrc, iRng1, iRng2, iEnumS, iZipS, tBreak, tCont, gSub, tAug, tMth, tMakeS, tM1, tM0, tFld, cxOf]
            refine s_varIO c23 (i := 0) rfl fun a31 xs31 ha31 hx31 l31 t31 => ?_
            refine s_callI (ps := (fun x : (List Int) => [])) (m := (fun x => m__law_next x)) (x := (y22.2)) (i := 0) s24 hm29 c23 rfl ha31 rfl Reps.nil fun y32 v32 F32 H32 hm32 e32 c32 r32 => ?_
            replace c32 : Ctx K _ _ _ _ [.io (List.map D.int y32.2), .val (D.int width), .val ((eL (eT (eP D.int D.int))) rows), .val ((eL (eP D.int D.int)) bs4), .un, .own (List.map (eP D.int D.int) bs13), .un, .val (D.int (y22.1 % (4 : Int))), .un] := c32
            cases (show Rep K _ _ (D.int y32.1) from r32)
            refine n_intI ?_
            refine s_var c32 (i := 2) rfl fun v33 r34 => ?_
            refine n_lenL c32 (show Rep K _ _ ((eL (eT (eP D.int D.int))) rows) from r34) ?_
            refine s_mod' s24 hm32 fun x35 q37 hm36 => ?_
            refine s_set (i := 8) (d := D.int x35) (ss' := [.io (List.map D.int y32.2), .val (D.int width), .val ((eL (eT (eP D.int D.int))) rows), .val ((eL (eP D.int D.int)) bs4), .un, .own (List.map (eP D.int D.int) bs13), .un, .val (D.int (y22.1 % (4 : Int))), .val (D.int x35)]) c32 (.inl (by decide)) ((Rep.int _)) rfl fun σ c38 => ?_
            try try dsimp only [tAsg, tRet, tRetN, tOp, tUn, tTest, tB, tCons, tNil, tCB, tC, tNext, tCallS, tDrop, tNot, tNotV, tSl, tNoPart, tPart, tBM, tBM0, iList, iTup, iStr, iSrc, iRng1, iRng2, iEnumS, iZipS, tBreak, tCont, gSub, tAug, tMth, tMakeS, tM1, tM0, tFld, cxOf]
            refine s_varO c38 (i := 5) rfl fun a39 xs39 ha39 hx39 l39 t39 => ?_
            refine s_varI c38 (i := 8) rfl ?_
            refine s_ixOv (en := (eP D.int D.int)) s24 hm36 hx39 t39 fun x40 v43 q42 hm41 r44 => ?_
            refine w_tup ?_
            try dsimp only [tAsg, tRet, tRetN, tOp, tUn, tTest, tB, tCons, tNil, tCB, tC, tNext, tCallS, tDrop, tNot, tNotV, tSl, tNoPart, tPart, tBM, tBM0, iList, iTup, iStr, iSrc, iRng1, iRng2, iEnumS, iZipS, tBreak, tCont, gSub, tAug, tMth, tMakeS, tM1, tM0, tFld, cxOf]
            refine s_varIO c38 (i := 0) rfl fun a45 xs45 ha45 hx45 l45 t45 => ?_
            refine s_callI (ps := (fun x : (List Int) => [])) (m := (fun x => m__law_next x)) (x := (y32.2)) (i := 0) s24 hm41 c38 rfl ha45 rfl Reps.nil fun y46 v46 F46 H46 hm46 e46 c46 r46 => ?_
            replace c46 : Ctx K _ _ _ _ [.io (List.map D.int y46.2), .val (D.int width), .val ((eL (eT (eP D.int D.int))) rows), .val ((eL (eP D.int D.int)) bs4), .un, .own (List.map (eP D.int D.int) bs13), .un, .val (D.int (y22.1 % (4 : Int))), .val (D.int x35)] := c46
            cases (show Rep K _ _ (D.int y46.1) from r46)
            refine n_intI ?_
            refine s_iC (by decide) ?_
            refine s_i0 ?_
            refine n_tup c46 (Reps.cons (Rep.int _) (Reps.cons (Rep.int _) Reps.nil)) (by show (2 : Nat) ≤ sizeLine; decide) fun v47 F47 H47 e47 c47 r47 => ?_
            refine s_call (ps := (fun x : ((Int × Int) × (Int × Int)) => [(eP D.int D.int) x.1, (eP D.int D.int) x.2])) (m := (fun x => m__law_plus x.1 x.2)) (x := (x40, ((1 : Int), ((1 : Int) + (y46.1 % (3 : Int)))))) s24 hm46 c47 rfl (Reps.cons (show Rep K _ _ ((eP D.int D.int) x40) from (r44.mono (e46.trans e47))) (Reps.cons (show Rep K _ _ ((eP D.int D.int) ((1 : Int), ((1 : Int) + (y46.1 % (3 : Int))))) from r47) Reps.nil)) fun y48 v48 F48 H48 hm48 e48 c48 r48 => ?_
            refine s_varO c48 (i := 5) rfl fun a49 xs49 ha49 hx49 l49 t49 => ?_
            refine s_varI c48 (i := 8) rfl ?_
            refine s_setIx (i := 5) (en := (eP D.int D.int)) (ss' := fun ys => [.io (List.map D.int y46.2), .val (D.int width), .val ((eL (eT (eP D.int D.int))) rows), .val ((eL (eP D.int D.int)) bs4), .un, .own (List.map (eP D.int D.int) ys), .un, .val (D.int (y22.1 % (4 : Int))), .val (D.int x35)]) s24 hm48 c48 ha49 rfl (show Rep K _ _ ((eP D.int D.int) y48) from r48) (fun _ => rfl) fun x50 H52 hm51 c52 => ?_
            exact kn24 (y46.2, x50) _ _ _ hm51 (e32.trans (e46.trans (e47.trans e48))) (c52.drop 8)
          ·
            refine w_ifS ?_
            try dsimp only [tAsg, tRet, tRetN, tOp, tUn, tTest, tB, tCons, tNil, tCB, tC, tNext, tCallS, tDrop, tNot, tNotV, tSl, tNoPart, tPart, tBM, tBM0, iList, iTup, iStr, iSrc, iRng1, iRng2, iEnumS, iZipS, tBreak, tCont, gSub, tAug, tMth, tMakeS, tM1, tM0, tFld, cxOf]
            refine s_varI c23 (i := 7) rfl ?_
            refine s_eqI ?_
            refine s_test' ?_
            refine s_ite hm30 (fun _ hm53 => ?_) (fun _ hm54 => ?_)
            ·
              try try dsimp only [tAsg, tRet, tRetN, tOp, tUn, tTest, tB, tCons, tNil, tCB, tC, tNext, tCallS, tDrop, tNot, tNotV, tSl, tNoPart, tPart, tBM, tBM0, iList, iTup, iStr, iSrc, iRng1, iRng2, iEnumS, iZipS, tBreak, tCont, gSub, tAug, tMth, tMakeS, tM1, tM0, tFld, cxOf]
              refine w_lc ?_
              try dsimp only [tAsg, tRet, tRetN, tOp, tUn, tTest, tB, tCons, tNil, tCB, tC, tNext, tCallS, tDrop, tNot, tNotV, tSl, tNoPart, tPart, tBM, tBM0, iList, iTup, iStr, iSrc, iRng1, iRng2, iEnumS, iZipS, tBreak, tCont, gSub, tAug, tMth, tMakeS, tM1, tM0, tFld, cxOf]
              refine s_var c23 (i := 2) rfl fun v55 r56 => ?_
              have sl57 := lenL (show Rep K _ _ ((eL (eT (eP D.int D.int))) rows) from r56)
              obtain ⟨a57, q57, x57, it57⟩ := x_list c23 (show Rep K _ _ ((eL (eT (eP D.int D.int))) rows) from r56)
              refine ⟨a57, q57, x57, ?_⟩
              refine s_compS2 (l := l0) (vs := [6]) (en := (eP D.int D.int)) (eg := D.int) (ss' := fun z58 gs58 => [.io (List.map D.int gs58), .val (D.int width), .val ((eL (eT (eP D.int D.int))) rows), .val ((eL (eP D.int D.int)) bs4), .un, .rd (List.map (eP D.int D.int) bs13), .val ((eT (eP D.int D.int)) z58), .val (D.int (y22.1 % (4 : Int))), .un]) s24 hm53 c23 rfl rfl it57 (by decide) (tg_name (by decide)) (fun _ _ => rfl) sl57 (fun B58 z58 gs58 F58 H58 σ58 P58 G58 hio58 s58 h58 zm58 e58 c58 kd58 => ?_) (fun v58 bs58 gq58 HH58 hm58 q58 => ?_)
              ·
                replace s58 := s58 9 (fun _ _ _ _ => False) (ecl ad)
                try dsimp only [tAsg, tRet, tRetN, tOp, tUn, tTest, tB, tCons, tNil, tCB, tC, tNext, tCallS, tDrop, tNot, tNotV, tSl, tNoPart, tPart, tBM, tBM0, iList, iTup, iStr, iSrc, iRng1, iRng2, iEnumS, iZipS, tBreak, tCont, gSub, tAug, tMth, tMakeS, tM1, tM0, tFld, cxOf]
                refine s_varIO c58 (i := 0) rfl fun a59 xs59 ha59 hx59 l59 t59 => ?_
                refine s_callI (ps := (fun x : (List Int) => [])) (m := (fun x => m__law_fraction x)) (x := (gs58)) (i := 0) s58 h58 c58 rfl ha59 rfl Reps.nil fun y60 v60 F60 H60 hm60 e60 c60 r60 => ?_
                replace c60 : Ctx K _ _ _ _ [.io (List.map D.int y60.2), .val (D.int width), .val ((eL (eT (eP D.int D.int))) rows), .val ((eL (eP D.int D.int)) bs4), .un, .rd (List.map (eP D.int D.int) bs13), .val ((eT (eP D.int D.int)) z58), .val (D.int (y22.1 % (4 : Int))), .un] := c60
                exact kd58 _ _ _ _ _ _ _ hm60 c60 rfl (show Rep K _ _ ((eP D.int D.int) y60.1) from r60)
              ·
                obtain ⟨F61, e61, c61, r61⟩ := q58
                replace c61 : Ctx K _ _ _ _ [.io (List.map D.int gq58), .val (D.int width), .val ((eL (eT (eP D.int D.int))) rows), .val ((eL (eP D.int D.int)) bs4), .un, .own (List.map (eP D.int D.int) bs13), .un, .val (D.int (y22.1 % (4 : Int))), .un] := c61
                replace r61 : Nw K _ _ [.io (List.map D.int gq58), .val (D.int width), .val ((eL (eT (eP D.int D.int))) rows), .val ((eL (eP D.int D.int)) bs4), .un, .own (List.map (eP D.int D.int) bs13), .un, .val (D.int (y22.1 % (4 : Int))), .un] _ _ _ _ := r61
                refine s_setO (i := 5) (ss' := [.io (List.map D.int gq58), .val (D.int width), .val ((eL (eT (eP D.int D.int))) rows), .val ((eL (eP D.int D.int)) bs4), .un, .own (List.map (eP D.int D.int) bs58), .un, .val (D.int (y22.1 % (4 : Int))), .un]) c61 (.inl (by decide)) r61 rfl fun σ c62 => ?_
                exact kn24 (gq58, bs58) _ _ _ hm58 e61 c62
            ·
              exact kn24 (y22.2, bs13) _ _ _ hm54 (Ex.refl _) c23
@[irreducible] def m_solution (width : Int) (rows : (List (List (Int × Int)))) (wanted : (List (Int × Int))) : Res (List (Int × Int)) :=
  (m_check_matrix width rows).bind fun y3 =>
  (m_check_wanted rows wanted).bind fun y8 =>
  (m_solution_or_none width rows wanted).bind fun y13 =>
  if y13.isNone = true then
    Res.exc .NoAnswer
  else
    (getO y13).bind fun y21 =>
  Res.ok y21
abbrev sp_solution (K : PySem.W.Frag) (ad : Nat → Addr) : Sp := SpP (π := (Int × (List (List (Int × Int))) × (List (Int × Int)))) K (ecl ad) (fun x => [D.int x.1, (eL (eT (eP D.int D.int))) x.2.1, (eT (eP D.int D.int)) x.2.2]) (fun x => m_solution x.1 x.2.1 x.2.2) (fun y => .val ((eT (eP D.int D.int)) y))
theorem ok_solution (T : Txt K w mg ad fd) : Cm P w K mg base 6 (ad 30) (fd 30) ["width", "rows", "wanted"] (sp_solution K ad) := by
  refine ⟨T.f_solution.okG sc_solution (fun vs H Q E h => ?_) (fun cdv A outer sh H0 vs Q E gd hr h => ?_), T.f_solution.binds (ps := ["width", "rows", "wanted"]) fun _ _ _ _ _ _ us hl => match us, hl with | [_, _, _], _ => rfl⟩
  · obtain ⟨F, x, _, r, _⟩ := h
    exact r.length
  · obtain ⟨F0, ⟨width, rows, wanted⟩, fh0, r0, hm⟩ := h
    have hu := hr.units
    have r0 : Reps K F0 vs [D.int width, (eL (eT (eP D.int D.int))) rows, (eT (eP D.int D.int)) wanted] := r0
    have c0 : Ctx K ⟨F0, H0, none⟩ F0 H0 (start ["width", "rows", "wanted", "found"] vs) [.val (D.int width), .val ((eL (eT (eP D.int D.int))) rows), .val ((eT (eP D.int D.int)) wanted), .un] := ctx_start fh0 r0 rfl (by show (3 : Nat) ≤ 4; decide)
    have s := Fin.sct (K := K) (B := ⟨F0, H0, none⟩) (n := 4) (cl := ecl ad) (rt := fun y => .val ((eT (eP D.int D.int)) y)) (out := fun _ : (List (Int × Int)) => []) (Q := Q) (E := E)
    refine ⟨_, (pss_cons (ps_expr (pe_cm (ok_check_matrix T (P := P) (w := w) (base := base)) gd (hr.mono (by decide)) T.g_check_matrix T.f_check_matrix.kp (L2N.takes_of rfl rfl rfl rfl) (pa_cons (pv 0) (pa_cons (pv 1) pa_nil))))
    (pss_cons (ps_expr (pe_cm (ok_check_wanted T (P := P) (w := w) (base := base)) gd (hr.mono (by decide)) T.g_check_wanted T.f_check_wanted.kp (L2N.takes_of rfl rfl rfl rfl) (pa_cons (pv 1) (pa_cons (pv 2) pa_nil))))
    (pss_cons (ps_set (i := 3) sc_solution.nd rfl (by first | exact Or.inl rfl | exact Or.inr rfl) (pe_cm (ok_solution_or_none T (P := P) (w := w) (base := base)) gd (hr.mono (by decide)) T.g_solution_or_none T.f_solution_or_none.kp (L2N.takes_of rfl rfl rfl rfl) (pa_cons (pv 0) (pa_cons (pv 1) (pa_cons (pv 2) pa_nil)))))
    (pss_cons (ps_if (pt_cmpR o_isN (pv 3) pe_non (nomark _)) (pss_one (L2N.ps_raise rfl (L2N.takes_of rfl rfl rfl rfl) (L2N.pmk_own PySem.F.excBase_ValueError T.x_NoAnswer T.g_NoAnswer T.k_NoAnswer (raises_own T.s_NoAnswer T.t_NoAnswer) rfl))) pss_nil)
    (pss_one (ps_ret (pv 3))))))), ?_⟩
    generalize start _ _ = σ at c0 ⊢
    try dsimp only [tAsg, tRet, tRetN, tOp, tUn, tTest, tB, tCons, tNil, tCB, tC, tNext, tCallS, tDrop, tNot, tNotV, tSl, tNoPart, tPart, tBM, tBM0, iList, iTup, iStr, iSrc, iRng1, iRng2, iEnumS, iZipS, tBreak, tCont, gSub, tAug, tMth, tMakeS, tM1, tM0, tFld, cxOf]
    try dsimp only at hm
    unfold m_solution at hm
    refine w_seq ?_
    try try dsimp only [tAsg, tRet, tRetN, tOp, tUn, tTest, tB, tCons, tNil, tCB, tC, tNext, tCallS, tDrop, tNot, tNotV, tSl, tNoPart, tPart, tBM, tBM0, iList, iTup, iStr, iSrc, iRng1, iRng2, iEnumS, iZipS, tBreak, tCont, gSub, tAug, tMth, tMakeS, tM1, tM0, tFld, cxOf]
    refine s_varI c0 (i := 0) rfl ?_
    refine s_var c0 (i := 1) rfl fun v1 r2 => ?_
    refine s_call (ps := (fun x : (Int × (List (List (Int × Int)))) => [D.int x.1, (eL (eT (eP D.int D.int))) x.2])) (m := (fun x => m_check_matrix x.1 x.2)) (x := (width, rows)) s hm c0 rfl (Reps.cons (show Rep K _ _ (D.int width) from (Rep.int _)) (Reps.cons (show Rep K _ _ ((eL (eT (eP D.int D.int))) rows) from r2) Reps.nil)) fun y3 v3 F3 H3 hm3 e3 c3 r3 => ?_
    cases (show Rep K _ _ (eU y3) from r3)
    refine w_seq ?_
    try try dsimp only [tAsg, tRet, tRetN, tOp, tUn, tTest, tB, tCons, tNil, tCB, tC, tNext, tCallS, tDrop, tNot, tNotV, tSl, tNoPart, tPart, tBM, tBM0, iList, iTup, iStr, iSrc, iRng1, iRng2, iEnumS, iZipS, tBreak, tCont, gSub, tAug, tMth, tMakeS, tM1, tM0, tFld, cxOf]
    refine s_var c3 (i := 1) rfl fun v4 r5 => ?_
    refine s_var c3 (i := 2) rfl fun v6 r7 => ?_
    refine s_call (ps := (fun x : ((List (List (Int × Int))) × (List (Int × Int))) => [(eL (eT (eP D.int D.int))) x.1, (eT (eP D.int D.int)) x.2])) (m := (fun x => m_check_wanted x.1 x.2)) (x := (rows, wanted)) s hm3 c3 rfl (Reps.cons (show Rep K _ _ ((eL (eT (eP D.int D.int))) rows) from r5) (Reps.cons (show Rep K _ _ ((eT (eP D.int D.int)) wanted) from r7) Reps.nil)) fun y8 v8 F8 H8 hm8 e8 c8 r8 => ?_
    cases (show Rep K _ _ (eU y8) from r8)
    refine w_seq ?_
    try try dsimp only [tAsg, tRet, tRetN, tOp, tUn, tTest, tB, tCons, tNil, tCB, tC, tNext, tCallS, tDrop, tNot, tNotV, tSl, tNoPart, tPart, tBM, tBM0, iList, iTup, iStr, iSrc, iRng1, iRng2, iEnumS, iZipS, tBreak, tCont, gSub, tAug, tMth, tMakeS, tM1, tM0, tFld, cxOf]
    refine s_varI c8 (i := 0) rfl ?_
    refine s_var c8 (i := 1) rfl fun v9 r10 => ?_
    refine s_var c8 (i := 2) rfl fun v11 r12 => ?_
    refine s_call (ps := (fun x : (Int × (List (List (Int × Int))) × (List (Int × Int))) => [D.int x.1, (eL (eT (eP D.int D.int))) x.2.1, (eT (eP D.int D.int)) x.2.2])) (m := (fun x => m_solution_or_none x.1 x.2.1 x.2.2)) (x := (width, rows, wanted)) s hm8 c8 rfl (Reps.cons (show Rep K _ _ (D.int width) from (Rep.int _)) (Reps.cons (show Rep K _ _ ((eL (eT (eP D.int D.int))) rows) from r10) (Reps.cons (show Rep K _ _ ((eT (eP D.int D.int)) wanted) from r12) Reps.nil))) fun y13 v13 F13 H13 hm13 e13 c13 r13 => ?_
    refine s_set (i := 3) (d := (eO (eT (eP D.int D.int))) y13) (ss' := [.val (D.int width), .val ((eL (eT (eP D.int D.int))) rows), .val ((eT (eP D.int D.int)) wanted), .val ((eO (eT (eP D.int D.int))) y13)]) c13 (.inl (by decide)) (r13) rfl fun σ c14 => ?_
    refine w_seq ?_
    refine w_ifS ?_
    try dsimp only [tAsg, tRet, tRetN, tOp, tUn, tTest, tB, tCons, tNil, tCB, tC, tNext, tCallS, tDrop, tNot, tNotV, tSl, tNoPart, tPart, tBM, tBM0, iList, iTup, iStr, iSrc, iRng1, iRng2, iEnumS, iZipS, tBreak, tCont, gSub, tAug, tMth, tMakeS, tM1, tM0, tFld, cxOf]
    refine s_var c14 (i := 3) rfl fun v15 r16 => ?_
    refine n_isN (show Rep K _ _ ((eO (eT (eP D.int D.int))) y13) from r16) (by intro y h; cases h) ?_
    refine s_test' ?_
    refine s_ite hm13 (fun _ hm17 => ?_) (fun _ hm18 => ?_)
    ·
      try try dsimp only [tAsg, tRet, tRetN, tOp, tUn, tTest, tB, tCons, tNil, tCB, tC, tNext, tCallS, tDrop, tNot, tNotV, tSl, tNoPart, tPart, tBM, tBM0, iList, iTup, iStr, iSrc, iRng1, iRng2, iEnumS, iZipS, tBreak, tCont, gSub, tAug, tMth, tMakeS, tM1, tM0, tFld, cxOf]
      exact s.exc .NoAnswer hm17 _ _ _ (c14.uns rfl)
    ·
      try try dsimp only [tAsg, tRet, tRetN, tOp, tUn, tTest, tB, tCons, tNil, tCB, tC, tNext, tCallS, tDrop, tNot, tNotV, tSl, tNoPart, tPart, tBM, tBM0, iList, iTup, iStr, iSrc, iRng1, iRng2, iEnumS, iZipS, tBreak, tCont, gSub, tAug, tMth, tMakeS, tM1, tM0, tFld, cxOf]
      refine s_var c14 (i := 3) rfl fun v19 r20 => ?_
      obtain ⟨y21, hm22, r23⟩ := s_some s hm18 (show Rep K _ _ ((eO (eT (eP D.int D.int))) y13) from r20)
      exact Fin.ret (d := (eT (eP D.int D.int)) y21) hm22 c14 (r23) rfl (.inl rfl)
@[irreducible] def m_clash (width : Int) (rows : (List (List (Int × Int)))) (wanted : (List (Int × Int))) : Res (List (Int × Int)) :=
  (m_check_matrix width rows).bind fun y3 =>
  (m_check_wanted rows wanted).bind fun y8 =>
  (m_columns_of width rows).bind fun y11 =>
  (catR y11 [wanted]).bind fun x16 =>
  (m_unit_row (width + (1 : Int)) width).bind fun y25 =>
  (m_solution_or_none (rows.length : Int) x16 y25).bind fun y26 =>
  if y26.isNone = true then
    Res.exc .NoAnswer
  else
    (getO y26).bind fun y34 =>
  Res.ok y34
abbrev sp_clash (K : PySem.W.Frag) (ad : Nat → Addr) : Sp := SpP (π := (Int × (List (List (Int × Int))) × (List (Int × Int)))) K (ecl ad) (fun x => [D.int x.1, (eL (eT (eP D.int D.int))) x.2.1, (eT (eP D.int D.int)) x.2.2]) (fun x => m_clash x.1 x.2.1 x.2.2) (fun y => .val ((eT (eP D.int D.int)) y))
theorem ok_clash (T : Txt K w mg ad fd) : Cm P w K mg base 6 (ad 31) (fd 31) ["width", "rows", "wanted"] (sp_clash K ad) := by
  refine ⟨T.f_clash.okG sc_clash (fun vs H Q E h => ?_) (fun cdv A outer sh H0 vs Q E gd hr h => ?_), T.f_clash.binds (ps := ["width", "rows", "wanted"]) fun _ _ _ _ _ _ us hl => match us, hl with | [_, _, _], _ => rfl⟩
  · obtain ⟨F, x, _, r, _⟩ := h
    exact r.length
  · obtain ⟨F0, ⟨width, rows, wanted⟩, fh0, r0, hm⟩ := h
    have hu := hr.units
    have r0 : Reps K F0 vs [D.int width, (eL (eT (eP D.int D.int))) rows, (eT (eP D.int D.int)) wanted] := r0
    have c0 : Ctx K ⟨F0, H0, none⟩ F0 H0 (start ["width", "rows", "wanted", "lines", "found"] vs) [.val (D.int width), .val ((eL (eT (eP D.int D.int))) rows), .val ((eT (eP D.int D.int)) wanted), .un, .un] := ctx_start fh0 r0 rfl (by show (3 : Nat) ≤ 5; decide)
    have s := Fin.sct (K := K) (B := ⟨F0, H0, none⟩) (n := 5) (cl := ecl ad) (rt := fun y => .val ((eT (eP D.int D.int)) y)) (out := fun _ : (List (Int × Int)) => []) (Q := Q) (E := E)
    refine ⟨_, (pss_cons (ps_expr (pe_cm (ok_check_matrix T (P := P) (w := w) (base := base)) gd (hr.mono (by decide)) T.g_check_matrix T.f_check_matrix.kp (L2N.takes_of rfl rfl rfl rfl) (pa_cons (pv 0) (pa_cons (pv 1) pa_nil))))
    (pss_cons (ps_expr (pe_cm (ok_check_wanted T (P := P) (w := w) (base := base)) gd (hr.mono (by decide)) T.g_check_wanted T.f_check_wanted.kp (L2N.takes_of rfl rfl rfl rfl) (pa_cons (pv 1) (pa_cons (pv 2) pa_nil))))
    (pss_cons (ps_set (i := 3) sc_clash.nd rfl (by first | exact Or.inl rfl | exact Or.inr rfl) (pe_op op_cat (pe_cm (ok_columns_of T (P := P) (w := w) (base := base)) gd (hr.mono (by decide)) T.g_columns_of T.f_columns_of.kp (L2N.takes_of rfl rfl rfl rfl) (pa_cons (pv 0) (pa_cons (pv 1) pa_nil))) (pe_lst (pa_cons (pv 2) pa_nil))))
    (pss_cons (ps_set (i := 4) sc_clash.nd rfl (by first | exact Or.inl rfl | exact Or.inr rfl) (pe_cm (ok_solution_or_none T (P := P) (w := w) (base := base)) gd (hr.mono (by decide)) T.g_solution_or_none T.f_solution_or_none.kp (L2N.takes_of rfl rfl rfl rfl) (pa_cons (pe_callB (c_len (K := K)) (by rfl) T.m_len PySem.boot_len (pa_cons (pv 1) pa_nil)) (pa_cons (pv 3) (pa_cons (pe_cm (ok_unit_row T (P := P) (w := w) (base := base)) gd (hr.mono (by decide)) T.g_unit_row T.f_unit_row.kp (L2N.takes_of rfl rfl rfl rfl) (pa_cons (pe_op op_add (pv 0) pe_int) (pa_cons (pv 0) pa_nil))) pa_nil)))))
    (pss_cons (ps_if (pt_cmpR o_isN (pv 4) pe_non (nomark _)) (pss_one (L2N.ps_raise rfl (L2N.takes_of rfl rfl rfl rfl) (L2N.pmk_own PySem.F.excBase_ValueError T.x_NoAnswer T.g_NoAnswer T.k_NoAnswer (raises_own T.s_NoAnswer T.t_NoAnswer) rfl))) pss_nil)
    (pss_one (ps_ret (pv 4)))))))), ?_⟩
    generalize start _ _ = σ at c0 ⊢
    try dsimp only [tAsg, tRet, tRetN, tOp, tUn, tTest, tB, tCons, tNil, tCB, tC, tNext, tCallS, tDrop, tNot, tNotV, tSl, tNoPart, tPart, tBM, tBM0, iList, iTup, iStr, iSrc, iRng1, iRng2, iEnumS, iZipS, tBreak, tCont, gSub, tAug, tMth, tMakeS, tM1, tM0, tFld, cxOf]
    try dsimp only at hm
    unfold m_clash at hm
    refine w_seq ?_
    try try dsimp only [tAsg, tRet, tRetN, tOp, tUn, tTest, tB, tCons, tNil, tCB, tC, tNext, tCallS, tDrop, tNot, tNotV, tSl, tNoPart, tPart, tBM, tBM0, iList, iTup, iStr, iSrc, iRng1, iRng2, iEnumS, iZipS, tBreak, tCont, gSub, tAug, tMth, tMakeS, tM1, tM0, tFld, cxOf]
    refine s_varI c0 (i := 0) rfl ?_
    refine s_var c0 (i := 1) rfl fun v1 r2 => ?_
    refine s_call (ps := (fun x : (Int × (List (List (Int × Int)))) => [D.int x.1, (eL (eT (eP D.int D.int))) x.2])) (m := (fun x => m_check_matrix x.1 x.2)) (x := (width, rows)) s hm c0 rfl (Reps.cons (show Rep K _ _ (D.int width) from (Rep.int _)) (Reps.cons (show Rep K _ _ ((eL (eT (eP D.int D.int))) rows) from r2) Reps.nil)) fun y3 v3 F3 H3 hm3 e3 c3 r3 => ?_
    cases (show Rep K _ _ (eU y3) from r3)
    refine w_seq ?_
    try try dsimp only [tAsg, tRet, tRetN, tOp, tUn, tTest, tB, tCons, tNil, tCB, tC, tNext, tCallS, tDrop, tNot, tNotV, tSl, tNoPart, tPart, tBM, tBM0, iList, iTup, iStr, iSrc, iRng1, iRng2, iEnumS, iZipS, tBreak, tCont, gSub, tAug, tMth, tMakeS, tM1, tM0, tFld, cxOf]
    refine s_var c3 (i := 1) rfl fun v4 r5 => ?_
    refine s_var c3 (i := 2) rfl fun v6 r7 => ?_
    refine s_call (ps := (fun x : ((List (List (Int × Int))) × (List (Int × Int))) => [(eL (eT (eP D.int D.int))) x.1, (eT (eP D.int D.int)) x.2])) (m := (fun x => m_check_wanted x.1 x.2)) (x := (rows, wanted)) s hm3 c3 rfl (Reps.cons (show Rep K _ _ ((eL (eT (eP D.int D.int))) rows) from r5) (Reps.cons (show Rep K _ _ ((eT (eP D.int D.int)) wanted) from r7) Reps.nil)) fun y8 v8 F8 H8 hm8 e8 c8 r8 => ?_
    cases (show Rep K _ _ (eU y8) from r8)
    refine w_seq ?_
    try try dsimp only [tAsg, tRet, tRetN, tOp, tUn, tTest, tB, tCons, tNil, tCB, tC, tNext, tCallS, tDrop, tNot, tNotV, tSl, tNoPart, tPart, tBM, tBM0, iList, iTup, iStr, iSrc, iRng1, iRng2, iEnumS, iZipS, tBreak, tCont, gSub, tAug, tMth, tMakeS, tM1, tM0, tFld, cxOf]
    refine s_varI c8 (i := 0) rfl ?_
    refine s_var c8 (i := 1) rfl fun v9 r10 => ?_
    refine s_call (ps := (fun x : (Int × (List (List (Int × Int)))) => [D.int x.1, (eL (eT (eP D.int D.int))) x.2])) (m := (fun x => m_columns_of x.1 x.2)) (x := (width, rows)) s hm8 c8 rfl (Reps.cons (show Rep K _ _ (D.int width) from (Rep.int _)) (Reps.cons (show Rep K _ _ ((eL (eT (eP D.int D.int))) rows) from r10) Reps.nil)) fun y11 v11 F11 H11 hm11 e11 c11 r11 => ?_
    replace r11 : Nw K _ _ [.val (D.int width), .val ((eL (eT (eP D.int D.int))) rows), .val ((eT (eP D.int D.int)) wanted), .un, .un] _ _ _ _ := RtOk.nw c8 r11 (fun j es q => by first | exact q | exact noOwn0 q)
    obtain ⟨F12, e12, c12, r12⟩ := Nw.frz c11 r11
    refine w_lst ?_
    try dsimp only [tAsg, tRet, tRetN, tOp, tUn, tTest, tB, tCons, tNil, tCB, tC, tNext, tCallS, tDrop, tNot, tNotV, tSl, tNoPart, tPart, tBM, tBM0, iList, iTup, iStr, iSrc, iRng1, iRng2, iEnumS, iZipS, tBreak, tCont, gSub, tAug, tMth, tMakeS, tM1, tM0, tFld, cxOf]
    refine s_var c12 (i := 2) rfl fun v13 r14 => ?_
    refine n_lst c12 (Reps.cons r14 Reps.nil) (by show (1 : Nat) ≤ sizeLine; decide) fun v15 F15 H15 e15 c15 r15 => ?_
    refine s_catL s hm11 c15 (show Rep K _ _ ((eL (eT (eP D.int D.int))) y11) from (r12.mono e15)) (show Rep K _ _ ((eL (eT (eP D.int D.int))) [wanted]) from r15) fun x16 v18 H18 hm17 c18 r18 => ?_
    obtain ⟨F19, e19, c19, r19⟩ := Nw.frz c18 r18
    refine s_set (i := 3) (d := (eL (eT (eP D.int D.int))) x16) (ss' := [.val (D.int width), .val ((eL (eT (eP D.int D.int))) rows), .val ((eT (eP D.int D.int)) wanted), .val ((eL (eT (eP D.int D.int))) x16), .un]) c19 (.inl (by decide)) (r19) rfl fun σ c20 => ?_
    refine w_seq ?_
    try try dsimp only [tAsg, tRet, tRetN, tOp, tUn, tTest, tB, tCons, tNil, tCB, tC, tNext, tCallS, tDrop, tNot, tNotV, tSl, tNoPart, tPart, tBM, tBM0, iList, iTup, iStr, iSrc, iRng1, iRng2, iEnumS, iZipS, tBreak, tCont, gSub, tAug, tMth, tMakeS, tM1, tM0, tFld, cxOf]
    refine s_var c20 (i := 1) rfl fun v21 r22 => ?_
    refine n_lenL c20 (show Rep K _ _ ((eL (eT (eP D.int D.int))) rows) from r22) ?_
    refine s_var c20 (i := 3) rfl fun v23 r24 => ?_
    refine s_varI c20 (i := 0) rfl ?_
    refine s_i0 ?_
    refine s_varI c20 (i := 0) rfl ?_
    refine s_call (ps := (fun x : (Int × Int) => [D.int x.1, D.int x.2])) (m := (fun x => m_unit_row x.1 x.2)) (x := ((width + (1 : Int)), width)) s hm17 c20 rfl (Reps.cons (show Rep K _ _ (D.int (width + (1 : Int))) from (Rep.int _)) (Reps.cons (show Rep K _ _ (D.int width) from (Rep.int _)) Reps.nil)) fun y25 v25 F25 H25 hm25 e25 c25 r25 => ?_
    refine s_call (ps := (fun x : (Int × (List (List (Int × Int))) × (List (Int × Int))) => [D.int x.1, (eL (eT (eP D.int D.int))) x.2.1, (eT (eP D.int D.int)) x.2.2])) (m := (fun x => m_solution_or_none x.1 x.2.1 x.2.2)) (x := ((rows.length : Int), x16, y25)) s hm25 c25 rfl (Reps.cons (show Rep K _ _ (D.int (rows.length : Int)) from (Rep.int _)) (Reps.cons (show Rep K _ _ ((eL (eT (eP D.int D.int))) x16) from (r24.mono e25)) (Reps.cons (show Rep K _ _ ((eT (eP D.int D.int)) y25) from r25) Reps.nil))) fun y26 v26 F26 H26 hm26 e26 c26 r26 => ?_
    refine s_set (i := 4) (d := (eO (eT (eP D.int D.int))) y26) (ss' := [.val (D.int width), .val ((eL (eT (eP D.int D.int))) rows), .val ((eT (eP D.int D.int)) wanted), .val ((eL (eT (eP D.int D.int))) x16), .val ((eO (eT (eP D.int D.int))) y26)]) c26 (.inl (by decide)) (r26) rfl fun σ c27 => ?_
    refine w_seq ?_
    refine w_ifS ?_
    try dsimp only [tAsg, tRet, tRetN, tOp, tUn, tTest, tB, tCons, tNil, tCB, tC, tNext, tCallS, tDrop, tNot, tNotV, tSl, tNoPart, tPart, tBM, tBM0, iList, iTup, iStr, iSrc, iRng1, iRng2, iEnumS, iZipS, tBreak, tCont, gSub, tAug, tMth, tMakeS, tM1, tM0, tFld, cxOf]
    refine s_var c27 (i := 4) rfl fun v28 r29 => ?_
    refine n_isN (show Rep K _ _ ((eO (eT (eP D.int D.int))) y26) from r29) (by intro y h; cases h) ?_
    refine s_test' ?_
    refine s_ite hm26 (fun _ hm30 => ?_) (fun _ hm31 => ?_)
    ·
      try try dsimp only [tAsg, tRet, tRetN, tOp, tUn, tTest, tB, tCons, tNil, tCB, tC, tNext, tCallS, tDrop, tNot, tNotV, tSl, tNoPart, tPart, tBM, tBM0, iList, iTup, iStr, iSrc, iRng1, iRng2, iEnumS, iZipS, tBreak, tCont, gSub, tAug, tMth, tMakeS, tM1, tM0, tFld, cxOf]
      exact s.exc .NoAnswer hm30 _ _ _ (c27.uns rfl)
    ·
      try try dsimp only [tAsg, tRet, tRetN, tOp, tUn, tTest, tB, tCons, tNil, tCB, tC, tNext, tCallS, tDrop, tNot, tNotV, tSl, tNoPart, tPart, tBM, tBM0, iList, iTup, iStr, iSrc, iRng1, iRng2, iEnumS, iZipS, tBreak, tCont, gSub, tAug, tMth, tMakeS, tM1, tM0, tFld, cxOf]
      refine s_var c27 (i := 4) rfl fun v32 r33 => ?_
      obtain ⟨y34, hm35, r36⟩ := s_some s hm31 (show Rep K _ _ ((eO (eT (eP D.int D.int))) y26) from r33)
      exact Fin.ret (d := (eT (eP D.int D.int)) y34) hm35 c27 (r36) rfl (.inl rfl)
@[irreducible] def m__law_solves (width : Int) (rows : (List (List (Int × Int)))) (wanted : (List (Int × Int))) (x_ : (List (Int × Int))) : Res Bool :=
  (if (!true) = true then Res.ok true else Res.ok (decide ((x_.length : Int) ≠ width))).bind fun y1 =>
  if y1 = true then
    Res.ok false
  else
    (mapR (fun z7 =>
    (m__law_dot z7 x_).bind fun y12 =>
  Res.ok y12) rows).bind fun bs7 =>
  if (decide (bs7 ≠ wanted)) = true then
    Res.ok false
  else
    (m__law_echelon width rows).bind fun y22 =>
  (m__law_pivots y22).bind fun y23 =>
  (rngL 0 width).bind fun zs27 =>
  (compR (fun z28 =>
    if (decide (z28 ∉ y23)) = true then (ix x_ z28).bind fun x35 =>
  Res.ok (some (decide (x35 = ((0 : Int), (1 : Int))))) else Res.ok none) zs27).bind fun bs28 =>
  Res.ok (List.all bs28 id)
abbrev sp__law_solves (K : PySem.W.Frag) (ad : Nat → Addr) : Sp := SpP (π := (Int × (List (List (Int × Int))) × (List (Int × Int)) × (List (Int × Int)))) K (ecl ad) (fun x => [D.int x.1, (eL (eT (eP D.int D.int))) x.2.1, (eT (eP D.int D.int)) x.2.2.1, (eT (eP D.int D.int)) x.2.2.2]) (fun x => m__law_solves x.1 x.2.1 x.2.2.1 x.2.2.2) (fun y => .val (D.bl y))
theorem ok__law_solves (T : Txt K w mg ad fd) : Cm P w K mg base 6 (ad 50) (fd 50) ["width", "rows", "wanted", "x"] (sp__law_solves K ad) := by
  refine ⟨T.f__law_solves.okG sc__law_solves (fun vs H Q E h => ?_) (fun cdv A outer sh H0 vs Q E gd hr h => ?_), T.f__law_solves.binds (ps := ["width", "rows", "wanted", "x"]) fun _ _ _ _ _ _ us hl => match us, hl with | [_, _, _, _], _ => rfl⟩
  · obtain ⟨F, x, _, r, _⟩ := h
    exact r.length
  · obtain ⟨F0, ⟨width, rows, wanted, x_⟩, fh0, r0, hm⟩ := h
    have hu := hr.units
    have r0 : Reps K F0 vs [D.int width, (eL (eT (eP D.int D.int))) rows, (eT (eP D.int D.int)) wanted, (eT (eP D.int D.int)) x_] := r0
    have c0 : Ctx K ⟨F0, H0, none⟩ F0 H0 (start ["width", "rows", "wanted", "x", "row", "pivots", "at"] vs) [.val (D.int width), .val ((eL (eT (eP D.int D.int))) rows), .val ((eT (eP D.int D.int)) wanted), .val ((eT (eP D.int D.int)) x_), .un, .un, .un] := ctx_start fh0 r0 rfl (by show (4 : Nat) ≤ 7; decide)
    have s := Fin.sct (K := K) (B := ⟨F0, H0, none⟩) (n := 7) (cl := ecl ad) (rt := fun y => .val (D.bl y)) (out := fun _ : Bool => []) (Q := Q) (E := E)
    refine ⟨_, (pss_cons (ps_if (L2.PW.pt (pw_or (pt_not (pt_val (pe_callB call_isi (by rfl) T.m_isinstance (by decide +kernel) (pa_cons (pv 3) (pa_cons (pe_bltn (by rfl) T.m_tuple (v := .ty "tuple") (u := .type "tuple") rfl rfl) pa_nil))))) (pw_or1 (pt_cmpR op_ne (pe_callB (c_len (K := K)) (by rfl) T.m_len PySem.boot_len (pa_cons (pv 3) pa_nil)) (pv 0) (nomark _))))) (pss_one (ps_ret pe_bl)) pss_nil)
    (pss_cons (ps_if (pt_cmpR (o_neD (by rfl) hu) (pe_callTy (T := "tuple") (c_tuple (K := K)) (by rfl) T.m_tuple (by decide +kernel) (pa_cons (pe_lc (own := [("row", 4)]) rfl sc__law_solves.nd (pi_list (pv 1)) (blkOk_by (N := ["width", "rows", "wanted", "x", "row", "pivots", "at"]) (sc := defScope s__law_solves) (by decide +kernel)) (fun _ _ _ _ _ => (pg_name (i := 4) sc__law_solves.nd rfl (by first | exact Or.inl rfl | exact Or.inr rfl))) (fun _ _ _ _ _ => pts_nil) (fun _ _ _ _ _ => (pe_cm (ok__law_dot T (P := P) (w := w) (base := base)) gd (hr.mono (by decide)) T.g__law_dot T.f__law_dot.kp takes0N (pa_cons (pv 4) (pa_cons (pv 3) pa_nil))))) pa_nil)) (pv 2) (nomark _)) (pss_one (ps_ret pe_bl)) pss_nil)
    (pss_cons (ps_set (i := 5) sc__law_solves.nd rfl (by first | exact Or.inl rfl | exact Or.inr rfl) (pe_cm (ok__law_pivots T (P := P) (w := w) (base := base)) gd (hr.mono (by decide)) T.g__law_pivots T.f__law_pivots.kp (L2N.takes_of rfl rfl rfl rfl) (pa_cons (pe_cm (ok__law_echelon T (P := P) (w := w) (base := base)) gd (hr.mono (by decide)) T.g__law_echelon T.f__law_echelon.kp (L2N.takes_of rfl rfl rfl rfl) (pa_cons (pv 0) (pa_cons (pv 1) pa_nil))) pa_nil)))
    (pss_one (ps_ret (pe_callB (cr_all rfl) (by rfl) T.m_all (by decide +kernel) (pa_cons (pe_lc (own := [("at", 6)]) rfl sc__law_solves.nd (pi_range1 rfl T.m_range (pa_cons (pv 0) pa_nil)) (blkOk_by (N := ["width", "rows", "wanted", "x", "row", "pivots", "at"]) (sc := defScope s__law_solves) (by decide +kernel)) (fun _ _ _ _ _ => (pg_name (i := 6) sc__law_solves.nd rfl (by first | exact Or.inl rfl | exact Or.inr rfl))) (fun _ _ _ _ _ => (pts_one (pt_cmpR (op_notIn_seqK (K := K)) (pv 6) (pv 5) (by rfl)))) (fun _ _ _ _ _ => (pe_cmpR (o_eqD (by rfl) hu) (pe_ix (ix_tupK (K := K)) (pv 3) (pv 6) (fun _ _ => rfl)) (pe_tup (pa_cons pe_int (pa_cons pe_int pa_nil))) (nomark _)))) pa_nil))))))), ?_⟩
    generalize start _ _ = σ at c0 ⊢
    try dsimp only [tAsg, tRet, tRetN, tOp, tUn, tTest, tB, tCons, tNil, tCB, tC, tNext, tCallS, tDrop, tNot, tNotV, tSl, tNoPart, tPart, tBM, tBM0, iList, iTup, iStr, iSrc, iRng1, iRng2, iEnumS, iZipS, tBreak, tCont, gSub, tAug, tMth, tMakeS, tM1, tM0, tFld, cxOf]
    try dsimp only at hm
    unfold m__law_solves at hm
    refine w_seq ?_
    refine w_ifS ?_
    try dsimp only [tAsg, tRet, tRetN, tOp, tUn, tTest, tB, tCons, tNil, tCB, tC, tNext, tCallS, tDrop, tNot, tNotV, tSl, tNoPart, tPart, tBM, tBM0, iList, iTup, iStr, iSrc, iRng1, iRng2, iEnumS, iZipS, tBreak, tCont, gSub, tAug, tMth, tMakeS, tM1, tM0, tFld, cxOf]
    refine s_cutB (F := F0) (ss' := [.val (D.int width), .val ((eL (eT (eP D.int D.int))) rows), .val ((eT (eP D.int D.int)) wanted), .val ((eT (eP D.int D.int)) x_), .un, .un, .un]) s hm (fun y1 F1 H1 hm1 e1 c1 => ?_) (fun P1 R1 s1 h1 kn1 => ?_)
    ·
      refine s_ite hm1 (fun _ hm2 => ?_) (fun _ hm3 => ?_)
      ·
        try try dsimp only [tAsg, tRet, tRetN, tOp, tUn, tTest, tB, tCons, tNil, tCB, tC, tNext, tCallS, tDrop, tNot, tNotV, tSl, tNoPart, tPart, tBM, tBM0, iList, iTup, iStr, iSrc, iRng1, iRng2, iEnumS, iZipS, tBreak, tCont, gSub, tAug, tMth, tMakeS, tM1, tM0, tFld, cxOf]
        exact Fin.ret (d := D.bl false) hm2 c1 ((Rep.bl _)) rfl (.inl rfl)
      ·
        refine w_seq ?_
        refine w_ifS ?_
        try dsimp only [tAsg, tRet, tRetN, tOp, tUn, tTest, tB, tCons, tNil, tCB, tC, tNext, tCallS, tDrop, tNot, tNotV, tSl, tNoPart, tPart, tBM, tBM0, iList, iTup, iStr, iSrc, iRng1, iRng2, iEnumS, iZipS, tBreak, tCont, gSub, tAug, tMth, tMakeS, tM1, tM0, tFld, cxOf]
        refine w_lc ?_
        try dsimp only [tAsg, tRet, tRetN, tOp, tUn, tTest, tB, tCons, tNil, tCB, tC, tNext, tCallS, tDrop, tNot, tNotV, tSl, tNoPart, tPart, tBM, tBM0, iList, iTup, iStr, iSrc, iRng1, iRng2, iEnumS, iZipS, tBreak, tCont, gSub, tAug, tMth, tMakeS, tM1, tM0, tFld, cxOf]
        refine s_var c1 (i := 1) rfl fun v4 r5 => ?_
        have sl6 := lenL (show Rep K _ _ ((eL (eT (eP D.int D.int))) rows) from r5)
        obtain ⟨a6, q6, x6, it6⟩ := x_list c1 (show Rep K _ _ ((eL (eT (eP D.int D.int))) rows) from r5)
        refine ⟨a6, q6, x6, ?_⟩
        refine s_compM (vs := [4]) (en := (eP D.int D.int)) (ss' := fun z7 => [.val (D.int width), .val ((eL (eT (eP D.int D.int))) rows), .val ((eT (eP D.int D.int)) wanted), .val ((eT (eP D.int D.int)) x_), .val ((eT (eP D.int D.int)) z7), .un, .un]) s hm3 c1 it6 (.inl (by decide)) (tg_name (by decide)) (fun _ => rfl) sl6 (fun B7 z7 F7 H7 σ7 P7 G7 Sk7 hio7 s7 h7 zm7 e7 c7 kd7 ks7 => ?_) (fun v7 bs7 HH7 hm7 q7 => ?_)
        ·
          replace s7 := s7 7 (fun _ _ _ _ => False) (ecl ad)
          try dsimp only [tAsg, tRet, tRetN, tOp, tUn, tTest, tB, tCons, tNil, tCB, tC, tNext, tCallS, tDrop, tNot, tNotV, tSl, tNoPart, tPart, tBM, tBM0, iList, iTup, iStr, iSrc, iRng1, iRng2, iEnumS, iZipS, tBreak, tCont, gSub, tAug, tMth, tMakeS, tM1, tM0, tFld, cxOf]
          refine s_var c7 (i := 4) rfl fun v8 r9 => ?_
          refine s_var c7 (i := 3) rfl fun v10 r11 => ?_
          refine s_call (ps := (fun x : ((List (Int × Int)) × (List (Int × Int))) => [(eT (eP D.int D.int)) x.1, (eT (eP D.int D.int)) x.2])) (m := (fun x => m__law_dot x.1 x.2)) (x := (z7, x_)) s7 h7 c7 rfl (Reps.cons (show Rep K _ _ ((eT (eP D.int D.int)) z7) from r9) (Reps.cons (show Rep K _ _ ((eT (eP D.int D.int)) x_) from r11) Reps.nil)) fun y12 v12 F12 H12 hm12 e12 c12 r12 => ?_
          exact kd7 _ _ _ _ _ _ hm12 c12 (show Rep K _ _ ((eP D.int D.int) y12) from r12)
        ·
          obtain ⟨F13, e13, c13, r13⟩ := q7
          obtain ⟨F14, e14, c14, r14⟩ := Nw.frz c13 r13
          refine n_tupL c14 (show Rep K _ _ ((eL (eP D.int D.int)) bs7) from r14) fun v15 F15 H15 e15 c15 r15 => ?_
          refine s_var c15 (i := 2) rfl fun v16 r17 => ?_
          refine s_neD (en := (eT (eP D.int D.int))) c15 (show Rep K _ _ ((eT (eP D.int D.int)) bs7) from r15) (show Rep K _ _ ((eT (eP D.int D.int)) wanted) from r17) ?_
          refine s_test' ?_
          refine s_ite hm7 (fun _ hm18 => ?_) (fun _ hm19 => ?_)
          ·
            try try dsimp only [tAsg, tRet, tRetN, tOp, tUn, tTest, tB, tCons, tNil, tCB, tC, tNext, tCallS, tDrop, tNot, tNotV, tSl, tNoPart, tPart, tBM, tBM0, iList, iTup, iStr, iSrc, iRng1, iRng2, iEnumS, iZipS, tBreak, tCont, gSub, tAug, tMth, tMakeS, tM1, tM0, tFld, cxOf]
            exact Fin.ret (d := D.bl false) hm18 c15 ((Rep.bl _)) rfl (.inl rfl)
          ·
            refine w_seq ?_
            try try dsimp only [tAsg, tRet, tRetN, tOp, tUn, tTest, tB, tCons, tNil, tCB, tC, tNext, tCallS, tDrop, tNot, tNotV, tSl, tNoPart, tPart, tBM, tBM0, iList, iTup, iStr, iSrc, iRng1, iRng2, iEnumS, iZipS, tBreak, tCont, gSub, tAug, tMth, tMakeS, tM1, tM0, tFld, cxOf]
            refine s_varI c15 (i := 0) rfl ?_
            refine s_var c15 (i := 1) rfl fun v20 r21 => ?_
            refine s_call (ps := (fun x : (Int × (List (List (Int × Int)))) => [D.int x.1, (eL (eT (eP D.int D.int))) x.2])) (m := (fun x => m__law_echelon x.1 x.2)) (x := (width, rows)) s hm19 c15 rfl (Reps.cons (show Rep K _ _ (D.int width) from (Rep.int _)) (Reps.cons (show Rep K _ _ ((eL (eT (eP D.int D.int))) rows) from r21) Reps.nil)) fun y22 v22 F22 H22 hm22 e22 c22 r22 => ?_
            refine s_call (ps := (fun x : (List (List (Int × Int))) => [(eL (eT (eP D.int D.int))) x])) (m := (fun x => m__law_pivots x)) (x := (y22)) s hm22 c22 rfl (Reps.cons (show Rep K _ _ ((eL (eT (eP D.int D.int))) y22) from r22) Reps.nil) fun y23 v23 F23 H23 hm23 e23 c23 r23 => ?_
            refine s_set (i := 5) (d := (eL D.int) y23) (ss' := [.val (D.int width), .val ((eL (eT (eP D.int D.int))) rows), .val ((eT (eP D.int D.int)) wanted), .val ((eT (eP D.int D.int)) x_), .un, .val ((eL D.int) y23), .un]) c23 (.inl (by decide)) (r23) rfl fun σ c24 => ?_
            try try dsimp only [tAsg, tRet, tRetN, tOp, tUn, tTest, tB, tCons, tNil, tCB, tC, tNext, tCallS, tDrop, tNot, tNotV, tSl, tNoPart, tPart, tBM, tBM0, iList, iTup, iStr, iSrc, iRng1, iRng2, iEnumS, iZipS, tBreak, tCont, gSub, tAug, tMth, tMakeS, tM1, tM0, tFld, cxOf]
            refine w_lc ?_
            try dsimp only [tAsg, tRet, tRetN, tOp, tUn, tTest, tB, tCons, tNil, tCB, tC, tNext, tCallS, tDrop, tNot, tNotV, tSl, tNoPart, tPart, tBM, tBM0, iList, iTup, iStr, iSrc, iRng1, iRng2, iEnumS, iZipS, tBreak, tCont, gSub, tAug, tMth, tMakeS, tM1, tM0, tFld, cxOf]
            refine s_varI c24 (i := 0) rfl ?_
            obtain ⟨zs27, q25, hm26, b25, hl25, it25⟩ := x_rngL (F := F23) s hm23
            replace it25 := it_rng1 it25
            refine ⟨_, rfl, b25.2.2.1, b25.2.2.2, ?_⟩
            refine s_compF (vs := [6]) (en := D.bl) (ss' := fun z28 => [.val (D.int width), .val ((eL (eT (eP D.int D.int))) rows), .val ((eT (eP D.int D.int)) wanted), .val ((eT (eP D.int D.int)) x_), .un, .val ((eL D.int) y23), .val (D.int z28)]) s hm26 c24 it25 (.inl (by decide)) (tg_name (by decide)) (fun _ => rfl) hl25 (fun B28 z28 F28 H28 σ28 P28 G28 Sk28 hio28 s28 h28 zm28 e28 c28 kd28 ks28 => ?_) (fun v28 bs28 HH28 hm28 q28 => ?_)
            ·
              replace s28 := s28 7 (fun _ _ _ _ => False) (ecl ad)
              try dsimp only [tAsg, tRet, tRetN, tOp, tUn, tTest, tB, tCons, tNil, tCB, tC, tNext, tCallS, tDrop, tNot, tNotV, tSl, tNoPart, tPart, tBM, tBM0, iList, iTup, iStr, iSrc, iRng1, iRng2, iEnumS, iZipS, tBreak, tCont, gSub, tAug, tMth, tMakeS, tM1, tM0, tFld, cxOf]
              refine s_varI c28 (i := 6) rfl ?_
              refine s_var c28 (i := 5) rfl fun v29 r30 => ?_
              refine s_notInIL c28 (show Rep K _ _ ((eL D.int) y23) from r30) ?_
              refine s_test' ?_
              refine s_ite h28 (fun _ hm31 => ?_) (fun _ hm32 => ?_)
              ·
                refine s_var c28 (i := 3) rfl fun v33 r34 => ?_
                refine s_varI c28 (i := 6) rfl ?_
                refine s_ixTv (en := (eP D.int D.int)) s28 hm31 c28 (show Rep K _ _ ((eT (eP D.int D.int)) x_) from r34) fun x35 v38 q37 hm36 r39 => ?_
                refine w_tup ?_
                try dsimp only [tAsg, tRet, tRetN, tOp, tUn, tTest, tB, tCons, tNil, tCB, tC, tNext, tCallS, tDrop, tNot, tNotV, tSl, tNoPart, tPart, tBM, tBM0, iList, iTup, iStr, iSrc, iRng1, iRng2, iEnumS, iZipS, tBreak, tCont, gSub, tAug, tMth, tMakeS, tM1, tM0, tFld, cxOf]
                refine n_tup c28 (Reps.cons (Rep.int _) (Reps.cons (Rep.int _) Reps.nil)) (by show (2 : Nat) ≤ sizeLine; decide) fun v40 F40 H40 e40 c40 r40 => ?_
                refine s_eqD (en := (eP D.int D.int)) c40 (show Rep K _ _ ((eP D.int D.int) x35) from (r39.mono e40)) (show Rep K _ _ ((eP D.int D.int) ((0 : Int), (1 : Int))) from r40) ?_
                exact kd28 _ _ _ _ _ _ hm36 c40 (show Rep K _ _ (D.bl (decide (x35 = ((0 : Int), (1 : Int))))) from (Rep.bl _))
              ·
                exact ks28 _ _ _ _ hm32 c28
            ·
              obtain ⟨F41, e41, c41, r41⟩ := q28
              obtain ⟨F42, e42, c42, r42⟩ := Nw.frz c41 r41
              refine s_all c42 (show Rep K _ _ ((eL D.bl) bs28) from r42) ?_
              exact Fin.ret (d := D.bl (List.all bs28 id)) hm28 c42 ((Rep.bl _)) rfl (.inl rfl)
    ·
      refine w_orT ?_
      try dsimp only [tAsg, tRet, tRetN, tOp, tUn, tTest, tB, tCons, tNil, tCB, tC, tNext, tCallS, tDrop, tNot, tNotV, tSl, tNoPart, tPart, tBM, tBM0, iList, iTup, iStr, iSrc, iRng1, iRng2, iEnumS, iZipS, tBreak, tCont, gSub, tAug, tMth, tMakeS, tM1, tM0, tFld, cxOf]
      refine s_var c0 (i := 3) rfl fun v43 r44 => ?_
      refine s_isiT (b := true) c0 (show Rep K _ _ ((eT (eP D.int D.int)) x_) from r44) ⟨_, rfl⟩ (kit_ty (by decide +kernel)) ?_
      refine s_test' ?_
      refine s_ite h1 (fun _ hm45 => ?_) (fun _ hm46 => ?_)
      ·
        exact kn1 _ _ _ hm45 (Ex.refl _) c0
      ·
        refine s_var c0 (i := 3) rfl fun v47 r48 => ?_
        refine n_lenT c0 (show Rep K _ _ ((eT (eP D.int D.int)) x_) from r48) ?_
        refine s_varI c0 (i := 0) rfl ?_
        refine s_neI ?_
        refine s_test' ?_
        exact kn1 _ _ _ hm46 (Ex.refl _) c0
@[irreducible] def m__law_told (way : Int) (width : Int) (rows : (List (List (Int × Int)))) (wanted : (List (Int × Int))) : Res ((List (Int × Int)) ⊕ Str) :=
  tryC live_PlaneError ((ix ([m_solution, m_clash] : List (Int → (List (List (Int × Int))) → (List (Int × Int)) → Res (List (Int × Int)))) way).bind fun g2 =>
  (g2 width rows wanted).bind fun y14 =>
  Res.ok (Sum.inl y14)) (fun ex1 =>
  (reprR (eL D.int) [(if (is_NoAnswer ex1) = true then 1 else 0 : Int), (if (is_NotMatrix ex1) = true then 1 else 0 : Int)]).bind fun x18 =>
  (catS (Str.ofString "!") x18).bind fun x21 =>
  Res.ok (Sum.inr x21))
abbrev sp__law_told (K : PySem.W.Frag) (ad : Nat → Addr) : Sp := SpP (π := (Int × Int × (List (List (Int × Int))) × (List (Int × Int)))) K (ecl ad) (fun x => [D.int x.1, D.int x.2.1, (eL (eT (eP D.int D.int))) x.2.2.1, (eT (eP D.int D.int)) x.2.2.2]) (fun x => m__law_told x.1 x.2.1 x.2.2.1 x.2.2.2) (fun y => .val ((eS (eT (eP D.int D.int)) D.str) y))
theorem ok__law_told (T : Txt K w mg ad fd) : Cm P w K mg base 7 (ad 48) (fd 48) ["way", "width", "rows", "wanted"] (sp__law_told K ad) := by
  refine ⟨T.f__law_told.okG sc__law_told (fun vs H Q E h => ?_) (fun cdv A outer sh H0 vs Q E gd hr h => ?_), T.f__law_told.binds (ps := ["way", "width", "rows", "wanted"]) fun _ _ _ _ _ _ us hl => match us, hl with | [_, _, _, _], _ => rfl⟩
  · obtain ⟨F, x, _, r, _⟩ := h
    exact r.length
  · obtain ⟨F0, ⟨way, width, rows, wanted⟩, fh0, r0, hm⟩ := h
    have hu := hr.units
    have r0 : Reps K F0 vs [D.int way, D.int width, (eL (eT (eP D.int D.int))) rows, (eT (eP D.int D.int)) wanted] := r0
    have c0 : Ctx K ⟨F0, H0, none⟩ F0 H0 (start ["way", "width", "rows", "wanted", "error"] vs) [.val (D.int way), .val (D.int width), .val ((eL (eT (eP D.int D.int))) rows), .val ((eT (eP D.int D.int)) wanted), .un] := ctx_start fh0 r0 rfl (by show (4 : Nat) ≤ 5; decide)
    have s := Fin.sct (K := K) (B := ⟨F0, H0, none⟩) (n := 5) (cl := ecl ad) (rt := fun y => .val ((eS (eT (eP D.int D.int)) D.str) y)) (out := fun _ : ((List (Int × Int)) ⊕ Str) => []) (Q := Q) (E := E)
    refine ⟨_, (pss_one (ps_tryA (K := K) (i := 4) rfl rfl sc__law_told.nd rfl rfl ⟨rfl, by decide, Or.inl T.g_PlaneError⟩ (L2N.takes_of rfl rfl rfl rfl)
    (fun W pn xe tk hp => (pss_one (ps_ret (pe_callVG (C := fun f sp => (f = ad 30 ∧ sp = sp_solution K ad) ∨ (f = ad 31 ∧ sp = sp_clash K ad)) (by
      intro f sp h
      rcases h with ⟨rfl, rfl⟩ | ⟨rfl, rfl⟩
      · exact ⟨⟨_, _, _, (ok_solution T (P := P) (w := w) (base := base)).ok, hr.mono (by decide), T.f_solution.kp, (ok_solution T (P := P) (w := w) (base := base)).b⟩⟩
      · exact ⟨⟨_, _, _, (ok_clash T (P := P) (w := w) (base := base)).ok, hr.mono (by decide), T.f_clash.kp, (ok_clash T (P := P) (w := w) (base := base)).b⟩⟩
      ) gd (pe_ix (ix_listK (K := K)) (pe_lst (pa_cons (pe_globR (f := ad 30) T.g_solution) (pa_cons (pe_globR (f := ad 31) T.g_clash) pa_nil))) (pv 0) (fun _ _ => rfl)) tk (pa_cons (pv 1) (pa_cons (pv 2) (pa_cons (pv 3) pa_nil)))))))
    (fun a oe cls d pn hz hf => by exact (pss_one (ps_ret (pe_op o_catS pe_str (pe_callTy (T := "str") (c_strL gd hu (by rfl)) (by rfl) T.m_str (by decide +kernel) (pa_cons (pe_lst (pa_cons (pe_callTy (T := "int") c_int (by rfl) T.m_int (by decide +kernel) (pa_cons (pe_callB (call_isX (K := K) (L2N.Zn.zc hz) hf) (by rfl) T.m_isinstance (by decide +kernel) (pa_cons (pv 4) (pa_cons (pe_globR (f := ad 6) T.g_NoAnswer) pa_nil))) pa_nil)) (pa_cons (pe_callTy (T := "int") c_int (by rfl) T.m_int (by decide +kernel) (pa_cons (pe_callB (call_isX (K := K) (L2N.Zn.zc hz) hf) (by rfl) T.m_isinstance (by decide +kernel) (pa_cons (pv 4) (pa_cons (pe_globR (f := ad 4) T.g_NotMatrix) pa_nil))) pa_nil)) pa_nil))) pa_nil)))))))), ?_⟩
    generalize start _ _ = σ at c0 ⊢
    try dsimp only [tAsg, tRet, tRetN, tOp, tUn, tTest, tB, tCons, tNil, tCB, tC, tNext, tCallS, tDrop, tNot, tNotV, tSl, tNoPart, tPart, tBM, tBM0, iList, iTup, iStr, iSrc, iRng1, iRng2, iEnumS, iZipS, tBreak, tCont, gSub, tAug, tMth, tMakeS, tM1, tM0, tFld, cxOf]
    try dsimp only at hm
    unfold m__law_told at hm
    try try dsimp only [tAsg, tRet, tRetN, tOp, tUn, tTest, tB, tCons, tNil, tCB, tC, tNext, tCallS, tDrop, tNot, tNotV, tSl, tNoPart, tPart, tBM, tBM0, iList, iTup, iStr, iSrc, iRng1, iRng2, iEnumS, iZipS, tBreak, tCont, gSub, tAug, tMth, tMakeS, tM1, tM0, tFld, cxOf]
    refine s_try (live := live_PlaneError) s hm (fun P1 s1 h1 kr1 => ?bd1) (fun ex1 hl1 hs1 σ F1 H1 c1 => ?su1)
    case bd1 =>
      try dsimp only [tAsg, tRet, tRetN, tOp, tUn, tTest, tB, tCons, tNil, tCB, tC, tNext, tCallS, tDrop, tNot, tNotV, tSl, tNoPart, tPart, tBM, tBM0, iList, iTup, iStr, iSrc, iRng1, iRng2, iEnumS, iZipS, tBreak, tCont, gSub, tAug, tMth, tMakeS, tM1, tM0, tFld, cxOf]
      try try dsimp only [tAsg, tRet, tRetN, tOp, tUn, tTest, tB, tCons, tNil, tCB, tC, tNext, tCallS, tDrop, tNot, tNotV, tSl, tNoPart, tPart, tBM, tBM0, iList, iTup, iStr, iSrc, iRng1, iRng2, iEnumS, iZipS, tBreak, tCont, gSub, tAug, tMth, tMakeS, tM1, tM0, tFld, cxOf]
      refine w_callV ?_
      try dsimp only [tAsg, tRet, tRetN, tOp, tUn, tTest, tB, tCons, tNil, tCB, tC, tNext, tCallS, tDrop, tNot, tNotV, tSl, tNoPart, tPart, tBM, tBM0, iList, iTup, iStr, iSrc, iRng1, iRng2, iEnumS, iZipS, tBreak, tCont, gSub, tAug, tMth, tMakeS, tM1, tM0, tFld, cxOf]
      refine w_lst ?_
      try dsimp only [tAsg, tRet, tRetN, tOp, tUn, tTest, tB, tCons, tNil, tCB, tC, tNext, tCallS, tDrop, tNot, tNotV, tSl, tNoPart, tPart, tBM, tBM0, iList, iTup, iStr, iSrc, iRng1, iRng2, iEnumS, iZipS, tBreak, tCont, gSub, tAug, tMth, tMakeS, tM1, tM0, tFld, cxOf]
      refine s_lstV c0 (by show (2 : Nat) ≤ sizeLine; decide) fun a2 H2 c2 l2 => ?_
      refine s_varI c2 (i := 0) rfl ?_
      refine s_pickV s1 h1 l2 rfl fun j2 x2 g2 hx2 hg2 hm3 => ?_
      rcases j2 with _ | (_ | j2)
      ·
        cases hx2; cases hg2
        try dsimp only at hm3
        refine ⟨_, _, rfl, .inl ⟨rfl, rfl⟩, ?_⟩
        try dsimp only [tAsg, tRet, tRetN, tOp, tUn, tTest, tB, tCons, tNil, tCB, tC, tNext, tCallS, tDrop, tNot, tNotV, tSl, tNoPart, tPart, tBM, tBM0, iList, iTup, iStr, iSrc, iRng1, iRng2, iEnumS, iZipS, tBreak, tCont, gSub, tAug, tMth, tMakeS, tM1, tM0, tFld, cxOf]
        refine s_varI c2 (i := 1) rfl ?_
        refine s_var c2 (i := 2) rfl fun v4 r5 => ?_
        refine s_var c2 (i := 3) rfl fun v6 r7 => ?_
        refine s_call (ps := (fun x : (Int × (List (List (Int × Int))) × (List (Int × Int))) => [D.int x.1, (eL (eT (eP D.int D.int))) x.2.1, (eT (eP D.int D.int)) x.2.2])) (m := (fun x => m_solution x.1 x.2.1 x.2.2)) (x := (width, rows, wanted)) s1 hm3 c2 rfl (Reps.cons (show Rep K _ _ (D.int width) from (Rep.int _)) (Reps.cons (show Rep K _ _ ((eL (eT (eP D.int D.int))) rows) from r5) (Reps.cons (show Rep K _ _ ((eT (eP D.int D.int)) wanted) from r7) Reps.nil))) fun y8 v8 F8 H8 hm8 e8 c8 r8 => ?_
        have hm9 := kr1 _ hm8
        exact Fin.ret (d := (eS (eT (eP D.int D.int)) D.str) (Sum.inl y8)) hm9 c8 (r8) rfl (.inl rfl)
      ·
        cases hx2; cases hg2
        try dsimp only at hm3
        refine ⟨_, _, rfl, .inr (⟨rfl, rfl⟩), ?_⟩
        try dsimp only [tAsg, tRet, tRetN, tOp, tUn, tTest, tB, tCons, tNil, tCB, tC, tNext, tCallS, tDrop, tNot, tNotV, tSl, tNoPart, tPart, tBM, tBM0, iList, iTup, iStr, iSrc, iRng1, iRng2, iEnumS, iZipS, tBreak, tCont, gSub, tAug, tMth, tMakeS, tM1, tM0, tFld, cxOf]
        refine s_varI c2 (i := 1) rfl ?_
        refine s_var c2 (i := 2) rfl fun v10 r11 => ?_
        refine s_var c2 (i := 3) rfl fun v12 r13 => ?_
        refine s_call (ps := (fun x : (Int × (List (List (Int × Int))) × (List (Int × Int))) => [D.int x.1, (eL (eT (eP D.int D.int))) x.2.1, (eT (eP D.int D.int)) x.2.2])) (m := (fun x => m_clash x.1 x.2.1 x.2.2)) (x := (width, rows, wanted)) s1 hm3 c2 rfl (Reps.cons (show Rep K _ _ (D.int width) from (Rep.int _)) (Reps.cons (show Rep K _ _ ((eL (eT (eP D.int D.int))) rows) from r11) (Reps.cons (show Rep K _ _ ((eT (eP D.int D.int)) wanted) from r13) Reps.nil))) fun y14 v14 F14 H14 hm14 e14 c14 r14 => ?_
        have hm15 := kr1 _ hm14
        exact Fin.ret (d := (eS (eT (eP D.int D.int)) D.str) (Sum.inl y14)) hm15 c14 (r14) rfl (.inl rfl)
      ·
        exact absurd hx2 (by simp)
    case su1 =>
      refine s_wAs (exm_PlaneError T ex1 hl1) c1 (by decide) (by first | exact Or.inl (by decide) | exact Or.inr rfl) (fun a1 σ ha1 c16 hv1 => ?_)
      try dsimp only [tAsg, tRet, tRetN, tOp, tUn, tTest, tB, tCons, tNil, tCB, tC, tNext, tCallS, tDrop, tNot, tNotV, tSl, tNoPart, tPart, tBM, tBM0, iList, iTup, iStr, iSrc, iRng1, iRng2, iEnumS, iZipS, tBreak, tCont, gSub, tAug, tMth, tMakeS, tM1, tM0, tFld, cxOf]
      try try dsimp only [tAsg, tRet, tRetN, tOp, tUn, tTest, tB, tCons, tNil, tCB, tC, tNext, tCallS, tDrop, tNot, tNotV, tSl, tNoPart, tPart, tBM, tBM0, iList, iTup, iStr, iSrc, iRng1, iRng2, iEnumS, iZipS, tBreak, tCont, gSub, tAug, tMth, tMakeS, tM1, tM0, tFld, cxOf]
      refine w_lst ?_
      try dsimp only [tAsg, tRet, tRetN, tOp, tUn, tTest, tB, tCons, tNil, tCB, tC, tNext, tCallS, tDrop, tNot, tNotV, tSl, tNoPart, tPart, tBM, tBM0, iList, iTup, iStr, iSrc, iRng1, iRng2, iEnumS, iZipS, tBreak, tCont, gSub, tAug, tMth, tMakeS, tM1, tM0, tFld, cxOf]
      refine ⟨_, hv1, ?_⟩
      refine s_isX (excc T ex1 hl1) (kit_NoAnswer T ex1 hl1) ?_
      refine n_intB ?_
      refine ⟨_, hv1, ?_⟩
      refine s_isX (excc T ex1 hl1) (kit_NotMatrix T ex1 hl1) ?_
      refine n_intB ?_
      refine n_lst c16 (Reps.cons (Rep.int _) (Reps.cons (Rep.int _) Reps.nil)) (by show (2 : Nat) ≤ sizeLine; decide) fun v17 F17 H17 e17 c17 r17 => ?_
      refine n_strL (en := D.int) s hs1 c17 (show Rep K _ _ ((eL D.int) [(if (is_NoAnswer ex1) = true then 1 else 0 : Int), (if (is_NotMatrix ex1) = true then 1 else 0 : Int)]) from r17) fun x18 q20 hm19 => ?_
      refine n_catS s hm19 fun x21 q23 hm22 => ?_
      exact Fin.ret (d := (eS (eT (eP D.int D.int)) D.str) (Sum.inr x21)) hm22 c17 (((Rep.str _).mono e17)) rfl (.inl rfl)
@[irreducible] def m__law_clashes (width : Int) (rows : (List (List (Int × Int)))) (wanted : (List (Int × Int))) (y : (List (Int × Int))) : Res Bool :=
  (rngL 0 width).bind fun zs3 =>
  (mapR (fun z4 =>
    (mapR (fun z8 =>
    (ix z8 z4).bind fun x11 =>
  Res.ok x11) rows).bind fun bs8 =>
  Res.ok bs8) zs3).bind fun bs4 =>
  (repLR [((0 : Int), (1 : Int))] width).bind fun x24 =>
  (catR bs4 [wanted]).bind fun x36 =>
  (catR x24 [((1 : Int), (1 : Int))]).bind fun x44 =>
  (m__law_solves (rows.length : Int) x36 x44 y).bind fun y51 =>
  Res.ok y51
abbrev sp__law_clashes (K : PySem.W.Frag) (ad : Nat → Addr) : Sp := SpP (π := (Int × (List (List (Int × Int))) × (List (Int × Int)) × (List (Int × Int)))) K (ecl ad) (fun x => [D.int x.1, (eL (eT (eP D.int D.int))) x.2.1, (eT (eP D.int D.int)) x.2.2.1, (eT (eP D.int D.int)) x.2.2.2]) (fun x => m__law_clashes x.1 x.2.1 x.2.2.1 x.2.2.2) (fun y => .val (D.bl y))
theorem ok__law_clashes (T : Txt K w mg ad fd) : Cm P w K mg base 7 (ad 51) (fd 51) ["width", "rows", "wanted", "y"] (sp__law_clashes K ad) := by
  refine ⟨T.f__law_clashes.okG sc__law_clashes (fun vs H Q E h => ?_) (fun cdv A outer sh H0 vs Q E gd hr h => ?_), T.f__law_clashes.binds (ps := ["width", "rows", "wanted", "y"]) fun _ _ _ _ _ _ us hl => match us, hl with | [_, _, _, _], _ => rfl⟩
  · obtain ⟨F, x, _, r, _⟩ := h
    exact r.length
  · obtain ⟨F0, ⟨width, rows, wanted, y⟩, fh0, r0, hm⟩ := h
    have hu := hr.units
    have r0 : Reps K F0 vs [D.int width, (eL (eT (eP D.int D.int))) rows, (eT (eP D.int D.int)) wanted, (eT (eP D.int D.int)) y] := r0
    have c0 : Ctx K ⟨F0, H0, none⟩ F0 H0 (start ["width", "rows", "wanted", "y", "columns", "row", "at", "zeros"] vs) [.val (D.int width), .val ((eL (eT (eP D.int D.int))) rows), .val ((eT (eP D.int D.int)) wanted), .val ((eT (eP D.int D.int)) y), .un, .un, .un, .un] := ctx_start fh0 r0 rfl (by show (4 : Nat) ≤ 8; decide)
    have s := Fin.sct (K := K) (B := ⟨F0, H0, none⟩) (n := 8) (cl := ecl ad) (rt := fun y => .val (D.bl y)) (out := fun _ : Bool => []) (Q := Q) (E := E)
    refine ⟨_, (pss_cons (ps_setLc (i := 4) (own := [("at", 6)]) rfl sc__law_clashes.nd rfl rfl (sw_true rfl rfl rfl (by decide +kernel)) (pi_range1 rfl T.m_range (pa_cons (pv 0) pa_nil)) (blkOk_by (N := ["width", "rows", "wanted", "y", "columns", "row", "at", "zeros"]) (sc := defScope s__law_clashes) (by decide +kernel)) (fun _ _ _ _ _ => (pg_name (i := 6) sc__law_clashes.nd rfl (by first | exact Or.inl rfl | exact Or.inr rfl))) (fun _ _ _ _ _ => pts_nil) (fun _ _ _ _ _ => (pe_callTy (T := "tuple") (c_tuple (K := K)) (by rfl) T.m_tuple (by decide +kernel) (pa_cons (pe_lc (own := [("row", 5)]) rfl sc__law_clashes.nd (pi_listK (K := K) (pv 1)) (blkOk_cast (N := ["width", "rows", "wanted", "y", "columns", "row", "at", "zeros"]) (sc := { kind := PySem.ScopeKind.function, names := [ (PySem.Str.ofString ".0", PySem.NameKind.local), (PySem.Str.ofString "at", PySem.NameKind.cell), (PySem.Str.ofString "tuple", PySem.NameKind.globalImplicit), (PySem.Str.ofString "rows", PySem.NameKind.cell)], isGenerator := false, isCoroutine := false, more := [] : PySem.Scope }) (by decide +kernel) (by rfl) (by rfl)) (fun _ _ _ _ _ => (pg_name (i := 5) sc__law_clashes.nd rfl (by first | exact Or.inl rfl | exact Or.inr rfl))) (fun _ _ _ _ _ => pts_nil) (fun _ _ _ _ _ => (pe_ix (ix_tupK (K := K)) (pv 5) (pv 6) (fun _ _ => rfl)))) pa_nil))))
    (pss_cons (ps_set (i := 7) sc__law_clashes.nd rfl (by first | exact Or.inl rfl | exact Or.inr rfl) (pe_op op_rep (pe_lst (pa_cons (pe_tup (pa_cons pe_int (pa_cons pe_int pa_nil))) pa_nil)) (pv 0)))
    (pss_one (ps_ret (pe_cm (ok__law_solves T (P := P) (w := w) (base := base)) gd (hr.mono (by decide)) T.g__law_solves T.f__law_solves.kp (L2N.takes_of rfl rfl rfl rfl) (pa_cons (pe_callB (c_len (K := K)) (by rfl) T.m_len PySem.boot_len (pa_cons (pv 1) pa_nil)) (pa_cons (pe_op op_cat (pv 4) (pe_lst (pa_cons (pv 2) pa_nil))) (pa_cons (pe_callTy (T := "tuple") (c_tuple (K := K)) (by rfl) T.m_tuple (by decide +kernel) (pa_cons (pe_op op_cat (pv 7) (pe_lst (pa_cons (pe_tup (pa_cons pe_int (pa_cons pe_int pa_nil))) pa_nil))) pa_nil)) (pa_cons (pv 3) pa_nil))))))))), ?_⟩
    generalize start _ _ = σ at c0 ⊢
    try dsimp only [tAsg, tRet, tRetN, tOp, tUn, tTest, tB, tCons, tNil, tCB, tC, tNext, tCallS, tDrop, tNot, tNotV, tSl, tNoPart, tPart, tBM, tBM0, iList, iTup, iStr, iSrc, iRng1, iRng2, iEnumS, iZipS, tBreak, tCont, gSub, tAug, tMth, tMakeS, tM1, tM0, tFld, cxOf]
    try dsimp only at hm
    unfold m__law_clashes at hm
    refine w_seq ?_
    try try dsimp only [tAsg, tRet, tRetN, tOp, tUn, tTest, tB, tCons, tNil, tCB, tC, tNext, tCallS, tDrop, tNot, tNotV, tSl, tNoPart, tPart, tBM, tBM0, iList, iTup, iStr, iSrc, iRng1, iRng2, iEnumS, iZipS, tBreak, tCont, gSub, tAug, tMth, tMakeS, tM1, tM0, tFld, cxOf]
    refine w_lc ?_
    try dsimp only [tAsg, tRet, tRetN, tOp, tUn, tTest, tB, tCons, tNil, tCB, tC, tNext, tCallS, tDrop, tNot, tNotV, tSl, tNoPart, tPart, tBM, tBM0, iList, iTup, iStr, iSrc, iRng1, iRng2, iEnumS, iZipS, tBreak, tCont, gSub, tAug, tMth, tMakeS, tM1, tM0, tFld, cxOf]
    refine s_varI c0 (i := 0) rfl ?_
    obtain ⟨zs3, q1, hm2, b1, hl1, it1⟩ := x_rngL (F := F0) s hm
    replace it1 := it_rng1 it1
    refine ⟨_, rfl, b1.2.2.1, b1.2.2.2, ?_⟩
    refine s_compM (vs := [6]) (en := (eT (eP D.int D.int))) (ss' := fun z4 => [.val (D.int width), .val ((eL (eT (eP D.int D.int))) rows), .val ((eT (eP D.int D.int)) wanted), .val ((eT (eP D.int D.int)) y), .un, .un, .val (D.int z4), .un]) s hm2 c0 it1 (.inl (by decide)) (tg_name (by decide)) (fun _ => rfl) hl1 (fun B4 z4 F4 H4 σ4 P4 G4 Sk4 hio4 s4 h4 zm4 e4 c4 kd4 ks4 => ?_) (fun v4 bs4 HH4 hm4 q4 => ?_)
    ·
      replace s4 := s4 8 (fun _ _ _ _ => False) (ecl ad)
      try dsimp only [tAsg, tRet, tRetN, tOp, tUn, tTest, tB, tCons, tNil, tCB, tC, tNext, tCallS, tDrop, tNot, tNotV, tSl, tNoPart, tPart, tBM, tBM0, iList, iTup, iStr, iSrc, iRng1, iRng2, iEnumS, iZipS, tBreak, tCont, gSub, tAug, tMth, tMakeS, tM1, tM0, tFld, cxOf]
      refine w_lc ?_
      try dsimp only [tAsg, tRet, tRetN, tOp, tUn, tTest, tB, tCons, tNil, tCB, tC, tNext, tCallS, tDrop, tNot, tNotV, tSl, tNoPart, tPart, tBM, tBM0, iList, iTup, iStr, iSrc, iRng1, iRng2, iEnumS, iZipS, tBreak, tCont, gSub, tAug, tMth, tMakeS, tM1, tM0, tFld, cxOf]
      refine s_var c4 (i := 1) rfl fun v5 r6 => ?_
      have sl7 := lenL (show Rep K _ _ ((eL (eT (eP D.int D.int))) rows) from r6)
      obtain ⟨a7, q7, x7, it7⟩ := x_list c4 (show Rep K _ _ ((eL (eT (eP D.int D.int))) rows) from r6)
      refine ⟨a7, q7, x7, ?_⟩
      refine s_compM (vs := [5]) (en := (eP D.int D.int)) (ss' := fun z8 => [.val (D.int width), .val ((eL (eT (eP D.int D.int))) rows), .val ((eT (eP D.int D.int)) wanted), .val ((eT (eP D.int D.int)) y), .un, .val ((eT (eP D.int D.int)) z8), .val (D.int z4), .un]) s4 h4 c4 it7 (.inl (by decide)) (tg_name (by decide)) (fun _ => rfl) sl7 (fun B8 z8 F8 H8 σ8 P8 G8 Sk8 hio8 s8 h8 zm8 e8 c8 kd8 ks8 => ?_) (fun v8 bs8 HH8 hm8 q8 => ?_)
      ·
        replace s8 := s8 8 (fun _ _ _ _ => False) (ecl ad)
        try dsimp only [tAsg, tRet, tRetN, tOp, tUn, tTest, tB, tCons, tNil, tCB, tC, tNext, tCallS, tDrop, tNot, tNotV, tSl, tNoPart, tPart, tBM, tBM0, iList, iTup, iStr, iSrc, iRng1, iRng2, iEnumS, iZipS, tBreak, tCont, gSub, tAug, tMth, tMakeS, tM1, tM0, tFld, cxOf]
        refine s_var c8 (i := 5) rfl fun v9 r10 => ?_
        refine s_varI c8 (i := 6) rfl ?_
        refine s_ixTv (en := (eP D.int D.int)) s8 h8 c8 (show Rep K _ _ ((eT (eP D.int D.int)) z8) from r10) fun x11 v14 q13 hm12 r15 => ?_
        exact kd8 _ _ _ _ _ _ hm12 c8 (show Rep K _ _ ((eP D.int D.int) x11) from r15)
      ·
        obtain ⟨F16, e16, c16, r16⟩ := q8
        obtain ⟨F17, e17, c17, r17⟩ := Nw.frz c16 r16
        refine n_tupL c17 (show Rep K _ _ ((eL (eP D.int D.int)) bs8) from r17) fun v18 F18 H18 e18 c18 r18 => ?_
        exact kd4 _ _ _ _ _ _ hm8 c18 (show Rep K _ _ ((eT (eP D.int D.int)) bs8) from r18)
    ·
      obtain ⟨F19, e19, c19, r19⟩ := q4
      obtain ⟨F20, e20, c20, r20⟩ := Nw.frz c19 r19
      refine s_set (i := 4) (d := (eL (eT (eP D.int D.int))) bs4) (ss' := [.val (D.int width), .val ((eL (eT (eP D.int D.int))) rows), .val ((eT (eP D.int D.int)) wanted), .val ((eT (eP D.int D.int)) y), .val ((eL (eT (eP D.int D.int))) bs4), .un, .un, .un]) c20 (.inl (by decide)) (r20) rfl fun σ c21 => ?_
      refine w_seq ?_
      try try dsimp only [tAsg, tRet, tRetN, tOp, tUn, tTest, tB, tCons, tNil, tCB, tC, tNext, tCallS, tDrop, tNot, tNotV, tSl, tNoPart, tPart, tBM, tBM0, iList, iTup, iStr, iSrc, iRng1, iRng2, iEnumS, iZipS, tBreak, tCont, gSub, tAug, tMth, tMakeS, tM1, tM0, tFld, cxOf]
      refine w_lst ?_
      try dsimp only [tAsg, tRet, tRetN, tOp, tUn, tTest, tB, tCons, tNil, tCB, tC, tNext, tCallS, tDrop, tNot, tNotV, tSl, tNoPart, tPart, tBM, tBM0, iList, iTup, iStr, iSrc, iRng1, iRng2, iEnumS, iZipS, tBreak, tCont, gSub, tAug, tMth, tMakeS, tM1, tM0, tFld, cxOf]
      refine w_tup ?_
      try dsimp only [tAsg, tRet, tRetN, tOp, tUn, tTest, tB, tCons, tNil, tCB, tC, tNext, tCallS, tDrop, tNot, tNotV, tSl, tNoPart, tPart, tBM, tBM0, iList, iTup, iStr, iSrc, iRng1, iRng2, iEnumS, iZipS, tBreak, tCont, gSub, tAug, tMth, tMakeS, tM1, tM0, tFld, cxOf]
      refine n_tup c21 (Reps.cons (Rep.int _) (Reps.cons (Rep.int _) Reps.nil)) (by show (2 : Nat) ≤ sizeLine; decide) fun v22 F22 H22 e22 c22 r22 => ?_
      refine n_lst c22 (Reps.cons r22 Reps.nil) (by show (1 : Nat) ≤ sizeLine; decide) fun v23 F23 H23 e23 c23 r23 => ?_
      refine s_varI c23 (i := 0) rfl ?_
      refine s_repL s hm4 c23 (show Rep K _ _ ((eL (eP D.int D.int)) [((0 : Int), (1 : Int))]) from r23) fun x24 v26 H26 hm25 c26 r26 => ?_
      obtain ⟨F27, e27, c27, r27⟩ := Nw.frz c26 r26
      refine s_set (i := 7) (d := (eL (eP D.int D.int)) x24) (ss' := [.val (D.int width), .val ((eL (eT (eP D.int D.int))) rows), .val ((eT (eP D.int D.int)) wanted), .val ((eT (eP D.int D.int)) y), .val ((eL (eT (eP D.int D.int))) bs4), .un, .un, .val ((eL (eP D.int D.int)) x24)]) c27 (.inl (by decide)) (r27) rfl fun σ c28 => ?_
      try try dsimp only [tAsg, tRet, tRetN, tOp, tUn, tTest, tB, tCons, tNil, tCB, tC, tNext, tCallS, tDrop, tNot, tNotV, tSl, tNoPart, tPart, tBM, tBM0, iList, iTup, iStr, iSrc, iRng1, iRng2, iEnumS, iZipS, tBreak, tCont, gSub, tAug, tMth, tMakeS, tM1, tM0, tFld, cxOf]
      refine s_var c28 (i := 1) rfl fun v29 r30 => ?_
      refine n_lenL c28 (show Rep K _ _ ((eL (eT (eP D.int D.int))) rows) from r30) ?_
      refine s_var c28 (i := 4) rfl fun v31 r32 => ?_
      refine w_lst ?_
      try dsimp only [tAsg, tRet, tRetN, tOp, tUn, tTest, tB, tCons, tNil, tCB, tC, tNext, tCallS, tDrop, tNot, tNotV, tSl, tNoPart, tPart, tBM, tBM0, iList, iTup, iStr, iSrc, iRng1, iRng2, iEnumS, iZipS, tBreak, tCont, gSub, tAug, tMth, tMakeS, tM1, tM0, tFld, cxOf]
      refine s_var c28 (i := 2) rfl fun v33 r34 => ?_
      refine n_lst c28 (Reps.cons r34 Reps.nil) (by show (1 : Nat) ≤ sizeLine; decide) fun v35 F35 H35 e35 c35 r35 => ?_
      refine s_catL s hm25 c35 (show Rep K _ _ ((eL (eT (eP D.int D.int))) bs4) from (r32.mono e35)) (show Rep K _ _ ((eL (eT (eP D.int D.int))) [wanted]) from r35) fun x36 v38 H38 hm37 c38 r38 => ?_
      obtain ⟨F39, e39, c39, r39⟩ := Nw.frz c38 r38
      refine s_var c39 (i := 7) rfl fun v40 r41 => ?_
      refine w_lst ?_
      try dsimp only [tAsg, tRet, tRetN, tOp, tUn, tTest, tB, tCons, tNil, tCB, tC, tNext, tCallS, tDrop, tNot, tNotV, tSl, tNoPart, tPart, tBM, tBM0, iList, iTup, iStr, iSrc, iRng1, iRng2, iEnumS, iZipS, tBreak, tCont, gSub, tAug, tMth, tMakeS, tM1, tM0, tFld, cxOf]
      refine w_tup ?_
      try dsimp only [tAsg, tRet, tRetN, tOp, tUn, tTest, tB, tCons, tNil, tCB, tC, tNext, tCallS, tDrop, tNot, tNotV, tSl, tNoPart, tPart, tBM, tBM0, iList, iTup, iStr, iSrc, iRng1, iRng2, iEnumS, iZipS, tBreak, tCont, gSub, tAug, tMth, tMakeS, tM1, tM0, tFld, cxOf]
      refine n_tup c39 (Reps.cons (Rep.int _) (Reps.cons (Rep.int _) Reps.nil)) (by show (2 : Nat) ≤ sizeLine; decide) fun v42 F42 H42 e42 c42 r42 => ?_
      refine n_lst c42 (Reps.cons r42 Reps.nil) (by show (1 : Nat) ≤ sizeLine; decide) fun v43 F43 H43 e43 c43 r43 => ?_
      refine s_catL s hm37 c43 (show Rep K _ _ ((eL (eP D.int D.int)) x24) from (r41.mono (e42.trans e43))) (show Rep K _ _ ((eL (eP D.int D.int)) [((1 : Int), (1 : Int))]) from r43) fun x44 v46 H46 hm45 c46 r46 => ?_
      obtain ⟨F47, e47, c47, r47⟩ := Nw.frz c46 r46
      refine n_tupL c47 (show Rep K _ _ ((eL (eP D.int D.int)) x44) from r47) fun v48 F48 H48 e48 c48 r48 => ?_
      refine s_var c48 (i := 3) rfl fun v49 r50 => ?_
      refine s_call (ps := (fun x : (Int × (List (List (Int × Int))) × (List (Int × Int)) × (List (Int × Int))) => [D.int x.1, (eL (eT (eP D.int D.int))) x.2.1, (eT (eP D.int D.int)) x.2.2.1, (eT (eP D.int D.int)) x.2.2.2])) (m := (fun x => m__law_solves x.1 x.2.1 x.2.2.1 x.2.2.2)) (x := ((rows.length : Int), x36, x44, y)) s hm45 c48 rfl (Reps.cons (show Rep K _ _ (D.int (rows.length : Int)) from (Rep.int _)) (Reps.cons (show Rep K _ _ ((eL (eT (eP D.int D.int))) x36) from (r39.mono (e42.trans (e43.trans (e47.trans e48))))) (Reps.cons (show Rep K _ _ ((eT (eP D.int D.int)) x44) from r48) (Reps.cons (show Rep K _ _ ((eT (eP D.int D.int)) y) from r50) Reps.nil)))) fun y51 v51 F51 H51 hm51 e51 c51 r51 => ?_
      cases (show Rep K _ _ (D.bl y51) from r51)
      exact Fin.ret (d := D.bl y51) hm51 c51 ((Rep.bl _)) rfl (.inl rfl)
end
end MI
namespace MI
open PySem PySem.Spec PyProof.Rows L2 Evl PW
open L2 (start)
local macro_rules | `(tactic| walk_at "go") => `(tactic| simp only [tSeq, tAsg, tVar, tC, tOp, tUn, tRet, tRetN, tIfS, tTest, tB, tCB, tCons, tNil, tAndV, tOrV, tNotV, tAnd, tOr, tNot, tIf, gName, gTup, gCons, gNil, rI0, rI, rU, rEq, rNe, tCall, tCallS, tDrop, tTup, tLst, tNext, tPar, tBreak, rGcd, List.set_cons_zero, List.set_cons_succ, List.getElem?_cons_zero, List.getElem?_cons_succ, Option.some.injEq, exists_eq_left', exists_eq_left, V.int.injEq, V.bl.injEq, V.ref.injEq, List.cons.injEq, and_true, true_and, reduceCtorEq, L2.start, List.map_cons, List.map_nil, List.length_cons, List.length_nil, List.replicate_succ, List.replicate_zero, List.cons_append, List.nil_append, List.append_nil, Nat.reduceAdd, Nat.reduceSub, scal, exists_const, exists_and_left, ite_true, ite_false, decide_eq_true_eq, and_assoc, cxOf, Nat.zero_add, Bool.not_eq_true', decide_eq_false_iff_not, false_and, exists_false, or_false, false_or, Int.reduceLT, Int.reduceEq, Int.reduceLE, ↓reduceIte, exists_eq])
section
variable {P : Program} {w : World} {K : PySem.W.Frag} {mg : Str → Option Value} {base : Heap} {ad : Nat → Addr} {fd : Nat → FuncData}
namespace HD
/-! ### the law's own draws -/
theorem map_int {ns : List Int} {i : Nat} {x : V} (h : (ns.map V.int)[i]? = some x) : ∃ z, x = .int z := by
  rw [List.getElem?_map] at h
  cases e : ns[i]? with
  | none =>
    rw [e] at h
    cases h
  | some z =>
    rw [e] at h
    exact ⟨z, (Option.some.inj h).symm⟩
def Dr (ds : List Int) : Prop := ∀ d ∈ ds, 0 ≤ d ∧ d < 1000
theorem Dr.app {ds es : List Int} (a : Dr ds) (b : Dr es) : Dr (ds ++ es) := fun d h => (List.mem_append.mp h).elim (a d) (b d)
theorem rest1000 (x : Int) : 0 ≤ x % 1000 ∧ x % 1000 < 1000 := by omega
/-- all that was stands; at l stand draws, at most n -/
def DrH (H0 : Hp) (l : Addr) (n : Nat) (H : Hp) : Prop := Ex H0 H ∧ H0 l = none ∧ ∃ ds : List Int, H l = some (.lst (ds.map V.int)) ∧ Dr ds ∧ ds.length ≤ n
def sp__law_number : Sp := fun vs H Q _ => ∃ c, vs = [.int c] ∧ Q (.int (c.natAbs : Int)) H
theorem ok__law_number (T : Txt K w mg ad fd) : Cal P w K mg base CX0 1 "_law_number" (ad 33) (fd 33) ["cell"] [] [] sp__law_number := by
  refine ⟨T.f__law_number.ok sc__law_number (fun vs H Q E h => ?_) (fun cdv A outer s H vs Q E hr h => ?_), T.g__law_number, T.f__law_number.kp, T.f__law_number.binds (ps := ["cell"]) fun _ _ _ _ _ _ us hl => match us, hl with | [_], _ => rfl, .nil⟩
  · obtain ⟨a, rfl, _⟩ := h
    rfl
  · obtain ⟨a, rfl, q⟩ := h
    refine ⟨_, (pss_cons (ps_if (pt_cmpR op_lt (pv 0) pe_int (nomark _)) (pss_one (ps_ret (pe_op op_sub pe_int (pv 0)))) pss_nil)
    (pss_one (ps_ret (pv 0)))), ?_⟩
    walk_at "go"
    by_cases h1 : a < 0
    · rw [if_pos h1]
      have e : (a.natAbs : Int) = 0 - a := by omega
      rw [← e]
      exact q
    · rw [if_neg h1]
      have e : (a.natAbs : Int) = a := by omega
      rw [← e]
      exact q
theorem DrH.put {H0 H H1 : Hp} {l : Addr} {n m : Nat} {zs : List Int} (h : DrH H0 l n H) (e : Ex H H1) (hz : Dr zs) (hm : n + zs.length ≤ m) :
    ∃ ds : List Int, H1 l = some (.lst (ds.map V.int)) ∧ ds.length ≤ n ∧ DrH H0 l m (upd H1 l (.lst (ds.map V.int ++ zs.map V.int))) := by
  obtain ⟨e0, nl, ds, hl, hd, hlen⟩ := h
  refine ⟨ds, e _ _ hl, hlen, (e0.trans e).mut nl, nl, ds ++ zs, ?_, hd.app hz, ?_⟩
  · rw [upd_same, List.map_append]
  · rw [List.length_append]
    omega
def sp__law_draws (K : PySem.W.Frag) : Sp := fun vs H Q _ => ∃ (a : Addr) (ns : List Int), vs = [.ref a] ∧ SqL K H a (ns.map V.int) ∧ ns.length ≤ 63 ∧ ∀ H' l, DrH H l 4000 H' → Q (.ref l) H'
theorem ok__law_draws (T : Txt K w mg ad fd) : Cal P w K mg base CX0 2 "_law_draws" (ad 34) (fd 34) ["script"] [] [] (sp__law_draws K) := by
  refine ⟨T.f__law_draws.ok sc__law_draws (fun vs H Q E h => ?_) (fun cdv A outer s H vs Q E hr h => ?_), T.g__law_draws, T.f__law_draws.kp, T.f__law_draws.binds (ps := ["script"]) fun _ _ _ _ _ _ us hl => match us, hl with | [_], _ => rfl, .nil⟩
  · obtain ⟨a, ns, rfl, _⟩ := h
    rfl
  · obtain ⟨a, ns, rfl, hS, hlen, q⟩ := h
    refine ⟨_, (pss_cons (ps_set (i := 1) sc__law_draws.nd rfl (by first | exact Or.inl rfl | exact Or.inr rfl) (pe_lst pa_nil))
    (pss_cons (ps_for (by first | exact PassesOwn.never | exact passes_of rfl) rfl (pi_list (pv 0)) (pg_name (i := 2) sc__law_draws.nd rfl (by first | exact Or.inl rfl | exact Or.inr rfl))
      (pss_cons (ps_set (i := 3) sc__law_draws.nd rfl (by first | exact Or.inl rfl | exact Or.inr rfl) (pe_cal (ok__law_number T (P := P) (w := w) (base := base)) (hr.mono (by decide)) pass0 (pa_cons (pv 2) pa_nil)))
    (pss_one (ps_if (pt_cmpR op_ge (pv 3) pe_int (nomark _)) (pss_one (ps_for (by first | exact PassesOwn.never | exact passes_of rfl) rfl (pi_range1 rfl T.m_range (pa_cons pe_int pa_nil)) (pg_name (i := 4) sc__law_draws.nd rfl (by first | exact Or.inl rfl | exact Or.inr rfl))
      (pss_cons (ps_if (pt_cmpR op_eq (pv 3) pe_int (nomark _)) (pss_one ps_break) pss_nil)
    (pss_cons (ps_expr (pe_bm PySem.F.plainAttrs_list PySem.F.slot_list_append PySem.F.type_list_append mt_append (pv 1) (pa_cons (pe_op op_mod (pe_callTy (T := "int") call_int1 (by rfl) T.m_int (by decide +kernel) (pa_cons (pv 3) pa_nil)) pe_int) pa_nil)))
    (pss_one (ps_set (i := 3) sc__law_draws.nd rfl (by first | exact Or.inl rfl | exact Or.inr rfl) (pe_op op_fdivG (pv 3) pe_int))))))) (pss_cons (ps_set (i := 5) sc__law_draws.nd rfl (by first | exact Or.inl rfl | exact Or.inr rfl) (pe_op op_mod (pe_callTy (T := "int") call_int1 (by rfl) T.m_int (by decide +kernel) (pa_cons (pe_op op_add (pe_op op_mulW (pv 3) pe_int) pe_int) pa_nil)) pe_int))
    (pss_cons (ps_set (i := 6) sc__law_draws.nd rfl (by first | exact Or.inl rfl | exact Or.inr rfl) (pe_op op_mod (pe_callTy (T := "int") call_int1 (by rfl) T.m_int (by decide +kernel) (pa_cons (pe_op op_add (pe_op op_mulW (pv 5) pe_int) (pv 3)) pa_nil)) pe_int))
    (pss_one (ps_expr (pe_bm PySem.F.plainAttrs_list PySem.F.slot_list_extend PySem.F.type_list_extend mt_extend (pv 1) (pa_cons (pe_lst (pa_cons (pe_op op_mod (pe_callTy (T := "int") call_int1 (by rfl) T.m_int (by decide +kernel) (pa_cons (pv 3) pa_nil)) pe_int) (pa_cons (pe_op op_mod (pe_callTy (T := "int") call_int1 (by rfl) T.m_int (by decide +kernel) (pa_cons (pv 5) pa_nil)) pe_int) (pa_cons (pe_op op_mod (pe_callTy (T := "int") call_int1 (by rfl) T.m_int (by decide +kernel) (pa_cons (pv 6) pa_nil)) pe_int) pa_nil)))) pa_nil))))))))))
    (pss_one (ps_ret (pv 1))))), ?_⟩
    refine ⟨Nat.zero_le _, fun l nl => ?_⟩
    have d0 : DrH H l 0 (upd H l (.lst [])) := ⟨Ex.new nl, nl, [], upd_same, (fun d h => nomatch h), Nat.le_refl _⟩
    refine ⟨.ref a, rfl, a, rfl, ⟨_, ex_l d0.1 hS⟩, for_list (K := K) (a := a) (xs := ns.map V.int)
      (fun i σ H' => ∃ c2 c3 c4 c5 c6, σ = [some (.ref a), some (.ref l), c2, c3, c4, c5, c6] ∧ DrH H l (60 * i) H') ⟨_, _, _, _, _, rfl, d0⟩ (fun i σ H' _ ⟨_, _, _, _, _, _, d⟩ => ex_l d.1 hS) ?_ ?_⟩
    · rintro i x σ H1 hi ⟨c2, c3, c4, c5, c6, rfl, d1⟩
      obtain ⟨z, rfl⟩ := map_int hi
      have hin : i < 63 := by
        have := (List.getElem?_eq_some_iff.mp hi).1
        rw [List.length_map] at this
        omega
      -- rest = _law_number(cell)
      refine ⟨.int z, rfl, z, rfl, ?_⟩
      -- rest >= 10 ** 18
      refine ⟨_, rfl, _, _, rfl, rfl, _, rfl, ite2 (fun hb => ?_) (fun hb => ?_)⟩
      · -- the long way
        refine ⟨60, rfl, by decide, by decide, for_range (lo := 0) (n := 60)
          (fun j σ H' => ∃ (r : Int) (c4 : Option V), 0 ≤ r ∧ σ = [some (.ref a), some (.ref l), some (.int z), some (.int r), c4, c5, c6] ∧ DrH H l (60 * i + j) H') ⟨_, _, by omega, rfl, d1⟩ ?_ ?_⟩
        · rintro j σ H2 hj ⟨r, c4', hr0, rfl, d2⟩
          refine ⟨_, rfl, rfl, _, rfl, ite2 (fun h0 => ?_) (fun h0 => ?_)⟩
          · exact ⟨_, _, _, _, _, rfl, d2.1, d2.2.1, let ⟨ds, h1, h2, h3⟩ := d2.2.2; ⟨ds, h1, h2, by omega⟩⟩
          · obtain ⟨ds, hl, hn, d3⟩ := d2.put (Ex.refl _) (zs := [r % 1000]) (fun d hd => (by
              cases List.mem_singleton.mp hd
              exact rest1000 r)) (Nat.le_refl _)
            refine ⟨.ref l, rfl, .inl ⟨rfl, _, .inl (.inl hl)⟩, ?_⟩
            refine ⟨_, rfl, .inl ⟨_, rfl, ?_⟩⟩
            refine ⟨_, _, rfl, rfl, (by show (0 : Int) < 1000; decide), ?_⟩
            refine ⟨l, _, _, rfl, rfl, hl, ?_, ?_⟩
            · rw [List.length_map]
              exact Nat.lt_of_le_of_lt hn (Nat.lt_of_lt_of_le (show _ < 4000 by omega) (by decide))
            · refine ⟨_, rfl, _, _, rfl, rfl, ⟨by decide, by decide⟩, ?_⟩
              refine ⟨_, _, ?_, rfl, d3⟩
              rw [Int.fdiv_eq_ediv_of_nonneg _ (by decide)]
              omega
        · rintro σ H2 ⟨r, c4', hr0, rfl, d2⟩
          exact ⟨_, _, _, _, _, rfl, d2.1, d2.2.1, let ⟨ds, h1, h2, h3⟩ := d2.2.2; ⟨ds, h1, h2, by omega⟩⟩
      · -- the short way
        have hb' : (z.natAbs : Int) < 1000000000000000000 := by
          have := of_decide_eq_false (Bool.eq_false_iff.mpr hb)
          omega
        walk_at "go"
        have k1 : ((z.natAbs : Int)).natAbs < 2 ^ 60 := by
          have : ((z.natAbs : Int)).natAbs = z.natAbs := by omega
          rw [this]
          have : (2 : Nat) ^ 60 = 1152921504606846976 := by decide
          omega
        have k2 : ((z.natAbs * 48271 + 11) % 2147483647 : Int).natAbs < 2 ^ 60 := by
          have : (2 : Nat) ^ 60 = 1152921504606846976 := by decide
          omega
        refine ⟨wide_mul (b := 17) k1 (by decide) (by decide) (by decide) (by decide), wide_mul (b := 17) k2 (by decide) (by decide) (by decide) (by decide), ?_⟩
        obtain ⟨_, _, ds0, hl, _, _⟩ := id d1
        refine ⟨.ref l, rfl, .inl ⟨rfl, _, .inl (.inl hl)⟩, ?_⟩
        walk_at "go"
        refine ⟨by decide, fun p hp => ?_⟩
        obtain ⟨ds, hl, hn, d3⟩ := d1.put (Ex.new hp) (m := 60 * (i + 1)) (zs := [(z.natAbs : Int) % 1000, ((z.natAbs : Int) * 48271 + 11) % 2147483647 % 1000, (((z.natAbs : Int) * 48271 + 11) % 2147483647 * 69621 + z.natAbs) % 2147483629 % 1000]) (fun d hd => (by
          simp only [List.mem_cons, List.not_mem_nil, or_false] at hd
          rcases hd with rfl | rfl | rfl <;> exact rest1000 _)) (by simp; omega)
        refine ⟨l, p, _, _, rfl, rfl, hl, upd_same, ?_, d3⟩
        rw [List.length_map]
        exact Nat.le_trans (show _ ≤ 4000 by simp; omega) (by decide)
    · rintro σ H1 ⟨c2, c3, c4, c5, c6, rfl, d1⟩
      refine ⟨_, rfl, q _ _ ⟨d1.1, nl, ?_⟩⟩
      obtain ⟨ds, h1, h2, h3⟩ := d1.2.2
      rw [List.length_map] at h3
      exact ⟨ds, h1, h2, by omega⟩
end HD
open HD (Dr ok__law_draws sp__law_draws)

@[irreducible] def m_law (ds : List Int) : Res Bool :=
  (m__law_next (List.reverse ds)).bind fun y4 =>
  (m__law_next y4.2).bind fun y8 =>
  (m__law_matrix y8.2 (y8.1 % (6 : Int)) (y4.1 % (6 : Int))).bind fun y9 =>
  (m__law_wanted y9.2 (y4.1 % (6 : Int)) y9.1).bind fun y15 =>
  (m__law_told (0 : Int) (y4.1 % (6 : Int)) y9.1 y15.1).bind fun y26 =>
  (m__law_told (1 : Int) (y4.1 % (6 : Int)) y9.1 y15.1).bind fun y32 =>
  (if (sumB false true y26) = true then
    ((neR (eS (eT (eP D.int D.int)) D.str) y26 (Sum.inr (Str.ofString "![1, 0]"))).bind fun x147 =>
  if x147 = true then Res.ok true else if (sumB false true y32) = true then Res.ok true else (getL y32).bind fun y162 =>
  (m__law_clashes (y4.1 % (6 : Int)) y9.1 y15.1 y162).bind fun y165 =>
  Res.ok (!y165)).bind fun y141 =>
  if y141 = true then
    Res.ok (Ctl.rt false)
  else
    Res.ok (Ctl.nx ())
  else
    ((neR (eS (eT (eP D.int D.int)) D.str) y32 (Sum.inr (Str.ofString "![1, 0]"))).bind fun x172 =>
  if x172 = true then Res.ok true else (getL y26).bind fun y183 =>
  (m__law_solves (y4.1 % (6 : Int)) y9.1 y15.1 y183).bind fun y186 =>
  Res.ok (!y186)).bind fun y166 =>
  if y166 = true then
    Res.ok (Ctl.rt false)
  else
    Res.ok (Ctl.nx ())).bind (Ctl.then (fun st34 =>
  (if (decide (y9.1 ≠ y9.1)) = true then Res.ok true else (catR y15.1 [((0 : Int), (1 : Int))]).bind fun x130 =>
  (m__law_told (0 : Int) (y4.1 % (6 : Int)) y9.1 x130).bind fun y133 =>
  (neR (eS (eT (eP D.int D.int)) D.str) y133 (Sum.inr (Str.ofString "![0, 1]"))).bind fun x134 =>
  Res.ok x134).bind fun y35 =>
  if y35 = true then
    Res.ok false
  else
    (catR y15.1 [((2 : Int), (2 : Int))]).bind fun x44 =>
  (m__law_told (1 : Int) (y4.1 % (6 : Int)) y9.1 x44).bind fun y47 =>
  (neR (eS (eT (eP D.int D.int)) D.str) y47 (Sum.inr (Str.ofString "![0, 1]"))).bind fun x48 =>
  if x48 = true then
    Res.ok false
  else
    (if (!List.isEmpty y9.1) = true then
    (m__law_next y15.2).bind fun y59 =>
  (modR y59.1 (y9.1.length : Int)).bind fun x62 =>
  (catR (cut y15.1 none (some x62)) [((2 : Int), (4 : Int))]).bind fun x71 =>
  (catR x71 (cut y15.1 (some (x62 + (1 : Int))) none)).bind fun x77 =>
  (catR (cut y15.1 none (some x62)) [((1 : Int), (0 : Int))]).bind fun x85 =>
  (catR x85 (cut y15.1 (some (x62 + (1 : Int))) none)).bind fun x91 =>
  (loopC (fun z99 st99 =>
    (mapR (fun z101 =>
    (m__law_told z101 (y4.1 % (6 : Int)) y9.1 z99).bind fun y106 =>
  Res.ok y106) (rng 0 (2 : Int))).bind fun bs101 =>
  (neR (eL (eS (eT (eP D.int D.int)) D.str)) bs101 [(Sum.inr (Str.ofString "![0, 1]")), (Sum.inr (Str.ofString "![0, 1]"))]).bind fun x110 =>
  if x110 = true then
    Res.ok (Ctl.rt false)
  else
    Res.ok (Ctl.nx ())) [x77, x91, (cut y15.1 none (some (-(1 : Int))))] ()).bind (Ctl.then (fun st99 =>
  Res.ok (Ctl.nx y59.2)) (fun r => Res.ok (Ctl.rt r)))
  else
    Res.ok (Ctl.nx y15.2)).bind (Ctl.then (fun st53 =>
  Res.ok true) (fun r => Res.ok r))) (fun r => Res.ok r))
def sp_law (K : PySem.W.Frag) : Sp := fun vs H Q _ => ∃ (a : Addr) (ns : List Int), vs = [.ref a] ∧ SqL K H a (ns.map V.int) ∧ ns.length ≤ 63 ∧ ∀ H', Q (.bl true) H'
theorem ok_lawX (mt : ∀ ds : List Int, Dr ds → ds.length ≤ 4000 → m_law ds = .ok true) (T : Txt K w mg ad fd) : CalG P w K mg base CX0 8 "law" (ad 52) (fd 52) ["script"] (sp_law K) := by
  refine ⟨fng0 (fun vs H Q E h => h) (T.f_law.okG sc_law (fun vs H Q E h => ?_) (fun cdv A outer sh H0 vs Q E gd hr h => ?_)), T.g_law, T.f_law.kp, T.f_law.binds (ps := ["script"]) fun _ _ _ _ _ _ us hl => match us, hl with | [_], _ => rfl⟩
  · obtain ⟨a, ns, rfl, _⟩ := h
    rfl
  · obtain ⟨sc, ns, rfl, hS, hlen, q⟩ := h
    have hu := hr.units
    refine ⟨_, (pss_cons (ps_set (i := 1) sc_law.nd rfl (by first | exact Or.inl rfl | exact Or.inr rfl) (pe_cal (ok__law_draws T (P := P) (w := w) (base := base)) (hr.mono (by decide)) pass0 (pa_cons (pv 0) pa_nil)))
    (pss_cons (ps_expr (pe_bm0 PySem.F.plainAttrs_list PySem.F.slot_list_reverse PySem.F.type_list_reverse mt_reverse (pv 1)))
    (pss_cons (ps_set (i := 2) sc_law.nd rfl (by first | exact Or.inl rfl | exact Or.inr rfl) (pe_op op_mod (pe_callTy (T := "int") c_int (by rfl) T.m_int (by decide +kernel) (pa_cons (pe_cm (ok__law_next T (P := P) (w := w) (base := base)) gd (hr.mono (by decide)) T.g__law_next T.f__law_next.kp (L2N.takes_of rfl rfl rfl rfl) (pa_cons (pv 1) pa_nil)) pa_nil)) pe_int))
    (pss_cons (ps_set (i := 3) sc_law.nd rfl (by first | exact Or.inl rfl | exact Or.inr rfl) (pe_cm (ok__law_matrix T (P := P) (w := w) (base := base)) gd (hr.mono (by decide)) T.g__law_matrix T.f__law_matrix.kp (L2N.takes_of rfl rfl rfl rfl) (pa_cons (pv 1) (pa_cons (pe_op op_mod (pe_callTy (T := "int") c_int (by rfl) T.m_int (by decide +kernel) (pa_cons (pe_cm (ok__law_next T (P := P) (w := w) (base := base)) gd (hr.mono (by decide)) T.g__law_next T.f__law_next.kp (L2N.takes_of rfl rfl rfl rfl) (pa_cons (pv 1) pa_nil)) pa_nil)) pe_int) (pa_cons (pv 2) pa_nil)))))
    (pss_cons (ps_set (i := 4) sc_law.nd rfl (by first | exact Or.inl rfl | exact Or.inr rfl) (pe_cm (ok__law_wanted T (P := P) (w := w) (base := base)) gd (hr.mono (by decide)) T.g__law_wanted T.f__law_wanted.kp (L2N.takes_of rfl rfl rfl rfl) (pa_cons (pv 1) (pa_cons (pv 2) (pa_cons (pv 3) pa_nil)))))
    (pss_cons (ps_set (i := 5) sc_law.nd rfl (by first | exact Or.inl rfl | exact Or.inr rfl) (pe_callTy (T := "list") (c_list (K := K) rfl) (by rfl) T.m_list (by decide +kernel) (pa_cons (pv 3) pa_nil)))
    (pss_cons (ps_set (i := 6) sc_law.nd rfl (by first | exact Or.inl rfl | exact Or.inr rfl) (pe_cm (ok__law_told T (P := P) (w := w) (base := base)) gd (hr.mono (by decide)) T.g__law_told T.f__law_told.kp (L2N.takes_of rfl rfl rfl rfl) (pa_cons pe_int (pa_cons (pv 2) (pa_cons (pv 3) (pa_cons (pv 4) pa_nil))))))
    (pss_cons (ps_set (i := 7) sc_law.nd rfl (by first | exact Or.inl rfl | exact Or.inr rfl) (pe_cm (ok__law_told T (P := P) (w := w) (base := base)) gd (hr.mono (by decide)) T.g__law_told T.f__law_told.kp (L2N.takes_of rfl rfl rfl rfl) (pa_cons pe_int (pa_cons (pv 2) (pa_cons (pv 3) (pa_cons (pv 4) pa_nil))))))
    (pss_cons (ps_if (pt_val (pe_callB call_isi (by rfl) T.m_isinstance (by decide +kernel) (pa_cons (pv 6) (pa_cons (pe_bltn (by rfl) T.m_str (v := .ty "str") (u := .type "str") rfl rfl) pa_nil)))) (pss_one (ps_if (L2.PW.pt (pw_or (pt_cmpR (o_neD (by rfl) hu) (pv 6) pe_str (nomark _)) (pw_or (pt_val (pe_callB call_isi (by rfl) T.m_isinstance (by decide +kernel) (pa_cons (pv 7) (pa_cons (pe_bltn (by rfl) T.m_str (v := .ty "str") (u := .type "str") rfl rfl) pa_nil)))) (pw_or1 (pt_not (pt_val (pe_cm (ok__law_clashes T (P := P) (w := w) (base := base)) gd (hr.mono (by decide)) T.g__law_clashes T.f__law_clashes.kp (L2N.takes_of rfl rfl rfl rfl) (pa_cons (pv 2) (pa_cons (pv 3) (pa_cons (pv 4) (pa_cons (pv 7) pa_nil))))))))))) (pss_one (ps_ret pe_bl)) pss_nil)) (pss_one (ps_if (L2.PW.pt (pw_or (pt_cmpR (o_neD (by rfl) hu) (pv 7) pe_str (nomark _)) (pw_or1 (pt_not (pt_val (pe_cm (ok__law_solves T (P := P) (w := w) (base := base)) gd (hr.mono (by decide)) T.g__law_solves T.f__law_solves.kp (L2N.takes_of rfl rfl rfl rfl) (pa_cons (pv 2) (pa_cons (pv 3) (pa_cons (pv 4) (pa_cons (pv 6) pa_nil)))))))))) (pss_one (ps_ret pe_bl)) pss_nil)))
    (pss_cons (ps_if (L2.PW.pt (pw_or (pt_cmpR (o_neD (by rfl) hu) (pv 3) (pv 5) (nomark _)) (pw_or1 (pt_cmpR (o_neD (by rfl) hu) (pe_cm (ok__law_told T (P := P) (w := w) (base := base)) gd (hr.mono (by decide)) T.g__law_told T.f__law_told.kp (L2N.takes_of rfl rfl rfl rfl) (pa_cons pe_int (pa_cons (pv 2) (pa_cons (pv 3) (pa_cons (pe_op (op_catK (K := K)) (pv 4) (pe_tup (pa_cons (pe_tup (pa_cons pe_int (pa_cons pe_int pa_nil))) pa_nil))) pa_nil))))) pe_str (nomark _))))) (pss_one (ps_ret pe_bl)) pss_nil)
    (pss_cons (ps_if (pt_cmpR (o_neD (by rfl) hu) (pe_cm (ok__law_told T (P := P) (w := w) (base := base)) gd (hr.mono (by decide)) T.g__law_told T.f__law_told.kp (L2N.takes_of rfl rfl rfl rfl) (pa_cons pe_int (pa_cons (pv 2) (pa_cons (pv 3) (pa_cons (pe_op (op_catK (K := K)) (pv 4) (pe_tup (pa_cons (pe_tup (pa_cons pe_int (pa_cons pe_int pa_nil))) pa_nil))) pa_nil))))) pe_str (nomark _)) (pss_one (ps_ret pe_bl)) pss_nil)
    (pss_cons (ps_if (pt_truth (pv 3) (fun _ => rfl)) (pss_cons (ps_set (i := 8) sc_law.nd rfl (by first | exact Or.inl rfl | exact Or.inr rfl) (pe_op op_mod (pe_callTy (T := "int") c_int (by rfl) T.m_int (by decide +kernel) (pa_cons (pe_cm (ok__law_next T (P := P) (w := w) (base := base)) gd (hr.mono (by decide)) T.g__law_next T.f__law_next.kp (L2N.takes_of rfl rfl rfl rfl) (pa_cons (pv 1) pa_nil)) pa_nil)) (pe_callB (c_len (K := K)) (by rfl) T.m_len PySem.boot_len (pa_cons (pv 3) pa_nil))))
    (pss_one (ps_for (by first | exact PassesOwn.never | exact passes_of rfl) rfl (pi_list (pe_lst (pa_cons (pe_op (op_catK (K := K)) (pe_op (op_catK (K := K)) (pe_slice (sl_tupK (K := K)) (pv 4) po_none (po_some (pv 8))) (pe_tup (pa_cons (pe_tup (pa_cons pe_int (pa_cons pe_int pa_nil))) pa_nil))) (pe_slice (sl_tupK (K := K)) (pv 4) (po_some (pe_op op_add (pv 8) pe_int)) po_none)) (pa_cons (pe_op (op_catK (K := K)) (pe_op (op_catK (K := K)) (pe_slice (sl_tupK (K := K)) (pv 4) po_none (po_some (pv 8))) (pe_tup (pa_cons (pe_tup (pa_cons pe_int (pa_cons pe_int pa_nil))) pa_nil))) (pe_slice (sl_tupK (K := K)) (pv 4) (po_some (pe_op op_add (pv 8) pe_int)) po_none)) (pa_cons (pe_slice (sl_tupK (K := K)) (pv 4) po_none (po_some (pe_un un_neg pe_int))) pa_nil))))) (pg_name (i := 9) sc_law.nd rfl (by first | exact Or.inl rfl | exact Or.inr rfl))
      (pss_one (ps_if (pt_cmpR (o_neD (by rfl) hu) (pe_lc (own := [("way", 10)]) rfl sc_law.nd (pi_range1 rfl T.m_range (pa_cons pe_int pa_nil)) (blkOk_by (N := ["script", "draws", "width", "rows", "wanted", "kept", "x", "y", "at", "bad", "way"]) (sc := defScope s_law) (by decide +kernel)) (fun _ _ _ _ _ => (pg_name (i := 10) sc_law.nd rfl (by first | exact Or.inl rfl | exact Or.inr rfl))) (fun _ _ _ _ _ => pts_nil) (fun _ _ _ _ _ => (pe_cm (ok__law_told T (P := P) (w := w) (base := base)) gd (hr.mono (by decide)) T.g__law_told T.f__law_told.kp takes0N (pa_cons (pv 10) (pa_cons (pv 2) (pa_cons (pv 3) (pa_cons (pv 9) pa_nil))))))) (pe_lst (pa_cons pe_str (pa_cons pe_str pa_nil))) (nomark _)) (pss_one (ps_ret pe_bl)) pss_nil))))) pss_nil)
    (pss_one (ps_ret pe_bl)))))))))))))), ?_⟩
    refine w_seq ?_
    try dsimp only [tAsg, tRet, tRetN, tOp, tUn, tTest, tB, tCons, tNil, tCB, tC, tNext, tCallS, tDrop, tNot, tNotV, tSl, tNoPart, tPart, tBM, tBM0, iList, iTup, iStr, iSrc, iRng1, iRng2, iEnumS, iZipS, tBreak, tCont, gSub, tAug, tMth, tMakeS, tM1, tM0, tFld, cxOf]
    refine ⟨.ref sc, rfl, sc, ns, rfl, hS, hlen, fun H1 l dH => ?_⟩
    obtain ⟨e1, nl, ds, hl, hd, hlen2⟩ := dH
    have c0 : Ctx K ⟨fun _ => none, H0, none⟩ (fun _ => none) H1 ((L2.start ["script", "draws", "width", "rows", "wanted", "kept", "x", "y", "at", "bad", "way"] [.ref sc]).set 1 (some (.ref l))) [.un, .own (List.map D.int ds), .un, .un, .un, .un, .un, .un, .un, .un, .un] := ctx_law (n := 9) e1 nl hl (Nat.le_trans hlen2 (by decide))
    have s := Fin.sct (K := K) (B := ⟨fun _ => none, H0, none⟩) (n := 11) (cl := ecl ad) (rt := fun y => .val (D.bl y)) (out := fun _ : Bool => []) (Q := Q) (E := E)
    have hm : Fin K (ecl ad) ⟨fun _ => none, H0, none⟩ (fun y => .val (D.bl y)) (fun _ : Bool => []) Q E (m_law ds) := fin_law (mt ds hd hlen2) q
    refine gname_law ?_
    generalize (L2.start _ _).set 1 _ = σ at c0 ⊢
    try dsimp only [tAsg, tRet, tRetN, tOp, tUn, tTest, tB, tCons, tNil, tCB, tC, tNext, tCallS, tDrop, tNot, tNotV, tSl, tNoPart, tPart, tBM, tBM0, iList, iTup, iStr, iSrc, iRng1, iRng2, iEnumS, iZipS, tBreak, tCont, gSub, tAug, tMth, tMakeS, tM1, tM0, tFld, cxOf]
    unfold m_law at hm
    refine w_seq ?_
    try try dsimp only [tAsg, tRet, tRetN, tOp, tUn, tTest, tB, tCons, tNil, tCB, tC, tNext, tCallS, tDrop, tNot, tNotV, tSl, tNoPart, tPart, tBM, tBM0, iList, iTup, iStr, iSrc, iRng1, iRng2, iEnumS, iZipS, tBreak, tCont, gSub, tAug, tMth, tMakeS, tM1, tM0, tFld, cxOf]
    refine s_varO c0 (i := 1) rfl fun a1 xs1 ha1 hx1 l1 t1 => ?_
    refine ⟨s_tyO hx1, ?_⟩
    refine s_reverse (i := 1) (en := D.int) (ss' := [.un, .own (List.map D.int (List.reverse ds)), .un, .un, .un, .un, .un, .un, .un, .un, .un]) c0 ha1 rfl rfl fun H2 c2 => ?_
    refine w_seq ?_
    try try dsimp only [tAsg, tRet, tRetN, tOp, tUn, tTest, tB, tCons, tNil, tCB, tC, tNext, tCallS, tDrop, tNot, tNotV, tSl, tNoPart, tPart, tBM, tBM0, iList, iTup, iStr, iSrc, iRng1, iRng2, iEnumS, iZipS, tBreak, tCont, gSub, tAug, tMth, tMakeS, tM1, tM0, tFld, cxOf]
    refine s_varO c2 (i := 1) rfl fun a3 xs3 ha3 hx3 l3 t3 => ?_
    refine s_callO (ps := (fun x : (List Int) => [])) (m := (fun x => m__law_next x)) (x := ((List.reverse ds))) (i := 1) s hm c2 rfl ha3 rfl Reps.nil fun y4 v4 F4 H4 hm4 e4 c4 r4 => ?_
    replace c4 : Ctx K _ _ _ _ [.un, .own (List.map D.int y4.2), .un, .un, .un, .un, .un, .un, .un, .un, .un] := c4
    cases (show Rep K _ _ (D.int y4.1) from r4)
    refine n_intI ?_
    refine s_iC (by decide) ?_
    refine s_set (i := 2) (d := D.int (y4.1 % (6 : Int))) (ss' := [.un, .own (List.map D.int y4.2), .val (D.int (y4.1 % (6 : Int))), .un, .un, .un, .un, .un, .un, .un, .un]) c4 (.inl (by decide)) ((Rep.int _)) rfl fun σ c5 => ?_
    refine w_seq ?_
    try try dsimp only [tAsg, tRet, tRetN, tOp, tUn, tTest, tB, tCons, tNil, tCB, tC, tNext, tCallS, tDrop, tNot, tNotV, tSl, tNoPart, tPart, tBM, tBM0, iList, iTup, iStr, iSrc, iRng1, iRng2, iEnumS, iZipS, tBreak, tCont, gSub, tAug, tMth, tMakeS, tM1, tM0, tFld, cxOf]
    refine s_varO c5 (i := 1) rfl fun a6 xs6 ha6 hx6 l6 t6 => ?_
    refine s_varO c5 (i := 1) rfl fun a7 xs7 ha7 hx7 l7 t7 => ?_
    refine s_callO (ps := (fun x : (List Int) => [])) (m := (fun x => m__law_next x)) (x := (y4.2)) (i := 1) s hm4 c5 rfl ha7 rfl Reps.nil fun y8 v8 F8 H8 hm8 e8 c8 r8 => ?_
    replace c8 : Ctx K _ _ _ _ [.un, .own (List.map D.int y8.2), .val (D.int (y4.1 % (6 : Int))), .un, .un, .un, .un, .un, .un, .un, .un] := c8
    cases (show Rep K _ _ (D.int y8.1) from r8)
    refine n_intI ?_
    refine s_iC (by decide) ?_
    refine s_varI c8 (i := 2) rfl ?_
    refine s_callO (ps := (fun x : ((List Int) × Int × Int) => [D.int x.2.1, D.int x.2.2])) (m := (fun x => m__law_matrix x.1 x.2.1 x.2.2)) (x := (y8.2, (y8.1 % (6 : Int)), (y4.1 % (6 : Int)))) (i := 1) s hm8 c8 rfl ha6 rfl (Reps.cons (show Rep K _ _ (D.int (y8.1 % (6 : Int))) from (Rep.int _)) (Reps.cons (show Rep K _ _ (D.int (y4.1 % (6 : Int))) from (Rep.int _)) Reps.nil)) fun y9 v9 F9 H9 hm9 e9 c9 r9 => ?_
    replace c9 : Ctx K _ _ _ _ [.un, .own (List.map D.int y9.2), .val (D.int (y4.1 % (6 : Int))), .un, .un, .un, .un, .un, .un, .un, .un] := c9
    replace r9 : Nw K _ _ [.un, .own (List.map D.int y9.2), .val (D.int (y4.1 % (6 : Int))), .un, .un, .un, .un, .un, .un, .un, .un] _ _ _ _ := RtOk.nwO (i := 1) c8 rfl r9
    obtain ⟨F10, e10, c10, r10⟩ := Nw.frz c9 r9
    refine s_set (i := 3) (d := (eL (eT (eP D.int D.int))) y9.1) (ss' := [.un, .own (List.map D.int y9.2), .val (D.int (y4.1 % (6 : Int))), .val ((eL (eT (eP D.int D.int))) y9.1), .un, .un, .un, .un, .un, .un, .un]) c10 (.inl (by decide)) (r10) rfl fun σ c11 => ?_
    refine w_seq ?_
    try try dsimp only [tAsg, tRet, tRetN, tOp, tUn, tTest, tB, tCons, tNil, tCB, tC, tNext, tCallS, tDrop, tNot, tNotV, tSl, tNoPart, tPart, tBM, tBM0, iList, iTup, iStr, iSrc, iRng1, iRng2, iEnumS, iZipS, tBreak, tCont, gSub, tAug, tMth, tMakeS, tM1, tM0, tFld, cxOf]
    refine s_varO c11 (i := 1) rfl fun a12 xs12 ha12 hx12 l12 t12 => ?_
    refine s_varI c11 (i := 2) rfl ?_
    refine s_var c11 (i := 3) rfl fun v13 r14 => ?_
    refine s_callO (ps := (fun x : ((List Int) × Int × (List (List (Int × Int)))) => [D.int x.2.1, (eL (eT (eP D.int D.int))) x.2.2])) (m := (fun x => m__law_wanted x.1 x.2.1 x.2.2)) (x := (y9.2, (y4.1 % (6 : Int)), y9.1)) (i := 1) s hm9 c11 rfl ha12 rfl (Reps.cons (show Rep K _ _ (D.int (y4.1 % (6 : Int))) from (Rep.int _)) (Reps.cons (show Rep K _ _ ((eL (eT (eP D.int D.int))) y9.1) from r14) Reps.nil)) fun y15 v15 F15 H15 hm15 e15 c15 r15 => ?_
    replace c15 : Ctx K _ _ _ _ [.un, .own (List.map D.int y15.2), .val (D.int (y4.1 % (6 : Int))), .val ((eL (eT (eP D.int D.int))) y9.1), .un, .un, .un, .un, .un, .un, .un] := c15
    refine s_set (i := 4) (d := (eT (eP D.int D.int)) y15.1) (ss' := [.un, .own (List.map D.int y15.2), .val (D.int (y4.1 % (6 : Int))), .val ((eL (eT (eP D.int D.int))) y9.1), .val ((eT (eP D.int D.int)) y15.1), .un, .un, .un, .un, .un, .un]) c15 (.inl (by decide)) (r15) rfl fun σ c16 => ?_
    refine w_seq ?_
    try try dsimp only [tAsg, tRet, tRetN, tOp, tUn, tTest, tB, tCons, tNil, tCB, tC, tNext, tCallS, tDrop, tNot, tNotV, tSl, tNoPart, tPart, tBM, tBM0, iList, iTup, iStr, iSrc, iRng1, iRng2, iEnumS, iZipS, tBreak, tCont, gSub, tAug, tMth, tMakeS, tM1, tM0, tFld, cxOf]
    refine s_var c16 (i := 3) rfl fun v17 r18 => ?_
    refine n_listL c16 (show Rep K _ _ ((eL (eT (eP D.int D.int))) y9.1) from r18) fun v19 H19 c19 r19 => ?_
    obtain ⟨F20, e20, c20, r20⟩ := Nw.frz c19 r19
    refine s_set (i := 5) (d := (eL (eT (eP D.int D.int))) y9.1) (ss' := [.un, .own (List.map D.int y15.2), .val (D.int (y4.1 % (6 : Int))), .val ((eL (eT (eP D.int D.int))) y9.1), .val ((eT (eP D.int D.int)) y15.1), .val ((eL (eT (eP D.int D.int))) y9.1), .un, .un, .un, .un, .un]) c20 (.inl (by decide)) (r20) rfl fun σ c21 => ?_
    refine w_seq ?_
    try try dsimp only [tAsg, tRet, tRetN, tOp, tUn, tTest, tB, tCons, tNil, tCB, tC, tNext, tCallS, tDrop, tNot, tNotV, tSl, tNoPart, tPart, tBM, tBM0, iList, iTup, iStr, iSrc, iRng1, iRng2, iEnumS, iZipS, tBreak, tCont, gSub, tAug, tMth, tMakeS, tM1, tM0, tFld, cxOf]
    refine s_varI c21 (i := 2) rfl ?_
    refine s_var c21 (i := 3) rfl fun v22 r23 => ?_
    refine s_var c21 (i := 4) rfl fun v24 r25 => ?_
    refine s_call (ps := (fun x : (Int × Int × (List (List (Int × Int))) × (List (Int × Int))) => [D.int x.1, D.int x.2.1, (eL (eT (eP D.int D.int))) x.2.2.1, (eT (eP D.int D.int)) x.2.2.2])) (m := (fun x => m__law_told x.1 x.2.1 x.2.2.1 x.2.2.2)) (x := ((0 : Int), (y4.1 % (6 : Int)), y9.1, y15.1)) s hm15 c21 rfl (Reps.cons (show Rep K _ _ (D.int (0 : Int)) from (Rep.int _)) (Reps.cons (show Rep K _ _ (D.int (y4.1 % (6 : Int))) from (Rep.int _)) (Reps.cons (show Rep K _ _ ((eL (eT (eP D.int D.int))) y9.1) from r23) (Reps.cons (show Rep K _ _ ((eT (eP D.int D.int)) y15.1) from r25) Reps.nil)))) fun y26 v26 F26 H26 hm26 e26 c26 r26 => ?_
    refine s_set (i := 6) (d := (eS (eT (eP D.int D.int)) D.str) y26) (ss' := [.un, .own (List.map D.int y15.2), .val (D.int (y4.1 % (6 : Int))), .val ((eL (eT (eP D.int D.int))) y9.1), .val ((eT (eP D.int D.int)) y15.1), .val ((eL (eT (eP D.int D.int))) y9.1), .val ((eS (eT (eP D.int D.int)) D.str) y26), .un, .un, .un, .un]) c26 (.inl (by decide)) (r26) rfl fun σ c27 => ?_
    refine w_seq ?_
    try try dsimp only [tAsg, tRet, tRetN, tOp, tUn, tTest, tB, tCons, tNil, tCB, tC, tNext, tCallS, tDrop, tNot, tNotV, tSl, tNoPart, tPart, tBM, tBM0, iList, iTup, iStr, iSrc, iRng1, iRng2, iEnumS, iZipS, tBreak, tCont, gSub, tAug, tMth, tMakeS, tM1, tM0, tFld, cxOf]
    refine s_varI c27 (i := 2) rfl ?_
    refine s_var c27 (i := 3) rfl fun v28 r29 => ?_
    refine s_var c27 (i := 4) rfl fun v30 r31 => ?_
    refine s_call (ps := (fun x : (Int × Int × (List (List (Int × Int))) × (List (Int × Int))) => [D.int x.1, D.int x.2.1, (eL (eT (eP D.int D.int))) x.2.2.1, (eT (eP D.int D.int)) x.2.2.2])) (m := (fun x => m__law_told x.1 x.2.1 x.2.2.1 x.2.2.2)) (x := ((1 : Int), (y4.1 % (6 : Int)), y9.1, y15.1)) s hm26 c27 rfl (Reps.cons (show Rep K _ _ (D.int (1 : Int)) from (Rep.int _)) (Reps.cons (show Rep K _ _ (D.int (y4.1 % (6 : Int))) from (Rep.int _)) (Reps.cons (show Rep K _ _ ((eL (eT (eP D.int D.int))) y9.1) from r29) (Reps.cons (show Rep K _ _ ((eT (eP D.int D.int)) y15.1) from r31) Reps.nil)))) fun y32 v32 F32 H32 hm32 e32 c32 r32 => ?_
    refine s_set (i := 7) (d := (eS (eT (eP D.int D.int)) D.str) y32) (ss' := [.un, .own (List.map D.int y15.2), .val (D.int (y4.1 % (6 : Int))), .val ((eL (eT (eP D.int D.int))) y9.1), .val ((eT (eP D.int D.int)) y15.1), .val ((eL (eT (eP D.int D.int))) y9.1), .val ((eS (eT (eP D.int D.int)) D.str) y26), .val ((eS (eT (eP D.int D.int)) D.str) y32), .un, .un, .un]) c32 (.inl (by decide)) (r32) rfl fun σ c33 => ?_
    refine s_cutC (F := F32) (nx := fun st34 => [.un, .own (List.map D.int y15.2), .val (D.int (y4.1 % (6 : Int))), .val ((eL (eT (eP D.int D.int))) y9.1), .val ((eT (eP D.int D.int)) y15.1), .val ((eL (eT (eP D.int D.int))) y9.1), .val ((eS (eT (eP D.int D.int)) D.str) y26), .val ((eS (eT (eP D.int D.int)) D.str) y32), .un, .un, .un]) s hm32 (fun st34 F34 H34 σ hm34 e34 c34 => ?_) (fun P34 N34 s34 h34 kn34 kr34 => ?_)
    ·
      refine w_seq ?_
      refine w_ifS ?_
      try dsimp only [tAsg, tRet, tRetN, tOp, tUn, tTest, tB, tCons, tNil, tCB, tC, tNext, tCallS, tDrop, tNot, tNotV, tSl, tNoPart, tPart, tBM, tBM0, iList, iTup, iStr, iSrc, iRng1, iRng2, iEnumS, iZipS, tBreak, tCont, gSub, tAug, tMth, tMakeS, tM1, tM0, tFld, cxOf]
      refine s_cutB (F := F34) (ss' := [.un, .own (List.map D.int y15.2), .val (D.int (y4.1 % (6 : Int))), .val ((eL (eT (eP D.int D.int))) y9.1), .val ((eT (eP D.int D.int)) y15.1), .val ((eL (eT (eP D.int D.int))) y9.1), .val ((eS (eT (eP D.int D.int)) D.str) y26), .val ((eS (eT (eP D.int D.int)) D.str) y32), .un, .un, .un]) s hm34 (fun y35 F35 H35 hm35 e35 c35 => ?_) (fun P35 R35 s35 h35 kn35 => ?_)
      ·
        refine s_ite hm35 (fun _ hm36 => ?_) (fun _ hm37 => ?_)
        ·
          try try dsimp only [tAsg, tRet, tRetN, tOp, tUn, tTest, tB, tCons, tNil, tCB, tC, tNext, tCallS, tDrop, tNot, tNotV, tSl, tNoPart, tPart, tBM, tBM0, iList, iTup, iStr, iSrc, iRng1, iRng2, iEnumS, iZipS, tBreak, tCont, gSub, tAug, tMth, tMakeS, tM1, tM0, tFld, cxOf]
          exact Fin.ret (d := D.bl false) hm36 c35 ((Rep.bl _)) rfl (.inl rfl)
        ·
          refine w_seq ?_
          refine w_ifS ?_
          try dsimp only [tAsg, tRet, tRetN, tOp, tUn, tTest, tB, tCons, tNil, tCB, tC, tNext, tCallS, tDrop, tNot, tNotV, tSl, tNoPart, tPart, tBM, tBM0, iList, iTup, iStr, iSrc, iRng1, iRng2, iEnumS, iZipS, tBreak, tCont, gSub, tAug, tMth, tMakeS, tM1, tM0, tFld, cxOf]
          refine s_varI c35 (i := 2) rfl ?_
          refine s_var c35 (i := 3) rfl fun v38 r39 => ?_
          refine s_var c35 (i := 4) rfl fun v40 r41 => ?_
          refine w_tup ?_
          try dsimp only [tAsg, tRet, tRetN, tOp, tUn, tTest, tB, tCons, tNil, tCB, tC, tNext, tCallS, tDrop, tNot, tNotV, tSl, tNoPart, tPart, tBM, tBM0, iList, iTup, iStr, iSrc, iRng1, iRng2, iEnumS, iZipS, tBreak, tCont, gSub, tAug, tMth, tMakeS, tM1, tM0, tFld, cxOf]
          refine w_tup ?_
          try dsimp only [tAsg, tRet, tRetN, tOp, tUn, tTest, tB, tCons, tNil, tCB, tC, tNext, tCallS, tDrop, tNot, tNotV, tSl, tNoPart, tPart, tBM, tBM0, iList, iTup, iStr, iSrc, iRng1, iRng2, iEnumS, iZipS, tBreak, tCont, gSub, tAug, tMth, tMakeS, tM1, tM0, tFld, cxOf]
          refine n_tup c35 (Reps.cons (Rep.int _) (Reps.cons (Rep.int _) Reps.nil)) (by show (2 : Nat) ≤ sizeLine; decide) fun v42 F42 H42 e42 c42 r42 => ?_
          refine n_tup c42 (Reps.cons r42 Reps.nil) (by show (1 : Nat) ≤ sizeLine; decide) fun v43 F43 H43 e43 c43 r43 => ?_
          refine s_catT s hm37 c43 (show Rep K _ _ ((eT (eP D.int D.int)) y15.1) from (r41.mono (e42.trans e43))) (show Rep K _ _ ((eT (eP D.int D.int)) [((2 : Int), (2 : Int))]) from r43) fun x44 v46 F46 H46 hm45 e46 c46 r46 => ?_
          refine s_call (ps := (fun x : (Int × Int × (List (List (Int × Int))) × (List (Int × Int))) => [D.int x.1, D.int x.2.1, (eL (eT (eP D.int D.int))) x.2.2.1, (eT (eP D.int D.int)) x.2.2.2])) (m := (fun x => m__law_told x.1 x.2.1 x.2.2.1 x.2.2.2)) (x := ((1 : Int), (y4.1 % (6 : Int)), y9.1, x44)) s hm45 c46 rfl (Reps.cons (show Rep K _ _ (D.int (1 : Int)) from (Rep.int _)) (Reps.cons (show Rep K _ _ (D.int (y4.1 % (6 : Int))) from (Rep.int _)) (Reps.cons (show Rep K _ _ ((eL (eT (eP D.int D.int))) y9.1) from (r39.mono (e42.trans (e43.trans e46)))) (Reps.cons (show Rep K _ _ ((eT (eP D.int D.int)) x44) from r46) Reps.nil)))) fun y47 v47 F47 H47 hm47 e47 c47 r47 => ?_
          refine s_neP (en := (eS (eT (eP D.int D.int)) D.str)) s hm47 c47 (show Rep K _ _ ((eS (eT (eP D.int D.int)) D.str) y47) from r47) (show Rep K _ _ ((eS (eT (eP D.int D.int)) D.str) (Sum.inr (Str.ofString "![0, 1]"))) from ((Rep.str _).mono (e4.trans (e8.trans (e9.trans (e10.trans (e15.trans (e20.trans (e26.trans (e32.trans (e34.trans (e35.trans (e42.trans (e43.trans (e46.trans e47))))))))))))))) fun x48 q50 hm49 => ?_
          refine s_test' ?_
          refine s_ite hm49 (fun _ hm51 => ?_) (fun _ hm52 => ?_)
          ·
            try try dsimp only [tAsg, tRet, tRetN, tOp, tUn, tTest, tB, tCons, tNil, tCB, tC, tNext, tCallS, tDrop, tNot, tNotV, tSl, tNoPart, tPart, tBM, tBM0, iList, iTup, iStr, iSrc, iRng1, iRng2, iEnumS, iZipS, tBreak, tCont, gSub, tAug, tMth, tMakeS, tM1, tM0, tFld, cxOf]
            exact Fin.ret (d := D.bl false) hm51 c47 ((Rep.bl _)) rfl (.inl rfl)
          ·
            refine s_cutC (F := F47) (nx := fun st53 => [.un, .own (List.map D.int st53), .val (D.int (y4.1 % (6 : Int))), .val ((eL (eT (eP D.int D.int))) y9.1), .val ((eT (eP D.int D.int)) y15.1), .val ((eL (eT (eP D.int D.int))) y9.1), .val ((eS (eT (eP D.int D.int)) D.str) y26), .val ((eS (eT (eP D.int D.int)) D.str) y32), .un, .un, .un]) s hm52 (fun st53 F53 H53 σ hm53 e53 c53 => ?_) (fun P53 N53 s53 h53 kn53 kr53 => ?_)
            ·
              try try dsimp only [tAsg, tRet, tRetN, tOp, tUn, tTest, tB, tCons, tNil, tCB, tC, tNext, tCallS, tDrop, tNot, tNotV, tSl, tNoPart, tPart, tBM, tBM0, iList, iTup, iStr, iSrc, iRng1, iRng2, iEnumS, iZipS, tBreak, tCont, gSub, tAug, tMth, tMakeS, tM1, tM0, tFld, cxOf]
              exact Fin.ret (d := D.bl true) hm53 c53 ((Rep.bl _)) rfl (.inl rfl)
            ·
              refine w_ifS ?_
              try dsimp only [tAsg, tRet, tRetN, tOp, tUn, tTest, tB, tCons, tNil, tCB, tC, tNext, tCallS, tDrop, tNot, tNotV, tSl, tNoPart, tPart, tBM, tBM0, iList, iTup, iStr, iSrc, iRng1, iRng2, iEnumS, iZipS, tBreak, tCont, gSub, tAug, tMth, tMakeS, tM1, tM0, tFld, cxOf]
              refine s_var c47 (i := 3) rfl fun v54 r55 => ?_
              refine s_truL c47 (show Rep K _ _ ((eL (eT (eP D.int D.int))) y9.1) from r55) ?_
              refine s_ite h53 (fun _ hm56 => ?_) (fun _ hm57 => ?_)
              ·
                refine w_seq ?_
                try try dsimp only [tAsg, tRet, tRetN, tOp, tUn, tTest, tB, tCons, tNil, tCB, tC, tNext, tCallS, tDrop, tNot, tNotV, tSl, tNoPart, tPart, tBM, tBM0, iList, iTup, iStr, iSrc, iRng1, iRng2, iEnumS, iZipS, tBreak, tCont, gSub, tAug, tMth, tMakeS, tM1, tM0, tFld, cxOf]
                refine s_varO c47 (i := 1) rfl fun a58 xs58 ha58 hx58 l58 t58 => ?_
                refine s_callO (ps := (fun x : (List Int) => [])) (m := (fun x => m__law_next x)) (x := (y15.2)) (i := 1) s53 hm56 c47 rfl ha58 rfl Reps.nil fun y59 v59 F59 H59 hm59 e59 c59 r59 => ?_
                replace c59 : Ctx K _ _ _ _ [.un, .own (List.map D.int y59.2), .val (D.int (y4.1 % (6 : Int))), .val ((eL (eT (eP D.int D.int))) y9.1), .val ((eT (eP D.int D.int)) y15.1), .val ((eL (eT (eP D.int D.int))) y9.1), .val ((eS (eT (eP D.int D.int)) D.str) y26), .val ((eS (eT (eP D.int D.int)) D.str) y32), .un, .un, .un] := c59
                cases (show Rep K _ _ (D.int y59.1) from r59)
                refine n_intI ?_
                refine s_var c59 (i := 3) rfl fun v60 r61 => ?_
                refine n_lenL c59 (show Rep K _ _ ((eL (eT (eP D.int D.int))) y9.1) from r61) ?_
                refine s_mod' s53 hm59 fun x62 q64 hm63 => ?_
                refine s_set (i := 8) (d := D.int x62) (ss' := [.un, .own (List.map D.int y59.2), .val (D.int (y4.1 % (6 : Int))), .val ((eL (eT (eP D.int D.int))) y9.1), .val ((eT (eP D.int D.int)) y15.1), .val ((eL (eT (eP D.int D.int))) y9.1), .val ((eS (eT (eP D.int D.int)) D.str) y26), .val ((eS (eT (eP D.int D.int)) D.str) y32), .val (D.int x62), .un, .un]) c59 (.inl (by decide)) ((Rep.int _)) rfl fun σ c65 => ?_
                try try dsimp only [tAsg, tRet, tRetN, tOp, tUn, tTest, tB, tCons, tNil, tCB, tC, tNext, tCallS, tDrop, tNot, tNotV, tSl, tNoPart, tPart, tBM, tBM0, iList, iTup, iStr, iSrc, iRng1, iRng2, iEnumS, iZipS, tBreak, tCont, gSub, tAug, tMth, tMakeS, tM1, tM0, tFld, cxOf]
                refine w_for ?_
                try dsimp only [tAsg, tRet, tRetN, tOp, tUn, tTest, tB, tCons, tNil, tCB, tC, tNext, tCallS, tDrop, tNot, tNotV, tSl, tNoPart, tPart, tBM, tBM0, iList, iTup, iStr, iSrc, iRng1, iRng2, iEnumS, iZipS, tBreak, tCont, gSub, tAug, tMth, tMakeS, tM1, tM0, tFld, cxOf]
                refine w_lst ?_
                try dsimp only [tAsg, tRet, tRetN, tOp, tUn, tTest, tB, tCons, tNil, tCB, tC, tNext, tCallS, tDrop, tNot, tNotV, tSl, tNoPart, tPart, tBM, tBM0, iList, iTup, iStr, iSrc, iRng1, iRng2, iEnumS, iZipS, tBreak, tCont, gSub, tAug, tMth, tMakeS, tM1, tM0, tFld, cxOf]
                refine s_var c65 (i := 4) rfl fun v66 r67 => ?_
                refine s_varI c65 (i := 8) rfl ?_
                refine ⟨_, rfl, ?_⟩
                refine s_sliceT c65 (show Rep K _ _ ((eT (eP D.int D.int)) y15.1) from r67) fun v68 F68 H68 e68 c68 r68 => ?_
                refine w_tup ?_
                try dsimp only [tAsg, tRet, tRetN, tOp, tUn, tTest, tB, tCons, tNil, tCB, tC, tNext, tCallS, tDrop, tNot, tNotV, tSl, tNoPart, tPart, tBM, tBM0, iList, iTup, iStr, iSrc, iRng1, iRng2, iEnumS, iZipS, tBreak, tCont, gSub, tAug, tMth, tMakeS, tM1, tM0, tFld, cxOf]
                refine w_tup ?_
                try dsimp only [tAsg, tRet, tRetN, tOp, tUn, tTest, tB, tCons, tNil, tCB, tC, tNext, tCallS, tDrop, tNot, tNotV, tSl, tNoPart, tPart, tBM, tBM0, iList, iTup, iStr, iSrc, iRng1, iRng2, iEnumS, iZipS, tBreak, tCont, gSub, tAug, tMth, tMakeS, tM1, tM0, tFld, cxOf]
                refine n_tup c68 (Reps.cons (Rep.int _) (Reps.cons (Rep.int _) Reps.nil)) (by show (2 : Nat) ≤ sizeLine; decide) fun v69 F69 H69 e69 c69 r69 => ?_
                refine n_tup c69 (Reps.cons r69 Reps.nil) (by show (1 : Nat) ≤ sizeLine; decide) fun v70 F70 H70 e70 c70 r70 => ?_
                refine s_catT s53 hm63 c70 (show Rep K _ _ ((eT (eP D.int D.int)) (cut y15.1 none (some x62))) from (r68.mono (e69.trans e70))) (show Rep K _ _ ((eT (eP D.int D.int)) [((2 : Int), (4 : Int))]) from r70) fun x71 v73 F73 H73 hm72 e73 c73 r73 => ?_
                refine s_var c73 (i := 4) rfl fun v74 r75 => ?_
                refine s_varI c73 (i := 8) rfl ?_
                refine s_i0 ?_
                refine ⟨_, rfl, ?_⟩
                refine s_sliceT c73 (show Rep K _ _ ((eT (eP D.int D.int)) y15.1) from r75) fun v76 F76 H76 e76 c76 r76 => ?_
                refine s_catT s53 hm72 c76 (show Rep K _ _ ((eT (eP D.int D.int)) x71) from (r73.mono e76)) (show Rep K _ _ ((eT (eP D.int D.int)) (cut y15.1 (some (x62 + (1 : Int))) none)) from r76) fun x77 v79 F79 H79 hm78 e79 c79 r79 => ?_
                refine s_var c79 (i := 4) rfl fun v80 r81 => ?_
                refine s_varI c79 (i := 8) rfl ?_
                refine ⟨_, rfl, ?_⟩
                refine s_sliceT c79 (show Rep K _ _ ((eT (eP D.int D.int)) y15.1) from r81) fun v82 F82 H82 e82 c82 r82 => ?_
                refine w_tup ?_
                try dsimp only [tAsg, tRet, tRetN, tOp, tUn, tTest, tB, tCons, tNil, tCB, tC, tNext, tCallS, tDrop, tNot, tNotV, tSl, tNoPart, tPart, tBM, tBM0, iList, iTup, iStr, iSrc, iRng1, iRng2, iEnumS, iZipS, tBreak, tCont, gSub, tAug, tMth, tMakeS, tM1, tM0, tFld, cxOf]
                refine w_tup ?_
                try dsimp only [tAsg, tRet, tRetN, tOp, tUn, tTest, tB, tCons, tNil, tCB, tC, tNext, tCallS, tDrop, tNot, tNotV, tSl, tNoPart, tPart, tBM, tBM0, iList, iTup, iStr, iSrc, iRng1, iRng2, iEnumS, iZipS, tBreak, tCont, gSub, tAug, tMth, tMakeS, tM1, tM0, tFld, cxOf]
                refine n_tup c82 (Reps.cons (Rep.int _) (Reps.cons (Rep.int _) Reps.nil)) (by show (2 : Nat) ≤ sizeLine; decide) fun v83 F83 H83 e83 c83 r83 => ?_
                refine n_tup c83 (Reps.cons r83 Reps.nil) (by show (1 : Nat) ≤ sizeLine; decide) fun v84 F84 H84 e84 c84 r84 => ?_
                refine s_catT s53 hm78 c84 (show Rep K _ _ ((eT (eP D.int D.int)) (cut y15.1 none (some x62))) from (r82.mono (e83.trans e84))) (show Rep K _ _ ((eT (eP D.int D.int)) [((1 : Int), (0 : Int))]) from r84) fun x85 v87 F87 H87 hm86 e87 c87 r87 => ?_
                refine s_var c87 (i := 4) rfl fun v88 r89 => ?_
                refine s_varI c87 (i := 8) rfl ?_
                refine s_i0 ?_
                refine ⟨_, rfl, ?_⟩
                refine s_sliceT c87 (show Rep K _ _ ((eT (eP D.int D.int)) y15.1) from r89) fun v90 F90 H90 e90 c90 r90 => ?_
                refine s_catT s53 hm86 c90 (show Rep K _ _ ((eT (eP D.int D.int)) x85) from (r87.mono e90)) (show Rep K _ _ ((eT (eP D.int D.int)) (cut y15.1 (some (x62 + (1 : Int))) none)) from r90) fun x91 v93 F93 H93 hm92 e93 c93 r93 => ?_
                refine s_var c93 (i := 4) rfl fun v94 r95 => ?_
                refine s_iU ?_
                refine ⟨_, rfl, ?_⟩
                refine s_sliceT c93 (show Rep K _ _ ((eT (eP D.int D.int)) y15.1) from r95) fun v96 F96 H96 e96 c96 r96 => ?_
                refine n_lst c96 (Reps.cons (r79.mono (e82.trans (e83.trans (e84.trans (e87.trans (e90.trans (e93.trans e96))))))) (Reps.cons (r93.mono e96) (Reps.cons r96 Reps.nil))) (by show (3 : Nat) ≤ sizeLine; decide) fun v97 F97 H97 e97 c97 r97 => ?_
                have sl98 := lenL (show Rep K _ _ ((eL (eT (eP D.int D.int))) [x77, x91, (cut y15.1 none (some (-(1 : Int))))]) from r97)
                obtain ⟨a98, q98, x98, it98⟩ := x_list c97 (show Rep K _ _ ((eL (eT (eP D.int D.int))) [x77, x91, (cut y15.1 none (some (-(1 : Int))))]) from r97)
                refine ⟨a98, q98, x98, ?_⟩
                refine s_forCP (vs := [9]) (nx := fun st99 => [.un, .own (List.map D.int y59.2), .val (D.int (y4.1 % (6 : Int))), .val ((eL (eT (eP D.int D.int))) y9.1), .val ((eT (eP D.int D.int)) y15.1), .val ((eL (eT (eP D.int D.int))) y9.1), .val ((eS (eT (eP D.int D.int)) D.str) y26), .val ((eS (eT (eP D.int D.int)) D.str) y32), .val (D.int x62), .un, .un]) (ss' := fun z99 st99 => [.un, .own (List.map D.int y59.2), .val (D.int (y4.1 % (6 : Int))), .val ((eL (eT (eP D.int D.int))) y9.1), .val ((eT (eP D.int D.int)) y15.1), .val ((eL (eT (eP D.int D.int))) y9.1), .val ((eS (eT (eP D.int D.int)) D.str) y26), .val ((eS (eT (eP D.int D.int)) D.str) y32), .val (D.int x62), .val ((eT (eP D.int D.int)) z99), .un]) (s0 := ()) s53 hm92 c97 it98 (.inl (by decide)) (tg_name (by decide)) (fun _ _ => rfl) (fun z99 st99 F99 H99 σ P99 N99 s99 h99 zm99 e99 c99 kn99 kb99 kr99 => ?_) (fun st99 F99 H99 σ hm99 e99 c99 => ?_)
                ·
                  refine w_ifS ?_
                  try dsimp only [tAsg, tRet, tRetN, tOp, tUn, tTest, tB, tCons, tNil, tCB, tC, tNext, tCallS, tDrop, tNot, tNotV, tSl, tNoPart, tPart, tBM, tBM0, iList, iTup, iStr, iSrc, iRng1, iRng2, iEnumS, iZipS, tBreak, tCont, gSub, tAug, tMth, tMakeS, tM1, tM0, tFld, cxOf]
                  refine w_lc ?_
                  try dsimp only [tAsg, tRet, tRetN, tOp, tUn, tTest, tB, tCons, tNil, tCB, tC, tNext, tCallS, tDrop, tNot, tNotV, tSl, tNoPart, tPart, tBM, tBM0, iList, iTup, iStr, iSrc, iRng1, iRng2, iEnumS, iZipS, tBreak, tCont, gSub, tAug, tMth, tMakeS, tM1, tM0, tFld, cxOf]
                  refine ⟨_, rfl, by decide, by decide, ?_⟩
                  have it100 := it_rng0 (K := K) (F := F99) (hi := (2 : Int))
                  refine s_compM (vs := [10]) (en := (eS (eT (eP D.int D.int)) D.str)) (ss' := fun z101 => [.un, .rd (List.map D.int y59.2), .val (D.int (y4.1 % (6 : Int))), .val ((eL (eT (eP D.int D.int))) y9.1), .val ((eT (eP D.int D.int)) y15.1), .val ((eL (eT (eP D.int D.int))) y9.1), .val ((eS (eT (eP D.int D.int)) D.str) y26), .val ((eS (eT (eP D.int D.int)) D.str) y32), .val (D.int x62), .val ((eT (eP D.int D.int)) z99), .val (D.int z101)]) s99 h99 c99 it100 (.inl (by decide)) (tg_name (by decide)) (fun _ => rfl) (by rw [rng_len]; decide) (fun B101 z101 F101 H101 σ101 P101 G101 Sk101 hio101 s101 h101 zm101 e101 c101 kd101 ks101 => ?_) (fun v101 bs101 HH101 hm101 q101 => ?_)
                  ·
                    replace s101 := s101 11 (fun _ _ _ _ => False) (ecl ad)
                    try dsimp only [tAsg, tRet, tRetN, tOp, tUn, tTest, tB, tCons, tNil, tCB, tC, tNext, tCallS, tDrop, tNot, tNotV, tSl, tNoPart, tPart, tBM, tBM0, iList, iTup, iStr, iSrc, iRng1, iRng2, iEnumS, iZipS, tBreak, tCont, gSub, tAug, tMth, tMakeS, tM1, tM0, tFld, cxOf]
                    refine s_varI c101 (i := 10) rfl ?_
                    refine s_varI c101 (i := 2) rfl ?_
                    refine s_var c101 (i := 3) rfl fun v102 r103 => ?_
                    refine s_var c101 (i := 9) rfl fun v104 r105 => ?_
                    refine s_call (ps := (fun x : (Int × Int × (List (List (Int × Int))) × (List (Int × Int))) => [D.int x.1, D.int x.2.1, (eL (eT (eP D.int D.int))) x.2.2.1, (eT (eP D.int D.int)) x.2.2.2])) (m := (fun x => m__law_told x.1 x.2.1 x.2.2.1 x.2.2.2)) (x := (z101, (y4.1 % (6 : Int)), y9.1, z99)) s101 h101 c101 rfl (Reps.cons (show Rep K _ _ (D.int z101) from (Rep.int _)) (Reps.cons (show Rep K _ _ (D.int (y4.1 % (6 : Int))) from (Rep.int _)) (Reps.cons (show Rep K _ _ ((eL (eT (eP D.int D.int))) y9.1) from r103) (Reps.cons (show Rep K _ _ ((eT (eP D.int D.int)) z99) from r105) Reps.nil)))) fun y106 v106 F106 H106 hm106 e106 c106 r106 => ?_
                    exact kd101 _ _ _ _ _ _ hm106 c106 (show Rep K _ _ ((eS (eT (eP D.int D.int)) D.str) y106) from r106)
                  ·
                    obtain ⟨F107, e107, c107, r107⟩ := q101
                    obtain ⟨F108, e108, c108, r108⟩ := Nw.frz c107 r107
                    refine w_lst ?_
                    try dsimp only [tAsg, tRet, tRetN, tOp, tUn, tTest, tB, tCons, tNil, tCB, tC, tNext, tCallS, tDrop, tNot, tNotV, tSl, tNoPart, tPart, tBM, tBM0, iList, iTup, iStr, iSrc, iRng1, iRng2, iEnumS, iZipS, tBreak, tCont, gSub, tAug, tMth, tMakeS, tM1, tM0, tFld, cxOf]
                    refine n_lst c108 (Reps.cons ((Rep.str _).mono (e4.trans (e8.trans (e9.trans (e10.trans (e15.trans (e20.trans (e26.trans (e32.trans (e34.trans (e35.trans (e42.trans (e43.trans (e46.trans (e47.trans (e59.trans (e68.trans (e69.trans (e70.trans (e73.trans (e76.trans (e79.trans (e82.trans (e83.trans (e84.trans (e87.trans (e90.trans (e93.trans (e96.trans (e97.trans (e99.trans (e107.trans e108)))))))))))))))))))))))))))))))) (Reps.cons ((Rep.str _).mono (e4.trans (e8.trans (e9.trans (e10.trans (e15.trans (e20.trans (e26.trans (e32.trans (e34.trans (e35.trans (e42.trans (e43.trans (e46.trans (e47.trans (e59.trans (e68.trans (e69.trans (e70.trans (e73.trans (e76.trans (e79.trans (e82.trans (e83.trans (e84.trans (e87.trans (e90.trans (e93.trans (e96.trans (e97.trans (e99.trans (e107.trans e108)))))))))))))))))))))))))))))))) Reps.nil)) (by show (2 : Nat) ≤ sizeLine; decide) fun v109 F109 H109 e109 c109 r109 => ?_
                    refine s_neP (en := (eL (eS (eT (eP D.int D.int)) D.str))) s99 hm101 c109 (show Rep K _ _ ((eL (eS (eT (eP D.int D.int)) D.str)) bs101) from (r108.mono e109)) (show Rep K _ _ ((eL (eS (eT (eP D.int D.int)) D.str)) [(Sum.inr (Str.ofString "![0, 1]")), (Sum.inr (Str.ofString "![0, 1]"))]) from r109) fun x110 q112 hm111 => ?_
                    refine s_test' ?_
                    refine s_ite hm111 (fun _ hm113 => ?_) (fun _ hm114 => ?_)
                    ·
                      try try dsimp only [tAsg, tRet, tRetN, tOp, tUn, tTest, tB, tCons, tNil, tCB, tC, tNext, tCallS, tDrop, tNot, tNotV, tSl, tNoPart, tPart, tBM, tBM0, iList, iTup, iStr, iSrc, iRng1, iRng2, iEnumS, iZipS, tBreak, tCont, gSub, tAug, tMth, tMakeS, tM1, tM0, tFld, cxOf]
                      have hm115 := kr99 _ hm113
                      have hm116 := kr53 _ hm115
                      exact Fin.ret (d := D.bl false) hm116 c109 ((Rep.bl _)) rfl (.inl rfl)
                    ·
                      exact kn99 () _ _ _ hm114 (e107.trans (e108.trans e109)) (c109.drop 9)
                ·
                  have c117 := c99
                  exact kn53 y59.2 _ _ _ hm99 (e59.trans (e68.trans (e69.trans (e70.trans (e73.trans (e76.trans (e79.trans (e82.trans (e83.trans (e84.trans (e87.trans (e90.trans (e93.trans (e96.trans (e97.trans e99))))))))))))))) (c117.drop 8)
              ·
                exact kn53 y15.2 _ _ _ hm57 (Ex.refl _) c47
      ·
        refine w_orT ?_
        try dsimp only [tAsg, tRet, tRetN, tOp, tUn, tTest, tB, tCons, tNil, tCB, tC, tNext, tCallS, tDrop, tNot, tNotV, tSl, tNoPart, tPart, tBM, tBM0, iList, iTup, iStr, iSrc, iRng1, iRng2, iEnumS, iZipS, tBreak, tCont, gSub, tAug, tMth, tMakeS, tM1, tM0, tFld, cxOf]
        refine s_var c34 (i := 3) rfl fun v118 r119 => ?_
        refine s_var c34 (i := 5) rfl fun v120 r121 => ?_
        refine s_neD (en := (eL (eT (eP D.int D.int)))) c34 (show Rep K _ _ ((eL (eT (eP D.int D.int))) y9.1) from r119) (show Rep K _ _ ((eL (eT (eP D.int D.int))) y9.1) from r121) ?_
        refine s_test' ?_
        refine s_ite h35 (fun _ hm122 => ?_) (fun _ hm123 => ?_)
        ·
          exact kn35 _ _ _ hm122 (Ex.refl _) c34
        ·
          refine s_varI c34 (i := 2) rfl ?_
          refine s_var c34 (i := 3) rfl fun v124 r125 => ?_
          refine s_var c34 (i := 4) rfl fun v126 r127 => ?_
          refine w_tup ?_
          try dsimp only [tAsg, tRet, tRetN, tOp, tUn, tTest, tB, tCons, tNil, tCB, tC, tNext, tCallS, tDrop, tNot, tNotV, tSl, tNoPart, tPart, tBM, tBM0, iList, iTup, iStr, iSrc, iRng1, iRng2, iEnumS, iZipS, tBreak, tCont, gSub, tAug, tMth, tMakeS, tM1, tM0, tFld, cxOf]
          refine w_tup ?_
          try dsimp only [tAsg, tRet, tRetN, tOp, tUn, tTest, tB, tCons, tNil, tCB, tC, tNext, tCallS, tDrop, tNot, tNotV, tSl, tNoPart, tPart, tBM, tBM0, iList, iTup, iStr, iSrc, iRng1, iRng2, iEnumS, iZipS, tBreak, tCont, gSub, tAug, tMth, tMakeS, tM1, tM0, tFld, cxOf]
          refine n_tup c34 (Reps.cons (Rep.int _) (Reps.cons (Rep.int _) Reps.nil)) (by show (2 : Nat) ≤ sizeLine; decide) fun v128 F128 H128 e128 c128 r128 => ?_
          refine n_tup c128 (Reps.cons r128 Reps.nil) (by show (1 : Nat) ≤ sizeLine; decide) fun v129 F129 H129 e129 c129 r129 => ?_
          refine s_catT s35 hm123 c129 (show Rep K _ _ ((eT (eP D.int D.int)) y15.1) from (r127.mono (e128.trans e129))) (show Rep K _ _ ((eT (eP D.int D.int)) [((0 : Int), (1 : Int))]) from r129) fun x130 v132 F132 H132 hm131 e132 c132 r132 => ?_
          refine s_call (ps := (fun x : (Int × Int × (List (List (Int × Int))) × (List (Int × Int))) => [D.int x.1, D.int x.2.1, (eL (eT (eP D.int D.int))) x.2.2.1, (eT (eP D.int D.int)) x.2.2.2])) (m := (fun x => m__law_told x.1 x.2.1 x.2.2.1 x.2.2.2)) (x := ((0 : Int), (y4.1 % (6 : Int)), y9.1, x130)) s35 hm131 c132 rfl (Reps.cons (show Rep K _ _ (D.int (0 : Int)) from (Rep.int _)) (Reps.cons (show Rep K _ _ (D.int (y4.1 % (6 : Int))) from (Rep.int _)) (Reps.cons (show Rep K _ _ ((eL (eT (eP D.int D.int))) y9.1) from (r125.mono (e128.trans (e129.trans e132)))) (Reps.cons (show Rep K _ _ ((eT (eP D.int D.int)) x130) from r132) Reps.nil)))) fun y133 v133 F133 H133 hm133 e133 c133 r133 => ?_
          refine s_neP (en := (eS (eT (eP D.int D.int)) D.str)) s35 hm133 c133 (show Rep K _ _ ((eS (eT (eP D.int D.int)) D.str) y133) from r133) (show Rep K _ _ ((eS (eT (eP D.int D.int)) D.str) (Sum.inr (Str.ofString "![0, 1]"))) from ((Rep.str _).mono (e4.trans (e8.trans (e9.trans (e10.trans (e15.trans (e20.trans (e26.trans (e32.trans (e34.trans (e128.trans (e129.trans (e132.trans e133)))))))))))))) fun x134 q136 hm135 => ?_
          refine s_test' ?_
          exact kn35 _ _ _ hm135 (e128.trans (e129.trans (e132.trans e133))) c133
    ·
      refine w_ifS ?_
      try dsimp only [tAsg, tRet, tRetN, tOp, tUn, tTest, tB, tCons, tNil, tCB, tC, tNext, tCallS, tDrop, tNot, tNotV, tSl, tNoPart, tPart, tBM, tBM0, iList, iTup, iStr, iSrc, iRng1, iRng2, iEnumS, iZipS, tBreak, tCont, gSub, tAug, tMth, tMakeS, tM1, tM0, tFld, cxOf]
      refine s_var c33 (i := 6) rfl fun v137 r138 => ?_
      refine s_isiU (b1 := false) (b2 := true) c33 (show Rep K _ _ ((eS (eT (eP D.int D.int)) D.str) y26) from r138) (kit_ty (by decide +kernel)) (kit_ty (by decide +kernel)) ?_
      refine s_test' ?_
      refine s_ite h34 (fun _ hm139 => ?_) (fun _ hm140 => ?_)
      ·
        refine w_ifS ?_
        try dsimp only [tAsg, tRet, tRetN, tOp, tUn, tTest, tB, tCons, tNil, tCB, tC, tNext, tCallS, tDrop, tNot, tNotV, tSl, tNoPart, tPart, tBM, tBM0, iList, iTup, iStr, iSrc, iRng1, iRng2, iEnumS, iZipS, tBreak, tCont, gSub, tAug, tMth, tMakeS, tM1, tM0, tFld, cxOf]
        refine s_cutB (F := F32) (ss' := [.un, .own (List.map D.int y15.2), .val (D.int (y4.1 % (6 : Int))), .val ((eL (eT (eP D.int D.int))) y9.1), .val ((eT (eP D.int D.int)) y15.1), .val ((eL (eT (eP D.int D.int))) y9.1), .val ((eS (eT (eP D.int D.int)) D.str) y26), .val ((eS (eT (eP D.int D.int)) D.str) y32), .un, .un, .un]) s34 hm139 (fun y141 F141 H141 hm141 e141 c141 => ?_) (fun P141 R141 s141 h141 kn141 => ?_)
        ·
          refine s_ite hm141 (fun _ hm142 => ?_) (fun _ hm143 => ?_)
          ·
            try try dsimp only [tAsg, tRet, tRetN, tOp, tUn, tTest, tB, tCons, tNil, tCB, tC, tNext, tCallS, tDrop, tNot, tNotV, tSl, tNoPart, tPart, tBM, tBM0, iList, iTup, iStr, iSrc, iRng1, iRng2, iEnumS, iZipS, tBreak, tCont, gSub, tAug, tMth, tMakeS, tM1, tM0, tFld, cxOf]
            have hm144 := kr34 _ hm142
            exact Fin.ret (d := D.bl false) hm144 c141 ((Rep.bl _)) rfl (.inl rfl)
          ·
            exact kn34 () _ _ _ hm143 e141 c141
        ·
          refine w_orT ?_
          try dsimp only [tAsg, tRet, tRetN, tOp, tUn, tTest, tB, tCons, tNil, tCB, tC, tNext, tCallS, tDrop, tNot, tNotV, tSl, tNoPart, tPart, tBM, tBM0, iList, iTup, iStr, iSrc, iRng1, iRng2, iEnumS, iZipS, tBreak, tCont, gSub, tAug, tMth, tMakeS, tM1, tM0, tFld, cxOf]
          refine s_var c33 (i := 6) rfl fun v145 r146 => ?_
          refine s_neP (en := (eS (eT (eP D.int D.int)) D.str)) s141 h141 c33 (show Rep K _ _ ((eS (eT (eP D.int D.int)) D.str) y26) from r146) (show Rep K _ _ ((eS (eT (eP D.int D.int)) D.str) (Sum.inr (Str.ofString "![1, 0]"))) from ((Rep.str _).mono (e4.trans (e8.trans (e9.trans (e10.trans (e15.trans (e20.trans (e26.trans e32))))))))) fun x147 q149 hm148 => ?_
          refine s_test' ?_
          refine s_ite hm148 (fun _ hm150 => ?_) (fun _ hm151 => ?_)
          ·
            exact kn141 _ _ _ hm150 (Ex.refl _) c33
          ·
            refine w_orT ?_
            try dsimp only [tAsg, tRet, tRetN, tOp, tUn, tTest, tB, tCons, tNil, tCB, tC, tNext, tCallS, tDrop, tNot, tNotV, tSl, tNoPart, tPart, tBM, tBM0, iList, iTup, iStr, iSrc, iRng1, iRng2, iEnumS, iZipS, tBreak, tCont, gSub, tAug, tMth, tMakeS, tM1, tM0, tFld, cxOf]
            refine s_var c33 (i := 7) rfl fun v152 r153 => ?_
            refine s_isiU (b1 := false) (b2 := true) c33 (show Rep K _ _ ((eS (eT (eP D.int D.int)) D.str) y32) from r153) (kit_ty (by decide +kernel)) (kit_ty (by decide +kernel)) ?_
            refine s_test' ?_
            refine s_ite hm151 (fun _ hm154 => ?_) (fun _ hm155 => ?_)
            ·
              exact kn141 _ _ _ hm154 (Ex.refl _) c33
            ·
              refine s_varI c33 (i := 2) rfl ?_
              refine s_var c33 (i := 3) rfl fun v156 r157 => ?_
              refine s_var c33 (i := 4) rfl fun v158 r159 => ?_
              refine s_var c33 (i := 7) rfl fun v160 r161 => ?_
              obtain ⟨y162, hm163, r164⟩ := s_unL s141 hm155 (show Rep K _ _ ((eS (eT (eP D.int D.int)) D.str) y32) from r161)
              refine s_call (ps := (fun x : (Int × (List (List (Int × Int))) × (List (Int × Int)) × (List (Int × Int))) => [D.int x.1, (eL (eT (eP D.int D.int))) x.2.1, (eT (eP D.int D.int)) x.2.2.1, (eT (eP D.int D.int)) x.2.2.2])) (m := (fun x => m__law_clashes x.1 x.2.1 x.2.2.1 x.2.2.2)) (x := ((y4.1 % (6 : Int)), y9.1, y15.1, y162)) s141 hm163 c33 rfl (Reps.cons (show Rep K _ _ (D.int (y4.1 % (6 : Int))) from (Rep.int _)) (Reps.cons (show Rep K _ _ ((eL (eT (eP D.int D.int))) y9.1) from r157) (Reps.cons (show Rep K _ _ ((eT (eP D.int D.int)) y15.1) from r159) (Reps.cons (show Rep K _ _ ((eT (eP D.int D.int)) y162) from r164) Reps.nil)))) fun y165 v165 F165 H165 hm165 e165 c165 r165 => ?_
              cases (show Rep K _ _ (D.bl y165) from r165)
              refine s_test' ?_
              exact kn141 _ _ _ hm165 e165 c165
      ·
        refine w_ifS ?_
        try dsimp only [tAsg, tRet, tRetN, tOp, tUn, tTest, tB, tCons, tNil, tCB, tC, tNext, tCallS, tDrop, tNot, tNotV, tSl, tNoPart, tPart, tBM, tBM0, iList, iTup, iStr, iSrc, iRng1, iRng2, iEnumS, iZipS, tBreak, tCont, gSub, tAug, tMth, tMakeS, tM1, tM0, tFld, cxOf]
        refine s_cutB (F := F32) (ss' := [.un, .own (List.map D.int y15.2), .val (D.int (y4.1 % (6 : Int))), .val ((eL (eT (eP D.int D.int))) y9.1), .val ((eT (eP D.int D.int)) y15.1), .val ((eL (eT (eP D.int D.int))) y9.1), .val ((eS (eT (eP D.int D.int)) D.str) y26), .val ((eS (eT (eP D.int D.int)) D.str) y32), .un, .un, .un]) s34 hm140 (fun y166 F166 H166 hm166 e166 c166 => ?_) (fun P166 R166 s166 h166 kn166 => ?_)
        ·
          refine s_ite hm166 (fun _ hm167 => ?_) (fun _ hm168 => ?_)
          ·
            try try dsimp only [tAsg, tRet, tRetN, tOp, tUn, tTest, tB, tCons, tNil, tCB, tC, tNext, tCallS, tDrop, tNot, tNotV, tSl, tNoPart, tPart, tBM, tBM0, iList, iTup, iStr, iSrc, iRng1, iRng2, iEnumS, iZipS, tBreak, tCont, gSub, tAug, tMth, tMakeS, tM1, tM0, tFld, cxOf]
            have hm169 := kr34 _ hm167
            exact Fin.ret (d := D.bl false) hm169 c166 ((Rep.bl _)) rfl (.inl rfl)
          ·
            exact kn34 () _ _ _ hm168 e166 c166
        ·
          refine w_orT ?_
          try dsimp only [tAsg, tRet, tRetN, tOp, tUn, tTest, tB, tCons, tNil, tCB, tC, tNext, tCallS, tDrop, tNot, tNotV, tSl, tNoPart, tPart, tBM, tBM0, iList, iTup, iStr, iSrc, iRng1, iRng2, iEnumS, iZipS, tBreak, tCont, gSub, tAug, tMth, tMakeS, tM1, tM0, tFld, cxOf]
          refine s_var c33 (i := 7) rfl fun v170 r171 => ?_
          refine s_neP (en := (eS (eT (eP D.int D.int)) D.str)) s166 h166 c33 (show Rep K _ _ ((eS (eT (eP D.int D.int)) D.str) y32) from r171) (show Rep K _ _ ((eS (eT (eP D.int D.int)) D.str) (Sum.inr (Str.ofString "![1, 0]"))) from ((Rep.str _).mono (e4.trans (e8.trans (e9.trans (e10.trans (e15.trans (e20.trans (e26.trans e32))))))))) fun x172 q174 hm173 => ?_
          refine s_test' ?_
          refine s_ite hm173 (fun _ hm175 => ?_) (fun _ hm176 => ?_)
          ·
            exact kn166 _ _ _ hm175 (Ex.refl _) c33
          ·
            refine s_varI c33 (i := 2) rfl ?_
            refine s_var c33 (i := 3) rfl fun v177 r178 => ?_
            refine s_var c33 (i := 4) rfl fun v179 r180 => ?_
            refine s_var c33 (i := 6) rfl fun v181 r182 => ?_
            obtain ⟨y183, hm184, r185⟩ := s_unL s166 hm176 (show Rep K _ _ ((eS (eT (eP D.int D.int)) D.str) y26) from r182)
            refine s_call (ps := (fun x : (Int × (List (List (Int × Int))) × (List (Int × Int)) × (List (Int × Int))) => [D.int x.1, (eL (eT (eP D.int D.int))) x.2.1, (eT (eP D.int D.int)) x.2.2.1, (eT (eP D.int D.int)) x.2.2.2])) (m := (fun x => m__law_solves x.1 x.2.1 x.2.2.1 x.2.2.2)) (x := ((y4.1 % (6 : Int)), y9.1, y15.1, y183)) s166 hm184 c33 rfl (Reps.cons (show Rep K _ _ (D.int (y4.1 % (6 : Int))) from (Rep.int _)) (Reps.cons (show Rep K _ _ ((eL (eT (eP D.int D.int))) y9.1) from r178) (Reps.cons (show Rep K _ _ ((eT (eP D.int D.int)) y15.1) from r180) (Reps.cons (show Rep K _ _ ((eT (eP D.int D.int)) y183) from r185) Reps.nil)))) fun y186 v186 F186 H186 hm186 e186 c186 r186 => ?_
            cases (show Rep K _ _ (D.bl y186) from r186)
            refine s_test' ?_
            exact kn166 _ _ _ hm186 e186 c186
end
end MI
namespace MI.MT
open PySem PySem.Spec PyProof.Rows L2 Evl PW
open MA
/-! ### fractions -/
theorem divisor_ok {a b : Int} (h : Sm b) : m__law_divisor a b = .ok (gcdI a b) := by
  unfold m__law_divisor
  have := euclid_all (a := a) (b := b) h
  show (loopC ebody _ _).bind _ = _
  rw [this]
  rfl
theorem lowest_ok {a b : Int} (h0 : b ≠ 0) (h : Sm b) : m__law_lowest a b = .ok (lw ((a : Rat) / b)) := by
  unfold m__law_lowest
  rw [divisor_ok h, Res.ok_bind]
  have g := low_eq (a := a) h0
  have gs := gcd_sm (a := a) h0 h
  have gp : 0 < Nat.gcd a.natAbs b.natAbs := Nat.gcd_pos_of_pos_right _ (by omega)
  have g0 : gcdI a b ≠ 0 := by
    show ((Nat.gcd a.natAbs b.natAbs : Nat) : Int) ≠ 0
    omega
  by_cases q : b < 0
  · rw [if_pos (decide_eq_true q), Res.ok_bind]
    simp only [if_pos q] at g
    have e : (0 : Int) - gcdI a b = -gcdI a b := by omega
    have s0 : -gcdI a b ≠ 0 := by omega
    have ss : Sm (-gcdI a b) := by
      show (-gcdI a b).natAbs < _
      rw [Int.natAbs_neg]
      exact gs
    rw [e, divR_ok s0 ss, Res.ok_bind, divR_ok s0 ss, Res.ok_bind]
    exact congrArg Res.ok g
  · rw [if_neg (fun z => q (of_decide_eq_true z)), Res.ok_bind]
    simp only [if_neg q] at g
    rw [divR_ok g0 gs, Res.ok_bind, divR_ok g0 gs, Res.ok_bind]
    exact congrArg Res.ok g
theorem number_ok {a b : Int} (h0 : b ≠ 0) (h : Sm b) : m_number a b = .ok (lw ((a : Rat) / b)) := by
  unfold m_number
  have g := low_eq (a := a) h0
  have gs := gcd_sm (a := a) h0 h
  have gp : 0 < Nat.gcd a.natAbs b.natAbs := Nat.gcd_pos_of_pos_right _ (by omega)
  have g0 : gcdI a b ≠ 0 := by
    show ((Nat.gcd a.natAbs b.natAbs : Nat) : Int) ≠ 0
    omega
  rw [if_neg (fun z => h0 (of_decide_eq_true z))]
  by_cases q : b < 0
  · rw [if_pos (decide_eq_true q), Res.ok_bind]
    simp only [if_pos q] at g
    have s0 : -gcdI a b ≠ 0 := by omega
    have ss : Sm (-gcdI a b) := by
      show (-gcdI a b).natAbs < _
      rw [Int.natAbs_neg]
      exact gs
    rw [divR_ok s0 ss, Res.ok_bind, divR_ok s0 ss, Res.ok_bind]
    exact congrArg Res.ok g
  · rw [if_neg (fun z => q (of_decide_eq_true z)), Res.ok_bind]
    simp only [if_neg q] at g
    rw [divR_ok g0 gs, Res.ok_bind, divR_ok g0 gs, Res.ok_bind]
    exact congrArg Res.ok g
/-- the parts have fewer than k binary figures -/
def Fz (k : Nat) (q : Rat) : Prop := q.num.natAbs < 2 ^ k ∧ q.den < 2 ^ k
theorem Fz.mono {k l : Nat} {q : Rat} (h : Fz k q) (e : k ≤ l) : Fz l q :=
  ⟨Nat.lt_of_lt_of_le h.1 (Nat.pow_le_pow_right (by decide) e), Nat.lt_of_lt_of_le h.2 (Nat.pow_le_pow_right (by decide) e)⟩
theorem fz_wh {D M k : Nat} {q : Rat} (hD : 0 < D) (h : Wh D M q) (d : D < 2 ^ k) (m : M < 2 ^ k) : Fz k q :=
  ⟨Nat.lt_of_le_of_lt (h.num hD) m, Nat.lt_of_le_of_lt (h.den hD) d⟩
theorem fz_n {k : Nat} {q : Rat} (h : Fz k q) (e : k ≤ 8900) : Sm (lw q).1 := Sm.of h.1 e
theorem fz_d {k : Nat} {q : Rat} (h : Fz k q) (e : k ≤ 8900) : Sm (lw q).2 := Sm.of (by
  show ((q.den : Int)).natAbs < _
  rw [Int.natAbs_natCast]
  exact h.2) e
theorem sm_mul {a b : Int} {k l : Nat} (ha : a.natAbs < 2 ^ k) (hb : b.natAbs < 2 ^ l) (e : k + l ≤ 8900) : Sm (a * b) := Sm.of (k := k + l) (by
  rw [Int.natAbs_mul, Nat.pow_add]
  exact Nat.mul_lt_mul'' ha hb) e
theorem lw2_ne (q : Rat) : (lw q).2 ≠ 0 := by have := lw_den q; omega
theorem val2 (q : Rat) : q = ((lw q).1 : Rat) / ((lw q).2 : Rat) := (lw_val q).symm
theorem plus_ok {x y : Rat} {k l : Nat} (hx : Fz k x) (hy : Fz l y) (e : k + l ≤ 8900) : m__law_plus (lw x) (lw y) = .ok (lw (x + y)) := by
  unfold m__law_plus
  have x1 := fz_n hx (by omega)
  have x2 := fz_d hx (by omega)
  have y1 := fz_n hy (by omega)
  have y2 := fz_d hy (by omega)
  rw [mulR_ok x1 y2, Res.ok_bind, mulR_ok y1 x2, Res.ok_bind, mulR_ok x2 y2, Res.ok_bind, lowest_ok (Int.mul_ne_zero (lw2_ne x) (lw2_ne y)) (sm_mul (k := k) (l := l) (by show ((x.den : Int)).natAbs < _; rw [Int.natAbs_natCast]; exact hx.2) (by show ((y.den : Int)).natAbs < _; rw [Int.natAbs_natCast]; exact hy.2) e), Res.ok_bind]
  refine congrArg (fun q => Res.ok (lw q)) ?_
  have a := cast_ne (lw2_ne x)
  have b := cast_ne (lw2_ne y)
  have vx := val2 x
  have vy := val2 y
  generalize lw x = p at *
  generalize lw y = q at *
  rw [Rat.intCast_add, Rat.intCast_mul, Rat.intCast_mul, Rat.intCast_mul, vx, vy]
  grind
theorem less_ok {x y : Rat} {k l : Nat} (hx : Fz k x) (hy : Fz l y) (e : k + l ≤ 8900) : m__law_less (lw x) (lw y) = .ok (lw (x - y)) := by
  unfold m__law_less
  have x1 := fz_n hx (by omega)
  have x2 := fz_d hx (by omega)
  have y1 := fz_n hy (by omega)
  have y2 := fz_d hy (by omega)
  rw [mulR_ok x1 y2, Res.ok_bind, mulR_ok y1 x2, Res.ok_bind, mulR_ok x2 y2, Res.ok_bind, lowest_ok (Int.mul_ne_zero (lw2_ne x) (lw2_ne y)) (sm_mul (k := k) (l := l) (by show ((x.den : Int)).natAbs < _; rw [Int.natAbs_natCast]; exact hx.2) (by show ((y.den : Int)).natAbs < _; rw [Int.natAbs_natCast]; exact hy.2) e), Res.ok_bind]
  refine congrArg (fun q => Res.ok (lw q)) ?_
  have a := cast_ne (lw2_ne x)
  have b := cast_ne (lw2_ne y)
  have vx := val2 x
  have vy := val2 y
  generalize lw x = p at *
  generalize lw y = q at *
  rw [Rat.intCast_sub, Rat.intCast_mul, Rat.intCast_mul, Rat.intCast_mul, vx, vy]
  grind
theorem times_ok {x y : Rat} {k l : Nat} (hx : Fz k x) (hy : Fz l y) (e : k + l ≤ 8900) : m__law_times (lw x) (lw y) = .ok (lw (x * y)) := by
  unfold m__law_times
  have x1 := fz_n hx (by omega)
  have x2 := fz_d hx (by omega)
  have y1 := fz_n hy (by omega)
  have y2 := fz_d hy (by omega)
  rw [mulR_ok x1 y1, Res.ok_bind, mulR_ok x2 y2, Res.ok_bind, lowest_ok (Int.mul_ne_zero (lw2_ne x) (lw2_ne y)) (sm_mul (k := k) (l := l) (by show ((x.den : Int)).natAbs < _; rw [Int.natAbs_natCast]; exact hx.2) (by show ((y.den : Int)).natAbs < _; rw [Int.natAbs_natCast]; exact hy.2) e), Res.ok_bind]
  refine congrArg (fun q => Res.ok (lw q)) ?_
  have a := cast_ne (lw2_ne x)
  have b := cast_ne (lw2_ne y)
  have vx := val2 x
  have vy := val2 y
  generalize lw x = p at *
  generalize lw y = q at *
  rw [Rat.intCast_mul, Rat.intCast_mul, vx, vy]
  grind
theorem num_ne {y : Rat} (h : y ≠ 0) : (lw y).1 ≠ 0 := fun e => h (by
  rw [val2 y, e]
  have : ((0 : Int) : Rat) = 0 := rfl
  rw [this]
  grind)
theorem over_ok {x y : Rat} {k l : Nat} (y0 : y ≠ 0) (hx : Fz k x) (hy : Fz l y) (e : k + l ≤ 8900) : m__law_over (lw x) (lw y) = .ok (lw (x / y)) := by
  unfold m__law_over
  have x1 := fz_n hx (by omega)
  have x2 := fz_d hx (by omega)
  have y1 := fz_n hy (by omega)
  have y2 := fz_d hy (by omega)
  rw [mulR_ok x1 y2, Res.ok_bind, mulR_ok x2 y1, Res.ok_bind, lowest_ok (Int.mul_ne_zero (lw2_ne x) (num_ne y0)) (sm_mul (k := k) (l := l) (by show ((x.den : Int)).natAbs < _; rw [Int.natAbs_natCast]; exact hx.2) hy.1 e), Res.ok_bind]
  refine congrArg (fun q => Res.ok (lw q)) ?_
  have a := cast_ne (lw2_ne x)
  have b := cast_ne (lw2_ne y)
  have c := cast_ne (num_ne y0)
  have vx := val2 x
  have vy := val2 y
  generalize lw x = p at *
  generalize lw y = q at *
  rw [Rat.intCast_mul, Rat.intCast_mul, vx, vy]
  grind
theorem is_number_ok (q : Rat) : m_is_number (lw q) = .ok true := by
  unfold m_is_number
  have h1 := lw_den q
  have h2 : gcdI (lw q).1 (lw q).2 = 1 := by
    show ((Nat.gcd (lw q).1.natAbs (lw q).2.natAbs : Nat) : Int) = 1
    rw [lw_gcd]
    rfl
  rw [decide_eq_true (show (1 : Int) ≤ (lw q).2 by omega), decide_eq_true h2]
  rfl
theorem check_number_ok (q : Rat) : m_check_number (lw q) = .ok () := by
  unfold m_check_number
  rw [is_number_ok]
  rfl
/-! ### draws -/
def Drs (ds : List Int) : Prop := ∀ d ∈ ds, 0 ≤ d ∧ d < 1000
theorem next_ok {ds : List Int} (h : Drs ds) : ∃ z rest, m__law_next ds = .ok (z, rest) ∧ 0 ≤ z ∧ z < 1000 ∧ Drs rest := by
  unfold m__law_next
  cases hz : ds.getLast? with
  | none =>
    have : ds = [] := List.getLast?_eq_none_iff.mp hz
    subst this
    exact ⟨0, [], rfl, by omega, by omega, h⟩
  | some x =>
    have hm : x ∈ ds := List.mem_of_getLast? hz
    have hne : ds.isEmpty = false := by
      cases ds with
      | nil => cases hm
      | cons _ _ => rfl
    refine ⟨x, ds.dropLast, ?_, (h x hm).1, (h x hm).2, fun d m => h d (List.dropLast_subset _ m)⟩
    rw [if_pos (by rw [hne]; rfl)]
    unfold popR
    rw [hz]
    rfl
theorem frac_eq {n d : Int} (hd : 0 < d) (h12 : d ∣ 12) (hn : n.natAbs ≤ 6) : Wh 12 72 ((n : Rat) / d) := by
  obtain ⟨k, hk⟩ := h12
  have kp : 0 < k := by
    rcases (show 0 < k ∨ k ≤ 0 by omega) with z | z
    · exact z
    · have := Int.mul_nonpos_of_nonneg_of_nonpos (Int.le_of_lt hd) z
      omega
  have kl : k ≤ 12 := by
    have : 1 * k ≤ d * k := Int.mul_le_mul_of_nonneg_right (by omega) (by omega)
    omega
  refine ⟨n * k, ?_, ?_⟩
  · have d0 := cast_ne (show d ≠ 0 by omega)
    have : ((12 : Nat) : Rat) = (d : Rat) * k := by
      rw [← Rat.intCast_mul, ← hk]
      rfl
    rw [this, Rat.intCast_mul]
    grind
  · rw [Int.natAbs_mul]
    exact Nat.mul_le_mul hn (show k.natAbs ≤ 12 by omega)
theorem fraction_ok {ds : List Int} (h : Drs ds) : ∃ q rest, m__law_fraction ds = .ok (lw q, rest) ∧ Wh 12 72 q ∧ Drs rest := by
  unfold m__law_fraction
  obtain ⟨a, r1, e1, a1, a2, h1⟩ := next_ok h
  rw [e1, Res.ok_bind]
  obtain ⟨b, r2, e2, b1, b2, h2⟩ := next_ok h1
  show ∃ q rest, (m__law_next r1).bind _ = _ ∧ _
  rw [e2, Res.ok_bind]
  have d1 : 0 < (1 : Int) + b % 4 ∧ (1 : Int) + b % 4 ≤ 4 := by omega
  have hs : Sm ((1 : Int) + b % 4) := Sm.of (k := 10) (by
    have : (2 : Nat) ^ 10 = 1024 := by decide
    omega) (by decide)
  show ∃ q rest, (m__law_lowest (a % 13 - 6) (1 + b % 4)).bind _ = _ ∧ _
  rw [lowest_ok (by omega) hs, Res.ok_bind]
  refine ⟨_, r2, rfl, frac_eq d1.1 ?_ (by omega), h2⟩
  have : (1 : Int) + b % 4 = 1 ∨ (1 : Int) + b % 4 = 2 ∨ (1 : Int) + b % 4 = 3 ∨ (1 : Int) + b % 4 = 4 := by omega
  rcases this with e | e | e | e <;> rw [e] <;> decide
end MI.MT
namespace MI.MT
open PySem PySem.Spec PyProof.Rows L2 Evl PW
open MA
/-! ### rows of rationals -/
/-- a list of rationals as a row -/
def V (r : List Rat) : MA.Row := fun j => r[j]?.getD 0
def tb (w : Nat) (f : Nat → Rat) : List Rat := (List.range w).map f
theorem V_lt {r : List Rat} {j : Nat} (h : j < r.length) : V r j = r[j] := by
  unfold V
  rw [List.getElem?_eq_getElem h]
  rfl
theorem V_ge {r : List Rat} {j : Nat} (h : r.length ≤ j) : V r j = 0 := by
  unfold V
  rw [List.getElem?_eq_none h]
  rfl
theorem V_mem {r : List Rat} {j : Nat} (h : j < r.length) : V r j ∈ r := by
  rw [V_lt h]
  exact List.getElem_mem h
theorem V_tb {w : Nat} {f : Nat → Rat} (j : Nat) : V (tb w f) j = if j < w then f j else 0 := by
  unfold V tb
  rw [List.getElem?_map]
  by_cases h : j < w
  · rw [List.getElem?_range h, if_pos h]
    rfl
  · rw [List.getElem?_eq_none (by rw [List.length_range]; omega), if_neg h]
    rfl
theorem V_map {h : Rat → Rat} (h0 : h 0 = 0) (r : List Rat) (j : Nat) : V (r.map h) j = h (V r j) := by
  unfold V
  rw [List.getElem?_map]
  cases r[j]? with
  | none => exact h0.symm
  | some x => rfl
theorem V_ext {r s : List Rat} (hl : r.length = s.length) (h : ∀ j, j < r.length → V r j = V s j) : r = s := by
  refine List.ext_getElem hl fun i h1 h2 => ?_
  rw [← V_lt h1, ← V_lt h2]
  exact h i h1
theorem tb_len {w : Nat} {f : Nat → Rat} : (tb w f).length = w := by
  unfold tb
  rw [List.length_map, List.length_range]
theorem mem_tb {w : Nat} {f : Nat → Rat} {q : Rat} (h : q ∈ tb w f) : ∃ i, i < w ∧ q = f i := by
  obtain ⟨i, m, e⟩ := List.mem_map.mp h
  exact ⟨i, List.mem_range.mp m, e.symm⟩
theorem tb_V (r : List Rat) : tb r.length (V r) = r := V_ext tb_len fun j h => by
  rw [tb_len] at h
  rw [V_tb, if_pos h]
abbrev mp (R : List (List Rat)) : List (List (Int × Int)) := R.map (List.map lw)
theorem ix_lw {r : List Rat} {i : Nat} (h : i < r.length) : ix (r.map lw) (i : Int) = .ok (lw (V r i)) := by
  rw [ix_nat (by rw [List.length_map]; exact h), List.getElem_map, V_lt h]
theorem mapR_lw {f : Int × Int → Res (Int × Int)} {h : Rat → Rat} {r : List Rat} (k : ∀ q ∈ r, f (lw q) = .ok (lw (h q))) : mapR f (r.map lw) = .ok ((r.map h).map lw) := by
  have : mapR f (r.map lw) = mapR (fun q => f (lw q)) r := by
    clear k
    induction r with
    | nil => rfl
    | cons x r ih =>
      show (f (lw x)).only.bind _ = (f (lw x)).only.bind _
      rw [ih]
  rw [this, mapR_ok k, List.map_map]
  rfl
theorem mapR_tb {f : Int → Res (Int × Int)} {w : Nat} {g : Nat → Rat} (h : ∀ i, i < w → f (i : Int) = .ok (lw (g i))) : mapR f (rng 0 (w : Int)) = .ok ((tb w g).map lw) := by
  rw [mapR_rng (g := fun i => lw (g i)) h]
  unfold tb
  rw [List.map_map]
  rfl
theorem mapR_map {α β γ : Type} {f : β → Res γ} {g : α → β} (r : List α) : mapR f (r.map g) = mapR (fun a => f (g a)) r := by
  induction r with
  | nil => rfl
  | cons x r ih =>
    show (f (g x)).only.bind _ = (f (g x)).only.bind _
    rw [ih]
/-- so long, and no larger -/
def Sh (w D M : Nat) (r : List Rat) : Prop := r.length = w ∧ ∀ q ∈ r, Wh D M q
theorem Sh.up {w D M k M' : Nat} {r : List Rat} (h : Sh w D M r) (l : M * k ≤ M') : Sh w (D * k) M' r := ⟨h.1, fun q m => ((h.2 q m).up k).mono l⟩
theorem Sh.v {w D M : Nat} {r : List Rat} (h : Sh w D M r) {j : Nat} (l : j < w) : Wh D M (V r j) := h.2 _ (V_mem (r := r) (j := j) (by rw [h.1]; exact l))
theorem Sh.v' {w D M : Nat} {r : List Rat} (h : Sh w D M r) (j : Nat) : Wh D M (V r j) := by
  by_cases l : j < r.length
  · exact h.2 _ (V_mem (r := r) (j := j) l)
  · rw [V_ge (by omega)]
    exact Wh.zero
/-! ### the law's matrix -/
theorem pow_pos' (k : Nat) : 0 < 12 ^ k := Nat.pow_pos (by decide)
theorem fz_sh {q : Rat} {j : Nat} (hj : j ≤ 11) (h : Wh (12 ^ j) (2 ^ 100) q) : Fz 101 q := fz_wh (pow_pos' j) h (Nat.lt_of_le_of_lt (Nat.pow_le_pow_right (by decide) hj) (by decide)) (by decide)
theorem mapS_ok {f : Int → List Int → Res ((Int × Int) × List Int)} {D M : Nat} (h : ∀ z gs, Drs gs → ∃ q rest, f z gs = .ok (lw q, rest) ∧ Wh D M q ∧ Drs rest) : ∀ (zs gs : List Int), Drs gs →
    ∃ r rest, mapS f zs gs = .ok (r.map lw, rest) ∧ Sh zs.length D M r ∧ Drs rest
  | [], gs, hg => ⟨[], gs, rfl, ⟨rfl, fun _ m => (nomatch m)⟩, hg⟩
  | z :: zs, gs, hg => by
    obtain ⟨q, g1, e1, w1, h1⟩ := h z gs hg
    obtain ⟨r, g2, e2, w2, h2⟩ := mapS_ok h zs g1 h1
    refine ⟨q :: r, g2, ?_, ⟨by rw [List.length_cons, List.length_cons, w2.1], fun x m => ?_⟩, h2⟩
    · show (f z gs).only.bind _ = _
      rw [e1]
      show (mapS f zs g1).bind _ = _
      rw [e2]
      rfl
    · cases m with
      | head => exact w1
      | tail _ m => exact w2.2 x m
theorem wh_int {z : Int} (h : z.natAbs ≤ 1) : Wh 12 72 ((z : Rat)) := by
  have := (Wh.int h).up 12
  exact this.mono (by decide)
theorem lw_int (z : Int) : lw (z : Rat) = (z, 1) := by
  have := lw_of (a := z) (b := 1) (by decide) (by rw [show (1 : Int).natAbs = 1 from rfl, Nat.gcd_one_right])
  rw [← this]
  refine congrArg lw ?_
  have e : ((1 : Int) : Rat) = 1 := rfl
  rw [e]
  grind
theorem sh_new {w j : Nat} {r : List Rat} (h : Sh w 12 72 r) : Sh w (12 ^ (j + 2)) (84 ^ (j + 2)) r := by
  have := h.up (k := 12 ^ (j + 1)) (M' := 84 ^ (j + 2)) (by
    rw [Nat.pow_succ (m := j + 1), Nat.mul_comm]
    exact Nat.mul_le_mul (Nat.pow_le_pow_left (by decide) _) (by decide))
  rw [show 12 * 12 ^ (j + 1) = 12 ^ (j + 2) from (Nat.pow_succ').symm] at this
  exact this
theorem sh_old {w j : Nat} {r : List Rat} (h : Sh w (12 ^ (j + 1)) (84 ^ (j + 1)) r) : Sh w (12 ^ (j + 2)) (84 ^ (j + 2)) r := by
  have := h.up (k := 12) (M' := 84 ^ (j + 2)) (by
    rw [Nat.pow_succ (m := j + 1)]
    exact Nat.mul_le_mul_left _ (by decide))
  rw [show 12 ^ (j + 1) * 12 = 12 ^ (j + 2) from (Nat.pow_succ _ _).symm] at this
  exact this
theorem fz84 {j : Nat} {q : Rat} (hj : j ≤ 6) (h : Wh (12 ^ j) (84 ^ j) q) : Fz 101 q :=
  fz_sh (j := j) (by omega) (h.mono (Nat.le_trans (Nat.pow_le_pow_right (by decide) hj) (by decide)))
theorem matrix_ok {ds : List Int} (h : Drs ds) {m w : Nat} (hm : m ≤ 5) (hw : w ≤ 5) :
    ∃ R rest, m__law_matrix ds (m : Int) (w : Int) = .ok (mp R, rest) ∧ Drs rest ∧ R.length = m ∧ ∀ r ∈ R, Sh w (12 ^ (m + 1)) (84 ^ (m + 1)) r := by
  unfold m__law_matrix
  rw [rngR_nat (by omega), Res.ok_bind]
  obtain ⟨s', e, h1, R, rfl', hl, hr⟩ := foldR_rng (n := m) (s := (ds, ([] : List (List (Int × Int)))))
    (body := fun z6 st6 =>
    (m__law_next st6.1).bind fun y8 =>
  if ((decide ((y8.1 % (4 : Int)) = (0 : Int))) && (!List.isEmpty st6.2)) = true then
    (m__law_next y8.2).bind fun y15 =>
  (modR y15.1 (st6.2.length : Int)).bind fun x17 =>
  (ix st6.2 x17).bind fun x20 =>
  (m__law_next y15.2).bind fun y29 =>
  (modR y29.1 (st6.2.length : Int)).bind fun x31 =>
  (ix st6.2 x31).bind fun x34 =>
  (m__law_fraction y29.2).bind fun y42 =>
  (rngL 0 (w : Int)).bind fun zs47 =>
  (mapR (fun z48 =>
    (ix x20 z48).bind fun x51 =>
  (ix x34 z48).bind fun x60 =>
  (m__law_times y42.1 x60).bind fun y65 =>
  (m__law_plus x51 y65).bind fun y66 =>
  Res.ok y66) zs47).bind fun bs48 =>
  (chkLen (st6.2 ++ [bs48])).bind fun x70 =>
  Res.ok (y42.2, x70)
  else
    if (decide ((y8.1 % (4 : Int)) = (1 : Int))) = true then
    (rngL 0 (w : Int)).bind fun zs79 =>
  (mapS (fun z80 gs80 =>
    (m__law_next gs80).bind fun y82 =>
  Res.ok ((((y82.1 % (3 : Int)) - (1 : Int)), (1 : Int)), y82.2)) zs79 y8.2).bind2 fun bs80 gq80 =>
  (chkLen (st6.2 ++ [bs80])).bind fun x87 =>
  Res.ok (gq80, x87)
  else
    (rngL 0 (w : Int)).bind fun zs94 =>
  (mapS (fun z95 gs95 =>
    (m__law_fraction gs95).bind fun y97 =>
  Res.ok (y97.1, y97.2)) zs94 y8.2).bind2 fun bs95 gq95 =>
  (chkLen (st6.2 ++ [bs95])).bind fun x101 =>
  Res.ok (gq95, x101))
    (fun j st => Drs st.1 ∧ ∃ R : List (List Rat), st.2 = mp R ∧ R.length = j ∧ ∀ r ∈ R, Sh w (12 ^ (j + 1)) (84 ^ (j + 1)) r)
    ⟨h, [], rfl, rfl, fun _ m => (nomatch m)⟩ (fun j st hj ⟨hd, R, hR, hl, hs⟩ => by
      obtain ⟨gs, found⟩ := st
      dsimp only at hd hR ⊢
      subst hR
      obtain ⟨y, g1, e1, y1, y2, h1⟩ := next_ok hd
      rw [e1, Res.ok_bind]
      dsimp only
      have app : ∀ (r : List Rat) (g : List Int), Sh w (12 ^ (j + 2)) (84 ^ (j + 2)) r → Drs g → ∃ s', ((chkLen (mp R ++ [r.map lw])).bind fun x => Res.ok (g, x)) = .ok s' ∧ Drs s'.1 ∧ ∃ R : List (List Rat), s'.2 = mp R ∧ R.length = j + 1 ∧ ∀ r ∈ R, Sh w (12 ^ (j + 1 + 1)) (84 ^ (j + 1 + 1)) r := fun r g hr hg => by
        rw [chkLen_ok (by simp; omega), Res.ok_bind]
        refine ⟨_, rfl, hg, R ++ [r], by simp [mp], by rw [List.length_append, hl]; rfl, fun x mx => ?_⟩
        rcases List.mem_append.mp mx with mx | mx
        · exact sh_old (hs x mx)
        · cases List.mem_singleton.mp mx
          exact hr
      by_cases k0 : (decide (y % 4 = 0) && !List.isEmpty (mp R)) = true
      · rw [if_pos k0]
        have hne : R ≠ [] := fun e => by
          rw [e] at k0
          simp [mp] at k0
        have jp : 0 < R.length := List.length_pos_iff.mpr hne
        obtain ⟨a, g2, e2, a1, a2, h2⟩ := next_ok h1
        rw [e2, Res.ok_bind]
        dsimp only
        have ml : (mp R).length = R.length := List.length_map _
        have pick : ∀ a : Int, ∃ i : Nat, i < R.length ∧ modR a ((mp R).length : Int) = .ok (i : Int) := fun a => by
          rw [ml, modR_ok (by omega)]
          have b1 := Int.emod_nonneg a (show (R.length : Int) ≠ 0 by omega)
          have b2 := Int.emod_lt_of_pos a (show (0 : Int) < R.length by omega)
          exact ⟨(a % (R.length : Int)).toNat, by omega, by congr 1; omega⟩
        obtain ⟨i, hi, ei⟩ := pick a
        rw [ei, Res.ok_bind, ix_nat (by rw [ml]; exact hi), Res.ok_bind]
        obtain ⟨b, g3, e3, b1, b2, h3⟩ := next_ok h2
        rw [e3, Res.ok_bind]
        dsimp only
        obtain ⟨i', hi', ei'⟩ := pick b
        rw [ei', Res.ok_bind, ix_nat (by rw [ml]; exact hi'), Res.ok_bind]
        obtain ⟨x, g4, e4, wx, h4⟩ := fraction_ok h3
        rw [e4, Res.ok_bind, rngL_nat (by omega), Res.ok_bind]
        dsimp only
        rw [List.getElem_map, List.getElem_map]
        have s1 := hs _ (List.getElem_mem hi)
        have s2 := hs _ (List.getElem_mem hi')
        generalize R[i] = p at s1 ⊢
        generalize R[i'] = q at s2 ⊢
        have hx : Wh (12 ^ 1) (84 ^ 1) x := by
          rw [Nat.pow_one, Nat.pow_one]
          exact wx.mono (by decide)
        have hxq : ∀ k, Wh (12 ^ (j + 2)) (72 * 84 ^ (j + 1)) (x * V q k) := fun k => by
          have := wx.mul (s2.v' k)
          rw [show 12 * 12 ^ (j + 1) = 12 ^ (j + 2) from (Nat.pow_succ').symm] at this
          exact this
        have hpq : ∀ k, Wh (12 ^ (j + 2)) (84 ^ (j + 2)) (V p k + x * V q k) := fun k => by
          have h5 := (s1.v' k).up 12
          rw [show 12 ^ (j + 1) * 12 = 12 ^ (j + 2) from (Nat.pow_succ _ _).symm] at h5
          refine (h5.add (hxq k)).mono ?_
          rw [Nat.pow_succ (m := j + 1)]
          omega
        rw [mapR_tb (w := w) (g := fun k => V p k + x * V q k) (fun k hk => by
          rw [ix_lw (by rw [s1.1]; exact hk), Res.ok_bind, ix_lw (by rw [s2.1]; exact hk), Res.ok_bind,
            times_ok (fz84 (j := 1) (by decide) hx) (fz84 (j := j + 1) (by omega) (s2.v' k)) (by decide), Res.ok_bind,
            plus_ok (fz84 (j := j + 1) (by omega) (s1.v' k)) (fz84 (j := j + 2) (by omega) ((hxq k).mono (by rw [Nat.pow_succ (m := j + 1)]; omega))) (by decide), Res.ok_bind]), Res.ok_bind]
        refine app _ _ ⟨tb_len, fun z mz => ?_⟩ h4
        obtain ⟨k, _, rfl⟩ := mem_tb mz
        exact hpq k
      · rw [if_neg k0]
        by_cases k1 : decide (y % 4 = 1) = true
        · rw [if_pos k1, rngL_nat (by omega), Res.ok_bind]
          obtain ⟨r, g2, e2, s2, h2⟩ := mapS_ok (D := 12) (M := 72) (f := fun z80 gs80 =>
    (m__law_next gs80).bind fun y82 =>
  Res.ok ((((y82.1 % (3 : Int)) - (1 : Int)), (1 : Int)), y82.2)) (fun z gs hg => by
            obtain ⟨a, g2, e2, a1, a2, h2⟩ := next_ok hg
            refine ⟨((a % 3 - 1 : Int) : Rat), g2, ?_, wh_int (by omega), h2⟩
            rw [e2, lw_int]
            rfl) (rng 0 (w : Int)) g1 h1
          rw [e2]
          rw [rng_len] at s2
          exact app r g2 (sh_new (by simpa using s2)) h2
        · rw [if_neg k1, rngL_nat (by omega), Res.ok_bind]
          obtain ⟨r, g2, e2, s2, h2⟩ := mapS_ok (D := 12) (M := 72) (f := fun z95 gs95 =>
    (m__law_fraction gs95).bind fun y97 =>
  Res.ok (y97.1, y97.2)) (fun z gs hg => by
            obtain ⟨q, g2, e2, w2, h2⟩ := fraction_ok hg
            refine ⟨q, g2, ?_, w2, h2⟩
            rw [e2]
            rfl) (rng 0 (w : Int)) g1 h1
          rw [e2]
          rw [rng_len] at s2
          exact app r g2 (sh_new (by simpa using s2)) h2)
  refine ⟨R, s'.1, ?_, h1, hl, hr⟩
  have := e
  rw [this, Res.ok_bind, rfl']
end MI.MT
namespace MI.MT
open PySem PySem.Spec PyProof.Rows L2 Evl PW
open MA
/-! ### rows changed, the span kept -/
theorem eqs_mem {S T : List (List Rat)} (h : ∀ r, r ∈ S ↔ r ∈ T) : Eqs (S.map V) (T.map V) :=
  Eqs.of (fun s m => by
    obtain ⟨r, mr, rfl⟩ := List.mem_map.mp m
    exact Spn.mem (List.mem_map.mpr ⟨r, (h r).mp mr, rfl⟩)) fun s m => by
    obtain ⟨r, mr, rfl⟩ := List.mem_map.mp m
    exact Spn.mem (List.mem_map.mpr ⟨r, (h r).mpr mr, rfl⟩)
theorem eqs_set {L : List (List Rat)} {i : Nat} (hi : i < L.length) {r' line : List Rat} {x f : Rat} (x0 : x ≠ 0) (hr : ∀ j, V r' j = x * V L[i] j + f * V line j)
    (ho : f = 0 ∨ ∃ o, o ≠ i ∧ L[o]? = some line) : Eqs (L.map V) ((L.set i r').map V) := by
  have hl : i < (L.set i r').length := by rw [List.length_set]; exact hi
  have mr : V r' ∈ (L.set i r').map V := List.mem_map.mpr ⟨r', List.mem_set hi _, rfl⟩
  have mline : f = 0 ∨ (V line ∈ L.map V ∧ V line ∈ (L.set i r').map V) := by
    rcases ho with e | ⟨o, ne, e⟩
    · exact .inl e
    · refine .inr ⟨List.mem_map.mpr ⟨line, List.mem_of_getElem? e, rfl⟩, List.mem_map.mpr ⟨line, List.mem_of_getElem? (i := o) ?_, rfl⟩⟩
      rw [List.getElem?_set_ne (fun z => ne z.symm)]
      exact e
  have fl : Spn (L.map V) (fun j => f * V line j) ∧ Spn ((L.set i r').map V) (fun j => f * V line j) := by
    rcases mline with e | ⟨a, b⟩
    · exact ⟨Spn.zero.cast fun j => by rw [e]; grind, Spn.zero.cast fun j => by rw [e]; grind⟩
    · exact ⟨(Spn.mem a).times f, (Spn.mem b).times f⟩
  refine Eqs.of (fun s m => ?_) fun s m => ?_
  · obtain ⟨r, mr', rfl⟩ := List.mem_map.mp m
    obtain ⟨k, hk, e⟩ := List.mem_iff_getElem.mp mr'
    by_cases q : k = i
    · subst q
      exact ((Spn.mem mr).comb (1 / x) (-1 / x) fl.2).cast fun j => by
        rw [hr, ← e]
        grind
    · refine Spn.mem (List.mem_map.mpr ⟨r, List.mem_of_getElem? (i := k) ?_, rfl⟩)
      rw [List.getElem?_set_ne (fun z => q z.symm), List.getElem?_eq_getElem hk, e]
  · obtain ⟨r, mr', rfl⟩ := List.mem_map.mp m
    rcases List.mem_or_eq_of_mem_set mr' with q | q
    · exact Spn.mem (List.mem_map.mpr ⟨r, q, rfl⟩)
    · subst q
      exact ((Spn.mem (List.mem_map.mpr ⟨L[i], List.getElem_mem hi, rfl⟩)).comb x 1 fl.1).cast fun j => by
        rw [hr]
        grind
theorem setR_mp {L : List (List Rat)} {i : Nat} (hi : i < L.length) (r : List Rat) : setR (mp L) (i : Int) (r.map lw) = .ok (mp (L.set i r)) := by
  unfold setR
  rw [ixN_nat (by rw [List.length_map]; exact hi)]
  exact congrArg Res.ok (List.map_set).symm
theorem ix_mp {L : List (List Rat)} {i : Nat} (hi : i < L.length) : ix (mp L) (i : Int) = .ok (L[i].map lw) := by
  rw [ix_nat (by rw [List.length_map]; exact hi), List.getElem_map]
theorem cons_erase {α : Type} {l : List α} {i : Nat} (h : i < l.length) : (l[i] :: l.eraseIdx i).Perm l := by
  rw [List.eraseIdx_eq_take_drop_succ]
  refine (List.perm_middle.symm).trans ?_
  rw [List.getElem_cons_drop, List.take_append_drop]
theorem popAt_mp {L : List (List Rat)} {i : Nat} (hi : i < L.length) (h9 : L.length ≤ 1000) : popAtR (mp L) (i : Int) = .ok (L[i].map lw, mp (L.eraseIdx i)) := by
  unfold popAtR
  rw [if_pos ⟨by omega, by omega⟩, show ((i : Int)).toNat = i by omega, List.getElem?_map, List.getElem?_eq_getElem hi, Option.map_some]
  dsimp only
  rw [show mp (L.eraseIdx i) = (mp L).eraseIdx i from map_erase _ _ _]
theorem ins_mp {L : List (List Rat)} {k : Nat} (hk : k ≤ L.length) (h9 : L.length ≤ 1000) (r : List Rat) : insR (mp L) (k : Int) (r.map lw) = .ok (mp (L.take k ++ r :: L.drop k)) := by
  unfold insR
  rw [if_pos ⟨by omega, by rw [List.length_map]; omega, by rw [List.length_map]; omega⟩, show ((k : Int)).toNat = k by omega]
  simp [mp]
theorem pick_nat {a : Int} {n : Nat} (h : 0 < n) : ∃ i : Nat, i < n ∧ modR a (n : Int) = .ok (i : Int) := by
  rw [modR_ok (by omega)]
  have b1 := Int.emod_nonneg a (show (n : Int) ≠ 0 by omega)
  have b2 := Int.emod_lt_of_pos a (show (0 : Int) < n by omega)
  exact ⟨(a % (n : Int)).toNat, by omega, by congr 1; omega⟩
end MI.MT
namespace MI.MT
open PySem PySem.Spec PyProof.Rows L2 Evl PW
open MA
/-! ### rows of integers: the program's way -/
def VI (z : List Int) : MA.Row := fun j => ((z[j]?.getD 0 : Int) : Rat)
def Bz (k : Nat) (z : List Int) : Prop := ∀ a ∈ z, a.natAbs < 2 ^ k
theorem VI_lt {z : List Int} {j : Nat} (h : j < z.length) : VI z j = (z[j] : Rat) := by
  unfold VI
  rw [List.getElem?_eq_getElem h]
  rfl
theorem VI_ge {z : List Int} {j : Nat} (h : z.length ≤ j) : VI z j = 0 := by
  unfold VI
  rw [List.getElem?_eq_none h]
  rfl
theorem Bz.mono {k l : Nat} {z : List Int} (h : Bz k z) (e : k ≤ l) : Bz l z := fun a m => Nat.lt_of_lt_of_le (h a m) (Nat.pow_le_pow_right (by decide) e)
theorem fa_get {α β : Type} {R : α → β → Prop} {l : List α} {m : List β} (h : Fa R l m) : ∀ (i : Nat) (h1 : i < l.length) (h2 : i < m.length), R l[i] m[i] := by
  induction h with
  | nil => exact fun i h1 => absurd h1 (Nat.not_lt_zero i)
  | cons r _ ih =>
    intro i h1 h2
    cases i with
    | zero => exact r
    | succ i => exact ih i (by simpa using h1) (by simpa using h2)
theorem vi_fa {c : Rat} {z y : List Int} (h : Fa (fun (a b : Int) => (a : Rat) = c * (b : Rat)) z y) (j : Nat) : VI z j = c * VI y j := by
  by_cases q : j < z.length
  · have q2 : j < y.length := by rw [← h.len]; exact q
    rw [VI_lt q, VI_lt q2]
    exact fa_get h j q q2
  · rw [VI_ge (by omega), VI_ge (by rw [← h.len]; omega)]
    grind
theorem sm_k {k : Nat} {z : List Int} (h : Bz k z) (e : k ≤ 8900) {a : Int} (m : a ∈ z) : Sm a := Sm.of (h a m) e
/-- the common divisor, 1 at the first that tells it -/
theorem content_loop {k : Nat} : ∀ (zs : List Int) (st : Nat), st < 2 ^ k → Bz k zs →
    ∃ g : Nat, g < 2 ^ k ∧ (g = 1 ∨ (g ∣ st ∧ ∀ a ∈ zs, (g : Int) ∣ a)) ∧ (loopC (fun (z5 : Int) (st5 : Int) =>
    if (decide ((gcdI st5 z5) = (1 : Int))) = true then
    Res.ok (Ctl.rt (1 : Int))
  else
    Res.ok (Ctl.nx (gcdI st5 z5))) zs (st : Int)).bind (Ctl.then (fun st5 =>
  Res.ok st5) (fun r => Res.ok r)) = .ok (g : Int)
  | [], st, h, _ => ⟨st, h, .inr ⟨Nat.dvd_refl _, fun _ m => (nomatch m)⟩, rfl⟩
  | z :: zs, st, h, hz => by
    have ge : gcdI (st : Int) z = ((Nat.gcd st z.natAbs : Nat) : Int) := rfl
    have gl : Nat.gcd st z.natAbs < 2 ^ k := by
      rcases Nat.eq_zero_or_pos st with e | e
      · rw [e, Nat.gcd_zero_left]
        exact hz z (.head _)
      · exact Nat.lt_of_le_of_lt (Nat.gcd_le_left _ e) h
    by_cases q : gcdI (st : Int) z = 1
    · refine ⟨1, ?_, .inl rfl, ?_⟩
      · have : Nat.gcd st z.natAbs = 1 := by rw [ge] at q; omega
        omega
      · show (Res.bind (if decide (gcdI (st : Int) z = 1) = true then Res.ok (Ctl.rt 1) else Res.ok (Ctl.nx (gcdI (st : Int) z))) _).bind _ = _
        rw [if_pos (decide_eq_true q)]
        rfl
    · obtain ⟨g, g1, g2, g3⟩ := content_loop (k := k) zs (Nat.gcd st z.natAbs) gl fun a m => hz a (.tail _ m)
      refine ⟨g, g1, ?_, ?_⟩
      · rcases g2 with g2 | ⟨g2, g4⟩
        · exact .inl g2
        · refine .inr ⟨Nat.dvd_trans g2 (Nat.gcd_dvd_left _ _), fun a m => ?_⟩
          cases m with
          | head => exact Int.natAbs_dvd_natAbs.mp (by rw [Int.natAbs_natCast]; exact Nat.dvd_trans g2 (Nat.gcd_dvd_right _ _))
          | tail _ m => exact g4 a m
      · show (Res.bind (if decide (gcdI (st : Int) z = 1) = true then Res.ok (Ctl.rt 1) else Res.ok (Ctl.nx (gcdI (st : Int) z))) _).bind _ = _
        rw [if_neg (fun z => q (of_decide_eq_true z)), Res.ok_bind]
        exact g3
theorem primitive_ok {k : Nat} {z : List Int} (h : Bz k z) (hk : k ≤ 8900) : ∃ (y : List Int) (c : Rat), m_primitive z = .ok y ∧ c ≠ 0 ∧ Fa (fun (a b : Int) => (a : Rat) = c * (b : Rat)) z y ∧ Bz k y := by
  unfold m_primitive m_content
  obtain ⟨g, g1, g2, g3⟩ := content_loop (k := k) z 0 (Nat.pow_pos (by decide)) h
  have g3' := g3
  rw [show ((0 : Nat) : Int) = 0 from rfl] at g3'
  rw [g3', Res.ok_bind]
  by_cases q : (1 : Int) < (g : Int)
  · rw [if_pos (decide_eq_true q)]
    have gd : ∀ a ∈ z, (g : Int) ∣ a := by
      rcases g2 with g2 | g2
      · omega
      · exact g2.2
    have sg : Sm (g : Int) := Sm.of (k := k) (by rw [Int.natAbs_natCast]; exact g1) hk
    rw [mapR_ok (g := fun a => a.fdiv (g : Int)) (fun a m => by rw [divR_ok (by omega) sg]; rfl), Res.ok_bind]
    have each : ∀ a ∈ z, a = (g : Int) * a.fdiv (g : Int) := fun a m => by
      obtain ⟨x, hx⟩ := gd a m
      have : a.fdiv (g : Int) = x := by rw [hx, Int.mul_fdiv_cancel_left _ (by omega)]
      rw [this]
      exact hx
    refine ⟨_, ((g : Int) : Rat), rfl, cast_ne (by omega), ?_, fun b m => ?_⟩
    · clear g3 g3' h gd
      induction z with
      | nil => exact .nil
      | cons a z ih =>
        refine .cons ?_ (ih (by
          rcases g2 with g2 | g2
          · exact .inl g2
          · exact .inr ⟨g2.1, fun b m => g2.2 b (.tail _ m)⟩) fun b m => each b (.tail _ m))
        have := each a (.head _)
        rw [← Rat.intCast_mul, ← this]
    · obtain ⟨a, ma, rfl⟩ := List.mem_map.mp m
      have e := congrArg Int.natAbs (each a ma)
      rw [Int.natAbs_mul, Int.natAbs_natCast] at e
      have : 1 * (a.fdiv (g : Int)).natAbs ≤ g * (a.fdiv (g : Int)).natAbs := Nat.mul_le_mul_right _ (by omega)
      have := h a ma
      omega
  · rw [if_neg (fun z => q (of_decide_eq_true z))]
    refine ⟨z, 1, rfl, by decide, ?_, h⟩
    clear g3 g3' h g2
    induction z with
    | nil => exact .nil
    | cons a z ih => exact .cons (by grind) ih
theorem foldR_map {α β τ : Type} {body : β → τ → Res τ} {g : α → β} : ∀ (zs : List α) (s : τ), foldR body (zs.map g) s = foldR (fun a => body (g a)) zs s
  | [], _ => rfl
  | z :: zs, s => by
    show (body (g z) s).bind _ = (body (g z) s).bind _
    congr 1
    exact funext fun s' => foldR_map zs s'
theorem cleared_ok {w D M k : Nat} {r : List Rat} (h : Sh w D M r) (hD : 0 < D) (kD : D < 2 ^ k) (kM : M < 2 ^ k) (hk : k ≤ 8900) :
    ∃ (y : List Int) (t : Rat), m_cleared (r.map lw) = .ok y ∧ t ≠ 0 ∧ (∀ j, VI y j = t * V r j) ∧ y.length = w ∧ Bz k y := by
  unfold m_cleared m_over_one_divisor
  rw [foldR_map]
  have den : ∀ q ∈ r, q.den ∣ D := fun q m => ((h.2 q m).parts hD).1
  obtain ⟨s', e1, d, rfl, d0, d1, d2⟩ := foldR_list (body := fun (q : Rat) (st5 : Int) =>
    (m_check_number (lw q)).bind fun y8 =>
  (lcmR st5 (lw q).2).bind fun x13 =>
  Res.ok x13) (fun pre st => ∃ d : Nat, st = (d : Int) ∧ 0 < d ∧ d ∣ D ∧ ∀ q ∈ pre, q.den ∣ d) r [] (1 : Int) ⟨1, rfl, by decide, Nat.one_dvd _, fun _ m => (nomatch m)⟩ (fun pre q post st _ ⟨d, e, d0, d1, d2⟩ m => by
    subst e
    have dl : d < 2 ^ 8900 := Nat.lt_of_le_of_lt (Nat.le_of_dvd hD d1) (Nat.lt_of_lt_of_le kD (Nat.pow_le_pow_right (by decide) hk))
    have ql : q.den < 2 ^ 8900 := Nat.lt_of_le_of_lt (Nat.le_of_dvd hD (den q m)) (Nat.lt_of_lt_of_le kD (Nat.pow_le_pow_right (by decide) hk))
    rw [check_number_ok, Res.ok_bind]
    unfold lcmR
    rw [if_pos ⟨by show ((d : Int)).natAbs < _; rw [Int.natAbs_natCast]; exact dl, by show ((q.den : Int)).natAbs < _; rw [Int.natAbs_natCast]; exact ql⟩, Res.ok_bind]
    refine ⟨_, rfl, Nat.lcm d q.den, by show ((Nat.lcm ((d : Int)).natAbs ((q.den : Int)).natAbs : Nat) : Int) = _; rw [Int.natAbs_natCast, Int.natAbs_natCast], Nat.lcm_pos d0 q.den_pos, Nat.lcm_dvd d1 (den q m), fun p mp => ?_⟩
    rcases List.mem_append.mp mp with mp | mp
    · exact Nat.dvd_trans (d2 p mp) (Nat.dvd_lcm_left _ _)
    · cases List.mem_singleton.mp mp
      exact Nat.dvd_lcm_right _ _)
  rw [List.nil_append] at d2
  have e1' : foldR (fun (a : Rat) => (fun (z5 : Int × Int) (st5 : Int) => (m_check_number z5).bind fun y8 => (lcmR st5 z5.2).bind fun x13 => Res.ok x13) (lw a)) r 1 = Res.ok (d : Int) := e1
  rw [e1', Res.ok_bind, mapR_map]
  have dD : d ≤ D := Nat.le_of_dvd hD d1
  -- each entry
  have each : ∀ q ∈ r, (lw q).1 * ((d : Int).fdiv (lw q).2) = (lw q).1 * ((d / q.den : Nat) : Int) ∧ (((lw q).1 * ((d / q.den : Nat) : Int) : Int) : Rat) = q * (d : Rat) ∧ ((lw q).1 * ((d / q.den : Nat) : Int)).natAbs ≤ M := fun q m => by
    obtain ⟨x, hx⟩ := d2 q m
    have qp := q.den_pos
    have ex : d / q.den = x := by rw [hx, Nat.mul_div_cancel_left _ qp]
    have v : (((lw q).1 * ((d / q.den : Nat) : Int) : Int) : Rat) = q * (d : Rat) := by
      rw [ex, Rat.intCast_mul]
      have hq := val2 q
      have e2 : (d : Rat) = ((lw q).2 : Rat) * ((x : Int) : Rat) := by
        rw [hx]
        show ((q.den * x : Nat) : Rat) = ((q.den : Int) : Rat) * ((x : Int) : Rat)
        exact_mod_cast rfl
      have n0 := cast_ne (lw2_ne q)
      rw [e2]
      generalize lw q = p at *
      rw [hq]
      grind
    refine ⟨?_, v, ?_⟩
    · congr 1
      show (d : Int).fdiv (q.den : Int) = _
      rw [hx]
      rw [Int.natCast_mul, Int.mul_fdiv_cancel_left _ (by omega), Nat.mul_div_cancel_left _ qp]
    · obtain ⟨z, hz, hM⟩ := h.2 q m
      obtain ⟨e, he⟩ := d1
      have : z = (lw q).1 * ((d / q.den : Nat) : Int) * (e : Int) := by
        apply Rat.intCast_inj.mp
        rw [Rat.intCast_mul, v, ← hz, he]
        have : ((d * e : Nat) : Rat) = (d : Rat) * ((e : Int) : Rat) := by exact_mod_cast rfl
        rw [this]
        grind
      have e0 : 1 ≤ e := by
        rcases Nat.eq_zero_or_pos e with q | q
        · rw [q] at he
          omega
        · exact q
      have l1 : z.natAbs = ((lw q).1 * ((d / q.den : Nat) : Int)).natAbs * e := by rw [this, Int.natAbs_mul, Int.natAbs_natCast]
      have l2 : ((lw q).1 * ((d / q.den : Nat) : Int)).natAbs * 1 ≤ ((lw q).1 * ((d / q.den : Nat) : Int)).natAbs * e := Nat.mul_le_mul_left _ e0
      omega
  rw [mapR_ok (g := fun q => (lw q).1 * ((d / q.den : Nat) : Int)) (fun q m => by
    have qp := q.den_pos
    have ql : q.den ≤ D := Nat.le_of_dvd hD (den q m)
    have s1 : Sm (lw q).2 := Sm.of (k := k) (by show ((q.den : Int)).natAbs < _; rw [Int.natAbs_natCast]; omega) hk
    have s2 : Sm (lw q).1 := Sm.of (k := k) (Nat.lt_of_le_of_lt ((h.2 q m).num hD) kM) hk
    have e3 : (d : Int).fdiv (lw q).2 = ((d / q.den : Nat) : Int) := by
      obtain ⟨x, hx⟩ := d2 q m
      show (d : Int).fdiv (q.den : Int) = _
      rw [hx]
      rw [Int.natCast_mul, Int.mul_fdiv_cancel_left _ (by omega), Nat.mul_div_cancel_left _ qp]
    have s3 : Sm (((d / q.den : Nat) : Int)) := Sm.of (k := k) (by rw [Int.natAbs_natCast]; exact Nat.lt_of_le_of_lt (Nat.div_le_self _ _) (by omega)) hk
    rw [divR_ok (lw2_ne q) s1, Res.ok_bind, e3, mulR_ok s2 s3, Res.ok_bind]), Res.ok_bind, Res.ok_bind]
  obtain ⟨y, c, ey, c0, fy, by_⟩ := primitive_ok (k := k) (z := r.map fun q => (lw q).1 * ((d / q.den : Nat) : Int)) (fun a m => by
    obtain ⟨q, mq, rfl⟩ := List.mem_map.mp m
    exact Nat.lt_of_le_of_lt (each q mq).2.2 kM) hk
  have ey' : m_primitive ((r.map fun q => (lw q).1 * ((d / q.den : Nat) : Int)), (d : Int)).1 = .ok y := ey
  rw [ey', Res.ok_bind]
  have dr : (d : Rat) ≠ 0 := natCast_ne d0
  refine ⟨y, (d : Rat) / c, rfl, ?_, fun j => ?_, by rw [← fy.len, List.length_map]; exact h.1, by_⟩
  · intro z
    apply dr
    have : (d : Rat) = (d : Rat) / c * c := by grind
    rw [this, z]
    grind
  · have v := vi_fa fy j
    have v2 : VI (r.map fun q => (lw q).1 * ((d / q.den : Nat) : Int)) j = V r j * (d : Rat) := by
      by_cases q : j < r.length
      · rw [VI_lt (by rw [List.length_map]; exact q), List.getElem_map, V_lt q]
        exact (each _ (List.getElem_mem q)).2.1
      · rw [VI_ge (by rw [List.length_map]; omega), V_ge (by omega)]
        grind
    rw [v2] at v
    grind
theorem vi_ix {z : List Int} {j : Nat} (h : j < z.length) : ix z (j : Int) = .ok z[j] := ix_nat h
/-- one row struck by another -/
theorem struck_ok {k w p : Nat} {row by_ : List Int} (hr : Bz k row) (hb : Bz k by_) (lr : row.length = w) (lb : by_.length = w) (hp : p < w) (b0 : VI by_ p ≠ 0) (hk : 2 * k + 1 ≤ 8900) :
    ∃ y, m_struck row by_ (p : Int) = .ok y ∧ Stk (VI by_) p (VI row) (VI y) ∧ y.length = w ∧ Bz (2 * k + 1) y ∧ (VI row p = 0 → y = row) := by
  unfold m_struck
  have hp1 : p < row.length := by omega
  have hp2 : p < by_.length := by omega
  rw [vi_ix hp1, Res.ok_bind]
  have vr := VI_lt hp1
  have vb := VI_lt hp2
  by_cases q : row[p] = 0
  · rw [if_pos (decide_eq_true q)]
    have z : VI row p = 0 := by rw [vr, q]; rfl
    exact ⟨row, rfl, ⟨1, 0, by decide, fun j => by grind, z⟩, lr, hr.mono (by omega), fun _ => rfl⟩
  · rw [if_neg (fun z => q (of_decide_eq_true z)), Res.ok_bind, vi_ix hp2, Res.ok_bind, Res.ok_bind]
    have bn : by_[p] ≠ 0 := fun e => b0 (by rw [vb, e]; rfl)
    have sb := hb _ (List.getElem_mem hp2)
    have sr := hr _ (List.getElem_mem hp1)
    generalize by_[p] = b at vb bn sb ⊢
    generalize row[p] = a at vr q sr ⊢
    have gp : 0 < Nat.gcd a.natAbs b.natAbs := Nat.gcd_pos_of_pos_right _ (by omega)
    have g0 : gcdI a b ≠ 0 := by show ((Nat.gcd a.natAbs b.natAbs : Nat) : Int) ≠ 0; omega
    have gs : Sm (gcdI a b) := gcd_sm bn (Sm.of sb (by omega))
    rw [divR_ok g0 gs, Res.ok_bind, Res.ok_bind, divR_ok g0 gs, Res.ok_bind]
    have ga : gcdI a b ∣ a := Int.natAbs_dvd_natAbs.mp (by show ((Nat.gcd a.natAbs b.natAbs : Nat) : Int).natAbs ∣ _; rw [Int.natAbs_natCast]; exact Nat.gcd_dvd_left _ _)
    have gb : gcdI a b ∣ b := Int.natAbs_dvd_natAbs.mp (by show ((Nat.gcd a.natAbs b.natAbs : Nat) : Int).natAbs ∣ _; rw [Int.natAbs_natCast]; exact Nat.gcd_dvd_right _ _)
    obtain ⟨x, hx⟩ := ga
    obtain ⟨y, hy⟩ := gb
    generalize gcdI a b = g at g0 gs hx hy ⊢
    have fx : a.fdiv g = x := by rw [hx, Int.mul_fdiv_cancel_left _ g0]
    have fy : b.fdiv g = y := by rw [hy, Int.mul_fdiv_cancel_left _ g0]
    rw [fx, fy]
    have gn : 1 ≤ g.natAbs := by omega
    have xl : x.natAbs < 2 ^ k := by
      have := congrArg Int.natAbs hx
      rw [Int.natAbs_mul] at this
      have : 1 * x.natAbs ≤ g.natAbs * x.natAbs := Nat.mul_le_mul_right _ gn
      omega
    have yl : y.natAbs < 2 ^ k := by
      have := congrArg Int.natAbs hy
      rw [Int.natAbs_mul] at this
      have : 1 * y.natAbs ≤ g.natAbs * y.natAbs := Nat.mul_le_mul_right _ gn
      omega
    have y0 : y ≠ 0 := fun e => bn (by rw [hy, e, Int.mul_zero])
    have p2 : (2 : Nat) ^ (2 * k + 1) = 2 ^ k * 2 ^ k + 2 ^ k * 2 ^ k := by rw [Nat.pow_succ, Nat.two_mul, Nat.pow_add]; omega
    rw [mapR_ok (g := fun z : Int × Int => y * z.1 - x * z.2) (fun z m => by
      obtain ⟨m1, m2⟩ := List.of_mem_zip (a := z.1) (b := z.2) m
      rw [mulR_ok (Sm.of yl (by omega)) (sm_k hr (by omega) m1), Res.ok_bind, mulR_ok (Sm.of xl (by omega)) (sm_k hb (by omega) m2), Res.ok_bind]), Res.ok_bind]
    obtain ⟨yy, c, ey, c0, fyy, byy⟩ := primitive_ok (k := 2 * k + 1) (z := (row.zip by_).map fun z : Int × Int => y * z.1 - x * z.2) (fun v m => by
      obtain ⟨z, mz, rfl⟩ := List.mem_map.mp m
      obtain ⟨m1, m2⟩ := List.of_mem_zip (a := z.1) (b := z.2) mz
      have l1 : (y * z.1).natAbs < 2 ^ k * 2 ^ k := by rw [Int.natAbs_mul]; exact Nat.mul_lt_mul'' yl (hr _ m1)
      have l2 : (x * z.2).natAbs < 2 ^ k * 2 ^ k := by rw [Int.natAbs_mul]; exact Nat.mul_lt_mul'' xl (hb _ m2)
      rw [p2]
      omega) (by omega)
    rw [ey, Res.ok_bind]
    have lz : ((row.zip by_).map fun z : Int × Int => y * z.1 - x * z.2).length = w := by rw [List.length_map, List.length_zip]; omega
    have vz : ∀ j, VI ((row.zip by_).map fun z : Int × Int => y * z.1 - x * z.2) j = (y : Rat) * VI row j - (x : Rat) * VI by_ j := fun j => by
      by_cases h : j < w
      · rw [VI_lt (by omega), VI_lt (by omega), VI_lt (by omega), List.getElem_map, List.getElem_zip, Rat.intCast_sub, Rat.intCast_mul, Rat.intCast_mul]
      · rw [VI_ge (by omega), VI_ge (by omega), VI_ge (by omega)]
        grind
    have yr := cast_ne y0
    refine ⟨yy, rfl, ⟨(y : Rat) / c, -(x : Rat) / c, ?_, fun j => ?_, ?_⟩, by rw [← fyy.len]; exact lz, byy, fun z => absurd z ?_⟩
    · intro z
      apply yr
      have : (y : Rat) = (y : Rat) / c * c := by grind
      rw [this, z]
      grind
    · have v := vi_fa fyy j
      rw [vz] at v
      grind
    · have v := vi_fa fyy p
      rw [vz, vr, vb, hx, hy, Rat.intCast_mul, Rat.intCast_mul] at v
      have : c * VI yy p = 0 := by rw [← v]; grind
      rcases Rat.mul_eq_zero.mp this with z | z
      · exact absurd z c0
      · exact z
    · rw [vr]
      exact cast_ne q
/-! ### the first row with something at a place -/
theorem enum_cons {α : Type} (xs : List α) (n : Nat) : ((xs.zipIdx n).map fun p => (((p.2 : Nat) : Int), p.1)) = match xs with | [] => [] | x :: xs => ((n : Int), x) :: ((xs.zipIdx (n + 1)).map fun p => (((p.2 : Nat) : Int), p.1)) := by
  cases xs <;> rfl
theorem first_loop {w p : Nat} (hp : p < w) : ∀ (rows : List (List Int)) (n : Nat), (∀ r ∈ rows, r.length = w) →
    ∃ o : Option Nat, (loopC (fun (z5 : Int × List Int) (st5 : Unit) =>
    (ix z5.2 (p : Int)).bind fun x8 =>
  if (decide (x8 ≠ (0 : Int))) = true then
    Res.ok (Ctl.rt (some z5.1))
  else
    Res.ok (Ctl.nx ())) ((rows.zipIdx n).map fun p => (((p.2 : Nat) : Int), p.1)) ()).bind (Ctl.then (fun st5 =>
  Res.ok none) (fun r => Res.ok r)) = .ok (o.map fun i : Nat => ((n + i : Nat) : Int)) ∧
      match o with | none => ∀ r ∈ rows, VI r p = 0 | some i => ∃ h : i < rows.length, VI rows[i] p ≠ 0
  | [], n, _ => ⟨none, rfl, fun _ m => (nomatch m)⟩
  | r :: rows, n, h => by
    rw [enum_cons]
    have l := h r (.head _)
    have hp1 : p < r.length := by omega
    by_cases q : r[p] = 0
    · obtain ⟨o, e, ho⟩ := first_loop hp rows (n + 1) fun s m => h s (.tail _ m)
      refine ⟨o.map (· + 1), ?_, ?_⟩
      · show (Res.bind (Res.bind (ix r (p : Int)) _) _).bind _ = _
        rw [vi_ix hp1, Res.ok_bind, if_neg (by simpa using q), Res.ok_bind]
        refine Eq.trans e ?_
        cases o with
        | none => rfl
        | some i =>
          show Res.ok (some (((n + 1 + i : Nat) : Int))) = Res.ok (some (((n + (i + 1) : Nat) : Int)))
          rw [show n + 1 + i = n + (i + 1) by omega]
      · cases o with
        | none =>
          intro s m
          cases m with
          | head => rw [VI_lt hp1, q]; rfl
          | tail _ m => exact ho s m
        | some i =>
          obtain ⟨h1, h2⟩ := ho
          exact ⟨by simpa using h1, h2⟩
    · refine ⟨some 0, ?_, ⟨Nat.succ_pos _, ?_⟩⟩
      · show (Res.bind (Res.bind (ix r (p : Int)) _) _).bind _ = _
        rw [vi_ix hp1, Res.ok_bind, if_pos (by simpa using q), Res.ok_bind]
        rfl
      · show VI r p ≠ 0
        rw [VI_lt hp1]
        exact cast_ne q
theorem first_ok {w p : Nat} (hp : p < w) {rows : List (List Int)} (h : ∀ r ∈ rows, r.length = w) :
    (m_first_row_with rows (p : Int) = .ok none ∧ ∀ r ∈ rows, VI r p = 0) ∨ ∃ (i : Nat) (hi : i < rows.length), m_first_row_with rows (p : Int) = .ok (some (i : Int)) ∧ VI rows[i] p ≠ 0 := by
  unfold m_first_row_with
  obtain ⟨o, e, ho⟩ := first_loop hp rows 0 h
  have e' : (loopC (fun (z5 : Int × List Int) (st5 : Unit) =>
    (ix z5.2 (p : Int)).bind fun x8 =>
  if (decide (x8 ≠ (0 : Int))) = true then
    Res.ok (Ctl.rt (some z5.1))
  else
    Res.ok (Ctl.nx ())) (enum rows) ()).bind (Ctl.then (fun st5 =>
  Res.ok none) (fun r => Res.ok r)) = .ok (o.map fun i : Nat => ((0 + i : Nat) : Int)) := e
  rw [e']
  cases o with
  | none => exact .inl ⟨rfl, ho⟩
  | some i =>
    obtain ⟨h1, h2⟩ := ho
    exact .inr ⟨i, h1, by rw [Option.map_some, Nat.zero_add], h2⟩
/-- all rows but one, each by a def -/
theorem compR_but {α β : Type} {f : α → Res β} {R : α → β → Prop} (at_ : Nat) : ∀ (xs : List α) (n : Nat), (∀ x ∈ xs, ∃ b, f x = .ok b ∧ R x b) →
    ∃ ys, compR (fun (z : Int × α) => if (decide ((some z.1) ≠ some ((at_ : Nat) : Int))) = true then (f z.2).bind fun y => Res.ok (some y) else Res.ok none) ((xs.zipIdx n).map fun p => (((p.2 : Nat) : Int), p.1)) = .ok ys ∧
      Fa R (if n ≤ at_ then xs.eraseIdx (at_ - n) else xs) ys
  | [], n, _ => ⟨[], rfl, by split <;> exact .nil⟩
  | x :: xs, n, h => by
    rw [enum_cons]
    obtain ⟨b, e, r⟩ := h x (.head _)
    obtain ⟨ys, ey, fy⟩ := compR_but (f := f) (R := R) at_ xs (n + 1) fun s m => h s (.tail _ m)
    by_cases q : n = at_
    · subst q
      refine ⟨ys, ?_, ?_⟩
      · show (Res.only (if _ then _ else _)).bind _ = _
        rw [if_neg (by simp)]
        show (compR _ _).bind _ = _
        rw [ey]
        rfl
      · rw [if_pos (Nat.le_refl _), Nat.sub_self, List.eraseIdx_cons_zero]
        rw [if_neg (by omega)] at fy
        exact fy
    · refine ⟨b :: ys, ?_, ?_⟩
      · show (Res.only (if _ then _ else _)).bind _ = _
        rw [if_pos (by simp; omega)]
        show (Res.only ((f x).bind _)).bind _ = _
        rw [e]
        show (compR _ _).bind _ = _
        rw [ey]
        rfl
      · by_cases l : n ≤ at_
        · rw [if_pos l]
          rw [if_pos (by omega)] at fy
          rw [show at_ - n = (at_ - (n + 1)) + 1 by omega, List.eraseIdx_cons_succ]
          exact .cons r fy
        · rw [if_neg l]
          rw [if_neg (by omega)] at fy
          exact .cons r fy
end MI.MT
namespace MI.MT
open PySem PySem.Spec PyProof.Rows L2 Evl PW
open MA
/-! ### the program's elimination -/
theorem eqs_scale {S T : List MA.Row} (h : Fa (fun a b => ∃ t : Rat, t ≠ 0 ∧ ∀ j, b j = t * a j) S T) : Eqs S T :=
  Eqs.of (fun s m => by
    obtain ⟨b, mb, t, t0, e⟩ := h.left m
    exact ((Spn.mem mb).times (1 / t)).cast fun j => by rw [e]; grind) fun s m => by
    obtain ⟨a, ma, t, t0, e⟩ := h.right m
    exact ((Spn.mem ma).times t).cast fun j => (e j).symm
def pr (d : Int × List Int) : PRow := (d.1.toNat, VI d.2)
/-- what is done, in figures -/
def Dn (w k : Nat) (d : Int × List Int) : Prop := ∃ q : Nat, d.1 = (q : Int) ∧ q < w ∧ d.2.length = w ∧ Bz k d.2
def Lf (w k : Nat) (r : List Int) : Prop := r.length = w ∧ Bz k r
def kk (k p : Nat) : Nat := 2 ^ p * (k + 1) - 1
theorem kk_0 (k : Nat) : kk k 0 = k := by unfold kk; omega
theorem kk_s (k p : Nat) : 2 * kk k p + 1 = kk k (p + 1) := by
  unfold kk
  have : 0 < 2 ^ p * (k + 1) := Nat.mul_pos (Nat.pow_pos (by decide)) (by omega)
  rw [Nat.pow_succ, Nat.mul_right_comm]
  omega
theorem kk_le {k p q : Nat} (h : p ≤ q) : kk k p ≤ kk k q := by
  unfold kk
  have := Nat.mul_le_mul_right (k + 1) (Nat.pow_le_pow_right (show 0 < 2 by decide) h)
  omega
theorem fa_map {α β γ δ : Type} {R : γ → δ → Prop} {f : α → γ} {g : β → δ} {l : List α} {m : List β} (h : Fa (fun a b => R (f a) (g b)) l m) : Fa R (l.map f) (m.map g) := h.map2 fun _ _ r => r
theorem prim_all {k w : Nat} (hk : k ≤ 8900) {rows : List (List Int)} (h : ∀ r ∈ rows, Lf w k r) :
    ∃ ys, mapR (fun z6 => (m_primitive z6).bind fun y9 => Res.ok y9) rows = .ok ys ∧ Fa (fun r y => Lf w k y ∧ ∃ t : Rat, t ≠ 0 ∧ ∀ j, VI y j = t * VI r j) rows ys :=
  mapR_fa (R := fun r y => Lf w k y ∧ ∃ t : Rat, t ≠ 0 ∧ ∀ j, VI y j = t * VI r j) fun r m => by
    obtain ⟨y, c, e, c0, f, b⟩ := primitive_ok (h r m).2 hk
    refine ⟨y, by rw [e]; rfl, ⟨by rw [← f.len]; exact (h r m).1, b⟩, 1 / c, ?_, fun j => ?_⟩
    · intro z
      have : (1 : Rat) = 1 / c * c := by grind
      rw [z] at this
      grind
    · rw [vi_fa f j]
      grind
theorem whole_few {w k : Nat} (hw : w ≤ 1000) (hk : kk k w ≤ 8900) {rows : List (List Int)} (hl : rows.length ≤ 1000) (h : ∀ r ∈ rows, Lf w k r) :
    ∃ done : List (Int × List Int), m_whole_echelon (w : Int) rows = .ok done ∧ Red (done.map pr) ∧ done.length ≤ w ∧ (∀ d ∈ done, Dn w (kk k done.length) d) ∧ Eqs (rows.map VI) (MA.rows (done.map pr)) := by
  unfold m_whole_echelon
  have hk0 : k ≤ 8900 := by
    have := kk_le (k := k) (Nat.zero_le w)
    rw [kk_0] at this
    omega
  obtain ⟨ys, ey, fy⟩ := prim_all (w := w) (k := k) hk0 h
  rw [ey, Res.ok_bind, rngR_nat (by omega), Res.ok_bind]
  have hys : ∀ y ∈ ys, Lf w k y := fun y m => by
    obtain ⟨r, _, q, _⟩ := fy.right m
    exact q
  have e0 : Eqs (rows.map VI) (ys.map VI) := eqs_scale (fa_map (fy.imp fun _ _ q => q.2))
  have main := foldR_rng (n := w) (s := (([] : List (Int × (List Int))), ys))
    (body := fun z16 st16 =>
    (m_first_row_with st16.2 z16).bind fun y19 =>
  if y19.isSome = true then
    (getO y19).bind fun y29 =>
  (ix st16.2 y29).bind fun x32 =>
  (mapR (fun z43 =>
    (m_struck z43.2 x32 z16).bind fun y48 =>
  Res.ok (z43.1, y48)) st16.1).bind fun bs43 =>
  (chkLen (bs43 ++ [(z16, x32)])).bind fun x56 =>
  (compR (fun z64 =>
    if (decide ((some z64.1) ≠ y19)) = true then (m_struck z64.2 x32 z16).bind fun y73 =>
  Res.ok (some y73) else Res.ok none) (enum st16.2)).bind fun bs64 =>
  Res.ok (x56, bs64)
  else
    Res.ok (st16.1, st16.2))
    (fun p st => Inv (ys.map VI) p (st.1.map pr) (st.2.map VI) ∧ (∀ d ∈ st.1, Dn w (kk k st.1.length) d) ∧ (∀ r ∈ st.2, Lf w (kk k st.1.length) r) ∧ st.1.length + st.2.length ≤ 1000 ∧ st.1.length ≤ p)
    ⟨Inv.start _, fun _ m => (nomatch m), by
      show ∀ r ∈ ys, Lf w (kk k 0) r
      rw [kk_0]; exact hys, by
      have := fy.len
      show 0 + ys.length ≤ _
      omega, Nat.le_refl _⟩ (fun p st hp ⟨hI, hD, hL, hN, hp2⟩ => by
      obtain ⟨done, left⟩ := st
      dsimp only at hI hD hL hN hp2 ⊢
      have kp : 2 * kk k done.length + 1 ≤ 8900 := by
        rw [kk_s]
        exact Nat.le_trans (kk_le (by omega)) hk
      have km : kk k done.length ≤ kk k (done.length + 1) := kk_le (by omega)
      rcases first_ok hp fun r m => (hL r m).1 with ⟨e, hz⟩ | ⟨i, hi, e, hb⟩
      · rw [e, Res.ok_bind, if_neg (by simp)]
        refine ⟨_, rfl, hI.skip fun r m => ?_, hD, hL, hN, Nat.le_succ_of_le hp2⟩
        obtain ⟨z, mz, rfl⟩ := List.mem_map.mp m
        exact hz z mz
      · rw [e, Res.ok_bind, if_pos (show (some _ : Option Int).isSome = true from rfl)]
        show ∃ s', (Res.bind (.ok (i : Int)) _) = .ok s' ∧ _
        rw [Res.ok_bind, ix_nat hi, Res.ok_bind]
        have mb := hL _ (List.getElem_mem hi)
        generalize hby : left[i] = by_ at hb mb ⊢
        obtain ⟨ds, ed, fd⟩ := mapR_fa (f := fun (z43 : Int × List Int) => (m_struck z43.2 by_ (p : Int)).bind fun y48 => Res.ok (z43.1, y48)) (zs := done)
          (R := fun d d' => d'.1 = d.1 ∧ Stk (VI by_) p (VI d.2) (VI d'.2) ∧ Dn w (kk k (done.length + 1)) d') (fun d m => by
            obtain ⟨q, a, b, c, x⟩ := hD d m
            obtain ⟨y, ey, sy, ly, by2, _⟩ := struck_ok x mb.2 c mb.1 hp hb kp
            exact ⟨(d.1, y), by rw [ey]; rfl, rfl, sy, q, a, b, ly, by rw [← kk_s]; exact by2⟩)
        obtain ⟨ls, el, fl⟩ := compR_but (f := fun r => m_struck r by_ (p : Int)) (R := fun r r' => Stk (VI by_) p (VI r) (VI r') ∧ Lf w (kk k (done.length + 1)) r') i left 0 (fun r m => by
            obtain ⟨y, ey, sy, ly, by2, _⟩ := struck_ok (hL r m).2 mb.2 (hL r m).1 mb.1 hp hb kp
            exact ⟨y, ey, sy, ly, by rw [← kk_s]; exact by2⟩)
        rw [if_pos (Nat.zero_le _), Nat.sub_zero] at fl
        have el' : compR (fun (z64 : Int × List Int) => if (decide ((some z64.1) ≠ some ((i : Nat) : Int))) = true then (m_struck z64.2 by_ (p : Int)).bind fun y73 => Res.ok (some y73) else Res.ok none) (enum left) = .ok ls := el
        have dl := fd.len
        have lle := fl.len
        have ler : (left.eraseIdx i).length = left.length - 1 := by rw [List.length_eraseIdx, if_pos hi]
        rw [ed, Res.ok_bind, chkLen_ok (by simp; omega), Res.ok_bind, el', Res.ok_bind]
        have pm := cons_erase hi
        rw [hby] at pm
        have st := hI.step (by_ := VI by_) (rest := (left.eraseIdx i).map VI) (left' := ls.map VI) (done' := ds.map pr) (c := 1) (by
            rw [← hby]
            exact List.mem_map.mpr ⟨_, List.getElem_mem hi, rfl⟩) (fun r m => by
            obtain ⟨z, mz, rfl⟩ := List.mem_map.mp m
            rcases List.mem_cons.mp (pm.mem_iff.mpr mz) with q | q
            · exact .inl (by rw [q])
            · exact .inr (List.mem_map.mpr ⟨z, q, rfl⟩)) (fun r m => by
            obtain ⟨z, mz, rfl⟩ := List.mem_map.mp m
            exact List.mem_map.mpr ⟨z, pm.mem_iff.mp (.tail _ mz), rfl⟩) hb (by decide) (fa_map (fl.imp fun _ _ q => q.1)) (fa_map (fd.imp fun a b q => ⟨by show b.1.toNat = a.1.toNat; rw [q.1], q.2.1⟩))
        have e1 : (ds ++ [((p : Int), by_)]).map pr = ds.map pr ++ [(p, fun j => 1 * VI by_ j)] := by
          rw [List.map_append, List.map_cons, List.map_nil]
          congr 2
          show (((p : Int)).toNat, VI by_) = _
          rw [show ((p : Int)).toNat = p by omega, show (fun j => 1 * VI by_ j) = VI by_ from funext fun j => Rat.one_mul _]
        rw [← e1] at st
        have dl1 : (ds ++ [((p : Int), by_)]).length = done.length + 1 := by rw [List.length_append, ← dl]; rfl
        refine ⟨_, rfl, st, fun d m => ?_, fun r m => ?_, by simp only [List.length_append, List.length_cons, List.length_nil]; omega, by show (ds ++ [((p : Int), by_)]).length ≤ p + 1; omega⟩
        all_goals dsimp only
        all_goals rw [dl1]
        · rcases List.mem_append.mp m with m | m
          · obtain ⟨_, _, _, _, q⟩ := fd.right m
            exact q
          · cases List.mem_singleton.mp m
            exact ⟨p, rfl, hp, mb.1, mb.2.mono km⟩
        · obtain ⟨_, _, _, q⟩ := fl.right m
          exact q)
  obtain ⟨s', e, hI, hD, hL, _, hlen⟩ := main
  rw [e, Res.ok_bind]
  have fin := hI.done fun r m j hj => by
    obtain ⟨z, mz, rfl⟩ := List.mem_map.mp m
    exact VI_ge (by rw [(hL z mz).1]; exact hj)
  exact ⟨_, rfl, hI.red, hlen, hD, e0.trans fin⟩
theorem whole_gen {w k : Nat} (hw : w ≤ 1000) (hk : kk k w ≤ 8900) {rows : List (List Int)} (hl : rows.length ≤ 1000) (h : ∀ r ∈ rows, Lf w k r) :
    ∃ done : List (Int × List Int), m_whole_echelon (w : Int) rows = .ok done ∧ Red (done.map pr) ∧ (∀ d ∈ done, Dn w (kk k w) d) ∧ Eqs (rows.map VI) (MA.rows (done.map pr)) := by
  obtain ⟨done, e, a, n, b, c⟩ := whole_few hw hk hl h
  refine ⟨done, e, a, fun d m => ?_, c⟩
  obtain ⟨q, x, y, z, u⟩ := b d m
  exact ⟨q, x, y, z, u.mono (kk_le n)⟩
theorem whole_ok {w k : Nat} (hw : w ≤ 5) (hk : k ≤ 270) {rows : List (List Int)} (hl : rows.length ≤ 1000) (h : ∀ r ∈ rows, Lf w k r) :
    ∃ done : List (Int × List Int), m_whole_echelon (w : Int) rows = .ok done ∧ Red (done.map pr) ∧ (∀ d ∈ done, Dn w (kk k 5) d) ∧ Eqs (rows.map VI) (MA.rows (done.map pr)) := by
  have k5 : kk k 5 ≤ 8900 := by
    have : kk k 5 = 32 * (k + 1) - 1 := rfl
    omega
  obtain ⟨done, e, a, b, c⟩ := whole_gen (w := w) (k := k) (by omega) (Nat.le_trans (kk_le hw) k5) hl h
  refine ⟨done, e, a, fun d m => ?_, c⟩
  obtain ⟨q, x, y, z, u⟩ := b d m
  exact ⟨q, x, y, z, u.mono (kk_le hw)⟩
/-! ### rows that are reduced already stay as they are -/
def po (e : Nat × List Int) : PRow := (e.1, VI e.2)
theorem red_scale {E G : List PRow} (h : Red E) (f : Fa (fun a b : PRow => b.1 = a.1 ∧ ∃ t : Rat, t ≠ 0 ∧ ∀ j, b.2 j = t * a.2 j) E G) : Red G := by
  have fs : E.map (·.1) = G.map (·.1) := pw_fst f fun _ _ r => r.1
  refine ⟨?_, fun b m => ?_, fun b m k l => ?_, fun b m c n ne => ?_⟩
  · have := List.pairwise_map.mpr h.up
    rw [fs] at this
    exact List.pairwise_map.mp this
  · obtain ⟨a, ma, e, t, t0, q⟩ := f.right m
    rw [q, e]
    intro z
    rcases Rat.mul_eq_zero.mp z with z | z
    · exact t0 z
    · exact h.one a ma z
  · obtain ⟨a, ma, e, t, t0, q⟩ := f.right m
    rw [q, h.low a ma k (by omega)]
    grind
  · obtain ⟨a, ma, e, t, t0, q⟩ := f.right m
    obtain ⟨a', ma', e', _⟩ := f.right n
    rw [q, e', h.off a ma a' ma' (by omega)]
    grind
theorem whole_red {w k : Nat} (hw : w ≤ 5) (hk : 2 * k + 1 ≤ 8900) {E : List (Nat × List Int)} (hR : Red (E.map po)) (hl : E.length ≤ 1000) (h : ∀ e ∈ E, e.1 < w ∧ Lf w k e.2) :
    ∃ Y : List (Nat × List Int), m_whole_echelon (w : Int) (E.map (·.2)) = .ok (Y.map fun e => ((e.1 : Int), e.2)) ∧ Fa (fun e y : Nat × List Int => y.1 = e.1 ∧ Lf w k y.2 ∧ ∃ t : Rat, t ≠ 0 ∧ ∀ j, VI y.2 j = t * VI e.2 j) E Y := by
  unfold m_whole_echelon
  obtain ⟨Y, ey, fy⟩ : ∃ Y : List (Nat × List Int), mapR (fun z6 => (m_primitive z6).bind fun y9 => Res.ok y9) (E.map (·.2)) = .ok (Y.map (·.2)) ∧ Fa (fun e y : Nat × List Int => y.1 = e.1 ∧ Lf w k y.2 ∧ ∃ t : Rat, t ≠ 0 ∧ ∀ j, VI y.2 j = t * VI e.2 j) E Y := by
    clear hR hl
    induction E with
    | nil => exact ⟨[], rfl, .nil⟩
    | cons e E ih =>
      obtain ⟨Y, eY, fY⟩ := ih fun x m => h x (.tail _ m)
      obtain ⟨ys, e2, f2⟩ := prim_all (w := w) (k := k) (by omega) (rows := [e.2]) fun r m => by
        cases List.mem_singleton.mp m
        exact (h e (.head _)).2
      cases f2 with
      | cons q f2 =>
        rename_i y l
        cases f2
        refine ⟨(e.1, y) :: Y, ?_, .cons ⟨rfl, q⟩ fY⟩
        have e3 : m_primitive e.2 = .ok y := by
          have e4 : (Res.only ((m_primitive e.2).bind fun y9 => Res.ok y9)).bind (fun b => Res.ok [b]) = .ok [y] := e2
          revert e4
          cases m_primitive e.2 with
          | ok v => intro e4; cases e4; rfl
          | exc v => intro e4; cases e4
          | bad => intro e4; cases e4
        rw [List.map_cons]
        show (Res.only ((m_primitive e.2).bind _)).bind _ = _
        rw [e3]
        show (mapR _ (E.map (·.2))).bind _ = _
        rw [eY]
        rfl
  rw [ey, Res.ok_bind, rngR_nat (by omega), Res.ok_bind]
  have rY : Red (Y.map po) := red_scale hR (fa_map (fy.imp fun _ _ q => ⟨q.1, q.2.2⟩))
  have hY : ∀ y ∈ Y, y.1 < w ∧ Lf w k y.2 := fun y m => by
    obtain ⟨e, me, q⟩ := fy.right m
    exact ⟨by rw [q.1]; exact (h e me).1, q.2.1⟩
  have yl : Y.length ≤ 1000 := by rw [← fy.len]; exact hl
  have main := foldR_rng (n := w) (s := (([] : List (Int × (List Int))), Y.map (·.2)))
    (body := fun z16 st16 =>
    (m_first_row_with st16.2 z16).bind fun y19 =>
  if y19.isSome = true then
    (getO y19).bind fun y29 =>
  (ix st16.2 y29).bind fun x32 =>
  (mapR (fun z43 =>
    (m_struck z43.2 x32 z16).bind fun y48 =>
  Res.ok (z43.1, y48)) st16.1).bind fun bs43 =>
  (chkLen (bs43 ++ [(z16, x32)])).bind fun x56 =>
  (compR (fun z64 =>
    if (decide ((some z64.1) ≠ y19)) = true then (m_struck z64.2 x32 z16).bind fun y73 =>
  Res.ok (some y73) else Res.ok none) (enum st16.2)).bind fun bs64 =>
  Res.ok (x56, bs64)
  else
    Res.ok (st16.1, st16.2))
    (fun p st => ∃ A B : List (Nat × List Int), Y = A ++ B ∧ st.1 = A.map (fun e => ((e.1 : Int), e.2)) ∧ st.2 = B.map (·.2) ∧ (∀ a ∈ A, a.1 < p) ∧ ∀ b ∈ B, p ≤ b.1)
    ⟨[], Y, rfl, rfl, rfl, fun _ m => (nomatch m), fun _ _ => Nat.zero_le _⟩ (fun p st hp ⟨A, B, eY, e1, e2, hA, hB⟩ => by
      obtain ⟨done, left⟩ := st
      dsimp only at e1 e2 ⊢
      subst e1 e2
      have mB : ∀ b ∈ B, b ∈ Y := fun b m => by rw [eY]; exact List.mem_append.mpr (.inr m)
      have mA : ∀ b ∈ A, b ∈ Y := fun b m => by rw [eY]; exact List.mem_append.mpr (.inl m)
      have up : Y.Pairwise (fun a b => a.1 < b.1) := (List.pairwise_map (f := po) (R := fun a b : PRow => a.1 < b.1)).mp rY.up
      rw [eY] at up
      have lY : A.length + B.length ≤ 1000 := by rw [eY, List.length_append] at yl; exact yl
      have low : ∀ b ∈ B, p < b.1 → VI b.2 p = 0 := fun b m l => rY.low (po b) (List.mem_map.mpr ⟨b, mB b m, rfl⟩) p l
      have one : ∀ b ∈ Y, VI b.2 b.1 ≠ 0 := fun b m => rY.one (po b) (List.mem_map.mpr ⟨b, m, rfl⟩)
      have off : ∀ a ∈ Y, ∀ b ∈ Y, a.1 ≠ b.1 → VI a.2 b.1 = 0 := fun a m b n ne => rY.off (po a) (List.mem_map.mpr ⟨a, m, rfl⟩) (po b) (List.mem_map.mpr ⟨b, n, rfl⟩) ne
      have lenB : ∀ r ∈ B.map (·.2), r.length = w := fun r m => by
        obtain ⟨b, mb, rfl⟩ := List.mem_map.mp m
        exact (hY b (mB b mb)).2.1
      by_cases q : ∃ b B', B = b :: B' ∧ b.1 = p
      · obtain ⟨b, B', eB, ep⟩ := q
        subst eB
        rcases first_ok hp lenB with ⟨e, hz⟩ | ⟨i, hi, e, hb⟩
        · exact absurd (hz b.2 (.head _)) (by rw [← ep]; exact one b (mB b (.head _)))
        · -- it is the first
          have upB := (List.pairwise_cons.mp (List.pairwise_append.mp up).2.1).1
          have i0 : i = 0 := by
            cases i with
            | zero => rfl
            | succ i =>
              exfalso
              apply hb
              rw [List.length_map] at hi
              have hi' : i < B'.length := by simpa using hi
              have : (List.map (·.2) (b :: B'))[i + 1]'(by rw [List.length_map]; exact hi) = B'[i].2 := by simp
              rw [this]
              exact low _ (.tail _ (List.getElem_mem hi')) (by have := upB _ (List.getElem_mem hi'); omega)
          subst i0
          rw [e, Res.ok_bind, if_pos (show (some _ : Option Int).isSome = true from rfl)]
          show ∃ s', (Res.bind (.ok ((0 : Nat) : Int)) _) = .ok s' ∧ _
          rw [Res.ok_bind, ix_nat hi, Res.ok_bind]
          have g0 : (List.map (·.2) (b :: B'))[0]'hi = b.2 := rfl
          rw [g0] at hb ⊢
          have hb2 := (hY b (mB b (.head _))).2
          have same : ∀ a ∈ Y, a.1 ≠ p → m_struck a.2 b.2 (p : Int) = .ok a.2 := fun a m ne => by
            obtain ⟨y, e3, _, _, _, e4⟩ := struck_ok (hY a m).2.2 hb2.2 (hY a m).2.1 hb2.1 hp hb hk
            rw [e3, e4 (by have := off a m b (mB b (.head _)) (by omega); rw [ep] at this; exact this)]
          rw [mapR_map, mapR_ok (g := fun a : Nat × List Int => ((a.1 : Int), a.2)) (fun a m => by
            rw [same a (mA a m) (by have := hA a m; omega)]
            rfl), Res.ok_bind, chkLen_ok (by simp; simp at lY; omega), Res.ok_bind]
          obtain ⟨ls, el, fl⟩ := compR_but (f := fun r => m_struck r b.2 (p : Int)) (R := fun r r' : List Int => (r ∈ B'.map (·.2)) → r' = r) 0 (List.map (·.2) (b :: B')) 0 (fun r m => by
            obtain ⟨a, ma, rfl⟩ := List.mem_map.mp m
            obtain ⟨y, e3, _, _, _, e4⟩ := struck_ok (hY a (mB a ma)).2.2 hb2.2 (hY a (mB a ma)).2.1 hb2.1 hp hb hk
            refine ⟨y, e3, fun m2 => e4 ?_⟩
            obtain ⟨c, mc, ec⟩ := List.mem_map.mp m2
            rw [← ec]
            exact low c (.tail _ mc) (by have := upB c mc; omega))
          rw [if_pos (Nat.zero_le _), Nat.sub_zero] at fl
          have els : ls = B'.map (·.2) := by
            have fl' : Fa (fun r r' : List Int => (r ∈ B'.map (·.2)) → r' = r) (B'.map (·.2)) ls := fl
            have : ∀ (l m : List (List Int)), Fa (fun r r' : List Int => (r ∈ B'.map (·.2)) → r' = r) l m → (∀ x ∈ l, x ∈ B'.map (·.2)) → m = l := fun l m f => by
              induction f with
              | nil => exact fun _ => rfl
              | cons r _ ih => exact fun hx => by rw [r (hx _ (.head _)), ih fun x m => hx x (.tail _ m)]
            exact this _ _ fl' fun _ m => m
          have el' : compR (fun (z64 : Int × List Int) => if (decide ((some z64.1) ≠ some (((0 : Nat) : Nat) : Int))) = true then (m_struck z64.2 b.2 (p : Int)).bind fun y73 => Res.ok (some y73) else Res.ok none) (enum (List.map (·.2) (b :: B'))) = .ok ls := el
          rw [el', Res.ok_bind, els]
          refine ⟨_, rfl, A ++ [b], B', by rw [eY, List.append_assoc]; rfl, ?_, rfl, fun a m => ?_, fun c m => ?_⟩
          · rw [List.map_append, List.map_cons, List.map_nil, ep]
          · rcases List.mem_append.mp m with m | m
            · exact Nat.lt_succ_of_lt (hA a m)
            · cases List.mem_singleton.mp m
              omega
          · have := upB c m
            omega
      · have big : ∀ b ∈ B, p < b.1 := fun b m => by
          cases B with
          | nil => cases m
          | cons c B' =>
            have hc : c.1 ≠ p := fun e => q ⟨c, B', rfl, e⟩
            have h1 := hB c (.head _)
            cases m with
            | head => omega
            | tail _ m =>
              have := (List.pairwise_cons.mp (List.pairwise_append.mp up).2.1).1 b m
              omega
        rcases first_ok hp lenB with ⟨e, hz⟩ | ⟨i, hi, e, hb⟩
        · rw [e, Res.ok_bind, if_neg (by simp)]
          exact ⟨_, rfl, A, B, eY, rfl, rfl, fun a m => Nat.lt_succ_of_lt (hA a m), fun b m => big b m⟩
        · exfalso
          apply hb
          rw [List.length_map] at hi
          rw [List.getElem_map]
          exact low _ (List.getElem_mem hi) (big _ (List.getElem_mem hi)))
  obtain ⟨s', e, A, B, eY, e1, e2, hA, hB⟩ := main
  rw [e, Res.ok_bind]
  have : B = [] := by
    cases B with
    | nil => rfl
    | cons b B' =>
      have h1 := hB b (.head _)
      have h2 := (hY b (by rw [eY]; exact List.mem_append.mpr (.inr (.head _)))).1
      omega
  subst this
  rw [List.append_nil] at eY
  subst eY
  exact ⟨Y, by rw [e1], fy⟩
end MI.MT
namespace MI.MT
open PySem PySem.Spec PyProof.Rows L2 Evl PW
open MA
/-! ### the reduced form, by the program -/
def Rw (k w : Nat) (r : List Rat) : Prop := ∃ D M, 0 < D ∧ D < 2 ^ k ∧ M < 2 ^ k ∧ Sh w D M r
theorem Rw.len {k w : Nat} {r : List Rat} (h : Rw k w r) : r.length = w := by
  obtain ⟨_, _, _, _, _, s⟩ := h
  exact s.1
theorem Rw.mono {k l w : Nat} {r : List Rat} (h : Rw k w r) (e : k ≤ l) : Rw l w r := by
  obtain ⟨D, M, a, b, c, s⟩ := h
  have := Nat.pow_le_pow_right (show 0 < 2 by decide) e
  exact ⟨D, M, a, by omega, by omega, s⟩
theorem Rw.fz {k w : Nat} {r : List Rat} (h : Rw k w r) (j : Nat) : Fz k (V r j) := by
  obtain ⟨D, M, a, b, c, s⟩ := h
  exact fz_wh a (s.v' j) b c
theorem row_ok {w : Nat} {r : List Rat} (h : r.length = w) : m_is_number_row (w : Int) (r.map lw) = .ok true := by
  unfold m_is_number_row
  have e : (((r.map lw).length : Nat) : Int) = (w : Int) := by rw [List.length_map, h]
  rw [if_pos rfl, if_pos (decide_eq_true e), mapR_map, mapR_ok (g := fun _ => true) (fun q _ => by rw [is_number_ok]; rfl), Res.ok_bind, Res.ok_bind]
  congr 1
  refine List.all_eq_true.mpr fun b m => ?_
  obtain ⟨_, _, e⟩ := List.mem_map.mp m
  exact e.symm
theorem check_ok {w : Nat} (hw : w ≤ 64) {R : List (List Rat)} (hl : R.length ≤ 64) (h : ∀ r ∈ R, r.length = w) : m_check_matrix (w : Int) (mp R) = .ok () := by
  unfold m_check_matrix
  have e1 : (!((decide ((0 : Int) ≤ (w : Int))) && (decide ((w : Int) ≤ (64 : Int))))) = false := by
    rw [decide_eq_true (show (0 : Int) ≤ w by omega), decide_eq_true (show (w : Int) ≤ 64 by omega)]
    rfl
  have e2 : (decide ((64 : Int) < (((mp R).length : Nat) : Int))) = false := by
    rw [List.length_map]
    exact decide_eq_false (by omega)
  rw [e1, if_neg (by decide), e2, if_neg (by decide)]
  suffices hs : ∀ T : List (List Rat), (∀ r ∈ T, r.length = w) → (foldR (fun (z10 : List (Int × Int)) (st10 : Unit) =>
    (m_is_number_row (w : Int) z10).bind fun y13 =>
  if (!y13) = true then
    Res.exc .NotMatrix
  else
    Res.ok ()) (mp T) ()) = .ok () by
    rw [hs R h]
    rfl
  intro T hT
  induction T with
  | nil => rfl
  | cons r T ih =>
    show (Res.bind (m_is_number_row (w : Int) (r.map lw)) _).bind _ = _
    rw [row_ok (hT r (.head _)), Res.ok_bind, if_neg (by decide), Res.ok_bind]
    exact ih fun s m => hT s (.tail _ m)
theorem clear_all {w k : Nat} (hk : k ≤ 8900) {R : List (List Rat)} (h : ∀ r ∈ R, Rw k w r) :
    ∃ zs, mapR (fun z7 => (m_cleared z7).bind fun y10 => Res.ok y10) (mp R) = .ok zs ∧ Fa (fun r z => Lf w k z ∧ ∃ t : Rat, t ≠ 0 ∧ ∀ j, VI z j = t * V r j) R zs := by
  rw [mapR_map]
  exact mapR_fa fun r m => by
    obtain ⟨D, M, a, b, c, s⟩ := h r m
    obtain ⟨y, t, e, t0, v, l, bz⟩ := cleared_ok s a b c hk
    exact ⟨y, by rw [e]; rfl, ⟨l, bz⟩, t, t0, v⟩
/-- a row divided by its number at its place -/
def un (w : Nat) (a : PRow) : List Rat := tb w fun j => a.2 j / a.2 a.1
theorem un_unit {E G : List PRow} {w : Nat} (h : E.map unit = G.map unit) : E.map (un w) = G.map (un w) := by
  have e : ∀ a : PRow, un w a = tb w (unit a).2 := fun _ => rfl
  have f : (un w) = (fun a : PRow => tb w a.2) ∘ unit := funext e
  rw [f, ← List.map_map, ← List.map_map, h]
theorem line_un {w q : Nat} {line : List Int} (hl : line.length = w) (hq : q < line.length) : line.map (fun (a : Int) => lw ((a : Rat) / ((line[q] : Int) : Rat))) = (un w (q, VI line)).map lw := by
  refine List.ext_getElem (by simp [un, tb_len, hl]) fun i h1 h2 => ?_
  rw [List.length_map] at h1
  rw [List.getElem_map, List.getElem_map]
  unfold un tb
  rw [List.getElem_map, List.getElem_range]
  dsimp only
  rw [VI_lt hq, VI_lt h1]
theorem divide_all {w k : Nat} (hk : k ≤ 8900) {done : List (Int × List Int)} (h : ∀ d ∈ done, Dn w k d) (hR : ∀ d ∈ done, (pr d).2 (pr d).1 ≠ 0) :
    mapR (fun (z18 : Int × List Int) => (mapR (fun z22 => (ix z18.2 z18.1).bind fun x25 => (m_number z22 x25).bind fun y30 => Res.ok y30) z18.2).bind fun bs22 => Res.ok bs22) done = .ok (mp (done.map fun d => un w (pr d))) := by
  rw [mapR_ok (g := fun d => (un w (pr d)).map lw) (fun d m => by
    obtain ⟨q, e, hq, l, b⟩ := h d m
    have n0 := hR d m
    unfold pr at n0 ⊢
    rw [e] at n0 ⊢
    rw [show ((q : Int)).toNat = q by omega] at n0 ⊢
    have hq' : q < d.2.length := by omega
    dsimp only at n0
    rw [VI_lt hq'] at n0
    have m0 : d.2[q] ≠ 0 := fun z => n0 (by rw [z]; rfl)
    rw [mapR_ok (g := fun (a : Int) => lw ((a : Rat) / ((d.2[q] : Int) : Rat))) (fun a _ => by
      rw [ix_nat hq', Res.ok_bind, number_ok m0 (sm_k b hk (List.getElem_mem hq'))]
      rfl), Res.ok_bind, line_un l hq'])]
  show Res.ok (done.map _) = Res.ok ((done.map _).map _)
  rw [List.map_map]
  rfl
end MI.MT
namespace MI.MT
open PySem PySem.Spec PyProof.Rows L2 Evl PW
open MA
/-! ### the law's own elimination -/
theorem wh_self (q : Rat) : Wh q.den q.num.natAbs q := ⟨q.num, by
  have h := val2 q
  have n0 := cast_ne (lw2_ne q)
  have e : (q.den : Rat) = ((lw q).2 : Rat) := by
    show (q.den : Rat) = ((q.den : Int) : Rat)
    exact_mod_cast rfl
  rw [e]
  show q * ((lw q).2 : Rat) = ((lw q).1 : Rat)
  generalize lw q = p at *
  rw [h]
  grind, Nat.le_refl _⟩
theorem fz_mul {k l : Nat} {x y : Rat} (hx : Fz k x) (hy : Fz l y) : Fz (k + l) (x * y) := by
  refine fz_wh (Nat.mul_pos x.den_pos y.den_pos) ((wh_self x).mul (wh_self y)) ?_ ?_
  · rw [Nat.pow_add]
    exact Nat.mul_lt_mul'' hx.2 hy.2
  · rw [Nat.pow_add]
    exact Nat.mul_lt_mul'' hx.1 hy.1
theorem taken_ok {w k p : Nat} (hw : w ≤ 5) (hk : 3 * k ≤ 8900) {row lead : List Rat} (hr : Rw k w row) (hl : Rw k w lead) (hp : p < w) :
    m__law_taken (row.map lw) (lead.map lw) (p : Int) = .ok ((tb w fun j => V row j - V row p * V lead j).map lw) ∧ Rw (2 * k + 1) w (tb w fun j => V row j - V row p * V lead j) := by
  have lr := hr.len
  have ll := hl.len
  constructor
  · unfold m__law_taken
    have e : (((row.map lw).length : Nat) : Int) = (w : Int) := by rw [List.length_map, lr]
    rw [e, rngL_nat (by omega), Res.ok_bind]
    rw [mapR_tb (w := w) (g := fun j => V row j - V row p * V lead j) (fun j hj => by
      rw [ix_lw (by omega), Res.ok_bind, ix_lw (by omega), Res.ok_bind, ix_lw (by omega), Res.ok_bind, times_ok (hr.fz p) (hl.fz j) (by omega), Res.ok_bind, less_ok (hr.fz j) (fz_mul (hr.fz p) (hl.fz j)) (by omega)]
      rfl), Res.ok_bind]
  · obtain ⟨D1, M1, a1, b1, c1, s1⟩ := hr
    obtain ⟨D2, M2, a2, b2, c2, s2⟩ := hl
    have p2 : (2 : Nat) ^ (2 * k + 1) = 2 ^ k * 2 ^ k + 2 ^ k * 2 ^ k := by rw [Nat.pow_succ, Nat.two_mul, Nat.pow_add]; omega
    have q1 : D1 * D2 < 2 ^ k * 2 ^ k := Nat.mul_lt_mul'' b1 b2
    have q2 : M1 * D2 < 2 ^ k * 2 ^ k := Nat.mul_lt_mul'' c1 b2
    have q3 : M1 * M2 < 2 ^ k * 2 ^ k := Nat.mul_lt_mul'' c1 c2
    refine ⟨D1 * D2, M1 * D2 + M1 * M2, Nat.mul_pos a1 a2, by omega, by omega, tb_len, fun x m => ?_⟩
    obtain ⟨j, hj, rfl⟩ := mem_tb m
    have := ((s1.v' j).up D2).add ((s1.v' p).mul (s2.v' j)).neg
    have e : V row j - V row p * V lead j = V row j + -(V row p * V lead j) := by grind
    rw [e]
    exact this
theorem lead_ok {w k p : Nat} (hk : 2 * k ≤ 8900) {l : List Rat} (hl : Rw k w l) (hp : p < w) (b0 : V l p ≠ 0) :
    mapR (fun z60 => (ix (l.map lw) (p : Int)).bind fun x65 => (m__law_over z60 x65).bind fun y70 => Res.ok y70) (l.map lw) = .ok ((l.map fun q => q / V l p).map lw) ∧ Rw k w (l.map fun q => q / V l p) := by
  have ll := hl.len
  constructor
  · exact mapR_lw fun q m => by
      have fq : Fz k q := by
        obtain ⟨D, M, a, b, c, s⟩ := hl
        exact fz_wh a (s.2 q m) b c
      rw [ix_lw (by omega), Res.ok_bind, over_ok b0 fq (hl.fz p) (by omega)]
      rfl
  · obtain ⟨D, M, a, b, c, s⟩ := hl
    obtain ⟨β, e, hβ⟩ := s.v' p
    have Dn := natCast_ne a
    have β0 : β ≠ 0 := fun z => b0 (by
      rw [z] at e
      have : ((0 : Int) : Rat) = 0 := rfl
      rw [this] at e
      rcases Rat.mul_eq_zero.mp e with h | h
      · exact h
      · exact absurd h Dn)
    refine ⟨β.natAbs, M, by omega, by omega, c, by rw [List.length_map]; exact s.1, fun x m => ?_⟩
    obtain ⟨q, mq, rfl⟩ := List.mem_map.mp m
    obtain ⟨z, ez, hz⟩ := s.2 q mq
    rcases (show (β.natAbs : Int) = β ∨ (β.natAbs : Int) = -β by omega) with h | h
    · refine ⟨z, ?_, hz⟩
      have : ((β.natAbs : Nat) : Rat) = (β : Rat) := congrArg (fun z : Int => (z : Rat)) h
      rw [this, ← ez, ← e]
      grind
    · refine ⟨-z, ?_, by omega⟩
      have : ((β.natAbs : Nat) : Rat) = -(β : Rat) := by
        have := congrArg (fun z : Int => (z : Rat)) h
        rw [Rat.intCast_neg] at this
        exact this
      rw [this, Rat.intCast_neg, ← ez, ← e]
      grind
def pv (e : Nat × List Rat) : PRow := (e.1, V e.2)
theorem num_iff (q : Rat) : (lw q).1 ≠ 0 ↔ q ≠ 0 := ⟨fun h e => h (by rw [e]; rfl), num_ne⟩
theorem law_echelon_ok {w k : Nat} (hw : w ≤ 5) (hk : k ≤ 100) {R : List (List Rat)} (hl : R.length ≤ 64) (h : ∀ r ∈ R, Rw k w r) :
    ∃ E : List (Nat × List Rat), m__law_echelon (w : Int) (mp R) = .ok (mp (E.map (·.2))) ∧ Red (E.map pv) ∧ (∀ e ∈ E, e.1 < w ∧ e.2.length = w ∧ V e.2 e.1 = 1) ∧ Eqs (R.map V) (MA.rows (E.map pv)) ∧ E.length ≤ R.length := by
  unfold m__law_echelon
  rw [mapR_pure, Res.ok_bind, show (mp R).map (fun x => x) = mp R from List.map_id' _, rngR_nat (by omega), Res.ok_bind]
  have main := foldR_rng (n := w) (s := (mp R, ([] : List (List (Int × Int)))))
    (body := fun z16 st16 =>
    (rngL 0 (st16.1.length : Int)).bind fun zs20 =>
  (compR (fun z21 =>
    (ix st16.1 z21).bind fun x23 =>
  (ix x23 z16).bind fun x28 =>
  if (decide (x28.1 ≠ (0 : Int))) = true then Res.ok (some z21) else Res.ok none) zs20).bind fun bs21 =>
  if (!(!List.isEmpty bs21)) = true then
    Res.ok (st16.1, st16.2)
  else
    (ix bs21 (0 : Int)).bind fun x47 =>
  (popAtR st16.1 x47).bind2 fun x52 xs53 =>
  (mapR (fun z60 =>
    (ix x52 z16).bind fun x65 =>
  (m__law_over z60 x65).bind fun y70 =>
  Res.ok y70) x52).bind fun bs60 =>
  (mapR (fun z79 =>
    (m__law_taken z79 bs60 z16).bind fun y84 =>
  Res.ok y84) xs53).bind fun bs79 =>
  (mapR (fun z90 =>
    (m__law_taken z90 bs60 z16).bind fun y95 =>
  Res.ok y95) st16.2).bind fun bs90 =>
  (catR bs90 [bs60]).bind fun x101 =>
  Res.ok (bs79, x101))
    (fun p st => ∃ (L : List (List Rat)) (E : List (Nat × List Rat)), st.1 = mp L ∧ st.2 = mp (E.map (·.2)) ∧ Inv (R.map V) p (E.map pv) (L.map V) ∧ (∀ e ∈ E, e.1 < w ∧ Rw (kk k p) w e.2 ∧ V e.2 e.1 = 1) ∧ (∀ r ∈ L, Rw (kk k p) w r) ∧ E.length + L.length = R.length)
    ⟨R, [], rfl, rfl, Inv.start _, fun _ m => (nomatch m), by rw [kk_0]; exact h, by simp⟩ (fun p st hp ⟨L, E, e1, e2, hI, hE, hL, hN⟩ => by
      obtain ⟨left, done⟩ := st
      dsimp only at e1 e2 ⊢
      subst e1 e2
      have k4 : kk k p ≤ kk k 4 := kk_le (by omega)
      have k4' : kk k 4 = 16 * (k + 1) - 1 := rfl
      have k3 : 3 * kk k p ≤ 8900 := by omega
      have km : kk k p ≤ kk k (p + 1) := kk_le (by omega)
      have ml : (((mp L).length : Nat) : Int) = (L.length : Int) := by rw [List.length_map]
      rw [ml, rngL_nat (by omega), Res.ok_bind]
      rw [compR_ok (g := fun z : Int => if V (L[z.toNat]?.getD []) p ≠ 0 then some z else none) (fun z m => by
        obtain ⟨i, rfl, hi⟩ := mem_rng m
        rw [ix_mp hi, Res.ok_bind, ix_lw (by rw [(hL _ (List.getElem_mem hi)).len]; exact hp), Res.ok_bind]
        rw [show ((i : Int)).toNat = i by omega, List.getElem?_eq_getElem hi]
        show (if decide ((lw (V L[i] p)).1 ≠ 0) = true then _ else _) = Res.ok (if V L[i] p ≠ 0 then _ else _)
        by_cases q : V L[i] p = 0
        · rw [if_neg (by simp [num_iff, q]), if_neg (by simp [q])]
        · rw [if_pos (decide_eq_true ((num_iff _).mpr q)), if_pos q]), Res.ok_bind]
      generalize hbs : (rng 0 (L.length : Int)).filterMap (fun z : Int => if V (L[z.toNat]?.getD []) p ≠ 0 then some z else none) = bs
      cases bs with
      | nil =>
        rw [if_pos (by rfl)]
        refine ⟨_, rfl, L, E, rfl, rfl, hI.skip fun r m => ?_, fun e m => ⟨(hE e m).1, (hE e m).2.1.mono km, (hE e m).2.2⟩, fun r m => (hL r m).mono km, hN⟩
        obtain ⟨l, ml, rfl⟩ := List.mem_map.mp m
        obtain ⟨i, hi, rfl⟩ := List.mem_iff_getElem.mp ml
        have := List.filterMap_eq_nil_iff.mp hbs (i : Int) (by rw [rng_nat]; exact List.mem_map.mpr ⟨i, List.mem_range.mpr hi, rfl⟩)
        rw [show ((i : Int)).toNat = i by omega, List.getElem?_eq_getElem hi] at this
        apply Classical.byContradiction
        intro q
        rw [if_pos (show V ((some L[i]).getD []) p ≠ 0 from q)] at this
        cases this
      | cons b bs =>
        have mb : b ∈ (rng 0 (L.length : Int)).filterMap (fun z : Int => if V (L[z.toNat]?.getD []) p ≠ 0 then some z else none) := by rw [hbs]; exact .head _
        obtain ⟨z, mz, ez⟩ := List.mem_filterMap.mp mb
        obtain ⟨i, rfl, hi⟩ := mem_rng mz
        rw [show ((i : Int)).toNat = i by omega, List.getElem?_eq_getElem hi] at ez
        have b0 : V L[i] p ≠ 0 := by
          intro q
          rw [if_neg (show ¬ V ((some L[i]).getD []) p ≠ 0 from fun z => z q)] at ez
          cases ez
        rw [if_pos (show V ((some L[i]).getD []) p ≠ 0 from b0)] at ez
        cases ez
        rw [if_neg (show ¬ (!(!List.isEmpty ((i : Int) :: bs))) = true from Bool.false_ne_true)]
        show ∃ s', (Res.bind (ix ((i : Int) :: bs) ((0 : Nat) : Int)) _) = .ok s' ∧ _
        rw [ix_nat (show 0 < ((i : Int) :: bs).length from Nat.succ_pos _), Res.ok_bind]
        show ∃ s', (Res.bind2 (popAtR (mp L) (i : Int)) _) = .ok s' ∧ _
        rw [popAt_mp hi (by omega), Res.ok_bind2]
        have hl := hL _ (List.getElem_mem hi)
        have pm := cons_erase hi
        have van := hI.van (V L[i]) (List.mem_map.mpr ⟨_, List.getElem_mem hi, rfl⟩)
        have ler : (L.eraseIdx i).length = L.length - 1 := by rw [List.length_eraseIdx, if_pos hi]
        generalize hrow : L[i] = l at b0 hl pm van ⊢
        obtain ⟨el, rl⟩ := lead_ok (by omega) hl hp b0
        have vl : ∀ j, V (l.map fun q => q / V l p) j = V l j / V l p := fun j => V_map (by grind) _ j
        rw [el, Res.ok_bind]
        generalize l.map (fun q => q / V l p) = lead at rl vl ⊢
        have tk : ∀ r : List Rat, Rw (kk k p) w r → m__law_taken (r.map lw) (lead.map lw) (p : Int) = .ok ((tb w fun j => V r j - V r p * V lead j).map lw) ∧ Rw (kk k (p + 1)) w (tb w fun j => V r j - V r p * V lead j) := fun r hr => by
          have := taken_ok hw k3 hr rl hp
          rw [kk_s] at this
          exact this
        have vt : ∀ r : List Rat, r.length = w → ∀ j, V (tb w fun j => V r j - V r p * V lead j) j = V r j - V r p * V lead j := fun r lr j => by
          rw [V_tb]
          by_cases q : j < w
          · rw [if_pos q]
          · rw [if_neg q, V_ge (by omega), V_ge (r := lead) (by rw [rl.len]; omega)]
            grind
        have lp : V lead p = 1 := by
          rw [vl]
          grind
        have stk : ∀ r : List Rat, Rw (kk k p) w r → Stk (V l) p (V r) (V (tb w fun j => V r j - V r p * V lead j)) := fun r hr => by
          refine ⟨1, -(V r p) / V l p, by decide, fun j => ?_, ?_⟩
          · rw [vt r hr.len, vl]
            grind
          · rw [vt r hr.len, lp]
            grind
        rw [mapR_map, mapR_ok (g := fun r => (tb w fun j => V r j - V r p * V lead j).map lw) (fun r m => by
          rw [(tk r (hL r (pm.mem_iff.mp (.tail _ m)))).1]
          rfl), Res.ok_bind, mapR_map, mapR_map, mapR_ok (g := fun e : Nat × List Rat => (tb w fun j => V e.2 j - V e.2 p * V lead j).map lw) (fun e m => by
          rw [(tk e.2 (hE e m).2.1).1]
          rfl), Res.ok_bind]
        have cat : catR (E.map fun e : Nat × List Rat => (tb w fun j => V e.2 j - V e.2 p * V lead j).map lw) [lead.map lw] = .ok ((E.map fun e : Nat × List Rat => (tb w fun j => V e.2 j - V e.2 p * V lead j).map lw) ++ [lead.map lw]) := if_pos (by
          rw [List.length_map]
          show E.length + 1 ≤ _
          omega)
        rw [cat, Res.ok_bind]
        have fl : ∀ T : List (List Rat), (∀ r ∈ T, r ∈ L) → Fa (Stk (V l) p) (T.map V) ((T.map fun r => tb w fun j => V r j - V r p * V lead j).map V) := fun T => by
          induction T with
          | nil => exact fun _ => .nil
          | cons r T ih => exact fun hT => .cons (stk r (hL r (hT r (.head _)))) (ih fun x m => hT x (.tail _ m))
        have fd : ∀ T : List (Nat × List Rat), (∀ e ∈ T, e ∈ E) → Fa (fun a b : PRow => b.1 = a.1 ∧ Stk (V l) p a.2 b.2) (T.map pv) ((T.map fun e => (e.1, tb w fun j => V e.2 j - V e.2 p * V lead j)).map pv) := fun T => by
          induction T with
          | nil => exact fun _ => .nil
          | cons e T ih => exact fun hT => .cons ⟨rfl, stk e.2 (hE e (hT e (.head _))).2.1⟩ (ih fun x m => hT x (.tail _ m))
        have st := hI.step (by_ := V l) (rest := (L.eraseIdx i).map V) (c := 1 / V l p) (by
            rw [← hrow]
            exact List.mem_map.mpr ⟨_, List.getElem_mem hi, rfl⟩) (fun r m => by
            obtain ⟨z, mz, rfl⟩ := List.mem_map.mp m
            rcases List.mem_cons.mp (pm.mem_iff.mpr mz) with q | q
            · exact .inl (by rw [q])
            · exact .inr (List.mem_map.mpr ⟨z, q, rfl⟩)) (fun r m => by
            obtain ⟨z, mz, rfl⟩ := List.mem_map.mp m
            exact List.mem_map.mpr ⟨z, pm.mem_iff.mp (.tail _ mz), rfl⟩) b0 (by
            intro z
            have : (1 : Rat) = 1 / V l p * V l p := by grind
            rw [z] at this
            grind) (fl _ fun x m => pm.mem_iff.mp (.tail _ m)) (fd E fun _ m => m)
        have e1 : ((E.map fun e => (e.1, tb w fun j => V e.2 j - V e.2 p * V lead j)) ++ [(p, lead)]).map pv = ((E.map fun e => (e.1, tb w fun j => V e.2 j - V e.2 p * V lead j)).map pv) ++ [(p, fun j => 1 / V l p * V l j)] := by
          rw [List.map_append, List.map_cons, List.map_nil]
          congr 2
          unfold pv
          rw [Prod.mk.injEq]
          exact ⟨rfl, funext fun j => by rw [vl]; grind⟩
        rw [← e1] at st
        refine ⟨_, rfl, (L.eraseIdx i).map (fun r => tb w fun j => V r j - V r p * V lead j), (E.map fun e => (e.1, tb w fun j => V e.2 j - V e.2 p * V lead j)) ++ [(p, lead)], ?_, ?_, st, fun e m => ?_, fun r m => ?_, ?_⟩
        · show _ = List.map _ (List.map _ _)
          rw [List.map_map]
          rfl
        · show _ = List.map _ (List.map _ _)
          rw [List.map_append, List.map_append, List.map_map, List.map_map]
          rfl
        · rcases List.mem_append.mp m with m | m
          · obtain ⟨a, ma, rfl⟩ := List.mem_map.mp m
            have ha := hE a ma
            have al := hI.lt (pv a) (List.mem_map.mpr ⟨a, ma, rfl⟩)
            refine ⟨ha.1, (tk a.2 ha.2.1).2, ?_⟩
            show V (tb w fun j => V a.2 j - V a.2 p * V lead j) a.1 = 1
            rw [vt a.2 ha.2.1.len, ha.2.2, vl, van a.1 al]
            grind
          · cases List.mem_singleton.mp m
            exact ⟨hp, rl.mono km, lp⟩
        · obtain ⟨a, ma, rfl⟩ := List.mem_map.mp m
          exact (tk a (hL a (pm.mem_iff.mp (.tail _ ma)))).2
        · have : 0 < L.length := by omega
          simp only [List.length_append, List.length_map, List.length_cons, List.length_nil]
          omega)
  obtain ⟨s', e, L, E, e1, e2, hI, hE, hL, hN⟩ := main
  rw [e, Res.ok_bind, mapR_pure, Res.ok_bind, show s'.2.map (fun x => x) = s'.2 from List.map_id' _, e2]
  refine ⟨E, rfl, hI.red, fun a m => ⟨(hE a m).1, (hE a m).2.1.len, (hE a m).2.2⟩, hI.done fun r m j hj => ?_, by omega⟩
  obtain ⟨z, mz, rfl⟩ := List.mem_map.mp m
  exact V_ge (by rw [(hL z mz).len]; exact hj)
end MI.MT
namespace MI.MT
open PySem PySem.Spec PyProof.Rows L2 Evl PW
open MA
/-! ### texts of data -/
def Shw (N : Nat) (d : PyData) : Prop := d.showable = true ∧ d.hasDict = false ∧ d.shown.length ≤ N
theorem Shw.int {a : Int} (h : a.natAbs < 2 ^ 1900) : Shw 1901 (.int a) := by
  have hl : a.natAbs.log2 < 1900 := by
    by_cases h0 : a.natAbs = 0
    · rw [h0]
      decide
    · exact (Nat.log2_lt h0).mpr h
  refine ⟨by simp [PyData.showable]; omega, by simp [PyData.hasDict], ?_⟩
  rw [PyData.shown]
  have := PySem.int_text_length_le (k := 1900) (by decide) hl
  rw [PySem.ofString_length]
  exact this
theorem shw_all {N : Nat} : ∀ (ds : List PyData), (∀ d ∈ ds, Shw N d) → PyData.showableAll ds = true ∧ PyData.hasDictAll ds = false ∧ (PyData.shownAll ds).length = ds.length ∧ ((PyData.shownAll ds).map (·.length)).sum ≤ ds.length * N
  | [], _ => ⟨by simp [PyData.showableAll], by simp [PyData.hasDictAll], by simp [PyData.shownAll], by simp [PyData.shownAll]⟩
  | d :: ds, h => by
    obtain ⟨a, b, c⟩ := h d (.head _)
    obtain ⟨e, f, g, i⟩ := shw_all ds fun x m => h x (.tail _ m)
    refine ⟨by simp [PyData.showableAll, a, e], by simp [PyData.hasDictAll, b, f], by simp [PyData.shownAll, g], ?_⟩
    rw [PyData.shownAll, List.map_cons, List.sum_cons, List.length_cons, Nat.add_mul]
    omega
theorem piled_sum : ∀ ts : List Str, piled ts = (ts.map (·.length)).sum + 2 * ts.length
  | [] => rfl
  | t :: ts => by
    rw [piled_cons, piled_sum ts, List.map_cons, List.sum_cons, List.length_cons]
    omega
theorem Shw.tuple {N : Nat} {ds : List PyData} (h : ∀ d ∈ ds, Shw N d) : Shw (ds.length * N + 2 * ds.length + 3) (.tuple ds) := by
  obtain ⟨e, f, g, i⟩ := shw_all ds h
  refine ⟨by simp [PyData.showable, e], by simp [PyData.hasDict, f], ?_⟩
  rw [PyData.shown]
  have := PySem.fmt_text (PyData.shownAll ds)
  rw [piled_sum, g] at this
  omega
theorem Shw.list {N : Nat} {ds : List PyData} (h : ∀ d ∈ ds, Shw N d) : Shw (ds.length * N + 2 * ds.length + 3) (.list ds) := by
  obtain ⟨e, f, g, i⟩ := shw_all ds h
  refine ⟨by simp [PyData.showable, e], by simp [PyData.hasDict, f], ?_⟩
  rw [PyData.shown]
  have := PySem.listText_len_le (PyData.shownAll ds)
  rw [g] at this
  omega
theorem Shw.mono {N M : Nat} {d : PyData} (h : Shw N d) (e : N ≤ M) : Shw M d := ⟨h.1, h.2.1, Nat.le_trans h.2.2 e⟩
theorem reprR_ok {α : Type} {e : α → D} [Dat e] {x : α} (h : Shw 16000000 (Dat.p e x)) (hd : Dat.deep e < 40) : ∃ s, reprR e x = .ok s := by
  unfold reprR
  have := Dat.dpt (e := e) x
  rw [if_pos ⟨h.1, h.2.1, h.2.2, by omega⟩]
  exact ⟨_, rfl⟩
theorem reprInt_ok {a : Int} (h : a.natAbs < 2 ^ 1900) : ∃ s, reprR D.int a = .ok s := reprR_ok (e := D.int) ((Shw.int h).mono (by decide)) (by decide)
theorem reprRows_ok {T : List (List Rat)} (hl : T.length ≤ 5) (h : ∀ r ∈ T, r.length ≤ 5 ∧ ∀ q ∈ r, Fz 1900 q) : ∃ s, reprR (eL (eT (eP D.int D.int))) (mp T) = .ok s := by
  refine reprR_ok (e := eL (eT (eP D.int D.int))) ?_ (by decide)
  show Shw _ (PyData.list ((mp T).map fun r => PyData.tuple (r.map fun p => PyData.tuple [.int p.1, .int p.2])))
  have pair : ∀ q : Rat, Fz 1900 q → Shw 3809 (PyData.tuple [.int (lw q).1, .int (lw q).2]) := fun q hq => by
    have := Shw.tuple (N := 1901) (ds := [.int (lw q).1, .int (lw q).2]) fun d m => by
      rcases List.mem_cons.mp m with e | m
      · rw [e]; exact Shw.int hq.1
      · cases List.mem_singleton.mp m
        exact Shw.int (by show ((q.den : Int)).natAbs < _; rw [Int.natAbs_natCast]; exact hq.2)
    exact this.mono (by show 2 * 1901 + 2 * 2 + 3 ≤ 3809; decide)
  have row : ∀ r ∈ T, Shw 20000 (PyData.tuple ((r.map lw).map fun p => PyData.tuple [.int p.1, .int p.2])) := fun r m => by
    have := Shw.tuple (N := 3809) (ds := (r.map lw).map fun p => PyData.tuple [.int p.1, .int p.2]) fun d md => by
      rw [List.map_map] at md
      obtain ⟨q, mq, rfl⟩ := List.mem_map.mp md
      exact pair q ((h r m).2 q mq)
    refine this.mono ?_
    rw [List.length_map, List.length_map]
    have := (h r m).1
    omega
  have := Shw.list (N := 20000) (ds := (mp T).map fun r => PyData.tuple (r.map fun p => PyData.tuple [.int p.1, .int p.2])) fun d md => by
    rw [List.map_map] at md
    obtain ⟨r, mr, rfl⟩ := List.mem_map.mp md
    exact row r mr
  refine this.mono ?_
  rw [List.length_map, List.length_map]
  omega
/-! ### sums of products -/
def psum (f : Nat → Rat) : Nat → Rat
  | 0 => 0
  | n + 1 => psum f n + f n
theorem psum_add (f g : Nat → Rat) (n : Nat) : psum (fun j => f j + g j) n = psum f n + psum g n := by
  induction n with
  | zero => rw [psum, psum, psum]; grind
  | succ n ih => rw [psum, psum, psum, ih]; grind
theorem psum_mul (t : Rat) (f : Nat → Rat) (n : Nat) : psum (fun j => t * f j) n = t * psum f n := by
  induction n with
  | zero => rw [psum, psum]; grind
  | succ n ih => rw [psum, psum, ih]; grind
theorem psum_congr {f g : Nat → Rat} {n : Nat} (h : ∀ j, j < n → f j = g j) : psum f n = psum g n := by
  induction n with
  | zero => rfl
  | succ n ih => rw [psum, psum, ih fun j l => h j (Nat.lt_succ_of_lt l), h n (Nat.lt_succ_self n)]
theorem psum_one (p : Nat) (c : Rat) (n : Nat) : psum (fun j => if j = p then c else 0) n = if p < n then c else 0 := by
  induction n with
  | zero => rfl
  | succ n ih =>
    rw [psum, ih]
    by_cases h : n = p
    · subst h
      rw [if_neg (by omega), if_pos rfl, if_pos (by omega)]
      grind
    · rw [if_neg h]
      by_cases l : p < n
      · rw [if_pos l, if_pos (by omega)]
        grind
      · rw [if_neg l, if_neg (by omega)]
        grind
theorem fz_add {k l : Nat} {x y : Rat} (hx : Fz k x) (hy : Fz l y) : Fz (k + l + 1) (x + y) := by
  have hy' : Wh (x.den * y.den) (y.num.natAbs * x.den) y := by
    have := (wh_self y).up x.den
    rw [Nat.mul_comm x.den]
    exact this
  have e : (2 : Nat) ^ (k + l + 1) = 2 ^ k * 2 ^ l + 2 ^ k * 2 ^ l := by rw [Nat.pow_succ, Nat.pow_add]; omega
  refine fz_wh (Nat.mul_pos x.den_pos y.den_pos) (((wh_self x).up y.den).add hy') ?_ ?_
  · have := Nat.mul_lt_mul'' hx.2 hy.2
    omega
  · have h1 := Nat.mul_lt_mul'' hx.1 hy.2
    have h2 := Nat.mul_lt_mul'' hx.2 hy.1
    rw [Nat.mul_comm x.den] at h2
    omega
theorem fz_zero {k : Nat} (h : 1 ≤ k) : Fz k 0 := by
  have : (2 : Nat) ^ 1 ≤ 2 ^ k := Nat.pow_le_pow_right (by decide) h
  exact ⟨by show (0 : Nat) < _; omega, by show (1 : Nat) < _; omega⟩
theorem lw_0 : lw 0 = (0, 1) := rfl
theorem lw_1 : lw 1 = (1, 1) := rfl
theorem dot_ok {K k w : Nat} (hw : w ≤ 5) (hs : 5 * (K + k + 1) + 1 ≤ 8900) {u r : List Rat} (lu : u.length = w) (lr : r.length = w) (hu : ∀ j, Fz K (V u j)) (hr : ∀ j, Fz k (V r j)) :
    m__law_dot (u.map lw) (r.map lw) = .ok (lw (psum (fun j => V u j * V r j) w)) := by
  unfold m__law_dot
  have e : (((u.map lw).length : Nat) : Int) = (w : Int) := by rw [List.length_map, lu]
  rw [e, rngR_nat (by omega), Res.ok_bind]
  obtain ⟨s', e1, e2, _⟩ := foldR_rng (n := w) (s := ((0 : Int), (1 : Int)))
    (body := fun z8 st8 =>
    (ix (u.map lw) z8).bind fun x13 =>
  (ix (r.map lw) z8).bind fun x20 =>
  (m__law_times x13 x20).bind fun y25 =>
  (m__law_plus st8 y25).bind fun y26 =>
  Res.ok y26) (fun j st => st = lw (psum (fun j => V u j * V r j) j) ∧ Fz (j * (K + k + 1) + 1) (psum (fun j => V u j * V r j) j))
    ⟨rfl, by rw [Nat.zero_mul]; exact fz_zero (by omega)⟩ (fun j st hj ⟨hst, hf⟩ => by
      subst hst
      have j4 : j * (K + k + 1) ≤ 4 * (K + k + 1) := Nat.mul_le_mul_right _ (by omega)
      rw [ix_lw (by omega), Res.ok_bind, ix_lw (by omega), Res.ok_bind, times_ok (hu j) (hr j) (by omega), Res.ok_bind, plus_ok hf (fz_mul (hu j) (hr j)) (by omega), Res.ok_bind]
      refine ⟨_, rfl, rfl, ?_⟩
      have := fz_add hf (fz_mul (hu j) (hr j))
      rw [show (j + 1) * (K + k + 1) + 1 = j * (K + k + 1) + 1 + (K + k) + 1 by rw [Nat.add_mul]; omega]
      exact this)
  have e1' := e1
  rw [e1', Res.ok_bind, e2]
end MI.MT
namespace MI.MT
open PySem PySem.Spec PyProof.Rows L2 Evl PW
open MA
/-! ### a solution or a clash -/
theorem psum_zero (n : Nat) : psum (fun _ => 0) n = 0 := by
  induction n with
  | zero => rfl
  | succ n ih => rw [psum, ih]; grind
theorem spn_psum {S : List MA.Row} (x : Nat → Rat) (g : Nat → MA.Row) : ∀ n, (∀ i, i < n → Spn S (g i)) → Spn S fun k => psum (fun i => x i * g i k) n
  | 0, _ => Spn.zero.cast fun _ => rfl
  | n + 1, h => ((spn_psum x g n fun i l => h i (Nat.lt_succ_of_lt l)).plus ((h n (Nat.lt_succ_self n)).times (x n))).cast fun k => rfl
/-- a row of the span, by numbers -/
theorem spn_coef {S : List MA.Row} {v : MA.Row} (h : Spn S v) : ∃ y : Nat → Rat, ∀ j, v j = psum (fun i => y i * (S[i]?.getD fun _ => 0) j) S.length := by
  induction h with
  | zero => exact ⟨fun _ => 0, fun j => by rw [psum_congr (g := fun _ => 0) fun i _ => by grind, psum_zero]⟩
  | @add v s t _ m ih =>
    obtain ⟨y, hy⟩ := ih
    obtain ⟨i0, hi, e⟩ := List.mem_iff_getElem.mp m
    refine ⟨fun i => y i + if i = i0 then t else 0, fun j => ?_⟩
    rw [psum_congr (g := fun i => y i * (S[i]?.getD fun _ => 0) j + if i = i0 then t * s j else 0) fun i _ => ?_, psum_add, psum_one, if_pos hi, ← hy]
    dsimp only
    by_cases q : i = i0
    · subst q
      rw [if_pos rfl, if_pos rfl, List.getElem?_eq_getElem hi, e]
      show (y i + t) * s j = y i * s j + t * s j
      grind
    · rw [if_neg q, if_neg q]
      grind
/-- a row with one number more -/
def ext (w : Nat) (r : MA.Row) (b : Rat) : MA.Row := fun j => if j < w then r j else if j = w then b else 0
def last (w : Nat) : MA.Row := fun j => if j = w then 1 else 0
theorem last_red (w : Nat) : Red [(w, last w)] := by
  refine ⟨List.pairwise_singleton _ _, fun a m => ?_, fun a m k l => ?_, fun a m b n ne => ?_⟩
  · cases List.mem_singleton.mp m
    show (if w = w then (1 : Rat) else 0) ≠ 0
    rw [if_pos rfl]
    decide
  · cases List.mem_singleton.mp m
    exact if_neg (by show ¬ k = w; have : k < w := l; omega)
  · cases List.mem_singleton.mp m
    cases List.mem_singleton.mp n
    exact absurd rfl ne
/-- the last place is a row's own iff (0 … 0 1) is in the span -/
theorem last_place {w : Nat} {E : List PRow} (hE : Red E) (hz : ∀ a ∈ E, ∀ k, w < k → a.2 k = 0) : (∃ a ∈ E, a.1 = w) ↔ Spn (rows E) (last w) := by
  constructor
  · rintro ⟨a, m, e⟩
    have h0 := hE.one a m
    rw [e] at h0
    refine ((Spn.mem (List.mem_map.mpr ⟨a, m, rfl⟩)).times (1 / a.2 w)).cast fun j => ?_
    unfold last
    by_cases q : j = w
    · subst q
      rw [if_pos rfl]
      grind
    · rw [if_neg q]
      by_cases l : j < w
      · rw [hE.low a m j (by omega)]
        grind
      · rw [hz a m j (by omega)]
        grind
  · intro h
    obtain ⟨b, mb, e⟩ := (last_red w).places hE (fun v k => Spn.trans (fun s m => by
      cases List.mem_singleton.mp m
      exact h) k) (List.mem_singleton.mpr rfl)
    exact ⟨b, mb, e⟩
/-- what a solution says of the span -/
theorem sol_span {w : Nat} {L : List MA.Row} {x : Nat → Rat} (h : ∀ s ∈ L, psum (fun j => x j * s j) w = s w) {v : MA.Row} (k : Spn L v) : psum (fun j => x j * v j) w = v w := by
  have := Spn.lin (S := L) (f := fun v => psum (fun j => x j * v j) w - v w) (by
      show psum (fun j => x j * 0) w - 0 = 0
      rw [psum_congr (g := fun _ => 0) fun i _ => by grind, psum_zero]
      grind) (fun v s t => by
      show psum (fun j => x j * (v j + t * s j)) w - (v w + t * s w) = _
      rw [psum_congr (g := fun j => x j * v j + t * (x j * s j)) fun j _ => by grind, psum_add, psum_mul]
      grind) (fun s m => by
      show psum (fun j => x j * s j) w - s w = 0
      rw [h s m]
      grind) k
  have h2 : psum (fun j => x j * v j) w - v w = 0 := this
  grind
theorem sol_no_last {w : Nat} {L : List MA.Row} {x : Nat → Rat} (h : ∀ s ∈ L, psum (fun j => x j * s j) w = s w) : ¬ Spn L (last w) := fun k => by
  have := sol_span h k
  unfold last at this
  rw [if_pos rfl, psum_congr (g := fun _ => 0) fun j l => by rw [if_neg (by omega)]; grind, psum_zero] at this
  exact absurd this (by decide)
/-- the numbers behind a clash -/
theorem last_coef {w : Nat} {L : List MA.Row} (k : Spn L (last w)) : ∃ y : Nat → Rat, (∀ j, j < w → psum (fun i => y i * (L[i]?.getD fun _ => 0) j) L.length = 0) ∧ psum (fun i => y i * (L[i]?.getD fun _ => 0) w) L.length = 1 := by
  obtain ⟨y, h⟩ := spn_coef k
  refine ⟨y, fun j l => ?_, ?_⟩
  · rw [← h]
    exact if_neg (by omega)
  · rw [← h]
    exact if_pos rfl
/-- the numbers at the places are a solution where the last place is none -/
theorem sol_of_red {w : Nat} {E : List PRow} (hE : Red E) (hw : ∀ a ∈ E, a.1 < w) {u : Nat → Rat} (hp : ∀ a ∈ E, u a.1 = a.2 w / a.2 a.1) (h0 : ∀ j, (∀ a ∈ E, a.1 ≠ j) → u j = 0) : ∀ s ∈ rows E, psum (fun j => u j * s j) w = s w := fun s m => by
  obtain ⟨a, ma, rfl⟩ := List.mem_map.mp m
  have one := hE.one a ma
  rw [psum_congr (g := fun j => if j = a.1 then a.2 w else 0) fun j _ => ?_, psum_one, if_pos (hw a ma)]
  by_cases q : j = a.1
  · subst q
    rw [if_pos rfl, hp a ma]
    grind
  · rw [if_neg q]
    by_cases z : ∃ b ∈ E, b.1 = j
    · obtain ⟨b, mb, e⟩ := z
      rw [← e, hE.off a ma b mb (by omega)]
      grind
    · rw [h0 j fun b mb e => z ⟨b, mb, e⟩]
      grind
/-- the rows without their last number -/
def cutw (w : Nat) (v : MA.Row) : MA.Row := fun j => if j < w then v j else 0
theorem cut_span {w : Nat} {S : List MA.Row} {v : MA.Row} (h : Spn S v) : Spn (S.map (cutw w)) (cutw w v) := by
  induction h with
  | zero => exact Spn.zero.cast fun j => by unfold cutw; split <;> rfl
  | @add v s t _ m ih =>
    refine (Spn.add t ih (List.mem_map.mpr ⟨s, m, rfl⟩)).cast fun j => ?_
    unfold cutw
    split
    · rfl
    · grind
theorem cut_eqs {w : Nat} {S T : List MA.Row} (h : Eqs S T) : Eqs (S.map (cutw w)) (T.map (cutw w)) :=
  Eqs.of (fun s m => by
    obtain ⟨r, mr, rfl⟩ := List.mem_map.mp m
    exact cut_span ((h _).mp (Spn.mem mr))) fun s m => by
    obtain ⟨r, mr, rfl⟩ := List.mem_map.mp m
    exact cut_span ((h _).mpr (Spn.mem mr))
theorem cut_red {w : Nat} {E : List PRow} (hE : Red E) (hw : ∀ a ∈ E, a.1 < w) : Red (E.map fun a => (a.1, cutw w a.2)) := by
  refine ⟨List.pairwise_map.mpr (hE.up.imp fun h => h), fun b m => ?_, fun b m k l => ?_, fun b m c n ne => ?_⟩
  · obtain ⟨a, ma, rfl⟩ := List.mem_map.mp m
    show (if a.1 < w then a.2 a.1 else 0) ≠ 0
    rw [if_pos (hw a ma)]
    exact hE.one a ma
  · obtain ⟨a, ma, rfl⟩ := List.mem_map.mp m
    show (if k < w then a.2 k else 0) = 0
    rw [hE.low a ma k l]
    split <;> rfl
  · obtain ⟨a, ma, rfl⟩ := List.mem_map.mp m
    obtain ⟨d, md, rfl⟩ := List.mem_map.mp n
    show (if d.1 < w then a.2 d.1 else 0) = 0
    rw [hE.off a ma d md ne]
    split <;> rfl
end MI.MT
namespace MI.MT
open PySem PySem.Spec PyProof.Rows L2 Evl PW
open MA
/-! ### the program's solution -/
theorem V_set' {r : List Rat} {i : Nat} (h : i < r.length) (x : Rat) (j : Nat) : V (r.set i x) j = if j = i then x else V r j := by
  unfold V
  rw [List.getElem?_set]
  by_cases e : i = j
  · subst e
    rw [if_pos rfl, if_pos rfl, if_pos h]
    rfl
  · rw [if_neg e, if_neg fun z => e z.symm]
theorem fz_div' {K : Nat} {a b : Int} (ha : a.natAbs < 2 ^ K) (hb : b.natAbs < 2 ^ K) (b0 : b ≠ 0) : Fz K ((a : Rat) / (b : Rat)) := by
  have n0 := cast_ne b0
  rcases (show (b.natAbs : Int) = b ∨ (b.natAbs : Int) = -b by omega) with h | h
  · refine fz_wh (D := b.natAbs) (M := a.natAbs) (by omega) ⟨a, ?_, Nat.le_refl _⟩ hb ha
    have : ((b.natAbs : Nat) : Rat) = (b : Rat) := congrArg (fun z : Int => (z : Rat)) h
    rw [this]
    grind
  · refine fz_wh (D := b.natAbs) (M := a.natAbs) (by omega) ⟨-a, ?_, by omega⟩ hb ha
    have : ((b.natAbs : Nat) : Rat) = -(b : Rat) := by
      have := congrArg (fun z : Int => (z : Rat)) h
      rw [Rat.intCast_neg] at this
      exact this
    rw [this, Rat.intCast_neg]
    grind
/-- the numbers at the places, 0 elsewhere -/
structure Sol (w K : Nat) (done : List (Int × List Int)) (u : List Rat) : Prop where
  len : u.length = w
  at_ : ∀ j, (∀ d ∈ done, (pr d).1 ≠ j) → V u j = 0
  pv : ∀ d ∈ done, V u (pr d).1 = (pr d).2 w / (pr d).2 (pr d).1
  fz : ∀ j, Fz K (V u j)
theorem zeros_ok {w : Nat} (hw : w ≤ 1000) : repLR [((0 : Int), (1 : Int))] (w : Int) = .ok ((List.replicate w (0 : Rat)).map lw) := by
  unfold repLR
  rw [if_pos ⟨by omega, by omega, by simp; omega⟩, show ((w : Int)).toNat = w by omega, List.map_replicate]
  congr 1
  induction w with
  | zero => rfl
  | succ w ih =>
    rw [List.replicate_succ, List.flatten_cons, ih (by omega), List.replicate_succ]
    rfl
theorem solution_from_ok {w K : Nat} (hw : w ≤ 5) (hK : K ≤ 8900) (K1 : 1 ≤ K) {done : List (Int × List Int)} (hD : ∀ d ∈ done, Dn (w + 1) K d) (hR : Red (done.map pr)) :
    ((∃ a ∈ done.map pr, a.1 = w) ∧ m_solution_from (w : Int) done = .ok none) ∨ ((∀ a ∈ done.map pr, a.1 < w) ∧ ∃ u, m_solution_from (w : Int) done = .ok (some (u.map lw)) ∧ Sol w K done u) := by
  unfold m_solution_from
  rw [zeros_ok (by omega), Res.ok_bind]
  suffices hs : ∀ (T : List (Int × List Int)) (v : List Rat), (∀ d ∈ T, Dn (w + 1) K d) → Red (T.map pr) → v.length = w → (∀ j, Fz K (V v j)) →
      ((∃ a ∈ T.map pr, a.1 = w) ∧ loopC (fun (z9 : Int × List Int) (st9 : List (Int × Int)) =>
    if (decide (z9.1 = (w : Int))) = true then
    Res.ok (Ctl.rt (none : Option (List (Int × Int))))
  else
    (ix z9.2 (w : Int)).bind fun x15 =>
  (ix z9.2 z9.1).bind fun x22 =>
  (m_number x15 x22).bind fun y27 =>
  (setR st9 z9.1 y27).bind fun x29 =>
  Res.ok (Ctl.nx x29)) T (v.map lw) = .ok (.rt none)) ∨
      ((∀ a ∈ T.map pr, a.1 < w) ∧ ∃ u : List Rat, loopC (fun (z9 : Int × List Int) (st9 : List (Int × Int)) =>
    if (decide (z9.1 = (w : Int))) = true then
    Res.ok (Ctl.rt (none : Option (List (Int × Int))))
  else
    (ix z9.2 (w : Int)).bind fun x15 =>
  (ix z9.2 z9.1).bind fun x22 =>
  (m_number x15 x22).bind fun y27 =>
  (setR st9 z9.1 y27).bind fun x29 =>
  Res.ok (Ctl.nx x29)) T (v.map lw) = .ok (.nx (u.map lw)) ∧ u.length = w ∧ (∀ j, (∀ d ∈ T, (pr d).1 ≠ j) → V u j = V v j) ∧ (∀ d ∈ T, V u (pr d).1 = (pr d).2 w / (pr d).2 (pr d).1) ∧ ∀ j, Fz K (V u j)) by
    have v0 : ∀ j, V (List.replicate w (0 : Rat)) j = 0 := fun j => by
      by_cases h : j < w
      · rw [V_lt (by rw [List.length_replicate]; exact h), List.getElem_replicate]
      · rw [V_ge (by rw [List.length_replicate]; omega)]
    rcases hs done (List.replicate w 0) hD hR List.length_replicate fun j => by rw [v0]; exact fz_zero K1 with ⟨a, e⟩ | ⟨a, u, e, l, b, p, z⟩
    · exact .inl ⟨a, by rw [e]; rfl⟩
    · exact .inr ⟨a, u, by rw [e]; rfl, l, fun j hj => by rw [b j hj, v0], p, z⟩
  intro T
  induction T with
  | nil => exact fun v _ _ l z => .inr ⟨fun _ m => (nomatch m), v, rfl, l, fun _ _ => rfl, fun _ m => (nomatch m), z⟩
  | cons d T ih =>
    intro v hT hR lv hv
    obtain ⟨q, e, hq, l, b⟩ := hT d (.head _)
    have one := hR.one (pr d) (.head _)
    have prd : pr d = (q, VI d.2) := by
      unfold pr
      rw [e, show ((q : Int)).toNat = q by omega]
    by_cases qw : q = w
    · subst qw
      refine .inl ⟨⟨pr d, .head _, by rw [prd]⟩, ?_⟩
      show Res.bind (if decide (d.1 = (q : Int)) = true then _ else _) _ = _
      rw [if_pos (decide_eq_true e)]
      rfl
    · have qlt : q < w := by omega
      rw [prd] at one
      have hq' : q < d.2.length := by omega
      have hw' : w < d.2.length := by omega
      dsimp only at one
      rw [VI_lt hq'] at one
      have m0 : d.2[q] ≠ 0 := fun z => one (by rw [z]; rfl)
      have bq := b _ (List.getElem_mem hq')
      have bw := b _ (List.getElem_mem hw')
      have val : (((d.2[w] : Int) : Rat) / ((d.2[q] : Int) : Rat)) = (pr d).2 w / (pr d).2 (pr d).1 := by
        rw [prd]
        dsimp only
        rw [VI_lt hq', VI_lt hw']
      have es : setR (v.map lw) (q : Int) (lw (((d.2[w] : Int) : Rat) / ((d.2[q] : Int) : Rat))) = .ok ((v.set q ((pr d).2 w / (pr d).2 (pr d).1)).map lw) := by
        unfold setR
        rw [ixN_nat (by rw [List.length_map]; omega), val]
        exact congrArg Res.ok (List.map_set).symm
      have first : ∀ (k : Ctl (List (Int × Int)) (Option (List (Int × Int))) → Res (Ctl (List (Int × Int)) (Option (List (Int × Int))))), Res.bind (if decide (d.1 = (w : Int)) = true then Res.ok (Ctl.rt none) else (ix d.2 (w : Int)).bind fun x15 => (ix d.2 d.1).bind fun x22 => (m_number x15 x22).bind fun y27 => (setR (v.map lw) d.1 y27).bind fun x29 => Res.ok (Ctl.nx x29)) k = k (.nx ((v.set q ((pr d).2 w / (pr d).2 (pr d).1)).map lw)) := fun k => by
        rw [if_neg (show ¬ decide (d.1 = (w : Int)) = true from fun z => by have := of_decide_eq_true z; omega), ix_nat hw', Res.ok_bind, e, ix_nat hq', Res.ok_bind, number_ok m0 (Sm.of bq hK), Res.ok_bind, es, Res.ok_bind, Res.ok_bind]
      rcases ih (v.set q ((pr d).2 w / (pr d).2 (pr d).1)) (fun x m => hT x (.tail _ m)) hR.tail (by rw [List.length_set]; exact lv) fun j => by
          rw [V_set' (by omega)]
          split
          · rw [← val]
            exact fz_div' bw bq m0
          · exact hv j with ⟨⟨a, ma, ea⟩, e2⟩ | ⟨a, u, eu, lu, b2, p, z⟩
      · refine .inl ⟨⟨a, .tail _ ma, ea⟩, ?_⟩
        exact (first _).trans e2
      · refine .inr ⟨fun x m => ?_, u, (first _).trans eu, lu, fun j hj => ?_, fun x m => ?_, z⟩
        · rw [List.map_cons] at m
          cases m with
          | head => rw [prd]; exact qlt
          | tail _ m => exact a x m
        · rw [b2 j fun x m => hj x (.tail _ m), V_set' (by omega), if_neg]
          intro z
          exact hj d (.head _) (by rw [prd]; exact z.symm)
        · cases m with
          | head =>
            have up := (List.pairwise_cons.mp hR.up).1
            rw [b2 _ fun x m => by have := up (pr x) (List.mem_map.mpr ⟨x, m, rfl⟩); omega, V_set' (by omega), if_pos (by rw [prd])]
          | tail _ m => exact p x m
end MI.MT
namespace MI.MT
open PySem PySem.Spec PyProof.Rows L2 Evl PW
open MA
/-- the rows with the wanted numbers behind them -/
def longer (R : List (List Rat)) (b : List Rat) : List (List Rat) := (R.zip b).map fun p => p.1 ++ [p.2]
theorem longer_map (R : List (List Rat)) (b : List Rat) : List.zip (mp R) (b.map lw) = (R.zip b).map fun p => (p.1.map lw, lw p.2) := by
  induction R generalizing b with
  | nil => rfl
  | cons r R ih =>
    cases b with
    | nil => rfl
    | cons x b =>
      show (r.map lw, lw x) :: List.zip (mp R) (b.map lw) = _
      rw [ih]
      rfl
theorem red_len {w : Nat} {E : List PRow} (hE : Red E) (h : ∀ a ∈ E, a.1 < w) : E.length ≤ w := by
  have nd : (E.map (·.1)).Nodup := (List.pairwise_map.mpr hE.up).imp fun h => Nat.ne_of_lt h
  have := nd.length_le_of_subset (List.subset_def.mpr fun {x} (m : x ∈ E.map (·.1)) => by
    obtain ⟨a, ma, rfl⟩ := List.mem_map.mp m
    exact List.mem_range.mpr (h a ma) : E.map (·.1) ⊆ List.range w)
  rw [List.length_map, List.length_range] at this
  exact this
theorem solution_or_none_ok {w k : Nat} (hw : w ≤ 5) (k1 : 1 ≤ k) (hk : kk k (w + 1) ≤ 8900) {R : List (List Rat)} {b : List Rat} (hl : R.length ≤ 1000) (h : ∀ r ∈ longer R b, Rw k (w + 1) r) :
    ∃ done : List (Int × List Int), Red (done.map pr) ∧ (∀ d ∈ done, Dn (w + 1) (kk k (w + 1)) d) ∧ Eqs ((longer R b).map V) (MA.rows (done.map pr)) ∧
      (((∃ a ∈ done.map pr, a.1 = w) ∧ m_solution_or_none (w : Int) (mp R) (b.map lw) = .ok none) ∨ ((∀ a ∈ done.map pr, a.1 < w) ∧ ∃ u, m_solution_or_none (w : Int) (mp R) (b.map lw) = .ok (some (u.map lw)) ∧ Sol w (kk k w) done u)) := by
  have hk0 : k ≤ kk k (w + 1) := by
    have := kk_le (k := k) (Nat.zero_le (w + 1))
    rw [kk_0] at this
    exact this
  obtain ⟨zs, ez, fz⟩ : ∃ zs, mapR (fun (z8 : List (Int × Int) × (Int × Int)) => (catR z8.1 [z8.2]).bind fun x14 => (m_cleared x14).bind fun y17 => Res.ok y17) (List.zip (mp R) (b.map lw)) = .ok zs ∧ Fa (fun (p : List Rat × Rat) z => Lf (w + 1) k z ∧ ∃ t : Rat, t ≠ 0 ∧ ∀ j, VI z j = t * V (p.1 ++ [p.2]) j) (R.zip b) zs := by
    rw [longer_map, mapR_map]
    exact mapR_fa fun p m => by
      obtain ⟨D, M, x, y, z, s⟩ := h _ (List.mem_map.mpr ⟨p, m, rfl⟩)
      obtain ⟨v, t, e, t0, ev, l, bz⟩ := cleared_ok s x y z (by omega)
      refine ⟨v, ?_, ⟨l, bz⟩, t, t0, ev⟩
      have hc : catR (p.1.map lw) [lw p.2] = .ok ((p.1 ++ [p.2]).map lw) := by
        unfold catR
        have := s.1
        rw [List.length_append, List.length_cons, List.length_nil] at this
        rw [if_pos (by rw [List.length_map]; show p.1.length + 1 ≤ _; omega), List.map_append]
        rfl
      dsimp only
      rw [hc, Res.ok_bind, e]
      rfl
  have hz : ∀ z ∈ zs, Lf (w + 1) k z := fun z m => by
    obtain ⟨_, _, q, _⟩ := fz.right m
    exact q
  have lz : zs.length ≤ 1000 := by
    rw [← fz.len, List.length_zip]
    omega
  obtain ⟨done, ed, hR, hlen, hD', hE⟩ := whole_few (w := w + 1) (k := k) (by omega) hk lz hz
  have hD : ∀ d ∈ done, Dn (w + 1) (kk k (w + 1)) d := fun d m => by
    obtain ⟨q, x, y, z, u⟩ := hD' d m
    exact ⟨q, x, y, z, u.mono (kk_le hlen)⟩
  have e0 : Eqs ((longer R b).map V) (zs.map VI) := by
    unfold longer
    rw [List.map_map]
    exact eqs_scale (fa_map (fz.imp fun _ _ q => q.2))
  refine ⟨done, hR, hD, e0.trans hE, ?_⟩
  have hK1 : 1 ≤ kk k done.length := by
    have := kk_le (k := k) (Nat.zero_le done.length)
    rw [kk_0] at this
    omega
  have un : m_solution_or_none (w : Int) (mp R) (b.map lw) = (m_solution_from (w : Int) done).bind fun y24 => Res.ok y24 := by
    unfold m_solution_or_none
    rw [ez, Res.ok_bind, show (w : Int) + (1 : Int) = ((w + 1 : Nat) : Int) by omega, ed, Res.ok_bind]
  rcases solution_from_ok hw (Nat.le_trans (kk_le hlen) hk) hK1 hD' hR with ⟨a, e⟩ | ⟨a, u, e, s⟩
  · exact .inl ⟨a, by rw [un, e]; rfl⟩
  · have := red_len hR a
    rw [List.length_map] at this
    exact .inr ⟨a, u, by rw [un, e]; rfl, s.len, s.at_, s.pv, fun j => (s.fz j).mono (kk_le this)⟩
theorem V_app {r : List Rat} {x : Rat} {w : Nat} (h : r.length = w) : V (r ++ [x]) = ext w (V r) x := by
  funext j
  unfold ext
  by_cases l : j < w
  · rw [if_pos l]
    unfold V
    rw [List.getElem?_append_left (by omega)]
  · rw [if_neg l]
    by_cases e : j = w
    · subst e
      rw [if_pos rfl]
      unfold V
      rw [List.getElem?_append_right (by omega), h, Nat.sub_self]
      rfl
    · rw [if_neg e, V_ge (by rw [List.length_append]; show r.length + 1 ≤ j; omega)]
/-- what the program finds: a solution, or that there is none -/
theorem found_ok {w k : Nat} (hw : w ≤ 5) (k1 : 1 ≤ k) (hk : kk k (w + 1) ≤ 8900) {R : List (List Rat)} {b : List Rat} (hl : R.length ≤ 1000) (hb : b.length = R.length) (hr : ∀ r ∈ R, r.length = w) (h : ∀ r ∈ longer R b, Rw k (w + 1) r) :
    (Spn ((longer R b).map V) (last w) ∧ m_solution_or_none (w : Int) (mp R) (b.map lw) = .ok none) ∨
      (¬ Spn ((longer R b).map V) (last w) ∧ ∃ (u : List Rat) (E : List PRow), m_solution_or_none (w : Int) (mp R) (b.map lw) = .ok (some (u.map lw)) ∧ u.length = w ∧ (∀ j, Fz (kk k w) (V u j)) ∧
        (∀ s ∈ (longer R b).map V, psum (fun j => V u j * s j) w = s w) ∧ Red E ∧ (∀ a ∈ E, a.1 < w) ∧ Eqs ((longer R b).map V) (MA.rows E) ∧ ∀ j, (∀ a ∈ E, a.1 ≠ j) → V u j = 0) := by
  obtain ⟨done, hR, hD, hE, hc⟩ := solution_or_none_ok hw k1 hk hl h
  have hz : ∀ a ∈ done.map pr, ∀ j, w < j → a.2 j = 0 := fun a m j l => by
    obtain ⟨d, md, rfl⟩ := List.mem_map.mp m
    obtain ⟨q, _, _, ld, _⟩ := hD d md
    exact VI_ge (by omega)
  have lp := last_place hR hz
  rcases hc with ⟨a, e⟩ | ⟨a, u, e, s⟩
  · exact .inl ⟨(hE _).mpr (lp.mp a), e⟩
  · have no : ¬ Spn ((longer R b).map V) (last w) := fun z => by
      obtain ⟨x, mx, ex⟩ := lp.mpr ((hE _).mp z)
      have := a x mx
      omega
    have hp : ∀ x ∈ done.map pr, V u x.1 = x.2 w / x.2 x.1 := fun x mx => by
      obtain ⟨d, md, rfl⟩ := List.mem_map.mp mx
      exact s.pv d md
    have h0 : ∀ j, (∀ x ∈ done.map pr, x.1 ≠ j) → V u j = 0 := fun j hj => s.at_ j fun d md => hj _ (List.mem_map.mpr ⟨d, md, rfl⟩)
    have so := sol_of_red hR a hp h0
    exact .inr ⟨no, u, done.map pr, e, s.len, s.fz, fun v mv => sol_span so ((hE _).mp (Spn.mem mv)), hR, a, hE, h0⟩
end MI.MT
namespace MI.MT
open PySem PySem.Spec PyProof.Rows L2 Evl PW
open MA
/-! ### what is told -/
def tA : Str := Str.ofString "![1, 0]"
def tM : Str := Str.ofString "![0, 1]"
theorem text_ok (x y : Int) (t : Str) (h1 : (Dat.p (eL D.int) [x, y]).showable = true) (h2 : (Dat.p (eL D.int) [x, y]).hasDict = false) (h3 : (Dat.p (eL D.int) [x, y]).shown.length ≤ 16000000) (h4 : (Dat.p (eL D.int) [x, y]).depth < 40)
    (h5 : (Str.ofString "!").length + (Dat.p (eL D.int) [x, y]).shown.length ≤ 16000000) (e : Str.ofString "!" ++ (Dat.p (eL D.int) [x, y]).shown = t) :
    ((reprR (eL D.int) [x, y]).bind fun x18 => (catS (Str.ofString "!") x18).bind fun x21 => Res.ok (Sum.inr x21 : List (Int × Int) ⊕ Str)) = .ok (.inr t) := by
  unfold reprR
  rw [if_pos ⟨h1, h2, h3, h4⟩, Res.ok_bind]
  unfold catS
  rw [if_pos h5, Res.ok_bind, e]
theorem text_A : ((reprR (eL D.int) [1, 0]).bind fun x18 => (catS (Str.ofString "!") x18).bind fun x21 => Res.ok (Sum.inr x21 : List (Int × Int) ⊕ Str)) = .ok (.inr tA) :=
  text_ok 1 0 tA (by decide +kernel) (by decide +kernel) (by decide +kernel) (by decide +kernel) (by decide +kernel) (by decide +kernel)
theorem text_M : ((reprR (eL D.int) [0, 1]).bind fun x18 => (catS (Str.ofString "!") x18).bind fun x21 => Res.ok (Sum.inr x21 : List (Int × Int) ⊕ Str)) = .ok (.inr tM) :=
  text_ok 0 1 tM (by decide +kernel) (by decide +kernel) (by decide +kernel) (by decide +kernel) (by decide +kernel) (by decide +kernel)
/-- what the two defs answer is told -/
theorem told_of {way : Nat} {w : Int} {R : List (List (Int × Int))} {b : List (Int × Int)} {r : Res (List (Int × Int))} (h : (way = 0 ∧ m_solution w R b = r) ∨ (way = 1 ∧ m_clash w R b = r)) :
    (∀ u, r = .ok u → m__law_told (way : Int) w R b = .ok (.inl u)) ∧ (r = .exc .NoAnswer → m__law_told (way : Int) w R b = .ok (.inr tA)) ∧ (r = .exc .NotMatrix → m__law_told (way : Int) w R b = .ok (.inr tM)) := by
  have e : m__law_told (way : Int) w R b = tryC live_PlaneError (r.bind fun y14 => Res.ok (Sum.inl y14)) (fun ex1 =>
  (reprR (eL D.int) [(if (is_NoAnswer ex1) = true then 1 else 0 : Int), (if (is_NotMatrix ex1) = true then 1 else 0 : Int)]).bind fun x18 =>
  (catS (Str.ofString "!") x18).bind fun x21 =>
  Res.ok (Sum.inr x21)) := by
    unfold m__law_told
    rcases h with ⟨rfl, h⟩ | ⟨rfl, h⟩
    · rw [ix_nat (by decide), Res.ok_bind]
      show tryC _ ((m_solution w R b).bind _) _ = _
      rw [h]
    · rw [ix_nat (by decide), Res.ok_bind]
      show tryC _ ((m_clash w R b).bind _) _ = _
      rw [h]
  rw [e]
  refine ⟨fun u hu => by rw [hu]; rfl, fun hu => ?_, fun hu => ?_⟩
  · rw [hu]
    exact text_A
  · rw [hu]
    exact text_M
theorem wanted_ok {R : List (List Rat)} {b : List Rat} (h : b.length = R.length) : m_check_wanted (mp R) (b.map lw) = .ok () := by
  unfold m_check_wanted
  have e : (((mp R).length : Nat) : Int) = (R.length : Int) := by rw [List.length_map]
  rw [e, row_ok h]
  rfl
theorem solution_ok {w k : Nat} (hw : w ≤ 5) (k1 : 1 ≤ k) (hk : kk k (w + 1) ≤ 8900) {R : List (List Rat)} {b : List Rat} (hl : R.length ≤ 64) (hb : b.length = R.length) (hr : ∀ r ∈ R, r.length = w) (h : ∀ r ∈ longer R b, Rw k (w + 1) r) :
    (Spn ((longer R b).map V) (last w) ∧ m_solution (w : Int) (mp R) (b.map lw) = .exc .NoAnswer) ∨
      (¬ Spn ((longer R b).map V) (last w) ∧ ∃ (u : List Rat) (E : List PRow), m_solution (w : Int) (mp R) (b.map lw) = .ok (u.map lw) ∧ u.length = w ∧ (∀ j, Fz (kk k w) (V u j)) ∧
        (∀ s ∈ (longer R b).map V, psum (fun j => V u j * s j) w = s w) ∧ Red E ∧ (∀ a ∈ E, a.1 < w) ∧ Eqs ((longer R b).map V) (MA.rows E) ∧ ∀ j, (∀ a ∈ E, a.1 ≠ j) → V u j = 0) := by
  have e : m_solution (w : Int) (mp R) (b.map lw) = (m_solution_or_none (w : Int) (mp R) (b.map lw)).bind fun y13 => if y13.isNone = true then Res.exc .NoAnswer else (getO y13).bind fun y21 => Res.ok y21 := by
    unfold m_solution
    rw [check_ok (by omega) hl hr, Res.ok_bind, wanted_ok hb, Res.ok_bind]
  rcases found_ok hw k1 hk (by omega) hb hr h with ⟨a, f⟩ | ⟨a, u, E, f, p⟩
  · exact .inl ⟨a, by rw [e, f]; rfl⟩
  · exact .inr ⟨a, u, E, by rw [e, f]; rfl, p⟩
end MI.MT
namespace MI.MT
open PySem PySem.Spec PyProof.Rows L2 Evl PW
open MA
/-! ### the clash: the turned system -/
def turn (R : List (List Rat)) (w : Nat) : List (List Rat) := (List.range w).map fun j => R.map fun r => V r j
theorem turn_ok {R : List (List Rat)} {w : Nat} (h : ∀ r ∈ R, r.length = w) :
    mapR (fun z47 => (mapR (fun z51 => (ix z51 z47).bind fun x54 => Res.ok x54) (mp R)).bind fun bs51 => Res.ok bs51) (rng 0 (w : Int)) = .ok (mp (turn R w)) := by
  rw [mapR_rng (g := fun j => (R.map fun r => V r j).map lw) fun j hj => by
    rw [mapR_map, mapR_ok (g := fun r => lw (V r j)) (fun r m => by
      rw [ix_lw (by rw [h r m]; exact hj)]
      rfl), Res.ok_bind, List.map_map]
    rfl]
  unfold turn
  show _ = Res.ok (List.map _ (List.map _ _))
  rw [List.map_map]
  rfl
theorem turn_len {R : List (List Rat)} {w : Nat} : (turn R w).length = w := by
  unfold turn
  rw [List.length_map, List.length_range]
theorem turn_row {R : List (List Rat)} {w : Nat} : ∀ r ∈ turn R w, r.length = R.length := fun r m => by
  obtain ⟨j, _, rfl⟩ := List.mem_map.mp m
  rw [List.length_map]
def one_at (w : Nat) : List Rat := tb (w + 1) fun j => if j = w then 1 else 0
theorem unit_ok' {w : Nat} (hw : w ≤ 1000) : m_unit_row ((w : Int) + (1 : Int)) (w : Int) = .ok ((one_at w).map lw) := by
  unfold m_unit_row
  rw [show (w : Int) + (1 : Int) = ((w + 1 : Nat) : Int) by omega, rngL_nat (by omega), Res.ok_bind, mapR_tb (w := w + 1) (g := fun j => if j = w then 1 else 0) (fun j _ => by
    by_cases h : j = w
    · rw [if_pos (decide_eq_true (by omega)), if_pos h]
      rfl
    · rw [if_neg (by simp; omega), if_neg h]
      rfl), Res.ok_bind]
  rfl
theorem clash_ok {w k : Nat} (hw : w ≤ 5) (k1 : 1 ≤ k) {R : List (List Rat)} {b : List Rat} (hm : R.length ≤ 5) (hk : kk k (R.length + 1) ≤ 8900) (hb : b.length = R.length) (hr : ∀ r ∈ R, r.length = w) (h : ∀ r ∈ longer (turn R w ++ [b]) (one_at w), Rw k (R.length + 1) r) :
    (Spn ((longer (turn R w ++ [b]) (one_at w)).map V) (last R.length) ∧ m_clash (w : Int) (mp R) (b.map lw) = .exc .NoAnswer) ∨
      (¬ Spn ((longer (turn R w ++ [b]) (one_at w)).map V) (last R.length) ∧ ∃ (u : List Rat) (E : List PRow), m_clash (w : Int) (mp R) (b.map lw) = .ok (u.map lw) ∧ u.length = R.length ∧ (∀ j, Fz (kk k R.length) (V u j)) ∧
        (∀ s ∈ (longer (turn R w ++ [b]) (one_at w)).map V, psum (fun j => V u j * s j) R.length = s R.length) ∧ Red E ∧ (∀ a ∈ E, a.1 < R.length) ∧ Eqs ((longer (turn R w ++ [b]) (one_at w)).map V) (MA.rows E) ∧ ∀ j, (∀ a ∈ E, a.1 ≠ j) → V u j = 0) := by
  have lR : (((mp R).length : Nat) : Int) = (R.length : Int) := by rw [List.length_map]
  have e : m_clash (w : Int) (mp R) (b.map lw) = (m_solution_or_none (R.length : Int) (mp (turn R w ++ [b])) ((one_at w).map lw)).bind fun y13 => if y13.isNone = true then Res.exc .NoAnswer else (getO y13).bind fun y21 => Res.ok y21 := by
    unfold m_clash m_columns_of
    have cat : catR (mp (turn R w)) [b.map lw] = .ok (mp (turn R w ++ [b])) := by
      unfold catR
      rw [if_pos (by rw [List.length_map, turn_len]; show w + 1 ≤ _; omega)]
      simp [mp]
    rw [check_ok (by omega) (by omega) hr, Res.ok_bind, wanted_ok hb, Res.ok_bind, rngL_nat (by omega), Res.ok_bind, turn_ok hr, Res.ok_bind, Res.ok_bind, cat, Res.ok_bind, unit_ok' (by omega), Res.ok_bind, lR]
  have ll : (one_at w).length = (turn R w ++ [b]).length := by
    unfold one_at
    rw [tb_len, List.length_append, turn_len]
    rfl
  have lr : ∀ r ∈ turn R w ++ [b], r.length = R.length := fun r m => by
    rcases List.mem_append.mp m with m | m
    · exact turn_row r m
    · cases List.mem_singleton.mp m
      exact hb
  rcases found_ok (w := R.length) hm k1 hk (by rw [List.length_append, turn_len]; show w + 1 ≤ _; omega) ll lr h with ⟨a, f⟩ | ⟨a, u, E, f, p⟩
  · exact .inl ⟨a, by rw [e, f]; rfl⟩
  · exact .inr ⟨a, u, E, by rw [e, f]; rfl, p⟩
/-! ### exactly one of the two -/
theorem longer_at {R : List (List Rat)} {b : List Rat} {w : Nat} (hb : b.length = R.length) (hr : ∀ r ∈ R, r.length = w) {i : Nat} (hi : i < R.length) : ((longer R b).map V)[i]? = some (ext w (V R[i]) (V b i)) := by
  unfold longer
  rw [List.map_map, List.getElem?_map, List.getElem?_eq_getElem (by rw [List.length_zip]; omega), List.getElem_zip, Option.map_some]
  show some (V (R[i] ++ [b[i]])) = _
  rw [V_app (hr _ (List.getElem_mem hi)), V_lt (show i < b.length by omega)]
theorem longer_len {R : List (List Rat)} {b : List Rat} (hb : b.length = R.length) : ((longer R b).map V).length = R.length := by
  unfold longer
  rw [List.length_map, List.length_map, List.length_zip]
  omega
/-- a solution, said of the rows -/
theorem sol_iff {R : List (List Rat)} {b : List Rat} {w : Nat} (hb : b.length = R.length) (hr : ∀ r ∈ R, r.length = w) {x : Nat → Rat} : (∀ s ∈ (longer R b).map V, psum (fun j => x j * s j) w = s w) ↔ ∀ i (hi : i < R.length), psum (fun j => x j * V R[i] j) w = V b i := by
  have e : ∀ i (hi : i < R.length), psum (fun j => x j * ext w (V R[i]) (V b i) j) w = psum (fun j => x j * V R[i] j) w := fun i hi => psum_congr fun j l => by
    unfold ext
    rw [if_pos l]
  have e2 : ∀ i (hi : i < R.length), ext w (V R[i]) (V b i) w = V b i := fun i hi => by
    unfold ext
    rw [if_neg (Nat.lt_irrefl _), if_pos rfl]
  constructor
  · intro h i hi
    have := h _ (List.mem_of_getElem? (longer_at hb hr hi))
    rw [e i hi, e2 i hi] at this
    exact this
  · intro h s m
    obtain ⟨i, hi, es⟩ := List.mem_iff_getElem?.mp m |>.imp fun i h => (⟨by
      have := (List.getElem?_eq_some_iff.mp h).1
      rw [longer_len hb] at this
      exact this, h⟩ : ∃ _ : i < R.length, ((longer R b).map V)[i]? = some s)
    rw [longer_at hb hr hi] at es
    cases es
    rw [e i hi, e2 i hi]
    exact h i hi
end MI.MT
namespace MI.MT
open PySem PySem.Spec PyProof.Rows L2 Evl PW
open MA
section
variable {R : List (List Rat)} {b : List Rat} {w : Nat}
theorem turned_lr (hb : b.length = R.length) : ∀ r ∈ turn R w ++ [b], r.length = R.length := fun r m => by
  rcases List.mem_append.mp m with m | m
  · exact turn_row r m
  · cases List.mem_singleton.mp m
    exact hb
theorem turned_ll : (one_at w).length = (turn R w ++ [b]).length := by
  unfold one_at
  rw [tb_len, List.length_append, turn_len]
  rfl
theorem turned_l : (turn R w ++ [b]).length = w + 1 := by
  rw [List.length_append, turn_len]
  rfl
/-- the rows of the turned system -/
theorem turned_at (hb : b.length = R.length) {j : Nat} (hj : j < w) : ((longer (turn R w ++ [b]) (one_at w)).map V)[j]? = some (ext R.length (fun i => if h : i < R.length then V R[i] j else 0) 0) := by
  have hl : j < (turn R w ++ [b]).length := by rw [turned_l]; omega
  rw [longer_at turned_ll (turned_lr hb) hl]
  congr 1
  have h0 : V (one_at w) j = 0 := by
    unfold one_at
    rw [V_tb, if_pos (by omega), if_neg (by omega)]
  rw [h0]
  funext i
  unfold ext
  by_cases l : i < R.length
  · rw [if_pos l, if_pos l]
    show _ = (if h : i < R.length then V R[i] j else 0)
    rw [dif_pos l]
    have : (turn R w ++ [b])[j] = R.map fun r => V r j := by
      rw [List.getElem_append_left (by rw [turn_len]; exact hj)]
      unfold turn
      rw [List.getElem_map, List.getElem_range]
    rw [this, V_lt (by rw [List.length_map]; exact l), List.getElem_map]
  · rw [if_neg l, if_neg l]
theorem turned_last (hb : b.length = R.length) : ((longer (turn R w ++ [b]) (one_at w)).map V)[w]? = some (ext R.length (V b) 1) := by
  have hl : w < (turn R w ++ [b]).length := by rw [turned_l]; omega
  rw [longer_at turned_ll (turned_lr hb) hl]
  congr 1
  have h0 : V (one_at w) w = 1 := by
    unfold one_at
    rw [V_tb, if_pos (by omega), if_pos rfl]
  rw [h0]
  have : (turn R w ++ [b])[w] = b := by
    rw [List.getElem_append_right (by rw [turn_len]; omega)]
    simp
  rw [this]
/-- a solution makes the turned system's last row -/
theorem one1 (hb : b.length = R.length) {x : Nat → Rat} (hx : ∀ i (hi : i < R.length), psum (fun j => x j * V R[i] j) w = V b i) : Spn ((longer (turn R w ++ [b]) (one_at w)).map V) (last R.length) := by
  have h1 := spn_psum (S := (longer (turn R w ++ [b]) (one_at w)).map V) x (fun j => ext R.length (fun i => if h : i < R.length then V R[i] j else 0) 0) w fun j hj => Spn.mem (List.mem_of_getElem? (turned_at hb hj))
  have h2 := Spn.mem (List.mem_of_getElem? (turned_last (w := w) hb))
  refine (h2.comb 1 (-1) h1).cast fun i => ?_
  unfold last
  by_cases l : i < R.length
  · rw [if_neg (by omega)]
    have : psum (fun j => x j * ext R.length (fun i => if h : i < R.length then V R[i] j else 0) 0 i) w = V b i := by
      rw [← hx i l]
      exact psum_congr fun j _ => by
        unfold ext
        rw [if_pos l]
        show x j * (if h : i < R.length then V R[i] j else 0) = _
        rw [dif_pos l]
    rw [this]
    unfold ext
    rw [if_pos l]
    grind
  · have : psum (fun j => x j * ext R.length (fun i => if h : i < R.length then V R[i] j else 0) 0 i) w = 0 := by
      rw [psum_congr (g := fun _ => 0) fun j _ => by
        unfold ext
        rw [if_neg l]
        split <;> grind, psum_zero]
    rw [this]
    unfold ext
    rw [if_neg l]
    split <;> grind
/-- and the other way -/
theorem one2 (hb : b.length = R.length) (k : Spn ((longer (turn R w ++ [b]) (one_at w)).map V) (last R.length)) : ∃ x : Nat → Rat, ∀ i (hi : i < R.length), psum (fun j => x j * V R[i] j) w = V b i := by
  obtain ⟨z, h1, h2⟩ := last_coef k
  have ll : ((longer (turn R w ++ [b]) (one_at w)).map V).length = w + 1 := by rw [longer_len turned_ll, turned_l]
  rw [ll] at h1 h2
  have sum : ∀ i, psum (fun j => z j * (((longer (turn R w ++ [b]) (one_at w)).map V)[j]?.getD fun _ => 0) i) (w + 1) = psum (fun j => z j * ext R.length (fun i => if h : i < R.length then V R[i] j else 0) 0 i) w + z w * ext R.length (V b) 1 i := fun i => by
    rw [psum, turned_last hb]
    congr 1
    exact psum_congr fun j hj => by
      rw [turned_at hb hj]
      rfl
  rw [sum] at h2
  have zw : z w = 1 := by
    rw [psum_congr (g := fun _ => 0) fun j _ => by
      unfold ext
      rw [if_neg (Nat.lt_irrefl _), if_pos rfl]
      grind, psum_zero] at h2
    unfold ext at h2
    rw [if_neg (Nat.lt_irrefl _), if_pos rfl] at h2
    grind
  refine ⟨fun j => -1 * z j, fun i hi => ?_⟩
  have h3 := h1 i hi
  rw [sum, zw] at h3
  have e1 : psum (fun j => z j * ext R.length (fun i => if h : i < R.length then V R[i] j else 0) 0 i) w = psum (fun j => z j * V R[i] j) w := psum_congr fun j _ => by
    unfold ext
    rw [if_pos hi]
    show z j * (if h : i < R.length then V R[i] j else 0) = _
    rw [dif_pos hi]
  have e2 : ext R.length (V b) 1 i = V b i := if_pos hi
  rw [e1, e2] at h3
  rw [psum_congr (g := fun j => -1 * (z j * V R[i] j)) fun j _ => by grind, psum_mul]
  grind
theorem one_of (hb : b.length = R.length) (hr : ∀ r ∈ R, r.length = w) (hs : ¬ Spn ((longer R b).map V) (last w) → ∃ x : Nat → Rat, ∀ s ∈ (longer R b).map V, psum (fun j => x j * s j) w = s w) :
    Spn ((longer R b).map V) (last w) ↔ ¬ Spn ((longer (turn R w ++ [b]) (one_at w)).map V) (last R.length) := by
  constructor
  · intro h k
    obtain ⟨x, hx⟩ := one2 hb k
    exact sol_no_last ((sol_iff hb hr).mpr hx) h
  · intro h
    apply Classical.byContradiction
    intro no
    obtain ⟨x, hx⟩ := hs no
    exact h (one1 hb ((sol_iff hb hr).mp hx))
end
end MI.MT
namespace MI.MT
open PySem PySem.Spec PyProof.Rows L2 Evl PW
open MA
theorem first_true {f : Nat → Bool} {p : Nat} (hp : f p = true) : ∀ (n k : Nat), k ≤ p → p < k + n → (∀ j, k ≤ j → j < p → f j = false) →
    ∃ rest, ((List.range' k n).map fun (i : Nat) => (i : Int)).filterMap (fun z : Int => if f z.toNat = true then some z else none) = (p : Int) :: rest
  | 0, k, h1, h2, _ => by omega
  | n + 1, k, h1, h2, h => by
    rw [List.range'_succ, List.map_cons, List.filterMap_cons, show ((k : Int)).toNat = k by omega]
    by_cases e : k = p
    · subst e
      rw [if_pos hp]
      exact ⟨_, rfl⟩
    · rw [h k (Nat.le_refl _) (by omega), if_neg (by decide)]
      exact first_true hp n (k + 1) (by omega) (by omega) fun j a b => h j (by omega) b
theorem pivots_ok {w : Nat} (hw : w ≤ 5) {E : List (Nat × List Rat)} (hR : Red (E.map pv)) (h : ∀ e ∈ E, e.1 < w ∧ e.2.length = w ∧ V e.2 e.1 = 1) (hl : E.length ≤ 1000) :
    m__law_pivots (mp (E.map (·.2))) = .ok (E.map fun e => (e.1 : Int)) := by
  unfold m__law_pivots
  suffices hs : ∀ (T : List (Nat × List Rat)) (acc : List Int), (∀ e ∈ T, e.1 < w ∧ e.2.length = w ∧ V e.2 e.1 = 1) → Red (T.map pv) → acc.length + T.length ≤ 1000 →
      foldR (fun (z6 : List (Int × Int)) (st6 : List Int) =>
    (rngL 0 (z6.length : Int)).bind fun zs12 =>
  (compR (fun z13 =>
    (ix z6 z13).bind fun x16 =>
  if (decide (x16.1 ≠ (0 : Int))) = true then Res.ok (some z13) else Res.ok none) zs12).bind fun bs13 =>
  (ix bs13 (0 : Int)).bind fun x27 =>
  (chkLen (st6 ++ [x27])).bind fun x32 =>
  Res.ok x32) (mp (T.map (·.2))) acc = .ok (acc ++ T.map fun e => (e.1 : Int)) by
    rw [hs E [] h hR (by simpa using hl), Res.ok_bind]
    rfl
  intro T
  induction T with
  | nil => exact fun acc _ _ _ => by show Res.ok acc = Res.ok (acc ++ []); rw [List.append_nil]
  | cons e T ih =>
    intro acc hT hR ha
    obtain ⟨h1, h2, h3⟩ := hT e (.head _)
    rw [List.length_cons] at ha
    show (Res.bind (rngL 0 (((e.2.map lw).length : Nat) : Int)) _).bind _ = _
    have el : (((e.2.map lw).length : Nat) : Int) = (w : Int) := by rw [List.length_map, h2]
    rw [el, rngL_nat (by omega), Res.ok_bind, compR_ok (g := fun z : Int => if (decide (V e.2 z.toNat ≠ 0)) = true then some z else none) (fun z m => by
      obtain ⟨i, rfl, hi⟩ := mem_rng m
      rw [ix_lw (by show i < e.2.length; omega), Res.ok_bind, show ((i : Int)).toNat = i by omega]
      show (if decide ((lw (V e.2 i)).1 ≠ 0) = true then _ else _) = Res.ok (if decide (V e.2 i ≠ 0) = true then _ else _)
      by_cases q : V e.2 i = 0
      · rw [if_neg (by simp [num_iff, q]), if_neg (by simp [q])]
      · rw [if_pos (decide_eq_true ((num_iff _).mpr q)), if_pos (decide_eq_true q)]), Res.ok_bind]
    obtain ⟨rest, er⟩ := first_true (f := fun j => decide (V e.2 j ≠ 0)) (p := e.1) (decide_eq_true (by rw [h3]; decide)) w 0 (Nat.zero_le _) (by omega) fun j _ l => by
      have := hR.low (pv e) (.head _) j l
      exact decide_eq_false fun z => z this
    rw [rng_nat, List.range_eq_range', er]
    show (Res.bind (ix ((e.1 : Int) :: rest) ((0 : Nat) : Int)) _).bind _ = _
    rw [ix_nat (show 0 < ((e.1 : Int) :: rest).length from Nat.succ_pos _), Res.ok_bind, chkLen_ok (by rw [List.length_append]; show acc.length + 1 ≤ _; omega), Res.ok_bind, Res.ok_bind]
    have := ih (acc ++ [(e.1 : Int)]) (fun x m => hT x (.tail _ m)) hR.tail (by rw [List.length_append]; show acc.length + 1 + T.length ≤ 1000; omega)
    rw [List.append_assoc] at this
    exact this
/-- the free places -/
def frees (w : Nat) (ps : List Int) : List Nat := (List.range w).filter fun j => decide ((j : Int) ∉ ps)
theorem frees_len {w : Nat} {ps : List Int} : (frees w ps).length ≤ w := by
  have := List.length_filter_le (fun j : Nat => decide ((j : Int) ∉ ps)) (List.range w)
  rw [List.length_range] at this
  exact this
theorem mem_frees {w : Nat} {ps : List Int} {j : Nat} (h : j ∈ frees w ps) : j < w ∧ (j : Int) ∉ ps := by
  obtain ⟨a, b⟩ := List.mem_filter.mp h
  exact ⟨List.mem_range.mp a, of_decide_eq_true b⟩
theorem frees_comp {β : Type} {w : Nat} {ps : List Int} {f : Int → Res (Option β)} {g : Nat → β} (h : ∀ j, j < w → f (j : Int) = .ok (if (j : Int) ∉ ps then some (g j) else none)) :
    compR f (rng 0 (w : Int)) = .ok ((frees w ps).map g) := by
  rw [compR_ok (g := fun z : Int => if z ∉ ps then some (g z.toNat) else none) (fun z m => by
    obtain ⟨i, rfl, hi⟩ := mem_rng m
    rw [h i hi, show ((i : Int)).toNat = i by omega]), rng_nat]
  congr 1
  unfold frees
  generalize List.range w = l
  induction l with
  | nil => rfl
  | cons x l ih =>
    rw [List.map_cons, List.filterMap_cons, show ((x : Int)).toNat = x by omega, List.filter_cons]
    by_cases q : (x : Int) ∈ ps
    · rw [if_neg (by simpa using q), if_neg (by simpa using q)]
      exact ih
    · rw [if_pos q, if_pos (decide_eq_true q), List.map_cons]
      show g x :: _ = g x :: _
      rw [ih]
end MI.MT
namespace MI.MT
open PySem PySem.Spec PyProof.Rows L2 Evl PW
open MA
theorem cut_longer {R : List (List Rat)} {b : List Rat} {w : Nat} (hb : b.length = R.length) (hr : ∀ r ∈ R, r.length = w) : ((longer R b).map V).map (cutw w) = R.map V := by
  refine List.ext_getElem? fun i => ?_
  by_cases hi : i < R.length
  · rw [List.getElem?_map, longer_at hb hr hi, List.getElem?_map, List.getElem?_eq_getElem hi]
    show some _ = some _
    congr 1
    funext j
    unfold cutw ext
    by_cases l : j < w
    · rw [if_pos l, if_pos l]
    · rw [if_neg l, V_ge (by rw [hr _ (List.getElem_mem hi)]; omega)]
  · rw [List.getElem?_eq_none (by rw [List.length_map, longer_len hb]; omega), List.getElem?_eq_none (by rw [List.length_map]; omega)]
theorem solves_ok {w k0 K : Nat} (hw : w ≤ 5) (hk0 : k0 ≤ 100) (hs : 5 * (k0 + K + 1) + 1 ≤ 8900) {R : List (List Rat)} {b u : List Rat} (hl : R.length ≤ 64) (hb : b.length = R.length) (hr : ∀ r ∈ R, Rw k0 w r) (lu : u.length = w) (fu : ∀ j, Fz K (V u j))
    (sol : ∀ s ∈ (longer R b).map V, psum (fun j => V u j * s j) w = s w) {E : List PRow} (hE : Red E) (hEw : ∀ a ∈ E, a.1 < w) (hEs : Eqs ((longer R b).map V) (MA.rows E)) (h0 : ∀ j, (∀ a ∈ E, a.1 ≠ j) → V u j = 0) :
    m__law_solves (w : Int) (mp R) (b.map lw) (u.map lw) = .ok true := by
  have lr : ∀ r ∈ R, r.length = w := fun r m => (hr r m).len
  have sl := (sol_iff hb lr).mp sol
  unfold m__law_solves
  have ul : (((u.map lw).length : Nat) : Int) = (w : Int) := by rw [List.length_map, lu]
  rw [if_neg (show ¬ (!true) = true from by decide), ul, Res.ok_bind, if_neg (by simp)]
  rw [mapR_map, mapR_ok (g := fun r => lw (psum (fun j => V r j * V u j) w)) (fun r m => by
    rw [dot_ok hw hs (lr r m) lu (hr r m).fz fu]
    rfl), Res.ok_bind]
  have same : R.map (fun r => lw (psum (fun j => V r j * V u j) w)) = b.map lw := by
    refine List.ext_getElem (by rw [List.length_map, List.length_map]; exact hb.symm) fun i h1 h2 => ?_
    rw [List.length_map] at h1 h2
    rw [List.getElem_map, List.getElem_map]
    congr 1
    rw [psum_congr (g := fun j => V u j * V R[i] j) fun j _ => by grind, sl i h1, V_lt h2]
  rw [same, if_neg (by simp)]
  obtain ⟨El, eE, redE, hEl, spE, lE⟩ := law_echelon_ok hw hk0 hl hr
  rw [eE, Res.ok_bind, pivots_ok hw redE hEl (by omega), Res.ok_bind, rngL_nat (by omega), Res.ok_bind]
  have pl : (E.map fun a => (a.1, cutw w a.2)).map (·.1) = (El.map pv).map (·.1) := by
    refine (cut_red hE hEw).fsts redE ?_
    have e1 : MA.rows (E.map fun a => (a.1, cutw w a.2)) = (MA.rows E).map (cutw w) := by
      unfold MA.rows
      rw [List.map_map, List.map_map]
      rfl
    rw [e1]
    refine (cut_eqs hEs.symm).trans ?_
    rw [cut_longer hb lr]
    exact spE
  rw [frees_comp (ps := El.map fun e => (e.1 : Int)) (g := fun _ => true) (fun j hj => by
    by_cases q : (j : Int) ∈ El.map fun e => (e.1 : Int)
    · rw [if_neg (show ¬ decide ((j : Int) ∉ El.map fun e => (e.1 : Int)) = true from fun z => of_decide_eq_true z q), if_neg (show ¬ ((j : Int) ∉ El.map fun e => (e.1 : Int)) from fun z => z q)]
    · rw [if_pos (decide_eq_true q), if_pos q, ix_lw (by omega), Res.ok_bind]
      have z : V u j = 0 := h0 j fun a ma e => q (by
        have m1 : a.1 ∈ (El.map pv).map (·.1) := by
          rw [← pl, List.map_map]
          exact List.mem_map.mpr ⟨a, ma, rfl⟩
        rw [List.map_map] at m1
        obtain ⟨x, mx, ex⟩ := List.mem_map.mp m1
        refine List.mem_map.mpr ⟨x, mx, ?_⟩
        have : x.1 = a.1 := ex
        omega)
      rw [z, lw_0]
      rfl), Res.ok_bind]
  congr 1
  exact List.all_eq_true.mpr fun x m => by
    obtain ⟨_, _, e⟩ := List.mem_map.mp m
    exact e.symm
end MI.MT
namespace MI.MT
open PySem PySem.Spec PyProof.Rows L2 Evl PW
open MA
/-- the law's check of a clash -/
theorem clashes_ok {w k0 K : Nat} (hw : w ≤ 5) (hk0 : k0 ≤ 100) (hs : 5 * (k0 + K + 1) + 1 ≤ 8900) {R : List (List Rat)} {b u : List Rat} (hm : R.length ≤ 5) (hb : b.length = R.length) (lr : ∀ r ∈ R, r.length = w) (hr : ∀ r ∈ turn R w ++ [b], Rw k0 R.length r) (lu : u.length = R.length) (fu : ∀ j, Fz K (V u j))
    (sol : ∀ s ∈ (longer (turn R w ++ [b]) (one_at w)).map V, psum (fun j => V u j * s j) R.length = s R.length) {E : List PRow} (hE : Red E) (hEw : ∀ a ∈ E, a.1 < R.length) (hEs : Eqs ((longer (turn R w ++ [b]) (one_at w)).map V) (MA.rows E)) (h0 : ∀ j, (∀ a ∈ E, a.1 ≠ j) → V u j = 0) :
    m__law_clashes (w : Int) (mp R) (b.map lw) (u.map lw) = .ok true := by
  unfold m__law_clashes
  have cat : catR (mp (turn R w)) [b.map lw] = .ok (mp (turn R w ++ [b])) := by
    unfold catR
    rw [if_pos (by rw [List.length_map, turn_len]; show w + 1 ≤ _; omega)]
    simp [mp]
  have one : (List.replicate w (0 : Rat)) ++ [1] = one_at w := by
    refine V_ext (by unfold one_at; rw [List.length_append, List.length_replicate, tb_len]; rfl) fun j hj => ?_
    rw [List.length_append, List.length_replicate] at hj
    have hj' : j < w + 1 := hj
    rw [V_app List.length_replicate]
    unfold one_at ext
    rw [V_tb, if_pos hj']
    by_cases l : j < w
    · rw [if_pos l, if_neg (by omega), V_lt (by rw [List.length_replicate]; exact l), List.getElem_replicate]
    · rw [if_neg l]
  have cat2 : catR ((List.replicate w (0 : Rat)).map lw) [((1 : Int), (1 : Int))] = .ok ((one_at w).map lw) := by
    unfold catR
    rw [if_pos (by rw [List.length_map, List.length_replicate]; show w + 1 ≤ _; omega), ← one, List.map_append]
    rfl
  have lR : (((mp R).length : Nat) : Int) = (R.length : Int) := by rw [List.length_map]
  rw [rngL_nat (by omega), Res.ok_bind, turn_ok lr, Res.ok_bind, zeros_ok (by omega), Res.ok_bind, cat, Res.ok_bind, cat2, Res.ok_bind, lR,
    solves_ok (w := R.length) hm hk0 hs (by rw [turned_l]; omega) turned_ll hr lu fu sol hE hEw hEs h0]
  rfl
/-! ### the wanted numbers -/
theorem wh_sum {D M : Nat} {f : Nat → Rat} (h : ∀ j, Wh D M (f j)) : ∀ n, Wh D (n * M) (psum f n)
  | 0 => by rw [Nat.zero_mul]; exact Wh.zero
  | n + 1 => by
    rw [Nat.add_mul, Nat.one_mul]
    exact (wh_sum h n).add (h n)
theorem mapS_any {ζ : Type} {f : ζ → List Int → Res ((Int × Int) × List Int)} {D M : Nat} (h : ∀ z gs, Drs gs → ∃ q rest, f z gs = .ok (lw q, rest) ∧ Wh D M q ∧ Drs rest) : ∀ (zs : List ζ) (gs : List Int), Drs gs →
    ∃ r rest, mapS f zs gs = .ok (r.map lw, rest) ∧ Sh zs.length D M r ∧ Drs rest
  | [], gs, hg => ⟨[], gs, rfl, ⟨rfl, fun _ m => (nomatch m)⟩, hg⟩
  | z :: zs, gs, hg => by
    obtain ⟨q, g1, e1, w1, h1⟩ := h z gs hg
    obtain ⟨r, g2, e2, w2, h2⟩ := mapS_any h zs g1 h1
    refine ⟨q :: r, g2, ?_, ⟨by rw [List.length_cons, List.length_cons, w2.1], fun x m => ?_⟩, h2⟩
    · show (f z gs).only.bind _ = _
      rw [e1]
      show (mapS f zs g1).bind _ = _
      rw [e2]
      rfl
    · cases m with
      | head => exact w1
      | tail _ m => exact w2.2 x m
theorem fz_of {D M k : Nat} {q : Rat} (hD : 0 < D) (h : Wh D M q) (d : D < 2 ^ k) (m : M < 2 ^ k) : Fz k q := fz_wh hD h d m
theorem wantd_ok {ds : List Int} (hd : Drs ds) {w : Nat} (hw : w ≤ 5) {R : List (List Rat)} (hl : R.length ≤ 5) (hR : ∀ r ∈ R, Sh w (12 ^ 6) (2 ^ 39) r) :
    ∃ b rest, m__law_wanted ds (w : Int) (mp R) = .ok (b.map lw, rest) ∧ Drs rest ∧ Sh R.length (12 ^ 8) (2 ^ 51 + 2 ^ 50) b := by
  unfold m__law_wanted
  rw [rngL_nat (by omega), Res.ok_bind]
  obtain ⟨x, g1, e1, sx, h1⟩ := mapS_any (D := 12) (M := 72) (f := fun (z4 : Int) gs4 => (m__law_fraction gs4).bind fun y6 => Res.ok (y6.1, y6.2)) (fun z gs hg => by
    obtain ⟨q, g2, e2, w2, h2⟩ := fraction_ok hg
    refine ⟨q, g2, ?_, w2, h2⟩
    rw [e2]
    rfl) (rng 0 (w : Int)) ds hd
  rw [e1, Res.ok_bind2]
  rw [rng_len] at sx
  have lx : x.length = w := by rw [sx.1]; omega
  have fx : ∀ j, Fz 8 (V x j) := fun j => fz_of (by decide) (sx.v' j) (by decide) (by decide)
  have fr : ∀ r ∈ R, ∀ j, Fz 41 (V r j) := fun r m j => fz_of (by decide) ((hR r m).v' j) (by decide) (by decide)
  rw [mapR_map, mapR_ok (g := fun r => lw (psum (fun j => V r j * V x j) w)) (fun r m => by
    rw [dot_ok hw (by decide) (hR r m).1 lx (fr r m) fx]
    rfl), Res.ok_bind]
  have e0 : R.map (fun r => lw (psum (fun j => V r j * V x j) w)) = (R.map fun r => psum (fun j => V r j * V x j) w).map lw := by
    rw [List.map_map]
    rfl
  rw [e0]
  have wb : ∀ q ∈ R.map (fun r => psum (fun j => V r j * V x j) w), Wh (12 ^ 7) (5 * (2 ^ 39 * 72)) q := fun q m => by
    obtain ⟨r, mr, rfl⟩ := List.mem_map.mp m
    have := wh_sum (D := 12 ^ 6 * 12) (M := 2 ^ 39 * 72) (f := fun j => V r j * V x j) (fun j => ((hR r mr).v' j).mul (sx.v' j)) w
    exact this.mono (Nat.mul_le_mul_right _ hw)
  have lb : (R.map fun r => psum (fun j => V r j * V x j) w).length = R.length := List.length_map _
  generalize R.map (fun r => psum (fun j => V r j * V x j) w) = b at wb lb ⊢
  have up : ∀ q ∈ b, Wh (12 ^ 8) (2 ^ 51 + 2 ^ 50) q := fun q m => ((wb q m).up 12).mono (by decide)
  obtain ⟨y, g2, e2, y1, y2, h2⟩ := next_ok h1
  rw [e2, Res.ok_bind]
  dsimp only
  by_cases c1 : (decide (y % 4 = 1) && !List.isEmpty (mp R)) = true
  · rw [if_pos c1]
    have hne : R ≠ [] := fun e => by
      rw [e] at c1
      simp [mp] at c1
    have jp : 0 < R.length := List.length_pos_iff.mpr hne
    obtain ⟨a, g3, e3, a1, a2, h3⟩ := next_ok h2
    have ml : (((mp R).length : Nat) : Int) = (R.length : Int) := by rw [List.length_map]
    obtain ⟨i, hi, ei⟩ := pick_nat (a := a) jp
    obtain ⟨z, g4, e4, z1, z2, h4⟩ := next_ok h3
    rw [e3, Res.ok_bind]
    dsimp only
    rw [ml, ei, Res.ok_bind, ix_lw (by omega), Res.ok_bind, e4, Res.ok_bind]
    dsimp only
    have wi := wb _ (V_mem (r := b) (j := i) (by omega))
    have wq : Wh 12 72 (((1 : Int) : Rat) / ((1 + z % 3 : Int) : Rat)) := frac_eq (by omega) (by
      have : (1 : Int) + z % 3 = 1 ∨ (1 : Int) + z % 3 = 2 ∨ (1 : Int) + z % 3 = 3 := by omega
      rcases this with e | e | e <;> rw [e] <;> decide) (by decide)
    have lq : lw (((1 : Int) : Rat) / ((1 + z % 3 : Int) : Rat)) = ((1 : Int), (1 : Int) + z % 3) := lw_of (by omega) (by rw [show (1 : Int).natAbs = 1 from rfl, Nat.gcd_one_left])
    rw [← lq, plus_ok (fz_of (k := 60) (by decide) wi (by decide) (by decide)) (fz_of (k := 8) (by decide) wq (by decide) (by decide)) (by decide), Res.ok_bind]
    have es : setR (b.map lw) (i : Int) (lw (V b i + ((1 : Int) : Rat) / ((1 + z % 3 : Int) : Rat))) = .ok ((b.set i (V b i + ((1 : Int) : Rat) / ((1 + z % 3 : Int) : Rat))).map lw) := by
      unfold setR
      rw [ixN_nat (by rw [List.length_map]; omega)]
      exact congrArg Res.ok (List.map_set).symm
    rw [es, Res.ok_bind, Res.ok_bind]
    refine ⟨_, g4, rfl, h4, by rw [List.length_set]; exact lb, fun q m => ?_⟩
    rcases List.mem_or_eq_of_mem_set m with m | m
    · exact up q m
    · rw [m]
      have h5 := wi.up 12
      have h6 := wq.up (12 ^ 7)
      rw [show 12 * 12 ^ 7 = 12 ^ 7 * 12 from Nat.mul_comm _ _] at h6
      exact (h5.add h6).mono (by decide)
  · rw [if_neg c1]
    by_cases c2 : decide (y % 4 = 2) = true
    · rw [if_pos c2]
      obtain ⟨v, g3, e3, sv, h3⟩ := mapS_any (D := 12) (M := 72) (f := fun (z58 : List (Int × Int)) gs58 => (m__law_fraction gs58).bind fun y60 => Res.ok (y60.1, y60.2)) (fun z gs hg => by
        obtain ⟨q, g2, e2, w2, h2⟩ := fraction_ok hg
        refine ⟨q, g2, ?_, w2, h2⟩
        rw [e2]
        rfl) (mp R) g2 h2
      rw [e3, Res.ok_bind2, Res.ok_bind]
      rw [List.length_map] at sv
      refine ⟨v, g3, rfl, h3, sv.1, fun q m => ?_⟩
      have := (sv.2 q m).up (12 ^ 7)
      exact this.mono (by decide)
    · rw [if_neg c2, Res.ok_bind]
      exact ⟨b, g2, rfl, h2, lb, up⟩
end MI.MT
namespace MI.MT
open PySem PySem.Spec PyProof.Rows L2 Evl PW
open MA
/-! ### how large the systems are -/
def B52 : Nat := 2 ^ 51 + 2 ^ 50
theorem row52 {w : Nat} {r : List Rat} (h : Sh w (12 ^ 6) (2 ^ 39) r) : Sh w (12 ^ 8) B52 r := by
  have := h.up (k := 144) (M' := B52) (by decide)
  exact this
theorem wh_1 : Wh (12 ^ 8) B52 1 := by
  have := (Wh.int (z := 1) (M := 1) (by decide)).up (12 ^ 8)
  rw [Nat.one_mul] at this
  exact this.mono (by decide)
theorem rw52 {w : Nat} {r : List Rat} (h : Sh w (12 ^ 8) B52 r) : Rw 52 w r := ⟨12 ^ 8, B52, by decide, by decide, by decide, h⟩
theorem sh_app {w D M : Nat} {r : List Rat} {x : Rat} (h : Sh w D M r) (k : Wh D M x) : Sh (w + 1) D M (r ++ [x]) := ⟨by rw [List.length_append, h.1]; rfl, fun q m => by
  rcases List.mem_append.mp m with m | m
  · exact h.2 q m
  · cases List.mem_singleton.mp m
    exact k⟩
theorem size1 {w : Nat} {R : List (List Rat)} {b : List Rat} (hR : ∀ r ∈ R, Sh w (12 ^ 6) (2 ^ 39) r) (hb : Sh R.length (12 ^ 8) B52 b) : ∀ r ∈ longer R b, Rw 52 (w + 1) r := fun r m => by
  obtain ⟨p, mp, rfl⟩ := List.mem_map.mp m
  obtain ⟨m1, m2⟩ := List.of_mem_zip (a := p.1) (b := p.2) mp
  exact rw52 (sh_app (row52 (hR _ m1)) (hb.2 _ m2))
theorem size2s {w : Nat} {R : List (List Rat)} {b : List Rat} (hR : ∀ r ∈ R, Sh w (12 ^ 6) (2 ^ 39) r) (hb : Sh R.length (12 ^ 8) B52 b) : ∀ r ∈ turn R w ++ [b], Sh R.length (12 ^ 8) B52 r := fun r m => by
  rcases List.mem_append.mp m with m | m
  · obtain ⟨j, _, rfl⟩ := List.mem_map.mp m
    refine ⟨by rw [List.length_map], fun q mq => ?_⟩
    obtain ⟨x, mx, rfl⟩ := List.mem_map.mp mq
    exact (row52 (hR x mx)).v' j
  · cases List.mem_singleton.mp m
    exact hb
theorem size2 {w : Nat} {R : List (List Rat)} {b : List Rat} (hR : ∀ r ∈ R, Sh w (12 ^ 6) (2 ^ 39) r) (hb : Sh R.length (12 ^ 8) B52 b) : ∀ r ∈ longer (turn R w ++ [b]) (one_at w), Rw 52 (R.length + 1) r := fun r m => by
  obtain ⟨p, mp, rfl⟩ := List.mem_map.mp m
  obtain ⟨m1, m2⟩ := List.of_mem_zip (a := p.1) (b := p.2) mp
  refine rw52 (sh_app (size2s hR hb _ m1) ?_)
  obtain ⟨j, _, e⟩ := mem_tb m2
  rw [e]
  split
  · exact wh_1
  · exact Wh.zero
/-! ### rows that are no rows -/
theorem check_len {R : List (List (Int × Int))} {b : List (Int × Int)} (h : b.length ≠ R.length) : m_check_wanted R b = .exc .NotMatrix := by
  unfold m_check_wanted m_is_number_row
  rw [if_pos rfl, if_neg (show ¬ decide ((b.length : Int) = (R.length : Int)) = true from fun z => h (by have := of_decide_eq_true z; omega))]
  rfl
theorem check_bad {R : List (List (Int × Int))} {b : List (Int × Int)} (hl : b.length = R.length) (h : ∃ q ∈ b, m_is_number q = .ok false) (hb : ∀ q ∈ b, ∃ v, m_is_number q = .ok v) : m_check_wanted R b = .exc .NotMatrix := by
  unfold m_check_wanted m_is_number_row
  obtain ⟨vs, e, f⟩ := mapR_fa (f := fun z13 => (m_is_number z13).bind fun y16 => Res.ok y16) (R := fun q v => m_is_number q = .ok v) (zs := b) fun q m => by
    obtain ⟨v, hv⟩ := hb q m
    exact ⟨v, by rw [hv]; rfl, hv⟩
  have all : List.all vs id = false := by
    obtain ⟨q, m, hq⟩ := h
    obtain ⟨v, mv, hv⟩ := f.left m
    rw [hq] at hv
    cases hv
    exact List.all_eq_false.mpr ⟨false, mv, by decide⟩
  rw [if_pos rfl, if_pos (decide_eq_true (by omega)), e, Res.ok_bind, all]
  rfl
end MI.MT
namespace MI.MT
open PySem PySem.Spec PyProof.Rows L2 Evl PW
open MA
open HD (Dr)
/-- both ways refuse numbers that are not so many -/
theorem told_bad {way : Nat} (hway : way ≤ 1) {w : Nat} (hw : w ≤ 5) {R : List (List Rat)} (hl : R.length ≤ 5) (hr : ∀ r ∈ R, r.length = w) {b : List (Int × Int)} (hb : m_check_wanted (mp R) b = .exc .NotMatrix) : m__law_told (way : Int) (w : Int) (mp R) b = .ok (.inr tM) := by
  have e1 : m_solution (w : Int) (mp R) b = .exc .NotMatrix := by
    unfold m_solution
    rw [check_ok (by omega) (by omega) hr, Res.ok_bind, hb]
    rfl
  have e2 : m_clash (w : Int) (mp R) b = .exc .NotMatrix := by
    unfold m_clash
    rw [check_ok (by omega) (by omega) hr, Res.ok_bind, hb]
    rfl
  rcases (show way = 0 ∨ way = 1 by omega) with rfl | rfl
  · exact (told_of (.inl ⟨rfl, e1⟩)).2.2 rfl
  · exact (told_of (.inr ⟨rfl, e2⟩)).2.2 rfl
theorem ne_M : neR (eS (eT (eP D.int D.int)) D.str) (.inr tM) (.inr (Str.ofString "![0, 1]")) = .ok false := by
  unfold neR
  rw [if_pos (by decide +kernel)]
  exact congrArg Res.ok (decide_eq_false (fun h => h rfl))
theorem ne_A : neR (eS (eT (eP D.int D.int)) D.str) (.inr tA) (.inr (Str.ofString "![1, 0]")) = .ok false := by
  unfold neR
  rw [if_pos (by decide +kernel)]
  exact congrArg Res.ok (decide_eq_false (fun h => h rfl))
end MI.MT
namespace MI.MT
open PySem PySem.Spec PyProof.Rows L2 Evl PW
open MA
/-! ### slices -/
theorem sIx_none (n d : Nat) : HT.sIx n d none = d := rfl
theorem sIx_nat {n i : Nat} (d : Nat) (h : i ≤ n) : HT.sIx n d (some (i : Int)) = i := by
  rw [HT.sIx_nat, Nat.min_eq_left h]
theorem cut_to {α : Type} {xs : List α} {i : Nat} (h : i ≤ xs.length) : cut xs none (some (i : Int)) = xs.take i := by
  unfold cut
  rw [sIx_none, sIx_nat _ h]
  simp
theorem cut_from {α : Type} {xs : List α} {i : Nat} (h : i ≤ xs.length) : cut xs (some (i : Int)) none = xs.drop i := by
  unfold cut
  rw [sIx_none, sIx_nat _ h]
  exact List.take_of_length_le (by rw [List.length_drop]; omega)
theorem no_24 : m_is_number ((2 : Int), (4 : Int)) = .ok false := by
  unfold m_is_number
  exact congrArg Res.ok (by decide +kernel)
theorem no_10 : m_is_number ((1 : Int), (0 : Int)) = .ok false := by
  unfold m_is_number
  exact congrArg Res.ok (by decide +kernel)
/-- a number put in that is none -/
theorem put_bad {R : List (List Rat)} {b : List Rat} (hb : b.length = R.length) {i : Nat} (hi : i < b.length) {q : Int × Int} (hq : m_is_number q = .ok false) : m_check_wanted (mp R) ((b.map lw).take i ++ [q] ++ (b.map lw).drop (i + 1)) = .exc .NotMatrix := by
  refine check_bad ?_ ⟨q, by simp, hq⟩ fun x m => ?_
  · simp only [List.length_append, List.length_take, List.length_drop, List.length_map, List.length_cons, List.length_nil]
    omega
  · rcases List.mem_append.mp m with m | m
    · rcases List.mem_append.mp m with m | m
      · obtain ⟨y, _, rfl⟩ := List.mem_map.mp (List.mem_of_mem_take m)
        exact ⟨true, is_number_ok y⟩
      · cases List.mem_singleton.mp m
        exact ⟨false, hq⟩
    · obtain ⟨y, _, rfl⟩ := List.mem_map.mp (List.mem_of_mem_drop m)
      exact ⟨true, is_number_ok y⟩
end MI.MT
namespace MI.MT
open PySem PySem.Spec PyProof.Rows L2 Evl PW
open MA
open HD (Dr)
theorem cut_butlast {α : Type} {xs : List α} (h : 0 < xs.length) : (cut xs none (some (-(1 : Int)))).length = xs.length - 1 := by
  unfold cut
  rw [List.length_take, List.length_drop, sIx_none]
  have : HT.sIx xs.length xs.length (some (-(1 : Int))) = xs.length - 1 := by
    show (if (-(1 : Int)) < 0 then ((-(1 : Int)) + (xs.length : Int)).toNat else min (-(1 : Int)).toNat xs.length) = _
    rw [if_pos (by decide)]
    omega
  rw [this]
  omega
theorem loopC_list {ζ ρ : Type} {f : ζ → Unit → Res (Ctl Unit ρ)} : ∀ zs : List ζ, (∀ z ∈ zs, f z () = .ok (.nx ())) → loopC f zs () = .ok (.nx ())
  | [], _ => rfl
  | z :: zs, h => by
    show (f z ()).bind _ = _
    rw [h z (.head _), Res.ok_bind]
    exact loopC_list zs fun y m => h y (.tail _ m)
theorem ne_MM : neR (eL (eS (eT (eP D.int D.int)) D.str)) [.inr tM, .inr tM] [.inr (Str.ofString "![0, 1]"), .inr (Str.ofString "![0, 1]")] = .ok false := by
  unfold neR
  rw [if_pos (by decide +kernel)]
  exact congrArg Res.ok (decide_eq_false (fun h => h rfl))
theorem math_law (ds : List Int) (hd : Dr ds) (_ : ds.length ≤ 4000) : m_law ds = .ok true := by
  have hd0 : Drs ds.reverse := fun d m => hd d (List.mem_reverse.mp m)
  unfold m_law
  obtain ⟨a, g1, e1, a1, a2, h1⟩ := next_ok hd0
  rw [e1, Res.ok_bind]
  dsimp only
  obtain ⟨c, g2, e2, b1, b2, h2⟩ := next_ok h1
  rw [e2, Res.ok_bind]
  dsimp only
  obtain ⟨w, hw, w5⟩ : ∃ w : Nat, a % 6 = (w : Int) ∧ w ≤ 5 := ⟨(a % 6).toNat, by omega, by omega⟩
  obtain ⟨m, hm, m5⟩ : ∃ m : Nat, c % 6 = (m : Int) ∧ m ≤ 5 := ⟨(c % 6).toNat, by omega, by omega⟩
  rw [hw, hm]
  obtain ⟨R, g3, e3, h3, lR, sR⟩ := matrix_ok h2 m5 w5
  rw [e3, Res.ok_bind]
  dsimp only
  have sR6 : ∀ r ∈ R, Sh w (12 ^ 6) (2 ^ 39) r := fun r mr => by
    have := (sR r mr).up (k := 12 ^ (5 - m)) (M' := 2 ^ 39) (by
      have h84 : 84 ^ (m + 1) * 12 ^ (5 - m) ≤ 84 ^ (m + 1) * 84 ^ (5 - m) := Nat.mul_le_mul_left _ (Nat.pow_le_pow_left (by decide) _)
      rw [← Nat.pow_add, show m + 1 + (5 - m) = 6 by omega] at h84
      exact Nat.le_trans h84 (by decide))
    rw [← Nat.pow_add, show m + 1 + (5 - m) = 6 by omega] at this
    exact this
  obtain ⟨b, g4, e4, h4, sb⟩ := wantd_ok h3 w5 (by omega) sR6
  rw [e4, Res.ok_bind]
  dsimp only
  have lb := sb.1
  have lr : ∀ r ∈ R, r.length = w := fun r mr => (sR6 r mr).1
  have kw : ∀ n, n ≤ 5 → kk 52 (n + 1) ≤ 8900 := fun n hn => Nat.le_trans (kk_le (show n + 1 ≤ 6 by omega)) (by decide)
  have S1 := solution_ok w5 (k := 52) (by decide) (kw w w5) (by omega) lb lr (size1 sR6 sb)
  have S2 := clash_ok w5 (k := 52) (by decide) (by omega) (kw R.length (by omega)) lb lr (size2 sR6 sb)
  have alt := one_of lb lr (fun no => by
    rcases S1 with ⟨y, _⟩ | ⟨_, u, E, _, _, _, so, _⟩
    · exact absurd y no
    · exact ⟨V u, so⟩)
  have kb : ∀ n, n ≤ 5 → 5 * (52 + kk 52 n + 1) + 1 ≤ 8900 := fun n hn => by
    have := kk_le (k := 52) hn
    have e : kk 52 5 = 1695 := rfl
    omega
  have r52 : ∀ r ∈ R, Rw 52 w r := fun r mr => rw52 (row52 (sR6 r mr))
  have main : (m__law_told ((0 : Nat) : Int) (w : Int) (mp R) (b.map lw) = .ok (.inr tA) ∧ ∃ u : List Rat, m__law_told ((1 : Nat) : Int) (w : Int) (mp R) (b.map lw) = .ok (.inl (u.map lw)) ∧ m__law_clashes (w : Int) (mp R) (b.map lw) (u.map lw) = .ok true) ∨
      (m__law_told ((1 : Nat) : Int) (w : Int) (mp R) (b.map lw) = .ok (.inr tA) ∧ ∃ u : List Rat, m__law_told ((0 : Nat) : Int) (w : Int) (mp R) (b.map lw) = .ok (.inl (u.map lw)) ∧ m__law_solves (w : Int) (mp R) (b.map lw) (u.map lw) = .ok true) := by
    rcases S1 with ⟨y, f⟩ | ⟨no, u, E, f, lu, fu, so, rE, wE, sE, zE⟩
    · rcases S2 with ⟨y2, _⟩ | ⟨_, u, E, f2, lu, fu, so, rE, wE, sE, zE⟩
      · exact absurd y2 (alt.mp y)
      · exact .inl ⟨(told_of (.inl ⟨rfl, f⟩)).2.1 rfl, u, (told_of (.inr ⟨rfl, f2⟩)).1 _ rfl, clashes_ok w5 (k0 := 52) (by decide) (kb R.length (by omega)) (by omega) lb lr (fun r mr => rw52 (size2s sR6 sb r mr)) lu fu so rE wE sE zE⟩
    · rcases S2 with ⟨_, f2⟩ | ⟨no2, _⟩
      · exact .inr ⟨(told_of (.inr ⟨rfl, f2⟩)).2.1 rfl, u, (told_of (.inl ⟨rfl, f⟩)).1 _ rfl, solves_ok w5 (k0 := 52) (by decide) (kb w w5) (by omega) lb r52 lu fu so rE wE sE zE⟩
      · exact absurd (alt.mpr no2) no
  have bad : ∀ (way : Nat) (x : List (Int × Int)), way ≤ 1 → m_check_wanted (mp R) x = .exc .NotMatrix → m__law_told (way : Int) (w : Int) (mp R) x = .ok (.inr tM) := fun way x hway hx => told_bad hway w5 (by omega) lr hx
  have lbm : (b.map lw).length = R.length := by rw [List.length_map, lb]
  have lRm : (mp R).length = R.length := List.length_map _
  have cat1 : ∀ q : Int × Int, catR (b.map lw) [q] = .ok (b.map lw ++ [q]) := fun q => if_pos (by rw [lbm]; show R.length + 1 ≤ _; omega)
  have long : ∀ q : Int × Int, m_check_wanted (mp R) (b.map lw ++ [q]) = .exc .NotMatrix := fun q => check_len (by rw [List.length_append, lbm, lRm]; show R.length + 1 ≠ R.length; omega)
  -- the rest, behind the two
  suffices rest : ∀ r : Res (Ctl Unit Bool), r = .ok (.nx ()) → (r.bind (Ctl.then (fun st34 =>
  (if (decide (mp R ≠ mp R)) = true then Res.ok true else (catR (b.map lw) [((0 : Int), (1 : Int))]).bind fun x130 =>
  (m__law_told (0 : Int) (w : Int) (mp R) x130).bind fun y133 =>
  (neR (eS (eT (eP D.int D.int)) D.str) y133 (Sum.inr (Str.ofString "![0, 1]"))).bind fun x134 =>
  Res.ok x134).bind fun y35 =>
  if y35 = true then
    Res.ok false
  else
    (catR (b.map lw) [((2 : Int), (2 : Int))]).bind fun x44 =>
  (m__law_told (1 : Int) (w : Int) (mp R) x44).bind fun y47 =>
  (neR (eS (eT (eP D.int D.int)) D.str) y47 (Sum.inr (Str.ofString "![0, 1]"))).bind fun x48 =>
  if x48 = true then
    Res.ok false
  else
    (if (!List.isEmpty (mp R)) = true then
    (m__law_next g4).bind fun y59 =>
  (modR y59.1 ((mp R).length : Int)).bind fun x62 =>
  (catR (cut (b.map lw) none (some x62)) [((2 : Int), (4 : Int))]).bind fun x71 =>
  (catR x71 (cut (b.map lw) (some (x62 + (1 : Int))) none)).bind fun x77 =>
  (catR (cut (b.map lw) none (some x62)) [((1 : Int), (0 : Int))]).bind fun x85 =>
  (catR x85 (cut (b.map lw) (some (x62 + (1 : Int))) none)).bind fun x91 =>
  (loopC (fun z99 st99 =>
    (mapR (fun z101 =>
    (m__law_told z101 (w : Int) (mp R) z99).bind fun y106 =>
  Res.ok y106) (rng 0 (2 : Int))).bind fun bs101 =>
  (neR (eL (eS (eT (eP D.int D.int)) D.str)) bs101 [(Sum.inr (Str.ofString "![0, 1]")), (Sum.inr (Str.ofString "![0, 1]"))]).bind fun x110 =>
  if x110 = true then
    Res.ok (Ctl.rt false)
  else
    Res.ok (Ctl.nx ())) [x77, x91, (cut (b.map lw) none (some (-(1 : Int))))] ()).bind (Ctl.then (fun st99 =>
  Res.ok (Ctl.nx y59.2)) (fun r => Res.ok (Ctl.rt r)))
  else
    Res.ok (Ctl.nx g4)).bind (Ctl.then (fun st53 =>
  Res.ok true) (fun r => Res.ok r))) (fun r => Res.ok r))) = .ok true by
    rcases main with ⟨t0, u, t1, cl⟩ | ⟨t1, u, t0, so⟩
    · have t0' : m__law_told (0 : Int) (w : Int) (mp R) (b.map lw) = .ok (.inr tA) := t0
      have t1' : m__law_told (1 : Int) (w : Int) (mp R) (b.map lw) = .ok (.inl (u.map lw)) := t1
      rw [t0', Res.ok_bind, t1', Res.ok_bind]
      refine rest _ ?_
      rw [if_pos (show sumB false true (Sum.inr tA : List (Int × Int) ⊕ Str) = true from rfl), ne_A, Res.ok_bind, if_neg (by decide), if_neg (show ¬ sumB false true (Sum.inl (u.map lw) : List (Int × Int) ⊕ Str) = true from Bool.false_ne_true)]
      show (((Res.ok (u.map lw)).bind fun y162 => (m__law_clashes (w : Int) (mp R) (b.map lw) y162).bind fun y165 => Res.ok (!y165)).bind _) = _
      rw [Res.ok_bind, cl]
      rfl
    · have t0' : m__law_told (0 : Int) (w : Int) (mp R) (b.map lw) = .ok (.inl (u.map lw)) := t0
      have t1' : m__law_told (1 : Int) (w : Int) (mp R) (b.map lw) = .ok (.inr tA) := t1
      rw [t0', Res.ok_bind, t1', Res.ok_bind]
      refine rest _ ?_
      rw [if_neg (show ¬ sumB false true (Sum.inl (u.map lw) : List (Int × Int) ⊕ Str) = true from Bool.false_ne_true), ne_A, Res.ok_bind, if_neg (by decide)]
      show (((Res.ok (u.map lw)).bind fun y183 => (m__law_solves (w : Int) (mp R) (b.map lw) y183).bind fun y186 => Res.ok (!y186)).bind _) = _
      rw [Res.ok_bind, so]
      rfl
  intro r hr
  have b0 : ∀ q, m__law_told (0 : Int) (w : Int) (mp R) (b.map lw ++ [q]) = .ok (.inr tM) := fun q => bad 0 _ (by decide) (long q)
  have b1' : ∀ q, m__law_told (1 : Int) (w : Int) (mp R) (b.map lw ++ [q]) = .ok (.inr tM) := fun q => bad 1 _ (by decide) (long q)
  rw [hr, Res.ok_bind]
  show Res.bind _ _ = _
  rw [if_neg (by simp), cat1, Res.ok_bind, b0, Res.ok_bind, ne_M, Res.ok_bind, Res.ok_bind, if_neg (by decide), cat1, Res.ok_bind, b1', Res.ok_bind, ne_M, Res.ok_bind, if_neg (by decide)]
  by_cases hne : R = []
  · have : List.isEmpty (mp R) = true := by rw [hne]; rfl
    rw [this, if_neg (by decide)]
    rfl
  · have he : List.isEmpty (mp R) = false := by
      cases R with
      | nil => exact absurd rfl hne
      | cons _ _ => rfl
    have jp : 0 < R.length := List.length_pos_iff.mpr hne
    rw [he, if_pos (by rfl)]
    obtain ⟨y, g5, e5, y1, y2, h5⟩ := next_ok h4
    obtain ⟨i, hi, ei⟩ := pick_nat (a := y) jp
    rw [e5, Res.ok_bind]
    dsimp only
    rw [lRm, ei, Res.ok_bind, show (i : Int) + (1 : Int) = ((i + 1 : Nat) : Int) by omega, cut_to (by omega), cut_from (by omega)]
    have c1 : ∀ q : Int × Int, catR ((b.map lw).take i) [q] = .ok ((b.map lw).take i ++ [q]) := fun q => if_pos (by rw [List.length_take]; show min i _ + 1 ≤ _; omega)
    have c2 : ∀ q : Int × Int, catR ((b.map lw).take i ++ [q]) ((b.map lw).drop (i + 1)) = .ok ((b.map lw).take i ++ [q] ++ (b.map lw).drop (i + 1)) := fun q => if_pos (by rw [List.length_append, List.length_take, List.length_drop]; show min i _ + 1 + _ ≤ _; omega)
    rw [c1, Res.ok_bind, c2, Res.ok_bind, c1, Res.ok_bind, c2, Res.ok_bind]
    have lbut : (cut (b.map lw) none (some (-(1 : Int)))).length ≠ (mp R).length := by
      rw [cut_butlast (by omega), lRm]
      omega
    have r2 : rng 0 (2 : Int) = [0, 1] := by decide +kernel
    have turn_ : ∀ x : List (Int × Int), m_check_wanted (mp R) x = .exc .NotMatrix → (mapR (fun z101 => (m__law_told z101 (w : Int) (mp R) x).bind fun y106 => Res.ok y106) (rng 0 (2 : Int))) = .ok [.inr tM, .inr tM] := fun x hx => by
      have q0 : m__law_told (0 : Int) (w : Int) (mp R) x = .ok (.inr tM) := bad 0 x (by decide) hx
      have q1 : m__law_told (1 : Int) (w : Int) (mp R) x = .ok (.inr tM) := bad 1 x (by decide) hx
      rw [r2]
      show (Res.only ((m__law_told 0 (w : Int) (mp R) x).bind _)).bind _ = _
      rw [q0]
      show ((Res.only ((m__law_told 1 (w : Int) (mp R) x).bind _)).bind _).bind _ = _
      rw [q1]
      rfl
    rw [loopC_list _ fun x mx => by
      have hx : m_check_wanted (mp R) x = .exc .NotMatrix := by
        rcases List.mem_cons.mp mx with e | mx
        · rw [e]; exact put_bad lb (by omega) no_24
        · rcases List.mem_cons.mp mx with e | mx
          · rw [e]; exact put_bad lb (by omega) no_10
          · cases List.mem_singleton.mp mx
            exact check_len lbut
      rw [turn_ x hx, Res.ok_bind, ne_MM, Res.ok_bind, if_neg (by decide)]]
    rfl
end MI.MT
namespace MI
open PySem PySem.Spec PyProof.Rows L2 Evl PW
open HD (Dr)
section
variable {P : Program} {w : World} {K : PySem.W.Frag} {mg : Str → Option Value} {base : Heap} {ad : Nat → Addr} {fd : Nat → FuncData}
theorem ok_law (T : Txt K w mg ad fd) : CalG P w K mg base CX0 8 "law" (ad 52) (fd 52) ["script"] (sp_law K) := ok_lawX MT.math_law T
end
theorem all_mk {l : PySem.W.OpenLaw} {w : World} {K : PySem.W.Frag} {h : Heap} {mg : Str → Option Value} {fa q2 q3 q4 q5 q6 q10 q11 q12 q13 q14 q15 q16 q20 q21 q22 q23 q24 q25 q26 q27 q28 q29 q30 q31 q33 q34 q35 q36 q37 q38 q39 q40 q41 q42 q43 q44 q45 q46 q47 q48 q49 q50 q51 q52 : Addr} (X : K.In h) (G : h.Ns mainGlobals mg) (hfa : mg "law" = some (.ref fa)) {qt8 : Addr} {nt8 : Nat} {ut8 ut8b : Tok} (a8 : PySem.W.nsIn K mainGlobals "ZERO" = some (some (.ref qt8))) (lt8 : K.lookup qt8 = some ⟨.type "tuple", none, .seq [Value.int (0) ut8, Value.int (1) ut8b].toArray nt8, #[]⟩) {qt9 : Addr} {nt9 : Nat} {ut9 ut9b : Tok} (a9 : PySem.W.nsIn K mainGlobals "ONE" = some (some (.ref qt9))) (lt9 : K.lookup qt9 = some ⟨.type "tuple", none, .seq [Value.int (1) ut9, Value.int (1) ut9b].toArray nt9, #[]⟩)
  {oc10 kV10 dc10 pm10 cd10 ct10 : Value} {od10 an10 : Option Addr} {sl10 : Array (Option Value)}
  {oc11 kV11 dc11 pm11 cd11 ct11 : Value} {od11 an11 : Option Addr} {sl11 : Array (Option Value)}
  {oc12 kV12 dc12 pm12 cd12 ct12 : Value} {od12 an12 : Option Addr} {sl12 : Array (Option Value)}
  {T12 : Addr} {nT12 : Nat} {u12 : Tok}
  {oc13 kV13 dc13 pm13 cd13 ct13 : Value} {od13 an13 : Option Addr} {sl13 : Array (Option Value)}
  {oc14 kV14 dc14 pm14 cd14 ct14 : Value} {od14 an14 : Option Addr} {sl14 : Array (Option Value)}
  {oc15 kV15 dc15 pm15 cd15 ct15 : Value} {od15 an15 : Option Addr} {sl15 : Array (Option Value)}
  {oc16 kV16 dc16 pm16 cd16 ct16 : Value} {od16 an16 : Option Addr} {sl16 : Array (Option Value)}
  {oc20 kV20 dc20 pm20 cd20 ct20 : Value} {od20 an20 : Option Addr} {sl20 : Array (Option Value)}
  {oc21 kV21 dc21 pm21 cd21 ct21 : Value} {od21 an21 : Option Addr} {sl21 : Array (Option Value)}
  {oc22 kV22 dc22 pm22 cd22 ct22 : Value} {od22 an22 : Option Addr} {sl22 : Array (Option Value)}
  {oc23 kV23 dc23 pm23 cd23 ct23 : Value} {od23 an23 : Option Addr} {sl23 : Array (Option Value)}
  {oc24 kV24 dc24 pm24 cd24 ct24 : Value} {od24 an24 : Option Addr} {sl24 : Array (Option Value)}
  {oc25 kV25 dc25 pm25 cd25 ct25 : Value} {od25 an25 : Option Addr} {sl25 : Array (Option Value)}
  {oc26 kV26 dc26 pm26 cd26 ct26 : Value} {od26 an26 : Option Addr} {sl26 : Array (Option Value)}
  {oc27 kV27 dc27 pm27 cd27 ct27 : Value} {od27 an27 : Option Addr} {sl27 : Array (Option Value)}
  {oc28 kV28 dc28 pm28 cd28 ct28 : Value} {od28 an28 : Option Addr} {sl28 : Array (Option Value)}
  {oc29 kV29 dc29 pm29 cd29 ct29 : Value} {od29 an29 : Option Addr} {sl29 : Array (Option Value)}
  {oc30 kV30 dc30 pm30 cd30 ct30 : Value} {od30 an30 : Option Addr} {sl30 : Array (Option Value)}
  {oc31 kV31 dc31 pm31 cd31 ct31 : Value} {od31 an31 : Option Addr} {sl31 : Array (Option Value)}
  {oc33 kV33 dc33 pm33 cd33 ct33 : Value} {od33 an33 : Option Addr} {sl33 : Array (Option Value)}
  {oc34 kV34 dc34 pm34 cd34 ct34 : Value} {od34 an34 : Option Addr} {sl34 : Array (Option Value)}
  {oc35 kV35 dc35 pm35 cd35 ct35 : Value} {od35 an35 : Option Addr} {sl35 : Array (Option Value)}
  {oc36 kV36 dc36 pm36 cd36 ct36 : Value} {od36 an36 : Option Addr} {sl36 : Array (Option Value)}
  {oc37 kV37 dc37 pm37 cd37 ct37 : Value} {od37 an37 : Option Addr} {sl37 : Array (Option Value)}
  {oc38 kV38 dc38 pm38 cd38 ct38 : Value} {od38 an38 : Option Addr} {sl38 : Array (Option Value)}
  {oc39 kV39 dc39 pm39 cd39 ct39 : Value} {od39 an39 : Option Addr} {sl39 : Array (Option Value)}
  {oc40 kV40 dc40 pm40 cd40 ct40 : Value} {od40 an40 : Option Addr} {sl40 : Array (Option Value)}
  {oc41 kV41 dc41 pm41 cd41 ct41 : Value} {od41 an41 : Option Addr} {sl41 : Array (Option Value)}
  {oc42 kV42 dc42 pm42 cd42 ct42 : Value} {od42 an42 : Option Addr} {sl42 : Array (Option Value)}
  {oc43 kV43 dc43 pm43 cd43 ct43 : Value} {od43 an43 : Option Addr} {sl43 : Array (Option Value)}
  {oc44 kV44 dc44 pm44 cd44 ct44 : Value} {od44 an44 : Option Addr} {sl44 : Array (Option Value)}
  {oc45 kV45 dc45 pm45 cd45 ct45 : Value} {od45 an45 : Option Addr} {sl45 : Array (Option Value)}
  {oc46 kV46 dc46 pm46 cd46 ct46 : Value} {od46 an46 : Option Addr} {sl46 : Array (Option Value)}
  {oc47 kV47 dc47 pm47 cd47 ct47 : Value} {od47 an47 : Option Addr} {sl47 : Array (Option Value)}
  {oc48 kV48 dc48 pm48 cd48 ct48 : Value} {od48 an48 : Option Addr} {sl48 : Array (Option Value)}
  {oc49 kV49 dc49 pm49 cd49 ct49 : Value} {od49 an49 : Option Addr} {sl49 : Array (Option Value)}
  {oc50 kV50 dc50 pm50 cd50 ct50 : Value} {od50 an50 : Option Addr} {sl50 : Array (Option Value)}
  {oc51 kV51 dc51 pm51 cd51 ct51 : Value} {od51 an51 : Option Addr} {sl51 : Array (Option Value)}
  {oc52 kV52 dc52 pm52 cd52 ct52 : Value} {od52 an52 : Option Addr} {sl52 : Array (Option Value)}
  {uc18 : Tok}
  {uc19 : Tok}
  (a10 : PySem.W.nsIn K mainGlobals "is_number" = some (some (.ref q10)))
  (l10 : K.lookup q10 = some ⟨oc10, od10, .func (PySem.W.fnOf "is_number" "is_number" (defArgs s_is_number) (defBody s_is_number) (defScope s_is_number) .none kV10 dc10 pm10 an10 cd10 ct10), sl10⟩)
  (c10 : PySem.W.codeIn K cd10 "is_number" = true)
  (k10 : PySem.W.keepIn K (.ref q10) = true)
  (a11 : PySem.W.nsIn K mainGlobals "check_number" = some (some (.ref q11)))
  (l11 : K.lookup q11 = some ⟨oc11, od11, .func (PySem.W.fnOf "check_number" "check_number" (defArgs s_check_number) (defBody s_check_number) (defScope s_check_number) .none kV11 dc11 pm11 an11 cd11 ct11), sl11⟩)
  (c11 : PySem.W.codeIn K cd11 "check_number" = true)
  (k11 : PySem.W.keepIn K (.ref q11) = true)
  (a12 : PySem.W.nsIn K mainGlobals "number" = some (some (.ref q12)))
  (l12 : K.lookup q12 = some ⟨oc12, od12, .func (PySem.W.fnOf "number" "number" (defArgs s_number) (defBody s_number) (defScope s_number) (.ref T12) kV12 dc12 pm12 an12 cd12 ct12), sl12⟩)
  (c12 : PySem.W.codeIn K cd12 "number" = true)
  (k12 : PySem.W.keepIn K (.ref q12) = true)
  (t12 : K.lookup T12 = some ⟨.type "tuple", none, .seq [(Value.int 1 u12)].toArray nT12, #[]⟩)
  (a13 : PySem.W.nsIn K mainGlobals "content" = some (some (.ref q13)))
  (l13 : K.lookup q13 = some ⟨oc13, od13, .func (PySem.W.fnOf "content" "content" (defArgs s_content) (defBody s_content) (defScope s_content) .none kV13 dc13 pm13 an13 cd13 ct13), sl13⟩)
  (c13 : PySem.W.codeIn K cd13 "content" = true)
  (k13 : PySem.W.keepIn K (.ref q13) = true)
  (a14 : PySem.W.nsIn K mainGlobals "primitive" = some (some (.ref q14)))
  (l14 : K.lookup q14 = some ⟨oc14, od14, .func (PySem.W.fnOf "primitive" "primitive" (defArgs s_primitive) (defBody s_primitive) (defScope s_primitive) .none kV14 dc14 pm14 an14 cd14 ct14), sl14⟩)
  (c14 : PySem.W.codeIn K cd14 "primitive" = true)
  (k14 : PySem.W.keepIn K (.ref q14) = true)
  (a15 : PySem.W.nsIn K mainGlobals "over_one_divisor" = some (some (.ref q15)))
  (l15 : K.lookup q15 = some ⟨oc15, od15, .func (PySem.W.fnOf "over_one_divisor" "over_one_divisor" (defArgs s_over_one_divisor) (defBody s_over_one_divisor) (defScope s_over_one_divisor) .none kV15 dc15 pm15 an15 cd15 ct15), sl15⟩)
  (c15 : PySem.W.codeIn K cd15 "over_one_divisor" = true)
  (k15 : PySem.W.keepIn K (.ref q15) = true)
  (a16 : PySem.W.nsIn K mainGlobals "cleared" = some (some (.ref q16)))
  (l16 : K.lookup q16 = some ⟨oc16, od16, .func (PySem.W.fnOf "cleared" "cleared" (defArgs s_cleared) (defBody s_cleared) (defScope s_cleared) .none kV16 dc16 pm16 an16 cd16 ct16), sl16⟩)
  (c16 : PySem.W.codeIn K cd16 "cleared" = true)
  (k16 : PySem.W.keepIn K (.ref q16) = true)
  (a20 : PySem.W.nsIn K mainGlobals "is_number_row" = some (some (.ref q20)))
  (l20 : K.lookup q20 = some ⟨oc20, od20, .func (PySem.W.fnOf "is_number_row" "is_number_row" (defArgs s_is_number_row) (defBody s_is_number_row) (defScope s_is_number_row) .none kV20 dc20 pm20 an20 cd20 ct20), sl20⟩)
  (c20 : PySem.W.codeIn K cd20 "is_number_row" = true)
  (k20 : PySem.W.keepIn K (.ref q20) = true)
  (a21 : PySem.W.nsIn K mainGlobals "check_matrix" = some (some (.ref q21)))
  (l21 : K.lookup q21 = some ⟨oc21, od21, .func (PySem.W.fnOf "check_matrix" "check_matrix" (defArgs s_check_matrix) (defBody s_check_matrix) (defScope s_check_matrix) .none kV21 dc21 pm21 an21 cd21 ct21), sl21⟩)
  (c21 : PySem.W.codeIn K cd21 "check_matrix" = true)
  (k21 : PySem.W.keepIn K (.ref q21) = true)
  (a22 : PySem.W.nsIn K mainGlobals "unit_row" = some (some (.ref q22)))
  (l22 : K.lookup q22 = some ⟨oc22, od22, .func (PySem.W.fnOf "unit_row" "unit_row" (defArgs s_unit_row) (defBody s_unit_row) (defScope s_unit_row) .none kV22 dc22 pm22 an22 cd22 ct22), sl22⟩)
  (c22 : PySem.W.codeIn K cd22 "unit_row" = true)
  (k22 : PySem.W.keepIn K (.ref q22) = true)
  (a23 : PySem.W.nsIn K mainGlobals "first_row_with" = some (some (.ref q23)))
  (l23 : K.lookup q23 = some ⟨oc23, od23, .func (PySem.W.fnOf "first_row_with" "first_row_with" (defArgs s_first_row_with) (defBody s_first_row_with) (defScope s_first_row_with) .none kV23 dc23 pm23 an23 cd23 ct23), sl23⟩)
  (c23 : PySem.W.codeIn K cd23 "first_row_with" = true)
  (k23 : PySem.W.keepIn K (.ref q23) = true)
  (a24 : PySem.W.nsIn K mainGlobals "struck" = some (some (.ref q24)))
  (l24 : K.lookup q24 = some ⟨oc24, od24, .func (PySem.W.fnOf "struck" "struck" (defArgs s_struck) (defBody s_struck) (defScope s_struck) .none kV24 dc24 pm24 an24 cd24 ct24), sl24⟩)
  (c24 : PySem.W.codeIn K cd24 "struck" = true)
  (k24 : PySem.W.keepIn K (.ref q24) = true)
  (a25 : PySem.W.nsIn K mainGlobals "whole_echelon" = some (some (.ref q25)))
  (l25 : K.lookup q25 = some ⟨oc25, od25, .func (PySem.W.fnOf "whole_echelon" "whole_echelon" (defArgs s_whole_echelon) (defBody s_whole_echelon) (defScope s_whole_echelon) .none kV25 dc25 pm25 an25 cd25 ct25), sl25⟩)
  (c25 : PySem.W.codeIn K cd25 "whole_echelon" = true)
  (k25 : PySem.W.keepIn K (.ref q25) = true)
  (a26 : PySem.W.nsIn K mainGlobals "solution_from" = some (some (.ref q26)))
  (l26 : K.lookup q26 = some ⟨oc26, od26, .func (PySem.W.fnOf "solution_from" "solution_from" (defArgs s_solution_from) (defBody s_solution_from) (defScope s_solution_from) .none kV26 dc26 pm26 an26 cd26 ct26), sl26⟩)
  (c26 : PySem.W.codeIn K cd26 "solution_from" = true)
  (k26 : PySem.W.keepIn K (.ref q26) = true)
  (a27 : PySem.W.nsIn K mainGlobals "solution_or_none" = some (some (.ref q27)))
  (l27 : K.lookup q27 = some ⟨oc27, od27, .func (PySem.W.fnOf "solution_or_none" "solution_or_none" (defArgs s_solution_or_none) (defBody s_solution_or_none) (defScope s_solution_or_none) .none kV27 dc27 pm27 an27 cd27 ct27), sl27⟩)
  (c27 : PySem.W.codeIn K cd27 "solution_or_none" = true)
  (k27 : PySem.W.keepIn K (.ref q27) = true)
  (a28 : PySem.W.nsIn K mainGlobals "columns_of" = some (some (.ref q28)))
  (l28 : K.lookup q28 = some ⟨oc28, od28, .func (PySem.W.fnOf "columns_of" "columns_of" (defArgs s_columns_of) (defBody s_columns_of) (defScope s_columns_of) .none kV28 dc28 pm28 an28 cd28 ct28), sl28⟩)
  (c28 : PySem.W.codeIn K cd28 "columns_of" = true)
  (k28 : PySem.W.keepIn K (.ref q28) = true)
  (a29 : PySem.W.nsIn K mainGlobals "check_wanted" = some (some (.ref q29)))
  (l29 : K.lookup q29 = some ⟨oc29, od29, .func (PySem.W.fnOf "check_wanted" "check_wanted" (defArgs s_check_wanted) (defBody s_check_wanted) (defScope s_check_wanted) .none kV29 dc29 pm29 an29 cd29 ct29), sl29⟩)
  (c29 : PySem.W.codeIn K cd29 "check_wanted" = true)
  (k29 : PySem.W.keepIn K (.ref q29) = true)
  (a30 : PySem.W.nsIn K mainGlobals "solution" = some (some (.ref q30)))
  (l30 : K.lookup q30 = some ⟨oc30, od30, .func (PySem.W.fnOf "solution" "solution" (defArgs s_solution) (defBody s_solution) (defScope s_solution) .none kV30 dc30 pm30 an30 cd30 ct30), sl30⟩)
  (c30 : PySem.W.codeIn K cd30 "solution" = true)
  (k30 : PySem.W.keepIn K (.ref q30) = true)
  (a31 : PySem.W.nsIn K mainGlobals "clash" = some (some (.ref q31)))
  (l31 : K.lookup q31 = some ⟨oc31, od31, .func (PySem.W.fnOf "clash" "clash" (defArgs s_clash) (defBody s_clash) (defScope s_clash) .none kV31 dc31 pm31 an31 cd31 ct31), sl31⟩)
  (c31 : PySem.W.codeIn K cd31 "clash" = true)
  (k31 : PySem.W.keepIn K (.ref q31) = true)
  (a33 : PySem.W.nsIn K mainGlobals "_law_number" = some (some (.ref q33)))
  (l33 : K.lookup q33 = some ⟨oc33, od33, .func (PySem.W.fnOf "_law_number" "_law_number" (defArgs s__law_number) (defBody s__law_number) (defScope s__law_number) .none kV33 dc33 pm33 an33 cd33 ct33), sl33⟩)
  (c33 : PySem.W.codeIn K cd33 "_law_number" = true)
  (k33 : PySem.W.keepIn K (.ref q33) = true)
  (a34 : PySem.W.nsIn K mainGlobals "_law_draws" = some (some (.ref q34)))
  (l34 : K.lookup q34 = some ⟨oc34, od34, .func (PySem.W.fnOf "_law_draws" "_law_draws" (defArgs s__law_draws) (defBody s__law_draws) (defScope s__law_draws) .none kV34 dc34 pm34 an34 cd34 ct34), sl34⟩)
  (c34 : PySem.W.codeIn K cd34 "_law_draws" = true)
  (k34 : PySem.W.keepIn K (.ref q34) = true)
  (a35 : PySem.W.nsIn K mainGlobals "_law_next" = some (some (.ref q35)))
  (l35 : K.lookup q35 = some ⟨oc35, od35, .func (PySem.W.fnOf "_law_next" "_law_next" (defArgs s__law_next) (defBody s__law_next) (defScope s__law_next) .none kV35 dc35 pm35 an35 cd35 ct35), sl35⟩)
  (c35 : PySem.W.codeIn K cd35 "_law_next" = true)
  (k35 : PySem.W.keepIn K (.ref q35) = true)
  (a36 : PySem.W.nsIn K mainGlobals "_law_divisor" = some (some (.ref q36)))
  (l36 : K.lookup q36 = some ⟨oc36, od36, .func (PySem.W.fnOf "_law_divisor" "_law_divisor" (defArgs s__law_divisor) (defBody s__law_divisor) (defScope s__law_divisor) .none kV36 dc36 pm36 an36 cd36 ct36), sl36⟩)
  (c36 : PySem.W.codeIn K cd36 "_law_divisor" = true)
  (k36 : PySem.W.keepIn K (.ref q36) = true)
  (a37 : PySem.W.nsIn K mainGlobals "_law_lowest" = some (some (.ref q37)))
  (l37 : K.lookup q37 = some ⟨oc37, od37, .func (PySem.W.fnOf "_law_lowest" "_law_lowest" (defArgs s__law_lowest) (defBody s__law_lowest) (defScope s__law_lowest) .none kV37 dc37 pm37 an37 cd37 ct37), sl37⟩)
  (c37 : PySem.W.codeIn K cd37 "_law_lowest" = true)
  (k37 : PySem.W.keepIn K (.ref q37) = true)
  (a38 : PySem.W.nsIn K mainGlobals "_law_plus" = some (some (.ref q38)))
  (l38 : K.lookup q38 = some ⟨oc38, od38, .func (PySem.W.fnOf "_law_plus" "_law_plus" (defArgs s__law_plus) (defBody s__law_plus) (defScope s__law_plus) .none kV38 dc38 pm38 an38 cd38 ct38), sl38⟩)
  (c38 : PySem.W.codeIn K cd38 "_law_plus" = true)
  (k38 : PySem.W.keepIn K (.ref q38) = true)
  (a39 : PySem.W.nsIn K mainGlobals "_law_times" = some (some (.ref q39)))
  (l39 : K.lookup q39 = some ⟨oc39, od39, .func (PySem.W.fnOf "_law_times" "_law_times" (defArgs s__law_times) (defBody s__law_times) (defScope s__law_times) .none kV39 dc39 pm39 an39 cd39 ct39), sl39⟩)
  (c39 : PySem.W.codeIn K cd39 "_law_times" = true)
  (k39 : PySem.W.keepIn K (.ref q39) = true)
  (a40 : PySem.W.nsIn K mainGlobals "_law_less" = some (some (.ref q40)))
  (l40 : K.lookup q40 = some ⟨oc40, od40, .func (PySem.W.fnOf "_law_less" "_law_less" (defArgs s__law_less) (defBody s__law_less) (defScope s__law_less) .none kV40 dc40 pm40 an40 cd40 ct40), sl40⟩)
  (c40 : PySem.W.codeIn K cd40 "_law_less" = true)
  (k40 : PySem.W.keepIn K (.ref q40) = true)
  (a41 : PySem.W.nsIn K mainGlobals "_law_dot" = some (some (.ref q41)))
  (l41 : K.lookup q41 = some ⟨oc41, od41, .func (PySem.W.fnOf "_law_dot" "_law_dot" (defArgs s__law_dot) (defBody s__law_dot) (defScope s__law_dot) .none kV41 dc41 pm41 an41 cd41 ct41), sl41⟩)
  (c41 : PySem.W.codeIn K cd41 "_law_dot" = true)
  (k41 : PySem.W.keepIn K (.ref q41) = true)
  (a42 : PySem.W.nsIn K mainGlobals "_law_fraction" = some (some (.ref q42)))
  (l42 : K.lookup q42 = some ⟨oc42, od42, .func (PySem.W.fnOf "_law_fraction" "_law_fraction" (defArgs s__law_fraction) (defBody s__law_fraction) (defScope s__law_fraction) .none kV42 dc42 pm42 an42 cd42 ct42), sl42⟩)
  (c42 : PySem.W.codeIn K cd42 "_law_fraction" = true)
  (k42 : PySem.W.keepIn K (.ref q42) = true)
  (a43 : PySem.W.nsIn K mainGlobals "_law_matrix" = some (some (.ref q43)))
  (l43 : K.lookup q43 = some ⟨oc43, od43, .func (PySem.W.fnOf "_law_matrix" "_law_matrix" (defArgs s__law_matrix) (defBody s__law_matrix) (defScope s__law_matrix) .none kV43 dc43 pm43 an43 cd43 ct43), sl43⟩)
  (c43 : PySem.W.codeIn K cd43 "_law_matrix" = true)
  (k43 : PySem.W.keepIn K (.ref q43) = true)
  (a44 : PySem.W.nsIn K mainGlobals "_law_over" = some (some (.ref q44)))
  (l44 : K.lookup q44 = some ⟨oc44, od44, .func (PySem.W.fnOf "_law_over" "_law_over" (defArgs s__law_over) (defBody s__law_over) (defScope s__law_over) .none kV44 dc44 pm44 an44 cd44 ct44), sl44⟩)
  (c44 : PySem.W.codeIn K cd44 "_law_over" = true)
  (k44 : PySem.W.keepIn K (.ref q44) = true)
  (a45 : PySem.W.nsIn K mainGlobals "_law_echelon" = some (some (.ref q45)))
  (l45 : K.lookup q45 = some ⟨oc45, od45, .func (PySem.W.fnOf "_law_echelon" "_law_echelon" (defArgs s__law_echelon) (defBody s__law_echelon) (defScope s__law_echelon) .none kV45 dc45 pm45 an45 cd45 ct45), sl45⟩)
  (c45 : PySem.W.codeIn K cd45 "_law_echelon" = true)
  (k45 : PySem.W.keepIn K (.ref q45) = true)
  (a46 : PySem.W.nsIn K mainGlobals "_law_taken" = some (some (.ref q46)))
  (l46 : K.lookup q46 = some ⟨oc46, od46, .func (PySem.W.fnOf "_law_taken" "_law_taken" (defArgs s__law_taken) (defBody s__law_taken) (defScope s__law_taken) .none kV46 dc46 pm46 an46 cd46 ct46), sl46⟩)
  (c46 : PySem.W.codeIn K cd46 "_law_taken" = true)
  (k46 : PySem.W.keepIn K (.ref q46) = true)
  (a47 : PySem.W.nsIn K mainGlobals "_law_pivots" = some (some (.ref q47)))
  (l47 : K.lookup q47 = some ⟨oc47, od47, .func (PySem.W.fnOf "_law_pivots" "_law_pivots" (defArgs s__law_pivots) (defBody s__law_pivots) (defScope s__law_pivots) .none kV47 dc47 pm47 an47 cd47 ct47), sl47⟩)
  (c47 : PySem.W.codeIn K cd47 "_law_pivots" = true)
  (k47 : PySem.W.keepIn K (.ref q47) = true)
  (a48 : PySem.W.nsIn K mainGlobals "_law_told" = some (some (.ref q48)))
  (l48 : K.lookup q48 = some ⟨oc48, od48, .func (PySem.W.fnOf "_law_told" "_law_told" (defArgs s__law_told) (defBody s__law_told) (defScope s__law_told) .none kV48 dc48 pm48 an48 cd48 ct48), sl48⟩)
  (c48 : PySem.W.codeIn K cd48 "_law_told" = true)
  (k48 : PySem.W.keepIn K (.ref q48) = true)
  (a49 : PySem.W.nsIn K mainGlobals "_law_wanted" = some (some (.ref q49)))
  (l49 : K.lookup q49 = some ⟨oc49, od49, .func (PySem.W.fnOf "_law_wanted" "_law_wanted" (defArgs s__law_wanted) (defBody s__law_wanted) (defScope s__law_wanted) .none kV49 dc49 pm49 an49 cd49 ct49), sl49⟩)
  (c49 : PySem.W.codeIn K cd49 "_law_wanted" = true)
  (k49 : PySem.W.keepIn K (.ref q49) = true)
  (a50 : PySem.W.nsIn K mainGlobals "_law_solves" = some (some (.ref q50)))
  (l50 : K.lookup q50 = some ⟨oc50, od50, .func (PySem.W.fnOf "_law_solves" "_law_solves" (defArgs s__law_solves) (defBody s__law_solves) (defScope s__law_solves) .none kV50 dc50 pm50 an50 cd50 ct50), sl50⟩)
  (c50 : PySem.W.codeIn K cd50 "_law_solves" = true)
  (k50 : PySem.W.keepIn K (.ref q50) = true)
  (a51 : PySem.W.nsIn K mainGlobals "_law_clashes" = some (some (.ref q51)))
  (l51 : K.lookup q51 = some ⟨oc51, od51, .func (PySem.W.fnOf "_law_clashes" "_law_clashes" (defArgs s__law_clashes) (defBody s__law_clashes) (defScope s__law_clashes) .none kV51 dc51 pm51 an51 cd51 ct51), sl51⟩)
  (c51 : PySem.W.codeIn K cd51 "_law_clashes" = true)
  (k51 : PySem.W.keepIn K (.ref q51) = true)
  (a52 : PySem.W.nsIn K mainGlobals "law" = some (some (.ref q52)))
  (l52 : K.lookup q52 = some ⟨oc52, od52, .func (PySem.W.fnOf "law" "law" (defArgs s_law) (defBody s_law) (defScope s_law) .none kV52 dc52 pm52 an52 cd52 ct52), sl52⟩)
  (c52 : PySem.W.codeIn K cd52 "law" = true)
  (k52 : PySem.W.keepIn K (.ref q52) = true)
  (a18 : PySem.W.nsIn K mainGlobals "MOST_WIDTH" = some (some (.int 64 uc18)))
  (a19 : PySem.W.nsIn K mainGlobals "MOST_ROWS" = some (some (.int 64 uc19)))
  (m_tuple : PySem.W.nsIn K mainGlobals "tuple" = some none)
  (m_isinstance : PySem.W.nsIn K mainGlobals "isinstance" = some none)
  (m_all : PySem.W.nsIn K mainGlobals "all" = some none)
  (m_len : PySem.W.nsIn K mainGlobals "len" = some none)
  (m_range : PySem.W.nsIn K mainGlobals "range" = some none)
  (m_enumerate : PySem.W.nsIn K mainGlobals "enumerate" = some none)
  (m_zip : PySem.W.nsIn K mainGlobals "zip" = some none)
  (m_int : PySem.W.nsIn K mainGlobals "int" = some none)
  (m_abs : PySem.W.nsIn K mainGlobals "abs" = some none)
  (m_list : PySem.W.nsIn K mainGlobals "list" = some none)
  (m_str : PySem.W.nsIn K mainGlobals "str" = some none)
  (b_gcd : PySem.W.nsIn K mainGlobals "gcd" = some (some (.builtin "math.gcd")))
  (b_lcm : PySem.W.nsIn K mainGlobals "lcm" = some (some (.builtin "math.lcm")))
  (a2 : PySem.W.nsIn K mainGlobals "PlaneError" = some (some (.ref q2)))
  (a3 : PySem.W.nsIn K mainGlobals "NotNumber" = some (some (.ref q3)))
  (x3 : PySem.W.excIn K q3 [.type "ValueError", .type "Exception", .type "BaseException", .type "object"] "ValueError.__new__" = true)
  (k3 : PySem.W.keepIn K (.ref q3) = true)
  (s3 : PySem.W.subIn K (.ref q3) (.type "BaseException") = some true)
  (t3 : PySem.W.typeIn K (.ref q3) = some (.type "type"))
  (a4 : PySem.W.nsIn K mainGlobals "NotMatrix" = some (some (.ref q4)))
  (x4 : PySem.W.excIn K q4 [.type "ValueError", .type "Exception", .type "BaseException", .type "object"] "ValueError.__new__" = true)
  (k4 : PySem.W.keepIn K (.ref q4) = true)
  (s4 : PySem.W.subIn K (.ref q4) (.type "BaseException") = some true)
  (t4 : PySem.W.typeIn K (.ref q4) = some (.type "type"))
  (a5 : PySem.W.nsIn K mainGlobals "BadNumber" = some (some (.ref q5)))
  (x5 : PySem.W.excIn K q5 [.type "ValueError", .type "Exception", .type "BaseException", .type "object"] "ValueError.__new__" = true)
  (k5 : PySem.W.keepIn K (.ref q5) = true)
  (s5 : PySem.W.subIn K (.ref q5) (.type "BaseException") = some true)
  (t5 : PySem.W.typeIn K (.ref q5) = some (.type "type"))
  (a6 : PySem.W.nsIn K mainGlobals "NoAnswer" = some (some (.ref q6)))
  (x6 : PySem.W.excIn K q6 [.type "ValueError", .type "Exception", .type "BaseException", .type "object"] "ValueError.__new__" = true)
  (k6 : PySem.W.keepIn K (.ref q6) = true)
  (s6 : PySem.W.subIn K (.ref q6) (.type "BaseException") = some true)
  (t6 : PySem.W.typeIn K (.ref q6) = some (.type "type"))
  (s2 : PySem.W.subIn K (.ref q2) (.type "BaseException") = some true)
  (t2 : PySem.W.typeIn K (.ref q2) = some (.type "type"))
  (h2 : PySem.W.hasDictIn K q2 = true)
  (e5_2 : PySem.W.subIn K (.ref q5) (.ref q2) = some true)
  (e6_2 : PySem.W.subIn K (.ref q6) (.ref q2) = some true)
  (e4_2 : PySem.W.subIn K (.ref q4) (.ref q2) = some true)
  (e3_2 : PySem.W.subIn K (.ref q3) (.ref q2) = some true)
  (cn : PySem.W.specialIn K (.builtin "object.__class__") "__get__" = some (some (.builtin "getset_descriptor.__get__")))
  (ct : PySem.W.takesIn K (.builtin "object.__class__") = some true)
  (cg5 : PySem.W.findIn K (.ref q5) "__getattribute__" = some (some (.builtin "BaseException.__getattribute__")))
  (ck5 : PySem.W.findIn K (.ref q5) "__getattr__" = some none)
  (cd5 : PySem.W.hasDictIn K q5 = true)
  (ca5 : PySem.W.findIn K (.ref q5) "__class__" = some (some (.builtin "object.__class__")))
  (cm5 : PySem.W.mroIn K q5 (.type "object") = some true)
  (cg6 : PySem.W.findIn K (.ref q6) "__getattribute__" = some (some (.builtin "BaseException.__getattribute__")))
  (ck6 : PySem.W.findIn K (.ref q6) "__getattr__" = some none)
  (cd6 : PySem.W.hasDictIn K q6 = true)
  (ca6 : PySem.W.findIn K (.ref q6) "__class__" = some (some (.builtin "object.__class__")))
  (cm6 : PySem.W.mroIn K q6 (.type "object") = some true)
  (cg4 : PySem.W.findIn K (.ref q4) "__getattribute__" = some (some (.builtin "BaseException.__getattribute__")))
  (ck4 : PySem.W.findIn K (.ref q4) "__getattr__" = some none)
  (cd4 : PySem.W.hasDictIn K q4 = true)
  (ca4 : PySem.W.findIn K (.ref q4) "__class__" = some (some (.builtin "object.__class__")))
  (cm4 : PySem.W.mroIn K q4 (.type "object") = some true)
  (cg3 : PySem.W.findIn K (.ref q3) "__getattribute__" = some (some (.builtin "BaseException.__getattribute__")))
  (ck3 : PySem.W.findIn K (.ref q3) "__getattr__" = some none)
  (cd3 : PySem.W.hasDictIn K q3 = true)
  (ca3 : PySem.W.findIn K (.ref q3) "__class__" = some (some (.builtin "object.__class__")))
  (cm3 : PySem.W.mroIn K q3 (.type "object") = some true)
  (i5_6 : PySem.W.kitOne K (.ref q5) (.ref q6) = some false)
  (i5_4 : PySem.W.kitOne K (.ref q5) (.ref q4) = some false)
  (i6_6 : PySem.W.kitOne K (.ref q6) (.ref q6) = some true)
  (i6_4 : PySem.W.kitOne K (.ref q6) (.ref q4) = some false)
  (i4_6 : PySem.W.kitOne K (.ref q4) (.ref q6) = some false)
  (i4_4 : PySem.W.kitOne K (.ref q4) (.ref q4) = some true)
  (i3_6 : PySem.W.kitOne K (.ref q3) (.ref q6) = some false)
  (i3_4 : PySem.W.kitOne K (.ref q3) (.ref q4) = some false) :
  ∃ fd : FuncData, (∀ (s : Shared) (v : Value), BindsTo s fd ⟨[v], []⟩ [("script", v)]) ∧ ∀ base : Heap, K.In base → base.Ns mainGlobals mg → FnG l.prog w K mg base CX0 8 fa fd ["script"] (sp_law K) := by
  have e := hfa.symm.trans (PySem.W.mg_of X G a52)
  cases e
  have T : Txt K w mg (fun i => match i with | 2 => q2 | 3 => q3 | 4 => q4 | 5 => q5 | 6 => q6 | 10 => q10 | 11 => q11 | 12 => q12 | 13 => q13 | 14 => q14 | 15 => q15 | 16 => q16 | 20 => q20 | 21 => q21 | 22 => q22 | 23 => q23 | 24 => q24 | 25 => q25 | 26 => q26 | 27 => q27 | 28 => q28 | 29 => q29 | 30 => q30 | 31 => q31 | 33 => q33 | 34 => q34 | 35 => q35 | 36 => q36 | 37 => q37 | 38 => q38 | 39 => q39 | 40 => q40 | 41 => q41 | 42 => q42 | 43 => q43 | 44 => q44 | 45 => q45 | 46 => q46 | 47 => q47 | 48 => q48 | 49 => q49 | 50 => q50 | 51 => q51 | 52 => fa | _ => 0) (fun i => match i with | 10 => (PySem.W.fnOf "is_number" "is_number" (defArgs s_is_number) (defBody s_is_number) (defScope s_is_number) .none kV10 dc10 pm10 an10 cd10 ct10) | 11 => (PySem.W.fnOf "check_number" "check_number" (defArgs s_check_number) (defBody s_check_number) (defScope s_check_number) .none kV11 dc11 pm11 an11 cd11 ct11) | 12 => (PySem.W.fnOf "number" "number" (defArgs s_number) (defBody s_number) (defScope s_number) (.ref T12) kV12 dc12 pm12 an12 cd12 ct12) | 13 => (PySem.W.fnOf "content" "content" (defArgs s_content) (defBody s_content) (defScope s_content) .none kV13 dc13 pm13 an13 cd13 ct13) | 14 => (PySem.W.fnOf "primitive" "primitive" (defArgs s_primitive) (defBody s_primitive) (defScope s_primitive) .none kV14 dc14 pm14 an14 cd14 ct14) | 15 => (PySem.W.fnOf "over_one_divisor" "over_one_divisor" (defArgs s_over_one_divisor) (defBody s_over_one_divisor) (defScope s_over_one_divisor) .none kV15 dc15 pm15 an15 cd15 ct15) | 16 => (PySem.W.fnOf "cleared" "cleared" (defArgs s_cleared) (defBody s_cleared) (defScope s_cleared) .none kV16 dc16 pm16 an16 cd16 ct16) | 20 => (PySem.W.fnOf "is_number_row" "is_number_row" (defArgs s_is_number_row) (defBody s_is_number_row) (defScope s_is_number_row) .none kV20 dc20 pm20 an20 cd20 ct20) | 21 => (PySem.W.fnOf "check_matrix" "check_matrix" (defArgs s_check_matrix) (defBody s_check_matrix) (defScope s_check_matrix) .none kV21 dc21 pm21 an21 cd21 ct21) | 22 => (PySem.W.fnOf "unit_row" "unit_row" (defArgs s_unit_row) (defBody s_unit_row) (defScope s_unit_row) .none kV22 dc22 pm22 an22 cd22 ct22) | 23 => (PySem.W.fnOf "first_row_with" "first_row_with" (defArgs s_first_row_with) (defBody s_first_row_with) (defScope s_first_row_with) .none kV23 dc23 pm23 an23 cd23 ct23) | 24 => (PySem.W.fnOf "struck" "struck" (defArgs s_struck) (defBody s_struck) (defScope s_struck) .none kV24 dc24 pm24 an24 cd24 ct24) | 25 => (PySem.W.fnOf "whole_echelon" "whole_echelon" (defArgs s_whole_echelon) (defBody s_whole_echelon) (defScope s_whole_echelon) .none kV25 dc25 pm25 an25 cd25 ct25) | 26 => (PySem.W.fnOf "solution_from" "solution_from" (defArgs s_solution_from) (defBody s_solution_from) (defScope s_solution_from) .none kV26 dc26 pm26 an26 cd26 ct26) | 27 => (PySem.W.fnOf "solution_or_none" "solution_or_none" (defArgs s_solution_or_none) (defBody s_solution_or_none) (defScope s_solution_or_none) .none kV27 dc27 pm27 an27 cd27 ct27) | 28 => (PySem.W.fnOf "columns_of" "columns_of" (defArgs s_columns_of) (defBody s_columns_of) (defScope s_columns_of) .none kV28 dc28 pm28 an28 cd28 ct28) | 29 => (PySem.W.fnOf "check_wanted" "check_wanted" (defArgs s_check_wanted) (defBody s_check_wanted) (defScope s_check_wanted) .none kV29 dc29 pm29 an29 cd29 ct29) | 30 => (PySem.W.fnOf "solution" "solution" (defArgs s_solution) (defBody s_solution) (defScope s_solution) .none kV30 dc30 pm30 an30 cd30 ct30) | 31 => (PySem.W.fnOf "clash" "clash" (defArgs s_clash) (defBody s_clash) (defScope s_clash) .none kV31 dc31 pm31 an31 cd31 ct31) | 33 => (PySem.W.fnOf "_law_number" "_law_number" (defArgs s__law_number) (defBody s__law_number) (defScope s__law_number) .none kV33 dc33 pm33 an33 cd33 ct33) | 34 => (PySem.W.fnOf "_law_draws" "_law_draws" (defArgs s__law_draws) (defBody s__law_draws) (defScope s__law_draws) .none kV34 dc34 pm34 an34 cd34 ct34) | 35 => (PySem.W.fnOf "_law_next" "_law_next" (defArgs s__law_next) (defBody s__law_next) (defScope s__law_next) .none kV35 dc35 pm35 an35 cd35 ct35) | 36 => (PySem.W.fnOf "_law_divisor" "_law_divisor" (defArgs s__law_divisor) (defBody s__law_divisor) (defScope s__law_divisor) .none kV36 dc36 pm36 an36 cd36 ct36) | 37 => (PySem.W.fnOf "_law_lowest" "_law_lowest" (defArgs s__law_lowest) (defBody s__law_lowest) (defScope s__law_lowest) .none kV37 dc37 pm37 an37 cd37 ct37) | 38 => (PySem.W.fnOf "_law_plus" "_law_plus" (defArgs s__law_plus) (defBody s__law_plus) (defScope s__law_plus) .none kV38 dc38 pm38 an38 cd38 ct38) | 39 => (PySem.W.fnOf "_law_times" "_law_times" (defArgs s__law_times) (defBody s__law_times) (defScope s__law_times) .none kV39 dc39 pm39 an39 cd39 ct39) | 40 => (PySem.W.fnOf "_law_less" "_law_less" (defArgs s__law_less) (defBody s__law_less) (defScope s__law_less) .none kV40 dc40 pm40 an40 cd40 ct40) | 41 => (PySem.W.fnOf "_law_dot" "_law_dot" (defArgs s__law_dot) (defBody s__law_dot) (defScope s__law_dot) .none kV41 dc41 pm41 an41 cd41 ct41) | 42 => (PySem.W.fnOf "_law_fraction" "_law_fraction" (defArgs s__law_fraction) (defBody s__law_fraction) (defScope s__law_fraction) .none kV42 dc42 pm42 an42 cd42 ct42) | 43 => (PySem.W.fnOf "_law_matrix" "_law_matrix" (defArgs s__law_matrix) (defBody s__law_matrix) (defScope s__law_matrix) .none kV43 dc43 pm43 an43 cd43 ct43) | 44 => (PySem.W.fnOf "_law_over" "_law_over" (defArgs s__law_over) (defBody s__law_over) (defScope s__law_over) .none kV44 dc44 pm44 an44 cd44 ct44) | 45 => (PySem.W.fnOf "_law_echelon" "_law_echelon" (defArgs s__law_echelon) (defBody s__law_echelon) (defScope s__law_echelon) .none kV45 dc45 pm45 an45 cd45 ct45) | 46 => (PySem.W.fnOf "_law_taken" "_law_taken" (defArgs s__law_taken) (defBody s__law_taken) (defScope s__law_taken) .none kV46 dc46 pm46 an46 cd46 ct46) | 47 => (PySem.W.fnOf "_law_pivots" "_law_pivots" (defArgs s__law_pivots) (defBody s__law_pivots) (defScope s__law_pivots) .none kV47 dc47 pm47 an47 cd47 ct47) | 48 => (PySem.W.fnOf "_law_told" "_law_told" (defArgs s__law_told) (defBody s__law_told) (defScope s__law_told) .none kV48 dc48 pm48 an48 cd48 ct48) | 49 => (PySem.W.fnOf "_law_wanted" "_law_wanted" (defArgs s__law_wanted) (defBody s__law_wanted) (defScope s__law_wanted) .none kV49 dc49 pm49 an49 cd49 ct49) | 50 => (PySem.W.fnOf "_law_solves" "_law_solves" (defArgs s__law_solves) (defBody s__law_solves) (defScope s__law_solves) .none kV50 dc50 pm50 an50 cd50 ct50) | 51 => (PySem.W.fnOf "_law_clashes" "_law_clashes" (defArgs s__law_clashes) (defBody s__law_clashes) (defScope s__law_clashes) .none kV51 dc51 pm51 an51 cd51 ct51) | 52 => (PySem.W.fnOf "law" "law" (defArgs s_law) (defBody s_law) (defScope s_law) .none kV52 dc52 pm52 an52 cd52 ct52) | _ => (PySem.W.fnOf "is_number" "is_number" (defArgs s_is_number) (defBody s_is_number) (defScope s_is_number) .none kV10 dc10 pm10 an10 cd10 ct10)) :=
    { v_ZERO := ⟨qt8, PySem.W.mg_of X G a8, fun {F} => rep_kpair lt8⟩
      v_ONE := ⟨qt9, PySem.W.mg_of X G a9, fun {F} => rep_kpair lt9⟩
      f_is_number := fun_mk (st := s_is_number) l10 c10 k10
      g_is_number := PySem.W.mg_of X G a10
      f_check_number := fun_mk (st := s_check_number) l11 c11 k11
      g_check_number := PySem.W.mg_of X G a11
      f_number := ⟨⟨_, _, _, _, _, _, _, _, _, _, rfl, l12, c12, .inr ⟨by simp, T12, _, _, _, rfl, t12, rfl, (.cons ⟨_, rfl⟩ .nil)⟩, .inl rfl⟩, k12⟩
      g_number := PySem.W.mg_of X G a12
      f_content := fun_mk (st := s_content) l13 c13 k13
      g_content := PySem.W.mg_of X G a13
      f_primitive := fun_mk (st := s_primitive) l14 c14 k14
      g_primitive := PySem.W.mg_of X G a14
      f_over_one_divisor := fun_mk (st := s_over_one_divisor) l15 c15 k15
      g_over_one_divisor := PySem.W.mg_of X G a15
      f_cleared := fun_mk (st := s_cleared) l16 c16 k16
      g_cleared := PySem.W.mg_of X G a16
      f_is_number_row := fun_mk (st := s_is_number_row) l20 c20 k20
      g_is_number_row := PySem.W.mg_of X G a20
      f_check_matrix := fun_mk (st := s_check_matrix) l21 c21 k21
      g_check_matrix := PySem.W.mg_of X G a21
      f_unit_row := fun_mk (st := s_unit_row) l22 c22 k22
      g_unit_row := PySem.W.mg_of X G a22
      f_first_row_with := fun_mk (st := s_first_row_with) l23 c23 k23
      g_first_row_with := PySem.W.mg_of X G a23
      f_struck := fun_mk (st := s_struck) l24 c24 k24
      g_struck := PySem.W.mg_of X G a24
      f_whole_echelon := fun_mk (st := s_whole_echelon) l25 c25 k25
      g_whole_echelon := PySem.W.mg_of X G a25
      f_solution_from := fun_mk (st := s_solution_from) l26 c26 k26
      g_solution_from := PySem.W.mg_of X G a26
      f_solution_or_none := fun_mk (st := s_solution_or_none) l27 c27 k27
      g_solution_or_none := PySem.W.mg_of X G a27
      f_columns_of := fun_mk (st := s_columns_of) l28 c28 k28
      g_columns_of := PySem.W.mg_of X G a28
      f_check_wanted := fun_mk (st := s_check_wanted) l29 c29 k29
      g_check_wanted := PySem.W.mg_of X G a29
      f_solution := fun_mk (st := s_solution) l30 c30 k30
      g_solution := PySem.W.mg_of X G a30
      f_clash := fun_mk (st := s_clash) l31 c31 k31
      g_clash := PySem.W.mg_of X G a31
      f__law_number := fun_mk (st := s__law_number) l33 c33 k33
      g__law_number := PySem.W.mg_of X G a33
      f__law_draws := fun_mk (st := s__law_draws) l34 c34 k34
      g__law_draws := PySem.W.mg_of X G a34
      f__law_next := fun_mk (st := s__law_next) l35 c35 k35
      g__law_next := PySem.W.mg_of X G a35
      f__law_divisor := fun_mk (st := s__law_divisor) l36 c36 k36
      g__law_divisor := PySem.W.mg_of X G a36
      f__law_lowest := fun_mk (st := s__law_lowest) l37 c37 k37
      g__law_lowest := PySem.W.mg_of X G a37
      f__law_plus := fun_mk (st := s__law_plus) l38 c38 k38
      g__law_plus := PySem.W.mg_of X G a38
      f__law_times := fun_mk (st := s__law_times) l39 c39 k39
      g__law_times := PySem.W.mg_of X G a39
      f__law_less := fun_mk (st := s__law_less) l40 c40 k40
      g__law_less := PySem.W.mg_of X G a40
      f__law_dot := fun_mk (st := s__law_dot) l41 c41 k41
      g__law_dot := PySem.W.mg_of X G a41
      f__law_fraction := fun_mk (st := s__law_fraction) l42 c42 k42
      g__law_fraction := PySem.W.mg_of X G a42
      f__law_matrix := fun_mk (st := s__law_matrix) l43 c43 k43
      g__law_matrix := PySem.W.mg_of X G a43
      f__law_over := fun_mk (st := s__law_over) l44 c44 k44
      g__law_over := PySem.W.mg_of X G a44
      f__law_echelon := fun_mk (st := s__law_echelon) l45 c45 k45
      g__law_echelon := PySem.W.mg_of X G a45
      f__law_taken := fun_mk (st := s__law_taken) l46 c46 k46
      g__law_taken := PySem.W.mg_of X G a46
      f__law_pivots := fun_mk (st := s__law_pivots) l47 c47 k47
      g__law_pivots := PySem.W.mg_of X G a47
      f__law_told := fun_mk (st := s__law_told) l48 c48 k48
      g__law_told := PySem.W.mg_of X G a48
      f__law_wanted := fun_mk (st := s__law_wanted) l49 c49 k49
      g__law_wanted := PySem.W.mg_of X G a49
      f__law_solves := fun_mk (st := s__law_solves) l50 c50 k50
      g__law_solves := PySem.W.mg_of X G a50
      f__law_clashes := fun_mk (st := s__law_clashes) l51 c51 k51
      g__law_clashes := PySem.W.mg_of X G a51
      f_law := fun_mk (st := s_law) l52 c52 k52
      g_law := PySem.W.mg_of X G a52
      v_MOST_WIDTH := ⟨_, PySem.W.mg_of X G a18⟩
      v_MOST_ROWS := ⟨_, PySem.W.mg_of X G a19⟩
      m_tuple := PySem.W.mg_none_of X G m_tuple
      m_isinstance := PySem.W.mg_none_of X G m_isinstance
      m_all := PySem.W.mg_none_of X G m_all
      m_len := PySem.W.mg_none_of X G m_len
      m_range := PySem.W.mg_none_of X G m_range
      m_enumerate := PySem.W.mg_none_of X G m_enumerate
      m_zip := PySem.W.mg_none_of X G m_zip
      m_int := PySem.W.mg_none_of X G m_int
      m_abs := PySem.W.mg_none_of X G m_abs
      m_list := PySem.W.mg_none_of X G m_list
      m_str := PySem.W.mg_none_of X G m_str
      g_gcd := PySem.W.mg_of X G b_gcd
      g_lcm := PySem.W.mg_of X G b_lcm
      g_PlaneError := PySem.W.mg_of X G a2
      g_NotNumber := PySem.W.mg_of X G a3
      x_NotNumber := x3
      k_NotNumber := k3
      s_NotNumber := s3
      t_NotNumber := t3
      g_NotMatrix := PySem.W.mg_of X G a4
      x_NotMatrix := x4
      k_NotMatrix := k4
      s_NotMatrix := s4
      t_NotMatrix := t4
      g_BadNumber := PySem.W.mg_of X G a5
      x_BadNumber := x5
      k_BadNumber := k5
      s_BadNumber := s5
      t_BadNumber := t5
      g_NoAnswer := PySem.W.mg_of X G a6
      x_NoAnswer := x6
      k_NoAnswer := k6
      s_NoAnswer := s6
      t_NoAnswer := t6
      e_BadNumber_PlaneError := PySem.W.exm_ref s2 h2 t2 e5_2
      e_NoAnswer_PlaneError := PySem.W.exm_ref s2 h2 t2 e6_2
      e_NotMatrix_PlaneError := PySem.W.exm_ref s2 h2 t2 e4_2
      e_NotNumber_PlaneError := PySem.W.exm_ref s2 h2 t2 e3_2
      c_BadNumber := ⟨cg5, ck5, s5, cd5, ca5, cn, ct, cm5⟩
      c_NoAnswer := ⟨cg6, ck6, s6, cd6, ca6, cn, ct, cm6⟩
      c_NotMatrix := ⟨cg4, ck4, s4, cd4, ca4, cn, ct, cm4⟩
      c_NotNumber := ⟨cg3, ck3, s3, cd3, ca3, cn, ct, cm3⟩
      i_BadNumber_NoAnswer := i5_6
      i_BadNumber_NotMatrix := i5_4
      i_NoAnswer_NoAnswer := i6_6
      i_NoAnswer_NotMatrix := i6_4
      i_NotMatrix_NoAnswer := i4_6
      i_NotMatrix_NotMatrix := i4_4
      i_NotNumber_NoAnswer := i3_6
      i_NotNumber_NotMatrix := i3_4 }
  exact ⟨(PySem.W.fnOf "law" "law" (defArgs s_law) (defBody s_law) (defScope s_law) .none kV52 dc52 pm52 an52 cd52 ct52), fun s v => .of_eq rfl, fun base _ _ => (ok_law T).ok⟩
end MI
open PySem PySem.W PyProof.Rows
set_option maxHeartbeats 0 in
theorem PySem.Challenge.cw_planeworth_k03_whole_a_solution_or_a_cla_holds : PySem.Challenge.rw_planeworth_k03_whole_a_solution_or_a_cla.Holds := by
  w_on; o_law; k_head; (case hw => w_witness2)
  k_fill
  refine PW.walk_ofGK (l := PySem.Challenge.rw_planeworth_k03_whole_a_solution_or_a_cla) (n := 63) (k := 8) (x := "script") (sp := MI.sp_law) rfl (by decide) rfl ⟨rfl, by decide, by decide⟩ (fun w h Y => PySem.W.kIn_of Y) ?F ?good
  case good =>
    intro K H a ns hl hS
    exact ⟨a, ns, rfl, hS, hl, fun _ => rfl⟩
  case F =>
    intro w mg fa h KX G hmg
    refine' MI.all_mk KX G hmg ?a8 ?lt8 ?a9 ?lt9 ?a10 ?l10 ?c10 ?k10 ?a11 ?l11 ?c11 ?k11 ?a12 ?l12 ?c12 ?k12 ?t12 ?a13 ?l13 ?c13 ?k13 ?a14 ?l14 ?c14 ?k14 ?a15 ?l15 ?c15 ?k15 ?a16 ?l16 ?c16 ?k16 ?a20 ?l20 ?c20 ?k20 ?a21 ?l21 ?c21 ?k21 ?a22 ?l22 ?c22 ?k22 ?a23 ?l23 ?c23 ?k23 ?a24 ?l24 ?c24 ?k24 ?a25 ?l25 ?c25 ?k25 ?a26 ?l26 ?c26 ?k26 ?a27 ?l27 ?c27 ?k27 ?a28 ?l28 ?c28 ?k28 ?a29 ?l29 ?c29 ?k29 ?a30 ?l30 ?c30 ?k30 ?a31 ?l31 ?c31 ?k31 ?a33 ?l33 ?c33 ?k33 ?a34 ?l34 ?c34 ?k34 ?a35 ?l35 ?c35 ?k35 ?a36 ?l36 ?c36 ?k36 ?a37 ?l37 ?c37 ?k37 ?a38 ?l38 ?c38 ?k38 ?a39 ?l39 ?c39 ?k39 ?a40 ?l40 ?c40 ?k40 ?a41 ?l41 ?c41 ?k41 ?a42 ?l42 ?c42 ?k42 ?a43 ?l43 ?c43 ?k43 ?a44 ?l44 ?c44 ?k44 ?a45 ?l45 ?c45 ?k45 ?a46 ?l46 ?c46 ?k46 ?a47 ?l47 ?c47 ?k47 ?a48 ?l48 ?c48 ?k48 ?a49 ?l49 ?c49 ?k49 ?a50 ?l50 ?c50 ?k50 ?a51 ?l51 ?c51 ?k51 ?a52 ?l52 ?c52 ?k52 ?a18 ?a19 ?m_tuple ?m_isinstance ?m_all ?m_len ?m_range ?m_enumerate ?m_zip ?m_int ?m_abs ?m_list ?m_str ?b_gcd ?b_lcm ?a2 ?a3 ?x3 ?k3 ?s3 ?t3 ?a4 ?x4 ?k4 ?s4 ?t4 ?a5 ?x5 ?k5 ?s5 ?t5 ?a6 ?x6 ?k6 ?s6 ?t6 ?s2 ?t2 ?h2 ?e5_2 ?e6_2 ?e4_2 ?e3_2 ?cn ?ct ?cg5 ?ck5 ?cd5 ?ca5 ?cm5 ?cg6 ?ck6 ?cd6 ?ca6 ?cm6 ?cg4 ?ck4 ?cd4 ?ca4 ?cm4 ?cg3 ?ck3 ?cd3 ?ca3 ?cm3 ?i5_6 ?i5_4 ?i6_6 ?i6_4 ?i4_6 ?i4_4 ?i3_6 ?i3_4
    (case a8 => k_is)
    (case lt8 => k_is)
    (case a9 => k_is)
    (case lt9 => k_is)
    (case a10 => k_is)
    (case l10 => k_is)
    (case c10 => k_is)
    (case k10 => k_is)
    (case a11 => k_is)
    (case l11 => k_is)
    (case c11 => k_is)
    (case k11 => k_is)
    (case a12 => k_is)
    (case l12 => k_is)
    (case c12 => k_is)
    (case k12 => k_is)
    (case t12 => k_is)
    (case a13 => k_is)
    (case l13 => k_is)
    (case c13 => k_is)
    (case k13 => k_is)
    (case a14 => k_is)
    (case l14 => k_is)
    (case c14 => k_is)
    (case k14 => k_is)
    (case a15 => k_is)
    (case l15 => k_is)
    (case c15 => k_is)
    (case k15 => k_is)
    (case a16 => k_is)
    (case l16 => k_is)
    (case c16 => k_is)
    (case k16 => k_is)
    (case a20 => k_is)
    (case l20 => k_is)
    (case c20 => k_is)
    (case k20 => k_is)
    (case a21 => k_is)
    (case l21 => k_is)
    (case c21 => k_is)
    (case k21 => k_is)
    (case a22 => k_is)
    (case l22 => k_is)
    (case c22 => k_is)
    (case k22 => k_is)
    (case a23 => k_is)
    (case l23 => k_is)
    (case c23 => k_is)
    (case k23 => k_is)
    (case a24 => k_is)
    (case l24 => k_is)
    (case c24 => k_is)
    (case k24 => k_is)
    (case a25 => k_is)
    (case l25 => k_is)
    (case c25 => k_is)
    (case k25 => k_is)
    (case a26 => k_is)
    (case l26 => k_is)
    (case c26 => k_is)
    (case k26 => k_is)
    (case a27 => k_is)
    (case l27 => k_is)
    (case c27 => k_is)
    (case k27 => k_is)
    (case a28 => k_is)
    (case l28 => k_is)
    (case c28 => k_is)
    (case k28 => k_is)
    (case a29 => k_is)
    (case l29 => k_is)
    (case c29 => k_is)
    (case k29 => k_is)
    (case a30 => k_is)
    (case l30 => k_is)
    (case c30 => k_is)
    (case k30 => k_is)
    (case a31 => k_is)
    (case l31 => k_is)
    (case c31 => k_is)
    (case k31 => k_is)
    (case a33 => k_is)
    (case l33 => k_is)
    (case c33 => k_is)
    (case k33 => k_is)
    (case a34 => k_is)
    (case l34 => k_is)
    (case c34 => k_is)
    (case k34 => k_is)
    (case a35 => k_is)
    (case l35 => k_is)
    (case c35 => k_is)
    (case k35 => k_is)
    (case a36 => k_is)
    (case l36 => k_is)
    (case c36 => k_is)
    (case k36 => k_is)
    (case a37 => k_is)
    (case l37 => k_is)
    (case c37 => k_is)
    (case k37 => k_is)
    (case a38 => k_is)
    (case l38 => k_is)
    (case c38 => k_is)
    (case k38 => k_is)
    (case a39 => k_is)
    (case l39 => k_is)
    (case c39 => k_is)
    (case k39 => k_is)
    (case a40 => k_is)
    (case l40 => k_is)
    (case c40 => k_is)
    (case k40 => k_is)
    (case a41 => k_is)
    (case l41 => k_is)
    (case c41 => k_is)
    (case k41 => k_is)
    (case a42 => k_is)
    (case l42 => k_is)
    (case c42 => k_is)
    (case k42 => k_is)
    (case a43 => k_is)
    (case l43 => k_is)
    (case c43 => k_is)
    (case k43 => k_is)
    (case a44 => k_is)
    (case l44 => k_is)
    (case c44 => k_is)
    (case k44 => k_is)
    (case a45 => k_is)
    (case l45 => k_is)
    (case c45 => k_is)
    (case k45 => k_is)
    (case a46 => k_is)
    (case l46 => k_is)
    (case c46 => k_is)
    (case k46 => k_is)
    (case a47 => k_is)
    (case l47 => k_is)
    (case c47 => k_is)
    (case k47 => k_is)
    (case a48 => k_is)
    (case l48 => k_is)
    (case c48 => k_is)
    (case k48 => k_is)
    (case a49 => k_is)
    (case l49 => k_is)
    (case c49 => k_is)
    (case k49 => k_is)
    (case a50 => k_is)
    (case l50 => k_is)
    (case c50 => k_is)
    (case k50 => k_is)
    (case a51 => k_is)
    (case l51 => k_is)
    (case c51 => k_is)
    (case k51 => k_is)
    (case a52 => k_is)
    (case l52 => k_is)
    (case c52 => k_is)
    (case k52 => k_is)
    (case a18 => k_is)
    (case a19 => k_is)
    (case m_tuple => k_is)
    (case m_isinstance => k_is)
    (case m_all => k_is)
    (case m_len => k_is)
    (case m_range => k_is)
    (case m_enumerate => k_is)
    (case m_zip => k_is)
    (case m_int => k_is)
    (case m_abs => k_is)
    (case m_list => k_is)
    (case m_str => k_is)
    (case b_gcd => k_is)
    (case b_lcm => k_is)
    (case a2 => k_is)
    (case a3 => k_is)
    (case x3 => k_exc)
    (case k3 => k_is)
    (case s3 => k_is)
    (case t3 => k_is)
    (case a4 => k_is)
    (case x4 => k_exc)
    (case k4 => k_is)
    (case s4 => k_is)
    (case t4 => k_is)
    (case a5 => k_is)
    (case x5 => k_exc)
    (case k5 => k_is)
    (case s5 => k_is)
    (case t5 => k_is)
    (case a6 => k_is)
    (case x6 => k_exc)
    (case k6 => k_is)
    (case s6 => k_is)
    (case t6 => k_is)
    (case s2 => k_is)
    (case t2 => k_is)
    (case h2 => k_is)
    (case e5_2 => (first | rfl | k_is))
    (case e6_2 => (first | rfl | k_is))
    (case e4_2 => (first | rfl | k_is))
    (case e3_2 => (first | rfl | k_is))
    (case cn => k_is)
    (case ct => k_is)
    (case cg5 => k_is)
    (case ck5 => k_is)
    (case cd5 => k_is)
    (case ca5 => k_is)
    (case cm5 => k_is)
    (case cg6 => k_is)
    (case ck6 => k_is)
    (case cd6 => k_is)
    (case ca6 => k_is)
    (case cm6 => k_is)
    (case cg4 => k_is)
    (case ck4 => k_is)
    (case cd4 => k_is)
    (case ca4 => k_is)
    (case cm4 => k_is)
    (case cg3 => k_is)
    (case ck3 => k_is)
    (case cd3 => k_is)
    (case ca3 => k_is)
    (case cm3 => k_is)
    (case i5_6 => (first | kit_is | k_is | decide +kernel))
    (case i5_4 => (first | kit_is | k_is | decide +kernel))
    (case i6_6 => (first | kit_is | k_is | decide +kernel))
    (case i6_4 => (first | kit_is | k_is | decide +kernel))
    (case i4_6 => (first | kit_is | k_is | decide +kernel))
    (case i4_4 => (first | kit_is | k_is | decide +kernel))
    (case i3_6 => (first | kit_is | k_is | decide +kernel))
    (case i3_4 => (first | kit_is | k_is | decide +kernel))
