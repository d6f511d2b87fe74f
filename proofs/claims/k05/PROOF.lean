import PyProof.Rows.All
import Wide.All
import OpenK.AllK
import Wide.FinOn
import HandS.ForExc
import HandS.Gcd
import HandS.Wide
import HandS.ExcIs
import HandS.Evl
import HandS.Defaults
import HandS.RaiseMore
import HandS.Style
import HandS.ForMost
import HandS.TupAny
import HandS.IsInst
import HandS.Conv
import KE.GoesEnum
import KE.GoesZip
import KE.GoesMore
import KE.KMathG
import PyProof.ListStr
import OpenK.KOps
import HandS.More
import HandS.TryOnly
import HandS.ExcCtx
import HandS.Hot
import HandS.HotCalls
import KE.GoesComp
import HandS.TupMul
import HandS.OwnEq
import HandS.ExcOwn
import HandS.FStrTup
import HandS.Deep
import HandS.Replace
import HandS.HeadHook3
import HandS.Text
import HandS.MapJoin
import PySem.Challenge.RW_planeworth_k05_planes_and_lists
set_option Elab.async false
set_option linter.all false
set_option maxRecDepth 100000
set_option maxHeartbeats 4000000
/-! Own layer over HandS: data read deep, texts of data, calls where no text is under way, calls by value. -/
namespace PW
open PySem PySem.Spec PyProof.Rows L2 Evl

/-! ### heaps that only grow -/
theorem dp_mono {K : PySem.W.Frag} {H H' : Hp} (e : Ex H H') {v : V} {d : PyData} (h : Dp K H v d) : Dp K H' v d :=
  Dp.rec (motive_1 := fun v d _ => Dp K H' v d) (motive_2 := fun vs ds _ => DpAll K H' vs ds)
    .non .bl .int .str (fun s _ ih => .lst (ex_l e s) ih) (fun s _ ih => .tup (ex_t e s) ih) .nil (fun _ _ a b => .cons a b) h
theorem dpAll_mono {K : PySem.W.Frag} {H H' : Hp} (e : Ex H H') : ∀ {vs : List V} {ds : List PyData}, DpAll K H vs ds → DpAll K H' vs ds
  | _, _, .nil => .nil
  | _, _, .cons a b => .cons (dp_mono e a) (dpAll_mono e b)

/-! ### // by any divisor but 0 -/
def CDivG (_ j : Int) : Prop := j ≠ 0 ∧ j.natAbs.log2 < 9000
theorem op_fdivG {X : Cx} : OpR X (binaryOp .FloorDiv) (rI CDivG fun i j => .int (i.fdiv j)) := opI fun _ _ _ _ _ _ _ hc q =>
  floordiv_int hc.1 q (.inl (PyProof.noPylong_of_log2 hc.2))

/-! ### the text of data, where no text is under way -/
def Show1 (d : PyData) : Prop := d.showable = true ∧ d.hasDict = false ∧ d.shown.length ≤ sizeLine ∧ d.depth < 40
def rShow (K : PySem.W.Frag) : List V → Hp → VK → Prop := fun vs H Q => ∃ v d, vs = [v] ∧ Dp K H v d ∧ Show1 d ∧ Q (.str d.shown) H
section
variable {X : Cx}
theorem call_repr (hg : X.A.guards = some []) (hu : X.A.units + 64 < cLine) : CallR X (.builtin "repr") (rShow X.K) := by
  intro pins s σ H vs us Q I r h
  obtain ⟨v, d, rfl, hd, ⟨h1, h2, h3, h4⟩, q⟩ := h
  obtain ⟨u, rfl, rv⟩ := vals1 r
  cases v with
  | non =>
    cases hd; cases rv
    exact PySem.P.repr_of_none ⟨.str (PyData.shown .none), H, I.tok _, ⟨_, rfl⟩, q⟩
  | bl b =>
    cases hd; cases rv
    exact PySem.P.repr_of_bool ⟨.str (PyData.shown (.bool b)), H, I.tok _, ⟨s.toks, by cases b <;> rfl⟩, q⟩
  | int i =>
    cases hd
    obtain ⟨t, rfl⟩ := rv
    exact PySem.P.repr_of_int (by simpa [PyData.showable] using h1) ⟨.str (PyData.shown (.int i)), H, I.tok _, ⟨_, rfl⟩, q⟩
  | str x =>
    cases hd
    obtain ⟨t, rfl⟩ := rv
    exact PySem.P.repr_of_str ⟨.str (PyData.shown (.str x)), H, I.tok _, ⟨_, rfl⟩, q⟩ h3
  | byt b => cases hd
  | flt b => cases hd
  | ty n => cases hd
  | ref a =>
    cases rv
    obtain ⟨as, rd⟩ := Dp.reads I d _ _ hd rfl
    exact repr_of_reads' rd h1 (PyData.noDict_hsm h2) hg (by omega) (fun _ _ e => e) (fun h' u tk k => ⟨.str d.shown, H, I.kept k, ⟨_, rfl⟩, q⟩) h3
theorem call_strD (hg : X.A.guards = some []) (hu : X.A.units + 64 < cLine) : CallR X (.type "str") (fun vs H Q => ∃ a d, vs = [.ref a] ∧ Dp X.K H (.ref a) d ∧ Show1 d ∧ Q (.str d.shown) H) := by
  intro pins s σ H vs us Q I r h
  obtain ⟨a, d, rfl, hd, ⟨h1, h2, h3, h4⟩, q⟩ := h
  obtain ⟨u, rfl, rv⟩ := vals1 r
  cases rv
  obtain ⟨as, rd⟩ := Dp.reads I d _ _ hd rfl
  exact str_of_reads rd h1 (PyData.noDict_hsm h2) hg (by omega) (fun _ _ e => e) (fun h' u tk k => ⟨.str d.shown, H, I.kept k, ⟨_, rfl⟩, q⟩) h3
end

/-! ### defs that want no text under way -/
structure FnG (P : Program) (w : World) (K : PySem.W.Frag) (mg : Str → Option Value) (base : Heap) (CX : CXT) (k : Nat) (f : Addr) (fd : FuncData) (ps : List Str) (sp : Sp) : Prop where
  len : ∀ vs H Q E, sp vs H Q E → vs.length = ps.length
  run : ∀ (A : Around) (outer : List Env) (s : Shared) (H : Hp) (args : Args) (us : List Value) (vs : List V) (Q : VK) (E : XK),
    A.guards = some [] → Room k A → Env0 P w K mg base A outer s H → BindsTo s fd args (ps.zip us) → Vals vs us → sp vs H Q E →
    codeAny (model P w) A (.call (.ref f) args) (CR CX outer P w H s Q E) s
section
variable {P : Program} {w : World} {K : PySem.W.Frag} {mg : Str → Option Value} {base : Heap}
/-- a def of the text, by its body -/
theorem _root_.L2.Fun.okG {CX : CXT} {x qual : Str} {st : Stmt} {f : Addr} {fd : FuncData} {N ps : List Str} {k : Nat} {sp : Sp} (F : Fun K x qual st f fd)
    (S : FnScope N ps (defScope st)) (len : ∀ vs H Q E, sp vs H Q E → vs.length = ps.length)
    (body : ∀ (cdv : Value) (A : Around) (outer : List Env) (s : Shared) (H : Hp) (vs : List V) (Q : VK) (E : XK), A.guards = some [] →
      Room k (A.deeper (envOfC qual (defScope st) s.heap.objs.size f cdv)) → sp vs H Q E →
      ∃ t, PSs (cxOf CX P w K mg base N qual (defScope st) f cdv A outer s H E) (defBody st) t ∧
        t { nx := fun _ H' => Q .non H', rt := Q } (start N vs) H) : FnG P w K mg base CX (k + 1) f fd ps sp := by
  obtain ⟨oc, od, kV, doc, pm, an, cdv, ct, osl, rfl, lk, hcd⟩ := F.ex
  constructor
  · exact len
  · intro A outer s H args us vs Q E hg hr e0 hb rv hsp
    have down : ∀ (b : Addr) (o : Obj), base.get? b = some o → s.heap.get? b = some o := fun b o e => (e0.bs b o e).1
    have inK := e0.mod.kin.keeps down
    have kinds : ∀ y ∈ ps.zip us, (defScope st).names.lookup y.1 = some .local ∨
        ((defScope st).names.lookup y.1 = some .cell ∧ ((cellsFrom (s.heap.objs.size + 1) (defScope st).names []).lookup y.1).isSome = true) := by
      rintro ⟨n, v⟩ hy
      have hn := S.par n (List.of_mem_zip hy).1
      exact hn.imp id fun q => ⟨q, PySem.W.cellsFrom_some _ _ _ (.inl q)⟩
    apply codeAny_call_function hr.depth (inK _ _ lk) rfl S.co S.gen rfl (PySem.W.codeRec_of inK hcd)
    refine hb _ _ _ _ (wpAny_newFunctionEnv_cells S.kind kinds ?_)
    rintro env rfl s1 x
    obtain ⟨t, ht, hq⟩ := body cdv A outer s H vs Q E hg (hr.deeper _) hsp
    have I := inv_start (CX := CX) (E := E) (P := P) (w := w) S hr.hd e0 (len _ _ _ _ hsp) rv x
    refine ⟨(e0.mod.nolimit.keeps down).keeps x.toInCall.keep, codeAny_func (wpAny_mono (ht.run [] s1 _ H _ I hq) ?_ fun _ _ z => z)⟩
    intro fl s' hs
    cases fl with
    | ret u =>
      obtain ⟨v, σ', H', J, r', q⟩ := hs
      exact ⟨v, H', J.os, J.bare, J.base, J.hok, r', q⟩
    | next =>
      obtain ⟨σ', H', J, q⟩ := hs
      exact ⟨.non, H', J.os, J.bare, J.base, J.hok, rfl, q⟩
    | brk => exact hs.elim fun _ z => z.elim fun _ z => z.2.elim
    | cont => exact hs.elim fun _ z => z.elim fun _ z => z.2.elim
end
section
variable {X : Cx} {CX : CXT} {k : Nat} {f : Addr} {fd : FuncData} {ps : List Str} {sp : Sp} {E : L2.St → XK} {x : Str} {p pos : Pos} {e fn : Expr} {es : List Expr} {t : TA} {tf : TE}
/-- the call of such a def -/
theorem pe_callG (F : FnG X.prog X.w X.K X.mg X.base CX k f fd ps sp) (gd : X.A.guards = some []) (hr : Room k X.A) (hg : Gl X x) (hm : X.mg x = some (.ref f)) (hk : PySem.W.keepIn X.K (.ref f) = true) (hb : Binds X.K fd ps [])
    (hx : ∀ σ, PassesAt CX X σ (E σ)) (ha : PA X (e :: es) t) (hdb : (x == ("__debug__" : Str)) = false := by decide)
    (he : starEach (e :: es) X.env = (false, eval e X.env) :: starEach es X.env := by rfl) (hpl : (backTo pos (starEach es X.env)).any (·.1) = false := by rfl) :
    PE X (.Call (.Name x p) (e :: es) [] pos) (tCallS sp E t) := by
  constructor
  intro pins s σ H Q I h
  apply wpAny_Call_Name_kw
  apply ld_glob I hg hm _ hdb
  refine PySem.W.callWith_K (h₀ := X.base) I.ok.mod.kin hk (thn (ha.run pos pins s σ H _ I h) ?_) he hpl
  rintro us s1 ⟨vs, H1, I1, rv, q⟩
  have b := hb s1 us I1.kIn (by rw [List.append_nil, ← rv.length]; exact F.len _ _ _ _ q)
  rw [List.append_nil] at b
  refine ⟨I1.kIn, wpAny_call (codeAny_mono (F.run X.A X.stack s1 H1 ⟨us, []⟩ us vs Q (E σ) gd hr I1.env0 b rv q) ?_)⟩
  intro r s' hq
  match r, hq with
  | .error e, hq => exact hx σ pins H1 s1 e s' I1 hq
  | .ok (.ret u), hq => exact I1.after hq
/-- one of several defs, by what the called expression is worth -/
structure Callee (X : Cx) (CX : CXT) (f : Addr) (sp : Sp) : Prop where
  ok : ∃ (k : Nat) (fd : FuncData) (ps : List Str), FnOk X.prog X.w X.K X.mg X.base CX k f fd ps sp ∧ Room k X.A ∧ PySem.W.keepIn X.K (.ref f) = true ∧ Binds X.K fd ps []
def tCallV (C : Addr → Sp → Prop) (E : L2.St → XK) (tf : TE) (t : TA) : TE := fun σ H Q => tf σ H fun v H1 => ∃ (f : Addr) (sp : Sp), v = .ref f ∧ C f sp ∧ t σ H1 fun vs H2 => sp vs H2 Q (E σ)
theorem pe_callV' {C : Addr → Sp → Prop} (hC : ∀ f sp, C f sp → Callee X CX f sp) (hf : PE X fn tf) (hx : ∀ σ, PassesAt CX X σ (E σ)) (ha : PA X (e :: es) t)
    (hc : eval (.Call fn (e :: es) [] pos) X.env = (do
      let u ← eval fn X.env
      callWith pos u [] (backTo pos (starEach (e :: es) X.env)) (backToKw pos (keywordEach [] X.env))) := by rfl)
    (he : starEach (e :: es) X.env = (false, eval e X.env) :: starEach es X.env := by rfl) (hpl : (backTo pos (starEach es X.env)).any (·.1) = false := by rfl) :
    PE X (.Call fn (e :: es) [] pos) (tCallV C E tf t) := by
  constructor
  intro pins s σ H Q I h
  rw [hc]
  refine wpAny_bind (thn (hf.run pins s σ H _ I h) ?_)
  rintro u s0 ⟨v, H0, I0, ru, f, sp, rfl, hCf, h0⟩
  cases ru
  obtain ⟨k, fd, ps, F, hr, hk, hb⟩ := (hC f sp hCf).ok
  refine PySem.W.callWith_K (h₀ := X.base) I0.ok.mod.kin hk (thn (ha.run pos pins s0 σ H0 _ I0 h0) ?_) he hpl
  rintro us s1 ⟨vs, H1, I1, rv, q⟩
  exact ⟨I1.kIn, run_fnS F hr hb (hx σ) I1 rv q⟩
end
end PW
namespace PW
open PySem PySem.Spec PyProof.Rows L2 Evl
section
variable {P : Program} {w : World} {K : PySem.W.Frag} {mg mb : Str → Option Value} {k : Nat} {fa a : Addr} {fd : FuncData} {x : Str} {sp : Sp} {s0 : Shared} {vs : List Value} {ns : List Int}
/-- the law's call, no text being under way, by the law's own promise -/
theorem law_end (KX : K.In s0.heap) (gl : s0.heap.Ns mainGlobals mg) (bl : s0.heap.Ns builtinsNs mb) (bb : ∀ y : Str, y ≠ "__name__" → mb y = bootBuiltins y)
    (lim : s0.heap.NoLimit) (gens : s0.gens = #[]) (at_a : s0.heap.get? a = some { cls := .type "list", data := .seq vs.toArray }) (isInts : IntsAre vs ns)
    (few : ns.length ≤ sizeLine) (room : Room k callerA)
    (F : ∀ base : Heap, K.In base → base.Ns mainGlobals mg → FnG P w K mg base CX0 k fa fd [x] sp)
    (bind : ∀ (s : Shared) (u : Value), BindsTo s fd ⟨[u], []⟩ [(x, u)])
    (good : ∀ H : Hp, SqL K H a (ns.map V.int) → sp [.ref a] H (fun v _ => v = .bl true) fun _ _ _ => False) :
    codeAny (model P w) callerA (.call (.ref fa) ⟨[.ref a], []⟩)
      (fun r s' => r = .ok (.ret (.bool true)) ∧ OldK s0.heap s'.heap ∧ s'.os = s0.os ∧ AllBare s'.gens) s0 := by
  have rv := vals_ints isInts
  have hsize := isInts.length
  obtain ⟨H, hH, hS, hK⟩ : ∃ H : Hp, (∀ b, H b = none ∨ (b = a ∧ K.lookup a = none ∧ H b = some (.frz { cls := .type "list", data := .seq vs.toArray } (.lst (ns.map V.int))))) ∧
      SqL K H a (ns.map V.int) ∧ (∀ b o, K.lookup b = some o → H b = none) := by
    cases hk : K.lookup a with
    | some o =>
      have same := (KX a o hk).symm.trans at_a
      cases same
      refine ⟨fun _ => none, fun _ => .inl rfl, .inr ⟨_, vs.toArray, _, hk, rfl, rfl, rfl, ?_, by simpa using rv⟩, fun _ _ _ => rfl⟩
      rw [List.size_toArray, hsize]
      exact few
    | none =>
      refine ⟨fun b => if b = a then some (.frz { cls := .type "list", data := .seq vs.toArray } (.lst (ns.map V.int))) else none, fun b => ?_, .inl (.inr ⟨_, if_pos rfl⟩), fun b o hb => if_neg ?_⟩
      · by_cases e : b = a
        · exact .inr ⟨e, rfl, if_pos e⟩
        · exact .inl (if_neg e)
      · rintro rfl
        rw [hk] at hb
        cases hb
  have ok : HOk P w H s0.heap := by
    intro b u e
    rcases hH b with z | ⟨rfl, _, z⟩
    · rw [z] at e
      cases e
    · cases z.symm.trans e
      exact ⟨at_a, by rw [List.length_map]; exact few, vs, _, rv, at_a⟩
  have isDict : ∀ (b : Addr) (m : Str → Option Value), s0.heap.Ns b m → (hidT s0.heap H).Ns b m := by
    rintro b m ⟨o, es, ep, e, d, r⟩
    refine ⟨o, es, ep, hidT_get e ?_, d, r⟩
    rcases hH b with z | ⟨rfl, _, z⟩
    · exact z
    · cases at_a.symm.trans e
      cases d
  have inK : K.In (hidT s0.heap H) := fun b o e => hidT_get (KX b o e) (hK b o e)
  have nolim : (hidT s0.heap H).NoLimit := by
    obtain ⟨mc, h1, h2⟩ := lim
    exact ⟨mc, isDict _ _ h1, h2⟩
  have modu : Mod K mg (hidT s0.heap H) := ⟨inK, isDict _ _ gl, ⟨mb, isDict _ _ bl, bb⟩, nolim⟩
  have here : Env0 P w K mg (hidT s0.heap H) callerA [] s0 H :=
    { frames := rfl, mod := modu, bs := fun b o e => of_hidT e, bsz := Nat.le_of_eq (hidT_size _ _), funs := trivial
      frf := fun b hb => by
        have hb' : b ∈ ([] : List Addr) := hb
        cases hb'
      hok := ok, bare := .of_eq gens }
  refine codeAny_mono ((F _ inK (isDict _ _ gl)).run callerA [] s0 H ⟨[.ref a], []⟩ [.ref a] [.ref a] _ _ rfl room here (bind s0 _) (.cons rfl .nil) (good H hS)) ?_
  intro r s' h
  match r, h with
  | .error e, h => exact h.elim
  | .ok (.ret u), ⟨v, H', os, bare, un, ok', r', q⟩ =>
    have q' : v = .bl true := q
    subst q'
    cases r'
    refine ⟨rfl, OldK.of_keep fun b o e => ?_, os, bare⟩
    rcases hH b with z | ⟨rfl, _, z⟩
    · refine un.keep b o e z (fun hb => ?_) (fun hb => nomatch hb)
      have hb' : b ∈ ([] : List Addr) := hb
      cases hb'
    · have e1 := (ok b _ z).1
      have e2 := (ok' b _ (un.frzs b _ _ z)).1
      rw [e] at e1
      cases e1
      exact e2
end
/-- what k_head leaves of a law, from the law's promise (no text under way) -/
theorem walk_ofG {l : PySem.W.OpenLaw} {n k : Nat} {q : Program} {loose : List Str} {XP : (Str → Option Value) → Heap → Prop} {YP : World → Heap → Prop} {d : DefRec} {K : Params → PySem.W.Frag} {sp : World → Sp} {x : Str}
    (most : l.most = some n) (few : n ≤ sizeLine) (hdf : d.params.defaults = []) (room : Room k callerA) (inK : ∀ (w : World) (h : Heap), YP w h → (K w.params).In h)
    (F : ∀ (w : World) (mg : Str → Option Value) (fa : Addr) (h : Heap), (K w.params).In h → h.Ns mainGlobals mg → mg d.name = some (.ref fa) →
      ∃ fd : FuncData, (∀ (s : Shared) (u : Value), BindsTo s fd ⟨[u], []⟩ [(x, u)]) ∧
        ∀ base : Heap, (K w.params).In base → base.Ns mainGlobals mg → FnG l.prog w (K w.params) mg base CX0 k fa fd [x] (sp w))
    (good : ∀ (w : World) (H : Hp) (a : Addr) (ns : List Int), ns.length ≤ n → SqL (K w.params) H a (ns.map V.int) → sp w [.ref a] H (fun v _ => v = .bl true) fun _ _ _ => False) :
    PySem.W.WalkO q loose XP YP l.row.toRowW d [] (fun f vs => PySem.call f vs) := by
  refine Att.attach_call most hdf ?_
  intro w s0 s1 mg mb fa o pm cd doc a vs ns G Y ho hd hcd hmg hobj hints hlen hg
  obtain ⟨fd, hb, hF⟩ := F w mg fa _ (inK w _ Y) G.T.g hmg
  exact law_end (inK w _ Y) G.T.g G.T.b G.T.builtins G.T.nolimit hg hobj hints (Nat.le_trans hlen few) room hF hb fun H hS => good w H a ns hlen hS
/-- the same where the promise hangs on the written part alone -/
theorem walk_ofGK {l : PySem.W.OpenLaw} {n k : Nat} {q : Program} {loose : List Str} {XP : (Str → Option Value) → Heap → Prop} {YP : World → Heap → Prop} {d : DefRec} {K : Params → PySem.W.Frag} {sp : PySem.W.Frag → Sp} {x : Str}
    (most : l.most = some n) (few : n ≤ sizeLine) (hdf : d.params.defaults = []) (room : Room k callerA) (inK : ∀ (w : World) (h : Heap), YP w h → (K w.params).In h)
    (F : ∀ (w : World) (mg : Str → Option Value) (fa : Addr) (h : Heap), (K w.params).In h → h.Ns mainGlobals mg → mg d.name = some (.ref fa) →
      ∃ fd : FuncData, (∀ (s : Shared) (u : Value), BindsTo s fd ⟨[u], []⟩ [(x, u)]) ∧
        ∀ base : Heap, (K w.params).In base → base.Ns mainGlobals mg → FnG l.prog w (K w.params) mg base CX0 k fa fd [x] (sp (K w.params)))
    (good : ∀ (K : PySem.W.Frag) (H : Hp) (a : Addr) (ns : List Int), ns.length ≤ n → SqL K H a (ns.map V.int) → sp K [.ref a] H (fun v _ => v = .bl true) fun _ _ _ => False) :
    PySem.W.WalkO q loose XP YP l.row.toRowW d [] (fun f vs => PySem.call f vs) :=
  walk_ofG (K := K) (sp := fun w => sp (K w.params)) most few hdf room inK F fun w H a ns h1 h2 => good (K w.params) H a ns h1 h2
end PW
namespace PW
open PySem PySem.Spec PyProof.Rows L2 Evl
/-- a def that keeps its promise, under its name -/
structure Cal (P : Program) (w : World) (K : PySem.W.Frag) (mg : Str → Option Value) (base : Heap) (CX : CXT) (k : Nat) (x : Str) (f : Addr) (fd : FuncData) (ps : List Str) (ds : List Value) (dvs : List V) (sp : Sp) : Prop where
  ok : FnOk P w K mg base CX k f fd ps sp
  g : mg x = some (.ref f)
  kp : PySem.W.keepIn K (.ref f) = true
  b : Binds K fd ps ds
  d : Vals dvs ds
structure CalG (P : Program) (w : World) (K : PySem.W.Frag) (mg : Str → Option Value) (base : Heap) (CX : CXT) (k : Nat) (x : Str) (f : Addr) (fd : FuncData) (ps : List Str) (sp : Sp) : Prop where
  ok : FnG P w K mg base CX k f fd ps sp
  g : mg x = some (.ref f)
  kp : PySem.W.keepIn K (.ref f) = true
  b : Binds K fd ps []
section
variable {X : Cx} {CX : CXT} {k : Nat} {f : Addr} {fd : FuncData} {ps : List Str} {ds : List Value} {dvs : List V} {sp : Sp} {E : XK} {E2 : L2.St → XK} {x : Str} {p pos : Pos} {e : Expr} {es : List Expr} {t : TA}
theorem pe_cal (c : Cal X.prog X.w X.K X.mg X.base CX k x f fd ps ds dvs sp) (hr : Room k X.A) (hx : Passes CX X E) (ha : PA X (e :: es) t) (hg : Gl X x := by rfl) (hdb : (x == ("__debug__" : Str)) = false := by decide)
    (he : starEach (e :: es) X.env = (false, eval e X.env) :: starEach es X.env := by rfl) (hpl : (backTo pos (starEach es X.env)).any (·.1) = false := by rfl) :
    PE X (.Call (.Name x p) (e :: es) [] pos) (tCall sp dvs E t) := pe_call c.ok hr hg c.g c.kp c.b c.d hx ha hdb he hpl
theorem pe_calS (c : Cal X.prog X.w X.K X.mg X.base CX k x f fd ps [] [] sp) (hr : Room k X.A) (hx : ∀ σ, PassesAt CX X σ (E2 σ)) (ha : PA X (e :: es) t) (hg : Gl X x := by rfl) (hdb : (x == ("__debug__" : Str)) = false := by decide)
    (he : starEach (e :: es) X.env = (false, eval e X.env) :: starEach es X.env := by rfl) (hpl : (backTo pos (starEach es X.env)).any (·.1) = false := by rfl) :
    PE X (.Call (.Name x p) (e :: es) [] pos) (tCallS sp E2 t) := pe_callS c.ok hr hg c.g c.kp c.b hx ha hdb he hpl
theorem pe_calG (c : CalG X.prog X.w X.K X.mg X.base CX0 k x f fd ps sp) (gd : X.A.guards = some []) (hr : Room k X.A) (ha : PA X (e :: es) t) (hg : Gl X x := by rfl) (hdb : (x == ("__debug__" : Str)) = false := by decide)
    (he : starEach (e :: es) X.env = (false, eval e X.env) :: starEach es X.env := by rfl) (hpl : (backTo pos (starEach es X.env)).any (·.1) = false := by rfl) :
    PE X (.Call (.Name x p) (e :: es) [] pos) (tCallS sp (fun _ => E0) t) := pe_callG c.ok gd hr hg c.g c.kp c.b (fun _ => fun _ _ _ _ _ _ h => h.elim) ha hdb he hpl
theorem pe_globR (hm : X.mg x = some (.ref f)) (hg : Gl X x := by rfl) (hd : (x == ("__debug__" : Str)) = false := by decide) : PE X (.Name x pos) (tC (.ref f)) := pe_glob hg hm rfl hd
theorem pe_strD {K : PySem.W.Frag} (gd : X.A.guards = some []) (hu : X.A.units + 64 < cLine) (hm : X.mg "str" = none) (ha : PA X (e :: es) t) (hK : X.K = K := by rfl) (hg : Gl X "str" := by rfl)
    (he : starEach (e :: es) X.env = (false, eval e X.env) :: starEach es X.env := by rfl) (hpl : (backTo pos (starEach es X.env)).any (·.1) = false := by rfl) :
    PE X (.Call (.Name "str" p) (e :: es) [] pos) (tCB (fun vs H Q => ∃ a d, vs = [.ref a] ∧ Dp K H (.ref a) d ∧ Show1 d ∧ Q (.str d.shown) H) t) := by
  subst hK
  exact pe_callTy (call_strD gd hu) hg hm (by decide +kernel) ha (by decide) (by decide) he hpl
theorem pe_repr (gd : X.A.guards = some []) (hu : X.A.units + 64 < cLine) (hm : X.mg "repr" = none) (ha : PA X (e :: es) t) (hg : Gl X "repr" := by rfl)
    (he : starEach (e :: es) X.env = (false, eval e X.env) :: starEach es X.env := by rfl) (hpl : (backTo pos (starEach es X.env)).any (·.1) = false := by rfl) :
    PE X (.Call (.Name "repr" p) (e :: es) [] pos) (tCB (rShow X.K) t) :=
  pe_callB (call_repr gd hu) hg hm (by decide +kernel) ha (by decide) (by decide) he hpl
theorem ix_listK {K : PySem.W.Frag} (hK : X.K = K := by rfl) : IxR X (rIxL K) := by
  subst hK
  exact ix_list
theorem ix_tupK {K : PySem.W.Frag} (hK : X.K = K := by rfl) : IxR X (rIxT K) := by
  subst hK
  exact ix_tup
theorem Cal.callee (c : Cal X.prog X.w X.K X.mg X.base CX k x f fd ps [] [] sp) (hr : Room k X.A) : Callee X CX f sp := ⟨k, fd, ps, c.ok, hr, c.kp, c.b⟩
end
section
variable {P : Program} {w : World} {K : PySem.W.Frag} {mg : Str → Option Value} {base : Heap}
theorem _root_.L2.Fun.okGn {x qual : Str} {st : Stmt} {f : Addr} {fd : FuncData} {N ps : List Str} {k : Nat} {sp : Sp} (F : Fun K x qual st f fd)
    (S : FnScope N ps (defScope st)) (len : ∀ vs H Q E, sp vs H Q E → vs.length = ps.length)
    (body : ∀ (cdv : Value) (A : Around) (outer : List Env) (s : Shared) (H : Hp) (vs : List V) (Q : VK) (E : XK), A.guards = some [] →
      Room k (A.deeper (envOfC qual (defScope st) s.heap.objs.size f cdv)) → sp vs H Q E →
      ∃ t, PSs (cxOf CX0 P w K mg base N qual (defScope st) f cdv A outer s H E).nox (defBody st) t ∧
        t { nx := fun _ H' => Q .non H', rt := Q } (start N vs) H) : FnG P w K mg base CX0 (k + 1) f fd ps sp :=
  F.okG S len fun cdv A outer s H vs Q E g hr h =>
    have ⟨t, a, b⟩ := body cdv A outer s H vs Q E g hr h
    ⟨t, a.nox, b⟩
theorem gd_deeper {A : Around} {e : Env} (h : A.guards = some []) : (A.deeper e).guards = some [] := h
theorem hu_64 {A : Around} {k : Nat} (hr : Room k A) : A.units + 64 < cLine := hr.units
end
/-- isinstance(e, c) of the exception that the suite holds, its class not told before -/
def rIsX (K : PySem.W.Frag) (a : Addr) (cls : Value) (d : Option Addr) : List V → Hp → VK → Prop := fun xs H Q => cls ≠ cls ∨ ∃ D, cls = .ref D ∧ d = none ∧ ExcC K D ∧ rIsE K D a xs H Q
theorem call_isX {X : Cx} {K : PySem.W.Frag} {a : Addr} {cls : Value} {d : Option Addr} {oe : Obj} {pn : List (Addr × Obj)} (hz : Zc cls d oe) (hf : ∃ vs, oe.data = .fields vs) (hK : X.K = K := by rfl) : CallR (X.suite a ((a, oe) :: pn)) (.builtin "isinstance") (rIsX K a cls d) := by
  subst hK
  intro pins s σ H xs us Q I r h
  rcases h with z | ⟨D, rfl, rfl, C, h⟩
  · exact absurd rfl z
  · exact call_isE C hz hf pins s σ H xs us Q I r h
/-- a number: a pair of ints -/
def Num (K : PySem.W.Frag) (H : Hp) (v : V) (a b : Int) : Prop := ∃ p, v = .ref p ∧ SqT K H p [.int a, .int b]
theorem Num.mono {K : PySem.W.Frag} {H H' : Hp} {v : V} {a b : Int} (e : Ex H H') (n : Num K H v a b) : Num K H' v a b :=
  have ⟨p, h1, h2⟩ := n
  ⟨p, h1, ex_t e h2⟩
def isN (a b : Int) : Prop := 1 ≤ b ∧ Int.gcd a b = 1
instance (a b : Int) : Decidable (isN a b) := inferInstanceAs (Decidable (_ ∧ _))
end PW
/-! Own layer over HandS: lcm, len by an own __len__, enumerate and zip over lists, tuples and texts, list(text). -/
namespace PW
open PySem PySem.Spec PyProof.Rows L2 Evl
/-! ### math.lcm -/
def rLcm : List V → Hp → VK → Prop := fun vs H Q => ∃ a b : Int, vs = [.int a, .int b] ∧ a.natAbs < 2 ^ 9000 ∧ b.natAbs < 2 ^ 9000 ∧ Q (.int ((Nat.lcm a.natAbs b.natAbs : Nat) : Int)) H
theorem lcm_le_mul (m n : Nat) : m.lcm n ≤ m * n := by
  unfold Nat.lcm
  exact Nat.div_le_self _ _
theorem cr_lcm {X : Cx} : CallR X (.builtin "math.lcm") rLcm := by
  intro pins s σ H vs us Q I r h
  obtain ⟨a, b, rfl, ha, hb, q⟩ := h
  obtain ⟨t, u, rfl⟩ := Vals.int2 r
  have lg : ∀ {n : Nat}, n < 2 ^ 9000 → n.log2 ≤ 8999 := fun h => PySem.W.mg_log (k := 8999) h
  have one : (1 : Nat) < 2 ^ 9000 := Nat.one_lt_two_pow (by decide)
  have h1 : (max 1 a.natAbs).log2 ≤ 8999 := lg (by omega)
  have h2 : (max a.natAbs b.natAbs).log2 ≤ 8999 := lg (by omega)
  have e1 : Nat.lcm 1 a.natAbs = a.natAbs := by simp [Nat.lcm]
  have hs : ((((Nat.lcm 1 a.natAbs).lcm b.natAbs : Nat) : Int)).natAbs.log2 < bitsLine := by
    rw [e1]
    have e2 : (((a.natAbs.lcm b.natAbs : Nat) : Int)).natAbs = a.natAbs.lcm b.natAbs := rfl
    rw [e2]
    have h3 : a.natAbs.lcm b.natAbs < 2 ^ (17999 + 1) := by
      refine Nat.lt_of_le_of_lt (lcm_le_mul _ _) ?_
      have : (2 : Nat) ^ (17999 + 1) = 2 ^ 9000 * 2 ^ 9000 := by rw [← Nat.pow_add]
      rw [this]
      exact Nat.mul_lt_mul'' ha hb
    have h4 := PySem.W.mg_log h3
    have : bitsLine = 134217728 := by decide
    omega
  have g := PySem.W.mg_run_lcm a t b u (by omega) (by omega) hs
  refine call_function_meets PySem.W.MGF.kind_lcm PySem.W.MGF.plain_lcm PySem.W.MGF.entry_lcm (PySem.W.MGF.args_lcm _ _) g.meets ⟨.int _, H, I.tok _, ⟨_, rfl⟩, ?_⟩
  rw [e1]
  exact q
/-! ### len(x) by the class's own __len__ -/
theorem call_lenOwn {X : Cx} {CX : CXT} {C f : Addr} {fd : FuncData} {ps : List Str} {n : Nat} {sp : Sp} {E : XK} (F : FnOk X.prog X.w X.K X.mg X.base CX n f fd ps sp)
    (hr : Room (n + 1) X.A) (hs : PySem.W.findIn X.K (.ref C) "__len__" = some (some (.ref f))) (hf : PySem.W.isFn X.K (.ref f) = true) (hb : Binds X.K fd ps []) (hx : Passes CX X E) :
    CallR X (.builtin "len") (fun xs H Q => ∃ a dx fs, xs = [.ref a] ∧ H a = some (.ins C dx fs) ∧ sp [.ref a] H (fun v H' => ∃ n : Nat, v = .int n ∧ n < 2 ^ 62 ∧ Q (.int n) H') E) := by
  intro pins s σ H xs us Q I r h
  obtain ⟨a, dx, fs, rfl, ha, hsp⟩ := h
  obtain ⟨u, rfl, ru⟩ := vals1 r
  cases ru
  obtain ⟨mA, J, _⟩ := ins_get I.hok ha
  obtain ⟨od, J, _⟩ := J.look
  obtain ⟨m, hF⟩ := I.fr
  refine PySem.W.len_K hF I.ok.mod.kin J hs hf ?_
  have e0 : Env0 X.prog X.w X.K X.mg X.base X.A.in1 X.stack s H := by
    have e := I.env0
    exact ⟨e.frames, e.mod, e.bs, e.bsz, e.funs, e.frf, e.hok, e.bare⟩
  have hl := F.len _ _ _ _ hsp
  have r2 : Vals [V.ref a] [Value.ref a] := .cons rfl .nil
  refine wpAny_call (codeAny_mono (F.run X.A.in1 X.stack s H ⟨[.ref a], []⟩ [.ref a] [.ref a] _ E hr.in1 e0 (by
    have := hb s [.ref a] I.kIn (by simpa using hl)
    simpa using this) r2 hsp) fun r s' hq => ?_)
  cases r with
  | error e => exact hx pins σ H s e s' I hq
  | ok fl =>
    cases fl with
    | ret w =>
      obtain ⟨z, H', I', rz, n, ez, hn, q⟩ := I.after hq
      subst ez
      obtain ⟨t, rfl⟩ := rz
      exact ⟨⟨by omega, by omega⟩, .int n, H', I'.tok _, ⟨_, rfl⟩, q⟩
    | next => exact False.elim hq
    | brk => exact False.elim hq
    | cont => exact False.elim hq
/-! ### what is gone through: a list, a tuple, a text -/
inductive Src where
  | lst (a : Addr)
  | tup (a : Addr)
  | str (x : Str)
def chars (x : Str) : List V := x.cps.toList.map fun c => .str ⟨#[c]⟩
def Src.at (K : PySem.W.Frag) (H : Hp) : Src → List V → Prop
  | .lst a, xs => SqL K H a xs
  | .tup a, xs => SqT K H a xs
  | .str x, xs => xs = chars x
def Src.v : Src → V
  | .lst a => .ref a
  | .tup a => .ref a
  | .str x => .str x
def Src.base : Src → List Addr
  | .lst a => [a]
  | .tup a => [a]
  | .str _ => []
def Src.St (it : Addr) (i : Nat) (h : Heap) : Src → Prop
  | .lst a => h.IsListIter it a i
  | .tup a => h.IsTupleIter it a i
  | .str x => ∃ t, h.IsStrIter it (strIterType x) x t i
theorem Src.St.at {S : Src} {it : Addr} {i : Nat} {h h' : Heap} (st : S.St it i h) (k : ∀ o, h.get? it = some o → h'.get? it = some o) : S.St it i h' := by
  cases S with
  | lst a => exact Heap.IsListIter.at st k
  | tup a => exact Heap.IsTupleIter.at st k
  | str x => exact let ⟨t, o, ho, r⟩ := st; ⟨t, o, k o ho, r⟩
theorem Src.St.obj {S : Src} {it : Addr} {i : Nat} {h : Heap} (st : S.St it i h) : ∃ o, h.get? it = some o ∧ ∀ v, o.data ≠ .cell v := by
  cases S with
  | lst a => exact let ⟨o, ho, _, hd⟩ := st; ⟨o, ho, fun v q => by rw [hd] at q; cases q⟩
  | tup a => exact let ⟨o, ho, _, hd⟩ := st; ⟨o, ho, fun v q => by rw [hd] at q; cases q⟩
  | str x => exact let ⟨t, o, ho, _, hd⟩ := st; ⟨o, ho, fun v q => by rw [hd] at q; cases q⟩
section
variable {X : Cx} {pins : List (Addr × Obj)} {σ : L2.St} {H : Hp} {s : Shared} {xs ys : List V}
theorem Src.inj {S : Src} (I : Inv X pins σ H s) (h1 : S.at X.K H xs) (h2 : S.at X.K H ys) : xs = ys := by
  cases S with
  | lst a => exact I.list_inj h1 h2
  | tup a => exact I.tuple_inj h1 h2
  | str x => exact Eq.trans h1 (Eq.symm h2)
theorem Src.draws {S : Src} {A : Around} (I : Inv X pins σ H s) (hh : A.handled = none) (hq : S.at X.K H xs) (it : Addr) (hne : ∀ b ∈ S.base, b ≠ it) (i : Nat) (st : S.St it i s.heap) :
    ∃ (P : Nat → Value → Prop) (St : Nat → Heap → Prop), Draws X.prog X.w A it (it :: S.base) xs.length P St ∧ (∀ i v, P i v → ∃ x, xs[i]? = some x ∧ RelV x v) ∧ St i s.heap ∧ ∀ i h, St i h → S.St it i h := by
  cases S with
  | lst a =>
    obtain ⟨its, rv, p, hz⟩ := I.list hq
    have hl := rv.length
    have D := Draws.list (prog := X.prog) (w := X.w) (A := A) hh it a (hne a (by simp [Src.base])) its.toArray
    rw [List.size_toArray, ← hl] at D
    refine ⟨_, _, D, ?_, ⟨st, p.isList⟩, fun i h q => q.1⟩
    · intro i v hv
      have hv' : its[i]? = some v := by simpa using hv
      have hi : i < xs.length := by
        have := (List.getElem?_eq_some_iff.mp hv').1
        omega
      obtain ⟨u, hu, ru⟩ := rv.get (List.getElem?_eq_getElem hi)
      rw [hu] at hv'
      cases hv'
      exact ⟨_, List.getElem?_eq_getElem hi, ru⟩
  | tup a =>
    obtain ⟨its, rv, p, hz⟩ := I.tuple hq
    have hl := rv.length
    have D := Draws.tuple (prog := X.prog) (w := X.w) (A := A) hh it a (hne a (by simp [Src.base])) its.toArray
    rw [List.size_toArray, ← hl] at D
    refine ⟨_, _, D, ?_, ⟨st, p⟩, fun i h q => q.1⟩
    · intro i v hv
      have hv' : its[i]? = some v := by simpa using hv
      have hi : i < xs.length := by
        have := (List.getElem?_eq_some_iff.mp hv').1
        omega
      obtain ⟨u, hu, ru⟩ := rv.get (List.getElem?_eq_getElem hi)
      rw [hu] at hv'
      cases hv'
      exact ⟨_, List.getElem?_eq_getElem hi, ru⟩
  | str x =>
    obtain ⟨t, st⟩ := st
    have hq : xs = chars x := hq
    subst hq
    have hl : (chars x).length = x.cps.size := by unfold chars; simp
    have D := Draws.text (prog := X.prog) (w := X.w) (A := A) hh it x t
    rw [← hl] at D
    refine ⟨_, _, D, ?_, st, fun i h q => ⟨t, q⟩⟩
    · rintro i v ⟨c, u, hc, rfl⟩
      refine ⟨.str ⟨#[c]⟩, ?_, ⟨u, rfl⟩⟩
      unfold chars
      rw [List.getElem?_map, Array.getElem?_toList, hc]
      rfl
theorem Src.begins {S : Src} {u : Value} (I : Inv X pins σ H s) (hq : S.at X.K H xs) (ru : RelV S.v u) :
    ∃ (o : Obj) (Hh : Heap → Prop), Begins u o Hh ∧ Hh s.heap ∧ (∀ b ∈ S.base, b < s.heap.objs.size) ∧ ∀ it h, h.get? it = some o → S.St it 0 h := by
  cases S with
  | lst a =>
    cases ru
    obtain ⟨its, rv, p, hz⟩ := I.list hq
    exact ⟨_, _, begins_list a its.toArray, p.isList, fun b hb => by rw [List.mem_singleton.mp hb]; exact p.lt, fun it h e => ⟨_, e, rfl, rfl⟩⟩
  | tup a =>
    cases ru
    obtain ⟨its, rv, p, hz⟩ := I.tuple hq
    obtain ⟨o1, ho1, _⟩ := id p
    exact ⟨_, _, begins_tuple a its.toArray, p, fun b hb => by rw [List.mem_singleton.mp hb]; exact Heap.lt_size ho1, fun it h e => ⟨_, e, rfl, rfl⟩⟩
  | str x =>
    obtain ⟨t, rfl⟩ := ru
    exact ⟨_, _, begins_text x t, trivial, fun b hb => absurd hb List.not_mem_nil, fun it h e => ⟨t, _, e, rfl, rfl⟩⟩
end
/-! ### enumerate(..) -/
def ItE (K : PySem.W.Frag) (S : Src) : It :=
  ⟨fun i H => ∃ (xs : List V) (x : V), S.at K H xs ∧ xs[i]? = some x, fun i H v H' => ∃ T x, v = .ref T ∧ H T = none ∧ H' = upd H T (.tup [.int (i : Nat), x]) ∧ ∀ xs, S.at K H xs → xs[i]? = some x, fun i H => ∃ xs : List V, S.at K H xs ∧ xs.length = i⟩
theorem turn_enumS {P : Program} {w : World} {K : PySem.W.Frag} {elts : List Expr} {kk : Nat} {tpos : Pos} (S : Src) (e it : Addr) (hb : ∀ b ∈ S.base, b ≠ it ∧ b ≠ e) :
    Turn P w K (.Tuple elts kk tpos) (ItE K S) [e, it] e (fun i h => (∃ old, IsEnum h e it ((i : Nat) : Int) old) ∧ S.St it i h ∧ e ≠ it) where
  mem := by simp
  obj := fun i h st b hb => by
    obtain ⟨⟨old, he⟩, hs, _⟩ := st
    have e' : b = e ∨ b = it := by simpa using hb
    rcases e' with z | z
    · rw [z]; exact ⟨_, he, fun v q => nomatch q⟩
    · rw [z]; exact hs.obj
  keep := fun i h h' st k => let ⟨⟨old, he⟩, hi, hne⟩ := st; ⟨⟨old, k e (by simp) _ he⟩, hi.at fun o q => k it (by simp) o q, hne⟩
  item := by
    intro X hP hw hK hc i pins s σ H E I hf st hg
    subst hP hw hK
    obtain ⟨⟨old, he⟩, hit, hne⟩ := st
    obtain ⟨xs, x0, hq, hx0⟩ := hg
    obtain ⟨P, St, D, hP, st0, hS⟩ := S.draws (A := X.A.in1) I (I.ok.hd hc) hq it (fun b h => (hb b h).1) i hit
    have hlt : i < xs.length := (List.getElem?_eq_some_iff.mp hx0).1
    have hef : e ∉ it :: S.base := fun h => by
      rcases List.mem_cons.mp h with h | h
      · exact hne h
      · exact (hb e h).2 rfl
    have hel : e < s.heap.objs.size := Heap.lt_size he
    have hil : it < s.heap.objs.size := by obtain ⟨_, q, _⟩ := hit.obj; exact Heap.lt_size q
    refine wpAny_pyNext_enum_itemD D he st0 hlt hne hef fun u h' tk hu ho hst' hT hsz hk => ?_
    obtain ⟨x, hx, ru⟩ := hP i u hu
    refine ⟨_, rfl, wpAny_letOwnedTupleGo_enum (s := { s with heap := h', toks := tk + 1 }) ho fun h'' he' sb => ?_⟩
    have hT2 : h''.get? s.heap.objs.size = some { cls := .type "tuple", data := .seq #[.int i tk, u] } := (sb.2 _ (Nat.ne_of_gt hel)).trans hT
    have new : ObjOk X.prog X.w (upd H s.heap.objs.size (.tup [.int (i : Nat), x])) h'' s.heap.objs.size (.tup [.int (i : Nat), x]) :=
      ⟨by show 2 ≤ sizeLine; decide, [.int i tk, u], .cons ⟨_, rfl⟩ (.cons ru .nil), ⟨_, hT2, rfl, _, rfl⟩⟩
    have I1 : Inv X pins σ (upd H s.heap.objs.size (.tup [.int (i : Nat), x])) { s with heap := h'', toks := tk + 1 } :=
      I.turnedNew (ch := [e, it]) (fun b ob hb q => (sb.2 b (fun z => hb (by simp [z]))).trans (hk b ob (fun z => hb (by simp [z])) (fun z => hb (by simp [z])) q)) hf (Nat.le_refl _) new
    refine ⟨.ref s.heap.objs.size, _, I1, rfl, ⟨_, x, rfl, I.hok.fresh (Nat.le_refl _), rfl, fun ys hy => by rw [S.inj I hy hq]; exact hx⟩, ⟨⟨u, ?_⟩, (hS _ _ hst').at fun o q => (sb.2 it (Ne.symm hne)).trans q, hne⟩, fun b hb => ?_⟩
    · have e1 : ((i + 1 : Nat) : Int) = (i : Int) + 1 := by omega
      rw [e1]; exact he'
    · have hb' : b < s.heap.objs.size := by
        have e' : b = e ∨ b = it := by simpa using hb
        rcases e' with z | z
        · rw [z]; exact hel
        · rw [z]; exact hil
      rw [upd_ne (Nat.ne_of_lt hb')]
      exact (hf b hb).1
  done := by
    intro X hP hw hK hc i pins s σ H E I hf st hg
    subst hP hw hK
    obtain ⟨⟨old, he⟩, hit, hne⟩ := st
    obtain ⟨xs, hq, hx⟩ := hg
    subst hx
    obtain ⟨P, St, D, hP, st0, hS⟩ := S.draws (A := X.A.in1) I (I.ok.hd hc) hq it (fun b h => (hb b h).1) _ hit
    obtain ⟨f0, f1, f2, f3, f4, f5⟩ := hf it (by simp)
    exact wpAny_pyNext_enum_endD D he st0 fun h' eb => ⟨rfl, I.turned (t' := s.toks) (fun b o hb q => eb b o hb q) f0 f1 f3 f4 f5⟩
  self := fun A i s Q E st h => let ⟨⟨_, he⟩, _⟩ := st; wpAny_pyIter_enum he h
theorem ad_ne {N : Nat} (i j : Nat) (h : i ≠ j) : N + i ≠ N + j := by omega
/-! ### zip(.., ..) -/
def ItZ (K : PySem.W.Frag) (S1 S2 : Src) : It :=
  ⟨fun i H => ∃ (xs ys : List V), S1.at K H xs ∧ S2.at K H ys ∧ i < xs.length ∧ i < ys.length,
    fun i H v H' => ∃ T x y, v = .ref T ∧ H T = none ∧ H' = upd H T (.tup [x, y]) ∧ (∀ xs, S1.at K H xs → xs[i]? = some x) ∧ ∀ ys, S2.at K H ys → ys[i]? = some y,
    fun i H => ∃ xs ys : List V, S1.at K H xs ∧ S2.at K H ys ∧ i = min xs.length ys.length⟩
theorem turn_zipS {P : Program} {w : World} {K : PySem.W.Frag} {elts : List Expr} {kk : Nat} {tpos : Pos} {S1 S2 : Src} {z TI TO i1 i2 : Addr} (D : ZipSep2 z TI TO i1 i2 (i1 :: S1.base) (i2 :: S2.base))
    (b1 : ∀ b ∈ S1.base, b ≠ i1) (b2 : ∀ b ∈ S2.base, b ≠ i2) :
    Turn P w K (.Tuple elts kk tpos) (ItZ K S1 S2) [z, TI, TO, i1, i2] z (fun i h => IsZip h z TI TO .none ∧ IsTupOf2 h TI (.ref i1) (.ref i2) ∧ (∃ x y, IsTupOf2 h TO x y) ∧ S1.St i1 i h ∧ S2.St i2 i h) where
  mem := by simp
  obj := fun i h st c hc => by
    obtain ⟨hz, hTI, ⟨x, y, hTO⟩, h1, h2⟩ := st
    have e' : c = z ∨ c = TI ∨ c = TO ∨ c = i1 ∨ c = i2 := by simpa using hc
    rcases e' with q | q | q | q | q
    · rw [q]; exact ⟨_, hz, fun v q => nomatch q⟩
    · rw [q]; exact ⟨_, hTI, fun v q => nomatch q⟩
    · rw [q]; exact ⟨_, hTO, fun v q => nomatch q⟩
    · rw [q]; exact h1.obj
    · rw [q]; exact h2.obj
  keep := fun i h h' st k => by
    obtain ⟨hz, hTI, ⟨x, y, hTO⟩, h1, h2⟩ := st
    exact ⟨k z (by simp) _ hz, k TI (by simp) _ hTI, ⟨x, y, k TO (by simp) _ hTO⟩, h1.at fun o q => k i1 (by simp) o q, h2.at fun o q => k i2 (by simp) o q⟩
  item := by
    intro X hP hw hK hc i pins s σ H E I hf st hg
    subst hP hw hK
    obtain ⟨hz, hTI, ⟨x0, y0, hTO⟩, h1, h2⟩ := st
    obtain ⟨xs, ys, hqx, hqy, hx, hy⟩ := hg
    obtain ⟨P1, St1, D1, hP1, st1, hS1⟩ := S1.draws (A := X.A.in1) I (I.ok.hd hc) hqx i1 b1 i h1
    obtain ⟨P2, St2, D2, hP2, st2, hS2⟩ := S2.draws (A := X.A.in1) I (I.ok.hd hc) hqy i2 b2 i h2
    have hzl : z < s.heap.objs.size := Heap.lt_size hz
    refine wpAny_pyNext_zipD2_item D D1 D2 hz hTI hTO st1 st2 hx hy fun u u2 h' tk p1 p2 z' TO' s1' s2' hT hsz hk => ?_
    obtain ⟨x, hx, ru⟩ := hP1 i u p1
    obtain ⟨y, hy, ru2⟩ := hP2 i u2 p2
    refine ⟨_, rfl, wpAny_letOwnedTupleGo_zip (s := { s with heap := h', toks := tk }) z' fun h'' z'' sb => ?_⟩
    have hT2 : h''.get? s.heap.objs.size = some { cls := .type "tuple", data := .seq #[u, u2] } := (sb.2 _ (Nat.ne_of_gt hzl)).trans hT
    have new : ObjOk X.prog X.w (upd H s.heap.objs.size (.tup [x, y])) h'' s.heap.objs.size (.tup [x, y]) :=
      ⟨by show 2 ≤ sizeLine; decide, [u, u2], .cons ru (.cons ru2 .nil), ⟨_, hT2, rfl, _, rfl⟩⟩
    have I1 : Inv X pins σ (upd H s.heap.objs.size (.tup [x, y])) { s with heap := h'', toks := tk } :=
      I.turnedNew (t' := tk) (ch := [z, TI, TO, i1, i2]) (fun c o hb q => (sb.2 c (fun q' => hb (by simp [q']))).trans (hk c o (fun q' => hb (by simp [q'])) (fun q' => hb (by simp [q'])) (fun q' => hb (by simp [q'])) (fun q' => hb (by simp [q'])) q)) hf (Nat.le_refl _) new
    refine ⟨.ref s.heap.objs.size, _, I1, rfl, ⟨_, x, y, rfl, I.hok.fresh (Nat.le_refl _), rfl, fun l hl => by rw [S1.inj I hl hqx]; exact hx, fun l hl => by rw [S2.inj I hl hqy]; exact hy⟩, ⟨z'', ?_, ⟨u, u2, ?_⟩, ?_, ?_⟩, fun c hcm => ?_⟩
    · exact (sb.2 _ D.TIz).trans (hk _ _ D.TIz D.TITO D.TIi1 D.TIi2 hTI)
    · exact (sb.2 _ D.TOz).trans TO'
    · exact (hS1 _ _ s1').at fun o q => (sb.2 _ D.zi1.symm).trans q
    · exact (hS2 _ _ s2').at fun o q => (sb.2 _ D.zi2.symm).trans q
    · have hlt : c < s.heap.objs.size := by
        have e' : c = z ∨ c = TI ∨ c = TO ∨ c = i1 ∨ c = i2 := by simpa using hcm
        rcases e' with q | q | q | q | q
        · rw [q]; exact hzl
        · rw [q]; exact Heap.lt_size hTI
        · rw [q]; exact Heap.lt_size hTO
        · rw [q]; obtain ⟨_, e1, _⟩ := h1.obj; exact Heap.lt_size e1
        · rw [q]; obtain ⟨_, e1, _⟩ := h2.obj; exact Heap.lt_size e1
      rw [upd_ne (Nat.ne_of_lt hlt)]
      exact (hf c hcm).1
  done := by
    intro X hP hw hK hc i pins s σ H E I hf st hg
    subst hP hw hK
    obtain ⟨hz, hTI, ⟨x0, y0, hTO⟩, h1, h2⟩ := st
    obtain ⟨xs, ys, hqx, hqy, hend⟩ := hg
    obtain ⟨P1, St1, D1, hP1, st1, hS1⟩ := S1.draws (A := X.A.in1) I (I.ok.hd hc) hqx i1 b1 i h1
    obtain ⟨P2, St2, D2, hP2, st2, hS2⟩ := S2.draws (A := X.A.in1) I (I.ok.hd hc) hqy i2 b2 i h2
    exact wpAny_pyNext_zipD2_end D D1 D2 hz hTI hTO st1 st2 (by omega) (by omega) (by omega) fun h' tk hk => ⟨rfl, I.turnedL (t' := tk) (ch := [z, TI, TO, i1, i2]) (fun c o hb q =>
      hk c o (fun q' => hb (by simp [q'])) (fun q' => hb (by simp [q'])) (fun q' => hb (by simp [q'])) (fun q' => hb (by simp [q'])) q) hf⟩
  self := fun A i s Q E st h => wpAny_pyIter_zip st.1 h
def iZipS (K : PySem.W.Frag) (ta : TA) : TI := fun σ H R => ta σ H fun vs H1 => ∃ S1 S2 xs ys, vs = [Src.v S1, Src.v S2] ∧ Src.at K H1 S1 xs ∧ Src.at K H1 S2 ys ∧ R (ItZ K S1 S2) H1
theorem pi_zipS {X : Cx} {e e2 : Expr} {ta : TA} {p pos tpos : Pos} {elts : List Expr} {kk : Nat} (hg : Gl X "zip") (hm : X.mg "zip" = none) (ha : PA X [e, e2] ta)
    (hs : starEach [e, e2] X.env = (false, eval e X.env) :: starEach [e2] X.env := by rfl) (hpl : (backTo pos (starEach [e2] X.env)).any (·.1) = false := by rfl) :
    PI X (.Tuple elts kk tpos) (.Call (.Name "zip" p) [e, e2] [] pos) (iZipS X.K ta) := by
  refine ⟨fun pins s σ H R I h => ?_⟩
  refine Call_ (ld_blt I hg hm PyProof.Rows.boot_zip (PyProof.Rows.callWith_type1 (thn (ha.run pos pins s σ H _ I h) fun us s1 ⟨vs, H1, I1, r1, q1⟩ => ?_) hs hpl))
  obtain ⟨S1, S2, xs, ys, ex, hqx, hqy, q⟩ := q1
  subst ex
  obtain ⟨u1, u2, rfl, ru1, ru2⟩ := vals2 r1
  obtain ⟨o1, G1, B1, g1, l1, m1⟩ := S1.begins I1 hqx ru1
  obtain ⟨o2, G2, B2, g2, l2, m2⟩ := S2.begins I1 hqy ru2
  refine zip_begins2 B1 B2 g1 g2 fun h' hz hTI hTO h1 h2 hsz hk => wpAny_pyIter_zip hz ?_
  have I2 : Inv X pins σ H1 { s1 with heap := h' } := I1.kept (t' := s1.toks) hk
  have n1 : ∀ {j : Nat}, (s1.heap.objs.size + j) ∉ S1.base := fun h => absurd (l1 _ h) (Nat.not_lt.mpr (Nat.le_add_right _ _))
  have n2 : ∀ {j : Nat}, (s1.heap.objs.size + j) ∉ S2.base := fun h => absurd (l2 _ h) (Nat.not_lt.mpr (Nat.le_add_right _ _))
  have sep : ZipSep2 (s1.heap.objs.size + 4) (s1.heap.objs.size + 2) (s1.heap.objs.size + 3) s1.heap.objs.size (s1.heap.objs.size + 1) (s1.heap.objs.size :: S1.base) ((s1.heap.objs.size + 1) :: S2.base) := by
    constructor
    · exact ad_ne 2 4 (by decide)
    · exact ad_ne 3 4 (by decide)
    · exact ad_ne 2 3 (by decide)
    · exact ad_ne 2 0 (by decide)
    · exact List.mem_cons_self ..
    · exact fun h => (List.mem_cons.mp h).elim (ad_ne 4 0 (by decide)) n1
    · exact fun h => (List.mem_cons.mp h).elim (ad_ne 3 0 (by decide)) n1
    · exact ad_ne 2 1 (by decide)
    · exact List.mem_cons_self ..
    · exact fun h => (List.mem_cons.mp h).elim (ad_ne 4 1 (by decide)) n2
    · exact fun h => (List.mem_cons.mp h).elim (ad_ne 3 1 (by decide)) n2
    · exact fun h => (List.mem_cons.mp h).elim (ad_ne 0 1 (by decide)) (n2 (j := 0))
    · exact fun h => (List.mem_cons.mp h).elim (ad_ne 1 0 (by decide)) n1
  refine ⟨s1.heap.objs.size + 4, [s1.heap.objs.size + 4, s1.heap.objs.size + 2, s1.heap.objs.size + 3, s1.heap.objs.size, s1.heap.objs.size + 1], _, _, H1, rfl, I2, turn_zipS sep (fun b hb => Nat.ne_of_lt (l1 b hb)) (fun b hb => Nat.ne_of_lt (Nat.lt_of_lt_of_le (l2 b hb) (Nat.le_add_right _ _))), ⟨hz, hTI, ⟨_, _, hTO⟩, m1 _ _ h1, m2 _ _ h2⟩, fun c hcm => ?_, q⟩
  have e' : c = s1.heap.objs.size + 4 ∨ c = s1.heap.objs.size + 2 ∨ c = s1.heap.objs.size + 3 ∨ c = s1.heap.objs.size ∨ c = s1.heap.objs.size + 1 := by simpa using hcm
  have hle : s1.heap.objs.size ≤ c := by
    rcases e' with z | z | z | z | z
    · rw [z]; exact Nat.le_add_right _ _
    · rw [z]; exact Nat.le_add_right _ _
    · rw [z]; exact Nat.le_add_right _ _
    · rw [z]; exact Nat.le_refl _
    · rw [z]; exact Nat.le_add_right _ _
  exact I1.fpOk hle (I1.hok.fresh hle)

theorem meets_enumB {v : Value} {o : Obj} {H : Heap → Prop} (B : Begins v o H) :
    Meets (Builtin.«enumerate.__new__» ⟨[.type "enumerate", v], []⟩) (fun _ R s => H s.heap ∧
      R (.ok (.ret (.ref (s.heap.push o).objs.size))) { s with heap := (s.heap.push o).push { cls := .type "enumerate", data := .fields #[.none, .bool false, .ref s.heap.objs.size, rawInt 0, .none, .none] } }) :=
  .of_wp fun prog w A R s h => by
    obtain ⟨hp, g, d, tk, os⟩ := s; obtain ⟨h1, h⟩ := h
    have hsub := sub_enumerate
    have q1 : ∀ {A' : Around} {E : Value → Shared → Prop} {Q : Value → Shared → Prop}, Q (.ref hp.objs.size) ⟨hp.push o, g, d, tk, os⟩ → wpAny (model prog w) A' (pyIter v) Q E ⟨hp, g, d, tk, os⟩ :=
      fun q => B.iter prog w _ _ ⟨hp, g, d, tk, os⟩ _ h1 q
    wp_walk using q1
    refine wpAny_stack_any fun st => wpAny_pure ?_
    split
    · rename_i c _ _ _ _ _
      cases (c == Value.type "enumerate")
      · wp_walk using q1
        exact ⟨_, rfl, h⟩
      · wp_walk using q1
        exact ⟨_, rfl, h⟩
    · wp_walk using q1
      exact ⟨_, rfl, h⟩
theorem enum_begins1 {prog : Program} {w : World} {A : Around} {E : Value → Shared → Prop} {s : Shared} {v : Value} {o : Obj} {H : Heap → Prop} {Q : Value → Shared → Prop} (B : Begins v o H) (h1 : H s.heap)
    (h : ∀ h', IsEnum h' (s.heap.objs.size + 1) s.heap.objs.size 0 .none → h'.get? s.heap.objs.size = some o → h'.objs.size = s.heap.objs.size + 2 →
      (∀ b o, s.heap.get? b = some o → h'.get? b = some o) → Q (.ref (s.heap.objs.size + 1)) { s with heap := h' }) :
    wpAny (model prog w) A (call (.type "enumerate") [v]) Q E s := by
  refine callType_new F.called_enumerate (by decide) (F.typeCall_enumerate_1 _) (F.newCall_enumerate_1 _) (fun obj => F.args_object_init_2 obj _) F.entry_enumerate_new
    (meets_enumB B) ⟨h1, ?_⟩
  have hz : (s.heap.push o).objs.size = s.heap.objs.size + 1 := Heap.size_push ..
  show _ ∧ _
  rw [hz]
  have he : IsEnum ((s.heap.push o).push { cls := .type "enumerate", data := .fields #[.none, .bool false, .ref s.heap.objs.size, rawInt 0, .none, .none] }) (s.heap.objs.size + 1) s.heap.objs.size 0 .none := by
    have := Heap.get?_push_size (s.heap.push o) (o := { cls := .type "enumerate", data := .fields #[.none, .bool false, .ref s.heap.objs.size, rawInt 0, .none, .none] }) rfl
    rw [hz] at this; exact this
  refine ⟨⟨_, he, rfl⟩, h _ he (Heap.get?_push_of_some _ (Heap.get?_push_size _ B.free)) (by rw [Heap.size_push, hz]) fun b o x => Heap.get?_push_of_some _ (Heap.get?_push_of_some _ x)⟩
def iEnumS (K : PySem.W.Frag) (ta : TA) : TI := fun σ H R => ta σ H fun vs H1 => ∃ S xs, vs = [Src.v S] ∧ Src.at K H1 S xs ∧ R (ItE K S) H1
theorem pi_enumS {X : Cx} {e : Expr} {ta : TA} {p pos tpos : Pos} {elts : List Expr} {kk : Nat} (hg : Gl X "enumerate") (hm : X.mg "enumerate" = none) (ha : PA X [e] ta) (hs : starEach [e] X.env = [(false, eval e X.env)] := by rfl) :
    PI X (.Tuple elts kk tpos) (.Call (.Name "enumerate" p) [e] [] pos) (iEnumS X.K ta) := by
  refine ⟨fun pins s σ H R I h => ?_⟩
  refine Call_ (ld_blt I hg hm boot_enumerate (PyProof.Rows.callWith_type1 (thn (ha.run pos pins s σ H _ I h) fun us s1 ⟨vs, H1, I1, r1, q1⟩ => ?_) hs rfl))
  obtain ⟨S, xs, ex, hq, q⟩ := q1
  subst ex
  obtain ⟨u, rfl, ru⟩ := vals1 r1
  obtain ⟨o, G, B, g, l, m⟩ := S.begins I1 hq ru
  refine enum_begins1 B g fun h' he h1 hsz hk => wpAny_pyIter_enum he ?_
  have I2 : Inv X pins σ H1 { s1 with heap := h' } := I1.kept (t' := s1.toks) hk
  refine ⟨s1.heap.objs.size + 1, [s1.heap.objs.size + 1, s1.heap.objs.size], _, _, H1, rfl, I2, turn_enumS S (s1.heap.objs.size + 1) s1.heap.objs.size (fun b hb => ⟨Nat.ne_of_lt (l b hb), Nat.ne_of_lt (Nat.lt_succ_of_lt (l b hb))⟩), ⟨⟨.none, he⟩, m _ _ h1, Nat.succ_ne_self _⟩, fun b hb => ?_, q⟩
  have e' : b = s1.heap.objs.size + 1 ∨ b = s1.heap.objs.size := by simpa using hb
  have hle : s1.heap.objs.size ≤ b := by
    rcases e' with z | z
    · rw [z]; exact Nat.le_add_right _ _
    · rw [z]; exact Nat.le_refl _
  exact I1.fpOk hle (I1.hok.fresh hle)
/-! ### list(..) of a text, a list, a tuple -/
theorem call_listS {X : Cx} (hc : X.calm = true) : CallR X (.type "list") (fun xs H Q => ∃ S ys, xs = [Src.v S] ∧ Src.at X.K H S ys ∧ ys.length ≤ sizeLine ∧ ∀ p, H p = none → Q (.ref p) (upd H p (.lst ys))) := by
  intro pins s σ H xs us Q I r h
  obtain ⟨S, ys, rfl, hq, hn, q⟩ := h
  cases S with
  | lst a => exact call_list_of pins s σ H _ us Q I r ⟨a, ys, rfl, .inl hq, q⟩
  | tup a => exact call_list_of pins s σ H _ us Q I r ⟨a, ys, rfl, .inr hq, q⟩
  | str x =>
    have hq : ys = chars x := hq
    subst hq
    obtain ⟨u, rfl, ru⟩ := vals1 r
    obtain ⟨t, rfl⟩ := ru
    have hl : (chars x).length = x.cps.size := by unfold chars; simp
    refine PySem.call_list_str (I.ok.hd hc) x t (hn := by rw [← hl]; exact hn) fun h' tk acc' c' hkeep hS hacc => ?_
    refine ⟨.ref s.heap.objs.size, upd H s.heap.objs.size (.lst (chars x)), I.laid hkeep (Nat.le_refl _) (show ObjOk X.prog X.w _ _ _ (.lst (chars x)) from ⟨hn, acc'.toList, c', ?_, ?_⟩), rfl, q _ (I.hok.fresh (Nat.le_refl _))⟩
    · have el : acc'.toList.length = acc'.size := by simp
      refine vals_of_at (by rw [el, hacc.1, hl]) fun j x' w h1 h2 => ?_
      obtain ⟨c, y, hcx, rfl⟩ := hacc.2 j w (by rw [← Array.getElem?_toList]; exact h2)
      have e1 : (chars x)[j]? = some (.str ⟨#[c]⟩) := by
        unfold chars
        rw [List.getElem?_map, Array.getElem?_toList, hcx]
        rfl
      rw [e1] at h1
      cases h1
      exact ⟨y, rfl⟩
    · exact hS
end PW
/-! Own layer: comprehensions and loops, by what is gone through and what has been gathered. -/
namespace PW
open PySem PySem.Spec PyProof.Rows L2 Evl
theorem ix_kdictK {X : Cx} {K : PySem.W.Frag} {w : World} (hK : X.K = K := by rfl) (hw : X.w = w := by rfl) : IxR X (rIxD K w) := by
  subst hK hw
  exact ix_kdict
theorem op_in_seqK {X : Cx} {K : PySem.W.Frag} (hK : X.K = K := by rfl) : OpR X (compareOp .In) (rIn K false) := by
  subst hK
  exact op_in_seq
theorem op_notIn_seqK {X : Cx} {K : PySem.W.Frag} (hK : X.K = K := by rfl) : OpR X (compareOp .NotIn) (rIn K true) := by
  subst hK
  exact op_notIn_seq
/-- a method's promise -/
structure CalM (P : Program) (w : World) (K : PySem.W.Frag) (mg : Str → Option Value) (base : Heap) (CX : CXT) (k : Nat) (f : Addr) (fd : FuncData) (ps : List Str) (sp : Sp) : Prop where
  ok : FnOk P w K mg base CX k f fd ps sp
  b : Binds K fd ps []
/-- all stands but the object at l -/
def Exo (l : Option Addr) (H H' : Hp) : Prop := ∀ a o, some a ≠ l → H a = some o → H' a = some o
theorem Exo.of {l : Option Addr} {H H' : Hp} (e : Ex H H') : Exo l H H' := fun a o _ h => e a o h
theorem Exo.refl {l : Option Addr} {H : Hp} : Exo l H H := fun _ _ _ h => h
theorem Exo.trans {l : Option Addr} {H H1 H2 : Hp} (a : Exo l H H1) (b : Exo l H1 H2) : Exo l H H2 := fun x o n h => b x o n (a x o n h)
theorem Exo.ex {H H' : Hp} (e : Exo none H H') : Ex H H' := fun a o h => e a o (fun z => nomatch z) h
theorem exo_t {K : PySem.W.Frag} {l : Option Addr} {H H' : Hp} {a : Addr} {xs : List V} (n : some a ≠ l) (e : Exo l H H') (h : SqT K H a xs) : SqT K H' a xs := by
  rcases h with (h | ⟨o, h⟩) | h
  · exact .inl (.inl (e _ _ n h))
  · exact .inl (.inr ⟨o, e _ _ n h⟩)
  · exact .inr h
theorem exo_l {K : PySem.W.Frag} {l : Option Addr} {H H' : Hp} {a : Addr} {xs : List V} (n : some a ≠ l) (e : Exo l H H') (h : SqL K H a xs) : SqL K H' a xs := by
  rcases h with (h | ⟨o, h⟩) | h
  · exact .inl (.inl (e _ _ n h))
  · exact .inl (.inr ⟨o, e _ _ n h⟩)
  · exact .inr h
theorem exo_upd {l : Option Addr} {H H' : Hp} {p : Addr} {o : HO} (e : Exo l H H') (h : H p = none) : Exo l H (upd H' p o) := fun a u n ha => by
  rw [upd_ne (ne_of_none ha h)]
  exact e a u n ha
/-- n items, the i-th of which is as `it` tells, in every heap in which all but l stands as in H0 -/
structure Wk (l : Option Addr) (J : It) (H0 : Hp) (n : Nat) (it : Nat → V → Hp → Prop) : Prop where
  go : ∀ i H, Exo l H0 H → i < n → J.go i H
  stop : ∀ H, Exo l H0 H → J.stop n H
  yld : ∀ i H x H', Exo l H0 H → i < n → J.yld i H x H' → Ex H H' ∧ it i x H'
def offl (l : Option Addr) : Src → Prop
  | .lst a => some a ≠ l
  | .tup a => some a ≠ l
  | .str _ => True
theorem Src.exo {K : PySem.W.Frag} {l : Option Addr} {H H' : Hp} {S : Src} {xs : List V} (n : offl l S) (e : Exo l H H') (h : S.at K H xs) : S.at K H' xs := by
  cases S with
  | lst a => exact exo_l n e h
  | tup a => exact exo_t n e h
  | str x => exact h
section
variable {K : PySem.W.Frag} {l : Option Addr} {H0 : Hp} {xs ys : List V} {a : Addr}
theorem wk_list (n : some a ≠ l) (h : SqL K H0 a xs) : Wk l (Itl K a) H0 xs.length (fun i x _ => xs[i]? = some x) where
  go := fun i H e hi => ⟨xs, xs[i], exo_l n e h, List.getElem?_eq_getElem hi⟩
  stop := fun H e => ⟨xs, exo_l n e h, Nat.le_refl _⟩
  yld := fun i H x H' e hi y => by
    obtain ⟨rfl, y⟩ := y
    exact ⟨Ex.refl _, y xs (exo_l n e h)⟩
theorem wk_tup (n : some a ≠ l) (h : SqT K H0 a xs) : Wk l (Itt K a) H0 xs.length (fun i x _ => xs[i]? = some x) where
  go := fun i H e hi => ⟨xs, xs[i], exo_t n e h, List.getElem?_eq_getElem hi⟩
  stop := fun H e => ⟨xs, exo_t n e h, Nat.le_refl _⟩
  yld := fun i H x H' e hi y => by
    obtain ⟨rfl, y⟩ := y
    exact ⟨Ex.refl _, y xs (exo_t n e h)⟩
theorem wk_range {lo : Int} {n : Nat} : Wk l (Itr lo n) H0 n (fun i x _ => x = .int (lo + i)) where
  go := fun i H e hi => hi
  stop := fun H e => Nat.le_refl _
  yld := fun i H x H' e hi y => by
    obtain ⟨rfl, y⟩ := y
    exact ⟨Ex.refl _, y⟩
theorem wk_str {x : Str} : Wk l (Its x) H0 x.cps.size (fun i v _ => ∃ c, x.cps[i]? = some c ∧ v = .str ⟨#[c]⟩) where
  go := fun i H e hi => hi
  stop := fun H e => Nat.le_refl _
  yld := fun i H x H' e hi y => by
    obtain ⟨rfl, y⟩ := y
    exact ⟨Ex.refl _, y⟩
theorem wk_enum {S : Src} (n : offl l S) (h : S.at K H0 xs) : Wk l (ItE K S) H0 xs.length (fun i v H => ∃ T x, v = .ref T ∧ H T = some (.tup [.int (i : Nat), x]) ∧ xs[i]? = some x) where
  go := fun i H e hi => ⟨xs, xs[i], Src.exo n e h, List.getElem?_eq_getElem hi⟩
  stop := fun H e => ⟨xs, Src.exo n e h, rfl⟩
  yld := fun i H v H' e hi y => by
    obtain ⟨T, x, rfl, hT, rfl, y⟩ := y
    exact ⟨Ex.new hT, T, x, rfl, upd_same, y xs (Src.exo n e h)⟩
theorem wk_zip {S1 S2 : Src} (n1 : offl l S1) (n2 : offl l S2) (h1 : S1.at K H0 xs) (h2 : S2.at K H0 ys) :
    Wk l (ItZ K S1 S2) H0 (min xs.length ys.length) (fun i v H => ∃ T x y, v = .ref T ∧ H T = some (.tup [x, y]) ∧ xs[i]? = some x ∧ ys[i]? = some y) where
  go := fun i H e hi => ⟨xs, ys, Src.exo n1 e h1, Src.exo n2 e h2, by omega, by omega⟩
  stop := fun H e => ⟨xs, ys, Src.exo n1 e h1, Src.exo n2 e h2, rfl⟩
  yld := fun i H v H' e hi y => by
    obtain ⟨T, x, y, rfl, hT, rfl, y1, y2⟩ := y
    exact ⟨Ex.new hT, T, x, y, rfl, upd_same, y1 xs (Src.exo n1 e h1), y2 ys (Src.exo n2 e h2)⟩
end
/-- what has been gathered after i items: the list at D -/
def LcP (l : Option Addr) (H1 : Hp) (D : Addr) (Acc : Nat → List V → Hp → Prop) (i : Nat) (H : Hp) : Prop := Exo l H1 H ∧ ∃ ys, H D = some (.lst ys) ∧ ys.length ≤ i ∧ Acc i ys H
section
variable {l : Option Addr} {H1 : Hp} {D : Addr} {Acc : Nat → List V → Hp → Prop} {i : Nat} {H : Hp} {ys : List V} {y : V}
theorem LcP.push (hD : H1 D = none) (e : Exo l H1 H) (h : H D = some (.lst ys)) (hl : ys.length ≤ i) (hn : i < sizeLine) (a : Acc (i + 1) (ys ++ [y]) (upd H D (.lst (ys ++ [y])))) :
    ∃ acc, H D = some (.lst acc) ∧ acc.length < sizeLine ∧ LcP l H1 D Acc (i + 1) (upd H D (.lst (acc ++ [y]))) :=
  ⟨ys, h, Nat.lt_of_le_of_lt hl hn, exo_upd e hD, ys ++ [y], upd_same, by rw [List.length_append]; exact Nat.succ_le_succ hl, a⟩
theorem LcP.skip (e : Exo l H1 H) (h : H D = some (.lst ys)) (hl : ys.length ≤ i) (a : Acc (i + 1) ys H) : LcP l H1 D Acc (i + 1) H := ⟨e, ys, h, Nat.le_succ_of_le hl, a⟩
end
theorem lc_acc {l : Option Addr} {J : It} {n : Nat} {it : Nat → V → Hp → Prop} {g : TG} {tt : TT} {te : TE} {vs : List Nat} {σ : L2.St} {H1 : Hp} {D : Addr} {Qd : Hp → Prop} (wk : Wk l J H1 n it) (hD : H1 D = none)
    (Acc : Nat → List V → Hp → Prop) (a0 : Acc 0 [] (upd H1 D (.lst []))) (me : ∀ i ys H H', Ex H H' → Acc i ys H → Acc i ys H')
    (hs : ∀ i x H ys, i < n → Exo l H1 H → H D = some (.lst ys) → ys.length ≤ i → Acc i ys H → it i x H → g x (wipe σ vs) H fun σ2 H2 => wipe σ2 vs = wipe σ vs ∧ tt σ2 H2 fun b H3 =>
      if b = true then te σ2 H3 fun y H4 => ∃ acc, H4 D = some (.lst acc) ∧ acc.length < sizeLine ∧ LcP l H1 D Acc (i + 1) (upd H4 D (.lst (acc ++ [y]))) else LcP l H1 D Acc (i + 1) H3)
    (hd : ∀ H ys, Exo l H1 H → H D = some (.lst ys) → Acc n ys H → Qd H) :
    ∃ W : Nat → Nat → Hp → Prop, (∃ m, W 0 m (upd H1 D (.lst []))) ∧ ∀ i m H, W i m H →
      (J.stop i H ∧ Qd H) ∨ (J.go i H ∧ ∃ Nx : Hp → Prop, (∀ H', Nx H' → ∃ m', m' < m ∧ W (i + 1) m' H') ∧ ∀ x H', J.yld i H x H' → g x (wipe σ vs) H' fun σ2 H2 => wipe σ2 vs = wipe σ vs ∧ tt σ2 H2 fun b H3 =>
        if b = true then te σ2 H3 fun y H4 => ∃ acc, H4 D = some (.lst acc) ∧ acc.length < sizeLine ∧ Nx (upd H4 D (.lst (acc ++ [y]))) else Nx H3) := by
  refine ⟨fun i m H => m = n - i ∧ i ≤ n ∧ LcP l H1 D Acc i H, ⟨n, rfl, Nat.zero_le _, exo_upd Exo.refl hD, [], upd_same, Nat.le_refl _, a0⟩, ?_⟩
  rintro i m H ⟨rfl, hi, e, ys, hy, hl, ha⟩
  by_cases hlt : i < n
  · refine .inr ⟨wk.go i H e hlt, LcP l H1 D Acc (i + 1), fun H' p' => ⟨n - (i + 1), by omega, rfl, hlt, p'⟩, fun x H' y => ?_⟩
    obtain ⟨ex, hx⟩ := wk.yld i H x H' e hlt y
    exact hs i x H' ys hlt (e.trans (Exo.of ex)) (ex _ _ hy) hl (me _ _ _ _ ex ha) hx
  · have z : i = n := by omega
    subst z
    exact .inl ⟨wk.stop H e, hd H ys e hy ha⟩
/-- a loop, by what is gone through; Pv of the i-th turn must outlast new objects -/
theorem for_wk {l : Option Addr} {J : It} {n : Nat} {it : Nat → V → Hp → Prop} {g : TG} {tb : TS} {D : Ends} {σ : L2.St} {H0 H : Hp} (wk : Wk l J H0 n it) (Pv : Nat → L2.St → Hp → Prop) (h0 : Pv 0 σ H)
    (he : ∀ i σ H, Pv i σ H → Exo l H0 H) (me : ∀ i σ H H', Ex H H' → Pv i σ H → Pv i σ H')
    (hs : ∀ i x σ H, i < n → it i x H → Pv i σ H → g x σ H fun σ2 H2 => tb { D with nx := Pv (i + 1), ct := Pv (i + 1), bk := D.nx } σ2 H2) (hd : ∀ σ H, Pv n σ H → D.nx σ H) :
    ∃ W : Nat → Nat → L2.St → Hp → Prop, (∃ m, W 0 m σ H) ∧ ∀ i m σ H, W i m σ H →
      (J.stop i H ∧ D.nx σ H) ∨ (J.go i H ∧ ∃ N : L2.St → Hp → Prop, (∀ σ' H', N σ' H' → ∃ m', m' < m ∧ W (i + 1) m' σ' H') ∧ ∀ x H', J.yld i H x H' → g x σ H' fun σ2 H2 => tb { D with nx := N, ct := N, bk := D.nx } σ2 H2) := by
  refine ⟨fun i m σ H => m = n - i ∧ i ≤ n ∧ Pv i σ H, ⟨n, rfl, Nat.zero_le _, h0⟩, ?_⟩
  rintro i m σ H ⟨rfl, hi, p⟩
  by_cases hlt : i < n
  · refine .inr ⟨wk.go i H (he _ _ _ p) hlt, Pv (i + 1), fun σ' H' p' => ⟨n - (i + 1), by omega, rfl, hlt, p'⟩, fun x H' y => ?_⟩
    obtain ⟨ex, hx⟩ := wk.yld i H x H' (he _ _ _ p) hlt y
    exact hs i x σ H' hlt hx (me _ _ _ _ ex p)
  · have z : i = n := by omega
    subst z
    exact .inl ⟨wk.stop H (he _ _ _ p), hd σ H p⟩
end PW
/-! Own layer: defs whose exceptions have no context (raised where nothing is handled). -/
namespace PW
open PySem PySem.Spec PyProof.Rows L2 Evl
theorem passLN {X : Cx} : Passes (L2N.CX X.prog X.w) X E0 := fun _ _ _ _ _ _ _ h => by
  obtain ⟨_, _, _, _, _, _, _, _, _, _, _, _, z⟩ := h
  exact z.elim
theorem takes0N {X : Cx} : L2N.Takes X (fun _ _ _ _ => False) := fun _ _ x => by
  obtain ⟨_, _, _, _, _, _, _, _, _, _, _, _, _, _, _, _, z⟩ := x
  exact z.elim
section
variable {P : Program} {w : World} {K : PySem.W.Frag} {mg : Str → Option Value} {base : Heap}
theorem _root_.L2.Fun.okXN {x qual : Str} {st : Stmt} {f : Addr} {fd : FuncData} {N ps : List Str} {k : Nat} {sp : Sp} (F : Fun K x qual st f fd) (S : FnScope N ps (defScope st)) (len : ∀ vs H Q E, sp vs H Q E → vs.length = ps.length)
    (hbody : ∀ (cdv : Value) (A : Around) (outer : List Env) (s : Shared) (H : Hp) (vs : List V) (Q : VK) (E : XK), Room k (A.deeper (envOfC qual (defScope st) s.heap.objs.size f cdv)) → sp vs H Q E →
      ∃ t, PSs (cxOf (L2N.CX P w) P w K mg base N qual (defScope st) f cdv A outer s H E) (defBody st) t ∧ t { nx := fun _ H' => Q .non H', rt := Q } (start N vs) H) : FnOk P w K mg base (L2N.CX P w) (k + 1) f fd ps sp := by
  obtain ⟨oc, od, kV, doc, pm, an, cdv, ct, osl, e, lk, hcd⟩ := F.ex
  subst e
  exact fn_of lk hcd S len fun A outer s H vs Q E hr hsp => hbody cdv A outer s H vs Q E hr hsp
end
end PW
/-! Own layer: a comprehension over a list within an except suite. -/
namespace PW
open PySem PySem.Spec PyProof.Rows L2 Evl
open HotX
section
variable {prog : Program} {w : World} {A : Around} {E : Value → Shared → Prop} {s : Shared}
/-- the list's end, where an exception without context is handled -/
theorem list_end_hot {it l x1 : Addr} {i : Nat} {items : Array Value} {Q : Option Value → Shared → Prop} (hot : HotAt A x1 s.heap) (hne : x1 ≠ it)
    (hit : s.heap.IsListIter it l i) (hl : s.heap.IsList l items) (hx : items[i]? = none)
    (hQ : ∀ h', (∀ b o, b ≠ it → s.heap.get? b = some o → h'.get? b = some o) → Q none { s with heap := h' }) : wpAny (model prog w) A (pyNext (.ref it)) Q E s := by
  obtain ⟨o, ho, hc, hd⟩ := id hit
  obtain ⟨ol, hol, _, nl, hdl⟩ := hl
  obtain ⟨hh, o1, vs1, h1, d1, c1⟩ := hot
  unfold pyNext
  refine wpAny_bind (wpAny_attempt (wpAny_callSpecial?_slot (name := Str.ofString "__next__") hit.typeIs slot_listiter_next
    (wpAny_call_entry slot_listiter_next hit.typeIs entry_listiter_next ?_ (args_listiter_next _))))
  show wpAny _ _ (field (.ref it) 0 >>= _) _ _ s
  refine wpAny_bind (wpAny_field ho hd (x := .ref l) rfl ?_)
  show wpAny _ _ (if (Value.ref l == Value.none) = true then _ else _) _ _ s
  rw [if_neg (show ¬ ((Value.ref l == Value.none) = true) from Bool.false_ne_true)]
  show wpAny _ _ (field (.ref it) 1 >>= _) _ _ s
  refine wpAny_bind (wpAny_field ho hd (x := .int i 0) rfl ?_)
  show wpAny _ _ (seqItems? (.ref l) >>= _) _ _ s
  refine wpAny_bind (wpAny_seqItems hol hdl ?_)
  simp only [Int.toNat_natCast, hx]
  refine wpAny_bind (wpAny_rule (wpAny_bind (wpAny_setField ho hd (by simp) ?_)))
  have h1' : (s.heap.update it (Obj.mapFields (·.setIfInBounds 0 .none))).get? x1 = some o1 := (Heap.get?_update_other _ _ (Ne.symm hne)).trans h1
  show wpAny _ _ (newExc (.type "StopIteration") [] >>= _) _ _ _
  refine wpAny_bind ?_
  simp only [newExc, newTuple]
  refine wpAny_bind (wpAny_newObj_type ?_ (by size_fits))
  refine wpAny_bind (m := firstArgMember _ _) (wpAny_of_eq (a := Value.none) (by first | rfl | (simp only [firstArgMember]; rfl)) ?_)
  refine wpAny_newObj_type ?_ (by size_fits)
  refine raiseNew_hot ⟨hh, o1, vs1, Heap.get?_push_of_some _ (Heap.get?_push_of_some _ h1'), d1, c1⟩ (Nat.ne_of_lt (Heap.lt_size (Heap.get?_push_of_some _ h1'))) (Heap.get?_push_size _ rfl) rfl (by first | (simp; done) | (simp; omega) | (simp only [Array.size_append]; simp; omega)) ?_
  refine wpAny_bind (wpAny_isInstance (T := "StopIteration") (b := true) ⟨_, Heap.get?_update_self _ (Heap.get?_push_size _ rfl) rfl, rfl⟩ isSubtype_stop ?_)
  refine wpAny_pure (hQ _ fun b o' nb e => ?_)
  have e' : (s.heap.update it (Obj.mapFields (·.setIfInBounds 0 .none))).get? b = some o' := (Heap.get?_update_other _ _ (Ne.symm nb)).trans e
  rw [Heap.get?_update_other _ _ (Nat.ne_of_gt (Heap.lt_size (Heap.get?_push_of_some _ e')))]
  exact Heap.get?_push_of_some _ (Heap.get?_push_of_some _ e')
theorem goes_hot {it l x1 : Addr} {items : Array Value} {target : Expr} (hh : A.handled = some (.ref x1)) (hne : x1 ≠ it) (hl : l ≠ it) :
    Goes prog w A target it [it, l, x1] [it] items.size (fun i v _ => items[i]? = some v) (fun i h => h.IsListIter it l i ∧ h.IsList l items ∧ ∃ (o : Obj) (vs : Array Value), h.get? x1 = some o ∧ o.data = .fields vs ∧ vs[2]? = some .none) where
  sub := fun b hb => by rw [List.mem_singleton.mp hb]; exact List.mem_cons_self ..
  frame := fun i h h' ⟨s1, s2, o, vs, h1, h2, h3⟩ k => ⟨s1.at fun o e => k it (by simp) o e, s2.at fun o e => k l (by simp) o e, o, vs, k x1 (by simp) o h1, h2, h3⟩
  goes := fun i s Q E hi ⟨s1, s2, o, vs, h1, h2, h3⟩ hQ => by
    refine wpAny_pyNext_list_item s1 s2 (x := items[i]) (by simp [hi]) fun h' s1' sb => ⟨_, rfl, ?_⟩
    obtain ⟨oi, e, c, d⟩ := id s1'
    refine go_of (s := { s with heap := h' }) e c d (by decide) (hQ items[i] h' s.toks (by simp [hi]) ⟨s1', s2.extBut sb.extBut hl, o, vs, sb.extBut _ _ hne h1, h2, h3⟩ (fun b o hb e => sb.extBut _ _ (fun z => hb (by simp [z])) e) (Nat.le_refl _))
  stops := fun s Q E ⟨s1, s2, o, vs, h1, h2, h3⟩ hQ =>
    list_end_hot ⟨hh, o, vs, h1, h2, h3⟩ hne s1 s2 (by simp) fun h' k => ⟨rfl, hQ h' s.toks (fun b o hb e => k b o (fun z => hb (by simp [z])) e) (Nat.le_refl _)⟩
  self := fun i s Q E ⟨s1, _⟩ h => wpAny_pyIter_listiter s1 h
end
/-- [int(y) for y in ..] of truth values, where an exception without context is handled -/
def tLcInt (K : PySem.W.Frag) (te : TE) : TE := fun σ H Q => te σ H fun v H1 => ∃ (p : Addr) (bs : List Bool), v = .ref p ∧ SqL K H1 p (bs.map V.bl) ∧ ∀ D, H1 D = none → Q (.ref D) (upd H1 D (.lst (bs.map fun b => V.int (if b = true then 1 else 0))))
theorem pe_lcInt {X : Cx} {y : Str} {iter : Expr} {te : TE} {scope : Scope} {pos px p1 p2 p3 : Pos} (hot : ∃ (a : Addr) (o : Obj), X.A.handled = some (.ref a) ∧ (a, o) ∈ X.pn ∧ ∃ vs : Array Value, o.data = .fields vs ∧ vs[2]? = some .none) (hi : PE X iter te) (hm : X.mg "int" = none)
    (hclos : closureFor scope X.env = pure []) (hcell : ∀ z ∈ scope.names, z.2 ≠ .cell) (hkind : scope.kind = .function) (hnames : ∀ z ∈ scope.names, z.2 = .local → scope.names.lookup z.1 = some .local)
    (hy : ∀ C, (compEnvC scope [] C X.env).kindOf y = some .local) (hint : ∀ C, (compEnvC scope [] C X.env).kindOf "int" = some .globalImplicit) (hyd : (y == ("__debug__" : Str)) = false)
    (hs : ∀ x, foldedSetIterable iter X.env x = pure x := by intro _; rfl) :
    PE X (.ListComp (.Call (.Name "int" p1) [.Name y p2] [] p3) [⟨.Name y px, iter, [], 0⟩] scope pos) (tLcInt X.K te) := by
  refine ⟨fun pins s σ H Q I h => ?_⟩
  refine ListComp_goes (cl := []) hclos hcell hkind hnames (thn (hi.run pins s σ H _ I h) fun xv s1 ⟨v, H1, I1, rv, p, bs, ev, hS, q⟩ => ?_) hs
  subst ev
  cases rv
  obtain ⟨its, rits, pl, hz⟩ := I1.list hS
  have hlen := rits.length
  rw [List.length_map] at hlen
  obtain ⟨x1, o1, hh, hmem, vs1, d1, c1⟩ := hot
  have hx1 : s1.heap.get? x1 = some o1 := (I1.pin (x1, o1) (List.mem_append_left _ hmem)).1
  have lx1 := Heap.lt_size hx1
  have lp := pl.lt
  refine wpAny_pyIter_list pl.isList ?_
  have up : ∀ b o, s1.heap.get? b = some o → (s1.heap.push { cls := .type "list_iterator", data := .fields #[.ref p, .int 0 0] }).get? b = some o := fun b o e => Heap.get?_push_of_some _ e
  refine ⟨s1.heap.objs.size, _, _, _, _, _, rfl, goes_hot (items := its.toArray) hh (Nat.ne_of_lt lx1) (Nat.ne_of_lt lp), by rw [List.size_toArray, ← hlen]; rw [List.length_map] at hz; exact hz, ⟨⟨_, Heap.get?_push_size _ rfl, rfl, rfl⟩, pl.isList.at fun o e => up _ _ e, o1, vs1, up _ _ hx1, d1, c1⟩, fun b hb => ?_, fun D C s3 cb => ?_⟩
  · have e : b = s1.heap.objs.size ∨ b = p ∨ b = x1 := by simpa using hb
    show b < (s1.heap.push _).objs.size
    rw [Heap.size_push]
    rcases e with e | e | e
    · rw [e]; exact Nat.lt_succ_self _
    · rw [e]; exact Nat.lt_succ_of_lt lp
    · rw [e]; exact Nat.lt_succ_of_lt lx1
  have szD : s1.heap.objs.size < D := by
    have := cb.newD
    rw [show ({ s1 with heap := s1.heap.push { cls := .type "list_iterator", data := .fields #[.ref p, .int 0 0] } } : Shared).heap.objs.size = s1.heap.objs.size + 1 from Heap.size_push ..] at this
    exact this
  have szC : s1.heap.objs.size < C := by
    have := cb.newC
    rw [show ({ s1 with heap := s1.heap.push { cls := .type "list_iterator", data := .fields #[.ref p, .int 0 0] } } : Shared).heap.objs.size = s1.heap.objs.size + 1 from Heap.size_push ..] at this
    exact this
  refine ⟨fun i ys s' => (∃ h tk, s' = { s1 with heap := h, toks := tk }) ∧ (∀ b o, s1.heap.get? b = some o → s'.heap.get? b = some o) ∧ (∃ m, s'.heap.Ns C m) ∧ Vals ((bs.take i).map fun b => V.int (if b = true then 1 else 0)) ys, ?_, ?_, ?_, ?_⟩
  · obtain ⟨h, tk, e⟩ := cb.only
    refine ⟨⟨h, tk, e⟩, fun b o e => cb.old b o (up b o e), ⟨_, cb.names⟩, .nil⟩
  · rintro i ys s' h' tk ⟨⟨h, tk0, e⟩, k, ⟨m, hm'⟩, hv⟩ keep _
    subst e
    refine ⟨⟨h', tk, rfl⟩, fun b o e => keep b o ?_ (k b o e), ⟨m, ?_⟩, hv⟩
    · have := Heap.lt_size e
      intro hb
      have e : b = D ∨ b = s1.heap.objs.size := by simpa using hb
      rcases e with e | e
      · rw [e] at this; exact absurd this (Nat.not_lt.mpr (Nat.le_of_lt szD))
      · rw [e] at this; exact absurd this (Nat.lt_irrefl _)
    · refine hm'.at fun o e => keep C o ?_ e
      intro hb
      have e : C = D ∨ C = s1.heap.objs.size := by simpa using hb
      rcases e with e | e
      · exact cb.ne e.symm
      · rw [e] at szC; exact Nat.lt_irrefl _ szC
  · rintro i v ys s' hi hv st ⟨⟨h, tk0, e⟩, k, ⟨m, hm'⟩, hys⟩ hD
    subst e
    have hil : i < bs.length := by rw [hlen]; simpa using hi
    obtain ⟨b, hb⟩ : ∃ b, bs[i]? = some b := ⟨_, List.getElem?_eq_getElem hil⟩
    have hvb : v = .bool b := by
      obtain ⟨u, hu, ru⟩ := rits.get (x := V.bl b) (by rw [List.getElem?_map, hb]; rfl)
      have hv' : its[i]? = some v := by simpa using hv
      rw [hu] at hv'
      cases hv'
      exact ru
    subst hvb
    have hk : (compEnvC scope [] C X.env).scope.kind = .function := hkind
    refine wpAny_assign_Name (wpAny_storeName_local (hy C) hm' (fun h2 hn2 sb2 => ?_) (by rw [hk]; rfl))
    show wpAny _ _ (testsOf [] _) _ _ _
    refine wpAny_pure ?_
    show wpAny _ _ (eval (.Call (.Name "int" p1) [.Name y p2] [] p3) _) _ _ _
    have kC : ∀ b o, s1.heap.get? b = some o → h2.get? b = some o := fun b o e => sb2.extBut b o (by have := Heap.lt_size e; exact Nat.ne_of_lt (Nat.lt_trans this szC)) (k b o e)
    have kb : ∀ b o, X.base.get? b = some o → h2.get? b = some o := fun b o e => kC b o (I1.bk b o e)
    obtain ⟨mb, g1, g2⟩ := I1.mod.blt
    have hgl : h2.Ns (compEnvC scope [] C X.env).globals X.mg := by
      show h2.Ns X.env.globals X.mg
      rw [I1.ok.glob]
      exact I1.mod.glob.keeps kb
    have hbl : h2.Ns (compEnvC scope [] C X.env).builtins mb := by
      show h2.Ns X.env.builtins mb
      rw [I1.ok.blt]
      exact g1.keeps kb
    refine wpAny_Call_Name_kw (Calls.Name_function_global hk (hint C) (Calls.loadGlobal_builtin hgl hm hbl (v := .type "int") ((g2 "int" (by decide)).trans (by decide +kernel)) ?_))
    refine PyProof.Rows.callWith_type1 ?_ rfl rfl
    refine Calls.spliced_cons (wpAny_Name (wpAny_loadName_local hk (hy C) hn2 (v := .bool b) (by rw [if_pos rfl]) ?_) hyd)
    refine Calls.spliced_nil ?_
    refine call_int_bool ?_
    refine ⟨⟨⟨_, _, rfl⟩, kC, ⟨_, hn2⟩, ?_⟩, ?_, ?_⟩
    · rw [List.take_add_one, hb, List.map_append]
      exact hys.append (.cons ⟨_, rfl⟩ .nil)
    · obtain ⟨t1, t2, o, vs, t3, t4, t5⟩ := st
      exact ⟨t1.at fun o e => sb2.extBut _ _ (Nat.ne_of_lt szC) e, t2.at fun o e => sb2.extBut _ _ (Nat.ne_of_lt (Nat.lt_trans lp szC)) e, o, vs, sb2.extBut _ _ (Nat.ne_of_lt (Nat.lt_trans lx1 szC)) t3, t4, t5⟩
    · obtain ⟨c, hc⟩ := hD
      exact ⟨c, sb2.extBut _ _ cb.ne hc⟩
  · rintro ys s' ⟨⟨h, tk0, e⟩, k, ⟨m, hm'⟩, hys⟩ hD
    subst e
    refine ⟨m, hm', fun h' sb => ?_⟩
    obtain ⟨c, hc⟩ := hD
    have hc' := sb.extBut _ _ cb.ne hc
    refine ⟨.ref D, upd H1 D (.lst (bs.map fun b => V.int (if b = true then 1 else 0))), I1.laid (fun b o e => sb.extBut b o (by have := Heap.lt_size e; exact Nat.ne_of_lt (Nat.lt_trans this szC)) (k b o e)) (Nat.le_of_lt szD) ⟨by rw [List.length_map] at hz ⊢; exact hz, ys, c, ?_, hc'⟩, rfl, q D (I1.hok.fresh (Nat.le_of_lt szD))⟩
    rw [List.size_toArray, ← hlen, List.take_length] at hys
    exact hys
theorem pe_lcIntK {X : Cx} {K : PySem.W.Frag} {y : Str} {iter : Expr} {te : TE} {scope : Scope} {pos px p1 p2 p3 : Pos} (hot : ∃ (a : Addr) (o : Obj), X.A.handled = some (.ref a) ∧ (a, o) ∈ X.pn ∧ ∃ vs : Array Value, o.data = .fields vs ∧ vs[2]? = some .none) (hi : PE X iter te) (hm : X.mg "int" = none)
    (hclos : closureFor scope X.env = pure []) (hcell : ∀ z ∈ scope.names, z.2 ≠ .cell) (hkind : scope.kind = .function) (hnames : ∀ z ∈ scope.names, z.2 = .local → scope.names.lookup z.1 = some .local)
    (hy : ∀ C, (compEnvC scope [] C X.env).kindOf y = some .local) (hint : ∀ C, (compEnvC scope [] C X.env).kindOf "int" = some .globalImplicit) (hyd : (y == ("__debug__" : Str)) = false) (hK : X.K = K := by rfl)
    (hs : ∀ x, foldedSetIterable iter X.env x = pure x := by intro _; rfl) :
    PE X (.ListComp (.Call (.Name "int" p1) [.Name y p2] [] p3) [⟨.Name y px, iter, [], 0⟩] scope pos) (tLcInt K te) := by
  subst hK
  exact pe_lcInt hot hi hm hclos hcell hkind hnames hy hint hyd hs
theorem hotN {X : Cx} {a : Addr} {cls : Value} {d : Option Addr} {oe : Obj} {pn : List (Addr × Obj)} (hz : L2N.Zn cls d oe) (hf : ∃ vs, oe.data = .fields vs) :
    ∃ (b : Addr) (o : Obj), (X.suite a ((a, oe) :: pn)).A.handled = some (.ref b) ∧ (b, o) ∈ (X.suite a ((a, oe) :: pn)).pn ∧ ∃ vs : Array Value, o.data = .fields vs ∧ vs[2]? = some .none :=
  let ⟨vs, h⟩ := hf
  ⟨a, oe, rfl, List.mem_cons_self, vs, h, hz.2.2 vs h⟩
theorem pe_indexK {X : Cx} {K : PySem.W.Frag} {o e : Expr} {to : TE} {t : TA} {apos cpos : Pos} (ho : PE X o to) (ha : PA X [e] t) (hK : X.K = K := by rfl)
    (hbase : attributeBase o "index" X.env (eval o X.env) = eval o X.env := by rfl)
    (hfew : ((backTo cpos (starEach [e] X.env)).all (fun x => !x.1) && (backToKw cpos (keywordEach [] X.env)).all (fun x => x.1.isSome)
      && decide (([e] : List Expr).length + ([] : List Keyword).length + (if ([] : List Keyword).isEmpty then 0 else 1) < 30)) = true := by rfl)
    (hline : (apos.endLine == cpos.line) = true := by rfl) (hs : starEach [e] X.env = (false, eval e X.env) :: starEach [] X.env := by rfl) (hplain : (backTo cpos (starEach [] X.env)).any (·.1) = false := by rfl) :
    PE X (.Call (.Attribute o "index" apos) [e] [] cpos) (tBM K "list" (rIndex K) to t) := by
  subst hK
  exact pe_bm PySem.F.plainAttrs_list PySem.F.slot_list_index PySem.F.type_list_index mt_index ho ha hbase hfew hline hs hplain
end PW
/-! Own layer: going through a list or a tuple, whichever it is; a tuple repeated any number of times. -/
namespace PW
open PySem PySem.Spec PyProof.Rows L2 Evl
def Src.sq : Src → Prop
  | .lst _ => True
  | .tup _ => True
  | .str _ => False
def ItP (K : PySem.W.Frag) : Src → It
  | .lst a => Itl K a
  | .tup a => Itt K a
  | .str x => Its x
def iSrc (K : PySem.W.Frag) (te : TE) : TI := fun σ H R => te σ H fun v H1 => ∃ S : Src, v = S.v ∧ S.sq ∧ (∃ xs, S.at K H1 xs) ∧ R (ItP K S) H1
theorem pi_src {X : Cx} {tg l : Expr} {te : TE} (he : PE X l te) : PI X tg l (iSrc X.K te) := by
  constructor
  intro pins s σ H R I h
  refine thn (he.run pins s σ H _ I h) ?_
  rintro u s2 ⟨z, H2, J, ru, S, hz, hs, ⟨ys, hy⟩, q⟩
  subst hz
  cases S with
  | lst b =>
    cases ru
    obtain ⟨is, _, pb, _⟩ := J.list hy
    refine wpAny_pyIter_list pb.isList ?_
    refine ⟨s2.heap.objs.size, [s2.heap.objs.size], _, _, H2, rfl, J.kept (t' := s2.toks) (fun c o w => Heap.get?_push_of_some _ w), turn_list b _, ⟨_, Heap.get?_push_size _ rfl, rfl, rfl⟩, ?_, q⟩
    intro c hc
    rw [List.mem_singleton.mp hc]
    exact J.fpOk (Nat.le_refl _) (J.hok.fresh (Nat.le_refl _))
  | tup b =>
    cases ru
    obtain ⟨is, _, pb, _⟩ := J.tuple hy
    refine wpAny_pyIter_tuple (items := is.toArray) pb ?_
    refine ⟨s2.heap.objs.size, [s2.heap.objs.size], _, _, H2, rfl, J.kept (t' := s2.toks) (fun c o w => Heap.get?_push_of_some _ w), turn_tuple b _, ⟨_, Heap.get?_push_size _ rfl, rfl, rfl⟩, ?_, q⟩
    intro c hc
    rw [List.mem_singleton.mp hc]
    exact J.fpOk (Nat.le_refl _) (J.hok.fresh (Nat.le_refl _))
  | str x => exact hs.elim
theorem wk_src {K : PySem.W.Frag} {l : Option Addr} {H0 : Hp} {xs : List V} {S : Src} (hs : S.sq) (n : offl l S) (h : S.at K H0 xs) : Wk l (ItP K S) H0 xs.length (fun i x _ => xs[i]? = some x) := by
  cases S with
  | lst a => exact wk_list n h
  | tup a => exact wk_tup n h
  | str x => exact hs.elim
/-! ### objects of own classes, asked for their class -/
structure InsC (K : PySem.W.Frag) (C : Addr) : Prop where
  ha : PySem.W.findIn K (.ref C) "__class__" = some (some (.builtin "object.__class__"))
  hn : PySem.W.specialIn K (.builtin "object.__class__") "__get__" = some (some (.builtin "getset_descriptor.__get__"))
  ht : PySem.W.takesIn K (.builtin "object.__class__") = some true
  hm : PySem.W.mroIn K C (.type "object") = some true
theorem InsC.ty {K : PySem.W.Frag} {H : Hp} {a C dx : Addr} {fs : List (Str × V)} (i : InsC K C) (cl : Cls K C) (e : H a = some (.ins C dx fs)) : TyX K H (.ref a) (.ref C) := .base (.ins e cl i.ha i.hn i.ht i.hm)
/-! ### rules that are told K -/
theorem pe_fldK {X : Cx} {K : PySem.W.Frag} {e : Expr} {f : Str} {pos : Pos} {ta : TE} (he : PE X e ta) (hb : attributeBase e f X.env (eval e X.env) = eval e X.env) (hK : X.K = K := by rfl) : PE X (.Attribute e f pos) (tFld K ta f) := by
  subst hK
  exact pe_fld he hb
theorem sl_tupK {X : Cx} {K : PySem.W.Frag} (hK : X.K = K := by rfl) : SlR X (rSlA K) := by
  subst hK
  exact sl_tupA
theorem op_catK {X : Cx} {K : PySem.W.Frag} (hK : X.K = K := by rfl) : OpR X (binaryOp .Add) (rCatA K) := by
  subst hK
  exact op_catA
/-! ### a tuple, repeated -/
theorem tup_mul1 (l : Addr) (items : Array Value) (n : Nat) (dd : Option Addr) (sl : Array (Option Value)) (u : Tok) :
    Meets (Builtin.«tuple.__mul__» ⟨[.ref l, .int 1 u], []⟩) (fun _ R s => s.heap.get? l = some { cls := .type "tuple", dict := dd, data := .seq items n, slots := sl } ∧ ∀ tk, R (.ok (.ret (Value.ref l))) { s with toks := tk }) :=
  .of_wp fun prog w A R s h => by
    obtain ⟨hp, g, d, tk, os⟩ := s
    obtain ⟨hl, h⟩ := h
    have f1 := AutoSeq1.idx_int
    have c0 : (decide ((1 : Int) < -(2 ^ 63)) || decide ((1 : Int) ≥ 2 ^ 63)) = false := by decide
    have c1 : (items.isEmpty || (1 : Int) == 1) = true := by simp
    wp_walk using wpAny_loadPart' hl
    exact ⟨_, rfl, h tk⟩
theorem tup_mul0 (l : Addr) (items : Array Value) (n : Nat) (dd : Option Addr) (sl : Array (Option Value)) (u : Tok) (hne : items.isEmpty = false) :
    Meets (Builtin.«tuple.__mul__» ⟨[.ref l, .int 0 u], []⟩) (fun _ R s => s.heap.get? l = some { cls := .type "tuple", dict := dd, data := .seq items n, slots := sl } ∧
      R (.ok (.ret (Value.ref s.heap.objs.size))) { s with heap := s.heap.push { cls := Value.type "tuple", data := Data.seq #[] }, toks := s.toks }) :=
  .of_wp fun prog w A R s h => by
    obtain ⟨hp, g, d, tk, os⟩ := s
    obtain ⟨hl, h⟩ := h
    have f1 := AutoSeq1.idx_int
    have c0 : (decide ((0 : Int) < -(2 ^ 63)) || decide ((0 : Int) ≥ 2 ^ 63)) = false := by decide
    have c1 : (items.isEmpty || (0 : Int) == 1) = false := by rw [hne]; decide
    have c2 : (decide ((0 : Int) ≤ 0) || items.isEmpty) = true := by simp
    wp_walk using wpAny_loadPart' hl
    exact ⟨_, rfl, h⟩
def rRepA (K : PySem.W.Frag) : R2 := fun x y H Q => ∃ l k ys, x = .ref l ∧ y = .int k ∧ SqT K H l ys ∧ ys ≠ [] ∧ 0 ≤ k ∧ k ≤ 1000 ∧ ys.length ≤ 1000 ∧ (k = 1 → Q (.ref l) H) ∧ (k ≠ 1 → ∀ p, H p = none → Q (.ref p) (upd H p (.tup (List.replicate k.toNat ys).flatten)))
theorem op_repA {X : Cx} {K : PySem.W.Frag} (hK : X.K = K := by rfl) : OpR X (binaryOp .Mult) (rRepA K) := by
  subst hK
  intro pins s σ H x y v u Q I rx ry h
  obtain ⟨l, k, ys, rfl, rfl, hT, hne, k0, k9, hz, q1, q2⟩ := h
  by_cases h2 : 2 ≤ k
  · exact op_repT pins s σ H _ _ v u Q I rx ry ⟨l, k, ys, rfl, rfl, hT, hne, h2, k9, hz, q2 (by omega)⟩
  cases rx
  obtain ⟨c, rfl⟩ := ry
  obtain ⟨is, rv, ⟨⟨oc, od, dt, os⟩, hg, hcl, m, hdt⟩, _⟩ := I.tuple hT
  simp only at hcl hdt
  subst hcl hdt
  have hni : is ≠ [] := fun e => hne (List.eq_nil_of_length_eq_zero (by rw [rv.length, e]; rfl))
  have hem : is.toArray.isEmpty = false := by
    cases is with
    | nil => exact absurd rfl hni
    | cons a b => rfl
  by_cases h1 : k = 1
  · subst h1
    refine wpAny_binaryOp_repeat_ref (T := "tuple") (U := "int") (by decide) ⟨_, hg, rfl⟩ (fun z => typeIs_int z 1 c) noFill_tuple_mul F.fills_int_mul F.slot_int_rmul repeat_tuple F.slot_int_index.lookup ?_
    refine call_meets F.slot_int_rmul (typeIs_int s 1 c) F.entry_int_rmul (F.args_int_rmul_2 _ _) (int_rmul_tuple 1 c l is.toArray m od os) ?_
    refine ⟨hg, rfl, ⟨_, hg, rfl⟩, ?_⟩
    refine call_meets F.slot_tuple_mul ⟨_, hg, rfl⟩ F.entry_tuple_mul (F.args_tuple_mul_2 _ _) (tup_mul1 l is.toArray m od os c) ⟨hg, fun tk => ?_⟩
    exact ⟨.ref l, H, I.tok tk, rfl, q1 rfl⟩
  · have h0 : k = 0 := by omega
    subst h0
    refine wpAny_binaryOp_repeat_ref (T := "tuple") (U := "int") (by decide) ⟨_, hg, rfl⟩ (fun z => typeIs_int z 0 c) noFill_tuple_mul F.fills_int_mul F.slot_int_rmul repeat_tuple F.slot_int_index.lookup ?_
    refine call_meets F.slot_int_rmul (typeIs_int s 0 c) F.entry_int_rmul (F.args_int_rmul_2 _ _) (int_rmul_tuple 0 c l is.toArray m od os) ?_
    refine ⟨hg, rfl, ⟨_, hg, rfl⟩, ?_⟩
    refine call_meets F.slot_tuple_mul ⟨_, hg, rfl⟩ F.entry_tuple_mul (F.args_tuple_mul_2 _ _) (tup_mul0 l is.toArray m od os c hem) ⟨hg, ?_⟩
    refine ⟨.ref s.heap.objs.size, _, I.laid (t' := s.toks) (o := .tup (List.replicate (0 : Int).toNat ys).flatten) (fun b z e => Heap.get?_push_of_some _ e) (Nat.le_refl _) ?_, rfl, q2 h1 _ (I.hok.fresh (Nat.le_refl _))⟩
    exact ⟨Nat.zero_le _, [], .nil, IsTup.new _ _⟩
end PW
/-! Own layer: == by an own __eq__ with either answer; objects that are made, and methods that are called, in a try. -/
namespace PW
open PySem PySem.Spec PyProof.Rows L2 Evl
theorem pi_tupK {X : Cx} {K : PySem.W.Frag} {tg e : Expr} {te : TE} (he : PE X e te) (hK : X.K = K := by rfl) : PI X tg e (iTup K te) := by
  subst hK
  exact pi_tup he
theorem pi_listK {X : Cx} {K : PySem.W.Frag} {tg e : Expr} {te : TE} (he : PE X e te) (hK : X.K = K := by rfl) : PI X tg e (iList K te) := by
  subst hK
  exact pi_list he
theorem call_listSK {X : Cx} {K : PySem.W.Frag} (hc : X.calm = true) (hK : X.K = K := by rfl) : CallR X (.type "list") (fun vs H Q => ∃ S ys, vs = [Src.v S] ∧ Src.at K H S ys ∧ ys.length ≤ sizeLine ∧ ∀ p, H p = none → Q (.ref p) (upd H p (.lst ys))) := by
  subst hK
  exact call_listS hc
theorem call_tupleK {X : Cx} {K : PySem.W.Frag} (hK : X.K = K := by rfl) : CallR X (.type "tuple") (fun vs H Q => ∃ p ys, vs = [.ref p] ∧ ((SqL K H p ys ∧ ∀ l, H l = none → Q (.ref l) (upd H l (.tup ys))) ∨ (SqT K H p ys ∧ Q (.ref p) H))) := by
  subst hK
  exact call_tuple_of
section
variable {X : Cx} {CX : CXT} {C f : Addr} {fd : FuncData} {ps : List Str} {k : Nat} {sp : Sp}
def rEqOwn (C : Addr) (sp : Sp) (E : XK) : R2 := fun x y H Q => ∃ a b dx dy fs gs, x = .ref a ∧ y = .ref b ∧ H a = some (.ins C dx fs) ∧ H b = some (.ins C dy gs) ∧ sp [.ref a, .ref b] H (fun v H' => ∃ t : Bool, v = .bl t ∧ Q (.bl t) H') E
theorem op_eqOwn {E : XK} (F : FnOk X.prog X.w X.K X.mg X.base CX k f fd ps sp) (hr : Room k X.A) (hs : PySem.W.findIn X.K (.ref C) "__eq__" = some (some (.ref f))) (hf : PySem.W.isFn X.K (.ref f) = true) (hb : Binds X.K fd ps []) (hx : Passes CX X E) :
    OpR X (compareOp .Eq) (rEqOwn C sp E) := by
  intro pins s σ H x y v u Q I rx ry hq
  obtain ⟨a, b, dx, dy, fs, gs, rfl, rfl, ha, hbb, hsp⟩ := hq
  cases rx
  cases ry
  show wpAny (model X.prog X.w) X.A (richCompare .Eq (.ref a) (.ref b)) (EP X pins σ Q) X.xe s
  obtain ⟨_, Ja, _⟩ := ins_get I.hok ha
  obtain ⟨_, Jb, _⟩ := ins_get I.hok hbb
  obtain ⟨_, Ja, _⟩ := Ja.look
  obtain ⟨_, Jb, _⟩ := Jb.look
  obtain ⟨_, hF⟩ := I.fr
  refine PySem.W.cmp_K (op := .Eq) (tb := .ref C) hr.units0 hF I.ok.mod.kin Ja Jb.type (by simp [PySem.W.notFirst]) hs hf ?_
  have hl := F.len _ _ _ _ hsp
  have rv : Vals [V.ref a, V.ref b] [Value.ref a, Value.ref b] := .cons rfl (.cons rfl .nil)
  have bd := hb s [.ref a, .ref b] I.kIn (by simpa using hl)
  refine wpAny_call (codeAny_mono (F.run X.A X.stack s H ⟨[.ref a, .ref b], []⟩ [.ref a, .ref b] [.ref a, .ref b] _ E hr I.env0 (by simpa using bd) rv hsp) fun r s' hq => ?_)
  cases r with
  | error e => exact hx pins σ H s e s' I hq
  | ok fl =>
    cases fl with
    | ret z =>
      obtain ⟨c, H', J, rz, t, ez, q⟩ := I.after hq
      subst ez
      cases (show z = Value.bool t from rz)
      exact ⟨.bl t, H', J, rfl, q⟩
    | next => exact False.elim hq
    | brk => exact False.elim hq
    | cont => exact False.elim hq
def tMakeS (C : Addr) (sp : Sp) (E : L2.St → XK) (t : TA) : TE := fun σ H Q => t σ H fun vs H1 => ∀ x dx, H1 x = none → H1 dx = none → dx ≠ x → sp (.ref x :: vs) (upd (upd H1 dx (.own x)) x (.ins C dx [])) (fun v H2 => v = .non ∧ Q (.ref x) H2) (E σ)
theorem pe_makeS {x : Str} {e : Expr} {es : List Expr} {p pos : Pos} {t : TA} {E : L2.St → XK} (M : Mk X.K C f) (F : FnOk X.prog X.w X.K X.mg X.base CX k f fd ps sp) (hr : Room (k + 1) X.A) (hg : Gl X x) (hm : X.mg x = some (.ref C)) (hb : Binds X.K fd ps []) (hx : ∀ σ, PassesAt CX X σ (E σ))
    (ha : PA X (e :: es) t) (hdb : (x == ("__debug__" : Str)) = false := by decide) (he : starEach (e :: es) X.env = (false, eval e X.env) :: starEach es X.env := by rfl) (hpl : (backTo pos (starEach es X.env)).any (·.1) = false := by rfl) :
    PE X (.Call (.Name x p) (e :: es) [] pos) (tMakeS C sp E t) := by
  constructor
  intro pins s σ H Q I h
  refine wpAny_Call_Name_kw (ld_glob I hg hm ?_ hdb)
  refine PySem.W.callWith_K (h₀ := X.base) I.ok.mod.kin M.kp (thn (ha.run pos pins s σ H _ I h) ?_) he hpl
  rintro us s1 ⟨vs, H1, J, r, q⟩
  refine ⟨J.kIn, ?_⟩
  have hq := q (s1.heap.objs.size + 1) s1.heap.objs.size (J.hok.fresh (Nat.le_succ _)) (J.hok.fresh (Nat.le_refl _)) (Nat.ne_of_lt (Nat.lt_succ_self _))
  have J2 := Inv.made (C := C) J
  have rv : Vals (V.ref (s1.heap.objs.size + 1) :: vs) (Value.ref (s1.heap.objs.size + 1) :: us) := .cons rfl r
  have hl : (Value.ref (s1.heap.objs.size + 1) :: us).length = ps.length := by
    have e := rv.length
    rw [F.len _ _ _ _ hq] at e
    exact e.symm
  have bd := hb _ (Value.ref (s1.heap.objs.size + 1) :: us) J2.kIn (by rw [List.append_nil]; exact hl)
  rw [List.append_nil] at bd
  refine wpAny_call (make_map (f := f) J.kIn M.makes M.init (beq_iff_eq.mp M.fn) (codeAny_mono (F.run _ X.stack _ _ ⟨Value.ref (s1.heap.objs.size + 1) :: us, []⟩ (Value.ref (s1.heap.objs.size + 1) :: us) _ _ (E σ) (hr.make C us []) (J2.env0.make C us []) bd rv hq) fun rr s2 hq2 => ?_))
  cases rr with
  | error er => exact hx σ pins _ _ er s2 J2 hq2
  | ok fl =>
    cases fl with
    | ret u =>
      obtain ⟨v, H', J3, rr, ev, q3⟩ := J2.after hq2
      subst ev
      exact ⟨rr, ⟨V.ref (s1.heap.objs.size + 1), H', J3, rfl, q3⟩⟩
    | next => exact False.elim hq2
    | brk => exact False.elim hq2
    | cont => exact False.elim hq2
def tMethS (C : Addr) (m : Str) (sp : Sp) (E : L2.St → XK) (ta : TE) (t : TA) : TE := fun σ H Q => ta σ H fun x H1 => ∃ a dx fs, x = .ref a ∧ H1 a = some (.ins C dx fs) ∧ fs.lookup m = none ∧ t σ H1 fun vs H2 => sp (.ref a :: vs) H2 Q (E σ)
theorem pe_methT {o e : Expr} {es : List Expr} {m : Str} {apos pos : Pos} {pl : Sem Bool} {ta : TE} {t : TA} {E : L2.St → XK} (he : PE X o ta) (c : Cls X.K C) (hm : Meth X.K C m f) (F : FnOk X.prog X.w X.K X.mg X.base CX k f fd ps sp) (hr : Room k X.A) (hb : Binds X.K fd ps []) (hx : ∀ σ, PassesAt CX X σ (E σ)) (ha : PA X (e :: es) t)
    (hst : starEach (e :: es) X.env = (false, eval e X.env) :: starEach es X.env := by rfl) (hpl : (backTo pos (starEach es X.env)).any (·.1) = false := by rfl)
    (ht : eval (.Call (.Attribute o m apos) (e :: es) [] pos) X.env = (do
      let w ← eval o X.env
      standAt apos.atName
      let (g, z) ← holding [w] (getMethod w m pl)
      callWith pos g z (backTo pos (starEach (e :: es) X.env)) (backToKw pos (keywordEach [] X.env))) := by rfl) :
    PE X (.Call (.Attribute o m apos) (e :: es) [] pos) (tMethS C m sp E ta t) := by
  constructor
  intro pins s σ H Q I h
  refine PySem.W.methodCall_KW (pl := pl) (thn (he.run pins s σ H _ I h) ?_) ht
  rintro u s1 ⟨x, H1, J, rx, a, dx, fs, ex, ea, l, q⟩
  subst ex
  obtain rfl : u = Value.ref a := rx
  refine getmeth_ok J ea c hm l ?_
  refine PySem.W.callWith_K (first := [.ref a]) (h₀ := X.base) I.ok.mod.kin hm.kp (thn (ha.run pos pins s1 σ H1 _ J q) ?_) hst hpl
  rintro us s2 ⟨vs, H2, J2, r, q2⟩
  exact ⟨J2.kIn, run_fnS (us := .ref a :: us) (vs := .ref a :: vs) F hr hb (hx σ) J2 (.cons rfl r) q2⟩
end
end PW
namespace PW
open PySem PySem.Spec PyProof.Rows L2 Evl
def topS (i : Nat) : Stmt := PySem.Challenge.pw_planeworth_k05_planes_and_lists.main.body.getD i (.Pass ⟨0, 0, 0, 0⟩)
abbrev s_content : Stmt := topS 6
theorem sc_content : FnScope ["integers", "shared", "a"] ["integers"] (defScope s_content) := ⟨rfl, rfl, rfl, by decide +kernel, rfl, by decide +kernel, by decide +kernel⟩
abbrev s_primitive : Stmt := topS 7
theorem sc_primitive : FnScope ["integers", "shared", "a"] ["integers"] (defScope s_primitive) := ⟨rfl, rfl, rfl, by decide +kernel, rfl, by decide +kernel, by decide +kernel⟩
abbrev s_negated : Stmt := topS 8
theorem sc_negated : FnScope ["integers", "a"] ["integers"] (defScope s_negated) := ⟨rfl, rfl, rfl, by decide +kernel, rfl, by decide +kernel, by decide +kernel⟩
abbrev s_first_row_with : Stmt := topS 10
theorem sc_first_row_with : FnScope ["rows", "place", "at", "row"] ["rows", "place"] (defScope s_first_row_with) := ⟨rfl, rfl, rfl, by decide +kernel, rfl, by decide +kernel, by decide +kernel⟩
abbrev s_struck : Stmt := topS 11
theorem sc_struck : FnScope ["row", "by", "place", "shared", "much", "less", "a", "b"] ["row", "by", "place"] (defScope s_struck) := ⟨rfl, rfl, rfl, by decide +kernel, rfl, by decide +kernel, by decide +kernel⟩
abbrev s_whole_echelon : Stmt := topS 12
theorem sc_whole_echelon : FnScope ["width", "rows", "done", "left", "row", "place", "at", "by", "pivot", "k"] ["width", "rows"] (defScope s_whole_echelon) := ⟨rfl, rfl, rfl, by decide +kernel, rfl, by decide +kernel, by decide +kernel⟩
abbrev s_check_letters : Stmt := topS 17
theorem sc_check_letters : FnScope ["n"] ["n"] (defScope s_check_letters) := ⟨rfl, rfl, rfl, by decide +kernel, rfl, by decide +kernel, by decide +kernel⟩
abbrev s_is_plane : Stmt := topS 18
theorem sc_is_plane : FnScope ["n", "plane", "a"] ["n", "plane"] (defScope s_is_plane) := ⟨rfl, rfl, rfl, by decide +kernel, rfl, by decide +kernel, by decide +kernel⟩
abbrev s_check_planes : Stmt := topS 19
theorem sc_check_planes : FnScope ["n", "rows", "before", "plane"] ["n", "rows"] (defScope s_check_planes) := ⟨rfl, rfl, rfl, by decide +kernel, rfl, by decide +kernel, by decide +kernel⟩
abbrev s_check_index : Stmt := topS 20
theorem sc_check_index : FnScope ["planes", "at"] ["planes", "at"] (defScope s_check_index) := ⟨rfl, rfl, rfl, by decide +kernel, rfl, by decide +kernel, by decide +kernel⟩
abbrev s_ascends : Stmt := topS 21
theorem sc_ascends : FnScope ["indexes", "a", "b"] ["indexes"] (defScope s_ascends) := ⟨rfl, rfl, rfl, by decide +kernel, rfl, by decide +kernel, by decide +kernel⟩
abbrev s_check_indexes : Stmt := topS 22
theorem sc_check_indexes : FnScope ["planes", "indexes", "at"] ["planes", "indexes"] (defScope s_check_indexes) := ⟨rfl, rfl, rfl, by decide +kernel, rfl, by decide +kernel, by decide +kernel⟩
abbrev s_letter_rows : Stmt := topS 24
theorem sc_letter_rows : FnScope ["planes", "plane"] ["planes"] (defScope s_letter_rows) := ⟨rfl, rfl, rfl, by decide +kernel, rfl, by decide +kernel, by decide +kernel⟩
abbrev s__law_number : Stmt := topS 26
theorem sc__law_number : FnScope ["cell"] ["cell"] (defScope s__law_number) := ⟨rfl, rfl, rfl, by decide +kernel, rfl, by decide +kernel, by decide +kernel⟩
abbrev s__law_draws : Stmt := topS 27
theorem sc__law_draws : FnScope ["script", "draws", "cell", "rest", "k", "once", "twice"] ["script"] (defScope s__law_draws) := ⟨rfl, rfl, rfl, by decide +kernel, rfl, by decide +kernel, by decide +kernel⟩
abbrev s__law_next : Stmt := topS 28
theorem sc__law_next : FnScope ["draws"] ["draws"] (defScope s__law_next) := ⟨rfl, rfl, rfl, by decide +kernel, rfl, by decide +kernel, by decide +kernel⟩
abbrev s__law_divisor : Stmt := topS 29
theorem sc__law_divisor : FnScope ["a", "b", "one", "other", "j"] ["a", "b"] (defScope s__law_divisor) := ⟨rfl, rfl, rfl, by decide +kernel, rfl, by decide +kernel, by decide +kernel⟩
abbrev s__law_lowest : Stmt := topS 30
theorem sc__law_lowest : FnScope ["a", "b", "common"] ["a", "b"] (defScope s__law_lowest) := ⟨rfl, rfl, rfl, by decide +kernel, rfl, by decide +kernel, by decide +kernel⟩
abbrev s__law_plus : Stmt := topS 31
theorem sc__law_plus : FnScope ["x", "y"] ["x", "y"] (defScope s__law_plus) := ⟨rfl, rfl, rfl, by decide +kernel, rfl, by decide +kernel, by decide +kernel⟩
abbrev s__law_times : Stmt := topS 32
theorem sc__law_times : FnScope ["x", "y"] ["x", "y"] (defScope s__law_times) := ⟨rfl, rfl, rfl, by decide +kernel, rfl, by decide +kernel, by decide +kernel⟩
abbrev s__law_less : Stmt := topS 33
theorem sc__law_less : FnScope ["x", "y"] ["x", "y"] (defScope s__law_less) := ⟨rfl, rfl, rfl, by decide +kernel, rfl, by decide +kernel, by decide +kernel⟩
abbrev s__law_dot : Stmt := topS 34
theorem sc__law_dot : FnScope ["one", "other", "total", "at"] ["one", "other"] (defScope s__law_dot) := ⟨rfl, rfl, rfl, by decide +kernel, rfl, by decide +kernel, by decide +kernel⟩
abbrev s__law_fraction : Stmt := topS 35
theorem sc__law_fraction : FnScope ["draws"] ["draws"] (defScope s__law_fraction) := ⟨rfl, rfl, rfl, by decide +kernel, rfl, by decide +kernel, by decide +kernel⟩
abbrev s__law_plane : Stmt := topS 36
theorem sc__law_plane : FnScope ["draws", "n", "point", "row", "j", "place", "a", "last", "common"] ["draws", "n", "point"] (defScope s__law_plane) := ⟨rfl, rfl, rfl, by decide +kernel, rfl, by decide +kernel, by decide +kernel⟩
abbrev s__law_planes : Stmt := topS 37
theorem sc__law_planes : FnScope ["draws", "n", "most", "point", "j", "found", "plane", "a"] ["draws", "n", "most"] (defScope s__law_planes) := ⟨rfl, rfl, rfl, by decide +kernel, rfl, by decide +kernel, by decide +kernel⟩
abbrev s__law_point : Stmt := topS 38
theorem sc__law_point : FnScope ["draws", "n", "point", "kind", "a", "j", "near"] ["draws", "n", "point"] (defScope s__law_point) := ⟨rfl, rfl, rfl, by decide +kernel, rfl, by decide +kernel, by decide +kernel⟩
abbrev s__law_over : Stmt := topS 39
theorem sc__law_over : FnScope ["x", "y"] ["x", "y"] (defScope s__law_over) := ⟨rfl, rfl, rfl, by decide +kernel, rfl, by decide +kernel, by decide +kernel⟩
abbrev s__law_echelon : Stmt := topS 40
theorem sc__law_echelon : FnScope ["width", "rows", "left", "row", "done", "column", "here", "at", "lead", "x"] ["width", "rows"] (defScope s__law_echelon) := ⟨rfl, rfl, rfl, by decide +kernel, rfl, by decide +kernel, by decide +kernel⟩
abbrev s__law_taken : Stmt := topS 41
theorem sc__law_taken : FnScope ["row", "lead", "column", "j"] ["row", "lead", "column"] (defScope s__law_taken) := ⟨rfl, rfl, rfl, by decide +kernel, rfl, by decide +kernel, by decide +kernel⟩
abbrev s__law_pivots : Stmt := topS 42
theorem sc__law_pivots : FnScope ["rows", "found", "row", "at"] ["rows"] (defScope s__law_pivots) := ⟨rfl, rfl, rfl, by decide +kernel, rfl, by decide +kernel, by decide +kernel⟩
abbrev s__law_is_plane : Stmt := topS 43
theorem sc__law_is_plane : FnScope ["n", "row", "common", "a"] ["n", "row"] (defScope s__law_is_plane) := ⟨rfl, rfl, rfl, by decide +kernel, rfl, by decide +kernel, by decide +kernel⟩
abbrev s__law_spoilt : Stmt := topS 44
theorem sc__law_spoilt : FnScope ["draws", "plane", "row", "at", "kind", "a"] ["draws", "plane"] (defScope s__law_spoilt) := ⟨rfl, rfl, rfl, by decide +kernel, rfl, by decide +kernel, by decide +kernel⟩
abbrev s__law_told : Stmt := topS 45
theorem sc__law_told : FnScope ["way", "n", "rows", "error"] ["way", "n", "rows"] (defScope s__law_told) := ⟨rfl, rfl, rfl, by decide +kernel, rfl, by decide +kernel, by decide +kernel⟩
abbrev s__law_method : Stmt := topS 46
theorem sc__law_method : FnScope ["way", "planes", "at", "error"] ["way", "planes", "at"] (defScope s__law_method) := ⟨rfl, rfl, rfl, by decide +kernel, rfl, by decide +kernel, by decide +kernel⟩
abbrev s__law_numbers : Stmt := topS 47
theorem sc__law_numbers : FnScope ["rows", "a", "row"] ["rows"] (defScope s__law_numbers) := ⟨rfl, rfl, rfl, by decide +kernel, rfl, by decide +kernel, by decide +kernel⟩
abbrev s__law_parts : Stmt := topS 48
theorem sc__law_parts : FnScope ["draws", "n", "rows", "planes", "indexes", "at", "turned", "a", "pair"] ["draws", "n", "rows", "planes"] (defScope s__law_parts) := ⟨rfl, rfl, rfl, by decide +kernel, rfl, by decide +kernel, by decide +kernel⟩
abbrev s__law_lists : Stmt := topS 49
theorem sc__law_lists : FnScope ["n", "rows", "turned", "a", "long", "at", "other", "way"] ["n", "rows"] (defScope s__law_lists) := ⟨rfl, rfl, rfl, by decide +kernel, rfl, by decide +kernel, by decide +kernel⟩
abbrev s_law : Stmt := topS 50
theorem sc_law : FnScope ["script", "draws", "n", "rows", "point", "kept", "planes", "told", "first", "plane", "whole", "row", "due"] ["script"] (defScope s_law) := ⟨rfl, rfl, rfl, by decide +kernel, rfl, by decide +kernel, by decide +kernel⟩
abbrev s_Planes_init : Stmt := inClass (topS 23) 0
theorem sc_Planes_init : FnScope ["self", "n", "rows"] ["self", "n", "rows"] (defScope s_Planes_init) := ⟨rfl, rfl, rfl, by decide +kernel, rfl, by decide +kernel, by decide +kernel⟩
abbrev s_Planes_len : Stmt := inClass (topS 23) 1
theorem sc_Planes_len : FnScope ["self"] ["self"] (defScope s_Planes_len) := ⟨rfl, rfl, rfl, by decide +kernel, rfl, by decide +kernel, by decide +kernel⟩
abbrev s_Planes_eq : Stmt := inClass (topS 23) 2
theorem sc_Planes_eq : FnScope ["self", "other"] ["self", "other"] (defScope s_Planes_eq) := ⟨rfl, rfl, rfl, by decide +kernel, rfl, by decide +kernel, by decide +kernel⟩
abbrev s_Planes_planes : Stmt := inClass (topS 23) 3
theorem sc_Planes_planes : FnScope ["self"] ["self"] (defScope s_Planes_planes) := ⟨rfl, rfl, rfl, by decide +kernel, rfl, by decide +kernel, by decide +kernel⟩
abbrev s_Planes_rank : Stmt := inClass (topS 23) 4
theorem sc_Planes_rank : FnScope ["self"] ["self"] (defScope s_Planes_rank) := ⟨rfl, rfl, rfl, by decide +kernel, rfl, by decide +kernel, by decide +kernel⟩
abbrev s_Planes_is_central : Stmt := inClass (topS 23) 5
theorem sc_Planes_is_central : FnScope ["self", "found", "pivot", "_"] ["self"] (defScope s_Planes_is_central) := ⟨rfl, rfl, rfl, by decide +kernel, rfl, by decide +kernel, by decide +kernel⟩
abbrev s_Planes_without : Stmt := inClass (topS 23) 6
theorem sc_Planes_without : FnScope ["self", "at", "k", "plane"] ["self", "at"] (defScope s_Planes_without) := ⟨rfl, rfl, rfl, by decide +kernel, rfl, by decide +kernel, by decide +kernel⟩
abbrev s_Planes_turned : Stmt := inClass (topS 23) 7
theorem sc_Planes_turned : FnScope ["self", "at", "rows"] ["self", "at"] (defScope s_Planes_turned) := ⟨rfl, rfl, rfl, by decide +kernel, rfl, by decide +kernel, by decide +kernel⟩
abbrev s_Planes_only : Stmt := inClass (topS 23) 8
theorem sc_Planes_only : FnScope ["self", "indexes", "at"] ["self", "indexes"] (defScope s_Planes_only) := ⟨rfl, rfl, rfl, by decide +kernel, rfl, by decide +kernel, by decide +kernel⟩
local macro_rules | `(tactic| walk_at "go") => `(tactic| simp only [tSeq, tAsg, tVar, tC, tOp, tUn, tRet, tRetN, tIfS, tTest, tB, tCB, tCons, tNil, tAndV, tOrV, tNotV, tAnd, tOr, tNot, tIf, gName, gTup, gCons, gNil, rI0, rI, rU, rEq, rNe, tCall, tCallS, tDrop, tTup, tLst, tNext, tPar, tBreak, rGcd, List.set_cons_zero, List.set_cons_succ, List.getElem?_cons_zero, List.getElem?_cons_succ, Option.some.injEq, exists_eq_left', exists_eq_left, V.int.injEq, V.bl.injEq, V.ref.injEq, List.cons.injEq, and_true, true_and, reduceCtorEq, L2.start, List.map_cons, List.map_nil, List.length_cons, List.length_nil, List.replicate_succ, List.replicate_zero, List.cons_append, List.nil_append, List.append_nil, Nat.reduceAdd, Nat.reduceSub, scal, exists_const, exists_and_left, ite_true, ite_false, decide_eq_true_eq, and_assoc, cxOf, Nat.zero_add, Bool.not_eq_true', decide_eq_false_iff_not, false_and, exists_false, or_false, false_or, Int.reduceLT, Int.reduceEq, Int.reduceLE, ↓reduceIte, exists_eq])
structure Txt (K : PySem.W.Frag) (w : World) (mg : Str → Option Value) (ad : Nat → Addr) (fd : Nat → FuncData) : Prop where
  f_content : Fun K "content" "content" s_content (ad 6) (fd 6)
  g_content : mg "content" = some (.ref (ad 6))
  f_primitive : Fun K "primitive" "primitive" s_primitive (ad 7) (fd 7)
  g_primitive : mg "primitive" = some (.ref (ad 7))
  f_negated : Fun K "negated" "negated" s_negated (ad 8) (fd 8)
  g_negated : mg "negated" = some (.ref (ad 8))
  f_first_row_with : Fun K "first_row_with" "first_row_with" s_first_row_with (ad 10) (fd 10)
  g_first_row_with : mg "first_row_with" = some (.ref (ad 10))
  f_struck : Fun K "struck" "struck" s_struck (ad 11) (fd 11)
  g_struck : mg "struck" = some (.ref (ad 11))
  f_whole_echelon : Fun K "whole_echelon" "whole_echelon" s_whole_echelon (ad 12) (fd 12)
  g_whole_echelon : mg "whole_echelon" = some (.ref (ad 12))
  f_check_letters : Fun K "check_letters" "check_letters" s_check_letters (ad 17) (fd 17)
  g_check_letters : mg "check_letters" = some (.ref (ad 17))
  f_is_plane : Fun K "is_plane" "is_plane" s_is_plane (ad 18) (fd 18)
  g_is_plane : mg "is_plane" = some (.ref (ad 18))
  f_check_planes : Fun K "check_planes" "check_planes" s_check_planes (ad 19) (fd 19)
  g_check_planes : mg "check_planes" = some (.ref (ad 19))
  f_check_index : Fun K "check_index" "check_index" s_check_index (ad 20) (fd 20)
  g_check_index : mg "check_index" = some (.ref (ad 20))
  f_ascends : Fun K "ascends" "ascends" s_ascends (ad 21) (fd 21)
  g_ascends : mg "ascends" = some (.ref (ad 21))
  f_check_indexes : Fun K "check_indexes" "check_indexes" s_check_indexes (ad 22) (fd 22)
  g_check_indexes : mg "check_indexes" = some (.ref (ad 22))
  f_letter_rows : Fun K "letter_rows" "letter_rows" s_letter_rows (ad 24) (fd 24)
  g_letter_rows : mg "letter_rows" = some (.ref (ad 24))
  f__law_number : Fun K "_law_number" "_law_number" s__law_number (ad 26) (fd 26)
  g__law_number : mg "_law_number" = some (.ref (ad 26))
  f__law_draws : Fun K "_law_draws" "_law_draws" s__law_draws (ad 27) (fd 27)
  g__law_draws : mg "_law_draws" = some (.ref (ad 27))
  f__law_next : Fun K "_law_next" "_law_next" s__law_next (ad 28) (fd 28)
  g__law_next : mg "_law_next" = some (.ref (ad 28))
  f__law_divisor : Fun K "_law_divisor" "_law_divisor" s__law_divisor (ad 29) (fd 29)
  g__law_divisor : mg "_law_divisor" = some (.ref (ad 29))
  f__law_lowest : Fun K "_law_lowest" "_law_lowest" s__law_lowest (ad 30) (fd 30)
  g__law_lowest : mg "_law_lowest" = some (.ref (ad 30))
  f__law_times : Fun K "_law_times" "_law_times" s__law_times (ad 32) (fd 32)
  g__law_times : mg "_law_times" = some (.ref (ad 32))
  f__law_less : Fun K "_law_less" "_law_less" s__law_less (ad 33) (fd 33)
  g__law_less : mg "_law_less" = some (.ref (ad 33))
  f__law_plane : Fun K "_law_plane" "_law_plane" s__law_plane (ad 36) (fd 36)
  g__law_plane : mg "_law_plane" = some (.ref (ad 36))
  f__law_planes : Fun K "_law_planes" "_law_planes" s__law_planes (ad 37) (fd 37)
  g__law_planes : mg "_law_planes" = some (.ref (ad 37))
  f__law_over : Fun K "_law_over" "_law_over" s__law_over (ad 39) (fd 39)
  g__law_over : mg "_law_over" = some (.ref (ad 39))
  f__law_echelon : Fun K "_law_echelon" "_law_echelon" s__law_echelon (ad 40) (fd 40)
  g__law_echelon : mg "_law_echelon" = some (.ref (ad 40))
  f__law_taken : Fun K "_law_taken" "_law_taken" s__law_taken (ad 41) (fd 41)
  g__law_taken : mg "_law_taken" = some (.ref (ad 41))
  f__law_is_plane : Fun K "_law_is_plane" "_law_is_plane" s__law_is_plane (ad 43) (fd 43)
  g__law_is_plane : mg "_law_is_plane" = some (.ref (ad 43))
  f__law_spoilt : Fun K "_law_spoilt" "_law_spoilt" s__law_spoilt (ad 44) (fd 44)
  g__law_spoilt : mg "_law_spoilt" = some (.ref (ad 44))
  f__law_told : Fun K "_law_told" "_law_told" s__law_told (ad 45) (fd 45)
  g__law_told : mg "_law_told" = some (.ref (ad 45))
  f__law_method : Fun K "_law_method" "_law_method" s__law_method (ad 46) (fd 46)
  g__law_method : mg "_law_method" = some (.ref (ad 46))
  f__law_numbers : Fun K "_law_numbers" "_law_numbers" s__law_numbers (ad 47) (fd 47)
  g__law_numbers : mg "_law_numbers" = some (.ref (ad 47))
  f__law_parts : Fun K "_law_parts" "_law_parts" s__law_parts (ad 48) (fd 48)
  g__law_parts : mg "_law_parts" = some (.ref (ad 48))
  f__law_lists : Fun K "_law_lists" "_law_lists" s__law_lists (ad 49) (fd 49)
  g__law_lists : mg "_law_lists" = some (.ref (ad 49))
  f_law : Fun K "law" "law" s_law (ad 50) (fd 50)
  g_law : mg "law" = some (.ref (ad 50))
  f_Planes_init : Fun K "__init__" "Planes.__init__" s_Planes_init (ad 1460) (fd 1460)
  me_Planes_init : Meth K (ad 23) "__init__" (ad 1460)
  mk_Planes : Mk K (ad 23) (ad 1460)
  f_Planes_len : Fun K "__len__" "Planes.__len__" s_Planes_len (ad 1461) (fd 1461)
  me_Planes_len : Meth K (ad 23) "__len__" (ad 1461)
  f_Planes_eq : Fun K "__eq__" "Planes.__eq__" s_Planes_eq (ad 1462) (fd 1462)
  me_Planes_eq : Meth K (ad 23) "__eq__" (ad 1462)
  f_Planes_planes : Fun K "planes" "Planes.planes" s_Planes_planes (ad 1463) (fd 1463)
  me_Planes_planes : Meth K (ad 23) "planes" (ad 1463)
  f_Planes_rank : Fun K "rank" "Planes.rank" s_Planes_rank (ad 1464) (fd 1464)
  me_Planes_rank : Meth K (ad 23) "rank" (ad 1464)
  f_Planes_is_central : Fun K "is_central" "Planes.is_central" s_Planes_is_central (ad 1465) (fd 1465)
  me_Planes_is_central : Meth K (ad 23) "is_central" (ad 1465)
  f_Planes_without : Fun K "without" "Planes.without" s_Planes_without (ad 1466) (fd 1466)
  me_Planes_without : Meth K (ad 23) "without" (ad 1466)
  f_Planes_turned : Fun K "turned" "Planes.turned" s_Planes_turned (ad 1467) (fd 1467)
  me_Planes_turned : Meth K (ad 23) "turned" (ad 1467)
  f_Planes_only : Fun K "only" "Planes.only" s_Planes_only (ad 1468) (fd 1468)
  me_Planes_only : Meth K (ad 23) "only" (ad 1468)
  cl_Planes : Cls K (ad 23)
  na_Planes_n : NoAttr K (ad 23) "n"
  na_Planes__rows : NoAttr K (ad 23) "_rows"
  v_MOST_LETTERS : ∃ u, mg "MOST_LETTERS" = some (.int 4 u)
  v_MOST_PLANES : ∃ u, mg "MOST_PLANES" = some (.int 12 u)
  v_MOST_ENTRY : ∃ u, mg "MOST_ENTRY" = some (.int 1000 u)
  m_tuple : mg "tuple" = none
  m_enumerate : mg "enumerate" = none
  m_zip : mg "zip" = none
  m_range : mg "range" = none
  m_all : mg "all" = none
  m_any : mg "any" = none
  m_len : mg "len" = none
  m_int : mg "int" = none
  m_abs : mg "abs" = none
  m_sum : mg "sum" = none
  m_list : mg "list" = none
  m_str : mg "str" = none
  m_isinstance : mg "isinstance" = none
  m_repr : mg "repr" = none
  g_gcd : mg "gcd" = some (.builtin "math.gcd")
  g_PlaneError : mg "PlaneError" = some (.ref (ad 2))
  g_NotPlanes : mg "NotPlanes" = some (.ref (ad 3))
  x_NotPlanes : PySem.W.excIn K (ad 3) [.type "ValueError", .type "Exception", .type "BaseException", .type "object"] "ValueError.__new__" = true
  k_NotPlanes : PySem.W.keepIn K (.ref (ad 3)) = true
  s_NotPlanes : PySem.W.subIn K (.ref (ad 3)) (.type "BaseException") = some true
  t_NotPlanes : PySem.W.typeIn K (.ref (ad 3)) = some (.type "type")
  g_BadNumber : mg "BadNumber" = some (.ref (ad 4))
  x_BadNumber : PySem.W.excIn K (ad 4) [.type "ValueError", .type "Exception", .type "BaseException", .type "object"] "ValueError.__new__" = true
  k_BadNumber : PySem.W.keepIn K (.ref (ad 4)) = true
  s_BadNumber : PySem.W.subIn K (.ref (ad 4)) (.type "BaseException") = some true
  t_BadNumber : PySem.W.typeIn K (.ref (ad 4)) = some (.type "type")
  g_Planes : mg "Planes" = some (.ref (ad 23))
  e_BadNumber_PlaneError : PySem.W.exmOne K (.ref (ad 4)) (.ref (ad 2)) = some true
  e_NotPlanes_PlaneError : PySem.W.exmOne K (.ref (ad 3)) (.ref (ad 2)) = some true
  o_Planes : InsC K (ad 23)
  y_Planes_str : PySem.W.kitOne K (.ref (ad 23)) (.type "str") = some false
  c_BadNumber : ExcC K (ad 4)
  c_NotPlanes : ExcC K (ad 3)
  i_BadNumber_BadNumber : PySem.W.kitOne K (.ref (ad 4)) (.ref (ad 4)) = some true
  i_BadNumber_NotPlanes : PySem.W.kitOne K (.ref (ad 4)) (.ref (ad 3)) = some false
  i_NotPlanes_BadNumber : PySem.W.kitOne K (.ref (ad 3)) (.ref (ad 4)) = some false
  i_NotPlanes_NotPlanes : PySem.W.kitOne K (.ref (ad 3)) (.ref (ad 3)) = some true
  i_Planes_Planes : PySem.W.kitOne K (.ref (ad 23)) (.ref (ad 23)) = some true
section
variable {P : Program} {w : World} {K : PySem.W.Frag} {mg : Str → Option Value} {base : Heap} {ad : Nat → Addr} {fd : Nat → FuncData}
/-- a over b in lowest terms, b below the bar above 0 -/
def sg (a b : Int) : Int := if b < 0 then -((a.natAbs.gcd b.natAbs : Nat) : Int) else ((a.natAbs.gcd b.natAbs : Nat) : Int)
def nrm (a b : Int) : Int × Int := (a.fdiv (sg a b), b.fdiv (sg a b))
theorem sg_ne {a b : Int} (h : b ≠ 0) : sg a b ≠ 0 := by
  have : a.natAbs.gcd b.natAbs ≠ 0 := fun z => h (by have := (Nat.gcd_eq_zero_iff.mp z).2; omega)
  unfold sg
  split <;> omega
theorem sg_abs (a b : Int) : (sg a b).natAbs = a.natAbs.gcd b.natAbs := by
  unfold sg
  split <;> omega
theorem sg_small {a b : Int} (h : b ≠ 0) (hb : b.natAbs < 2 ^ 8000) : (sg a b).natAbs.log2 < 9000 := by
  have h1 : a.natAbs.gcd b.natAbs ≤ b.natAbs := Nat.gcd_le_right _ (by omega)
  rw [sg_abs]
  have h3 : a.natAbs.gcd b.natAbs ≠ 0 := fun z => h (by have := (Nat.gcd_eq_zero_iff.mp z).2; omega)
  have h4 := (Nat.log2_lt h3 (k := 8000)).mpr (Nat.lt_of_le_of_lt h1 hb)
  omega
def qNumber (K : PySem.W.Frag) (cB : Addr) (a b : Int) (H : Hp) (Q : VK) (E : XK) : Prop :=
  (b = 0 → ∀ H', Ex H H' → E (.ref cB) none H') ∧ (b ≠ 0 → ∀ H' v, Ex H H' → Num K H' v (nrm a b).1 (nrm a b).2 → Q v H')
theorem qNumber.mono {K : PySem.W.Frag} {cB : Addr} {a b : Int} {H H' : Hp} {Q : VK} {E : XK} (e : Ex H H') (q : qNumber K cB a b H Q E) : qNumber K cB a b H' Q E :=
  ⟨fun z H2 e2 => q.1 z H2 (e.trans e2), fun z H2 v e2 => q.2 z H2 v (e.trans e2)⟩
theorem mul_ok {x y : Int} (hx : x.natAbs < 2 ^ 3000) (hy : y.natAbs < 2 ^ 3000) : CMulW x y := wide_mul hx hy (by decide) (by decide) (by decide)
theorem mul_lt {x y : Int} (hx : x.natAbs < 2 ^ 3000) (hy : y.natAbs < 2 ^ 3000) : (x * y).natAbs < 2 ^ 8000 := Nat.lt_of_lt_of_le (wide_lt hx hy) (Nat.pow_le_pow_right (by decide) (by decide))
theorem rix0 {K : PySem.W.Frag} {H : Hp} {v : V} {a b : Int} {Q : VK} (n : Num K H v a b) (q : Q (.int a) H) : rIxT K v (.int 0) H Q := by
  obtain ⟨p, rfl, hp⟩ := n
  exact ⟨p, _, 0, _, rfl, rfl, hp, rfl, q⟩
theorem rix1 {K : PySem.W.Frag} {H : Hp} {v : V} {a b : Int} {Q : VK} (n : Num K H v a b) (q : Q (.int b) H) : rIxT K v (.int 1) H Q := by
  obtain ⟨p, rfl, hp⟩ := n
  exact ⟨p, _, 1, _, rfl, rfl, hp, rfl, q⟩
/-! ### planes, points: what they are -/
theorem hu65 {A : Around} {k : Nat} (hr : Room k A) : A.units + 65 < cLine := by
  have := hr.un
  omega
def gl (zs : List Int) : Nat := zs.foldl (fun g a => g.gcd a.natAbs) 0
def PlV (K : PySem.W.Frag) (H : Hp) (v : V) (zs : List Int) : Prop := ∃ p, v = .ref p ∧ SqT K H p (zs.map V.int)
theorem PlV.mono {K : PySem.W.Frag} {H H' : Hp} {v : V} {zs : List Int} (e : Ex H H') (h : PlV K H v zs) : PlV K H' v zs :=
  have ⟨p, h1, h2⟩ := h
  ⟨p, h1, ex_t e h2⟩
def Pl (n : Nat) (zs : List Int) : Prop := zs.length = n + 1 ∧ (∀ z ∈ zs, -1000 ≤ z ∧ z ≤ 1000) ∧ (∃ z ∈ zs.take n, z ≠ 0) ∧ gl zs = 1
instance (n : Nat) (zs : List Int) : Decidable (Pl n zs) := inferInstanceAs (Decidable (_ ∧ _))
theorem int_at {ns : List Int} {i : Nat} {x : V} (h : (ns.map V.int)[i]? = some x) : ∃ z, x = .int z ∧ ns[i]? = some z := by
  rw [List.getElem?_map] at h
  cases e : ns[i]? with
  | none =>
    rw [e] at h
    cases h
  | some z =>
    rw [e] at h
    exact ⟨z, (Option.some.inj h).symm, rfl⟩
/-! ### the common divisor of a row, be it a list or a tuple; a row without a common divisor -/
theorem gl_one {zs : List Int} {k : Nat} (h : gl (zs.take k) = 1) : gl zs = 1 := by
  rw [← List.take_append_drop k zs]
  unfold gl at h ⊢
  rw [List.foldl_append, h]
  generalize zs.drop k = ys
  induction ys with
  | nil => rfl
  | cons y ys ih =>
    rw [List.foldl_cons, Nat.gcd_one_left]
    exact ih
theorem offN {S : Src} : offl none S := by
  cases S <;> first | exact (fun z => nomatch z) | trivial
theorem src_ex {K : PySem.W.Frag} {H H' : Hp} {S : Src} {xs : List V} (e : Ex H H') (h : S.at K H xs) : S.at K H' xs := Src.exo (l := none) offN (Exo.of e) h
def sp_content (K : PySem.W.Frag) : Sp := fun vs H Q _ => ∃ S zs, vs = [Src.v S] ∧ S.sq ∧ S.at K H (zs.map V.int) ∧ ∀ H', Ex H H' → Q (.int (gl zs : Nat)) H'
theorem ok_content (T : Txt K w mg ad fd) : Cal P w K mg base CX0 1 "content" (ad 6) (fd 6) ["integers"] [] [] (sp_content K) := by
  refine ⟨T.f_content.ok sc_content (fun vs H Q E h => ?_) (fun cdv A outer s H vs Q E hr h => ?_), T.g_content, T.f_content.kp, T.f_content.binds (ps := ["integers"]) fun _ _ _ _ _ _ us hl => match us, hl with | [_], _ => rfl, .nil⟩
  · obtain ⟨S, zs, rfl, _⟩ := h
    rfl
  · obtain ⟨S, zs, rfl, hs, hp, q⟩ := h
    refine ⟨_, (pss_cons (ps_set (i := 1) sc_content.nd rfl (by first | exact Or.inl rfl | exact Or.inr rfl) pe_int)
    (pss_cons (ps_for (by first | exact PassesOwn.never | exact passes_of rfl) rfl (pi_src (pv 0)) (pg_name (i := 2) sc_content.nd rfl (by first | exact Or.inl rfl | exact Or.inr rfl))
      (pss_cons (ps_set (i := 1) sc_content.nd rfl (by first | exact Or.inl rfl | exact Or.inr rfl) (pe_callBfun cr_gcd rfl T.g_gcd (pa_cons (pv 1) (pa_cons (pv 2) pa_nil))))
    (pss_one (ps_if (pt_cmpR op_eq (pv 1) pe_int (nomark _)) (pss_one (ps_ret pe_int)) pss_nil))))
    (pss_one (ps_ret (pv 1))))), ?_⟩
    refine ⟨S.v, rfl, S, rfl, hs, ⟨_, hp⟩, for_wk (wk_src (l := none) hs offN hp) (fun i σ H' => ∃ c, σ = [some S.v, some (.int ((gl (zs.take i) : Nat) : Int)), c] ∧ Ex H H') ⟨none, rfl, Ex.refl _⟩ (fun i σ H' ⟨_, _, e⟩ => Exo.of e) (fun i σ H1 H2 e ⟨c, h, e1⟩ => ⟨c, h, e1.trans e⟩) ?_ ?_⟩
    · rintro i x σ H1 hi hx ⟨c, rfl, e⟩
      obtain ⟨z, rfl, hz⟩ := int_at hx
      refine ⟨_, rfl, _, rfl, _, _, rfl, ?_⟩
      have e1 : gl (zs.take (i + 1)) = (gl (zs.take i)).gcd z.natAbs := by
        unfold gl
        rw [List.take_add_one, hz, List.foldl_append]
        rfl
      have e2 : ((((gl (zs.take i) : Nat) : Int).natAbs.gcd z.natAbs : Nat) : Int) = ((gl (zs.take (i + 1)) : Nat) : Int) := by
        rw [e1]
        rfl
      rw [e2]
      refine ⟨_, rfl, rfl, _, rfl, ite2 (fun y => ?_) (fun y => ?_)⟩
      · have y1 := V.int.inj (of_decide_eq_true y)
        have y2 : gl (zs.take (i + 1)) = 1 := by omega
        have := q H1 e
        rw [gl_one y2] at this
        exact this
      · exact ⟨some (.int z), rfl, e⟩
    · rintro σ H1 ⟨c, rfl, e⟩
      rw [List.length_map, List.take_length]
      exact ⟨_, rfl, q H1 e⟩
def neg (zs : List Int) : List Int := zs.map fun z => -z
def sp_negated (K : PySem.W.Frag) : Sp := fun vs H Q _ => ∃ v zs, vs = [v] ∧ PlV K H v zs ∧ zs.length ≤ 1000 ∧ ∀ H' v', Ex H H' → PlV K H' v' (neg zs) → Q v' H'
theorem ok_negated (T : Txt K w mg ad fd) : Cal P w K mg base CX0 1 "negated" (ad 8) (fd 8) ["integers"] [] [] (sp_negated K) := by
  refine ⟨T.f_negated.ok sc_negated (fun vs H Q E h => ?_) (fun cdv A outer s H vs Q E hr h => ?_), T.g_negated, T.f_negated.kp, T.f_negated.binds (ps := ["integers"]) fun _ _ _ _ _ _ us hl => match us, hl with | [_], _ => rfl, .nil⟩
  · obtain ⟨v, zs, rfl, _⟩ := h
    rfl
  · obtain ⟨v, zs, rfl, ⟨p, rfl, hp⟩, hz, q⟩ := h
    refine ⟨_, (pss_one (ps_ret (pe_callTy (T := "tuple") (call_tupleK (K := K)) (by rfl) T.m_tuple (by decide +kernel) (pa_cons (pe_lc (own := [("a", 1)]) rfl sc_negated.nd (pi_tup (pv 0)) (blkOk_by (N := ["integers", "a"]) (sc := defScope s_negated) (by decide +kernel)) (fun _ _ _ _ _ => (pg_name (i := 1) sc_negated.nd rfl (by first | exact Or.inl rfl | exact Or.inr rfl))) (fun _ _ _ _ _ => pts_nil) (fun _ _ _ _ _ => (pe_un un_neg (pv 1)))) pa_nil)))), ?_⟩
    refine ⟨.ref p, rfl, p, rfl, ⟨_, hp⟩, fun D hD => ?_⟩
    have sz : sizeLine = 16777216 := sizeLine_eq
    refine lc_acc (l := none) (wk_tup (fun z => nomatch z) hp) hD (fun i ys _ => ys = ((neg zs).take i).map V.int) rfl (fun _ _ _ _ _ h => h) ?_ ?_
    · rintro i x H1 ys hi e hy hl rfl hx
      obtain ⟨z, rfl, hz'⟩ := int_at hx
      refine ⟨rfl, ?_⟩
      refine ⟨_, rfl, z, rfl, LcP.push hD e hy hl (by rw [List.length_map] at hi; omega) ?_⟩
      unfold neg
      rw [List.take_add_one, List.getElem?_map, hz', List.map_append]
      rfl
    · rintro H1 ys e hy rfl
      rw [List.length_map, show zs.length = (neg zs).length by unfold neg; rw [List.length_map], List.take_length] at hy
      refine ⟨D, _, rfl, .inl ⟨SqL.of hy, fun p' hp' => q _ _ (e.ex.trans (Ex.new hp')) ⟨p', rfl, SqT.of upd_same⟩⟩⟩
/-! ### points -/
def All2 {α : Type} (R : V → α → Prop) (vs : List V) (xs : List α) : Prop := vs.length = xs.length ∧ ∀ (i : Nat) (v : V) (x : α), vs[i]? = some v → xs[i]? = some x → R v x
theorem All2.get {α : Type} {R : V → α → Prop} {vs : List V} {xs : List α} (h : All2 R vs xs) {i : Nat} {v : V} (e : vs[i]? = some v) : ∃ x, xs[i]? = some x ∧ R v x := by
  have hi : i < vs.length := (List.getElem?_eq_some_iff.mp e).1
  have hx : xs[i]? = some (xs[i]'(h.1 ▸ hi)) := List.getElem?_eq_getElem _
  exact ⟨_, hx, h.2 i v _ e hx⟩
theorem All2.imp {α : Type} {R R' : V → α → Prop} {vs : List V} {xs : List α} (h : All2 R vs xs) (f : ∀ v x, R v x → R' v x) : All2 R' vs xs := ⟨h.1, fun i v x a b => f v x (h.2 i v x a b)⟩
theorem All2.nil {α : Type} {R : V → α → Prop} : All2 R [] ([] : List α) := ⟨rfl, fun i v x h => by simp at h⟩
theorem All2.cons {α : Type} {R : V → α → Prop} {v : V} {x : α} {vs : List V} {xs : List α} (a : R v x) (h : All2 R vs xs) : All2 R (v :: vs) (x :: xs) := by
  refine ⟨by rw [List.length_cons, List.length_cons, h.1], fun i u y hu hy => ?_⟩
  cases i with
  | zero =>
    cases hu
    cases hy
    exact a
  | succ i => exact h.2 i u y hu hy
theorem All2.app {α : Type} {R : V → α → Prop} {vs ws : List V} {xs ys : List α} (a : All2 R vs xs) (b : All2 R ws ys) : All2 R (vs ++ ws) (xs ++ ys) := by
  induction vs generalizing xs with
  | nil =>
    have : xs = [] := by
      have := a.1
      cases xs with
      | nil => rfl
      | cons _ _ => simp at this
    subst this
    exact b
  | cons v vs ih =>
    cases xs with
    | nil => have := a.1; simp at this
    | cons x xs =>
      have h0 : R v x := a.2 0 v x rfl rfl
      have h1 : All2 R vs xs := ⟨by have := a.1; simpa using this, fun i u y hu hy => a.2 (i + 1) u y hu hy⟩
      exact .cons h0 (ih h1)
theorem All2.set {α : Type} {R : V → α → Prop} {vs : List V} {xs : List α} (h : All2 R vs xs) {j : Nat} {v : V} {x : α} (r : R v x) : All2 R (vs.set j v) (xs.set j x) := by
  refine ⟨by rw [List.length_set, List.length_set, h.1], fun i u y hu hy => ?_⟩
  by_cases e : j = i
  · subst e
    have h1 := (List.getElem?_eq_some_iff.mp hu).1
    have h2 := (List.getElem?_eq_some_iff.mp hy).1
    rw [List.length_set] at h1 h2
    rw [List.getElem?_set_self h1] at hu
    rw [List.getElem?_set_self h2] at hy
    cases hu
    cases hy
    exact r
  · rw [List.getElem?_set_ne e] at hu hy
    exact h.2 i u y hu hy
abbrev NumR (K : PySem.W.Frag) (H : Hp) : V → Int × Int → Prop := fun v x => Num K H v x.1 x.2
def PtV (K : PySem.W.Frag) (H : Hp) (v : V) (ps : List (Int × Int)) : Prop := ∃ p vs, v = .ref p ∧ SqT K H p vs ∧ All2 (NumR K H) vs ps
theorem PtV.mono {K : PySem.W.Frag} {H H' : Hp} {v : V} {ps : List (Int × Int)} (e : Ex H H') (h : PtV K H v ps) : PtV K H' v ps :=
  have ⟨p, vs, h1, h2, h3⟩ := h
  ⟨p, vs, h1, ex_t e h2, h3.imp fun _ _ n => n.mono e⟩
def ptN (ps : List (Int × Int)) : Prop := ∀ x ∈ ps, isN x.1 x.2
instance (ps : List (Int × Int)) : Decidable (ptN ps) := inferInstanceAs (Decidable (∀ _ ∈ _, _))
def PtOk (ps : List (Int × Int)) : Prop := ps.length ≤ 4 ∧ ∀ x ∈ ps, isN x.1 x.2 ∧ x.1.natAbs ≤ 30 ∧ x.2 ≤ 12
theorem PtOk.n {ps : List (Int × Int)} (h : PtOk ps) : ptN ps := fun x hx => (h.2 x hx).1
theorem tyx_tup {K : PySem.W.Frag} {H : Hp} {p : Addr} {xs : List V} (h : SqT K H p xs) : TyX K H (.ref p) (.type "tuple") := by
  rcases h with (h | ⟨o, h⟩) | ⟨o, its, n, h, c, _⟩
  · exact .base (.tup h)
  · exact .fTuple h
  · exact .kTuple h c
/-! ### a part taken out: what is wanted behind it is said once -/
theorem cut {te : TE} {σ : L2.St} {H : Hp} {Q : VK} (P : V → Hp → Prop) (h : ∀ Q' : VK, (∀ v H', P v H' → Q' v H') → te σ H Q') (q : ∀ v H', P v H' → Q v H') : te σ H Q := h Q q
theorem scut {t u : TS} {D : Ends} {σ : L2.St} {H : Hp} (P : L2.St → Hp → Prop) (h : ∀ n : L2.St → Hp → Prop, (∀ σ' H', P σ' H' → n σ' H') → t { D with nx := n } σ H) (q : ∀ σ' H', P σ' H' → u D σ' H') : tSeq t u D σ H := h _ q
theorem gset {i : Nat} {v : V} {σ : L2.St} {H : Hp} {Q : L2.St → Hp → Prop} (h : Q (σ.set i (some v)) H) : gName i v σ H Q := h
theorem seqA {te : TE} {i : Nat} {t u : TS} {D : Ends} {σ : L2.St} {H : Hp} (h : te σ H fun v H1 => tSeq t u D (σ.set i (some v)) H1) : tSeq (tAsg te (gName i)) (tSeq t u) D σ H := h
theorem acut {te : TE} {i : Nat} {u : TS} {D : Ends} {σ : L2.St} {H : Hp} (P : V → Hp → Prop) (h : ∀ Q' : VK, (∀ v H', P v H' → Q' v H') → te σ H Q') (q : ∀ v H', P v H' → u D (σ.set i (some v)) H') : tSeq (tAsg te (gName i)) u D σ H := h _ q
theorem pow_up {x : Nat} {a b : Nat} (h : x < 2 ^ a) (hab : a ≤ b) : x < 2 ^ b := Nat.lt_of_lt_of_le h (Nat.pow_le_pow_right (by decide) hab)
/-! ### planes: checks -/
def sp_check_letters (cB : Addr) : Sp := fun vs H Q E => ∃ n : Int, vs = [.int n] ∧ (1 ≤ n ∧ n ≤ 4 → ∀ H', Ex H H' → Q .non H') ∧ (¬ (1 ≤ n ∧ n ≤ 4) → ∀ H', Ex H H' → E (.ref cB) none H')
theorem ok_check_letters (T : Txt K w mg ad fd) : Cal P w K mg base (L2N.CX P w) 1 "check_letters" (ad 17) (fd 17) ["n"] [] [] (sp_check_letters (ad 4)) := by
  refine ⟨T.f_check_letters.okXN sc_check_letters (fun vs H Q E h => ?_) (fun cdv A outer s H vs Q E hr h => ?_), T.g_check_letters, T.f_check_letters.kp, T.f_check_letters.binds (ps := ["n"]) fun _ _ _ _ _ _ us hl => match us, hl with | [_], _ => rfl, .nil⟩
  · obtain ⟨n, rfl, _⟩ := h
    rfl
  · obtain ⟨n, rfl, q1, q2⟩ := h
    obtain ⟨_, g_MOST_LETTERS⟩ := T.v_MOST_LETTERS
    refine ⟨_, (pss_one (ps_if (pt_not (pt_chain op_le op_le pe_int (pv 0) (pe_glob (v := .int 4) rfl g_MOST_LETTERS ⟨_, rfl⟩))) (pss_one (L2N.ps_raise rfl (L2N.takes_of rfl rfl rfl rfl) (L2N.pmk_own PySem.F.excBase_ValueError T.x_BadNumber T.g_BadNumber T.k_BadNumber (raises_own T.s_BadNumber T.t_BadNumber) rfl))) pss_nil)), ?_⟩
    refine ⟨_, rfl, _, _, rfl, rfl, _, rfl, ?_⟩
    refine ite2 (fun z => ?_) (fun z => ?_)
    · have z' : 1 ≤ n := of_decide_eq_true z
      refine ⟨_, _, rfl, rfl, _, rfl, ?_⟩
      by_cases h4 : n ≤ 4
      · rw [decide_eq_true h4]
        exact iteF (q1 ⟨z', h4⟩ H (Ex.refl H))
      · rw [decide_eq_false h4]
        exact iteT (q2 (fun z => h4 z.2) H (Ex.refl H))
    · have z' : ¬ 1 ≤ n := fun e => z (decide_eq_true e)
      refine ⟨_, rfl, iteT (q2 (fun z => z' z.1) H (Ex.refl H))⟩
def sp_is_plane (K : PySem.W.Frag) (cB : Addr) : Sp := fun vs H Q E => ∃ (i : Int) (v : V) (zs : List Int), vs = [.int i, v] ∧ PlV K H v zs ∧ zs.length ≤ 1000 ∧ (¬ (1 ≤ i ∧ i ≤ 4) → ∀ H', Ex H H' → E (.ref cB) none H') ∧ ∀ n : Nat, i = n → 1 ≤ n → n ≤ 4 → ∀ H', Ex H H' → Q (.bl (decide (Pl n zs))) H'
theorem ok_is_plane (T : Txt K w mg ad fd) : Cal P w K mg base (L2N.CX P w) 2 "is_plane" (ad 18) (fd 18) ["n", "plane"] [] [] (sp_is_plane K (ad 4)) := by
  refine ⟨T.f_is_plane.okXN sc_is_plane (fun vs H Q E h => ?_) (fun cdv A outer s H vs Q E hr h => ?_), T.g_is_plane, T.f_is_plane.kp, T.f_is_plane.binds (ps := ["n", "plane"]) fun _ _ _ _ _ _ us hl => match us, hl with | [_, _], _ => rfl, .nil⟩
  · obtain ⟨i0, v, zs, rfl, _⟩ := h
    rfl
  · obtain ⟨i0, v, zs, rfl, ⟨p, rfl, hp⟩, hz, qE, qn⟩ := h
    obtain ⟨_, g_MOST_ENTRY⟩ := T.v_MOST_ENTRY
    have sz : sizeLine = 16777216 := sizeLine_eq
    refine ⟨_, (pss_cons (ps_expr (pe_cal (ok_check_letters T (P := P) (w := w) (base := base)) (hr.mono (by decide)) (L2N.passes_call (L2N.takes_of rfl rfl rfl rfl) fun _ _ _ _ h => h) (pa_cons (pv 0) pa_nil)))
    (pss_one (ps_ret (pe_and (pe_cmpR op_eq (pe_callB call_len_seq (by rfl) T.m_len PySem.boot_len (pa_cons (pv 1) pa_nil)) (pe_op op_add (pv 0) pe_int) (nomark _)) (pe_and (pe_callB (cr_all rfl) (by rfl) T.m_all (by decide +kernel) (pa_cons (pe_lc (own := [("a", 2)]) rfl sc_is_plane.nd (pi_tup (pv 1)) (blkOk_by (N := ["n", "plane", "a"]) (sc := defScope s_is_plane) (by decide +kernel)) (fun _ _ _ _ _ => (pg_name (i := 2) sc_is_plane.nd rfl (by first | exact Or.inl rfl | exact Or.inr rfl))) (fun _ _ _ _ _ => pts_nil) (fun _ _ _ _ _ => (pe_chain op_le op_le (pe_un un_neg (pe_glob (v := .int 1000) rfl g_MOST_ENTRY ⟨_, rfl⟩)) (pv 2) (pe_glob (v := .int 1000) rfl g_MOST_ENTRY ⟨_, rfl⟩)))) pa_nil)) (pe_and (pe_callB (cr_any rfl) (by rfl) T.m_any (by decide +kernel) (pa_cons (pe_lc (own := [("a", 2)]) rfl sc_is_plane.nd (pi_tup (pe_slice (sl_tupK (K := K)) (pv 1) po_none (po_some (pv 0)))) (blkOk_by (N := ["n", "plane", "a"]) (sc := defScope s_is_plane) (by decide +kernel)) (fun _ _ _ _ _ => (pg_name (i := 2) sc_is_plane.nd rfl (by first | exact Or.inl rfl | exact Or.inr rfl))) (fun _ _ _ _ _ => pts_nil) (fun _ _ _ _ _ => (pe_cmpR op_ne (pv 2) pe_int (nomark _)))) pa_nil)) (pe_one (pe_cmpR op_eq (pe_cal (ok_content T (P := P) (w := w) (base := base)) (hr.mono (by decide)) pass0 (pa_cons (pv 1) pa_nil)) pe_int (nomark _))))))))), ?_⟩
    refine ⟨_, rfl, i0, rfl, fun hn H1 e1 => ?_, fun hn H1 e1 => qE hn H1 e1⟩
    obtain ⟨n, rfl⟩ : ∃ n : Nat, i0 = (n : Int) := ⟨i0.toNat, by omega⟩
    have n1 : 1 ≤ n := by omega
    have n4 : n ≤ 4 := by omega
    have q := qn n rfl n1 n4
    refine ⟨_, rfl, p, _, rfl, .inr (ex_t e1 hp), _, rfl, _, _, rfl, rfl, rfl, _, rfl, ?_⟩
    rw [List.length_map]
    by_cases hlen : zs.length = n + 1
    · rw [decide_eq_true (show V.int (zs.length : Int) = V.int ((n : Int) + 1) by rw [hlen]; rfl)]
      refine iteT ⟨_, rfl, p, rfl, ⟨_, ex_t e1 hp⟩, fun D hD => ?_⟩
      refine lc_acc (l := none) (wk_tup (fun z => nomatch z) (ex_t e1 hp)) hD (fun i acc _ => acc = ((zs.map fun z => decide (-1000 ≤ z ∧ z ≤ 1000)).take i).map V.bl) rfl (fun _ _ _ _ _ h => h) ?_ ?_
      · rintro i x H2 acc hi e2 hy hl' rfl hx
        obtain ⟨z, rfl, hz'⟩ := int_at hx
        refine ⟨rfl, ?_⟩
        have fin : ∀ b : Bool, b = decide (-1000 ≤ z ∧ z ≤ 1000) → ∃ acc', H2 D = some (.lst acc') ∧ acc'.length < sizeLine ∧ LcP none H1 D (fun i acc _ => acc = ((zs.map fun z => decide (-1000 ≤ z ∧ z ≤ 1000)).take i).map V.bl) (i + 1) (upd H2 D (.lst (acc' ++ [V.bl b]))) := fun b hb => by
          refine LcP.push hD e2 hy hl' (by rw [List.length_map] at hi; omega) ?_
          rw [List.take_add_one, List.getElem?_map, hz', List.map_append, hb]
          rfl
        refine ⟨_, rfl, _, rfl, _, _, rfl, rfl, _, rfl, ?_⟩
        refine ite2 (fun y => ?_) (fun y => ?_)
        · have y' : -1000 ≤ z := of_decide_eq_true y
          refine ⟨_, _, rfl, rfl, fin _ ?_⟩
          by_cases h1 : z ≤ 1000
          · rw [decide_eq_true h1, decide_eq_true ⟨y', h1⟩]
          · rw [decide_eq_false h1, decide_eq_false (fun q => h1 q.2)]
        · have y' : ¬ -1000 ≤ z := fun q => y (decide_eq_true q)
          exact fin _ (decide_eq_false (fun q => y' q.1)).symm
      · rintro H2 acc e2 hy rfl
        rw [List.length_map, ← List.length_map (f := fun z : Int => decide (-1000 ≤ z ∧ z ≤ 1000)), List.take_length] at hy
        refine ⟨D, _, rfl, SqL.of hy, ?_⟩
        have hp2 := ex_t (e1.trans e2.ex) hp
        by_cases hA : ∀ z ∈ zs, -1000 ≤ z ∧ z ≤ 1000
        · have ha : (zs.map fun z => decide (-1000 ≤ z ∧ z ≤ 1000)).all id = true := by
            rw [List.all_map, List.all_eq_true]
            exact fun z hz => decide_eq_true (hA z hz)
          rw [ha]
          refine ⟨_, rfl, iteT ?_⟩
          -- any
          have hct : cutV (zs.map V.int) none (some (n : Int)) = (zs.take n).map V.int := by
            unfold cutV
            rw [HT.sIx_none, HT.sIx_nat, List.drop_zero, List.length_map, List.map_take]
            congr 1
            omega
          have hne : ¬ (HT.sIx (zs.map V.int).length 0 none = 0 ∧ HT.sIx (zs.map V.int).length (zs.map V.int).length (some (n : Int)) = (zs.map V.int).length) := by
            rw [HT.sIx_nat, List.length_map]
            omega
          refine ⟨_, rfl, _, rfl, _, rfl, p, _, rfl, hp2, fun z => absurd z hne, fun _ p3 hp3 => ⟨p3, rfl, ⟨_, SqT.of upd_same⟩, fun D2 hD2 => ?_⟩⟩
          rw [hct] at hD2 ⊢
          have hp3' : SqT K (upd H2 p3 (.tup ((zs.take n).map V.int))) p3 ((zs.take n).map V.int) := SqT.of upd_same
          have e3 : Ex H (upd H2 p3 (.tup ((zs.take n).map V.int))) := (e1.trans e2.ex).trans (Ex.new hp3)
          generalize upd H2 p3 (.tup ((zs.take n).map V.int)) = H3 at hD2 hp3' e3 ⊢
          refine lc_acc (l := none) (wk_tup (fun z => nomatch z) hp3') hD2 (fun i acc _ => acc = (((zs.take n).map fun z => !decide (z = 0)).take i).map V.bl) rfl (fun _ _ _ _ _ h => h) ?_ ?_
          · rintro i x H4 acc hi e4 hy4 hl4 rfl hx
            obtain ⟨z, rfl, hz'⟩ := int_at hx
            refine ⟨rfl, ?_⟩
            refine ⟨_, rfl, rfl, LcP.push hD2 e4 hy4 hl4 (by rw [List.length_map, List.length_take] at hi; omega) ?_⟩
            rw [List.take_add_one, List.getElem?_map, hz', List.map_append]
            have : decide (V.int z = V.int 0) = decide (z = 0) := by
              by_cases h : z = 0
              · rw [h, decide_eq_true rfl, decide_eq_true rfl]
              · rw [decide_eq_false h, decide_eq_false (fun q => h (V.int.inj q))]
            rw [this]
            rfl
          · rintro H4 acc e4 hy4 rfl
            rw [List.length_map, ← List.length_map (f := fun z : Int => !decide (z = 0)), List.take_length] at hy4
            refine ⟨D2, _, rfl, SqL.of hy4, ?_⟩
            by_cases hB : ∃ z ∈ zs.take n, z ≠ 0
            · have hb : ((zs.take n).map fun z => !decide (z = 0)).any id = true := by
                rw [List.any_map, List.any_eq_true]
                obtain ⟨z, h1, h2⟩ := hB
                exact ⟨z, h1, by show (!decide (z = 0)) = true; rw [decide_eq_false h2]; rfl⟩
              rw [hb]
              refine ⟨_, rfl, iteT ⟨_, rfl, .tup p, zs, rfl, trivial, ex_t (e3.trans e4.ex) hp, fun H5 e5 => ⟨rfl, ?_⟩⟩⟩
              have := q H5 ((e3.trans e4.ex).trans e5)
              by_cases hg : gl zs = 1
              · rw [decide_eq_true (show Pl n zs from ⟨hlen, hA, hB, hg⟩)] at this
                rw [hg]
                exact this
              · rw [decide_eq_false (fun z => hg z.2.2.2)] at this
                rw [decide_eq_false (show ¬ V.int ((gl zs : Nat) : Int) = V.int 1 from fun z => hg (by have := V.int.inj z; omega))]
                exact this
            · have hb : ((zs.take n).map fun z => !decide (z = 0)).any id = false := by
                rw [List.any_map, List.any_eq_false]
                intro z h1 h2
                have h2 : (!decide (z = 0)) = true := h2
                exact hB ⟨z, h1, fun z0 => by rw [z0] at h2; exact absurd h2 (by decide)⟩
              rw [hb]
              refine ⟨_, rfl, iteF ?_⟩
              have := q H4 (e3.trans e4.ex)
              rw [decide_eq_false (fun z => hB z.2.2.1)] at this
              exact this
        · have ha : (zs.map fun z => decide (-1000 ≤ z ∧ z ≤ 1000)).all id = false := by
            rw [List.all_map]
            refine Bool.eq_false_iff.mpr fun z => hA fun x hx => ?_
            exact of_decide_eq_true (List.all_eq_true.mp z x hx)
          rw [ha]
          refine ⟨_, rfl, iteF ?_⟩
          have := q H2 (e1.trans e2.ex)
          rw [decide_eq_false (fun z => hA z.2.1)] at this
          exact this
    · rw [decide_eq_false (show ¬ V.int (zs.length : Int) = V.int ((n : Int) + 1) from fun z => hlen (by have := V.int.inj z; omega))]
      refine iteF ?_
      have := q H1 e1
      rw [decide_eq_false (fun z => hlen z.1)] at this
      exact this
/-! ### lists of planes -/
def tupD (zs : List Int) : PyData := .tuple (zs.map PyData.int)
theorem dpAll_int {K : PySem.W.Frag} {H : Hp} : ∀ zs : List Int, DpAll K H (zs.map V.int) (zs.map PyData.int)
  | [] => .nil
  | z :: zs => .cons (.int z) (dpAll_int zs)
theorem dp_pl {K : PySem.W.Frag} {H : Hp} {v : V} {zs : List Int} (h : PlV K H v zs) : Dp K H v (tupD zs) := by
  obtain ⟨p, rfl, hp⟩ := h
  exact .tup hp (dpAll_int zs)
theorem eqvAll_int : ∀ xs ys : List Int, PyData.eqvAll (xs.map PyData.int) (ys.map PyData.int) = decide (xs = ys)
  | [], [] => by simp [PyData.eqvAll]
  | [], y :: ys => by simp [PyData.eqvAll]
  | x :: xs, [] => by simp [PyData.eqvAll]
  | x :: xs, y :: ys => by
    rw [List.map_cons, List.map_cons, PyData.eqvAll, eqvAll_int xs ys, PyData.eqv]
    by_cases h : x = y
    · subst h
      simp
    · have : ¬ (x :: xs = y :: ys) := fun e => h (List.cons.inj e).1
      simp [h]
theorem eqv_tupD (xs ys : List Int) : PyData.eqv (tupD xs) (tupD ys) = decide (xs = ys) := by
  unfold tupD
  rw [PyData.eqv, eqvAll_int]
theorem canLay_ints : ∀ zs : List Int, PyData.canLayAll0 (zs.map PyData.int) = true
  | [] => by simp [PyData.canLayAll0]
  | z :: zs => by simp [PyData.canLayAll0, PyData.canLay0, canLay_ints zs]
theorem depth_ints : ∀ zs : List Int, PyData.depthAll (zs.map PyData.int) ≤ 1
  | [] => by simp [PyData.depthAll]
  | z :: zs => by
    have := depth_ints zs
    simp only [List.map_cons, PyData.depthAll, PyData.depth]
    omega
theorem shaped_tupD (zs : List Int) : SeqAt.shaped (tupD zs) = true := by
  have := depth_ints zs
  unfold SeqAt.shaped tupD
  rw [PyData.canLay0, canLay_ints, Bool.true_and]
  refine decide_eq_true ?_
  rw [PyData.depth]
  omega
theorem canLay_tups : ∀ zss : List (List Int), PyData.canLayAll0 (zss.map tupD) = true
  | [] => by simp [PyData.canLayAll0]
  | z :: zs => by simp [PyData.canLayAll0, PyData.canLay0, canLay_tups zs, tupD, canLay_ints]
theorem depth_tups : ∀ zss : List (List Int), PyData.depthAll (zss.map tupD) ≤ 3
  | [] => by simp [PyData.depthAll]
  | z :: zs => by
    have h1 := depth_tups zs
    have h2 := depth_ints z
    simp only [List.map_cons, PyData.depthAll, tupD, PyData.depth]
    omega
theorem shaped_tups (zss : List (List Int)) : SeqAt.shaped (.list (zss.map tupD)) = true := by
  have := depth_tups zss
  unfold SeqAt.shaped
  rw [PyData.canLay0, canLay_tups, Bool.true_and]
  refine decide_eq_true ?_
  rw [PyData.depth]
  omega
theorem dpAll_pls {K : PySem.W.Frag} {H : Hp} : ∀ {us : List V} {zss : List (List Int)}, All2 (PlV K H) us zss → DpAll K H us (zss.map tupD)
  | [], [], _ => .nil
  | [], _ :: _, h => absurd h.1 (by simp)
  | _ :: _, [], h => absurd h.1 (by simp)
  | u :: us, z :: zs, h => .cons (dp_pl (h.2 0 u z rfl rfl)) (dpAll_pls ⟨by have := h.1; simpa using this, fun i v x a b => h.2 (i + 1) v x a b⟩)
theorem any_tups (zss : List (List Int)) (zs : List Int) : ((zss.map tupD).any fun z => PyData.eqv z (tupD zs)) = decide (zs ∈ zss) := by
  rw [List.any_map]
  by_cases h : zs ∈ zss
  · rw [decide_eq_true h, List.any_eq_true]
    exact ⟨zs, h, by show PyData.eqv (tupD zs) (tupD zs) = true; rw [eqv_tupD]; exact decide_eq_true rfl⟩
  · rw [decide_eq_false h, List.any_eq_false]
    intro x hx e
    have e : PyData.eqv (tupD x) (tupD zs) = true := e
    rw [eqv_tupD] at e
    exact h (of_decide_eq_true e ▸ hx)
theorem neg_neg (zs : List Int) : neg (neg zs) = zs := by
  unfold neg
  rw [List.map_map]
  have : ((fun z : Int => -z) ∘ fun z => -z) = id := funext fun z => by show - -z = z; omega
  rw [this, List.map_id]
def PlanesOk (n : Nat) (zss : List (List Int)) : Prop := zss.length ≤ 12 ∧ (∀ zs ∈ zss, Pl n zs) ∧ ∀ (i j : Nat) (a b : List Int), i < j → zss[i]? = some a → zss[j]? = some b → b ≠ a ∧ b ≠ neg a
def both (zss : List (List Int)) : List (List Int) := zss.flatMap fun zs => [zs, neg zs]
theorem not_before {n : Nat} {zss : List (List Int)} (h : PlanesOk n zss) {i : Nat} {b : List Int} (hb : zss[i]? = some b) : b ∉ both (zss.take i) := by
  intro hm
  obtain ⟨a, ha, hab⟩ := List.mem_flatMap.mp hm
  obtain ⟨j, hj⟩ := List.mem_iff_getElem?.mp ha
  rw [List.getElem?_take] at hj
  split at hj
  · rename_i hji
    have := h.2.2 j i a b hji hj hb
    rcases List.mem_cons.mp hab with e | e
    · exact this.1 e
    · exact this.2 (List.mem_singleton.mp e)
  · cases hj
theorem sqt_upd {K : PySem.W.Frag} {H : Hp} {p b : Addr} {xs ys : List V} {o : HO} (h : SqT K H p xs) (hb : H b = some (.lst ys)) : SqT K (upd H b o) p xs := by
  rcases h with (h | ⟨u, h⟩) | h
  · exact .inl (.inl (by rw [upd_ne (ne_of h hb (fun z => nomatch z))]; exact h))
  · exact .inl (.inr ⟨u, by rw [upd_ne (ne_of h hb (fun z => nomatch z))]; exact h⟩)
  · exact .inr h
theorem plv_upd {K : PySem.W.Frag} {H : Hp} {v : V} {zs : List Int} {b : Addr} {ys : List V} {o : HO} (h : PlV K H v zs) (hb : H b = some (.lst ys)) : PlV K (upd H b o) v zs :=
  have ⟨p, h1, h2⟩ := h
  ⟨p, h1, sqt_upd h2 hb⟩
theorem both_succ {zss : List (List Int)} {i : Nat} {zs : List Int} (h : zss[i]? = some zs) : both (zss.take (i + 1)) = both (zss.take i) ++ [zs] ++ [neg zs] := by
  unfold both
  rw [List.take_add_one, h, List.flatMap_append, List.append_assoc]
  rfl
def prim (zs : List Int) : List Int := if 1 < gl zs then zs.map fun z => z.fdiv ((gl zs : Nat) : Int) else zs
theorem prim_len (zs : List Int) : (prim zs).length = zs.length := by
  unfold prim
  split
  · rw [List.length_map]
  · rfl
theorem gl_dvd (zs : List Int) : ∀ z ∈ zs, ((gl zs : Nat) : Int) ∣ z := by
  have key : ∀ (zs : List Int) (c : Nat), zs.foldl (fun g a => g.gcd a.natAbs) c ∣ c ∧ ∀ z ∈ zs, zs.foldl (fun g a => g.gcd a.natAbs) c ∣ z.natAbs := by
    intro zs
    induction zs with
    | nil => exact fun c => ⟨Nat.dvd_refl _, fun z h => absurd h List.not_mem_nil⟩
    | cons y ys ih =>
      intro c
      have := ih (c.gcd y.natAbs)
      refine ⟨Nat.dvd_trans this.1 (Nat.gcd_dvd_left _ _), fun z hz => ?_⟩
      rcases List.mem_cons.mp hz with e | h
      · rw [e]
        exact Nat.dvd_trans this.1 (Nat.gcd_dvd_right _ _)
      · exact this.2 z h
  intro z hz
  exact Int.natAbs_dvd_natAbs.mp ((key zs 0).2 z hz)
theorem prim_bd {zs : List Int} {B : Nat} (h : ∀ z ∈ zs, z.natAbs ≤ B) : ∀ z ∈ prim zs, z.natAbs ≤ B := by
  unfold prim
  split
  · rename_i hg
    intro y hy
    obtain ⟨z, hz, rfl⟩ := List.mem_map.mp hy
    obtain ⟨k, hk⟩ := gl_dvd zs z hz
    have e1 : z.fdiv ((gl zs : Nat) : Int) = k := by
      rw [Int.fdiv_eq_ediv_of_dvd ⟨k, hk⟩, hk, Int.mul_ediv_cancel_left k (by omega)]
    show (z.fdiv ((gl zs : Nat) : Int)).natAbs ≤ B
    rw [e1]
    have h2 : z.natAbs = gl zs * k.natAbs := by
      have := congrArg Int.natAbs hk
      rw [Int.natAbs_mul] at this
      exact this
    have h3 : k.natAbs ≤ gl zs * k.natAbs := Nat.le_mul_of_pos_left _ (by omega)
    have := h z hz
    omega
  · exact h
theorem gl_small {zs : List Int} {B : Nat} (hg : 0 < gl zs) (h : ∀ z ∈ zs, z.natAbs ≤ B) : gl zs ≤ B := by
  have : ∃ z ∈ zs, z ≠ 0 := by
    refine Classical.byContradiction fun no => ?_
    have all0 : ∀ z ∈ zs, z = 0 := fun z hz => Classical.byContradiction fun hn => no ⟨z, hz, hn⟩
    have : ∀ (zs : List Int), (∀ z ∈ zs, z = 0) → zs.foldl (fun g a => g.gcd a.natAbs) 0 = 0 := by
      intro zs
      induction zs with
      | nil => exact fun _ => rfl
      | cons y ys ih =>
        intro h
        rw [List.foldl_cons, h y (by simp)]
        exact ih fun z hz => h z (List.mem_cons_of_mem _ hz)
    have := this zs all0
    unfold gl at hg
    omega
  obtain ⟨z, hz, h0⟩ := this
  have h1 := Int.natAbs_dvd_natAbs.mpr (gl_dvd zs z hz)
  have h2 : gl zs ≤ z.natAbs := Nat.le_of_dvd (by omega) h1
  have := h z hz
  omega
def sp_primitive (K : PySem.W.Frag) : Sp := fun vs H Q _ => ∃ S zs, vs = [Src.v S] ∧ S.sq ∧ S.at K H (zs.map V.int) ∧ zs.length ≤ 1000 ∧ (∀ z ∈ zs, z.natAbs ≤ 2 ^ 3000) ∧ ∀ H' v, Ex H H' → PlV K H' v (prim zs) → Q v H'
theorem ok_primitive (T : Txt K w mg ad fd) : Cal P w K mg base CX0 2 "primitive" (ad 7) (fd 7) ["integers"] [] [] (sp_primitive K) := by
  refine ⟨T.f_primitive.ok sc_primitive (fun vs H Q E h => ?_) (fun cdv A outer s H vs Q E hr h => ?_), T.g_primitive, T.f_primitive.kp, T.f_primitive.binds (ps := ["integers"]) fun _ _ _ _ _ _ us hl => match us, hl with | [_], _ => rfl, .nil⟩
  · obtain ⟨S, zs, rfl, _⟩ := h
    rfl
  · obtain ⟨S, zs, rfl, hs, hp, hl, hb, q⟩ := h
    have sz : sizeLine = 16777216 := sizeLine_eq
    refine ⟨_, (pss_cons (ps_set (i := 1) sc_primitive.nd rfl (by first | exact Or.inl rfl | exact Or.inr rfl) (pe_cal (ok_content T (P := P) (w := w) (base := base)) (hr.mono (by decide)) pass0 (pa_cons (pv 0) pa_nil)))
    (pss_cons (ps_if (pt_cmpR op_gt (pv 1) pe_int (nomark _)) (pss_one (ps_ret (pe_callTy (T := "tuple") (call_tupleK (K := K)) (by rfl) T.m_tuple (by decide +kernel) (pa_cons (pe_lc (own := [("a", 2)]) rfl sc_primitive.nd (pi_src (pv 0)) (blkOk_by (N := ["integers", "shared", "a"]) (sc := defScope s_primitive) (by decide +kernel)) (fun _ _ _ _ _ => (pg_name (i := 2) sc_primitive.nd rfl (by first | exact Or.inl rfl | exact Or.inr rfl))) (fun _ _ _ _ _ => pts_nil) (fun _ _ _ _ _ => (pe_op op_fdivG (pv 2) (pv 1)))) pa_nil)))) pss_nil)
    (pss_one (ps_ret (pe_callTy (T := "tuple") (call_tupleK (K := K)) (by rfl) T.m_tuple (by decide +kernel) (pa_cons (pv 0) pa_nil)))))), ?_⟩
    refine ⟨_, rfl, S, zs, rfl, hs, hp, fun H1 e1 => ?_⟩
    have hp1 := src_ex e1 hp
    refine ⟨_, rfl, _, _, rfl, rfl, _, rfl, ite2 (fun y => ?_) (fun y => ?_)⟩
    · have hg : 1 < gl zs := by
        have : (1 : Int) < ((gl zs : Nat) : Int) := of_decide_eq_true y
        omega
      have hpr : prim zs = zs.map fun z => z.fdiv ((gl zs : Nat) : Int) := by unfold prim; rw [if_pos hg]
      refine ⟨S.v, rfl, S, rfl, hs, ⟨_, hp1⟩, fun D hD => ?_⟩
      refine lc_acc (l := none) (wk_src hs offN hp1) hD (fun i ys _ => ys = ((prim zs).take i).map V.int) rfl (fun _ _ _ _ _ h => h) ?_ ?_
      · rintro i x H2 ys hi e hy hl' rfl hx
        obtain ⟨z, rfl, hz'⟩ := int_at hx
        refine ⟨rfl, ?_⟩
        have hgs := gl_small (by omega) hb
        refine ⟨_, rfl, _, rfl, _, _, rfl, rfl, ⟨by omega, ?_⟩, LcP.push hD e hy hl' (by rw [List.length_map] at hi; omega) ?_⟩
        · show (gl zs).log2 < 9000
          have := (Nat.log2_lt (n := gl zs) (k := 3001) (by omega)).mpr (Nat.lt_of_le_of_lt hgs (Nat.pow_lt_pow_right (by decide) (by decide)))
          omega
        · rw [hpr, List.take_add_one, List.getElem?_map, hz', List.map_append]
          rfl
      · rintro H2 ys e hy rfl
        rw [List.length_map, ← prim_len, List.take_length] at hy
        exact ⟨D, _, rfl, .inl ⟨SqL.of hy, fun p' hp' => q _ _ ((e1.trans e.ex).trans (Ex.new hp')) ⟨p', rfl, SqT.of upd_same⟩⟩⟩
    · have hg : ¬ 1 < gl zs := fun h => y (decide_eq_true (show (1 : Int) < ((gl zs : Nat) : Int) by omega))
      have hpr : prim zs = zs := by unfold prim; rw [if_neg hg]
      rw [hpr] at q
      cases S with
      | lst a => exact ⟨_, rfl, a, _, rfl, .inl ⟨hp1, fun p' hp' => q _ _ (e1.trans (Ex.new hp')) ⟨p', rfl, SqT.of upd_same⟩⟩⟩
      | tup a => exact ⟨_, rfl, a, _, rfl, .inr ⟨hp1, q _ _ e1 ⟨a, rfl, hp1⟩⟩⟩
      | str x => exact hs.elim
/-! ### steps to the echelon form, mirrored -/
def fz (p : Nat) (r : List Int) : Bool := !decide (r.getD p 0 = 0)
def sp_first_row_with (K : PySem.W.Frag) : Sp := fun vs H Q _ => ∃ (r : Addr) (p : Nat) (us : List V) (zss : List (List Int)), vs = [.ref r, .int p] ∧ SqL K H r us ∧ All2 (PlV K H) us zss ∧ zss.length ≤ 1000 ∧ (∀ zs ∈ zss, p < zs.length) ∧
  ∀ H', Ex H H' → (∀ i, zss.findIdx? (fz p) = some i → Q (.int i) H') ∧ (zss.findIdx? (fz p) = none → Q .non H')
theorem findIdx_take {α : Type} {f : α → Bool} {xs : List α} {i : Nat} {x : α} (h : xs[i]? = some x) (h0 : ∀ (j : Nat) (y : α), j < i → xs[j]? = some y → f y = false) (hx : f x = true) : xs.findIdx? f = some i := by
  rw [List.findIdx?_eq_some_iff_getElem]
  obtain ⟨hi, e⟩ := List.getElem?_eq_some_iff.mp h
  refine ⟨hi, by rw [e]; exact hx, fun j hj => ?_⟩
  have hjl : j < xs.length := by omega
  rw [h0 j _ hj (List.getElem?_eq_getElem hjl)]
  simp
theorem findIdx_none {α : Type} {f : α → Bool} {xs : List α} (h0 : ∀ (j : Nat) (y : α), xs[j]? = some y → f y = false) : xs.findIdx? f = none := by
  rw [List.findIdx?_eq_none_iff]
  intro x hx
  obtain ⟨i, hi⟩ := List.mem_iff_getElem?.mp hx
  exact h0 i x hi
theorem atp {zs : List Int} {p : Nat} (h : p < zs.length) : (zs.map V.int)[p]? = some (.int (zs.getD p 0)) := by
  rw [List.getElem?_map, List.getD_eq_getElem?_getD, List.getElem?_eq_getElem h]
  rfl
theorem ok_first_row_with (T : Txt K w mg ad fd) : Cal P w K mg base CX0 1 "first_row_with" (ad 10) (fd 10) ["rows", "place"] [] [] (sp_first_row_with K) := by
  refine ⟨T.f_first_row_with.ok sc_first_row_with (fun vs H Q E h => ?_) (fun cdv A outer s H vs Q E hr h => ?_), T.g_first_row_with, T.f_first_row_with.kp, T.f_first_row_with.binds (ps := ["rows", "place"]) fun _ _ _ _ _ _ us hl => match us, hl with | [_, _], _ => rfl, .nil⟩
  · obtain ⟨r, p, us, zss, rfl, _⟩ := h
    rfl
  · obtain ⟨r, p, us, zss, rfl, hr', hz, hl, hlen, q⟩ := h
    refine ⟨_, (pss_cons (ps_for (by first | exact PassesOwn.never | exact passes_of rfl) rfl (pi_enumS (by rfl) T.m_enumerate (pa_cons (pv 0) pa_nil)) (pg_tup (n := 2) rfl (pgs_cons (pg_name (i := 2) sc_first_row_with.nd rfl (by first | exact Or.inl rfl | exact Or.inr rfl)) (pgs_cons (pg_name (i := 3) sc_first_row_with.nd rfl (by first | exact Or.inl rfl | exact Or.inr rfl)) pgs_nil)))
      (pss_one (ps_if (pt_cmpR op_ne (pe_ix (ix_tupK (K := K)) (pv 3) (pv 1) (fun _ _ => rfl)) pe_int (nomark _)) (pss_one (ps_ret (pv 2))) pss_nil)))
    (pss_one (ps_ret pe_non))), ?_⟩
    refine ⟨_, rfl, .lst r, us, rfl, hr', for_wk (wk_enum (l := none) (S := .lst r) (fun z => nomatch z) hr') (fun i σ H' => ∃ c d, σ = [some (.ref r), some (.int p), c, d] ∧ Ex H H' ∧ ∀ (j : Nat) (y : List Int), j < i → zss[j]? = some y → fz p y = false) ⟨none, none, rfl, Ex.refl _, fun j y h => absurd h (Nat.not_lt_zero _)⟩ (fun i σ H' ⟨_, _, _, e, _⟩ => Exo.of e) (fun i σ H1 H2 e ⟨c, d, h, e1, h1⟩ => ⟨c, d, h, e1.trans e, h1⟩) ?_ ?_⟩
    · rintro i v σ H1 hi ⟨T', x, rfl, hT', hx⟩ ⟨c, d, rfl, e, h0⟩
      obtain ⟨zs, hzs, p1, rfl, hp1⟩ := hz.get hx
      have hpl := hlen zs (List.mem_of_getElem? hzs)
      refine ⟨T', _, rfl, SqT.of hT', rfl, _, _, rfl, _, _, rfl, rfl, ?_⟩
      have hv : fz p zs = !decide (V.int (zs.getD p 0) = V.int 0) := by
        unfold fz
        by_cases h : zs.getD p 0 = 0
        · rw [h, decide_eq_true rfl, decide_eq_true rfl]
        · rw [decide_eq_false h, decide_eq_false (fun e => h (V.int.inj e))]
      refine ⟨_, rfl, _, rfl, p1, _, p, _, rfl, rfl, ex_t e hp1, atI_nat (atp hpl), rfl, _, rfl, ite2 (fun y => ?_) (fun y => ?_)⟩
      · exact ⟨_, rfl, (q H1 e).1 i (findIdx_take hzs h0 (hv.trans y))⟩
      · refine ⟨_, _, rfl, e, fun j y' hj hy' => ?_⟩
        by_cases hji : j < i
        · exact h0 j y' hji hy'
        · have : j = i := by omega
          subst this
          rw [hzs] at hy'
          cases hy'
          rw [hv]
          exact Bool.eq_false_iff.mpr y
    · rintro σ H1 ⟨c, d, rfl, e, h0⟩
      refine (q H1 e).2 (findIdx_none fun j y hy => h0 j y ?_ hy)
      rw [hz.1]
      exact (List.getElem?_eq_some_iff.mp hy).1
def strk (row bys : List Int) (p : Nat) : List Int :=
  if row.getD p 0 = 0 then row else
    prim (List.zipWith (fun a b => (bys.getD p 0).fdiv (((row.getD p 0).natAbs.gcd (bys.getD p 0).natAbs : Nat) : Int) * a - (row.getD p 0).fdiv (((row.getD p 0).natAbs.gcd (bys.getD p 0).natAbs : Nat) : Int) * b) row bys)
theorem fdiv_le {a : Int} {g : Nat} (hg : 0 < g) (h : (g : Int) ∣ a) : (a.fdiv g).natAbs ≤ a.natAbs := by
  obtain ⟨k, rfl⟩ := h
  have e1 : ((g : Int) * k).fdiv g = k := by rw [Int.fdiv_eq_ediv_of_dvd ⟨k, rfl⟩, Int.mul_ediv_cancel_left k (by omega)]
  rw [e1, Int.natAbs_mul]
  exact Nat.le_mul_of_pos_left _ (by show 0 < (g : Int).natAbs; omega)
theorem getD_mem {zs : List Int} {p : Nat} (h : p < zs.length) : zs.getD p 0 ∈ zs := by
  rw [List.getD_eq_getElem?_getD, List.getElem?_eq_getElem h]
  exact List.getElem_mem h
def sp_struck (K : PySem.W.Frag) : Sp := fun vs H Q _ => ∃ (u v : V) (p e : Nat) (xs ys : List Int), vs = [u, v, .int p] ∧ PlV K H u xs ∧ PlV K H v ys ∧ p < xs.length ∧ p < ys.length ∧ xs.length ≤ 1000 ∧ ys.length = xs.length ∧ e ≤ 1490 ∧ (∀ z ∈ xs, z.natAbs < 2 ^ e) ∧ (∀ z ∈ ys, z.natAbs < 2 ^ e) ∧
  ∀ H' v, Ex H H' → PlV K H' v (strk xs ys p) → Q v H'
theorem ok_struck (T : Txt K w mg ad fd) : Cal P w K mg base CX0 3 "struck" (ad 11) (fd 11) ["row", "by", "place"] [] [] (sp_struck K) := by
  refine ⟨T.f_struck.ok sc_struck (fun vs H Q E h => ?_) (fun cdv A outer s H vs Q E hr h => ?_), T.g_struck, T.f_struck.kp, T.f_struck.binds (ps := ["row", "by", "place"]) fun _ _ _ _ _ _ us hl => match us, hl with | [_, _, _], _ => rfl, .nil⟩
  · obtain ⟨u, v, p, e, xs, ys, rfl, _⟩ := h
    rfl
  · obtain ⟨u, v, p, e, xs, ys, rfl, ⟨px, rfl, hx⟩, ⟨py, rfl, hy⟩, lx, ly, l9, lxy, he, bx, bY, q⟩ := h
    have sz : sizeLine = 16777216 := sizeLine_eq
    refine ⟨_, (pss_cons (ps_if (pt_cmpR op_eq (pe_ix (ix_tupK (K := K)) (pv 0) (pv 2) (fun _ _ => rfl)) pe_int (nomark _)) (pss_one (ps_ret (pv 0))) pss_nil)
    (pss_cons (ps_set (i := 3) sc_struck.nd rfl (by first | exact Or.inl rfl | exact Or.inr rfl) (pe_callBfun cr_gcd rfl T.g_gcd (pa_cons (pe_ix (ix_tupK (K := K)) (pv 0) (pv 2) (fun _ _ => rfl)) (pa_cons (pe_ix (ix_tupK (K := K)) (pv 1) (pv 2) (fun _ _ => rfl)) pa_nil))))
    (pss_cons (ps_set (i := 4) sc_struck.nd rfl (by first | exact Or.inl rfl | exact Or.inr rfl) (pe_op op_fdivG (pe_ix (ix_tupK (K := K)) (pv 1) (pv 2) (fun _ _ => rfl)) (pv 3)))
    (pss_cons (ps_set (i := 5) sc_struck.nd rfl (by first | exact Or.inl rfl | exact Or.inr rfl) (pe_op op_fdivG (pe_ix (ix_tupK (K := K)) (pv 0) (pv 2) (fun _ _ => rfl)) (pv 3)))
    (pss_one (ps_ret (pe_cal (ok_primitive T (P := P) (w := w) (base := base)) (hr.mono (by decide)) pass0 (pa_cons (pe_lc (own := [("a", 6), ("b", 7)]) (g := gTup K 2 (gCons (gName 6) (gCons (gName 7) gNil))) rfl sc_struck.nd (pi_zipS (by rfl) T.m_zip (pa_cons (pv 0) (pa_cons (pv 1) pa_nil))) (blkOk_by (N := ["row", "by", "place", "shared", "much", "less", "a", "b"]) (sc := defScope s_struck) (by decide +kernel)) (fun _ _ _ _ _ => (pg_tup (n := 2) rfl (pgs_cons (pg_name (i := 6) sc_struck.nd rfl (by first | exact Or.inl rfl | exact Or.inr rfl)) (pgs_cons (pg_name (i := 7) sc_struck.nd rfl (by first | exact Or.inl rfl | exact Or.inr rfl)) pgs_nil)))) (fun _ _ _ _ _ => pts_nil) (fun _ _ _ _ _ => (pe_op op_sub (pe_op op_mulW (pv 4) (pv 6)) (pe_op op_mulW (pv 5) (pv 7))))) pa_nil)))))))), ?_⟩
    have ax := atp lx
    have ay := atp ly
    have mx := bx _ (getD_mem lx)
    have my := bY _ (getD_mem ly)
    unfold strk at q
    generalize hA : xs.getD p 0 = A at ax mx q
    generalize hB : ys.getD p 0 = B at ay my q
    refine ⟨_, rfl, _, rfl, px, _, p, _, rfl, rfl, hx, atI_nat ax, rfl, _, rfl, ite2 (fun y => ?_) (fun y => ?_)⟩
    · have y0 : A = 0 := V.int.inj (of_decide_eq_true y)
      rw [if_pos y0] at q
      exact ⟨_, rfl, q H (.ref px) (Ex.refl _) ⟨px, rfl, hx⟩⟩
    · have y0 : A ≠ 0 := fun e => y (by rw [e]; rfl)
      rw [if_neg y0] at q
      have e9 : (2 : Nat) ^ e ≤ 2 ^ 1490 := Nat.pow_le_pow_right (by decide) he
      generalize hG : A.natAbs.gcd B.natAbs = G at q
      have g0 : 0 < G := by
        rw [← hG]
        exact Nat.gcd_pos_of_pos_left _ (by omega)
      have gA : (G : Int) ∣ A := Int.natAbs_dvd_natAbs.mp (by rw [← hG]; exact Nat.gcd_dvd_left _ _)
      have gB : (G : Int) ∣ B := Int.natAbs_dvd_natAbs.mp (by rw [← hG]; exact Nat.gcd_dvd_right _ _)
      have gl : G < 2 ^ 1490 := by
        have : G ≤ A.natAbs := by rw [← hG]; exact Nat.gcd_le_left _ (by omega)
        omega
      have glog : (G : Int).natAbs.log2 < 9000 := by
        show G.log2 < 9000
        have := (Nat.log2_lt (n := G) (k := 1490) (by omega)).mpr gl
        omega
      refine ⟨_, rfl, _, rfl, px, _, p, _, rfl, rfl, hx, atI_nat ax, _, rfl, _, rfl, py, _, p, _, rfl, rfl, hy, atI_nat ay, _, _, rfl, ?_⟩
      rw [hG]
      refine ⟨_, rfl, _, rfl, py, _, p, _, rfl, rfl, hy, atI_nat ay, _, rfl, _, _, rfl, rfl, ⟨by omega, glog⟩, ?_⟩
      refine ⟨_, rfl, _, rfl, px, _, p, _, rfl, rfl, hx, atI_nat ax, _, rfl, _, _, rfl, rfl, ⟨by omega, glog⟩, ?_⟩
      have dA := fdiv_le g0 gA
      have dB := fdiv_le g0 gB
      refine ⟨_, rfl, _, rfl, .tup px, .tup py, _, _, rfl, hx, hy, fun D hD => ?_⟩
      refine lc_acc (l := none) (wk_zip (S1 := .tup px) (S2 := .tup py) (fun z => nomatch z) (fun z => nomatch z) hx hy) hD (fun i acc _ => acc = ((List.zipWith (fun a b => B.fdiv (G : Int) * a - A.fdiv (G : Int) * b) xs ys).take i).map V.int) rfl (fun _ _ _ _ _ h => h) ?_ ?_
      · rintro i x H1 acc hi e hy' hl' rfl ⟨T', x', y', rfl, hT', hx', hy2⟩
        obtain ⟨a, rfl, ha⟩ := int_at hx'
        obtain ⟨b, rfl, hb⟩ := int_at hy2
        have ba := bx a (List.mem_of_getElem? ha)
        have bb := bY b (List.mem_of_getElem? hb)
        have k3 : (2 : Nat) ^ 1490 < 2 ^ 3000 := Nat.pow_lt_pow_right (by decide) (by decide)
        refine ⟨T', _, rfl, SqT.of hT', rfl, ?_⟩
        refine ⟨_, _, rfl, _, _, rfl, rfl, rfl, ?_⟩
        have qM : (B.fdiv (G : Int)).natAbs < 2 ^ 3000 := by omega
        have qL : (A.fdiv (G : Int)).natAbs < 2 ^ 3000 := by omega
        have qa : a.natAbs < 2 ^ 3000 := by omega
        have qb : b.natAbs < 2 ^ 3000 := by omega
        refine ⟨_, rfl, _, rfl, _, a, rfl, rfl, mul_ok qM qa, _, rfl, _, rfl, _, b, rfl, rfl, mul_ok qL qb, _, _, rfl, rfl, LcP.push hD e hy' hl' (by rw [List.length_map] at hi; omega) ?_⟩
        rw [List.take_add_one, List.getElem?_zipWith, ha, hb, List.map_append]
        rfl
      · rintro H1 acc e hy' rfl
        rw [List.length_map, List.length_map, ← List.length_zipWith (f := fun a b : Int => B.fdiv (G : Int) * a - A.fdiv (G : Int) * b), List.take_length] at hy'
        refine ⟨.lst D, _, rfl, trivial, SqL.of hy', by rw [List.length_zipWith]; omega, fun z hz => ?_, fun H2 v e2 h2 => q H2 v (e.ex.trans e2) h2⟩
        obtain ⟨i, hi⟩ := List.mem_iff_getElem?.mp hz
        rw [List.getElem?_zipWith] at hi
        cases ha : xs[i]? with
        | none => rw [ha] at hi; cases hi
        | some a =>
          cases hb : ys[i]? with
          | none => rw [ha, hb] at hi; cases hi
          | some b =>
            rw [ha, hb] at hi
            cases hi
            have ba := bx a (List.mem_of_getElem? ha)
            have bb := bY b (List.mem_of_getElem? hb)
            have h1 : (B.fdiv (G : Int) * a).natAbs ≤ 2 ^ 1490 * 2 ^ 1490 := by rw [Int.natAbs_mul]; exact Nat.mul_le_mul (by omega) (by omega)
            have h2 : (A.fdiv (G : Int) * b).natAbs ≤ 2 ^ 1490 * 2 ^ 1490 := by rw [Int.natAbs_mul]; exact Nat.mul_le_mul (by omega) (by omega)
            have h3 : (2 : Nat) ^ 1490 * 2 ^ 1490 = 2 ^ 2980 := by rw [← Nat.pow_add]
            have h4 : (2 : Nat) ^ 2980 + 2 ^ 2980 ≤ 2 ^ 3000 := by
              have : (2 : Nat) ^ 2980 + 2 ^ 2980 = 2 ^ 2981 := by rw [Nat.pow_succ 2 2980]; omega
              rw [this]
              exact Nat.pow_le_pow_right (by decide) (by decide)
            omega
theorem strk_len {xs ys : List Int} (h : ys.length = xs.length) (p : Nat) : (strk xs ys p).length = xs.length := by
  unfold strk
  split
  · rfl
  · rw [prim_len, List.length_zipWith]
    omega
theorem strk_bd {xs ys : List Int} {p e : Nat} (lx : p < xs.length) (ly : p < ys.length) (bx : ∀ z ∈ xs, z.natAbs < 2 ^ e) (bY : ∀ z ∈ ys, z.natAbs < 2 ^ e) : ∀ z ∈ strk xs ys p, z.natAbs < 2 ^ (2 * e + 1) := by
  have mx := bx _ (getD_mem lx)
  have my := bY _ (getD_mem ly)
  have e2 : (2 : Nat) ^ (2 * e + 1) = 2 ^ e * 2 ^ e + 2 ^ e * 2 ^ e := by
    rw [Nat.pow_succ, Nat.two_mul, Nat.pow_add]
    omega
  have e1 : 2 ^ e ≤ 2 ^ (2 * e + 1) := Nat.pow_le_pow_right (by decide) (by omega)
  unfold strk
  split
  · intro z hz
    have := bx z hz
    omega
  · rename_i h0
    generalize xs.getD p 0 = A at mx h0 ⊢
    generalize ys.getD p 0 = B at my ⊢
    generalize hG : A.natAbs.gcd B.natAbs = G
    have g0 : 0 < G := by
      rw [← hG]
      exact Nat.gcd_pos_of_pos_left _ (by omega)
    have dA := fdiv_le g0 (a := A) (Int.natAbs_dvd_natAbs.mp (by rw [← hG]; exact Nat.gcd_dvd_left _ _))
    have dB := fdiv_le g0 (a := B) (Int.natAbs_dvd_natAbs.mp (by rw [← hG]; exact Nat.gcd_dvd_right _ _))
    generalize A.fdiv (G : Int) = L at dA ⊢
    generalize B.fdiv (G : Int) = M at dB ⊢
    have pos : 0 < 2 ^ e := Nat.pow_pos (by decide)
    have key : ∀ z ∈ List.zipWith (fun a b => M * a - L * b) xs ys, z.natAbs ≤ 2 ^ (2 * e + 1) - 1 := by
      intro z hz
      obtain ⟨i, hi⟩ := List.mem_iff_getElem?.mp hz
      rw [List.getElem?_zipWith] at hi
      cases ha : xs[i]? with
      | none => rw [ha] at hi; cases hi
      | some a =>
        cases hb : ys[i]? with
        | none => rw [ha, hb] at hi; cases hi
        | some b =>
          rw [ha, hb] at hi
          cases hi
          have ba := bx a (List.mem_of_getElem? ha)
          have bb := bY b (List.mem_of_getElem? hb)
          have h1 : (M * a).natAbs ≤ (2 ^ e - 1) * (2 ^ e - 1) := by rw [Int.natAbs_mul]; exact Nat.mul_le_mul (by omega) (by omega)
          have h2 : (L * b).natAbs ≤ (2 ^ e - 1) * (2 ^ e - 1) := by rw [Int.natAbs_mul]; exact Nat.mul_le_mul (by omega) (by omega)
          have h3 : (2 ^ e - 1) * (2 ^ e - 1) + 1 ≤ 2 ^ e * 2 ^ e := by
            have : (2 ^ e - 1) * (2 ^ e - 1) < 2 ^ e * 2 ^ e := Nat.mul_lt_mul'' (by omega) (by omega)
            exact this
          generalize (2 ^ e - 1) * (2 ^ e - 1) = W at h1 h2 h3
          generalize 2 ^ e * 2 ^ e = V at e2 h3
          omega
    intro z hz
    have := prim_bd key z hz
    have pos2 : 0 < 2 ^ (2 * e + 1) := Nat.pow_pos (by decide)
    omega
/-! ### the echelon form, mirrored -/
def eStep (p : Nat) (st : List (Nat × List Int) × List (List Int)) : List (Nat × List Int) × List (List Int) :=
  match st.2.findIdx? (fz p) with
  | none => st
  | some i => (st.1.map (fun x => (x.1, strk x.2 (st.2.getD i []) p)) ++ [(p, st.2.getD i [])], (st.2.eraseIdx i).map fun x => strk x (st.2.getD i []) p)
theorem eStep_none {p : Nat} {st : List (Nat × List Int) × List (List Int)} (h : st.2.findIdx? (fz p) = none) : eStep p st = st := by
  unfold eStep
  rw [h]
theorem eStep_some {p i : Nat} {st : List (Nat × List Int) × List (List Int)} (h : st.2.findIdx? (fz p) = some i) : eStep p st = (st.1.map (fun x => (x.1, strk x.2 (st.2.getD i []) p)) ++ [(p, st.2.getD i [])], (st.2.eraseIdx i).map fun x => strk x (st.2.getD i []) p) := by
  unfold eStep
  rw [h]
def echN (zss : List (List Int)) : Nat → List (Nat × List Int) × List (List Int)
  | 0 => ([], zss.map prim)
  | i + 1 => eStep i (echN zss i)
/-- rows of the width w, below 2 ^ e, m of them in all -/
def EOk (w e m : Nat) (st : List (Nat × List Int) × List (List Int)) : Prop :=
  (∀ x ∈ st.1, x.2.length = w ∧ ∀ z ∈ x.2, z.natAbs < 2 ^ e) ∧ (∀ x ∈ st.2, x.length = w ∧ ∀ z ∈ x, z.natAbs < 2 ^ e) ∧ st.1.length + st.2.length = m
theorem EOk.step {w e m p : Nat} {st : List (Nat × List Int) × List (List Int)} (h : EOk w e m st) (hp : p < w) : EOk w (2 * e + 1) m (eStep p st) := by
  obtain ⟨h1, h2, h3⟩ := h
  have up : ∀ {z : Int}, z.natAbs < 2 ^ e → z.natAbs < 2 ^ (2 * e + 1) := fun h => Nat.lt_of_lt_of_le h (Nat.pow_le_pow_right (by decide) (by omega))
  cases hf : st.2.findIdx? (fz p) with
  | none => rw [eStep_none hf]; exact ⟨fun x hx => ⟨(h1 x hx).1, fun z hz => up ((h1 x hx).2 z hz)⟩, fun x hx => ⟨(h2 x hx).1, fun z hz => up ((h2 x hx).2 z hz)⟩, h3⟩
  | some i =>
    rw [eStep_some hf]
    have hi : i < st.2.length := (List.findIdx?_eq_some_iff_getElem.mp hf).1
    have hm : st.2.getD i [] ∈ st.2 := by
      rw [List.getD_eq_getElem?_getD, List.getElem?_eq_getElem hi]
      exact List.getElem_mem hi
    generalize st.2.getD i [] = b at hm
    obtain ⟨b1, b2⟩ := h2 b hm
    refine ⟨fun x hx => ?_, fun x hx => ?_, ?_⟩
    · rcases List.mem_append.mp hx with h | h
      · obtain ⟨y, hy, rfl⟩ := List.mem_map.mp h
        obtain ⟨y1, y2⟩ := h1 y hy
        exact ⟨(strk_len (by rw [b1, y1]) p).trans y1, strk_bd (by rw [y1]; exact hp) (by rw [b1]; exact hp) y2 b2⟩
      · rw [List.mem_singleton.mp h]
        exact ⟨b1, fun z hz => up (b2 z hz)⟩
    · obtain ⟨y, hy, rfl⟩ := List.mem_map.mp hx
      obtain ⟨y1, y2⟩ := h2 y (List.mem_of_mem_eraseIdx hy)
      exact ⟨(strk_len (by rw [b1, y1]) p).trans y1, strk_bd (by rw [y1]; exact hp) (by rw [b1]; exact hp) y2 b2⟩
    · show (st.1.map _ ++ [_]).length + ((st.2.eraseIdx i).map _).length = m
      rw [List.length_append, List.length_map, List.length_map, List.length_eraseIdx, if_pos hi]
      show st.1.length + 1 + (st.2.length - 1) = m
      omega
theorem echN_ok {w e : Nat} {zss : List (List Int)} (hl : ∀ zs ∈ zss, zs.length = w) (hb : ∀ zs ∈ zss, ∀ z ∈ zs, z.natAbs < 2 ^ e) : ∀ i, i ≤ w → EOk w ((e + 1) * 2 ^ i - 1) zss.length (echN zss i)
  | 0, _ => by
    refine ⟨fun x hx => absurd hx List.not_mem_nil, fun x hx => ?_, by show 0 + (zss.map prim).length = _; rw [List.length_map, Nat.zero_add]⟩
    obtain ⟨y, hy, rfl⟩ := List.mem_map.mp hx
    refine ⟨(prim_len y).trans (hl y hy), fun z hz => ?_⟩
    have pos : 0 < 2 ^ e := Nat.pow_pos (by decide)
    have := prim_bd (zs := y) (B := 2 ^ e - 1) (fun z hz => by have := hb y hy z hz; omega) z hz
    rw [Nat.pow_zero, Nat.mul_one, Nat.add_sub_cancel]
    omega
  | i + 1, h => by
    have ih := (echN_ok hl hb i (by omega)).step (p := i) (by omega)
    have e1 : 2 * ((e + 1) * 2 ^ i - 1) + 1 = (e + 1) * 2 ^ (i + 1) - 1 := by
      have : 0 < (e + 1) * 2 ^ i := Nat.mul_pos (by omega) (Nat.pow_pos (by decide))
      rw [Nat.pow_succ, ← Nat.mul_assoc]
      omega
    rw [e1] at ih
    exact ih
theorem none_ex {H H' : Hp} {p : Addr} (e : Ex H H') (h : H' p = none) : H p = none := by
  cases z : H p with
  | none => rfl
  | some o => exact absurd (h.symm.trans (e _ _ z)) (by simp)
def PairR (K : PySem.W.Frag) (H : Hp) (v : V) (x : Nat × List Int) : Prop := ∃ t u, v = .ref t ∧ SqT K H t [.int (x.1 : Nat), u] ∧ PlV K H u x.2
theorem PairR.mono {K : PySem.W.Frag} {H H' : Hp} {v : V} {x : Nat × List Int} (e : Ex H H') (h : PairR K H v x) : PairR K H' v x :=
  have ⟨t, u, h1, h2, h3⟩ := h
  ⟨t, u, h1, ex_t e h2, h3.mono e⟩
theorem pairR_upd {K : PySem.W.Frag} {H : Hp} {v : V} {x : Nat × List Int} {D : Addr} {ys : List V} {o : HO} (h : PairR K H v x) (hD : H D = some (.lst ys)) : PairR K (upd H D o) v x :=
  have ⟨t, u, h1, h2, h3⟩ := h
  ⟨t, u, h1, sqt_upd h2 hD, plv_upd h3 hD⟩
theorem erase_take {α : Type} {xs : List α} {i j : Nat} {x : α} (h : xs[i]? = some x) : (xs.take (i + 1)).eraseIdx j = if i = j then (xs.take i).eraseIdx j else (xs.take i).eraseIdx j ++ [x] := by
  have hi := (List.getElem?_eq_some_iff.mp h).1
  have hl : (xs.take i).length = i := by rw [List.length_take]; omega
  rw [List.take_add_one, h]
  show (xs.take i ++ [x]).eraseIdx j = _
  by_cases e : i = j
  · subst e
    rw [if_pos rfl, List.eraseIdx_append_of_length_le (l := xs.take i) (k := i) (by omega), hl, Nat.sub_self, List.eraseIdx_of_length_le (l := xs.take i) (k := i) (by omega)]
    simp
  · rw [if_neg e]
    by_cases lt : j < i
    · rw [List.eraseIdx_append_of_lt_length (l := xs.take i) (k := j) (by omega)]
    · rw [List.eraseIdx_of_length_le (l := xs.take i ++ [x]) (k := j) (by rw [List.length_append, hl]; show i + 1 ≤ j; omega), List.eraseIdx_of_length_le (l := xs.take i) (k := j) (by omega)]
def sp_whole_echelon (K : PySem.W.Frag) : Sp := fun vs H Q _ => ∃ (r : Addr) (wd e : Nat) (us : List V) (zss : List (List Int)), vs = [.int wd, .ref r] ∧ SqL K H r us ∧ All2 (PlV K H) us zss ∧ zss.length ≤ 500 ∧ wd ≤ 500 ∧ (e + 1) * 2 ^ wd ≤ 1491 ∧ (∀ zs ∈ zss, zs.length = wd) ∧ (∀ zs ∈ zss, ∀ z ∈ zs, z.natAbs < 2 ^ e) ∧
  ∀ H' l us', Ex H H' → H' l = some (.lst us') → All2 (PairR K H') us' (echN zss wd).1 → Q (.ref l) H'
theorem ok_whole_echelon (T : Txt K w mg ad fd) : Cal P w K mg base CX0 4 "whole_echelon" (ad 12) (fd 12) ["width", "rows"] [] [] (sp_whole_echelon K) := by
  refine ⟨T.f_whole_echelon.ok sc_whole_echelon (fun vs H Q E h => ?_) (fun cdv A outer s H vs Q E hr h => ?_), T.g_whole_echelon, T.f_whole_echelon.kp, T.f_whole_echelon.binds (ps := ["width", "rows"]) fun _ _ _ _ _ _ us hl => match us, hl with | [_, _], _ => rfl, .nil⟩
  · obtain ⟨r, wd, e, us, zss, rfl, _⟩ := h
    rfl
  · obtain ⟨r, wd, e, us, zss, rfl, hL, hz, hm, hw, he, hlen, hbd, q⟩ := h
    have sz : sizeLine = 16777216 := sizeLine_eq
    have p0 : 1 ≤ 2 ^ wd := Nat.pow_pos (by decide)
    have e9 : e ≤ 1490 := by
      have : (e + 1) * 1 ≤ (e + 1) * 2 ^ wd := Nat.mul_le_mul_left _ p0
      omega
    refine ⟨_, (pss_cons (ps_set (i := 2) sc_whole_echelon.nd rfl (by first | exact Or.inl rfl | exact Or.inr rfl) (pe_lst pa_nil))
    (pss_cons (ps_setLc (i := 3) (own := [("row", 4)]) rfl sc_whole_echelon.nd rfl rfl (sw_true rfl rfl rfl (by decide +kernel)) (pi_list (pv 1)) (blkOk_by (N := ["width", "rows", "done", "left", "row", "place", "at", "by", "pivot", "k"]) (sc := defScope s_whole_echelon) (by decide +kernel)) (fun _ _ _ _ _ => (pg_name (i := 4) sc_whole_echelon.nd rfl (by first | exact Or.inl rfl | exact Or.inr rfl))) (fun _ _ _ _ _ => pts_nil) (fun _ _ _ _ _ => (pe_cal (ok_primitive T (P := P) (w := w) (base := base)) (hr.mono (by decide)) pass0 (pa_cons (pv 4) pa_nil))))
    (pss_cons (ps_for (by first | exact PassesOwn.never | exact passes_of rfl) rfl (pi_range1 rfl T.m_range (pa_cons (pv 0) pa_nil)) (pg_name (i := 5) sc_whole_echelon.nd rfl (by first | exact Or.inl rfl | exact Or.inr rfl))
      (pss_cons (ps_set (i := 6) sc_whole_echelon.nd rfl (by first | exact Or.inl rfl | exact Or.inr rfl) (pe_cal (ok_first_row_with T (P := P) (w := w) (base := base)) (hr.mono (by decide)) pass0 (pa_cons (pv 3) (pa_cons (pv 5) pa_nil))))
    (pss_one (ps_if (pt_cmpR op_notN (pv 6) pe_non (nomark _)) (pss_cons (ps_set (i := 7) sc_whole_echelon.nd rfl (by first | exact Or.inl rfl | exact Or.inr rfl) (pe_ix (ix_listK (K := K)) (pv 3) (pv 6) (fun _ _ => rfl)))
    (pss_cons (ps_setLc (i := 2) (own := [("pivot", 8), ("row", 4)]) (g := gTup K 2 (gCons (gName 8) (gCons (gName 4) gNil))) rfl sc_whole_echelon.nd rfl rfl (sw_true rfl rfl rfl (by decide +kernel)) (pi_list (pv 2)) (blkOk_by (N := ["width", "rows", "done", "left", "row", "place", "at", "by", "pivot", "k"]) (sc := defScope s_whole_echelon) (by decide +kernel)) (fun _ _ _ _ _ => (pg_tup (n := 2) rfl (pgs_cons (pg_name (i := 8) sc_whole_echelon.nd rfl (by first | exact Or.inl rfl | exact Or.inr rfl)) (pgs_cons (pg_name (i := 4) sc_whole_echelon.nd rfl (by first | exact Or.inl rfl | exact Or.inr rfl)) pgs_nil)))) (fun _ _ _ _ _ => pts_nil) (fun _ _ _ _ _ => (pe_tup (pa_cons (pv 8) (pa_cons (pe_cal (ok_struck T (P := P) (w := w) (base := base)) (hr.mono (by decide)) pass0 (pa_cons (pv 4) (pa_cons (pv 7) (pa_cons (pv 5) pa_nil)))) pa_nil)))))
    (pss_cons (ps_expr (pe_bm PySem.F.plainAttrs_list PySem.F.slot_list_append PySem.F.type_list_append mt_append (pv 2) (pa_cons (pe_tup (pa_cons (pv 5) (pa_cons (pv 7) pa_nil))) pa_nil)))
    (pss_one (ps_setLc (i := 3) (own := [("k", 9), ("row", 4)]) (g := gTup K 2 (gCons (gName 9) (gCons (gName 4) gNil))) rfl sc_whole_echelon.nd rfl rfl (sw_true rfl rfl rfl (by decide +kernel)) (pi_enumS (by rfl) T.m_enumerate (pa_cons (pv 3) pa_nil)) (blkOk_by (N := ["width", "rows", "done", "left", "row", "place", "at", "by", "pivot", "k"]) (sc := defScope s_whole_echelon) (by decide +kernel)) (fun _ _ _ _ _ => (pg_tup (n := 2) rfl (pgs_cons (pg_name (i := 9) sc_whole_echelon.nd rfl (by first | exact Or.inl rfl | exact Or.inr rfl)) (pgs_cons (pg_name (i := 4) sc_whole_echelon.nd rfl (by first | exact Or.inl rfl | exact Or.inr rfl)) pgs_nil)))) (fun _ _ _ _ _ => (pts_one (pt_cmpR op_ne (pv 9) (pv 6) (nomark _)))) (fun _ _ _ _ _ => (pe_cal (ok_struck T (P := P) (w := w) (base := base)) (hr.mono (by decide)) pass0 (pa_cons (pv 4) (pa_cons (pv 7) (pa_cons (pv 5) pa_nil)))))))))) pss_nil))))
    (pss_one (ps_ret (pv 2)))))), ?_⟩
    refine ⟨Nat.zero_le _, fun Dn hDn => ?_⟩
    have e0 := Ex.new (o := .lst []) hDn
    have hD0 : (upd H Dn (.lst [])) Dn = some (.lst []) := upd_same
    generalize upd H Dn (.lst []) = H0 at e0 hD0 ⊢
    refine ⟨.ref r, rfl, r, rfl, ⟨_, ex_l e0 hL⟩, fun Lf hLf => ?_⟩
    refine lc_acc (l := none) (wk_list (K := K) (fun z => nomatch z) (ex_l e0 hL)) hLf (fun i acc H' => All2 (PlV K H') acc ((zss.map prim).take i)) .nil (fun _ _ _ _ e h => h.imp fun _ _ h => h.mono e) ?_ ?_
    · rintro i x H1 acc hi ex hy hl' ha hx
      obtain ⟨zs, hzs, p1, rfl, hp1⟩ := hz.get hx
      have hzm := List.mem_of_getElem? hzs
      refine ⟨rfl, ?_⟩
      refine ⟨_, rfl, .tup p1, zs, rfl, trivial, ex_t (e0.trans ex.ex) hp1, by rw [hlen zs hzm]; omega, fun z hz' => ?_, fun H2 v e2 h2 => ?_⟩
      · exact Nat.le_of_lt (Nat.lt_of_lt_of_le (hbd zs hzm z hz') (Nat.pow_le_pow_right (by decide) (by omega)))
      · refine LcP.push hLf (ex.trans (Exo.of e2)) (e2 _ _ hy) hl' (by have := hz.1; omega) ?_
        rw [List.take_add_one, List.getElem?_map, hzs]
        exact (ha.imp fun _ _ h => plv_upd (h.mono e2) (e2 _ _ hy)).app (.cons (plv_upd h2 (e2 _ _ hy)) .nil)
    rintro H1 ws0 e1 hy1 ha1
    have e1 := e1.ex
    rw [hz.1, ← List.length_map (f := prim), List.take_length] at ha1
    have ok := fun i hi => echN_ok (w := wd) (e := e) hlen hbd i hi
    change Ends.nx _ _ _
    dsimp only
    refine ⟨_, rfl, wd, rfl, by omega, by omega, for_range (lo := 0) (n := wd) (fun i σ H' => ∃ (Da La : Addr) (us' ws : List V) (c5 c6 c7 : Option V), σ = [some (.int wd), some (.ref r), some (.ref Da), some (.ref La), none, c5, c6, c7, none, none] ∧ Ex H H' ∧ H' Da = some (.lst us') ∧ All2 (PairR K H') us' (echN zss i).1 ∧ H' La = some (.lst ws) ∧ All2 (PlV K H') ws (echN zss i).2)
      ⟨Dn, Lf, [], ws0, none, none, none, rfl, e0.trans e1, e1 _ _ hD0, .nil, hy1, ha1⟩ ?_ ?_⟩
    · rintro i σ H2 hi ⟨Da, La, us', ws, c5, c6, c7, rfl, e2, hDa, hza, hLa, hzl⟩
      obtain ⟨o1, o2, o3⟩ := ok i (by omega)
      have hei : (e + 1) * 2 ^ i - 1 ≤ 1490 := by
        have : (e + 1) * 2 ^ i ≤ (e + 1) * 2 ^ wd := Nat.mul_le_mul_left _ (Nat.pow_le_pow_right (by decide) (by omega))
        omega
      generalize (e + 1) * 2 ^ i - 1 = ei at o1 o2 hei
      have hst : echN zss (i + 1) = eStep i (echN zss i) := rfl
      rw [hst]
      generalize echN zss i = st at o1 o2 o3 hza hzl ⊢
      have ei0 : (0 + (i : Int)) = (i : Int) := by omega
      rw [ei0]
      refine ⟨_, rfl, _, rfl, La, i, ws, st.2, rfl, SqL.of hLa, hzl, by omega, fun zs hzs => by rw [(o2 zs hzs).1]; exact hi, fun H3 e3 => ⟨fun j hj => ?_, fun hn => ?_⟩⟩
      · rw [eStep_some hj]
        have hjl : j < st.2.length := (List.findIdx?_eq_some_iff_getElem.mp hj).1
        have hnn : (!decide (V.int (j : Nat) = V.non)) = true := by simp
        refine ⟨_, rfl, rfl, _, rfl, ?_⟩
        rw [hnn]
        refine iteT ?_
        have hz3 := hzl.imp fun _ _ h => h.mono e3
        have hza3 := hza.imp fun _ _ h => h.mono e3
        have hD3 := e3 _ _ hDa
        have hL3 := e3 _ _ hLa
        obtain ⟨u, hu⟩ : ∃ u, ws[j]? = some u := ⟨_, List.getElem?_eq_getElem (by rw [hz3.1]; exact hjl)⟩
        obtain ⟨b, hb, hpb⟩ := hz3.get hu
        have hgb : st.2.getD j [] = b := by rw [List.getD_eq_getElem?_getD, hb]; rfl
        rw [hgb]
        obtain ⟨b1, b2⟩ := o2 b (List.mem_of_getElem? hb)
        refine ⟨_, rfl, _, rfl, La, ws, j, u, rfl, rfl, SqL.of hL3, atI_nat hu, ?_⟩
        -- done, struck
        refine ⟨_, rfl, Da, rfl, ⟨_, SqL.of hD3⟩, fun D4 hD4 => ?_⟩
        refine lc_acc (l := none) (wk_list (K := K) (fun z => nomatch z) (SqL.of hD3)) hD4 (fun k acc H' => All2 (PairR K H') acc ((st.1.map fun x : Nat × List Int => ((x.1, strk x.2 b i) : Nat × List Int)).take k)) .nil (fun _ _ _ _ e h => h.imp fun _ _ h => h.mono e) ?_ ?_
        · rintro k x H5 acc hk e5 hy hl' ha hx
          obtain ⟨⟨pp, row⟩, hxs, t, v, rfl, ht, hv⟩ := hza3.get hx
          obtain ⟨y1, y2⟩ := o1 _ (List.mem_of_getElem? hxs)
          have y1 : row.length = wd := y1
          refine ⟨t, _, rfl, ex_t e5.ex ht, rfl, ?_⟩
          refine ⟨_, _, rfl, _, _, rfl, rfl, rfl, ?_⟩
          refine ⟨_, rfl, _, rfl, _, rfl, _, rfl, v, u, i, ei, row, b, rfl, hv.mono e5.ex, hpb.mono e5.ex, by omega, by omega, by omega, by omega, hei, y2, b2, fun H6 v6 e6 h6 => ⟨by show (2 : Nat) ≤ sizeLine; omega, fun t6 ht6 => ?_⟩⟩
          have e7 := Ex.new (o := .tup [.int (pp : Nat), v6]) ht6
          have hy7 := e7 _ _ (e6 _ _ hy)
          refine LcP.push hD4 (e5.trans (Exo.of (e6.trans e7))) hy7 hl' (by have := hza.1; omega) ?_
          rw [List.take_add_one, List.getElem?_map, hxs]
          exact (ha.imp fun _ _ h => pairR_upd (h.mono (e6.trans e7)) hy7).app (.cons (pairR_upd ⟨t6, v6, rfl, SqT.of upd_same, h6.mono e7⟩ hy7) .nil)
        rintro H5 ac5 e5 hy5 ha5
        have e5 := e5.ex
        rw [hza.1, ← List.length_map (f := fun x : Nat × List Int => (x.1, strk x.2 b i)), List.take_length] at ha5
        change Ends.nx _ _ _
        dsimp only
        -- append
        have hD50 : H D4 = none := none_ex (e2.trans e3) hD4
        refine ⟨_, rfl, .inl ⟨rfl, _, SqL.of hy5⟩, ?_⟩
        refine ⟨_, rfl, _, rfl, by show (2 : Nat) ≤ sizeLine; omega, fun t6 ht6 => ?_⟩
        have e6 := Ex.new (o := .tup [.int (i : Nat), u]) ht6
        have hy6 := e6 _ _ hy5
        have l5 : ac5.length = st.1.length := by rw [ha5.1, List.length_map]
        refine ⟨D4, ac5, .ref t6, rfl, rfl, hy6, by omega, ?_⟩
        have e36 := (e2.trans e3).trans (e5.trans e6)
        have e7 := Ex.mut e36 hD50 (o := .lst (ac5 ++ [.ref t6]))
        have h8a : All2 (PairR K (upd (upd H5 t6 (.tup [.int (i : Nat), u])) D4 (.lst (ac5 ++ [.ref t6])))) (ac5 ++ [.ref t6]) (st.1.map (fun x => (x.1, strk x.2 b i)) ++ [(i, b)]) :=
          (ha5.imp fun _ _ h => pairR_upd (h.mono e6) hy6).app (.cons (pairR_upd ⟨t6, u, rfl, SqT.of upd_same, hpb.mono (e5.trans e6)⟩ hy6) .nil)
        have hL7 : (upd (upd H5 t6 (.tup [.int (i : Nat), u])) D4 (.lst (ac5 ++ [.ref t6]))) La = some (.lst ws) := by
          rw [upd_ne (ne_of_none hL3 hD4)]
          exact (e5.trans e6) _ _ hL3
        have hz7 := hz3.imp fun _ _ h => plv_upd (o := .lst (ac5 ++ [.ref t6])) (h.mono (e5.trans e6)) hy6
        have hb7 := plv_upd (o := .lst (ac5 ++ [.ref t6])) (hpb.mono (e5.trans e6)) hy6
        have hD7 : (upd (upd H5 t6 (.tup [.int (i : Nat), u])) D4 (.lst (ac5 ++ [.ref t6]))) D4 = some (.lst (ac5 ++ [.ref t6])) := upd_same
        generalize upd (upd H5 t6 (.tup [.int (i : Nat), u])) D4 (.lst (ac5 ++ [.ref t6])) = H7 at e7 h8a hL7 hz7 hb7 hD7 ⊢
        -- left, struck
        refine ⟨_, rfl, .lst La, ws, rfl, SqL.of hL7, fun D8 hD8 => ?_⟩
        refine lc_acc (l := none) (wk_enum (S := .lst La) (fun z => nomatch z) (SqL.of hL7)) hD8 (fun k acc H' => All2 (PlV K H') acc (((st.2.take k).eraseIdx j).map fun x => strk x b i)) (by simp; exact .nil) (fun _ _ _ _ e h => h.imp fun _ _ h => h.mono e) ?_ ?_
        · rintro k x H9 acc hk e9 hy hl' ha ⟨t, v, rfl, ht, hx⟩
          obtain ⟨row, hrow, hv⟩ := hz7.get hx
          obtain ⟨y1, y2⟩ := o2 _ (List.mem_of_getElem? hrow)
          refine ⟨t, _, rfl, SqT.of ht, rfl, ?_⟩
          refine ⟨_, _, rfl, _, _, rfl, rfl, rfl, ?_⟩
          refine ⟨_, rfl, _, rfl, rfl, _, rfl, ?_⟩
          have hkj : decide (V.int ((k : Nat) : Int) = V.int ((j : Nat) : Int)) = decide (k = j) := by
            by_cases h : k = j
            · rw [h, decide_eq_true rfl, decide_eq_true rfl]
            · rw [decide_eq_false h, decide_eq_false (fun e => h (by have := V.int.inj e; omega))]
          rw [hkj]
          have het := erase_take (j := j) hrow
          by_cases hkj2 : k = j
          · rw [decide_eq_true hkj2]
            refine iteF (LcP.skip e9 hy hl' ?_)
            rw [het, if_pos hkj2]
            exact ha
          · rw [decide_eq_false hkj2]
            refine iteT ⟨_, rfl, _, rfl, _, rfl, v, u, i, ei, row, b, rfl, hv.mono e9.ex, hb7.mono e9.ex, by omega, by omega, by omega, by omega, hei, y2, b2, fun H6 v6 e6 h6 => ?_⟩
            have hy6 := e6 _ _ hy
            refine LcP.push hD8 (e9.trans (Exo.of e6)) hy6 hl' (by have := hz7.1; omega) ?_
            rw [het, if_neg hkj2, List.map_append]
            exact (ha.imp fun _ _ h => plv_upd (h.mono e6) hy6).app (.cons (plv_upd h6 hy6) .nil)
        · rintro H9 ac9 e9 hy9 ha9
          have e9 := e9.ex
          rw [hz7.1, List.take_length] at ha9
          exact ⟨D4, D8, _, ac9, _, _, _, rfl, e7.trans e9, e9 _ _ hD7, h8a.imp fun _ _ h => h.mono e9, hy9, ha9⟩
      · rw [eStep_none hn]
        have hnn : (!decide (V.non = V.non)) = false := by simp
        refine ⟨_, rfl, rfl, _, rfl, ?_⟩
        rw [hnn]
        exact iteF ⟨Da, La, us', ws, _, _, _, rfl, e2.trans e3, e3 _ _ hDa, hza.imp fun _ _ h => h.mono e3, e3 _ _ hLa, hzl.imp fun _ _ h => h.mono e3⟩
    · rintro σ H2 ⟨Da, La, us', ws, c5, c6, c7, rfl, e2, hDa, hza, hLa, hzl⟩
      exact ⟨_, rfl, q H2 Da us' e2 hDa hza⟩
/-! ### lists of planes: what is refused -/
def okTo (n i : Nat) (zss : List (List Int)) : Prop := (∀ (j : Nat) (a : List Int), j < i → zss[j]? = some a → Pl n a) ∧ ∀ (j k : Nat) (a b : List Int), j < k → k < i → zss[j]? = some a → zss[k]? = some b → b ≠ a ∧ b ≠ neg a
theorem okTo.all {n : Nat} {zss : List (List Int)} (h : okTo n zss.length zss) (hl : zss.length ≤ 12) : PlanesOk n zss :=
  ⟨hl, fun a ha => by
    obtain ⟨i, hi⟩ := List.mem_iff_getElem?.mp ha
    exact h.1 i a (List.getElem?_eq_some_iff.mp hi).1 hi, fun i j a b hij ha hb => h.2 i j a b hij (List.getElem?_eq_some_iff.mp hb).1 ha hb⟩
theorem okTo.step {n i : Nat} {zss : List (List Int)} {zs : List Int} (h : okTo n i zss) (hz : zss[i]? = some zs) (hp : Pl n zs) (hn : zs ∉ both (zss.take i)) : okTo n (i + 1) zss := by
  refine ⟨fun j a hj ha => ?_, fun j k a b hjk hk ha hb => ?_⟩
  · by_cases hji : j < i
    · exact h.1 j a hji ha
    · have : j = i := by omega
      subst this
      rw [hz] at ha
      cases ha
      exact hp
  · by_cases hki : k < i
    · exact h.2 j k a b hjk hki ha hb
    · have : k = i := by omega
      subst this
      rw [hz] at hb
      cases hb
      have hm : a ∈ zss.take k := List.mem_iff_getElem?.mpr ⟨j, by rw [List.getElem?_take, if_pos hjk]; exact ha⟩
      exact ⟨fun e => hn (List.mem_flatMap.mpr ⟨a, hm, by rw [e]; simp⟩), fun e => hn (List.mem_flatMap.mpr ⟨a, hm, by rw [e]; simp⟩)⟩
def sp_check_planes (K : PySem.W.Frag) (cB cP : Addr) : Sp := fun vs H Q E => ∃ (i : Int) (r : Addr) (us : List V) (zss : List (List Int)), vs = [.int i, .ref r] ∧ SqL K H r us ∧ All2 (PlV K H) us zss ∧ zss.length ≤ 1000 ∧ (∀ zs ∈ zss, zs.length ≤ 1000) ∧ (¬ (1 ≤ i ∧ i ≤ 4) → ∀ H', Ex H H' → E (.ref cB) none H') ∧
  ∀ n : Nat, i = n → 1 ≤ n → n ≤ 4 → (PlanesOk n zss → ∀ H', Ex H H' → Q .non H') ∧ (¬ PlanesOk n zss → ∀ H', Ex H H' → E (.ref cP) none H')
theorem ok_check_planes (T : Txt K w mg ad fd) : Cal P w K mg base (L2N.CX P w) 3 "check_planes" (ad 19) (fd 19) ["n", "rows"] [] [] (sp_check_planes K (ad 4) (ad 3)) := by
  refine ⟨T.f_check_planes.okXN sc_check_planes (fun vs H Q E h => ?_) (fun cdv A outer s H vs Q E hr h => ?_), T.g_check_planes, T.f_check_planes.kp, T.f_check_planes.binds (ps := ["n", "rows"]) fun _ _ _ _ _ _ us hl => match us, hl with | [_, _], _ => rfl, .nil⟩
  · obtain ⟨i0, r, us, zss, rfl, _⟩ := h
    rfl
  · obtain ⟨i0, r, us, zss, rfl, hL, hz, hm, hlen, qB, qn⟩ := h
    obtain ⟨_, g_MOST_PLANES⟩ := T.v_MOST_PLANES
    have sz : sizeLine = 16777216 := sizeLine_eq
    refine ⟨_, (pss_cons (ps_expr (pe_cal (ok_check_letters T (P := P) (w := w) (base := base)) (hr.mono (by decide)) (L2N.passes_call (L2N.takes_of rfl rfl rfl rfl) fun _ _ _ _ h => h) (pa_cons (pv 0) pa_nil)))
    (pss_cons (ps_if (pt_cmpR op_gt (pe_callB call_len_seq (by rfl) T.m_len PySem.boot_len (pa_cons (pv 1) pa_nil)) (pe_glob (v := .int 12) rfl g_MOST_PLANES ⟨_, rfl⟩) (nomark _)) (pss_one (L2N.ps_raise rfl (L2N.takes_of rfl rfl rfl rfl) (L2N.pmk_own PySem.F.excBase_ValueError T.x_NotPlanes T.g_NotPlanes T.k_NotPlanes (raises_own T.s_NotPlanes T.t_NotPlanes) rfl))) pss_nil)
    (pss_cons (ps_set (i := 2) sc_check_planes.nd rfl (by first | exact Or.inl rfl | exact Or.inr rfl) (pe_lst pa_nil))
    (pss_one (ps_for (by first | exact PassesOwn.never | exact passes_of rfl) rfl (pi_list (pv 1)) (pg_name (i := 3) sc_check_planes.nd rfl (by first | exact Or.inl rfl | exact Or.inr rfl))
      (pss_cons (ps_if (pt_not (pt_val (pe_cal (ok_is_plane T (P := P) (w := w) (base := base)) (hr.mono (by decide)) (L2N.passes_call (L2N.takes_of rfl rfl rfl rfl) fun _ _ _ _ h => h) (pa_cons (pv 0) (pa_cons (pv 3) pa_nil))))) (pss_one (L2N.ps_raise rfl (L2N.takes_of rfl rfl rfl rfl) (L2N.pmk_own PySem.F.excBase_ValueError T.x_NotPlanes T.g_NotPlanes T.k_NotPlanes (raises_own T.s_NotPlanes T.t_NotPlanes) rfl))) pss_nil)
    (pss_cons (ps_if (pt_cmpR (op_inD (hu65 hr)) (pv 3) (pv 2) (by rfl)) (pss_one (L2N.ps_raise rfl (L2N.takes_of rfl rfl rfl rfl) (L2N.pmk_own PySem.F.excBase_ValueError T.x_NotPlanes T.g_NotPlanes T.k_NotPlanes (raises_own T.s_NotPlanes T.t_NotPlanes) rfl))) pss_nil)
    (pss_cons (ps_expr (pe_bm PySem.F.plainAttrs_list PySem.F.slot_list_append PySem.F.type_list_append mt_append (pv 2) (pa_cons (pv 3) pa_nil)))
    (pss_one (ps_expr (pe_bm PySem.F.plainAttrs_list PySem.F.slot_list_append PySem.F.type_list_append mt_append (pv 2) (pa_cons (pe_cal (ok_negated T (P := P) (w := w) (base := base)) (hr.mono (by decide)) pass0 (pa_cons (pv 3) pa_nil)) pa_nil)))))))))))), ?_⟩
    refine ⟨_, rfl, i0, rfl, fun hn H1 e1 => ?_, fun hn H1 e1 => qB hn H1 e1⟩
    obtain ⟨n, rfl⟩ : ∃ n : Nat, i0 = (n : Int) := ⟨i0.toNat, by omega⟩
    have n1 : 1 ≤ n := by omega
    have n4 : n ≤ 4 := by omega
    obtain ⟨qY, qN⟩ := qn n rfl n1 n4
    refine ⟨_, rfl, r, _, rfl, .inl (ex_l e1 hL), _, _, rfl, rfl, _, rfl, ?_⟩
    rw [hz.1]
    by_cases h12 : 12 < zss.length
    · rw [decide_eq_true (show (12 : Int) < (zss.length : Int) by omega)]
      exact iteT (qN (fun h => by have := h.1; omega) H1 e1)
    rw [decide_eq_false (show ¬ (12 : Int) < (zss.length : Int) by omega)]
    refine iteF ?_
    refine ⟨by show (0 : Nat) ≤ sizeLine; omega, fun b hb => ?_⟩
    refine ⟨_, rfl, r, rfl, ⟨_, ex_l (e1.trans (Ex.new hb)) hL⟩, for_list (K := K) (a := r) (xs := us) (fun i σ H' => ∃ c, σ = [some (.int n), some (.ref r), some (.ref b), c] ∧ Ex H1 H' ∧ okTo n i zss ∧ ∃ ws, H' b = some (.lst ws) ∧ All2 (PlV K H') ws (both (zss.take i)))
      ⟨none, rfl, Ex.new hb, ⟨fun j a h => absurd h (Nat.not_lt_zero _), fun j k a b _ h => absurd h (Nat.not_lt_zero _)⟩, [], upd_same, .nil⟩ (fun i σ H' _ ⟨_, _, e, _⟩ => ex_l (e1.trans e) hL) ?_ ?_⟩
    · rintro i x σ H2 hi ⟨c, rfl, e2, hto, ws, hws, hal⟩
      obtain ⟨zs, hzs, hpl⟩ := hz.get hi
      have hzm := List.mem_of_getElem? hzs
      have hlz := hlen zs hzm
      have hpl2 := hpl.mono (e1.trans e2)
      refine ⟨_, rfl, _, rfl, n, x, zs, rfl, hpl2, hlz, fun h => absurd (show 1 ≤ (n : Int) ∧ (n : Int) ≤ 4 by omega) h, fun n' hn' _ _ H3 e3 => ⟨_, rfl, ?_⟩⟩
      have : n' = n := by omega
      subst this
      by_cases hpz : Pl n' zs
      · rw [decide_eq_true hpz]
        refine iteF ?_
        have hb3 := e3 _ _ hws
        have hal3 := hal.imp fun _ _ h => h.mono e3
        refine ⟨_, rfl, _, rfl, tupD zs, _, dp_pl (hpl2.mono e3), .lst (SqL.of hb3) (dpAll_pls hal3), shaped_tupD zs, shaped_tups _, _, rfl, ?_⟩
        rw [any_tups]
        by_cases hin : zs ∈ both (zss.take i)
        · rw [decide_eq_true hin]
          exact iteT (qN (fun h => not_before h hzs hin) H3 (e1.trans (e2.trans e3)))
        rw [decide_eq_false hin]
        refine iteF ?_
        have lw : ws.length ≤ 24 := by
          rw [hal.1]
          unfold both
          rw [List.length_flatMap]
          have : ((zss.take i).map fun zs => ([zs, neg zs] : List (List Int)).length) = (zss.take i).map fun _ => 2 := rfl
          rw [this, List.map_const', List.sum_replicate_nat, List.length_take]
          omega
        refine ⟨_, rfl, .inl ⟨rfl, _, .inl (.inl hb3)⟩, _, rfl, b, ws, x, rfl, rfl, hb3, by omega, ?_⟩
        have nb : H1 b = none := hb
        have hpl4 : PlV K (upd H3 b (.lst (ws ++ [x]))) x zs := by
          obtain ⟨p, e0, hp⟩ := hpl.mono e1
          exact ⟨p, e0, ex_t (Ex.mut (e2.trans e3) hb) hp⟩
        refine ⟨_, rfl, .inl ⟨rfl, _, .inl (.inl upd_same)⟩, _, rfl, x, zs, rfl, hpl4, hlz, fun H5 v5 e5 hp5 => ?_⟩
        have hb5 := e5 _ _ upd_same
        refine ⟨b, _, v5, rfl, rfl, hb5, by rw [List.length_append]; show ws.length + 1 < sizeLine; omega, ?_⟩
        refine ⟨some x, rfl, ?_, hto.step hzs hpz hin, _, upd_same, ?_⟩
        · exact Ex.mut ((Ex.mut (e2.trans e3) hb).trans e5) hb
        · rw [both_succ hzs]
          have a1 := (hal3.imp fun _ _ h => plv_upd (o := .lst (ws ++ [x])) h hb3).app (All2.cons hpl4 .nil)
          exact ((a1.imp fun _ _ h => plv_upd (o := .lst ((ws ++ [x]) ++ [v5])) (h.mono e5) hb5).app (All2.cons (plv_upd hp5 hb5) .nil))
      · rw [decide_eq_false hpz]
        exact iteT (qN (fun h => hpz (h.2.1 zs hzm)) H3 (e1.trans (e2.trans e3)))
    · rintro σ H2 ⟨c, rfl, e2, hto, _⟩
      rw [hz.1] at hto
      exact qY (hto.all (by omega)) H2 (e1.trans e2)
/-! ### the list of planes, an object -/
def pflds (n : Int) (r : Addr) : List (Str × V) := putF "_rows" (.ref r) (putF "n" (.int n) [])
theorem kn : ¬ (("n" : Str) = "_rows") := by decide +kernel
theorem pflds_n (n : Int) (r : Addr) : (pflds n r).lookup ("n" : Str) = some (.int n) := by
  unfold pflds
  rw [lookup_putF, if_neg kn, lookup_putF, if_pos rfl]
theorem pflds_rows (n : Int) (r : Addr) : (pflds n r).lookup ("_rows" : Str) = some (.ref r) := by
  unfold pflds
  rw [lookup_putF, if_pos rfl]
theorem pflds_no (n : Int) (r : Addr) {m : Str} (h1 : ¬ m = "n") (h2 : ¬ m = "_rows") : (pflds n r).lookup m = none := by
  unfold pflds
  rw [lookup_putF, if_neg h2, lookup_putF, if_neg h1]
  all_goals rfl
structure PlsAt (K : PySem.W.Frag) (C : Addr) (H : Hp) (a r : Addr) (n : Nat) (zss : List (List Int)) : Prop where
  ob : ∃ dx, H a = some (.ins C dx (pflds n r))
  rw : ∃ us, H r = some (.lst us) ∧ All2 (PlV K H) us zss
  n1 : 1 ≤ n
  n4 : n ≤ 4
  ok : PlanesOk n zss
theorem PlsAt.mono {K : PySem.W.Frag} {C : Addr} {H H' : Hp} {a r : Addr} {n : Nat} {zss : List (List Int)} (e : Ex H H') (h : PlsAt K C H a r n zss) : PlsAt K C H' a r n zss := by
  obtain ⟨⟨dx, h1⟩, ⟨us, h2, h3⟩, a1, a4, ok⟩ := h
  exact ⟨⟨dx, e _ _ h1⟩, ⟨us, e _ _ h2, h3.imp fun _ _ z => z.mono e⟩, a1, a4, ok⟩
theorem none_of {H H' : Hp} {p : Addr} (e : Ex H H') (h : H' p = none) : H p = none := by
  cases z : H p with
  | none => rfl
  | some o =>
    have := e _ _ z
    rw [h] at this
    cases this
def sp_Planes_len (K : PySem.W.Frag) (C : Addr) : Sp := fun vs H Q _ => ∃ (a r : Addr) (n : Nat) (zss : List (List Int)), vs = [.ref a] ∧ PlsAt K C H a r n zss ∧ ∀ H', Ex H H' → Q (.int (zss.length : Nat)) H'
theorem ok_Planes_len (T : Txt K w mg ad fd) : CalM P w K mg base CX0 1 (ad 1461) (fd 1461) ["self"] (sp_Planes_len K (ad 23)) := by
  refine ⟨T.f_Planes_len.ok sc_Planes_len (fun vs H Q E h => ?_) (fun cdv A outer s H vs Q E hr h => ?_), T.f_Planes_len.binds (ps := ["self"]) fun _ _ _ _ _ _ us hl => match us, hl with | [_], _ => rfl⟩
  · obtain ⟨a, r, n, zss, rfl, _⟩ := h
    rfl
  · obtain ⟨a, r, n, zss, rfl, ⟨⟨dx, ha⟩, ⟨us, hr', hz⟩, _⟩, q⟩ := h
    refine ⟨_, (pss_one (ps_ret (pe_callB call_len_seq (by rfl) T.m_len PySem.boot_len (pa_cons (pe_fldK (K := K) (pv 0) rfl) pa_nil)))), ?_⟩
    refine ⟨_, rfl, a, _, dx, _, _, rfl, ha, T.cl_Planes, T.na_Planes__rows, pflds_rows _ _, r, us, rfl, .inl (SqL.of hr'), ?_⟩
    rw [hz.1]
    exact q H (Ex.refl H)
def sp_Planes_planes (K : PySem.W.Frag) (C : Addr) : Sp := fun vs H Q _ => ∃ (a r : Addr) (n : Nat) (zss : List (List Int)), vs = [.ref a] ∧ PlsAt K C H a r n zss ∧ ∀ H' l us, Ex H H' → H' l = some (.lst us) → All2 (PlV K H') us zss → H l = none → Q (.ref l) H'
theorem ok_Planes_planes (T : Txt K w mg ad fd) : CalM P w K mg base CX0 1 (ad 1463) (fd 1463) ["self"] (sp_Planes_planes K (ad 23)) := by
  refine ⟨T.f_Planes_planes.ok sc_Planes_planes (fun vs H Q E h => ?_) (fun cdv A outer s H vs Q E hr h => ?_), T.f_Planes_planes.binds (ps := ["self"]) fun _ _ _ _ _ _ us hl => match us, hl with | [_], _ => rfl⟩
  · obtain ⟨a, r, n, zss, rfl, _⟩ := h
    rfl
  · obtain ⟨a, r, n, zss, rfl, ⟨⟨dx, ha⟩, ⟨us, hr', hz⟩, n1, n4, hok⟩, q⟩ := h
    have sz : sizeLine = 16777216 := sizeLine_eq
    refine ⟨_, (pss_one (ps_ret (pe_callTy (T := "list") (call_listSK (K := K) rfl) (by rfl) T.m_list (by decide +kernel) (pa_cons (pe_fldK (K := K) (pv 0) rfl) pa_nil)))), ?_⟩
    refine ⟨_, rfl, a, _, dx, _, _, rfl, ha, T.cl_Planes, T.na_Planes__rows, pflds_rows _ _, .lst r, us, rfl, SqL.of hr', by rw [hz.1]; have := hok.1; omega, fun l hl => ?_⟩
    exact q _ l us (Ex.new hl) upd_same (hz.imp fun _ _ h => h.mono (Ex.new hl)) hl
/-! ### tuples of integers put together, cut, repeated -/
theorem cat_pl {K : PySem.W.Frag} {H : Hp} {u v : V} {xs ys : List Int} {Q : VK} (hu : PlV K H u xs) (hv : PlV K H v ys) (hl : xs.length + ys.length ≤ 2000) (q : ∀ H' z, Ex H H' → PlV K H' z (xs ++ ys) → Q z H') : rCatA K u v H Q := by
  obtain ⟨a, rfl, ha⟩ := hu
  obtain ⟨b, rfl, hb⟩ := hv
  have sz : sizeLine = 16777216 := sizeLine_eq
  refine ⟨a, b, _, _, rfl, rfl, ha, hb, by rw [List.length_map, List.length_map]; omega, fun h => ?_, fun _ h => ?_, fun _ _ p hp => ?_⟩
  · have : xs = [] := List.map_eq_nil_iff.mp h
    subst this
    exact q H _ (Ex.refl _) ⟨b, rfl, hb⟩
  · have : ys = [] := List.map_eq_nil_iff.mp h
    subst this
    rw [List.append_nil] at q
    exact q H _ (Ex.refl _) ⟨a, rfl, ha⟩
  · exact q _ _ (Ex.new hp) ⟨p, rfl, by rw [List.map_append]; exact SqT.of upd_same⟩
theorem flat_rep : ∀ n : Nat, (List.replicate n [V.int 0]).flatten = List.replicate n (V.int 0)
  | 0 => rfl
  | n + 1 => by
    rw [List.replicate_succ, List.replicate_succ, List.flatten_cons, flat_rep n]
    rfl
theorem rep0_pl {K : PySem.W.Frag} {H : Hp} {u : V} {n : Nat} {Q : VK} (hu : PlV K H u [0]) (hn : n ≤ 1000) (q : ∀ H' z, Ex H H' → PlV K H' z (List.replicate n 0) → Q z H') : rRepA K u (.int (n : Nat)) H Q := by
  obtain ⟨a, rfl, ha⟩ := hu
  refine ⟨a, _, _, rfl, rfl, ha, by simp, by omega, by omega, by show (1 : Nat) ≤ 1000; decide, fun h => ?_, fun _ p hp => ?_⟩
  · have : n = 1 := by omega
    subst this
    exact q H _ (Ex.refl _) ⟨a, rfl, ha⟩
  · refine q _ _ (Ex.new hp) ⟨p, rfl, ?_⟩
    have e : (List.replicate (n : Int).toNat ([0].map V.int)).flatten = (List.replicate n (0 : Int)).map V.int := by
      rw [Int.toNat_natCast, List.map_replicate]
      exact flat_rep n
    rw [← e]
    exact SqT.of upd_same
theorem cut_to {zs : List Int} {n : Nat} : cutV (zs.map V.int) none (some (n : Int)) = (zs.take n).map V.int := by
  unfold cutV
  rw [HT.sIx_none, HT.sIx_nat, List.drop_zero, List.length_map, List.map_take]
  by_cases h : n ≤ zs.length
  · congr 1
    omega
  · rw [List.take_of_length_le (by rw [List.length_map]; omega), List.take_of_length_le (by rw [List.length_map]; omega)]
theorem cut_from {zs : List Int} {n : Nat} : cutV (zs.map V.int) (some (n : Int)) none = (zs.drop n).map V.int := by
  unfold cutV
  rw [HT.sIx_none, HT.sIx_nat, List.length_map, List.map_drop, List.take_of_length_le (by rw [List.length_drop, List.length_map]; omega)]
  by_cases h : n ≤ zs.length
  · congr 1
    omega
  · rw [List.drop_of_length_le (by rw [List.length_map]; omega), List.drop_of_length_le (by rw [List.length_map]; omega)]
theorem take_pl {K : PySem.W.Frag} {H : Hp} {u : V} {zs : List Int} {n : Nat} {Q : VK} (hu : PlV K H u zs) (q : ∀ H' z, Ex H H' → PlV K H' z (zs.take n) → Q z H') : rSlA K u none (some (n : Int)) H Q := by
  obtain ⟨a, rfl, ha⟩ := hu
  refine ⟨a, _, rfl, ha, fun h => ?_, fun _ p hp => q _ _ (Ex.new hp) ⟨p, rfl, by rw [← cut_to]; exact SqT.of upd_same⟩⟩
  have h2 := h.2
  rw [HT.sIx_nat, List.length_map] at h2
  have : zs.take n = zs := List.take_of_length_le (by omega)
  rw [this] at q
  exact q H _ (Ex.refl _) ⟨a, rfl, ha⟩
theorem drop_pl {K : PySem.W.Frag} {H : Hp} {u : V} {zs : List Int} {n : Nat} {Q : VK} (hu : PlV K H u zs) (q : ∀ H' z, Ex H H' → PlV K H' z (zs.drop n) → Q z H') : rSlA K u (some (n : Int)) none H Q := by
  obtain ⟨a, rfl, ha⟩ := hu
  refine ⟨a, _, rfl, ha, fun h => ?_, fun _ p hp => q _ _ (Ex.new hp) ⟨p, rfl, by rw [← cut_from]; exact SqT.of upd_same⟩⟩
  have h1 := h.1
  rw [HT.sIx_nat, List.length_map] at h1
  have : zs.drop n = zs := by
    by_cases h0 : n = 0
    · rw [h0, List.drop_zero]
    · have : zs.length = 0 := by omega
      rw [List.eq_nil_of_length_eq_zero this, List.drop_nil]
  rw [this] at q
  exact q H _ (Ex.refl _) ⟨a, rfl, ha⟩
theorem pl_of {K : PySem.W.Frag} {H : Hp} {p : Addr} (zs : List Int) (h : H p = none) : Ex H (upd H p (.tup (zs.map V.int))) ∧ PlV K (upd H p (.tup (zs.map V.int))) (.ref p) zs := ⟨Ex.new h, p, rfl, SqT.of upd_same⟩
/-! ### is_central -/
def cenL (n : Nat) (zss : List (List Int)) : Bool := (echN zss (n + 1)).1.all fun x => decide ((x.1 : Int) < n)
def sp_Planes_is_central (K : PySem.W.Frag) (C : Addr) : Sp := fun vs H Q _ => ∃ (a r : Addr) (n : Nat) (zss : List (List Int)), vs = [.ref a] ∧ PlsAt K C H a r n zss ∧ ∀ H', Ex H H' → Q (.bl (cenL n zss)) H'
theorem ok_Planes_is_central (T : Txt K w mg ad fd) : CalM P w K mg base CX0 5 (ad 1465) (fd 1465) ["self"] (sp_Planes_is_central K (ad 23)) := by
  refine ⟨T.f_Planes_is_central.ok sc_Planes_is_central (fun vs H Q E h => ?_) (fun cdv A outer s H vs Q E hr h => ?_), T.f_Planes_is_central.binds (ps := ["self"]) fun _ _ _ _ _ _ us hl => match us, hl with | [_], _ => rfl⟩
  · obtain ⟨a, r, n, zss, rfl, _⟩ := h
    rfl
  · obtain ⟨a, r, n, zss, rfl, ⟨⟨dx, ha⟩, ⟨us, hr', hz⟩, n1, n4, hok⟩, q⟩ := h
    have sz : sizeLine = 16777216 := sizeLine_eq
    refine ⟨_, (pss_cons (ps_set (i := 1) sc_Planes_is_central.nd rfl (by first | exact Or.inl rfl | exact Or.inr rfl) (pe_cal (ok_whole_echelon T (P := P) (w := w) (base := base)) (hr.mono (by decide)) pass0 (pa_cons (pe_op op_add (pe_fldK (K := K) (pv 0) rfl) pe_int) (pa_cons (pe_fldK (K := K) (pv 0) rfl) pa_nil))))
    (pss_one (ps_ret (pe_callB (cr_all rfl) (by rfl) T.m_all (by decide +kernel) (pa_cons (pe_lc (own := [("pivot", 2), ("_", 3)]) (g := gTup K 2 (gCons (gName 2) (gCons (gName 3) gNil))) rfl sc_Planes_is_central.nd (pi_list (pv 1)) (blkOk_by (N := ["self", "found", "pivot", "_"]) (sc := defScope s_Planes_is_central) (by decide +kernel)) (fun _ _ _ _ _ => (pg_tup (n := 2) rfl (pgs_cons (pg_name (i := 2) sc_Planes_is_central.nd rfl (by first | exact Or.inl rfl | exact Or.inr rfl)) (pgs_cons (pg_name (i := 3) sc_Planes_is_central.nd rfl (by first | exact Or.inl rfl | exact Or.inr rfl)) pgs_nil)))) (fun _ _ _ _ _ => pts_nil) (fun _ _ _ _ _ => (pe_cmpR op_lt (pv 2) (pe_fldK (K := K) (pv 0) rfl) (nomark _)))) pa_nil))))), ?_⟩
    have p5 : 2 ^ (n + 1) ≤ 2 ^ 5 := Nat.pow_le_pow_right (by decide) (by omega)
    refine ⟨_, rfl, a, _, dx, _, _, rfl, ha, T.cl_Planes, T.na_Planes_n, pflds_n _ _, _, _, rfl, rfl, _, rfl, a, _, dx, _, _, rfl, ha, T.cl_Planes, T.na_Planes__rows, pflds_rows _ _, r, n + 1, 10, us, zss, rfl, SqL.of hr', hz, by have := hok.1; omega, by omega, by omega, fun zs hzs => (hok.2.1 zs hzs).1, fun zs hzs z hz' => by have := (hok.2.1 zs hzs).2.1 z hz'; omega, fun H1 l us1 e1 hl hz1 => ?_⟩
    have ha1 := e1 _ _ ha
    refine ⟨_, rfl, l, rfl, ⟨_, SqL.of hl⟩, fun D hD => ?_⟩
    refine lc_acc (l := none) (wk_list (K := K) (fun z => nomatch z) (SqL.of hl)) hD (fun i acc _ => acc = (((echN zss (n + 1)).1.map fun x => decide ((x.1 : Int) < n)).take i).map V.bl) rfl (fun _ _ _ _ _ h => h) ?_ ?_
    · rintro i x H2 acc hi e2 hy hl' rfl hx
      obtain ⟨⟨pp, row⟩, hxs, t, v, rfl, ht, hv⟩ := hz1.get hx
      refine ⟨t, _, rfl, ex_t e2.ex ht, rfl, ?_⟩
      refine ⟨_, _, rfl, _, _, rfl, rfl, rfl, ?_⟩
      refine ⟨_, rfl, _, rfl, a, _, dx, _, _, rfl, e2.ex _ _ ha1, T.cl_Planes, T.na_Planes_n, pflds_n _ _, _, _, rfl, rfl, ?_⟩
      have hbig : us1.length < sizeLine := by
        have := (echN_ok (w := n + 1) (e := 10) (fun zs hzs => (hok.2.1 zs hzs).1) (fun zs hzs z hz' => by have := (hok.2.1 zs hzs).2.1 z hz'; omega) (n + 1) (Nat.le_refl _)).2.2
        have := hz1.1
        have := hok.1
        omega
      refine LcP.push hD e2 hy hl' (by omega) ?_
      rw [List.take_add_one, List.getElem?_map, hxs, List.map_append]
      rfl
    · rintro H2 acc e2 hy rfl
      rw [hz1.1, ← List.length_map (f := fun x : Nat × List Int => decide ((x.1 : Int) < n)), List.take_length] at hy
      refine ⟨D, _, rfl, SqL.of hy, ?_⟩
      rw [List.all_map]
      exact q H2 (e1.trans e2.ex)
def sp_Planes_init (K : PySem.W.Frag) (C cB cP : Addr) : Sp := fun vs H Q E => ∃ (a dx : Addr) (i : Int) (r : Addr) (us : List V) (zss : List (List Int)), vs = [.ref a, .int i, .ref r] ∧ H a = some (.ins C dx []) ∧ SqL K H r us ∧ All2 (PlV K H) us zss ∧ zss.length ≤ 1000 ∧ (∀ zs ∈ zss, zs.length ≤ 1000) ∧ (¬ (1 ≤ i ∧ i ≤ 4) → ∀ H', Ex H H' → E (.ref cB) none H') ∧
  ∀ n : Nat, i = n → 1 ≤ n → n ≤ 4 → (PlanesOk n zss → ∀ H' r', (∀ b o, b ≠ a → H b = some o → H' b = some o) → H r' = none → PlsAt K C H' a r' n zss → Q .non H') ∧ (¬ PlanesOk n zss → ∀ H', Ex H H' → E (.ref cP) none H')
theorem ok_Planes_init (T : Txt K w mg ad fd) : CalM P w K mg base (L2N.CX P w) 4 (ad 1460) (fd 1460) ["self", "n", "rows"] (sp_Planes_init K (ad 23) (ad 4) (ad 3)) := by
  refine ⟨T.f_Planes_init.okXN sc_Planes_init (fun vs H Q E h => ?_) (fun cdv A outer s H vs Q E hr h => ?_), T.f_Planes_init.binds (ps := ["self", "n", "rows"]) fun _ _ _ _ _ _ us hl => match us, hl with | [_, _, _], _ => rfl⟩
  · obtain ⟨a, dx, i, r, us, zss, rfl, _⟩ := h
    rfl
  · obtain ⟨a, dx, i0, r, us, zss, rfl, ha, hL, hz, hm, hlen, qB, qn⟩ := h
    have sz : sizeLine = 16777216 := sizeLine_eq
    refine ⟨_, (pss_cons (ps_expr (pe_cal (ok_check_planes T (P := P) (w := w) (base := base)) (hr.mono (by decide)) (L2N.passes_call (L2N.takes_of rfl rfl rfl rfl) fun _ _ _ _ h => h) (pa_cons (pv 1) (pa_cons (pv 2) pa_nil))))
    (pss_cons (ps_fld (pv 0) (pv 1) rfl)
    (pss_one (ps_fld (pv 0) (pe_callTy (T := "list") (call_listSK (K := K) rfl) (by rfl) T.m_list (by decide +kernel) (pa_cons (pv 2) pa_nil)) rfl)))), ?_⟩
    refine ⟨_, rfl, _, rfl, i0, r, us, zss, rfl, hL, hz, hm, hlen, fun hn H1 e1 => qB hn H1 e1, fun n hin n1 n4 => ⟨fun hok H1 e1 => ?_, fun hok H1 e1 => (qn n hin n1 n4).2 hok H1 e1⟩⟩
    have q := (qn n hin n1 n4).1 hok
    subst hin
    have ha1 := e1 _ _ ha
    refine ⟨_, rfl, _, rfl, a, _, dx, [], rfl, ha1, T.cl_Planes, T.na_Planes_n, (by show 0 < 1000; decide), ?_⟩
    have hlu : us.length ≤ sizeLine := by rw [hz.1]; have := hok.1; omega
    have hL2 : SqL K (upd H1 a (.ins (ad 23) dx (putF "n" (.int n) []))) r us := by
      rcases ex_l e1 hL with (h | ⟨u, h⟩) | h
      · exact .inl (.inl (by rw [upd_ne (ne_of h ha1 (fun z => nomatch z))]; exact h))
      · exact .inl (.inr ⟨u, by rw [upd_ne (ne_of h ha1 (fun z => nomatch z))]; exact h⟩)
      · exact .inr h
    refine ⟨_, rfl, .lst r, us, rfl, hL2, hlu, fun l hl => ?_⟩
    have nla : l ≠ a := (ne_of_none upd_same hl).symm
    refine ⟨_, rfl, a, _, dx, _, rfl, by rw [upd_ne nla.symm]; exact upd_same, T.cl_Planes, T.na_Planes__rows, (by show 1 < 1000; decide), ?_⟩
    have hl1 : H1 l = none := by rwa [upd_ne nla] at hl
    refine q _ l (fun b o nb hb => ?_) (none_of e1 hl1) ⟨⟨dx, upd_same⟩, ⟨us, by rw [upd_ne nla, upd_same], hz.imp fun v zs h => ?_⟩, n1, n4, hok⟩
    · rw [upd_ne nb, upd_ne (ne_of_none (e1 _ _ hb) hl1), upd_ne nb]
      exact e1 _ _ hb
    · obtain ⟨p, hv, hp⟩ := h
      refine ⟨p, hv, ?_⟩
      rcases ex_t e1 hp with (h | ⟨u, h⟩) | h
      · have n1 := ne_of h ha1 (fun z => nomatch z)
        exact .inl (.inl (by rw [upd_ne n1, upd_ne (ne_of_none h hl1), upd_ne n1]; exact h))
      · have n1 := ne_of h ha1 (fun z => nomatch z)
        exact .inl (.inr ⟨u, by rw [upd_ne n1, upd_ne (ne_of_none h hl1), upd_ne n1]; exact h⟩)
      · exact .inr h
/-- a list of planes made: the heap is told to what follows, whichever way it ends -/
theorem make_plR {K : PySem.W.Frag} {C cB cP : Addr} {H : Hp} {l : Addr} {us : List V} {i : Int} {zss : List (List Int)} {G : Hp → Prop} {E : XK} {x dx : Addr} (hl : SqL K H l us) (hz : All2 (PlV K H) us zss) (hm : zss.length ≤ 1000) (hlen : ∀ zs ∈ zss, zs.length ≤ 1000)
    (hx : H x = none) (hdx : H dx = none) (hxy : dx ≠ x) (qB : ¬ (1 ≤ i ∧ i ≤ 4) → ∀ H', Ex H H' → E (.ref cB) none H')
    (qn : ∀ n : Nat, i = n → 1 ≤ n → n ≤ 4 → (PlanesOk n zss → ∀ H' r, Ex H H' → H r = none → PlsAt K C H' x r n zss → G H') ∧ (¬ PlanesOk n zss → ∀ H', Ex H H' → E (.ref cP) none H')) :
    sp_Planes_init K C cB cP [V.ref x, V.int i, V.ref l] (upd (upd H dx (.own x)) x (.ins C dx [])) (fun v H2 => v = .non ∧ G H2) E := by
  have e5 : Ex H (upd (upd H dx (.own x)) x (.ins C dx [])) := (Ex.new hdx).trans (Ex.new (by rw [upd_ne (Ne.symm hxy)]; exact hx))
  refine ⟨x, dx, i, l, us, zss, rfl, upd_same, ex_l e5 hl, hz.imp fun _ _ h => h.mono e5, hm, hlen, fun hn H6 e6 => qB hn H6 (e5.trans e6), fun n hin n1 n4 => ⟨fun hok H6 r' k6 hr6 hp6 => ⟨rfl, (qn n hin n1 n4).1 hok H6 r' (fun b o hb => ?_) (none_ex e5 hr6) hp6⟩, fun hok H6 e6 => (qn n hin n1 n4).2 hok H6 (e5.trans e6)⟩⟩
  exact k6 b o (ne_of_none hb hx) (e5 _ _ hb)
theorem PlanesOk.lens {n : Nat} {zss : List (List Int)} (h : PlanesOk n zss) (n4 : n ≤ 4) : zss.length ≤ 1000 ∧ ∀ zs ∈ zss, zs.length ≤ 1000 := ⟨by have := h.1; omega, fun zs hz => by have := (h.2.1 zs hz).1; omega⟩
/-- the same for planes that are right -/
theorem make_plV {K : PySem.W.Frag} {C cB cP : Addr} {H : Hp} {l : Addr} {us : List V} {n : Nat} {zss : List (List Int)} {G : Hp → Prop} {E : XK} {x dx : Addr} (n1 : 1 ≤ n) (n4 : n ≤ 4) (hl : SqL K H l us) (hz : All2 (PlV K H) us zss) (hok : PlanesOk n zss)
    (hx : H x = none) (hdx : H dx = none) (hxy : dx ≠ x) (q : ∀ H' r, Ex H H' → H r = none → PlsAt K C H' x r n zss → G H') :
    sp_Planes_init K C cB cP [V.ref x, V.int (n : Nat), V.ref l] (upd (upd H dx (.own x)) x (.ins C dx [])) (fun v H2 => v = .non ∧ G H2) E :=
  make_plR hl hz (hok.lens n4).1 (hok.lens n4).2 hx hdx hxy (fun h => absurd (show 1 ≤ (n : Int) ∧ (n : Int) ≤ 4 by omega) h) fun m hm _ _ => by
    have : m = n := by omega
    subst this
    exact ⟨fun _ => q, fun h => absurd hok h⟩
/-! ### equal lists, ranks, parts -/
theorem eqvAll_tups : ∀ xs ys : List (List Int), PyData.eqvAll (xs.map tupD) (ys.map tupD) = decide (xs = ys)
  | [], [] => by simp [PyData.eqvAll]
  | [], y :: ys => by simp [PyData.eqvAll]
  | x :: xs, [] => by simp [PyData.eqvAll]
  | x :: xs, y :: ys => by
    rw [List.map_cons, List.map_cons, PyData.eqvAll, eqvAll_tups xs ys, eqv_tupD]
    by_cases h : x = y
    · subst h
      simp
    · have : ¬ (x :: xs = y :: ys) := fun e => h (List.cons.inj e).1
      simp [h]
theorem eqv_lists (xs ys : List (List Int)) : PyData.eqv (.list (xs.map tupD)) (.list (ys.map tupD)) = decide (xs = ys) := by
  rw [PyData.eqv, eqvAll_tups]
def sp_Planes_eq (K : PySem.W.Frag) (C : Addr) : Sp := fun vs H Q _ => ∃ (a r : Addr) (n : Nat) (zss : List (List Int)) (b s : Addr) (m : Nat) (yss : List (List Int)), vs = [.ref a, .ref b] ∧ PlsAt K C H a r n zss ∧ PlsAt K C H b s m yss ∧ ∀ H', Ex H H' → Q (.bl (decide (n = m ∧ zss = yss))) H'
theorem ok_Planes_eq (T : Txt K w mg ad fd) : CalM P w K mg base CX0 6 (ad 1462) (fd 1462) ["self", "other"] (sp_Planes_eq K (ad 23)) := by
  refine ⟨T.f_Planes_eq.ok sc_Planes_eq (fun vs H Q E h => ?_) (fun cdv A outer s H vs Q E hr h => ?_), T.f_Planes_eq.binds (ps := ["self", "other"]) fun _ _ _ _ _ _ us hl => match us, hl with | [_, _], _ => rfl⟩
  · obtain ⟨a, r, n, zss, b, s', m, yss, rfl, _⟩ := h
    rfl
  · obtain ⟨a, r, n, zss, b, s', m, yss, rfl, hpl, hpl2, q⟩ := h
    have hu := hr.units
    obtain ⟨dx, ha⟩ := hpl.ob
    obtain ⟨dy, hb⟩ := hpl2.ob
    obtain ⟨us, hr', hz⟩ := hpl.rw
    obtain ⟨ws, hs', hy⟩ := hpl2.rw
    refine ⟨_, (pss_one (ps_ret (pe_and (pe_callB call_isi (by rfl) T.m_isinstance (by decide +kernel) (pa_cons (pv 1) (pa_cons (pe_globR (f := ad 23) T.g_Planes) pa_nil))) (pe_and (pe_cmpR op_eq (pe_fldK (K := K) (pv 0) rfl) (pe_fldK (K := K) (pv 1) rfl) (nomark _)) (pe_one (pe_cmpR (op_eqD hu) (pe_fldK (K := K) (pv 0) rfl) (pe_fldK (K := K) (pv 1) rfl) (nomark _))))))), ?_⟩
    refine ⟨_, rfl, .ref b, .ref (ad 23), .ref (ad 23), .ref (ad 23), true, rfl, .own _, T.o_Planes.ty T.cl_Planes hb, T.i_Planes_Planes, true, rfl, ?_⟩
    refine iteT ?_
    refine ⟨_, rfl, a, _, dx, _, _, rfl, ha, T.cl_Planes, T.na_Planes_n, pflds_n _ _, _, rfl, b, _, dy, _, _, rfl, hb, T.cl_Planes, T.na_Planes_n, pflds_n _ _, rfl, _, rfl, ?_⟩
    have q0 := q H (Ex.refl H)
    by_cases hnm : n = m
    · subst hnm
      rw [decide_eq_true rfl]
      refine iteT ?_
      refine ⟨_, rfl, a, _, dx, _, _, rfl, ha, T.cl_Planes, T.na_Planes__rows, pflds_rows _ _, _, rfl, b, _, dy, _, _, rfl, hb, T.cl_Planes, T.na_Planes__rows, pflds_rows _ _, .list (zss.map tupD), .list (yss.map tupD), .lst (SqL.of hr') (dpAll_pls hz), .lst (SqL.of hs') (dpAll_pls hy), shaped_tups _, shaped_tups _, ?_⟩
      rw [eqv_lists]
      rw [show decide (n = n ∧ zss = yss) = decide (zss = yss) from by simp] at q0
      exact q0
    · rw [decide_eq_false (show ¬ V.int (n : Int) = V.int (m : Int) from fun e => hnm (by have := V.int.inj e; omega))]
      refine iteF ?_
      rw [decide_eq_false (fun h => hnm h.1)] at q0
      exact q0
def sp_letter_rows (K : PySem.W.Frag) (C : Addr) : Sp := fun vs H Q _ => ∃ (a r : Addr) (n : Nat) (zss : List (List Int)), vs = [.ref a] ∧ PlsAt K C H a r n zss ∧ ∀ H' l us, Ex H H' → H' l = some (.lst us) → All2 (PlV K H') us (zss.map (List.take n)) → Q (.ref l) H'
theorem ok_letter_rows (T : Txt K w mg ad fd) : Cal P w K mg base CX0 2 "letter_rows" (ad 24) (fd 24) ["planes"] [] [] (sp_letter_rows K (ad 23)) := by
  refine ⟨T.f_letter_rows.ok sc_letter_rows (fun vs H Q E h => ?_) (fun cdv A outer s H vs Q E hr h => ?_), T.g_letter_rows, T.f_letter_rows.kp, T.f_letter_rows.binds (ps := ["planes"]) fun _ _ _ _ _ _ us hl => match us, hl with | [_], _ => rfl, .nil⟩
  · obtain ⟨a, r, n, zss, rfl, _⟩ := h
    rfl
  · obtain ⟨a, r, n, zss, rfl, hpl, q⟩ := h
    have sz : sizeLine = 16777216 := sizeLine_eq
    obtain ⟨dx, ha⟩ := hpl.ob
    have hok := hpl.ok
    refine ⟨_, (pss_one (ps_ret (pe_lc (own := [("plane", 1)]) rfl sc_letter_rows.nd (pi_list (pe_meth0 (pv 0) T.cl_Planes T.me_Planes_planes (ok_Planes_planes T (P := P) (w := w) (base := base)).ok (hr.mono (by decide)) (ok_Planes_planes T (P := P) (w := w) (base := base)).b .nil pass0)) (blkOk_by (N := ["planes", "plane"]) (sc := defScope s_letter_rows) (by decide +kernel)) (fun _ _ _ _ _ => (pg_name (i := 1) sc_letter_rows.nd rfl (by first | exact Or.inl rfl | exact Or.inr rfl))) (fun _ _ _ _ _ => pts_nil) (fun _ _ _ _ _ => (pe_slice (sl_tupK (K := K)) (pv 1) po_none (po_some (pe_fldK (K := K) (pv 0) rfl))))))), ?_⟩
    refine ⟨_, rfl, a, dx, _, rfl, ha, pflds_no _ _ (by decide +kernel) (by decide +kernel), a, r, n, zss, rfl, hpl, fun H2 g us e2 hg hz _ => ?_⟩
    refine ⟨g, rfl, ⟨_, SqL.of hg⟩, fun D hD => ?_⟩
    refine lc_acc (l := none) (wk_list (K := K) (fun z => nomatch z) (SqL.of hg)) hD (fun i acc H' => All2 (PlV K H') acc ((zss.map (List.take n)).take i)) .nil (fun _ _ _ _ e h => h.imp fun _ _ h => h.mono e) ?_ ?_
    · rintro i x H3 acc hi e3 hy hl' ha' hx
      obtain ⟨zs, hzs, hp⟩ := hz.get hx
      refine ⟨rfl, ?_⟩
      refine ⟨_, rfl, _, rfl, a, _, dx, _, _, rfl, (e2.trans e3.ex) _ _ ha, T.cl_Planes, T.na_Planes_n, pflds_n _ _, _, rfl, take_pl (hp.mono e3.ex) fun H4 u4 e4 h4 => ?_⟩
      have hy4 := e4 _ _ hy
      refine LcP.push hD (e3.trans (Exo.of e4)) hy4 hl' (by have := hz.1; have := hok.1; omega) ?_
      rw [List.take_add_one, List.getElem?_map, hzs]
      exact (ha'.imp fun _ _ h => plv_upd (h.mono e4) hy4).app (.cons (plv_upd h4 hy4) .nil)
    · rintro H3 ys e3 hy ha3
      rw [hz.1, ← List.length_map (f := List.take n), List.take_length] at ha3
      exact q H3 D ys (e2.trans e3.ex) hy ha3
def rankL (n : Nat) (zss : List (List Int)) : Nat := (echN (zss.map (List.take n)) n).1.length
def sp_Planes_rank (K : PySem.W.Frag) (C : Addr) : Sp := fun vs H Q _ => ∃ (a r : Addr) (n : Nat) (zss : List (List Int)), vs = [.ref a] ∧ PlsAt K C H a r n zss ∧ ∀ H', Ex H H' → Q (.int (rankL n zss : Nat)) H'
theorem ok_Planes_rank (T : Txt K w mg ad fd) : CalM P w K mg base CX0 5 (ad 1464) (fd 1464) ["self"] (sp_Planes_rank K (ad 23)) := by
  refine ⟨T.f_Planes_rank.ok sc_Planes_rank (fun vs H Q E h => ?_) (fun cdv A outer s H vs Q E hr h => ?_), T.f_Planes_rank.binds (ps := ["self"]) fun _ _ _ _ _ _ us hl => match us, hl with | [_], _ => rfl⟩
  · obtain ⟨a, r, n, zss, rfl, _⟩ := h
    rfl
  · obtain ⟨a, r, n, zss, rfl, hpl, q⟩ := h
    have sz : sizeLine = 16777216 := sizeLine_eq
    obtain ⟨dx, ha⟩ := hpl.ob
    have hok := hpl.ok
    have n4 := hpl.n4
    refine ⟨_, (pss_one (ps_ret (pe_callB call_len_seq (by rfl) T.m_len PySem.boot_len (pa_cons (pe_cal (ok_whole_echelon T (P := P) (w := w) (base := base)) (hr.mono (by decide)) pass0 (pa_cons (pe_fldK (K := K) (pv 0) rfl) (pa_cons (pe_cal (ok_letter_rows T (P := P) (w := w) (base := base)) (hr.mono (by decide)) pass0 (pa_cons (pv 0) pa_nil)) pa_nil))) pa_nil)))), ?_⟩
    have p5 : 2 ^ n ≤ 2 ^ 4 := Nat.pow_le_pow_right (by decide) n4
    have hlen : ∀ zs ∈ zss.map (List.take n), zs.length = n := fun zs h => by
      obtain ⟨y, hy, rfl⟩ := List.mem_map.mp h
      rw [List.length_take]
      have := (hok.2.1 y hy).1
      omega
    have hbd : ∀ zs ∈ zss.map (List.take n), ∀ z ∈ zs, z.natAbs < 2 ^ 10 := fun zs h z hz => by
      obtain ⟨y, hy, rfl⟩ := List.mem_map.mp h
      have := (hok.2.1 y hy).2.1 z (List.mem_of_mem_take hz)
      omega
    refine ⟨_, rfl, a, _, dx, _, _, rfl, ha, T.cl_Planes, T.na_Planes_n, pflds_n _ _, _, rfl, a, r, n, zss, rfl, hpl, fun H1 l us e1 hl hz => ?_⟩
    refine ⟨l, n, 10, us, _, rfl, SqL.of hl, hz, by rw [List.length_map]; have := hok.1; omega, by omega, by omega, hlen, hbd, fun H2 l2 us2 e2 hl2 hz2 => ?_⟩
    refine ⟨l2, us2, rfl, .inl (SqL.of hl2), ?_⟩
    rw [hz2.1]
    exact q H2 (e1.trans e2)
def sp_check_index (K : PySem.W.Frag) (C cB : Addr) : Sp := fun vs H Q E => ∃ (a r : Addr) (n : Nat) (zss : List (List Int)) (i : Int), vs = [.ref a, .int i] ∧ PlsAt K C H a r n zss ∧ (0 ≤ i ∧ i < zss.length → ∀ H', Ex H H' → Q .non H') ∧ (¬ (0 ≤ i ∧ i < zss.length) → ∀ H', Ex H H' → E (.ref cB) none H')
theorem ok_check_index (T : Txt K w mg ad fd) : Cal P w K mg base (L2N.CX P w) 3 "check_index" (ad 20) (fd 20) ["planes", "at"] [] [] (sp_check_index K (ad 23) (ad 4)) := by
  refine ⟨T.f_check_index.okXN sc_check_index (fun vs H Q E h => ?_) (fun cdv A outer s H vs Q E hr h => ?_), T.g_check_index, T.f_check_index.kp, T.f_check_index.binds (ps := ["planes", "at"]) fun _ _ _ _ _ _ us hl => match us, hl with | [_, _], _ => rfl, .nil⟩
  · obtain ⟨a, r, n, zss, i, rfl, _⟩ := h
    rfl
  · obtain ⟨a, r, n, zss, i, rfl, hp, q1, q2⟩ := h
    refine ⟨_, (pss_one (ps_if (pt_not (pt_chain op_le op_lt pe_int (pv 1) (pe_callB (call_lenOwn (ok_Planes_len T (P := P) (w := w) (base := base)).ok (hr.mono (by decide)) T.me_Planes_len.at_ T.me_Planes_len.fn (ok_Planes_len T (P := P) (w := w) (base := base)).b pass0) (by rfl) T.m_len PySem.boot_len (pa_cons (pv 0) pa_nil)))) (pss_one (L2N.ps_raise rfl (L2N.takes_of rfl rfl rfl rfl) (L2N.pmk_own PySem.F.excBase_ValueError T.x_BadNumber T.g_BadNumber T.k_BadNumber (raises_own T.s_BadNumber T.t_BadNumber) rfl))) pss_nil)), ?_⟩
    obtain ⟨dx, ha⟩ := hp.ob
    have sz : sizeLine = 16777216 := sizeLine_eq
    refine ⟨_, rfl, _, _, rfl, rfl, _, rfl, ?_⟩
    refine ite2 (fun z => ?_) (fun z => ?_)
    · have z' : 0 ≤ i := of_decide_eq_true z
      refine ⟨_, rfl, a, dx, _, rfl, ha, a, r, n, zss, rfl, hp, fun H1 e1 => ⟨zss.length, rfl, by have := hp.ok.1; omega, _, _, rfl, rfl, _, rfl, ?_⟩⟩
      by_cases h4 : i < zss.length
      · rw [decide_eq_true h4]
        exact iteF (q1 ⟨z', h4⟩ H1 e1)
      · rw [decide_eq_false h4]
        exact iteT (q2 (fun z => h4 z.2) H1 e1)
    · have z' : ¬ 0 ≤ i := fun e => z (decide_eq_true e)
      refine ⟨_, rfl, iteT (q2 (fun z => z' z.1) H (Ex.refl H))⟩
/-! ### without, turned, only -/
def ascB (is : List Int) : Bool := (List.zipWith (fun a b => decide (a < b)) is (is.drop 1)).all id
def sp_ascends (K : PySem.W.Frag) : Sp := fun vs H Q _ => ∃ (v : V) (is : List Int), vs = [v] ∧ PlV K H v is ∧ is.length ≤ 1000 ∧ ∀ H', Ex H H' → Q (.bl (ascB is)) H'
theorem ok_ascends (T : Txt K w mg ad fd) : Cal P w K mg base CX0 1 "ascends" (ad 21) (fd 21) ["indexes"] [] [] (sp_ascends K) := by
  refine ⟨T.f_ascends.ok sc_ascends (fun vs H Q E h => ?_) (fun cdv A outer s H vs Q E hr h => ?_), T.g_ascends, T.f_ascends.kp, T.f_ascends.binds (ps := ["indexes"]) fun _ _ _ _ _ _ us hl => match us, hl with | [_], _ => rfl, .nil⟩
  · obtain ⟨v, is, rfl, _⟩ := h
    rfl
  · obtain ⟨v, is, rfl, hv, hl, q⟩ := h
    have sz : sizeLine = 16777216 := sizeLine_eq
    refine ⟨_, (pss_one (ps_ret (pe_callB (cr_all rfl) (by rfl) T.m_all (by decide +kernel) (pa_cons (pe_lc (own := [("a", 1), ("b", 2)]) (g := gTup K 2 (gCons (gName 1) (gCons (gName 2) gNil))) rfl sc_ascends.nd (pi_zipS (by rfl) T.m_zip (pa_cons (pv 0) (pa_cons (pe_slice (sl_tupK (K := K)) (pv 0) (po_some pe_int) po_none) pa_nil))) (blkOk_by (N := ["indexes", "a", "b"]) (sc := defScope s_ascends) (by decide +kernel)) (fun _ _ _ _ _ => (pg_tup (n := 2) rfl (pgs_cons (pg_name (i := 1) sc_ascends.nd rfl (by first | exact Or.inl rfl | exact Or.inr rfl)) (pgs_cons (pg_name (i := 2) sc_ascends.nd rfl (by first | exact Or.inl rfl | exact Or.inr rfl)) pgs_nil)))) (fun _ _ _ _ _ => pts_nil) (fun _ _ _ _ _ => (pe_cmpR op_lt (pv 1) (pv 2) (nomark _)))) pa_nil)))), ?_⟩
    refine ⟨_, rfl, _, rfl, _, rfl, ?_⟩
    dsimp only [tNoPart]
    refine drop_pl (n := 1) hv fun H1 u e1 h1 => ?_
    obtain ⟨p, rfl, hp⟩ := hv.mono e1
    obtain ⟨p2, rfl, hp2⟩ := h1
    refine ⟨.tup p, .tup p2, _, _, rfl, hp, hp2, fun D hD => ?_⟩
    refine lc_acc (l := none) (wk_zip (S1 := .tup p) (S2 := .tup p2) (fun z => nomatch z) (fun z => nomatch z) hp hp2) hD (fun i acc _ => acc = ((List.zipWith (fun a b => decide (a < b)) is (is.drop 1)).take i).map V.bl) rfl (fun _ _ _ _ _ h => h) ?_ ?_
    · rintro i x H2 acc hi e hy hl' rfl ⟨T', x', y', rfl, hT', hx, hy'⟩
      obtain ⟨a, rfl, ha⟩ := int_at hx
      obtain ⟨b, rfl, hb⟩ := int_at hy'
      refine ⟨T', _, rfl, SqT.of hT', rfl, ?_⟩
      refine ⟨_, _, rfl, _, _, rfl, rfl, rfl, ?_⟩
      refine ⟨_, rfl, _, rfl, _, _, rfl, rfl, LcP.push hD e hy hl' (by rw [List.length_map] at hi; omega) ?_⟩
      rw [List.take_add_one, List.getElem?_zipWith, ha, hb, List.map_append]
      rfl
    · rintro H2 acc e hy rfl
      rw [List.length_map, List.length_map, ← List.length_zipWith (f := fun a b : Int => decide (a < b)), List.take_length] at hy
      exact ⟨D, _, rfl, SqL.of hy, q H2 (e1.trans e.ex)⟩
def inAll (m : Nat) (is : List Int) : Prop := ∀ i ∈ is, 0 ≤ i ∧ i < m
def sp_check_indexes (K : PySem.W.Frag) (C cB : Addr) : Sp := fun vs H Q E => ∃ (a r : Addr) (n : Nat) (zss : List (List Int)) (v : V) (is : List Int), vs = [.ref a, v] ∧ PlsAt K C H a r n zss ∧ PlV K H v is ∧ is.length ≤ 1000 ∧ (inAll zss.length is ∧ ascB is = true → ∀ H', Ex H H' → Q .non H') ∧ (¬ (inAll zss.length is ∧ ascB is = true) → ∀ H', Ex H H' → E (.ref cB) none H')
theorem ok_check_indexes (T : Txt K w mg ad fd) : Cal P w K mg base (L2N.CX P w) 4 "check_indexes" (ad 22) (fd 22) ["planes", "indexes"] [] [] (sp_check_indexes K (ad 23) (ad 4)) := by
  refine ⟨T.f_check_indexes.okXN sc_check_indexes (fun vs H Q E h => ?_) (fun cdv A outer s H vs Q E hr h => ?_), T.g_check_indexes, T.f_check_indexes.kp, T.f_check_indexes.binds (ps := ["planes", "indexes"]) fun _ _ _ _ _ _ us hl => match us, hl with | [_, _], _ => rfl, .nil⟩
  · obtain ⟨a, r, n, zss, v, is, rfl, _⟩ := h
    rfl
  · obtain ⟨a, r, n, zss, v, is, rfl, hpl, ⟨p, rfl, hp⟩, hl, q1, q2⟩ := h
    refine ⟨_, (pss_cons (ps_for (by first | exact PassesOwn.never | exact passes_of rfl) rfl (pi_tup (pv 1)) (pg_name (i := 2) sc_check_indexes.nd rfl (by first | exact Or.inl rfl | exact Or.inr rfl))
      (pss_one (ps_expr (pe_cal (ok_check_index T (P := P) (w := w) (base := base)) (hr.mono (by decide)) (L2N.passes_call (L2N.takes_of rfl rfl rfl rfl) fun _ _ _ _ h => h) (pa_cons (pv 0) (pa_cons (pv 2) pa_nil))))))
    (pss_one (ps_if (pt_not (pt_val (pe_cal (ok_ascends T (P := P) (w := w) (base := base)) (hr.mono (by decide)) pass0 (pa_cons (pv 1) pa_nil)))) (pss_one (L2N.ps_raise rfl (L2N.takes_of rfl rfl rfl rfl) (L2N.pmk_own PySem.F.excBase_ValueError T.x_BadNumber T.g_BadNumber T.k_BadNumber (raises_own T.s_BadNumber T.t_BadNumber) rfl))) pss_nil))), ?_⟩
    refine ⟨_, rfl, p, rfl, ⟨_, hp⟩, for_tup (K := K) (a := p) (xs := is.map V.int) (fun i σ H' => ∃ c, σ = [some (.ref a), some (.ref p), c] ∧ Ex H H' ∧ ∀ (j : Nat) (x : Int), j < i → is[j]? = some x → 0 ≤ x ∧ x < zss.length) ⟨none, rfl, Ex.refl _, fun j x h => absurd h (Nat.not_lt_zero _)⟩ (fun i σ H' _ ⟨_, _, e, _⟩ => ex_t e hp) ?_ ?_⟩
    · rintro i x σ H1 hi ⟨c, rfl, e, h0⟩
      obtain ⟨z, rfl, hz⟩ := int_at hi
      refine ⟨_, rfl, _, rfl, a, r, n, zss, z, rfl, hpl.mono e, fun hin H2 e2 => ?_, fun hin H2 e2 => q2 (fun h => hin (h.1 z (List.mem_of_getElem? hz))) H2 (e.trans e2)⟩
      refine ⟨_, rfl, e.trans e2, fun j x hj hx => ?_⟩
      by_cases hji : j < i
      · exact h0 j x hji hx
      · have : j = i := by omega
        subst this
        rw [hz] at hx
        cases hx
        exact hin
    · rintro σ H1 ⟨c, rfl, e, h0⟩
      have hall : inAll zss.length is := fun x hx => by
        obtain ⟨i, hi⟩ := List.mem_iff_getElem?.mp hx
        exact h0 i x (by rw [List.length_map]; exact (List.getElem?_eq_some_iff.mp hi).1) hi
      refine ⟨_, rfl, _, is, rfl, ⟨p, rfl, ex_t e hp⟩, hl, fun H2 e2 => ⟨_, rfl, ?_⟩⟩
      by_cases ha : ascB is = true
      · rw [ha]
        exact iteF (q1 ⟨hall, ha⟩ H2 (e.trans e2))
      · rw [Bool.eq_false_iff.mpr ha]
        exact iteT (q2 (fun h => ha h.2) H2 (e.trans e2))
/-- some of the planes, at places that ascend -/
theorem PlanesOk.sel {n : Nat} {zss yss : List (List Int)} (h : PlanesOk n zss) (f : Nat → Nat) (hf : ∀ i j, i < j → j < yss.length → f i < f j) (hl : yss.length ≤ 12) (hy : ∀ (i : Nat) (a : List Int), yss[i]? = some a → zss[f i]? = some a) : PlanesOk n yss := by
  obtain ⟨h1, h2, h3⟩ := h
  refine ⟨hl, fun a ha => ?_, fun i j a b hij ha hb => ?_⟩
  · obtain ⟨i, hi⟩ := List.mem_iff_getElem?.mp ha
    exact h2 a (List.mem_of_getElem? (hy i a hi))
  · exact h3 (f i) (f j) a b (hf i j hij (List.getElem?_eq_some_iff.mp hb).1) (hy i a ha) (hy j b hb)
theorem PlanesOk.erase {n : Nat} {zss : List (List Int)} (h : PlanesOk n zss) (k : Nat) : PlanesOk n (zss.eraseIdx k) := by
  refine h.sel (fun i => if i < k then i else i + 1) (fun i j hij _ => ?_) ?_ (fun i a ha => ?_)
  · show (if i < k then i else i + 1) < (if j < k then j else j + 1)
    split <;> split <;> omega
  · have := List.length_eraseIdx_le zss k
    have := h.1
    omega
  · rw [List.getElem?_eraseIdx] at ha
    show zss[if i < k then i else i + 1]? = some a
    split at ha
    · rw [if_pos (by assumption)]
      exact ha
    · rw [if_neg (by assumption)]
      exact ha
def sp_Planes_without (K : PySem.W.Frag) (C cB : Addr) : Sp := fun vs H Q E => ∃ (a r : Addr) (n : Nat) (zss : List (List Int)) (i : Int), vs = [.ref a, .int i] ∧ PlsAt K C H a r n zss ∧ (¬ (0 ≤ i ∧ i < zss.length) → ∀ H', Ex H H' → E (.ref cB) none H') ∧
  (0 ≤ i ∧ i < zss.length → ∀ H' a' r', Ex H H' → H r' = none → PlsAt K C H' a' r' n (zss.eraseIdx i.toNat) → Q (.ref a') H')
theorem ok_Planes_without (T : Txt K w mg ad fd) : CalM P w K mg base (L2N.CX P w) 6 (ad 1466) (fd 1466) ["self", "at"] (sp_Planes_without K (ad 23) (ad 4)) := by
  refine ⟨T.f_Planes_without.okXN sc_Planes_without (fun vs H Q E h => ?_) (fun cdv A outer s H vs Q E hr h => ?_), T.f_Planes_without.binds (ps := ["self", "at"]) fun _ _ _ _ _ _ us hl => match us, hl with | [_, _], _ => rfl⟩
  · obtain ⟨a, r, n, zss, i, rfl, _⟩ := h
    rfl
  · obtain ⟨a, r, n, zss, i, rfl, hpl, q1, q2⟩ := h
    have sz : sizeLine = 16777216 := sizeLine_eq
    refine ⟨_, (pss_cons (ps_expr (pe_cal (ok_check_index T (P := P) (w := w) (base := base)) (hr.mono (by decide)) (L2N.passes_call (L2N.takes_of rfl rfl rfl rfl) fun _ _ _ _ h => h) (pa_cons (pv 0) (pa_cons (pv 1) pa_nil))))
    (pss_one (ps_ret (pe_make T.mk_Planes (ok_Planes_init T (P := P) (w := w) (base := base)).ok (hr.mono (by decide)) rfl T.g_Planes (ok_Planes_init T (P := P) (w := w) (base := base)).b .nil (L2N.passes_call (L2N.takes_of rfl rfl rfl rfl) fun _ _ _ _ h => h) (pa_cons (pe_fldK (K := K) (pv 0) rfl) (pa_cons (pe_lc (own := [("k", 2), ("plane", 3)]) (g := gTup K 2 (gCons (gName 2) (gCons (gName 3) gNil))) rfl sc_Planes_without.nd (pi_enumS (by rfl) T.m_enumerate (pa_cons (pe_fldK (K := K) (pv 0) rfl) pa_nil)) (blkOk_by (N := ["self", "at", "k", "plane"]) (sc := defScope s_Planes_without) (by decide +kernel)) (fun _ _ _ _ _ => (pg_tup (n := 2) rfl (pgs_cons (pg_name (i := 2) sc_Planes_without.nd rfl (by first | exact Or.inl rfl | exact Or.inr rfl)) (pgs_cons (pg_name (i := 3) sc_Planes_without.nd rfl (by first | exact Or.inl rfl | exact Or.inr rfl)) pgs_nil)))) (fun _ _ _ _ _ => (pts_one (pt_cmpR op_ne (pv 2) (pv 1) (nomark _)))) (fun _ _ _ _ _ => (pv 3))) pa_nil)))))), ?_⟩
    refine ⟨_, rfl, _, rfl, a, r, n, zss, i, rfl, hpl, fun hin H1 e1 => ?_, fun hin H1 e1 => q1 hin H1 e1⟩
    obtain ⟨k, rfl⟩ : ∃ k : Nat, i = (k : Int) := ⟨i.toNat, by omega⟩
    have q := q2 hin
    rw [Int.toNat_natCast] at q
    obtain ⟨⟨dx, ha⟩, ⟨us, hr', hz⟩, n1, n4, hok⟩ := hpl.mono e1
    refine ⟨_, rfl, a, _, dx, _, _, rfl, ha, T.cl_Planes, T.na_Planes_n, pflds_n _ _, _, rfl, a, _, dx, _, _, rfl, ha, T.cl_Planes, T.na_Planes__rows, pflds_rows _ _, ?_⟩
    refine ⟨.lst r, us, rfl, SqL.of hr', fun D hD => ?_⟩
    refine lc_acc (l := none) (wk_enum (S := .lst r) (fun z => nomatch z) (SqL.of hr')) hD (fun i acc H' => All2 (PlV K H') acc ((zss.take i).eraseIdx k)) (by simp; exact .nil) (fun _ _ _ _ e h => h.imp fun _ _ h => h.mono e) ?_ ?_
    · rintro j x H3 acc hj e3 hy hl' ha' ⟨t, v, rfl, ht, hx⟩
      obtain ⟨zs, hzs, hp⟩ := hz.get hx
      refine ⟨t, _, rfl, SqT.of ht, rfl, ?_⟩
      refine ⟨_, _, rfl, _, _, rfl, rfl, rfl, ?_⟩
      refine ⟨_, rfl, _, rfl, rfl, _, rfl, ?_⟩
      have hkj : decide (V.int ((j : Nat) : Int) = V.int ((k : Nat) : Int)) = decide (j = k) := by
        by_cases h : j = k
        · rw [h, decide_eq_true rfl, decide_eq_true rfl]
        · rw [decide_eq_false h, decide_eq_false (fun e => h (by have := V.int.inj e; omega))]
      rw [hkj]
      have het := erase_take (j := k) hzs
      by_cases hkj2 : j = k
      · rw [decide_eq_true hkj2]
        refine iteF (LcP.skip e3 hy hl' ?_)
        rw [het, if_pos hkj2]
        exact ha'
      · rw [decide_eq_false hkj2]
        refine iteT ⟨_, rfl, LcP.push hD e3 hy hl' (by have := hz.1; have := hok.1; omega) ?_⟩
        rw [het, if_neg hkj2]
        exact (ha'.imp fun _ _ h => plv_upd h hy).app (.cons (plv_upd (hp.mono e3.ex) hy) .nil)
    · rintro H3 ys e3 hy ha3
      rw [hz.1, List.take_length] at ha3
      intro x dx2 hx hdx hxy
      have e13 := e1.trans e3.ex
      exact make_plV n1 n4 (SqL.of hy) ha3 (hok.erase k) hx hdx hxy fun H' r2 e hr2 h => q H' x r2 (e13.trans e) (none_ex e13 hr2) h
/-! ### turned, only -/
theorem gl_neg (zs : List Int) : gl (neg zs) = gl zs := by
  unfold gl neg
  rw [List.foldl_map]
  simp
theorem Pl.neg {n : Nat} {zs : List Int} (h : Pl n zs) : Pl n (neg zs) := by
  obtain ⟨h1, h2, ⟨z, hz, hz0⟩, h4⟩ := h
  refine ⟨by unfold PW.neg; rw [List.length_map, h1], fun y hy => ?_, ⟨-z, ?_, by omega⟩, by rw [gl_neg, h4]⟩
  · obtain ⟨x, hx, rfl⟩ := List.mem_map.mp hy
    have := h2 x hx
    omega
  · unfold PW.neg
    rw [← List.map_take]
    exact List.mem_map.mpr ⟨z, hz, rfl⟩
theorem PlanesOk.set {n : Nat} {zss : List (List Int)} (h : PlanesOk n zss) {j : Nat} {zs : List Int} (hj : zss[j]? = some zs) : PlanesOk n (zss.set j (neg zs)) := by
  obtain ⟨h1, h2, h3⟩ := h
  have hjl := (List.getElem?_eq_some_iff.mp hj).1
  have key : ∀ (i : Nat) (a : List Int), (zss.set j (neg zs))[i]? = some a → ∃ a0, zss[i]? = some a0 ∧ (a = a0 ∨ a = neg a0) := by
    intro i a ha
    by_cases e : j = i
    · subst e
      rw [List.getElem?_set_self hjl] at ha
      cases ha
      exact ⟨zs, hj, .inr rfl⟩
    · rw [List.getElem?_set_ne e] at ha
      exact ⟨a, ha, .inl rfl⟩
  refine ⟨by rw [List.length_set]; exact h1, fun a ha => ?_, fun i k a b hik ha hb => ?_⟩
  · obtain ⟨i, hi⟩ := List.mem_iff_getElem?.mp ha
    obtain ⟨a0, h0, e⟩ := key i a hi
    have := h2 a0 (List.mem_of_getElem? h0)
    rcases e with rfl | rfl
    · exact this
    · exact this.neg
  · obtain ⟨a0, ha0, ea⟩ := key i a ha
    obtain ⟨b0, hb0, eb⟩ := key k b hb
    have := h3 i k a0 b0 hik ha0 hb0
    have inj : ∀ {u v : List Int}, neg u = neg v → u = v := fun {u v} e => by
      have := congrArg neg e
      rwa [neg_neg, neg_neg] at this
    rcases ea with rfl | rfl <;> rcases eb with rfl | rfl
    · exact this
    · refine ⟨fun e => this.2 (by rw [← e, neg_neg]), fun e => this.1 (inj e)⟩
    · refine ⟨this.2, fun e => this.1 (by rw [e, neg_neg])⟩
    · refine ⟨fun e => this.1 (inj e), fun e => this.2 (by rw [neg_neg] at e; rw [← e, neg_neg])⟩
def sp_Planes_turned (K : PySem.W.Frag) (C cB : Addr) : Sp := fun vs H Q E => ∃ (a r : Addr) (n : Nat) (zss : List (List Int)) (i : Int), vs = [.ref a, .int i] ∧ PlsAt K C H a r n zss ∧ (¬ (0 ≤ i ∧ i < zss.length) → ∀ H', Ex H H' → E (.ref cB) none H') ∧
  ∀ (k : Nat) (zs : List Int), i = k → zss[k]? = some zs → ∀ H' a' r', Ex H H' → H r' = none → PlsAt K C H' a' r' n (zss.set k (neg zs)) → Q (.ref a') H'
theorem ok_Planes_turned (T : Txt K w mg ad fd) : CalM P w K mg base (L2N.CX P w) 6 (ad 1467) (fd 1467) ["self", "at"] (sp_Planes_turned K (ad 23) (ad 4)) := by
  refine ⟨T.f_Planes_turned.okXN sc_Planes_turned (fun vs H Q E h => ?_) (fun cdv A outer s H vs Q E hr h => ?_), T.f_Planes_turned.binds (ps := ["self", "at"]) fun _ _ _ _ _ _ us hl => match us, hl with | [_, _], _ => rfl⟩
  · obtain ⟨a, r, n, zss, i, rfl, _⟩ := h
    rfl
  · obtain ⟨a, r, n, zss, i0, rfl, hpl, qE, q0⟩ := h
    have sz : sizeLine = 16777216 := sizeLine_eq
    refine ⟨_, (pss_cons (ps_expr (pe_cal (ok_check_index T (P := P) (w := w) (base := base)) (hr.mono (by decide)) (L2N.passes_call (L2N.takes_of rfl rfl rfl rfl) fun _ _ _ _ h => h) (pa_cons (pv 0) (pa_cons (pv 1) pa_nil))))
    (pss_cons (ps_set (i := 2) sc_Planes_turned.nd rfl (by first | exact Or.inl rfl | exact Or.inr rfl) (pe_callTy (T := "list") (call_listSK (K := K) rfl) (by rfl) T.m_list (by decide +kernel) (pa_cons (pe_fldK (K := K) (pv 0) rfl) pa_nil)))
    (pss_cons (ps_asg (pe_cal (ok_negated T (P := P) (w := w) (base := base)) (hr.mono (by decide)) pass0 (pa_cons (pe_ix (ix_listK (K := K)) (pv 2) (pv 1) (fun _ _ => rfl)) pa_nil)) (pg_sub (pv 2) (pv 1) set_list))
    (pss_one (ps_ret (pe_make T.mk_Planes (ok_Planes_init T (P := P) (w := w) (base := base)).ok (hr.mono (by decide)) rfl T.g_Planes (ok_Planes_init T (P := P) (w := w) (base := base)).b .nil (L2N.passes_call (L2N.takes_of rfl rfl rfl rfl) fun _ _ _ _ h => h) (pa_cons (pe_fldK (K := K) (pv 0) rfl) (pa_cons (pv 2) pa_nil)))))))), ?_⟩
    refine ⟨_, rfl, _, rfl, a, r, n, zss, i0, rfl, hpl, fun hin H1 e1 => ?_, fun hin H1 e1 => qE hin H1 e1⟩
    obtain ⟨i, rfl⟩ : ∃ k : Nat, i0 = (k : Int) := ⟨i0.toNat, by omega⟩
    obtain ⟨zs, hzs⟩ : ∃ zs, zss[i]? = some zs := ⟨_, List.getElem?_eq_getElem (by omega)⟩
    have hil := (List.getElem?_eq_some_iff.mp hzs).1
    have q := q0 i zs rfl hzs
    obtain ⟨⟨dx, ha⟩, ⟨us, hr', hz⟩, n1, n4, hok⟩ := hpl.mono e1
    refine ⟨_, rfl, a, _, dx, _, _, rfl, ha, T.cl_Planes, T.na_Planes__rows, pflds_rows _ _, .lst r, us, rfl, SqL.of hr', by rw [hz.1]; have := hok.1; omega, fun l hl => ?_⟩
    have e2 := Ex.new (o := .lst us) hl
    have hz2 := hz.imp fun _ _ h => h.mono e2
    obtain ⟨u, hu⟩ : ∃ u, us[i]? = some u := ⟨_, List.getElem?_eq_getElem (by rw [hz.1]; exact hil)⟩
    have hpz := hz2.2 i u zs hu hzs
    have hl0 : H l = none := none_ex e1 hl
    have hlz : zs.length ≤ 1000 := by have := (hok.2.1 zs (List.mem_of_getElem? hzs)).1; omega
    refine ⟨_, rfl, _, rfl, l, us, i, u, rfl, rfl, SqL.of upd_same, atI_nat hu, u, zs, rfl, hpz, hlz, fun H3 v3 e3 h3 => ?_⟩
    have hl3 := e3 _ _ (upd_same (H := H1) (a := l) (o := .lst us))
    refine ⟨_, rfl, _, rfl, l, us, i, i, rfl, rfl, hl3, ?_, ?_⟩
    · unfold ixN
      have hlu : i < us.length := by rw [hz.1]; exact hil
      rw [if_pos (by omega), if_pos (by omega)]
      simp
    have eA : Ex H (upd H3 l (.lst (us.set i v3))) := Ex.mut ((e1.trans e2).trans e3) hl0
    have hz4 : All2 (PlV K (upd H3 l (.lst (us.set i v3)))) (us.set i v3) (zss.set i (neg zs)) :=
      All2.set (hz2.imp fun _ _ h => plv_upd (h.mono e3) hl3) (plv_upd h3 hl3)
    have ha4 : (upd H3 l (.lst (us.set i v3))) a = some (.ins (ad 23) dx (pflds n r)) := by
      rw [upd_ne (ne_of_none ha hl)]
      exact (e2.trans e3) _ _ ha
    have hl4 : (upd H3 l (.lst (us.set i v3))) l = some (.lst (us.set i v3)) := upd_same
    generalize upd H3 l (.lst (us.set i v3)) = H4 at eA hz4 ha4 hl4 ⊢
    refine ⟨_, rfl, a, _, dx, _, _, rfl, ha4, T.cl_Planes, T.na_Planes_n, pflds_n _ _, _, rfl, fun x dy hx hdy hxy => ?_⟩
    exact make_plV n1 n4 (SqL.of hl4) hz4 (hok.set hzs) hx hdy hxy fun H' r2 e hr2 h => q H' x r2 (eA.trans e) (none_ex eA hr2) h
theorem ascB_lt {is : List Int} (h : ascB is = true) : ∀ (i j : Nat) (x y : Int), i < j → is[i]? = some x → is[j]? = some y → x < y := by
  have step : ∀ (i : Nat) (x y : Int), is[i]? = some x → is[i + 1]? = some y → x < y := by
    intro i x y hx hy
    unfold ascB at h
    rw [List.all_eq_true] at h
    refine of_decide_eq_true (h (decide (x < y)) (List.mem_of_getElem? (i := i) ?_))
    rw [List.getElem?_zipWith, hx, List.getElem?_drop, show 1 + i = i + 1 by omega, hy]
  intro i j x y hij hx hy
  obtain ⟨d, rfl⟩ : ∃ d, j = i + 1 + d := ⟨j - (i + 1), by omega⟩
  induction d generalizing y with
  | zero => exact step i x y hx hy
  | succ d ih =>
    have hl := (List.getElem?_eq_some_iff.mp hy).1
    obtain ⟨z, hz⟩ : ∃ z, is[i + 1 + d]? = some z := ⟨_, List.getElem?_eq_getElem (by omega)⟩
    have h1 := ih z (by omega) hz
    have h2 := step (i + 1 + d) z y hz hy
    omega
def selL (zss : List (List Int)) (is : List Int) : List (List Int) := is.map fun i => zss.getD i.toNat []
theorem PlanesOk.only {n : Nat} {zss : List (List Int)} {is : List Int} (h : PlanesOk n zss) (hin : inAll zss.length is) (ha : ascB is = true) : PlanesOk n (selL zss is) := by
  have hlt := ascB_lt ha
  have hge : ∀ (i : Nat) (x : Int), is[i]? = some x → (i : Int) ≤ x := by
    intro i
    induction i with
    | zero =>
      intro x hx
      have := (hin x (List.mem_of_getElem? hx)).1
      omega
    | succ i ih =>
      intro x hx
      have hl := (List.getElem?_eq_some_iff.mp hx).1
      obtain ⟨z, hz⟩ : ∃ z, is[i]? = some z := ⟨_, List.getElem?_eq_getElem (by omega)⟩
      have h1 := ih z hz
      have h2 := hlt i (i + 1) z x (by omega) hz hx
      omega
  refine h.sel (fun k => (is.getD k 0).toNat) (fun i j hij hj => ?_) ?_ (fun k a hk => ?_)
  · unfold selL at hj
    rw [List.length_map] at hj
    have e1 : is[i]? = some (is.getD i 0) := by rw [List.getD_eq_getElem?_getD, List.getElem?_eq_getElem (by omega)]; rfl
    have e2 : is[j]? = some (is.getD j 0) := by rw [List.getD_eq_getElem?_getD, List.getElem?_eq_getElem hj]; rfl
    have h1 := hlt i j _ _ hij e1 e2
    have h2 := hge i _ e1
    show (is.getD i 0).toNat < (is.getD j 0).toNat
    omega
  · unfold selL
    rw [List.length_map]
    have h12 := h.1
    refine Classical.byContradiction fun hn => ?_
    have e1 : is[12]? = some (is.getD 12 0) := by rw [List.getD_eq_getElem?_getD, List.getElem?_eq_getElem (by omega)]; rfl
    have h1 := hge 12 _ e1
    have h2 := (hin _ (List.mem_of_getElem? e1)).2
    omega
  · unfold selL at hk
    rw [List.getElem?_map] at hk
    cases e : is[k]? with
    | none => rw [e] at hk; cases hk
    | some x =>
      rw [e] at hk
      cases hk
      have h1 := hin x (List.mem_of_getElem? e)
      have e2 : is.getD k 0 = x := by rw [List.getD_eq_getElem?_getD, e]; rfl
      show zss[(is.getD k 0).toNat]? = some (zss.getD x.toNat [])
      rw [e2, List.getD_eq_getElem?_getD, List.getElem?_eq_getElem (by omega)]
      rfl
def sp_Planes_only (K : PySem.W.Frag) (C cB : Addr) : Sp := fun vs H Q E => ∃ (a r : Addr) (n : Nat) (zss : List (List Int)) (v : V) (is : List Int), vs = [.ref a, v] ∧ PlsAt K C H a r n zss ∧ PlV K H v is ∧ is.length ≤ 1000 ∧ (¬ (inAll zss.length is ∧ ascB is = true) → ∀ H', Ex H H' → E (.ref cB) none H') ∧
  (inAll zss.length is ∧ ascB is = true → ∀ H' a' r', Ex H H' → H r' = none → PlsAt K C H' a' r' n (selL zss is) → Q (.ref a') H')
theorem ok_Planes_only (T : Txt K w mg ad fd) : CalM P w K mg base (L2N.CX P w) 6 (ad 1468) (fd 1468) ["self", "indexes"] (sp_Planes_only K (ad 23) (ad 4)) := by
  refine ⟨T.f_Planes_only.okXN sc_Planes_only (fun vs H Q E h => ?_) (fun cdv A outer s H vs Q E hr h => ?_), T.f_Planes_only.binds (ps := ["self", "indexes"]) fun _ _ _ _ _ _ us hl => match us, hl with | [_, _], _ => rfl⟩
  · obtain ⟨a, r, n, zss, v, is, rfl, _⟩ := h
    rfl
  · obtain ⟨a, r, n, zss, v, is, rfl, hpl, hv, hl, qE, q0⟩ := h
    have sz : sizeLine = 16777216 := sizeLine_eq
    refine ⟨_, (pss_cons (ps_expr (pe_cal (ok_check_indexes T (P := P) (w := w) (base := base)) (hr.mono (by decide)) (L2N.passes_call (L2N.takes_of rfl rfl rfl rfl) fun _ _ _ _ h => h) (pa_cons (pv 0) (pa_cons (pv 1) pa_nil))))
    (pss_one (ps_ret (pe_make T.mk_Planes (ok_Planes_init T (P := P) (w := w) (base := base)).ok (hr.mono (by decide)) rfl T.g_Planes (ok_Planes_init T (P := P) (w := w) (base := base)).b .nil (L2N.passes_call (L2N.takes_of rfl rfl rfl rfl) fun _ _ _ _ h => h) (pa_cons (pe_fldK (K := K) (pv 0) rfl) (pa_cons (pe_lc (own := [("at", 2)]) rfl sc_Planes_only.nd (pi_tup (pv 1)) (blkOk_by (N := ["self", "indexes", "at"]) (sc := defScope s_Planes_only) (by decide +kernel)) (fun _ _ _ _ _ => (pg_name (i := 2) sc_Planes_only.nd rfl (by first | exact Or.inl rfl | exact Or.inr rfl))) (fun _ _ _ _ _ => pts_nil) (fun _ _ _ _ _ => (pe_ix (ix_listK (K := K)) (pe_fldK (K := K) (pv 0) rfl) (pv 2) (fun _ _ => rfl)))) pa_nil)))))), ?_⟩
    refine ⟨_, rfl, _, rfl, a, r, n, zss, v, is, rfl, hpl, hv, hl, fun hin H1 e1 => ?_, fun hin H1 e1 => qE hin H1 e1⟩
    have q := q0 hin
    obtain ⟨⟨dx, ha⟩, ⟨us, hr', hz⟩, n1, n4, hok⟩ := hpl.mono e1
    obtain ⟨p, rfl, hp⟩ := hv.mono e1
    refine ⟨_, rfl, a, _, dx, _, _, rfl, ha, T.cl_Planes, T.na_Planes_n, pflds_n _ _, ?_⟩
    refine ⟨_, rfl, p, rfl, ⟨_, hp⟩, fun D hD => ?_⟩
    refine lc_acc (l := none) (wk_tup (K := K) (fun z => nomatch z) hp) hD (fun i acc H' => All2 (PlV K H') acc ((selL zss is).take i)) .nil (fun _ _ _ _ e h => h.imp fun _ _ h => h.mono e) ?_ ?_
    · rintro j x H3 acc hj e3 hy hl' ha' hx
      obtain ⟨z, rfl, hz'⟩ := int_at hx
      have hzr := hin.1 z (List.mem_of_getElem? hz')
      obtain ⟨k, rfl⟩ : ∃ k : Nat, z = (k : Int) := ⟨z.toNat, by omega⟩
      obtain ⟨u, hu⟩ : ∃ u, us[k]? = some u := ⟨_, List.getElem?_eq_getElem (by rw [hz.1]; omega)⟩
      obtain ⟨zs, hzs, hp2⟩ := hz.get hu
      refine ⟨rfl, ?_⟩
      refine ⟨_, rfl, a, _, dx, _, _, rfl, e3.ex _ _ ha, T.cl_Planes, T.na_Planes__rows, pflds_rows _ _, _, rfl, r, us, k, u, rfl, rfl, ex_l e3.ex (SqL.of hr'), atI_nat hu, LcP.push hD e3 hy hl' (by rw [List.length_map] at hj; omega) ?_⟩
      have hsel : (selL zss is)[j]? = some zs := by
        unfold selL
        rw [List.getElem?_map, hz']
        show some (zss.getD ((k : Int)).toNat []) = some zs
        rw [Int.toNat_natCast, List.getD_eq_getElem?_getD, hzs]
        rfl
      rw [List.take_add_one, hsel]
      exact (ha'.imp fun _ _ h => plv_upd h hy).app (.cons (plv_upd (hp2.mono e3.ex) hy) .nil)
    · rintro H3 ys e3 hy ha3
      rw [List.length_map, show is.length = (selL zss is).length by unfold selL; rw [List.length_map], List.take_length] at ha3
      intro x dx2 hx hdx hxy
      have e13 := e1.trans e3.ex
      exact make_plV n1 n4 (SqL.of hy) ha3 (hok.only hin.1 hin.2) hx hdx hxy fun H' r2 e hr2 h => q H' x r2 (e13.trans e) (none_ex e13 hr2) h
/-! ### the law's own draws -/
theorem map_int {ns : List Int} {i : Nat} {x : V} (h : (ns.map V.int)[i]? = some x) : ∃ z, x = .int z := by
  rw [List.getElem?_map] at h
  cases e : ns[i]? with
  | none =>
    rw [e] at h
    cases h
  | some z =>
    rw [e] at h
    exact ⟨z, (Option.some.inj h).symm⟩
def Dr (ds : List Int) : Prop := ∀ d ∈ ds, 0 ≤ d ∧ d < 1000
theorem Dr.app {ds es : List Int} (a : Dr ds) (b : Dr es) : Dr (ds ++ es) := fun d h => (List.mem_append.mp h).elim (a d) (b d)
theorem rest1000 (x : Int) : 0 ≤ x % 1000 ∧ x % 1000 < 1000 := by omega
/-- all that was stands; at l stand draws, at most n -/
def DrH (H0 : Hp) (l : Addr) (n : Nat) (H : Hp) : Prop := Ex H0 H ∧ H0 l = none ∧ ∃ ds : List Int, H l = some (.lst (ds.map V.int)) ∧ Dr ds ∧ ds.length ≤ n
def sp__law_number : Sp := fun vs H Q _ => ∃ c, vs = [.int c] ∧ Q (.int (c.natAbs : Int)) H
theorem ok__law_number (T : Txt K w mg ad fd) : Cal P w K mg base CX0 1 "_law_number" (ad 26) (fd 26) ["cell"] [] [] sp__law_number := by
  refine ⟨T.f__law_number.ok sc__law_number (fun vs H Q E h => ?_) (fun cdv A outer s H vs Q E hr h => ?_), T.g__law_number, T.f__law_number.kp, T.f__law_number.binds (ps := ["cell"]) fun _ _ _ _ _ _ us hl => match us, hl with | [_], _ => rfl, .nil⟩
  · obtain ⟨a, rfl, _⟩ := h
    rfl
  · obtain ⟨a, rfl, q⟩ := h
    refine ⟨_, (pss_cons (ps_if (pt_cmpR op_lt (pv 0) pe_int (nomark _)) (pss_one (ps_ret (pe_op op_sub pe_int (pv 0)))) pss_nil)
    (pss_one (ps_ret (pv 0)))), ?_⟩
    walk_at "go"
    by_cases h1 : a < 0
    · rw [if_pos h1]
      have e : (a.natAbs : Int) = 0 - a := by omega
      rw [← e]
      exact q
    · rw [if_neg h1]
      have e : (a.natAbs : Int) = a := by omega
      rw [← e]
      exact q
theorem DrH.put {H0 H H1 : Hp} {l : Addr} {n m : Nat} {zs : List Int} (h : DrH H0 l n H) (e : Ex H H1) (hz : Dr zs) (hm : n + zs.length ≤ m) :
    ∃ ds : List Int, H1 l = some (.lst (ds.map V.int)) ∧ ds.length ≤ n ∧ DrH H0 l m (upd H1 l (.lst (ds.map V.int ++ zs.map V.int))) := by
  obtain ⟨e0, nl, ds, hl, hd, hlen⟩ := h
  refine ⟨ds, e _ _ hl, hlen, (e0.trans e).mut nl, nl, ds ++ zs, ?_, hd.app hz, ?_⟩
  · rw [upd_same, List.map_append]
  · rw [List.length_append]
    omega
def sp__law_draws (K : PySem.W.Frag) : Sp := fun vs H Q _ => ∃ (a : Addr) (ns : List Int), vs = [.ref a] ∧ SqL K H a (ns.map V.int) ∧ ns.length ≤ 63 ∧ ∀ H' l, DrH H l 4000 H' → Q (.ref l) H'
theorem ok__law_draws (T : Txt K w mg ad fd) : Cal P w K mg base CX0 2 "_law_draws" (ad 27) (fd 27) ["script"] [] [] (sp__law_draws K) := by
  refine ⟨T.f__law_draws.ok sc__law_draws (fun vs H Q E h => ?_) (fun cdv A outer s H vs Q E hr h => ?_), T.g__law_draws, T.f__law_draws.kp, T.f__law_draws.binds (ps := ["script"]) fun _ _ _ _ _ _ us hl => match us, hl with | [_], _ => rfl, .nil⟩
  · obtain ⟨a, ns, rfl, _⟩ := h
    rfl
  · obtain ⟨a, ns, rfl, hS, hlen, q⟩ := h
    refine ⟨_, (pss_cons (ps_set (i := 1) sc__law_draws.nd rfl (by first | exact Or.inl rfl | exact Or.inr rfl) (pe_lst pa_nil))
    (pss_cons (ps_for (by first | exact PassesOwn.never | exact passes_of rfl) rfl (pi_list (pv 0)) (pg_name (i := 2) sc__law_draws.nd rfl (by first | exact Or.inl rfl | exact Or.inr rfl))
      (pss_cons (ps_set (i := 3) sc__law_draws.nd rfl (by first | exact Or.inl rfl | exact Or.inr rfl) (pe_cal (ok__law_number T (P := P) (w := w) (base := base)) (hr.mono (by decide)) pass0 (pa_cons (pv 2) pa_nil)))
    (pss_one (ps_if (pt_cmpR op_ge (pv 3) pe_int (nomark _)) (pss_one (ps_for (by first | exact PassesOwn.never | exact passes_of rfl) rfl (pi_range1 rfl T.m_range (pa_cons pe_int pa_nil)) (pg_name (i := 4) sc__law_draws.nd rfl (by first | exact Or.inl rfl | exact Or.inr rfl))
      (pss_cons (ps_if (pt_cmpR op_eq (pv 3) pe_int (nomark _)) (pss_one ps_break) pss_nil)
    (pss_cons (ps_expr (pe_bm PySem.F.plainAttrs_list PySem.F.slot_list_append PySem.F.type_list_append mt_append (pv 1) (pa_cons (pe_op op_mod (pe_callTy (T := "int") call_int1 (by rfl) T.m_int (by decide +kernel) (pa_cons (pv 3) pa_nil)) pe_int) pa_nil)))
    (pss_one (ps_set (i := 3) sc__law_draws.nd rfl (by first | exact Or.inl rfl | exact Or.inr rfl) (pe_op op_fdivG (pv 3) pe_int))))))) (pss_cons (ps_set (i := 5) sc__law_draws.nd rfl (by first | exact Or.inl rfl | exact Or.inr rfl) (pe_op op_mod (pe_callTy (T := "int") call_int1 (by rfl) T.m_int (by decide +kernel) (pa_cons (pe_op op_add (pe_op op_mulW (pv 3) pe_int) pe_int) pa_nil)) pe_int))
    (pss_cons (ps_set (i := 6) sc__law_draws.nd rfl (by first | exact Or.inl rfl | exact Or.inr rfl) (pe_op op_mod (pe_callTy (T := "int") call_int1 (by rfl) T.m_int (by decide +kernel) (pa_cons (pe_op op_add (pe_op op_mulW (pv 5) pe_int) (pv 3)) pa_nil)) pe_int))
    (pss_one (ps_expr (pe_bm PySem.F.plainAttrs_list PySem.F.slot_list_extend PySem.F.type_list_extend mt_extend (pv 1) (pa_cons (pe_lst (pa_cons (pe_op op_mod (pe_callTy (T := "int") call_int1 (by rfl) T.m_int (by decide +kernel) (pa_cons (pv 3) pa_nil)) pe_int) (pa_cons (pe_op op_mod (pe_callTy (T := "int") call_int1 (by rfl) T.m_int (by decide +kernel) (pa_cons (pv 5) pa_nil)) pe_int) (pa_cons (pe_op op_mod (pe_callTy (T := "int") call_int1 (by rfl) T.m_int (by decide +kernel) (pa_cons (pv 6) pa_nil)) pe_int) pa_nil)))) pa_nil))))))))))
    (pss_one (ps_ret (pv 1))))), ?_⟩
    refine ⟨Nat.zero_le _, fun l nl => ?_⟩
    have d0 : DrH H l 0 (upd H l (.lst [])) := ⟨Ex.new nl, nl, [], upd_same, (fun d h => nomatch h), Nat.le_refl _⟩
    refine ⟨.ref a, rfl, a, rfl, ⟨_, ex_l d0.1 hS⟩, for_list (K := K) (a := a) (xs := ns.map V.int)
      (fun i σ H' => ∃ c2 c3 c4 c5 c6, σ = [some (.ref a), some (.ref l), c2, c3, c4, c5, c6] ∧ DrH H l (60 * i) H') ⟨_, _, _, _, _, rfl, d0⟩ (fun i σ H' _ ⟨_, _, _, _, _, _, d⟩ => ex_l d.1 hS) ?_ ?_⟩
    · rintro i x σ H1 hi ⟨c2, c3, c4, c5, c6, rfl, d1⟩
      obtain ⟨z, rfl⟩ := map_int hi
      have hin : i < 63 := by
        have := (List.getElem?_eq_some_iff.mp hi).1
        rw [List.length_map] at this
        omega
      -- rest = _law_number(cell)
      refine ⟨.int z, rfl, z, rfl, ?_⟩
      -- rest >= 10 ** 18
      refine ⟨_, rfl, _, _, rfl, rfl, _, rfl, ite2 (fun hb => ?_) (fun hb => ?_)⟩
      · -- the long way
        refine ⟨60, rfl, by decide, by decide, for_range (lo := 0) (n := 60)
          (fun j σ H' => ∃ (r : Int) (c4 : Option V), 0 ≤ r ∧ σ = [some (.ref a), some (.ref l), some (.int z), some (.int r), c4, c5, c6] ∧ DrH H l (60 * i + j) H') ⟨_, _, by omega, rfl, d1⟩ ?_ ?_⟩
        · rintro j σ H2 hj ⟨r, c4', hr0, rfl, d2⟩
          refine ⟨_, rfl, rfl, _, rfl, ite2 (fun h0 => ?_) (fun h0 => ?_)⟩
          · exact ⟨_, _, _, _, _, rfl, d2.1, d2.2.1, let ⟨ds, h1, h2, h3⟩ := d2.2.2; ⟨ds, h1, h2, by omega⟩⟩
          · obtain ⟨ds, hl, hn, d3⟩ := d2.put (Ex.refl _) (zs := [r % 1000]) (fun d hd => (by
              cases List.mem_singleton.mp hd
              exact rest1000 r)) (Nat.le_refl _)
            refine ⟨.ref l, rfl, .inl ⟨rfl, _, .inl (.inl hl)⟩, ?_⟩
            refine ⟨_, rfl, .inl ⟨_, rfl, ?_⟩⟩
            refine ⟨_, _, rfl, rfl, (by show (0 : Int) < 1000; decide), ?_⟩
            refine ⟨l, _, _, rfl, rfl, hl, ?_, ?_⟩
            · rw [List.length_map]
              exact Nat.lt_of_le_of_lt hn (Nat.lt_of_lt_of_le (show _ < 4000 by omega) (by decide))
            · refine ⟨_, rfl, _, _, rfl, rfl, ⟨by decide, by decide⟩, ?_⟩
              refine ⟨_, _, ?_, rfl, d3⟩
              rw [Int.fdiv_eq_ediv_of_nonneg _ (by decide)]
              omega
        · rintro σ H2 ⟨r, c4', hr0, rfl, d2⟩
          exact ⟨_, _, _, _, _, rfl, d2.1, d2.2.1, let ⟨ds, h1, h2, h3⟩ := d2.2.2; ⟨ds, h1, h2, by omega⟩⟩
      · -- the short way
        have hb' : (z.natAbs : Int) < 1000000000000000000 := by
          have := of_decide_eq_false (Bool.eq_false_iff.mpr hb)
          omega
        walk_at "go"
        have k1 : ((z.natAbs : Int)).natAbs < 2 ^ 60 := by
          have : ((z.natAbs : Int)).natAbs = z.natAbs := by omega
          rw [this]
          have : (2 : Nat) ^ 60 = 1152921504606846976 := by decide
          omega
        have k2 : ((z.natAbs * 48271 + 11) % 2147483647 : Int).natAbs < 2 ^ 60 := by
          have : (2 : Nat) ^ 60 = 1152921504606846976 := by decide
          omega
        refine ⟨wide_mul (b := 17) k1 (by decide) (by decide) (by decide) (by decide), wide_mul (b := 17) k2 (by decide) (by decide) (by decide) (by decide), ?_⟩
        obtain ⟨_, _, ds0, hl, _, _⟩ := id d1
        refine ⟨.ref l, rfl, .inl ⟨rfl, _, .inl (.inl hl)⟩, ?_⟩
        walk_at "go"
        refine ⟨by decide, fun p hp => ?_⟩
        obtain ⟨ds, hl, hn, d3⟩ := d1.put (Ex.new hp) (m := 60 * (i + 1)) (zs := [(z.natAbs : Int) % 1000, ((z.natAbs : Int) * 48271 + 11) % 2147483647 % 1000, (((z.natAbs : Int) * 48271 + 11) % 2147483647 * 69621 + z.natAbs) % 2147483629 % 1000]) (fun d hd => (by
          simp only [List.mem_cons, List.not_mem_nil, or_false] at hd
          rcases hd with rfl | rfl | rfl <;> exact rest1000 _)) (by simp; omega)
        refine ⟨l, p, _, _, rfl, rfl, hl, upd_same, ?_, d3⟩
        rw [List.length_map]
        exact Nat.le_trans (show _ ≤ 4000 by simp; omega) (by decide)
    · rintro σ H1 ⟨c2, c3, c4, c5, c6, rfl, d1⟩
      refine ⟨_, rfl, q _ _ ⟨d1.1, nl, ?_⟩⟩
      obtain ⟨ds, h1, h2, h3⟩ := d1.2.2
      rw [List.length_map] at h3
      exact ⟨ds, h1, h2, by omega⟩
/-! ### draws that are used up; all else stands -/
def DrA (l : Addr) (H : Hp) : Prop := ∃ ds : List Int, H l = some (.lst (ds.map V.int)) ∧ Dr ds
def Mv (l : Addr) (H H' : Hp) : Prop := (∀ a o, a ≠ l → H a = some o → H' a = some o) ∧ DrA l H'
theorem Mv.trans {l : Addr} {H H1 H2 : Hp} (a : Mv l H H1) (b : Mv l H1 H2) : Mv l H H2 := ⟨fun x o n h => b.1 x o n (a.1 x o n h), b.2⟩
theorem Mv.of {l : Addr} {H H' : Hp} (d : DrA l H) (e : Ex H H') : Mv l H H' := ⟨fun a o _ h => e a o h, let ⟨ds, h1, h2⟩ := d; ⟨ds, e _ _ h1, h2⟩⟩
theorem Mv.refl {l : Addr} {H : Hp} (d : DrA l H) : Mv l H H := .of d (Ex.refl H)
theorem Mv.ex {l : Addr} {H H1 H2 : Hp} (a : Mv l H H1) (e : Ex H1 H2) : Mv l H H2 := a.trans (.of a.2 e)
theorem mv_t {K : PySem.W.Frag} {l p : Addr} {H H' : Hp} {xs : List V} (d : DrA l H) (m : Mv l H H') (h : SqT K H p xs) : SqT K H' p xs := by
  obtain ⟨ds, hl, _⟩ := d
  rcases h with (h | ⟨o, h⟩) | h
  · exact .inl (.inl (m.1 _ _ (ne_of h hl (fun z => nomatch z)) h))
  · exact .inl (.inr ⟨o, m.1 _ _ (ne_of h hl (fun z => nomatch z)) h⟩)
  · exact .inr h
theorem mv_num {K : PySem.W.Frag} {l : Addr} {H H' : Hp} {v : V} {a b : Int} (d : DrA l H) (m : Mv l H H') (n : Num K H v a b) : Num K H' v a b :=
  have ⟨p, h1, h2⟩ := n
  ⟨p, h1, mv_t d m h2⟩
def sp__law_next : Sp := fun vs H Q _ => ∃ l, vs = [.ref l] ∧ DrA l H ∧ ∀ H' d, 0 ≤ d → d < 1000 → Mv l H H' → Q (.int d) H'
theorem ok__law_next (T : Txt K w mg ad fd) : Cal P w K mg base CX0 1 "_law_next" (ad 28) (fd 28) ["draws"] [] [] sp__law_next := by
  refine ⟨T.f__law_next.ok sc__law_next (fun vs H Q E h => ?_) (fun cdv A outer s H vs Q E hr h => ?_), T.g__law_next, T.f__law_next.kp, T.f__law_next.binds (ps := ["draws"]) fun _ _ _ _ _ _ us hl => match us, hl with | [_], _ => rfl, .nil⟩
  · obtain ⟨l, rfl, _⟩ := h
    rfl
  · obtain ⟨l, rfl, ⟨ds, hl, hd⟩, q⟩ := h
    refine ⟨_, (pss_cons (ps_if (pt_truth (pv 0) (fun _ => rfl)) (pss_one (ps_ret (pe_bm0 PySem.F.plainAttrs_list PySem.F.slot_list_pop PySem.F.type_list_pop mt_pop (pv 0)))) pss_nil)
    (pss_one (ps_ret pe_int))), ?_⟩
    refine ⟨_, rfl, (!(ds.map V.int).isEmpty), .inl ⟨_, .inl (.inl hl), rfl⟩, ?_⟩
    by_cases hne : ds = []
    · subst hne
      exact q H 0 (by decide) (by decide) (Mv.refl ⟨[], hl, hd⟩)
    · obtain ⟨r, z, rfl⟩ : ∃ r z, ds = r ++ [z] := ⟨ds.dropLast, ds.getLast hne, (List.dropLast_concat_getLast hne).symm⟩
      have e : (!((r ++ [z]).map V.int).isEmpty) = true := by simp
      rw [e]
      refine iteT ?_
      refine ⟨_, rfl, .inl ⟨rfl, _, .inl (.inl hl)⟩, l, _, .int z, rfl, rfl, hl, ?_, ?_⟩
      · simp
      · have hz := hd z (by simp)
        refine q _ z hz.1 hz.2 ⟨fun a o n h => ?_, r, ?_, fun d h => hd d (List.mem_append_left _ h)⟩
        · rw [upd_ne n]
          exact h
        · rw [upd_same]
          simp
/-! ### the law's own divisor -/
theorem gcd_step (x y : Nat) : Nat.gcd y (x % y) = Nat.gcd x y := by
  rw [Nat.gcd_comm y, ← Nat.gcd_rec, Nat.gcd_comm]
theorem mod_half {x y : Nat} (h0 : 0 < y) (h : y ≤ x) : (x % y) * 2 ≤ x := by
  have h1 := Nat.mod_lt x h0
  have h2 := Nat.div_add_mod x y
  have h3 : 1 ≤ x / y := (Nat.one_le_div_iff h0).mpr h
  have h4 : y * 1 ≤ y * (x / y) := Nat.mul_le_mul_left y h3
  omega
/-- the pair of the turn j of Euclid's way, from a pair whose product is at most C -/
def Eu (g C j x y : Nat) : Prop := Nat.gcd x y = g ∧ (x * y) * 2 ^ (j - 1) ≤ C ∧ (1 ≤ j → y ≤ x)
theorem Eu.step {g C j x y : Nat} (e : Eu g C j x y) (h : y ≠ 0) : Eu g C (j + 1) y (x % y) := by
  obtain ⟨h1, h2, h3⟩ := e
  have h0 : 0 < y := Nat.pos_of_ne_zero h
  refine ⟨(gcd_step x y).trans h1, ?_, fun _ => Nat.le_of_lt (Nat.mod_lt x h0)⟩
  rw [Nat.add_sub_cancel]
  cases j with
  | zero =>
    have h5 : y * (x % y) ≤ y * x := Nat.mul_le_mul_left y (Nat.mod_le x y)
    rw [Nat.mul_comm y x] at h5
    simp only [Nat.pow_zero, Nat.mul_one] at *
    have h2' : x * y * 2 ^ (0 - 1) ≤ C := h2
    simp only [Nat.zero_sub, Nat.pow_zero, Nat.mul_one] at h2'
    omega
  | succ k =>
    have h5 := mod_half h0 (h3 (by omega))
    rw [Nat.add_sub_cancel] at h2
    refine Nat.le_trans ?_ h2
    rw [Nat.pow_succ, Nat.mul_comm (2 ^ k) 2, ← Nat.mul_assoc]
    refine Nat.mul_le_mul_right _ ?_
    rw [Nat.mul_assoc, Nat.mul_comm x y]
    exact Nat.mul_le_mul_left y h5
theorem Eu.ends {g j x y : Nat} {n : Nat} (e : Eu g (2 ^ n) j x y) (h : n + 1 < j) : y = 0 := by
  obtain ⟨h1, h2, h3⟩ := e
  cases y with
  | zero => rfl
  | succ y =>
    have h4 := h3 (by omega)
    have h5 : 1 ≤ x * (y + 1) := Nat.mul_le_mul (by omega : 1 ≤ x) (by omega : 1 ≤ y + 1)
    have h6 : 1 * 2 ^ (j - 1) ≤ x * (y + 1) * 2 ^ (j - 1) := Nat.mul_le_mul_right _ h5
    have h7 : 2 ^ n < 2 ^ (j - 1) := Nat.pow_lt_pow_right (by decide) (by omega)
    omega
def sp__law_divisor : Sp := fun vs H Q _ => ∃ a b : Int, vs = [.int a, .int b] ∧ a.natAbs < 2 ^ 4000 ∧ b.natAbs < 2 ^ 4000 ∧ Q (.int ((a.natAbs.gcd b.natAbs : Nat) : Int)) H
theorem ok__law_divisor (T : Txt K w mg ad fd) : Cal P w K mg base CX0 1 "_law_divisor" (ad 29) (fd 29) ["a", "b"] [] [] sp__law_divisor := by
  refine ⟨T.f__law_divisor.ok sc__law_divisor (fun vs H Q E h => ?_) (fun cdv A outer s H vs Q E hr h => ?_), T.g__law_divisor, T.f__law_divisor.kp, T.f__law_divisor.binds (ps := ["a", "b"]) fun _ _ _ _ _ _ us hl => match us, hl with | [_, _], _ => rfl, .nil⟩
  · obtain ⟨a, b, rfl, _⟩ := h
    rfl
  · obtain ⟨a, b, rfl, ha, hb, q⟩ := h
    refine ⟨_, (pss_cons (ps_set (i := 2) sc__law_divisor.nd rfl (by first | exact Or.inl rfl | exact Or.inr rfl) (pe_callB call_abs (by rfl) T.m_abs (by decide +kernel) (pa_cons (pv 0) pa_nil)))
    (pss_cons (ps_set (i := 3) sc__law_divisor.nd rfl (by first | exact Or.inl rfl | exact Or.inr rfl) (pe_callB call_abs (by rfl) T.m_abs (by decide +kernel) (pa_cons (pv 1) pa_nil)))
    (pss_cons (ps_for (by first | exact PassesOwn.never | exact passes_of rfl) rfl (pi_range1 rfl T.m_range (pa_cons (pe_op op_pow pe_int pe_int) pa_nil)) (pg_name (i := 4) sc__law_divisor.nd rfl (by first | exact Or.inl rfl | exact Or.inr rfl))
      (pss_cons (ps_if (pt_cmpR op_eq (pv 3) pe_int (nomark _)) (pss_one ps_break) pss_nil)
    (pss_one (ps_par (i := 2) (j := 3) rfl sc__law_divisor.nd rfl rfl (by decide) rfl rfl (pa_cons (pv 3) (pa_cons (pe_op op_mod (pe_callTy (T := "int") call_int1 (by rfl) T.m_int (by decide +kernel) (pa_cons (pv 2) pa_nil)) (pv 3)) pa_nil)) rfl))))
    (pss_one (ps_ret (pv 2)))))), ?_⟩
    have abs : ∀ x : Int, (if x < 0 then -x else x) = ((x.natAbs : Nat) : Int) := fun x => by split <;> omega
    refine ⟨_, rfl, a, rfl, ?_⟩
    refine ⟨_, rfl, b, rfl, ?_⟩
    rw [abs, abs]
    refine ⟨_, _, rfl, rfl, ⟨by decide, by decide, by decide⟩, ?_⟩
    refine ⟨_, rfl, by decide, by decide, for_range (lo := 0) (n := 1000000000)
      (fun j σ H' => ∃ (x y : Nat) (c4 : Option V), σ = [some (.int a), some (.int b), some (.int x), some (.int y), c4] ∧ H' = H ∧ Eu (a.natAbs.gcd b.natAbs) (2 ^ 8000) j x y) ⟨_, _, none, rfl, rfl, rfl, ?_, fun z => absurd z (by decide)⟩ ?_ ?_⟩
    · simp only [Nat.zero_sub, Nat.pow_zero, Nat.mul_one]
      rw [show (8000 : Nat) = 4000 + 4000 from rfl, Nat.pow_add]
      exact Nat.mul_le_mul (Nat.le_of_lt ha) (Nat.le_of_lt hb)
    · rintro j σ H' hj ⟨x, y, c4, rfl, rfl, e⟩
      refine ⟨_, rfl, rfl, _, rfl, ite2 (fun h0 => ?_) (fun h0 => ?_)⟩
      · have hy : y = 0 := by
          have := V.int.inj (of_decide_eq_true h0)
          omega
        refine ⟨_, rfl, ?_⟩
        rw [hy] at e
        have e1 := e.1
        rw [Nat.gcd_zero_right] at e1
        rw [e1]
        exact q
      · have hy : y ≠ 0 := fun z => h0 (by rw [z]; rfl)
        refine ⟨_, rfl, _, rfl, .inl ⟨_, rfl, _, rfl, _, _, rfl, rfl, (by omega : (0 : Int) < (y : Int)), ?_⟩⟩
        exact ⟨_, _, rfl, y, x % y, _, rfl, rfl, e.step hy⟩
    · rintro σ H' ⟨x, y, c4, rfl, rfl, e⟩
      have hy := e.ends (by decide)
      rw [hy] at e
      have e1 := e.1
      rw [Nat.gcd_zero_right] at e1
      refine ⟨_, rfl, ?_⟩
      rw [e1]
      exact q
def sp__law_lowest (K : PySem.W.Frag) : Sp := fun vs H Q _ => ∃ a b : Int, vs = [.int a, .int b] ∧ a.natAbs < 2 ^ 4000 ∧ b.natAbs < 2 ^ 4000 ∧ b ≠ 0 ∧ ∀ H' v, Ex H H' → Num K H' v (nrm a b).1 (nrm a b).2 → Q v H'
theorem ok__law_lowest (T : Txt K w mg ad fd) : Cal P w K mg base CX0 2 "_law_lowest" (ad 30) (fd 30) ["a", "b"] [] [] (sp__law_lowest K) := by
  refine ⟨T.f__law_lowest.ok sc__law_lowest (fun vs H Q E h => ?_) (fun cdv A outer s H vs Q E hr h => ?_), T.g__law_lowest, T.f__law_lowest.kp, T.f__law_lowest.binds (ps := ["a", "b"]) fun _ _ _ _ _ _ us hl => match us, hl with | [_, _], _ => rfl, .nil⟩
  · obtain ⟨a, b, rfl, _⟩ := h
    rfl
  · obtain ⟨a, b, rfl, ha, hb, h0, q⟩ := h
    refine ⟨_, (pss_cons (ps_set (i := 2) sc__law_lowest.nd rfl (by first | exact Or.inl rfl | exact Or.inr rfl) (pe_cal (ok__law_divisor T (P := P) (w := w) (base := base)) (hr.mono (by decide)) pass0 (pa_cons (pv 0) (pa_cons (pv 1) pa_nil))))
    (pss_cons (ps_if (pt_cmpR op_lt (pv 1) pe_int (nomark _)) (pss_one (ps_set (i := 2) sc__law_lowest.nd rfl (by first | exact Or.inl rfl | exact Or.inr rfl) (pe_op op_sub pe_int (pv 2)))) pss_nil)
    (pss_one (ps_ret (pe_tup (pa_cons (pe_op op_fdivG (pv 0) (pv 2)) (pa_cons (pe_op op_fdivG (pv 1) (pv 2)) pa_nil))))))), ?_⟩
    have hb8 : b.natAbs < 2 ^ 8000 := Nat.lt_of_lt_of_le hb (Nat.pow_le_pow_right (by decide) (by decide))
    walk_at "go"
    refine ⟨a, b, rfl, ha, hb, ?_⟩
    walk_at "go"
    have fin : ∀ g : Int, g = sg a b → CDivG a g ∧ CDivG b g ∧ (2 : Nat) ≤ sizeLine ∧ ∀ p, H p = none → Q (.ref p) (upd H p (.tup [.int (a.fdiv g), .int (b.fdiv g)])) := by
      rintro g rfl
      refine ⟨⟨sg_ne h0, sg_small h0 hb8⟩, ⟨sg_ne h0, sg_small h0 hb8⟩, by decide, fun p hp => ?_⟩
      exact q _ _ (Ex.new hp) ⟨p, rfl, .inl (.inl upd_same)⟩
    by_cases hlt : b < 0
    · rw [if_pos hlt]
      exact fin _ (by unfold sg; rw [if_pos hlt]; omega)
    · rw [if_neg hlt]
      exact fin _ (by unfold sg; rw [if_neg hlt])
/-! ### lowest terms -/
theorem sg_dvd (a b : Int) : sg a b ∣ a ∧ sg a b ∣ b := by
  have h1 : (sg a b).natAbs ∣ a.natAbs := by rw [sg_abs]; exact Nat.gcd_dvd_left _ _
  have h2 : (sg a b).natAbs ∣ b.natAbs := by rw [sg_abs]; exact Nat.gcd_dvd_right _ _
  exact ⟨Int.natAbs_dvd_natAbs.mp h1, Int.natAbs_dvd_natAbs.mp h2⟩
theorem gcd_pos' {a b : Int} (h : b ≠ 0) : 0 < a.natAbs.gcd b.natAbs := Nat.gcd_pos_of_pos_right _ (by omega)
theorem nrm_abs (a b : Int) (h : b ≠ 0) : (nrm a b).1.natAbs = a.natAbs / a.natAbs.gcd b.natAbs ∧ (nrm a b).2.natAbs = b.natAbs / a.natAbs.gcd b.natAbs := by
  obtain ⟨d1, d2⟩ := sg_dvd a b
  unfold nrm
  dsimp only
  rw [Int.fdiv_eq_ediv_of_dvd d1, Int.fdiv_eq_ediv_of_dvd d2, Int.natAbs_ediv_of_dvd d1, Int.natAbs_ediv_of_dvd d2, sg_abs]
  exact ⟨rfl, rfl⟩
theorem nrm_pos {a b : Int} (h : b ≠ 0) : 1 ≤ (nrm a b).2 := by
  obtain ⟨_, k, hk⟩ := sg_dvd a b
  have hg := gcd_pos' (a := a) h
  have e : (nrm a b).2 = k := by
    unfold nrm
    dsimp only
    have h0 : sg a b ≠ 0 := fun z => by
      have := sg_abs a b
      omega
    rw [Int.fdiv_eq_ediv_of_dvd ⟨k, hk⟩]
    have : b / sg a b = (sg a b * k) / sg a b := by rw [← hk]
    rw [this, Int.mul_ediv_cancel_left _ h0]
  rw [e]
  by_cases hb : b < 0
  · have hs : sg a b < 0 := by unfold sg; rw [if_pos hb]; omega
    have : 0 < k := by
      rcases Int.lt_trichotomy k 0 with z | z | z
      · have := Int.mul_pos_of_neg_of_neg hs z
        omega
      · rw [z, Int.mul_zero] at hk
        omega
      · exact z
    omega
  · have hs : 0 < sg a b := by unfold sg; rw [if_neg hb]; omega
    have : 0 < k := by
      rcases Int.lt_trichotomy k 0 with z | z | z
      · have := Int.mul_neg_of_pos_of_neg hs z
        omega
      · rw [z, Int.mul_zero] at hk
        omega
      · exact z
    omega
theorem nrm_isN {a b : Int} (h : b ≠ 0) : isN (nrm a b).1 (nrm a b).2 := by
  refine ⟨nrm_pos h, ?_⟩
  obtain ⟨h1, h2⟩ := nrm_abs a b h
  have hg := gcd_pos' (a := a) h
  unfold Int.gcd
  rw [h1, h2, Nat.gcd_div (Nat.gcd_dvd_left _ _) (Nat.gcd_dvd_right _ _)]
  exact Nat.div_self hg
theorem nrm_le {a b : Int} (h : b ≠ 0) : (nrm a b).1.natAbs ≤ a.natAbs ∧ (nrm a b).2.natAbs ≤ b.natAbs := by
  obtain ⟨h1, h2⟩ := nrm_abs a b h
  rw [h1, h2]
  exact ⟨Nat.div_le_self _ _, Nat.div_le_self _ _⟩
/-! ### the law's own numbers -/
theorem nrm_eq {p q : Int} (h : q ≠ 0) : (nrm p q).1 * q = (nrm p q).2 * p := by
  have key : ∀ g : Int, g ≠ 0 → g ∣ p → g ∣ q → p.fdiv g * q = q.fdiv g * p := by
    rintro g hg ⟨x, rfl⟩ ⟨y, rfl⟩
    rw [Int.fdiv_eq_ediv_of_dvd ⟨x, rfl⟩, Int.fdiv_eq_ediv_of_dvd ⟨y, rfl⟩, Int.mul_ediv_cancel_left x hg, Int.mul_ediv_cancel_left y hg]
    ac_rfl
  exact key _ (sg_ne h) (sg_dvd p q).1 (sg_dvd p q).2
def sp2 (K : PySem.W.Frag) (f g : Int → Int → Int → Int → Int) : Sp := fun vs H Q _ => ∃ (x y : V) (a b c d : Int), vs = [x, y] ∧ Num K H x a b ∧ Num K H y c d ∧ (a.natAbs < 2 ^ 1000 ∧ b.natAbs < 2 ^ 1000 ∧ c.natAbs < 2 ^ 1000 ∧ d.natAbs < 2 ^ 1000) ∧ b ≠ 0 ∧ d ≠ 0 ∧
  ∀ H' v, Ex H H' → Num K H' v (nrm (f a b c d) (g a b c d)).1 (nrm (f a b c d) (g a b c d)).2 → Q v H'
theorem lt2000 {x y : Int} (hx : x.natAbs < 2 ^ 1000) (hy : y.natAbs < 2 ^ 1000) : (x * y).natAbs < 2 ^ 2000 := by
  rw [Int.natAbs_mul, show (2 : Nat) ^ 2000 = 2 ^ 1000 * 2 ^ 1000 by rw [← Nat.pow_add]]
  exact Nat.mul_lt_mul'' hx hy
theorem up3000 {x : Int} (hx : x.natAbs < 2 ^ 1000) : x.natAbs < 2 ^ 3000 := pow_up hx (by decide)
theorem ok__law_times (T : Txt K w mg ad fd) : Cal P w K mg base CX0 3 "_law_times" (ad 32) (fd 32) ["x", "y"] [] [] (sp2 K (fun a b c d => a * c) (fun a b c d => b * d)) := by
  refine ⟨T.f__law_times.ok sc__law_times (fun vs H Q E h => ?_) (fun cdv A outer s H vs Q E hr h => ?_), T.g__law_times, T.f__law_times.kp, T.f__law_times.binds (ps := ["x", "y"]) fun _ _ _ _ _ _ us hl => match us, hl with | [_, _], _ => rfl, .nil⟩
  · obtain ⟨x, y, a, b, c, d, rfl, _⟩ := h
    rfl
  · obtain ⟨x, y, a, b, c, d, rfl, ⟨px, rfl, hx⟩, ⟨py, rfl, hy⟩, ⟨ha, hb, hc, hd⟩, hb0, hd0, q⟩ := h
    refine ⟨_, (pss_one (ps_ret (pe_cal (ok__law_lowest T (P := P) (w := w) (base := base)) (hr.mono (by decide)) pass0 (pa_cons (pe_op op_mulW (pe_ix (ix_tupK (K := K)) (pv 0) pe_int (fun _ _ => rfl)) (pe_ix (ix_tupK (K := K)) (pv 1) pe_int (fun _ _ => rfl))) (pa_cons (pe_op op_mulW (pe_ix (ix_tupK (K := K)) (pv 0) pe_int (fun _ _ => rfl)) (pe_ix (ix_tupK (K := K)) (pv 1) pe_int (fun _ _ => rfl))) pa_nil))))), ?_⟩
    have k : (2 : Nat) ^ 2000 ≤ 2 ^ 4000 := Nat.pow_le_pow_right (by decide) (by decide)
    refine ⟨_, rfl, px, _, 0, _, rfl, rfl, hx, rfl, _, rfl, py, _, 0, _, rfl, rfl, hy, rfl, a, c, rfl, rfl, mul_ok (up3000 ha) (up3000 hc),
      _, rfl, px, _, 1, _, rfl, rfl, hx, rfl, _, rfl, py, _, 1, _, rfl, rfl, hy, rfl, b, d, rfl, rfl, mul_ok (up3000 hb) (up3000 hd), _, _, rfl, ?_, ?_, Int.mul_ne_zero hb0 hd0, fun H' v e n => q H' v e n⟩
    · have h1 := lt2000 ha hc
      omega
    · have h1 := lt2000 hb hd
      omega
/-! ### the steps to the echelon form, up to factors -/
theorem prim_rel {zs : List Int} {e : Nat} (hb : ∀ z ∈ zs, z.natAbs < 2 ^ e) : ∃ c : Int, c ≠ 0 ∧ c.natAbs < 2 ^ (e + 1) ∧ ∀ j, zs.getD j 0 = c * (prim zs).getD j 0 := by
  have p1 : 1 < 2 ^ (e + 1) := Nat.one_lt_two_pow (by omega)
  have p0 : 0 < 2 ^ e := Nat.pow_pos (by decide)
  by_cases hg : 1 < gl zs
  · have hgs := gl_small (zs := zs) (B := 2 ^ e) (by omega) fun z hz => Nat.le_of_lt (hb z hz)
    refine ⟨(gl zs : Nat), by omega, by show gl zs < 2 ^ (e + 1); rw [Nat.pow_succ]; omega, fun j => ?_⟩
    have hpr : prim zs = zs.map fun z => z.fdiv ((gl zs : Nat) : Int) := by unfold prim; rw [if_pos hg]
    rw [hpr, List.getD_eq_getElem?_getD, List.getD_eq_getElem?_getD, List.getElem?_map]
    cases h : zs[j]? with
    | none => show (0 : Int) = _ * 0; rw [Int.mul_zero]
    | some z =>
      have hd := gl_dvd zs z (List.mem_of_getElem? h)
      show z = _ * z.fdiv _
      rw [Int.fdiv_eq_ediv_of_dvd hd, Int.mul_ediv_cancel' hd]
  · have hpr : prim zs = zs := by unfold prim; rw [if_neg hg]
    exact ⟨1, by decide, by show 1 < _; exact p1, fun j => by rw [hpr, Int.one_mul]⟩
theorem strk_rel {xs ys : List Int} {p e : Nat} (lx : p < xs.length) (lxy : ys.length = xs.length) (bx : ∀ z ∈ xs, z.natAbs < 2 ^ e) (bY : ∀ z ∈ ys, z.natAbs < 2 ^ e) (h0 : ys.getD p 0 ≠ 0) :
    ∃ c : Int, c ≠ 0 ∧ c.natAbs < 2 ^ (3 * e + 2) ∧ ∀ j, ys.getD p 0 * xs.getD j 0 - xs.getD p 0 * ys.getD j 0 = c * (strk xs ys p).getD j 0 := by
  have mx := bx _ (getD_mem lx)
  have my := bY _ (getD_mem (zs := ys) (p := p) (by omega))
  by_cases hx : xs.getD p 0 = 0
  · have hs : strk xs ys p = xs := by unfold strk; rw [if_pos hx]
    refine ⟨ys.getD p 0, h0, Nat.lt_of_lt_of_le my (Nat.pow_le_pow_right (by decide) (by omega)), fun j => ?_⟩
    rw [hs, hx, Int.zero_mul, Int.sub_zero]
  · generalize hG : (xs.getD p 0).natAbs.gcd (ys.getD p 0).natAbs = G
    have g0 : 0 < G := by rw [← hG]; exact Nat.gcd_pos_of_pos_left _ (by omega)
    have gA : (G : Int) ∣ xs.getD p 0 := Int.natAbs_dvd_natAbs.mp (by rw [← hG]; exact Nat.gcd_dvd_left _ _)
    have gB : (G : Int) ∣ ys.getD p 0 := Int.natAbs_dvd_natAbs.mp (by rw [← hG]; exact Nat.gcd_dvd_right _ _)
    have gle : G ≤ (xs.getD p 0).natAbs := by rw [← hG]; exact Nat.gcd_le_left _ (by omega)
    have eA : (G : Int) * (xs.getD p 0).fdiv G = xs.getD p 0 := by rw [Int.fdiv_eq_ediv_of_dvd gA, Int.mul_ediv_cancel' gA]
    have eB : (G : Int) * (ys.getD p 0).fdiv G = ys.getD p 0 := by rw [Int.fdiv_eq_ediv_of_dvd gB, Int.mul_ediv_cancel' gB]
    have dA := fdiv_le g0 gA
    have dB := fdiv_le g0 gB
    have hs : strk xs ys p = prim (List.zipWith (fun a b => (ys.getD p 0).fdiv (G : Int) * a - (xs.getD p 0).fdiv (G : Int) * b) xs ys) := by
      unfold strk
      rw [if_neg hx, hG]
    rw [hs]
    generalize hA : xs.getD p 0 = A at *
    generalize hB : ys.getD p 0 = B at *
    generalize A.fdiv (G : Int) = N at *
    generalize B.fdiv (G : Int) = M at *
    have pos : 0 < 2 ^ e := Nat.pow_pos (by decide)
    have e2 : (2 : Nat) ^ (2 * e + 1) = 2 ^ e * 2 ^ e + 2 ^ e * 2 ^ e := by rw [Nat.pow_succ, Nat.two_mul, Nat.pow_add]; omega
    have key : ∀ z ∈ List.zipWith (fun a b => M * a - N * b) xs ys, z.natAbs < 2 ^ (2 * e + 1) := by
      intro z hz
      obtain ⟨i, hi⟩ := List.mem_iff_getElem?.mp hz
      rw [List.getElem?_zipWith] at hi
      cases ha : xs[i]? with
      | none => rw [ha] at hi; cases hi
      | some a =>
        cases hb : ys[i]? with
        | none => rw [ha, hb] at hi; cases hi
        | some b =>
          rw [ha, hb] at hi
          cases hi
          have ba := bx a (List.mem_of_getElem? ha)
          have bb := bY b (List.mem_of_getElem? hb)
          have h1 : (M * a).natAbs < 2 ^ e * 2 ^ e := by rw [Int.natAbs_mul]; exact Nat.mul_lt_mul'' (by omega) (by omega)
          have h2 : (N * b).natAbs < 2 ^ e * 2 ^ e := by rw [Int.natAbs_mul]; exact Nat.mul_lt_mul'' (by omega) (by omega)
          generalize 2 ^ e * 2 ^ e = W at h1 h2 e2
          omega
    obtain ⟨c, c0, cb, hc⟩ := prim_rel key
    refine ⟨G * c, Int.mul_ne_zero (by omega) c0, ?_, fun j => ?_⟩
    · rw [Int.natAbs_mul]
      have : (G : Int).natAbs * c.natAbs < 2 ^ e * 2 ^ (2 * e + 1 + 1) := Nat.mul_lt_mul'' (by show G < _; omega) cb
      rw [← Nat.pow_add, show e + (2 * e + 1 + 1) = 3 * e + 2 by omega] at this
      exact this
    · rw [Int.mul_assoc, ← hc j, List.getD_eq_getElem?_getD (l := List.zipWith _ _ _), List.getElem?_zipWith, List.getD_eq_getElem?_getD, List.getD_eq_getElem?_getD]
      by_cases hj : j < xs.length
      · rw [List.getElem?_eq_getElem hj, List.getElem?_eq_getElem (show j < ys.length by omega)]
        show B * xs[j] - A * ys[j] = G * (M * xs[j] - N * ys[j])
        rw [← eA, ← eB]
        grind
      · rw [List.getElem?_eq_none (by omega), List.getElem?_eq_none (show ys.length ≤ j by omega)]
        show B * 0 - A * 0 = G * 0
        simp
/-! ### rows of fractions, alike up to a factor -/
def Sim (S T : Nat) (L : List (Int × Int)) (P : List Int) : Prop := L.length = P.length ∧ ptN L ∧ ∃ s t : Int, s ≠ 0 ∧ t ≠ 0 ∧ s.natAbs < 2 ^ S ∧ t.natAbs < 2 ^ T ∧ ∀ j, t * (L.getD j (0, 1)).1 = s * P.getD j 0 * (L.getD j (0, 1)).2
def tmN (x y : Int × Int) : Int × Int := nrm (x.1 * y.1) (x.2 * y.2)
def lsN (x y : Int × Int) : Int × Int := nrm (x.1 * y.2 - y.1 * x.2) (x.2 * y.2)
def ovN (x y : Int × Int) : Int × Int := nrm (x.1 * y.2) (x.2 * y.1)
def takenL (L D : List (Int × Int)) (p : Nat) : List (Int × Int) := List.zipWith (fun x d => lsN x (tmN (L.getD p (0, 1)) d)) L D
def leadL (L : List (Int × Int)) (p : Nat) : List (Int × Int) := L.map fun x => ovN x (L.getD p (0, 1))
theorem Sim.get {S T : Nat} {L : List (Int × Int)} {P : List Int} (h : Sim S T L P) {j : Nat} (hj : j < P.length) : L[j]? = some (L.getD j (0, 1)) ∧ isN (L.getD j (0, 1)).1 (L.getD j (0, 1)).2 := by
  have e : L[j]? = some (L.getD j (0, 1)) := by rw [List.getD_eq_getElem?_getD, List.getElem?_eq_getElem (by rw [h.1]; exact hj)]; rfl
  exact ⟨e, h.2.1 _ (List.mem_of_getElem? e)⟩
theorem Sim.zero {S T : Nat} {L : List (Int × Int)} {P : List Int} (h : Sim S T L P) {j : Nat} (hj : j < P.length) : (L.getD j (0, 1)).1 = 0 ↔ P.getD j 0 = 0 := by
  have hn := (h.get hj).2
  obtain ⟨_, _, s, t, s0, t0, _, _, hst⟩ := h
  have e := hst j
  generalize L.getD j (0, 1) = x at e hn
  have x2 := hn.1
  constructor
  · intro hx
    rw [hx, Int.mul_zero] at e
    have h1 := (Int.mul_eq_zero.mp e.symm).resolve_right (by omega)
    exact (Int.mul_eq_zero.mp h1).resolve_left s0
  · intro hp
    rw [hp, Int.mul_zero, Int.zero_mul] at e
    exact (Int.mul_eq_zero.mp e).resolve_left t0
theorem Sim.bound {S T e : Nat} {L : List (Int × Int)} {P : List Int} (h : Sim S T L P) (hb : ∀ z ∈ P, z.natAbs < 2 ^ e) {j : Nat} (hj : j < P.length) : (L.getD j (0, 1)).1.natAbs < 2 ^ (S + e) ∧ (L.getD j (0, 1)).2.natAbs < 2 ^ T := by
  have hn := (h.get hj).2
  have hz := h.zero hj
  have hp := hb _ (getD_mem hj)
  obtain ⟨_, _, s, t, s0, t0, sb, tb, hst⟩ := h
  have eq := hst j
  generalize L.getD j (0, 1) = x at eq hn hz
  generalize P.getD j 0 = z at eq hz hp
  obtain ⟨x2, hg⟩ := hn
  have pos : 0 < 2 ^ (S + e) := Nat.pow_pos (by decide)
  constructor
  · by_cases h0 : x.1 = 0
    · rw [h0]
      exact pos
    · have z0 : z ≠ 0 := fun h => h0 (hz.mpr h)
      have hd : x.1 ∣ s * z := by
        have h1 : x.1 ∣ s * z * x.2 := ⟨t, by rw [← eq]; ac_rfl⟩
        have h2 : x.1.natAbs ∣ (s * z).natAbs * x.2.natAbs := by rw [← Int.natAbs_mul]; exact Int.natAbs_dvd_natAbs.mpr h1
        exact Int.natAbs_dvd_natAbs.mp (Nat.Coprime.dvd_of_dvd_mul_right hg h2)
      have hle := Nat.le_of_dvd (by have := Int.mul_ne_zero s0 z0; omega) (Int.natAbs_dvd_natAbs.mpr hd)
      rw [Int.natAbs_mul] at hle
      have : s.natAbs * z.natAbs < 2 ^ S * 2 ^ e := Nat.mul_lt_mul'' sb hp
      rw [← Nat.pow_add] at this
      omega
  · have hd : x.2 ∣ t := by
      have h1 : x.2 ∣ t * x.1 := ⟨s * z, by rw [eq]; ac_rfl⟩
      have h2 : x.2.natAbs ∣ t.natAbs * x.1.natAbs := by rw [← Int.natAbs_mul]; exact Int.natAbs_dvd_natAbs.mpr h1
      exact Int.natAbs_dvd_natAbs.mp (Nat.Coprime.dvd_of_dvd_mul_right (Nat.coprime_comm.mp hg) h2)
    have hle := Nat.le_of_dvd (by omega) (Int.natAbs_dvd_natAbs.mpr hd)
    omega
theorem lead_sim {S T e p : Nat} {L : List (Int × Int)} {P : List Int} (h : Sim S T L P) (hp : p < P.length) (h0 : P.getD p 0 ≠ 0) (hb : ∀ z ∈ P, z.natAbs < 2 ^ e) : Sim 1 e (leadL L p) P ∧ ∀ j, ((leadL L p).getD j (0, 1)).1 * P.getD p 0 = P.getD j 0 * ((leadL L p).getD j (0, 1)).2 := by
  have hpn := (h.get hp).2
  have hgj := fun j (hj : j < P.length) => (h.get hj).1
  have hx0 : (L.getD p (0, 1)).1 ≠ 0 := fun z => h0 ((h.zero hp).mp z)
  have hlen := h.1
  obtain ⟨_, hN, s, t, s0, t0, sb, tb, hst⟩ := h
  have ep := hst p
  have p2 := hpn.1
  have main : ∀ j, P.getD p 0 * ((leadL L p).getD j (0, 1)).1 = 1 * P.getD j 0 * ((leadL L p).getD j (0, 1)).2 := by
    intro j
    by_cases hj : j < P.length
    · have ej := hst j
      have hjl : j < L.length := by omega
      have ey : L.getD j (0, 1) ∈ L := by rw [List.getD_eq_getElem?_getD, List.getElem?_eq_getElem hjl]; exact List.getElem_mem hjl
      have y2 := (hN _ ey).1
      have eg : (leadL L p).getD j (0, 1) = ovN (L.getD j (0, 1)) (L.getD p (0, 1)) := by
        unfold leadL
        rw [List.getD_eq_getElem?_getD, List.getElem?_map, hgj j hj]
        rfl
      rw [eg, Int.one_mul]
      generalize L.getD j (0, 1) = y at ej y2
      generalize L.getD p (0, 1) = x at ep hx0 p2
      have hne : y.2 * x.1 ≠ 0 := Int.mul_ne_zero (by omega) hx0
      have q := nrm_eq (p := y.1 * x.2) hne
      have q : (ovN y x).1 * (y.2 * x.1) = (ovN y x).2 * (y.1 * x.2) := q
      generalize (ovN y x).1 = a at q ⊢
      generalize (ovN y x).2 = b at q ⊢
      generalize P.getD p 0 = B at *
      generalize P.getD j 0 = A at *
      have hk : t * (y.2 * x.1) ≠ 0 := Int.mul_ne_zero t0 hne
      refine Int.eq_of_mul_eq_mul_left hk ?_
      have s1 : s * (t * (y.2 * x.1) * (B * a)) = s * (t * (y.2 * x.1) * (A * b)) := by grind
      exact Int.eq_of_mul_eq_mul_left s0 s1
    · have e1 : (leadL L p).getD j (0, 1) = (0, 1) := by
        rw [List.getD_eq_getElem?_getD, List.getElem?_eq_none (by unfold leadL; rw [List.length_map]; omega)]
        rfl
      have e2 : P.getD j 0 = 0 := by
        rw [List.getD_eq_getElem?_getD, List.getElem?_eq_none (by omega)]
        rfl
      rw [e1, e2]
      simp
  refine ⟨⟨by unfold leadL; rw [List.length_map, hlen], fun x hx => ?_, 1, P.getD p 0, by decide, h0, by decide, hb _ (getD_mem hp), main⟩, fun j => ?_⟩
  · obtain ⟨y, hy, rfl⟩ := List.mem_map.mp hx
    exact nrm_isN (Int.mul_ne_zero (by have := (hN y hy).1; omega) hx0)
  · have := main j
    rw [Int.one_mul] at this
    rw [Int.mul_comm]
    exact this
theorem Sim.mono {S T S2 T2 : Nat} {L : List (Int × Int)} {P : List Int} (h : Sim S T L P) (hS : S ≤ S2) (hT : T ≤ T2) : Sim S2 T2 L P := by
  obtain ⟨h1, h2, s, t, s0, t0, sb, tb, hst⟩ := h
  exact ⟨h1, h2, s, t, s0, t0, Nat.lt_of_lt_of_le sb (Nat.pow_le_pow_right (by decide) hS), Nat.lt_of_lt_of_le tb (Nat.pow_le_pow_right (by decide) hT), hst⟩
theorem Sim.step {S T S' e p : Nat} {L D : List (Int × Int)} {P B : List Int} (h : Sim S T L P) (hD : Sim S' e D B) (hd1 : ∀ j, (D.getD j (0, 1)).1 * B.getD p 0 = B.getD j 0 * (D.getD j (0, 1)).2) (hlen : B.length = P.length) (hp : p < P.length) (h0 : B.getD p 0 ≠ 0)
    (bP : ∀ z ∈ P, z.natAbs < 2 ^ e) (bB : ∀ z ∈ B, z.natAbs < 2 ^ e) : Sim (S + (3 * e + 2)) (T + e) (takenL L D p) (strk P B p) := by
  have hpn := (h.get hp).2
  have hgj := fun j (hj : j < P.length) => (h.get hj)
  have hgd := fun j (hj : j < P.length) => hD.get (j := j) (by omega)
  have hL := h.1
  have hDl := hD.1
  obtain ⟨_, hN, s, t, s0, t0, sb, tb, hst⟩ := h
  obtain ⟨c, c0, cb, hc⟩ := strk_rel hp hlen bP bB h0
  have mB := bB _ (getD_mem (zs := B) (p := p) (by omega))
  have hsl := strk_len (xs := P) (ys := B) hlen p
  have lt : (takenL L D p).length = P.length := by unfold takenL; rw [List.length_zipWith]; omega
  refine ⟨by rw [lt, hsl], fun x hx => ?_, s * c, t * B.getD p 0, Int.mul_ne_zero s0 c0, Int.mul_ne_zero t0 h0, ?_, ?_, fun j => ?_⟩
  · obtain ⟨i, hi⟩ := List.mem_iff_getElem?.mp hx
    have hil := (List.getElem?_eq_some_iff.mp hi).1
    rw [lt] at hil
    unfold takenL at hi
    rw [List.getElem?_zipWith, (hgj i hil).1, (hgd i hil).1] at hi
    cases hi
    have a1 := (hgj i hil).2.1
    have a2 := (hgd i hil).2.1
    have a3 := hpn.1
    have h1 := nrm_pos (a := (L.getD p (0, 1)).1 * (D.getD i (0, 1)).1) (b := (L.getD p (0, 1)).2 * (D.getD i (0, 1)).2) (Int.mul_ne_zero (by omega) (by omega))
    exact nrm_isN (Int.mul_ne_zero (by omega) (by show (tmN _ _).2 ≠ 0; unfold tmN; omega))
  · rw [Int.natAbs_mul, Nat.pow_add]
    exact Nat.mul_lt_mul'' sb cb
  · rw [Int.natAbs_mul, Nat.pow_add]
    exact Nat.mul_lt_mul'' tb mB
  · by_cases hj : j < P.length
    · have eg : (takenL L D p).getD j (0, 1) = lsN (L.getD j (0, 1)) (tmN (L.getD p (0, 1)) (D.getD j (0, 1))) := by
        unfold takenL
        rw [List.getD_eq_getElem?_getD, List.getElem?_zipWith, (hgj j hj).1, (hgd j hj).1]
        rfl
      rw [eg]
      have ej := hst j
      have ep := hst p
      have ed := hd1 j
      have ec := hc j
      have b1 := (hgj j hj).2.1
      have b2 := (hgd j hj).2.1
      have b3 := hpn.1
      generalize L.getD j (0, 1) = x at ej b1
      generalize L.getD p (0, 1) = xp at ep b3
      generalize D.getD j (0, 1) = d at ed b2
      have hm0 : xp.2 * d.2 ≠ 0 := Int.mul_ne_zero (by omega) (by omega)
      have qm : (tmN xp d).1 * (xp.2 * d.2) = (tmN xp d).2 * (xp.1 * d.1) := nrm_eq hm0
      have mp : 1 ≤ (tmN xp d).2 := nrm_pos hm0
      generalize tmN xp d = m at qm mp
      have hl0 : x.2 * m.2 ≠ 0 := Int.mul_ne_zero (by omega) (by omega)
      have ql : (lsN x m).1 * (x.2 * m.2) = (lsN x m).2 * (x.1 * m.2 - m.1 * x.2) := nrm_eq hl0
      generalize (lsN x m).1 = l1 at ql ⊢
      generalize (lsN x m).2 = l2 at ql ⊢
      generalize P.getD j 0 = Pj at *
      generalize P.getD p 0 = Pp at *
      generalize B.getD j 0 = Bj at *
      generalize B.getD p 0 = Bp at *
      generalize (strk P B p).getD j 0 = Z at *
      have hk : x.2 * m.2 * xp.2 * d.2 ≠ 0 := Int.mul_ne_zero (Int.mul_ne_zero hl0 (by omega)) (by omega)
      refine Int.eq_of_mul_eq_mul_left hk ?_
      have ec2 : s * c * Z * l2 = s * (Bp * Pj - Pp * Bj) * l2 := by rw [ec]; ac_rfl
      rw [ec2]
      generalize x.1 = a at *
      generalize x.2 = b at *
      generalize xp.1 = a' at *
      generalize xp.2 = b' at *
      generalize d.1 = u at *
      generalize d.2 = v at *
      generalize m.1 = m1 at *
      generalize m.2 = m2 at *
      clear hc ec ec2 hst hd1 hgj hgd hN
      grind
    · have e1 : (takenL L D p).getD j (0, 1) = (0, 1) := by
        rw [List.getD_eq_getElem?_getD, List.getElem?_eq_none (by omega)]
        rfl
      have e2 : (strk P B p).getD j 0 = 0 := by
        rw [List.getD_eq_getElem?_getD, List.getElem?_eq_none (by omega)]
        rfl
      rw [e1, e2]
      simp
/-! ### the law's rows of fractions -/
theorem ok__law_less (T : Txt K w mg ad fd) : Cal P w K mg base CX0 3 "_law_less" (ad 33) (fd 33) ["x", "y"] [] [] (sp2 K (fun a b c d => a * d - c * b) (fun a b c d => b * d)) := by
  refine ⟨T.f__law_less.ok sc__law_less (fun vs H Q E h => ?_) (fun cdv A outer s H vs Q E hr h => ?_), T.g__law_less, T.f__law_less.kp, T.f__law_less.binds (ps := ["x", "y"]) fun _ _ _ _ _ _ us hl => match us, hl with | [_, _], _ => rfl, .nil⟩
  · obtain ⟨x, y, a, b, c, d, rfl, _⟩ := h
    rfl
  · obtain ⟨x, y, a, b, c, d, rfl, ⟨px, rfl, hx⟩, ⟨py, rfl, hy⟩, ⟨ha, hb, hc, hd⟩, hb0, hd0, q⟩ := h
    refine ⟨_, (pss_one (ps_ret (pe_cal (ok__law_lowest T (P := P) (w := w) (base := base)) (hr.mono (by decide)) pass0 (pa_cons (pe_op op_sub (pe_op op_mulW (pe_ix (ix_tupK (K := K)) (pv 0) pe_int (fun _ _ => rfl)) (pe_ix (ix_tupK (K := K)) (pv 1) pe_int (fun _ _ => rfl))) (pe_op op_mulW (pe_ix (ix_tupK (K := K)) (pv 1) pe_int (fun _ _ => rfl)) (pe_ix (ix_tupK (K := K)) (pv 0) pe_int (fun _ _ => rfl)))) (pa_cons (pe_op op_mulW (pe_ix (ix_tupK (K := K)) (pv 0) pe_int (fun _ _ => rfl)) (pe_ix (ix_tupK (K := K)) (pv 1) pe_int (fun _ _ => rfl))) pa_nil))))), ?_⟩
    have k : (2 : Nat) ^ 2000 + 2 ^ 2000 ≤ 2 ^ 4000 := by
      have : (2 : Nat) ^ 2000 + 2 ^ 2000 = 2 ^ 2001 := by rw [Nat.pow_succ]; omega
      rw [this]
      exact Nat.pow_le_pow_right (by decide) (by decide)
    refine ⟨_, rfl, px, _, 0, _, rfl, rfl, hx, rfl, _, rfl, py, _, 1, _, rfl, rfl, hy, rfl, a, d, rfl, rfl, mul_ok (up3000 ha) (up3000 hd), _, rfl, py, _, 0, _, rfl, rfl, hy, rfl, _, rfl, px, _, 1, _, rfl, rfl, hx, rfl, c, b, rfl, rfl, mul_ok (up3000 hc) (up3000 hb), _, _, rfl, rfl,
      _, rfl, px, _, 1, _, rfl, rfl, hx, rfl, _, rfl, py, _, 1, _, rfl, rfl, hy, rfl, b, d, rfl, rfl, mul_ok (up3000 hb) (up3000 hd), _, _, rfl, ?_, ?_, Int.mul_ne_zero hb0 hd0, fun H' v e n => q H' v e n⟩
    · have h1 := lt2000 ha hd
      have h2 := lt2000 hc hb
      have h3 : (a * d - c * b).natAbs ≤ (a * d).natAbs + (c * b).natAbs := Int.natAbs_sub_le _ _
      omega
    · have h1 := lt2000 hb hd
      omega
def sp__law_over (K : PySem.W.Frag) : Sp := fun vs H Q _ => ∃ (x y : V) (a b c d : Int), vs = [x, y] ∧ Num K H x a b ∧ Num K H y c d ∧ (a.natAbs < 2 ^ 1000 ∧ b.natAbs < 2 ^ 1000 ∧ c.natAbs < 2 ^ 1000 ∧ d.natAbs < 2 ^ 1000) ∧ b ≠ 0 ∧ c ≠ 0 ∧
  ∀ H' v, Ex H H' → Num K H' v (nrm (a * d) (b * c)).1 (nrm (a * d) (b * c)).2 → Q v H'
theorem ok__law_over (T : Txt K w mg ad fd) : Cal P w K mg base CX0 3 "_law_over" (ad 39) (fd 39) ["x", "y"] [] [] (sp__law_over K) := by
  refine ⟨T.f__law_over.ok sc__law_over (fun vs H Q E h => ?_) (fun cdv A outer s H vs Q E hr h => ?_), T.g__law_over, T.f__law_over.kp, T.f__law_over.binds (ps := ["x", "y"]) fun _ _ _ _ _ _ us hl => match us, hl with | [_, _], _ => rfl, .nil⟩
  · obtain ⟨x, y, a, b, c, d, rfl, _⟩ := h
    rfl
  · obtain ⟨x, y, a, b, c, d, rfl, ⟨px, rfl, hx⟩, ⟨py, rfl, hy⟩, ⟨ha, hb, hc, hd⟩, hb0, hd0, q⟩ := h
    refine ⟨_, (pss_one (ps_ret (pe_cal (ok__law_lowest T (P := P) (w := w) (base := base)) (hr.mono (by decide)) pass0 (pa_cons (pe_op op_mulW (pe_ix (ix_tupK (K := K)) (pv 0) pe_int (fun _ _ => rfl)) (pe_ix (ix_tupK (K := K)) (pv 1) pe_int (fun _ _ => rfl))) (pa_cons (pe_op op_mulW (pe_ix (ix_tupK (K := K)) (pv 0) pe_int (fun _ _ => rfl)) (pe_ix (ix_tupK (K := K)) (pv 1) pe_int (fun _ _ => rfl))) pa_nil))))), ?_⟩
    have k : (2 : Nat) ^ 2000 ≤ 2 ^ 4000 := Nat.pow_le_pow_right (by decide) (by decide)
    refine ⟨_, rfl, px, _, 0, _, rfl, rfl, hx, rfl, _, rfl, py, _, 1, _, rfl, rfl, hy, rfl, a, d, rfl, rfl, mul_ok (up3000 ha) (up3000 hd),
      _, rfl, px, _, 1, _, rfl, rfl, hx, rfl, _, rfl, py, _, 0, _, rfl, rfl, hy, rfl, b, c, rfl, rfl, mul_ok (up3000 hb) (up3000 hc), _, _, rfl, ?_, ?_, Int.mul_ne_zero hb0 hd0, fun H' v e n => q H' v e n⟩
    · have h1 := lt2000 ha hd
      omega
    · have h1 := lt2000 hb hc
      omega
theorem All2.at_ {α : Type} {R : V → α → Prop} {vs : List V} {xs : List α} (h : All2 R vs xs) {i : Nat} {x : α} (e : xs[i]? = some x) : ∃ v, vs[i]? = some v ∧ R v x := by
  have hi := (List.getElem?_eq_some_iff.mp e).1
  have hv : vs[i]? = some (vs[i]'(h.1 ▸ hi)) := List.getElem?_eq_getElem _
  exact ⟨_, hv, h.2 i _ x hv e⟩
def Bd (e f : Nat) (L : List (Int × Int)) : Prop := ∀ x ∈ L, 1 ≤ x.2 ∧ x.1.natAbs < 2 ^ e ∧ x.2.natAbs < 2 ^ f
def sp__law_taken (K : PySem.W.Frag) : Sp := fun vs H Q _ => ∃ (r d : Addr) (p : Nat) (us ws : List V) (L D : List (Int × Int)), vs = [.ref r, .ref d, .int p] ∧ SqL K H r us ∧ SqL K H d ws ∧ All2 (NumR K H) us L ∧ All2 (NumR K H) ws D ∧ D.length = L.length ∧ p < L.length ∧ L.length ≤ 1000 ∧ Bd 720 300 L ∧ Bd 200 200 D ∧
  ∀ H' l xs, Ex H H' → H' l = some (.lst xs) → All2 (NumR K H') xs (takenL L D p) → H l = none → Q (.ref l) H'
theorem num_upd {K : PySem.W.Frag} {H : Hp} {v : V} {a b : Int} {D : Addr} {ys : List V} {o : HO} (h : Num K H v a b) (hb : H D = some (.lst ys)) : Num K (upd H D o) v a b :=
  have ⟨p, h1, h2⟩ := h
  ⟨p, h1, sqt_upd h2 hb⟩
theorem ok__law_taken (T : Txt K w mg ad fd) : Cal P w K mg base CX0 4 "_law_taken" (ad 41) (fd 41) ["row", "lead", "column"] [] [] (sp__law_taken K) := by
  refine ⟨T.f__law_taken.ok sc__law_taken (fun vs H Q E h => ?_) (fun cdv A outer s H vs Q E hr h => ?_), T.g__law_taken, T.f__law_taken.kp, T.f__law_taken.binds (ps := ["row", "lead", "column"]) fun _ _ _ _ _ _ us hl => match us, hl with | [_, _, _], _ => rfl, .nil⟩
  · obtain ⟨r, d, p, us, ws, L, D, rfl, _⟩ := h
    rfl
  · obtain ⟨r, d, p, us, ws, L, D, rfl, hr', hd', hL, hD, hlen, hp, hl, bL, bD, q⟩ := h
    have sz : sizeLine = 16777216 := sizeLine_eq
    have lu : us.length = L.length := hL.1
    refine ⟨_, (pss_one (ps_ret (pe_lc (own := [("j", 3)]) rfl sc__law_taken.nd (pi_range1 rfl T.m_range (pa_cons (pe_callB call_len_seq (by rfl) T.m_len PySem.boot_len (pa_cons (pv 0) pa_nil)) pa_nil)) (blkOk_by (N := ["row", "lead", "column", "j"]) (sc := defScope s__law_taken) (by decide +kernel)) (fun _ _ _ _ _ => (pg_name (i := 3) sc__law_taken.nd rfl (by first | exact Or.inl rfl | exact Or.inr rfl))) (fun _ _ _ _ _ => pts_nil) (fun _ _ _ _ _ => (pe_cal (ok__law_less T (P := P) (w := w) (base := base)) (hr.mono (by decide)) pass0 (pa_cons (pe_ix (ix_listK (K := K)) (pv 0) (pv 3) (fun _ _ => rfl)) (pa_cons (pe_cal (ok__law_times T (P := P) (w := w) (base := base)) (hr.mono (by decide)) pass0 (pa_cons (pe_ix (ix_listK (K := K)) (pv 0) (pv 2) (fun _ _ => rfl)) (pa_cons (pe_ix (ix_listK (K := K)) (pv 1) (pv 3) (fun _ _ => rfl)) pa_nil))) pa_nil))))))), ?_⟩
    refine ⟨_, rfl, r, us, rfl, .inl hr', us.length, rfl, by omega, by omega, fun D2 hD2 => ?_⟩
    obtain ⟨xp, hxp⟩ : ∃ x, L[p]? = some x := ⟨_, List.getElem?_eq_getElem hp⟩
    obtain ⟨vp, hvp, np⟩ := hL.at_ hxp
    have bp := bL _ (List.mem_of_getElem? hxp)
    have hgp : L.getD p (0, 1) = xp := by rw [List.getD_eq_getElem?_getD, hxp]; rfl
    have p720 : (2 : Nat) ^ 720 * 2 ^ 200 < 2 ^ 1000 := by rw [← Nat.pow_add]; exact Nat.pow_lt_pow_right (by decide) (by decide)
    have p300 : (2 : Nat) ^ 300 * 2 ^ 200 < 2 ^ 1000 := by rw [← Nat.pow_add]; exact Nat.pow_lt_pow_right (by decide) (by decide)
    have u720 : (2 : Nat) ^ 720 < 2 ^ 1000 := Nat.pow_lt_pow_right (by decide) (by decide)
    have u300 : (2 : Nat) ^ 300 < 2 ^ 1000 := Nat.pow_lt_pow_right (by decide) (by decide)
    have u200 : (2 : Nat) ^ 200 < 2 ^ 1000 := Nat.pow_lt_pow_right (by decide) (by decide)
    refine lc_acc (l := none) wk_range hD2 (fun i acc H' => All2 (NumR K H') acc ((takenL L D p).take i)) .nil (fun _ _ _ _ e h => h.imp fun _ _ n => n.mono e) ?_ ?_
    · rintro i x H1 acc hi e1 hy hl' ha' rfl
      have hi : i < us.length := hi
      obtain ⟨xi, hxi⟩ : ∃ x, L[i]? = some x := ⟨_, List.getElem?_eq_getElem (by omega)⟩
      obtain ⟨di, hdi⟩ : ∃ x, D[i]? = some x := ⟨_, List.getElem?_eq_getElem (by omega)⟩
      obtain ⟨vi, hvi, ni⟩ := hL.at_ hxi
      obtain ⟨wi, hwi, nd⟩ := hD.at_ hdi
      have bi := bL _ (List.mem_of_getElem? hxi)
      have bd := bD _ (List.mem_of_getElem? hdi)
      have ei : (0 + (i : Int)) = (i : Int) := by omega
      refine ⟨rfl, ?_⟩
      refine ⟨_, rfl, _, rfl, r, us, i, vi, rfl, by rw [ei], ex_l e1.ex hr', atI_nat hvi, ?_⟩
      refine ⟨_, rfl, _, rfl, r, us, p, vp, rfl, rfl, ex_l e1.ex hr', atI_nat hvp, _, rfl, _, rfl, d, ws, i, wi, rfl, by rw [ei], ex_l e1.ex hd', atI_nat hwi, vp, wi, xp.1, xp.2, di.1, di.2, rfl, np.mono e1.ex, nd.mono e1.ex, ⟨Nat.lt_trans bp.2.1 u720, Nat.lt_trans bp.2.2 u300, Nat.lt_trans bd.2.1 u200, Nat.lt_trans bd.2.2 u200⟩, by have := bp.1; omega, by have := bd.1; omega, fun H2 m e2 nm => ?_⟩
      have m0 : xp.2 * di.2 ≠ 0 := Int.mul_ne_zero (by have := bp.1; omega) (by have := bd.1; omega)
      have mle := nrm_le (a := xp.1 * di.1) m0
      have mpos := nrm_pos (a := xp.1 * di.1) m0
      have k1 : (xp.1 * di.1).natAbs < 2 ^ 720 * 2 ^ 200 := by rw [Int.natAbs_mul]; exact Nat.mul_lt_mul'' bp.2.1 bd.2.1
      have k2 : (xp.2 * di.2).natAbs < 2 ^ 300 * 2 ^ 200 := by rw [Int.natAbs_mul]; exact Nat.mul_lt_mul'' bp.2.2 bd.2.2
      refine ⟨vi, m, xi.1, xi.2, _, _, rfl, ni.mono (e1.ex.trans e2), nm, ⟨Nat.lt_trans bi.2.1 u720, Nat.lt_trans bi.2.2 u300, Nat.lt_of_le_of_lt mle.1 (Nat.lt_trans k1 p720), Nat.lt_of_le_of_lt mle.2 (Nat.lt_trans k2 p300)⟩, by have := bi.1; omega, (show (nrm (xp.1 * di.1) (xp.2 * di.2)).2 ≠ 0 from by omega), fun H3 z e3 nz => ?_⟩
      have e23 := e2.trans e3
      have hy3 := e23 _ _ hy
      have ht : (takenL L D p)[i]? = some (lsN xi (tmN xp di)) := by
        unfold takenL
        rw [List.getElem?_zipWith, hxi, hdi, hgp]
      refine LcP.push hD2 (e1.trans (Exo.of e23)) hy3 hl' (by omega) ?_
      rw [List.take_add_one, ht]
      exact (ha'.imp fun _ _ n => num_upd (n.mono e23) hy3).app (.cons (num_upd nz hy3) .nil)
    · rintro H1 acc e1 hy ha1
      have lt : (takenL L D p).length = us.length := by unfold takenL; rw [List.length_zipWith]; omega
      have ha1 : All2 (NumR K H1) acc ((takenL L D p).take us.length) := ha1
      rw [← lt, List.take_length] at ha1
      exact q H1 D2 acc e1.ex hy ha1 hD2
/-! ### the law's elimination -/
def RowX (K : PySem.W.Frag) (D : Addr) (H : Hp) (v : V) (L : List (Int × Int)) : Prop := ∃ r xs, v = .ref r ∧ r ≠ D ∧ H r = some (.lst xs) ∧ All2 (NumR K H) xs L
theorem RowX.mono {K : PySem.W.Frag} {D : Addr} {H H' : Hp} {v : V} {L : List (Int × Int)} (e : Ex H H') (h : RowX K D H v L) : RowX K D H' v L :=
  have ⟨r, xs, h1, h2, h3, h4⟩ := h
  ⟨r, xs, h1, h2, e _ _ h3, h4.imp fun _ _ n => n.mono e⟩
theorem RowX.upd {K : PySem.W.Frag} {D : Addr} {H : Hp} {v : V} {L : List (Int × Int)} {ys : List V} {o : HO} (hD : H D = some (.lst ys)) (h : RowX K D H v L) : RowX K D (upd H D o) v L :=
  have ⟨r, xs, h1, h2, h3, h4⟩ := h
  ⟨r, xs, h1, h2, by rw [upd_ne h2]; exact h3, h4.imp fun _ _ n => num_upd n hD⟩
theorem RowX.to {K : PySem.W.Frag} {D D' : Addr} {H : Hp} {v : V} {L : List (Int × Int)} (hD : H D' = none) (h : RowX K D H v L) : RowX K D' H v L :=
  have ⟨r, xs, h1, h2, h3, h4⟩ := h
  ⟨r, xs, h1, ne_of_none h3 hD, h3, h4⟩
def SimA (i : Nat) (Ls : List (List (Int × Int))) (Ps : List (List Int)) : Prop := Ls.length = Ps.length ∧ ∀ (k : Nat) (L : List (Int × Int)) (P : List Int), Ls[k]? = some L → Ps[k]? = some P → Sim (33 * 2 ^ i) (11 * 2 ^ i) L P
theorem first_of {m j : Nat} {f : Nat → Bool} (hj : j < m) (hf : f j = true) (h0 : ∀ k, k < j → f k = false) : ((List.range m).filter f)[0]? = some j := by
  rw [← List.head?_eq_getElem?, List.head?_filter, List.find?_range_eq_some]
  exact ⟨hf, List.mem_range.mpr hj, fun k hk => by rw [h0 k hk]; rfl⟩
theorem none_first {m : Nat} {f : Nat → Bool} (h0 : ∀ k, k < m → f k = false) : (List.range m).filter f = [] := by
  rw [List.filter_eq_nil_iff]
  intro k hk
  rw [h0 k (List.mem_range.mp hk)]
  decide
def colN (Ls : List (List (Int × Int))) (i k : Nat) : Bool := !decide (((Ls.getD k []).getD i (0, 1)).1 = 0)
theorem SimA.step {i : Nat} {Ls : List (List (Int × Int))} {Ps : List (List Int)} {wd : Nat} {L : List (Int × Int)} {b : List Int} (h : SimA i Ls Ps) (hL : Sim (33 * 2 ^ i) (11 * 2 ^ i) L b) (hi : i < wd)
    (hP : ∀ x ∈ Ps, x.length = wd ∧ ∀ z ∈ x, z.natAbs < 2 ^ (11 * 2 ^ i - 1)) (hb : b.length = wd ∧ ∀ z ∈ b, z.natAbs < 2 ^ (11 * 2 ^ i - 1)) (h0 : b.getD i 0 ≠ 0) :
    SimA (i + 1) (Ls.map fun M => takenL M (leadL L i) i) (Ps.map fun x => strk x b i) := by
  have pos : 1 ≤ 2 ^ i := Nat.pow_pos (by decide)
  obtain ⟨ld, le⟩ := lead_sim hL (by omega) h0 hb.2
  refine ⟨by rw [List.length_map, List.length_map, h.1], fun k M P hM hP2 => ?_⟩
  rw [List.getElem?_map] at hM hP2
  cases e1 : Ls[k]? with
  | none => rw [e1] at hM; cases hM
  | some M0 =>
    cases e2 : Ps[k]? with
    | none => rw [e2] at hP2; cases hP2
    | some P0 =>
      rw [e1] at hM
      rw [e2] at hP2
      cases hM
      cases hP2
      have hp := hP P0 (List.mem_of_getElem? e2)
      refine ((h.2 k M0 P0 e1 e2).step ld le (by omega) (by omega) h0 hp.2 hb.2).mono ?_ ?_
      · rw [Nat.pow_succ]
        omega
      · rw [Nat.pow_succ]
        omega
theorem SimA.bd {i : Nat} {Ls : List (List (Int × Int))} {Ps : List (List Int)} {wd : Nat} (h : SimA i Ls Ps) (hi : i ≤ 4) (hP : ∀ x ∈ Ps, x.length = wd ∧ ∀ z ∈ x, z.natAbs < 2 ^ (11 * 2 ^ i - 1)) {k : Nat} {L : List (Int × Int)} (hL : Ls[k]? = some L) : L.length = wd ∧ Bd 720 300 L := by
  have hk := (List.getElem?_eq_some_iff.mp hL).1
  have hPk : Ps[k]? = some (Ps[k]'(h.1 ▸ hk)) := List.getElem?_eq_getElem _
  have hs := h.2 k L _ hL hPk
  obtain ⟨h1, h2⟩ := hP _ (List.mem_of_getElem? hPk)
  generalize Ps[k]'(h.1 ▸ hk) = P at *
  refine ⟨by rw [hs.1, h1], fun x hx => ?_⟩
  obtain ⟨j, hj⟩ := List.mem_iff_getElem?.mp hx
  have hjl := (List.getElem?_eq_some_iff.mp hj).1
  have hb := hs.bound h2 (j := j) (by rw [← hs.1]; exact hjl)
  have e : L.getD j (0, 1) = x := by rw [List.getD_eq_getElem?_getD, hj]; rfl
  rw [e] at hb
  have p16 : 2 ^ i ≤ 2 ^ 4 := Nat.pow_le_pow_right (by decide) hi
  exact ⟨(hs.2.1 x hx).1, Nat.lt_of_lt_of_le hb.1 (Nat.pow_le_pow_right (by decide) (by omega)), Nat.lt_of_lt_of_le hb.2 (Nat.pow_le_pow_right (by decide) (by omega))⟩
def onesL (zs : List Int) : List (Int × Int) := zs.map fun z => (z, 1)
theorem ones_len (zs : List Int) : (onesL zs).length = zs.length := List.length_map ..
theorem RowX.upd2 {K : PySem.W.Frag} {D D2 : Addr} {H : Hp} {v : V} {L : List (Int × Int)} {ys : List V} {o : HO} (hD : H D2 = some (.lst ys)) (h : RowX K D H v L) (h2 : RowX K D2 H v L) : RowX K D (L2.upd H D2 o) v L := by
  obtain ⟨r, xs, rfl, n1, g1, g2⟩ := h
  obtain ⟨r2, _, e, n2, _, _⟩ := h2
  cases e
  exact ⟨r, xs, rfl, n1, by rw [upd_ne n2]; exact g1, g2.imp fun _ _ n => num_upd n hD⟩
theorem SimA.erase {i : Nat} {Ls : List (List (Int × Int))} {Ps : List (List Int)} (h : SimA i Ls Ps) (j : Nat) : SimA i (Ls.eraseIdx j) (Ps.eraseIdx j) := by
  refine ⟨by rw [List.length_eraseIdx, List.length_eraseIdx, h.1], fun k L P hL hP => ?_⟩
  rw [List.getElem?_eraseIdx] at hL hP
  split at hL
  · rw [if_pos (by assumption)] at hP
    exact h.2 _ _ _ hL hP
  · rw [if_neg (by assumption)] at hP
    exact h.2 _ _ _ hL hP
theorem SimA.snoc {i : Nat} {Ls : List (List (Int × Int))} {Ps : List (List Int)} {L : List (Int × Int)} {P : List Int} (h : SimA i Ls Ps) (hs : Sim (33 * 2 ^ i) (11 * 2 ^ i) L P) : SimA i (Ls ++ [L]) (Ps ++ [P]) := by
  refine ⟨by rw [List.length_append, List.length_append, h.1]; rfl, fun k M R hM hR => ?_⟩
  have hk := (List.getElem?_eq_some_iff.mp hM).1
  rw [List.length_append] at hk
  have hk : k < Ls.length + 1 := hk
  by_cases hl : k < Ls.length
  · rw [List.getElem?_append_left hl] at hM
    rw [List.getElem?_append_left (by rw [← h.1]; exact hl)] at hR
    exact h.2 _ _ _ hM hR
  · rw [List.getElem?_append_right (by omega), show k - Ls.length = 0 by omega] at hM
    rw [List.getElem?_append_right (by rw [← h.1]; omega), show k - Ps.length = 0 by rw [← h.1]; omega] at hR
    cases hM
    cases hR
    exact hs
theorem All2.erase {α : Type} {R : V → α → Prop} {vs : List V} {xs : List α} (h : All2 R vs xs) (j : Nat) : All2 R (vs.eraseIdx j) (xs.eraseIdx j) := by
  refine ⟨by rw [List.length_eraseIdx, List.length_eraseIdx, h.1], fun k v x hv hx => ?_⟩
  rw [List.getElem?_eraseIdx] at hv hx
  split at hv
  · rw [if_pos (by assumption)] at hx
    exact h.2 _ _ _ hv hx
  · rw [if_neg (by assumption)] at hx
    exact h.2 _ _ _ hv hx
def sp__law_echelon (K : PySem.W.Frag) : Sp := fun vs H Q _ => ∃ (r : Addr) (wd : Nat) (us : List V) (zss : List (List Int)), vs = [.int wd, .ref r] ∧ SqL K H r us ∧ All2 (fun v zs => PtV K H v (onesL zs)) us zss ∧ zss.length ≤ 500 ∧ wd ≤ 5 ∧ (∀ zs ∈ zss, zs.length = wd) ∧ (∀ zs ∈ zss, ∀ z ∈ zs, z.natAbs < 2 ^ 10) ∧
  ∀ H' l xs, Ex H H' → H' l = some (.lst xs) → xs.length = (echN zss wd).1.length → Q (.ref l) H'
theorem sim0 {zs : List Int} (hb : ∀ z ∈ zs, z.natAbs < 2 ^ 10) : Sim (33 * 2 ^ 0) (11 * 2 ^ 0) (onesL zs) (prim zs) := by
  obtain ⟨c, c0, cb, hc⟩ := prim_rel hb
  refine ⟨by rw [ones_len, prim_len], fun x hx => ?_, c, 1, c0, by decide, Nat.lt_of_lt_of_le cb (Nat.pow_le_pow_right (by decide) (by decide)), by decide, fun j => ?_⟩
  · obtain ⟨z, _, rfl⟩ := List.mem_map.mp hx
    exact ⟨by show (1 : Int) ≤ 1; decide, Int.gcd_one_right _⟩
  · have e := hc j
    rw [List.getD_eq_getElem?_getD] at e
    unfold onesL
    rw [List.getD_eq_getElem?_getD, List.getElem?_map]
    cases h : zs[j]? with
    | none =>
      rw [h] at e
      have e : (0 : Int) = c * (prim zs).getD j 0 := e
      show 1 * (0 : Int) = c * _ * 1
      rw [← e]
      rfl
    | some z =>
      rw [h] at e
      have e : z = c * (prim zs).getD j 0 := e
      show 1 * z = c * _ * 1
      rw [← e]
      omega
theorem ok__law_echelon (T : Txt K w mg ad fd) : Cal P w K mg base CX0 5 "_law_echelon" (ad 40) (fd 40) ["width", "rows"] [] [] (sp__law_echelon K) := by
  refine ⟨T.f__law_echelon.ok sc__law_echelon (fun vs H Q E h => ?_) (fun cdv A outer s H vs Q E hr h => ?_), T.g__law_echelon, T.f__law_echelon.kp, T.f__law_echelon.binds (ps := ["width", "rows"]) fun _ _ _ _ _ _ us hl => match us, hl with | [_, _], _ => rfl, .nil⟩
  · obtain ⟨r, wd, us, zss, rfl, _⟩ := h
    rfl
  · obtain ⟨r, wd, us, zss, rfl, hR, hz, hm, hw, hlen, hbd, q⟩ := h
    have sz : sizeLine = 16777216 := sizeLine_eq
    refine ⟨_, (pss_cons (ps_set (i := 2) sc__law_echelon.nd rfl (by first | exact Or.inl rfl | exact Or.inr rfl) (pe_lc (own := [("row", 3)]) rfl sc__law_echelon.nd (pi_list (pv 1)) (blkOk_by (N := ["width", "rows", "left", "row", "done", "column", "here", "at", "lead", "x"]) (sc := defScope s__law_echelon) (by decide +kernel)) (fun _ _ _ _ _ => (pg_name (i := 3) sc__law_echelon.nd rfl (by first | exact Or.inl rfl | exact Or.inr rfl))) (fun _ _ _ _ _ => pts_nil) (fun _ _ _ _ _ => (pe_callTy (T := "list") (call_listSK (K := K) rfl) (by rfl) T.m_list (by decide +kernel) (pa_cons (pv 3) pa_nil)))))
    (pss_cons (ps_set (i := 4) sc__law_echelon.nd rfl (by first | exact Or.inl rfl | exact Or.inr rfl) (pe_lst pa_nil))
    (pss_cons (ps_for (by first | exact PassesOwn.never | exact passes_of rfl) rfl (pi_range1 rfl T.m_range (pa_cons (pv 0) pa_nil)) (pg_name (i := 5) sc__law_echelon.nd rfl (by first | exact Or.inl rfl | exact Or.inr rfl))
      (pss_cons (ps_setLc (i := 6) (own := [("at", 7)]) rfl sc__law_echelon.nd rfl rfl (sw_true rfl rfl rfl (by decide +kernel)) (pi_range1 rfl T.m_range (pa_cons (pe_callB call_len_seq (by rfl) T.m_len PySem.boot_len (pa_cons (pv 2) pa_nil)) pa_nil)) (blkOk_by (N := ["width", "rows", "left", "row", "done", "column", "here", "at", "lead", "x"]) (sc := defScope s__law_echelon) (by decide +kernel)) (fun _ _ _ _ _ => (pg_name (i := 7) sc__law_echelon.nd rfl (by first | exact Or.inl rfl | exact Or.inr rfl))) (fun _ _ _ _ _ => (pts_one (pt_cmpR op_ne (pe_ix (ix_tupK (K := K)) (pe_ix (ix_listK (K := K)) (pe_ix (ix_listK (K := K)) (pv 2) (pv 7) (fun _ _ => rfl)) (pv 5) (fun _ _ => rfl)) pe_int (fun _ _ => rfl)) pe_int (nomark _)))) (fun _ _ _ _ _ => (pv 7)))
    (pss_cons (ps_if (pt_not (pt_truth (pv 6) (fun _ => rfl))) (pss_one ps_continue) pss_nil)
    (pss_cons (ps_set (i := 8) sc__law_echelon.nd rfl (by first | exact Or.inl rfl | exact Or.inr rfl) (pe_bm PySem.F.plainAttrs_list PySem.F.slot_list_pop PySem.F.type_list_pop mt_popAt (pv 2) (pa_cons (pe_ix (ix_listK (K := K)) (pv 6) pe_int (fun _ _ => rfl)) pa_nil)))
    (pss_cons (ps_set (i := 8) sc__law_echelon.nd rfl (by first | exact Or.inl rfl | exact Or.inr rfl) (pe_lc (own := [("x", 9)]) rfl sc__law_echelon.nd (pi_list (pv 8)) (blkOk_by (N := ["width", "rows", "left", "row", "done", "column", "here", "at", "lead", "x"]) (sc := defScope s__law_echelon) (by decide +kernel)) (fun _ _ _ _ _ => (pg_name (i := 9) sc__law_echelon.nd rfl (by first | exact Or.inl rfl | exact Or.inr rfl))) (fun _ _ _ _ _ => pts_nil) (fun _ _ _ _ _ => (pe_cal (ok__law_over T (P := P) (w := w) (base := base)) (hr.mono (by decide)) pass0 (pa_cons (pv 9) (pa_cons (pe_ix (ix_listK (K := K)) (pv 8) (pv 5) (fun _ _ => rfl)) pa_nil))))))
    (pss_cons (ps_set (i := 2) sc__law_echelon.nd rfl (by first | exact Or.inl rfl | exact Or.inr rfl) (pe_lc (own := [("row", 3)]) rfl sc__law_echelon.nd (pi_list (pv 2)) (blkOk_by (N := ["width", "rows", "left", "row", "done", "column", "here", "at", "lead", "x"]) (sc := defScope s__law_echelon) (by decide +kernel)) (fun _ _ _ _ _ => (pg_name (i := 3) sc__law_echelon.nd rfl (by first | exact Or.inl rfl | exact Or.inr rfl))) (fun _ _ _ _ _ => pts_nil) (fun _ _ _ _ _ => (pe_cal (ok__law_taken T (P := P) (w := w) (base := base)) (hr.mono (by decide)) pass0 (pa_cons (pv 3) (pa_cons (pv 8) (pa_cons (pv 5) pa_nil)))))))
    (pss_one (ps_set (i := 4) sc__law_echelon.nd rfl (by first | exact Or.inl rfl | exact Or.inr rfl) (pe_op op_cat (pe_lc (own := [("row", 3)]) rfl sc__law_echelon.nd (pi_list (pv 4)) (blkOk_by (N := ["width", "rows", "left", "row", "done", "column", "here", "at", "lead", "x"]) (sc := defScope s__law_echelon) (by decide +kernel)) (fun _ _ _ _ _ => (pg_name (i := 3) sc__law_echelon.nd rfl (by first | exact Or.inl rfl | exact Or.inr rfl))) (fun _ _ _ _ _ => pts_nil) (fun _ _ _ _ _ => (pe_cal (ok__law_taken T (P := P) (w := w) (base := base)) (hr.mono (by decide)) pass0 (pa_cons (pv 3) (pa_cons (pv 8) (pa_cons (pv 5) pa_nil)))))) (pe_lst (pa_cons (pv 8) pa_nil)))))))))))
    (pss_one (ps_ret (pe_lc (own := [("row", 3)]) rfl sc__law_echelon.nd (pi_list (pv 4)) (blkOk_by (N := ["width", "rows", "left", "row", "done", "column", "here", "at", "lead", "x"]) (sc := defScope s__law_echelon) (by decide +kernel)) (fun _ _ _ _ _ => (pg_name (i := 3) sc__law_echelon.nd rfl (by first | exact Or.inl rfl | exact Or.inr rfl))) (fun _ _ _ _ _ => pts_nil) (fun _ _ _ _ _ => (pe_callTy (T := "tuple") (call_tupleK (K := K)) (by rfl) T.m_tuple (by decide +kernel) (pa_cons (pv 3) pa_nil))))))))), ?_⟩
    -- left
    refine ⟨.ref r, rfl, r, rfl, ⟨_, hR⟩, fun Lf hLf => ?_⟩
    refine lc_acc (l := none) (wk_list (K := K) (fun z => nomatch z) hR) hLf (fun i acc H' => All2 (RowX K Lf H') acc ((zss.map onesL).take i)) .nil (fun _ _ _ _ e h => h.imp fun _ _ h => h.mono e) ?_ ?_
    · rintro i x H1 acc hi e1 hy hl' ha' hx
      obtain ⟨zs, hzs, p, vs, rfl, hp, hvs⟩ := hz.get hx
      have hp1 := ex_t e1.ex hp
      refine ⟨rfl, ?_⟩
      refine ⟨_, rfl, .tup p, vs, rfl, hp1, by have := hvs.1; rw [ones_len, hlen zs (List.mem_of_getElem? hzs)] at this; omega, fun l hl => ?_⟩
      have e2 := Ex.new (o := .lst vs) hl
      have hy2 := e2 _ _ hy
      refine LcP.push hLf (e1.trans (Exo.of e2)) hy2 hl' (by have := hz.1; omega) ?_
      have hrow : RowX K Lf (upd H1 l (.lst vs)) (.ref l) (onesL zs) := ⟨l, vs, rfl, (ne_of_none hy hl).symm, upd_same, hvs.imp fun _ _ n => n.mono (e1.ex.trans e2)⟩
      rw [List.take_add_one, List.getElem?_map, hzs]
      exact (ha'.imp fun _ _ h => (h.mono e2).upd hy2).app (.cons (hrow.upd hy2) .nil)
    rintro H1 us1 e1 hy1 ha1
    rw [hz.1, ← List.length_map (f := onesL), List.take_length] at ha1
    have e1 := e1.ex
    change Ends.nx _ _ _
    dsimp only
    refine ⟨Nat.zero_le _, fun Dn hDn => ?_⟩
    have e2 := Ex.new (o := .lst []) hDn
    have hok := fun i hi => echN_ok (w := wd) (e := 10) hlen hbd i hi
    have hs0 : SimA 0 (zss.map onesL) (echN zss 0).2 := by
      refine ⟨by show _ = (zss.map prim).length; rw [List.length_map, List.length_map], fun k L P hL hP => ?_⟩
      rw [List.getElem?_map] at hL
      have hP : (zss.map prim)[k]? = some P := hP
      rw [List.getElem?_map] at hP
      cases e : zss[k]? with
      | none => rw [e] at hL; cases hL
      | some zs =>
        rw [e] at hL hP
        cases hL
        cases hP
        exact sim0 (hbd zs (List.mem_of_getElem? e))
    refine ⟨_, rfl, wd, rfl, by omega, by omega, for_range (lo := 0) (n := wd) (fun i σ H' => ∃ (La Da : Addr) (xs ws : List V) (Ls Ms : List (List (Int × Int))) (c5 c6 c8 : Option V), σ = [some (.int wd), some (.ref r), some (.ref La), none, some (.ref Da), c5, c6, none, c8, none] ∧ Ex H H' ∧ H La = none ∧ Da ≠ La ∧ H' La = some (.lst xs) ∧ All2 (RowX K La H') xs Ls ∧ H' Da = some (.lst ws) ∧ All2 (RowX K La H') ws Ms ∧ SimA i Ls (echN zss i).2 ∧ SimA i Ms ((echN zss i).1.map (·.2)))
      ⟨Lf, Dn, us1, [], _, [], none, none, none, rfl, e1.trans e2, hLf, (ne_of_none hy1 hDn).symm, e2 _ _ hy1, ha1.imp fun _ _ h => h.mono e2, upd_same, .nil, hs0, ⟨rfl, fun k L P h => by simp at h⟩⟩ ?_ ?_⟩
    · rintro i σ H2 hi ⟨La, Da, xs, ws, Ls, Ms, c5, c6, c8, rfl, e2, hLa0, hne, hLa, hzl, hDa, hzd, hsl, hsd⟩
      obtain ⟨o1, o2, o3⟩ := hok i (by omega)
      have hei : (10 + 1) * 2 ^ i - 1 = 11 * 2 ^ i - 1 := by omega
      rw [hei] at o1 o2
      have hst : echN zss (i + 1) = eStep i (echN zss i) := rfl
      rw [hst]
      generalize echN zss i = st at o1 o2 o3 hsl hsd ⊢
      have ei0 : (0 + (i : Int)) = (i : Int) := by omega
      rw [ei0]
      have lxs : xs.length = st.2.length := by rw [hzl.1, hsl.1]
      have sbd : ∀ {k : Nat} {L : List (Int × Int)}, Ls[k]? = some L → L.length = wd ∧ Bd 720 300 L := fun h => hsl.bd (by omega) o2 h
      -- here
      refine ⟨_, rfl, La, xs, rfl, .inl (SqL.of hLa), xs.length, rfl, by omega, by omega, fun D3 hD3 => ?_⟩
      refine lc_acc (l := none) wk_range hD3 (fun k acc _ => acc = ((List.range k).filter (colN Ls i)).map fun j : Nat => V.int (j : Int)) rfl (fun _ _ _ _ _ h => h) ?_ ?_
      · rintro k x H3 acc hk e3 hy hl' rfl rfl
        have hk : k < xs.length := hk
        obtain ⟨L, hL⟩ : ∃ L, Ls[k]? = some L := ⟨_, List.getElem?_eq_getElem (by rw [← hzl.1]; exact hk)⟩
        obtain ⟨v, hv, rr, ns, rfl, _, hrr, hns⟩ := hzl.at_ hL
        obtain ⟨l1, l2⟩ := sbd hL
        obtain ⟨x, hx⟩ : ∃ x, L[i]? = some x := ⟨_, List.getElem?_eq_getElem (by omega)⟩
        obtain ⟨nv, hnv, pn, rfl, hpn⟩ := hns.at_ hx
        have ek : (0 + (k : Int)) = (k : Int) := by omega
        have hcol : colN Ls i k = !decide (x.1 = 0) := by
          have e1 : Ls.getD k [] = L := by rw [List.getD_eq_getElem?_getD, hL]; rfl
          have e2 : L.getD i (0, 1) = x := by rw [List.getD_eq_getElem?_getD, hx]; rfl
          unfold colN
          rw [e1, e2]
        have hdx : decide (V.int x.1 = V.int 0) = decide (x.1 = 0) := by
          by_cases h : x.1 = 0
          · rw [h, decide_eq_true rfl, decide_eq_true rfl]
          · rw [decide_eq_false h, decide_eq_false (fun e => h (V.int.inj e))]
        refine ⟨rfl, ?_⟩
        refine ⟨_, rfl, _, rfl, La, xs, k, .ref rr, rfl, by rw [ek], SqL.of (e3.ex _ _ hLa), atI_nat hv, ?_⟩
        refine ⟨_, rfl, rr, ns, i, .ref pn, rfl, rfl, SqL.of (e3.ex _ _ hrr), atI_nat hnv, pn, _, 0, _, rfl, rfl, ex_t e3.ex hpn, rfl, rfl, _, rfl, ?_⟩
        rw [hdx]
        rw [ek]
        by_cases h0 : x.1 = 0
        · rw [decide_eq_true h0]
          refine iteF (LcP.skip e3 hy hl' ?_)
          rw [List.range_succ, List.filter_append]
          have : (List.filter (colN Ls i) [k]) = [] := by simp [hcol, h0]
          rw [this, List.append_nil]
        · rw [decide_eq_false h0]
          refine iteT ⟨_, rfl, LcP.push hD3 e3 hy hl' (by omega) ?_⟩
          rw [List.range_succ, List.filter_append]
          have : (List.filter (colN Ls i) [k]) = [k] := by simp [hcol, h0]
          rw [this, List.map_append]
          rfl
      rintro H3 hs e3 hy3 rfl
      have e3 := e3.ex
      have hy3 : H3 D3 = some (.lst (((List.range xs.length).filter (colN Ls i)).map fun j : Nat => V.int (j : Int))) := hy3
      change Ends.nx _ _ _
      dsimp only
      have hcz : ∀ (k : Nat) (zs : List Int), st.2[k]? = some zs → colN Ls i k = fz i zs := by
        intro k zs hzs
        obtain ⟨L, hL⟩ : ∃ L, Ls[k]? = some L := ⟨_, List.getElem?_eq_getElem (by rw [hsl.1]; exact (List.getElem?_eq_some_iff.mp hzs).1)⟩
        have hs := hsl.2 k L zs hL hzs
        have hz0 := hs.zero (j := i) (by rw [(o2 zs (List.mem_of_getElem? hzs)).1]; exact hi)
        have e1 : Ls.getD k [] = L := by rw [List.getD_eq_getElem?_getD, hL]; rfl
        unfold colN fz
        rw [e1]
        simp only [hz0]
      have hLa3 := e3 _ _ hLa
      have hDa3 := e3 _ _ hDa
      have hzl3 := hzl.imp fun _ _ h => h.mono e3
      have hzd3 := hzd.imp fun _ _ h => h.mono e3
      cases hf : st.2.findIdx? (fz i) with
      | none =>
        rw [eStep_none hf]
        have hnil : (List.range xs.length).filter (colN Ls i) = [] := none_first fun k hk => by
          obtain ⟨zs, hzs⟩ : ∃ zs, st.2[k]? = some zs := ⟨_, List.getElem?_eq_getElem (by omega)⟩
          rw [hcz k zs hzs]
          exact List.findIdx?_eq_none_iff.mp hf zs (List.mem_of_getElem? hzs)
        rw [hnil] at hy3
        refine ⟨_, rfl, false, .inl ⟨_, SqL.of hy3, rfl⟩, iteT ?_⟩
        refine ⟨La, Da, xs, ws, Ls, Ms, _, _, _, rfl, e2.trans e3, hLa0, hne, hLa3, hzl3, hDa3, hzd3, ⟨hsl.1, fun k L P hL hP => (hsl.2 k L P hL hP).mono (by rw [Nat.pow_succ]; omega) (by rw [Nat.pow_succ]; omega)⟩, ⟨hsd.1, fun k L P hL hP => (hsd.2 k L P hL hP).mono (by rw [Nat.pow_succ]; omega) (by rw [Nat.pow_succ]; omega)⟩⟩
      | some j =>
        rw [eStep_some hf]
        obtain ⟨hjl, hjt, hj0⟩ := List.findIdx?_eq_some_iff_getElem.mp hf
        have hPj : st.2[j]? = some st.2[j] := List.getElem?_eq_getElem hjl
        have hgb : st.2.getD j [] = st.2[j] := by rw [List.getD_eq_getElem?_getD, hPj]; rfl
        rw [hgb]
        have hb := o2 _ (List.mem_of_getElem? hPj)
        have hfj : fz i st.2[j] = true := hjt
        have hone := first_of (m := xs.length) (j := j) (f := colN Ls i) (by omega) (by rw [hcz j _ hPj]; exact hfj) fun k hk => by
          have hkP : st.2[k]? = some (st.2[k]'(by omega)) := List.getElem?_eq_getElem _
          rw [hcz k _ hkP]
          have := hj0 k hk
          exact Bool.eq_false_iff.mpr (by simpa using this)
        generalize st.2[j] = b at hPj hgb hb hfj
        have hb0 : b.getD i 0 ≠ 0 := fun z => by
          unfold fz at hfj
          rw [z] at hfj
          exact absurd hfj (by decide)
        obtain ⟨rest, hrest⟩ : ∃ rest, (List.range xs.length).filter (colN Ls i) = j :: rest := by
          cases e : (List.range xs.length).filter (colN Ls i) with
          | nil => rw [e] at hone; cases hone
          | cons y ys => rw [e] at hone; cases hone; exact ⟨ys, rfl⟩
        rw [hrest] at hy3
        refine ⟨_, rfl, true, .inl ⟨_, SqL.of hy3, rfl⟩, iteF ?_⟩
        obtain ⟨Lb, hLb⟩ : ∃ L, Ls[j]? = some L := ⟨_, List.getElem?_eq_getElem (by rw [hsl.1]; exact hjl)⟩
        have hsb := hsl.2 j Lb b hLb hPj
        obtain ⟨lb1, lb2⟩ := sbd hLb
        obtain ⟨u, hu, rb, nsb, rfl, hrbne, hrb, hnsb⟩ := hzl3.at_ hLb
        obtain ⟨ldS, ldE⟩ := lead_sim hsb (p := i) (by omega) hb0 hb.2
        have pos : 1 ≤ 2 ^ i := Nat.pow_pos (by decide)
        have p16 : 2 ^ i ≤ 2 ^ 4 := Nat.pow_le_pow_right (by decide) (by omega)
        have hx0 : (Lb.getD i (0, 1)).1 ≠ 0 := fun z => hb0 ((hsb.zero (by omega)).mp z)
        -- lead = left.pop(here[0])
        refine ⟨_, rfl, .inl ⟨rfl, _, SqL.of hLa3⟩, _, rfl, D3, _, 0, .int (j : Nat), rfl, rfl, SqL.of hy3, atI_nat (j := 0) rfl, La, xs, (j : Int), j, .ref rb, rfl, rfl, hLa3, by omega, by omega, by unfold seqIndex?; simp; omega, hu, ?_⟩
        have e4 := Ex.mut (e2.trans e3) hLa0 (o := .lst (xs.eraseIdx j))
        have hzl4 := (hzl3.erase j).imp fun _ _ h => h.upd (o := .lst (xs.eraseIdx j)) hLa3
        have hzd4 := hzd3.imp fun _ _ h => h.upd (o := .lst (xs.eraseIdx j)) hLa3
        have hLa4 : (upd H3 La (.lst (xs.eraseIdx j))) La = some (.lst (xs.eraseIdx j)) := upd_same
        have hDa4 : (upd H3 La (.lst (xs.eraseIdx j))) Da = some (.lst ws) := by rw [upd_ne hne]; exact hDa3
        have hrb4 : (upd H3 La (.lst (xs.eraseIdx j))) rb = some (.lst nsb) := by rw [upd_ne hrbne]; exact hrb
        have hnsb4 := hnsb.imp fun _ _ n => num_upd (o := .lst (xs.eraseIdx j)) n hLa3
        generalize upd H3 La (.lst (xs.eraseIdx j)) = H4 at e4 hzl4 hzd4 hLa4 hDa4 hrb4 hnsb4 ⊢
        -- lead, scaled
        have u720 : (2 : Nat) ^ 720 < 2 ^ 1000 := Nat.pow_lt_pow_right (by decide) (by decide)
        have u300 : (2 : Nat) ^ 300 < 2 ^ 1000 := Nat.pow_lt_pow_right (by decide) (by decide)
        refine ⟨.ref rb, rfl, rb, rfl, ⟨_, SqL.of hrb4⟩, fun D5 hD5 => ?_⟩
        obtain ⟨xi, hxi⟩ : ∃ x, Lb[i]? = some x := ⟨_, List.getElem?_eq_getElem (by omega)⟩
        have hgi : Lb.getD i (0, 1) = xi := by rw [List.getD_eq_getElem?_getD, hxi]; rfl
        rw [hgi] at hx0
        obtain ⟨nvi, hnvi, nni⟩ := hnsb4.at_ hxi
        have bi := lb2 _ (List.mem_of_getElem? hxi)
        refine lc_acc (l := none) (wk_list (K := K) (fun z => nomatch z) (SqL.of hrb4)) hD5 (fun k acc H' => All2 (NumR K H') acc ((leadL Lb i).take k)) .nil (fun _ _ _ _ e h => h.imp fun _ _ n => n.mono e) ?_ ?_
        · rintro k x H5 acc hk e5 hy hl' ha' hx
          obtain ⟨y, hy2, ny⟩ := hnsb4.get hx
          have by_ := lb2 _ (List.mem_of_getElem? hy2)
          refine ⟨rfl, ?_⟩
          refine ⟨_, rfl, _, rfl, _, rfl, rb, nsb, i, nvi, rfl, rfl, SqL.of (e5.ex _ _ hrb4), atI_nat hnvi, x, nvi, y.1, y.2, xi.1, xi.2, rfl, ny.mono e5.ex, nni.mono e5.ex, ⟨Nat.lt_trans by_.2.1 u720, Nat.lt_trans by_.2.2 u300, Nat.lt_trans bi.2.1 u720, Nat.lt_trans bi.2.2 u300⟩, by have := by_.1; omega, hx0, fun H6 z e6 nz => ?_⟩
          have hy6 := e6 _ _ hy
          have ht : (leadL Lb i)[k]? = some (ovN y xi) := by
            unfold leadL
            rw [List.getElem?_map, hy2, hgi]
            rfl
          refine LcP.push hD5 (e5.trans (Exo.of e6)) hy6 hl' (by have := hnsb4.1; omega) ?_
          rw [List.take_add_one, ht]
          exact (ha'.imp fun _ _ n => num_upd (n.mono e6) hy6).app (.cons (num_upd nz hy6) .nil)
        rintro H5 ls e5 hy5 ha5
        have e5 := e5.ex
        have lld : (leadL Lb i).length = nsb.length := by unfold leadL; rw [List.length_map, hnsb4.1]
        rw [← lld, List.take_length] at ha5
        change Ends.nx _ _ _
        dsimp only
        have bld : Bd 200 200 (leadL Lb i) := fun x hx => by
          obtain ⟨k, hk⟩ := List.mem_iff_getElem?.mp hx
          have hkl := (List.getElem?_eq_some_iff.mp hk).1
          have hbb := ldS.bound hb.2 (j := k) (by rw [← ldS.1]; exact hkl)
          have e : (leadL Lb i).getD k (0, 1) = x := by rw [List.getD_eq_getElem?_getD, hk]; rfl
          rw [e] at hbb
          exact ⟨(ldS.2.1 x hx).1, Nat.lt_of_lt_of_le hbb.1 (Nat.pow_le_pow_right (by decide) (by omega)), Nat.lt_of_lt_of_le hbb.2 (Nat.pow_le_pow_right (by decide) (by omega))⟩
        have lldw : (leadL Lb i).length = wd := by rw [ldS.1, hb.1]
        -- left
        have hLa5 := e5 _ _ hLa4
        have hzl5 := hzl4.imp fun _ _ h => h.mono e5
        have hzd5 := hzd4.imp fun _ _ h => h.mono e5
        have hDa5 := e5 _ _ hDa4
        have hsE := hsl.erase j
        have o2e : ∀ x ∈ st.2.eraseIdx j, x.length = wd ∧ ∀ z ∈ x, z.natAbs < 2 ^ (11 * 2 ^ i - 1) := fun x hx => o2 x (List.mem_of_mem_eraseIdx hx)
        refine ⟨.ref La, rfl, La, rfl, ⟨_, SqL.of hLa5⟩, fun D6 hD6 => ?_⟩
        refine lc_acc (l := none) (wk_list (K := K) (fun z => nomatch z) (SqL.of hLa5)) hD6 (fun k acc H' => All2 (RowX K D6 H') acc (((Ls.eraseIdx j).map fun M => takenL M (leadL Lb i) i).take k)) .nil (fun _ _ _ _ e h => h.imp fun _ _ h => h.mono e) ?_ ?_
        · rintro k x H6 acc hk e6 hy hl' ha' hx
          obtain ⟨M, hM, rr, ns, rfl, _, hrr, hns⟩ := hzl5.get hx
          obtain ⟨m1, m2⟩ := hsE.bd (by omega) o2e hM
          refine ⟨rfl, ?_⟩
          refine ⟨_, rfl, _, rfl, _, rfl, rr, D5, i, ns, ls, M, leadL Lb i, rfl, SqL.of (e6.ex _ _ hrr), SqL.of (e6.ex _ _ hy5), hns.imp fun _ _ n => n.mono e6.ex, ha5.imp fun _ _ n => n.mono e6.ex, by omega, by omega, by omega, m2, bld, fun H7 l7 zs7 e7 hl7 hz7 hn7 => ?_⟩
          have hy7 := e7 _ _ hy
          refine LcP.push hD6 (e6.trans (Exo.of e7)) hy7 hl' (by have := List.length_eraseIdx_le xs j; omega) ?_
          have hrow : RowX K D6 H7 (.ref l7) (takenL M (leadL Lb i) i) := ⟨l7, zs7, rfl, (ne_of_none hy hn7).symm, hl7, hz7⟩
          rw [List.take_add_one, List.getElem?_map, hM]
          exact (ha'.imp fun _ _ h => (h.mono e7).upd hy7).app (.cons (hrow.upd hy7) .nil)
        rintro H6 us6 e6 hy6 ha6
        have e6 := e6.ex
        rw [hzl5.1, ← List.length_map (f := fun M => takenL M (leadL Lb i) i), List.take_length] at ha6
        change Ends.nx _ _ _
        dsimp only
        -- done
        have hDa6 := e6 _ _ hDa5
        have hzd6 := hzd5.imp fun _ _ h => h.mono e6
        have o1e : ∀ x ∈ st.1.map (·.2), x.length = wd ∧ ∀ z ∈ x, z.natAbs < 2 ^ (11 * 2 ^ i - 1) := fun x hx => by
          obtain ⟨y, hy, rfl⟩ := List.mem_map.mp hx
          exact o1 y hy
        refine ⟨.ref Da, rfl, Da, rfl, ⟨_, SqL.of hDa6⟩, fun D7 hD7 => ?_⟩
        refine lc_acc (l := none) (wk_list (K := K) (fun z => nomatch z) (SqL.of hDa6)) hD7 (fun k acc H' => All2 (fun v L => RowX K D6 H' v L ∧ RowX K D7 H' v L) acc ((Ms.map fun M => takenL M (leadL Lb i) i).take k)) .nil (fun _ _ _ _ e h => h.imp fun _ _ h => ⟨h.1.mono e, h.2.mono e⟩) ?_ ?_
        · rintro k x H8 acc hk e8 hy hl' ha' hx
          obtain ⟨M, hM, rr, ns, rfl, _, hrr, hns⟩ := hzd6.get hx
          obtain ⟨m1, m2⟩ := hsd.bd (by omega) o1e hM
          refine ⟨rfl, ?_⟩
          refine ⟨_, rfl, _, rfl, _, rfl, rr, D5, i, ns, ls, M, leadL Lb i, rfl, SqL.of (e8.ex _ _ hrr), SqL.of ((e6.trans e8.ex) _ _ hy5), hns.imp fun _ _ n => n.mono e8.ex, ha5.imp fun _ _ n => n.mono (e6.trans e8.ex), by omega, by omega, by omega, m2, bld, fun H9 l9 zs9 e9 hl9 hz9 hn9 => ?_⟩
          have hy9 := e9 _ _ hy
          refine LcP.push hD7 (e8.trans (Exo.of e9)) hy9 hl' (by have h1 := hzd6.1; have h2 := hsd.1; rw [List.length_map] at h2; have h3 : st.1.length ≤ zss.length := (by omega); omega) ?_
          have hrow6 : RowX K D6 H9 (.ref l9) (takenL M (leadL Lb i) i) := ⟨l9, zs9, rfl, (ne_of_none (e8.ex _ _ hy6) hn9).symm, hl9, hz9⟩
          have hrow7 : RowX K D7 H9 (.ref l9) (takenL M (leadL Lb i) i) := ⟨l9, zs9, rfl, (ne_of_none hy hn9).symm, hl9, hz9⟩
          rw [List.take_add_one, List.getElem?_map, hM]
          exact (ha'.imp fun _ _ h => ⟨(h.1.mono e9).upd2 hy9 (h.2.mono e9), (h.2.mono e9).upd hy9⟩).app (.cons ⟨hrow6.upd2 hy9 hrow7, hrow7.upd hy9⟩ .nil)
        rintro H8 us8 e8 hy8 ha8
        have e8 := e8.ex
        rw [hzd6.1, ← List.length_map (f := fun M => takenL M (leadL Lb i) i), List.take_length] at ha8
        refine ⟨_, rfl, by show (1 : Nat) ≤ sizeLine; omega, fun p9 hp9 => ?_⟩
        have e9 := Ex.new (o := .lst [.ref D5]) hp9
        have l8 : us8.length = Ms.length := by rw [ha8.1, List.length_map]
        have lM : Ms.length = st.1.length := by rw [hsd.1, List.length_map]
        refine ⟨D7, p9, _, _, rfl, rfl, e9 _ _ hy8, upd_same, by rw [l8]; show Ms.length + 1 ≤ sizeLine; omega, fun k10 hk10 => ?_⟩
        have e10 := Ex.new (o := .lst (us8 ++ [.ref D5])) hk10
        have e810 := e9.trans e10
        have e610 := e8.trans e810
        have hD60 : H D6 = none := none_ex (e4.trans e5) hD6
        have hy5' := (e6.trans e610) _ _ hy5
        refine ⟨D6, k10, us6, us8 ++ [.ref D5], (Ls.eraseIdx j).map fun M => takenL M (leadL Lb i) i, (Ms.map fun M => takenL M (leadL Lb i) i) ++ [leadL Lb i], _, _, _, rfl, (e4.trans e5).trans (e6.trans e610), hD60, (ne_of_none ((e8.trans e9) _ _ hy6) hk10).symm, e610 _ _ hy6, ha6.imp fun _ _ h => h.mono e610, upd_same, ?_, ?_, ?_⟩
        · exact (ha8.imp fun _ _ h => h.1.mono e810).app (.cons ⟨D5, ls, rfl, ne_of_none hy5 hD6, hy5', ha5.imp fun _ _ n => n.mono (e6.trans e610)⟩ .nil)
        · exact hsE.step hsb hi o2e hb hb0
        · have h1 := hsd.step hsb hi o1e hb hb0
          rw [List.map_append, List.map_map]
          rw [List.map_map] at h1
          exact h1.snoc (ldS.mono (by omega) (by rw [Nat.pow_succ]; omega))
    · rintro σ H2 ⟨La, Da, xs, ws, Ls, Ms, c5, c6, c8, rfl, e2, hLa0, hne, hLa, hzl, hDa, hzd, hsl, hsd⟩
      refine ⟨_, rfl, Da, rfl, ⟨_, SqL.of hDa⟩, fun D hD => ?_⟩
      have lws : ws.length = (echN zss wd).1.length := by rw [hzd.1, hsd.1, List.length_map]
      have hec := (hok wd (Nat.le_refl _)).2.2
      refine lc_acc (l := none) (wk_list (K := K) (fun z => nomatch z) (SqL.of hDa)) hD (fun i acc _ => acc.length = i) rfl (fun _ _ _ _ _ h => h) ?_ ?_
      · rintro k x H3 acc hk e3 hy hl' ha' hx
        obtain ⟨L, hL, rr, ns, rfl, _, hrr, hns⟩ := hzd.get hx
        refine ⟨rfl, ?_⟩
        refine ⟨_, rfl, rr, ns, rfl, .inl ⟨SqL.of (e3.ex _ _ hrr), fun l hl => ?_⟩⟩
        have e4 := Ex.new (o := .tup ns) hl
        refine LcP.push hD (e3.trans (Exo.of e4)) (e4 _ _ hy) hl' (by omega) ?_
        rw [List.length_append, ha']
        rfl
      · rintro H3 acc e3 hy ha3
        exact q H3 D acc (e2.trans e3.ex) hy (by rw [ha3, lws])
/-! ### ranks of the letters alone -/
theorem bd_some (zs : List Int) : ∃ e, ∀ z ∈ zs, z.natAbs < 2 ^ e := by
  induction zs with
  | nil => exact ⟨0, fun z h => absurd h List.not_mem_nil⟩
  | cons y ys ih =>
    obtain ⟨e, he⟩ := ih
    refine ⟨e + y.natAbs, fun z hz => ?_⟩
    rcases List.mem_cons.mp hz with rfl | h
    · exact Nat.lt_of_lt_of_le Nat.lt_two_pow_self (Nat.pow_le_pow_right (by decide) (by omega))
    · exact Nat.lt_of_lt_of_le (he z h) (Nat.pow_le_pow_right (by decide) (by omega))
theorem strk_rel' {xs ys : List Int} {p : Nat} (lx : p < xs.length) (lxy : ys.length = xs.length) (h0 : ys.getD p 0 ≠ 0) :
    ∃ c : Int, c ≠ 0 ∧ ∀ j, ys.getD p 0 * xs.getD j 0 - xs.getD p 0 * ys.getD j 0 = c * (strk xs ys p).getD j 0 := by
  obtain ⟨e1, h1⟩ := bd_some xs
  obtain ⟨e2, h2⟩ := bd_some ys
  obtain ⟨c, c0, _, hc⟩ := strk_rel (e := e1 + e2) lx lxy (fun z hz => Nat.lt_of_lt_of_le (h1 z hz) (Nat.pow_le_pow_right (by decide) (by omega))) (fun z hz => Nat.lt_of_lt_of_le (h2 z hz) (Nat.pow_le_pow_right (by decide) (by omega))) h0
  exact ⟨c, c0, hc⟩
def PR (n : Nat) (P P' : List Int) : Prop := P.length = n + 1 ∧ P'.length = n ∧ ∃ s t : Int, s ≠ 0 ∧ t ≠ 0 ∧ ∀ j, j < n → t * P'.getD j 0 = s * P.getD j 0
theorem PR.zero {n j : Nat} {P P' : List Int} (h : PR n P P') (hj : j < n) : P.getD j 0 = 0 ↔ P'.getD j 0 = 0 := by
  obtain ⟨_, _, s, t, s0, t0, hst⟩ := h
  have e := hst j hj
  constructor
  · intro z
    rw [z, Int.mul_zero] at e
    exact (Int.mul_eq_zero.mp e).resolve_left t0
  · intro z
    rw [z, Int.mul_zero] at e
    exact (Int.mul_eq_zero.mp e.symm).resolve_left s0
theorem PR.step {n p : Nat} {P P' B B' : List Int} (h : PR n P P') (g : PR n B B') (hp : p < n) (h0 : B.getD p 0 ≠ 0) : PR n (strk P B p) (strk P' B' p) := by
  have h0' : B'.getD p 0 ≠ 0 := fun z => h0 ((g.zero hp).mpr z)
  obtain ⟨l1, l2, s, t, s0, t0, hst⟩ := h
  obtain ⟨l3, l4, s2, t2, s20, t20, hst2⟩ := g
  obtain ⟨c, c0, hc⟩ := strk_rel' (xs := P) (ys := B) (p := p) (by omega) (by omega) h0
  obtain ⟨c', c0', hc'⟩ := strk_rel' (xs := P') (ys := B') (p := p) (by omega) (by omega) h0'
  refine ⟨by rw [strk_len (by omega), l1], by rw [strk_len (by omega), l2], s * s2 * c, t * t2 * c', Int.mul_ne_zero (Int.mul_ne_zero s0 s20) c0, Int.mul_ne_zero (Int.mul_ne_zero t0 t20) c0', fun j hj => ?_⟩
  have a1 := hst j hj
  have a2 := hst p hp
  have b1 := hst2 j hj
  have b2 := hst2 p hp
  have d1 := hc j
  have d2 := hc' j
  clear hst hst2 hc hc'
  generalize (strk P B p).getD j 0 = Z at *
  generalize (strk P' B' p).getD j 0 = Z' at *
  generalize P.getD j 0 = x at *
  generalize P.getD p 0 = xp at *
  generalize P'.getD j 0 = x' at *
  generalize P'.getD p 0 = xp' at *
  generalize B.getD j 0 = y at *
  generalize B.getD p 0 = yp at *
  generalize B'.getD j 0 = y' at *
  generalize B'.getD p 0 = yp' at *
  have e1 : t * t2 * c' * Z' = t * t2 * (yp' * x' - xp' * y') := by rw [d2]; ac_rfl
  have e2 : s * s2 * c * Z = s * s2 * (yp * x - xp * y) := by rw [d1]; ac_rfl
  rw [e1, e2]
  grind
def LR (n : Nat) (Ps Qs : List (List Int)) : Prop := Ps.length = Qs.length ∧ ∀ (k : Nat) (P P' : List Int), Ps[k]? = some P → Qs[k]? = some P' → PR n P P'
theorem fi_congr {α β : Type} {f : α → Bool} {g : β → Bool} : ∀ (xs : List α) (ys : List β), xs.map f = ys.map g → xs.findIdx? f = ys.findIdx? g
  | [], [], _ => rfl
  | [], _ :: _, h => by simp at h
  | _ :: _, [], h => by simp at h
  | x :: xs, y :: ys, h => by
    rw [List.map_cons, List.map_cons] at h
    obtain ⟨h1, h2⟩ := List.cons.inj h
    rw [List.findIdx?_cons, List.findIdx?_cons, h1, fi_congr xs ys h2]
theorem LR.find {n i : Nat} {Ps Qs : List (List Int)} (h : LR n Ps Qs) (hi : i < n) : Ps.findIdx? (fz i) = Qs.findIdx? (fz i) := by
  refine fi_congr Ps Qs (List.ext_getElem? fun k => ?_)
  rw [List.getElem?_map, List.getElem?_map]
  cases e1 : Ps[k]? with
  | none =>
    have : Qs[k]? = none := List.getElem?_eq_none (by rw [← h.1]; exact List.getElem?_eq_none_iff.mp e1)
    rw [this]
  | some P =>
    have hk := (List.getElem?_eq_some_iff.mp e1).1
    obtain ⟨P', e2⟩ : ∃ P', Qs[k]? = some P' := ⟨_, List.getElem?_eq_getElem (by rw [← h.1]; exact hk)⟩
    rw [e2]
    have hz := (h.2 k P P' e1 e2).zero hi
    show some (fz i P) = some (fz i P')
    unfold fz
    simp only [hz]
theorem LR.next {n i j : Nat} {Ps Qs : List (List Int)} {B B' : List Int} (h : LR n Ps Qs) (g : PR n B B') (hi : i < n) (h0 : B.getD i 0 ≠ 0) : LR n ((Ps.eraseIdx j).map fun x => strk x B i) ((Qs.eraseIdx j).map fun x => strk x B' i) := by
  refine ⟨by rw [List.length_map, List.length_map, List.length_eraseIdx, List.length_eraseIdx, h.1], fun k P P' hP hP' => ?_⟩
  rw [List.getElem?_map, List.getElem?_eraseIdx] at hP hP'
  by_cases hk : k < j
  · rw [if_pos hk] at hP hP'
    cases e1 : Ps[k]? with
    | none => rw [e1] at hP; cases hP
    | some R =>
      cases e2 : Qs[k]? with
      | none => rw [e2] at hP'; cases hP'
      | some R' =>
        rw [e1] at hP
        rw [e2] at hP'
        cases hP
        cases hP'
        exact (h.2 k R R' e1 e2).step g hi h0
  · rw [if_neg hk] at hP hP'
    cases e1 : Ps[k + 1]? with
    | none => rw [e1] at hP; cases hP
    | some R =>
      cases e2 : Qs[k + 1]? with
      | none => rw [e2] at hP'; cases hP'
      | some R' =>
        rw [e1] at hP
        rw [e2] at hP'
        cases hP
        cases hP'
        exact (h.2 _ R R' e1 e2).step g hi h0
theorem prim_rel' (zs : List Int) : ∃ c : Int, c ≠ 0 ∧ ∀ j, zs.getD j 0 = c * (prim zs).getD j 0 := by
  obtain ⟨e, he⟩ := bd_some zs
  obtain ⟨c, c0, _, hc⟩ := prim_rel he
  exact ⟨c, c0, hc⟩
theorem PR.start {n : Nat} {zs : List Int} (hl : zs.length = n + 1) : PR n (prim zs) (prim (zs.take n)) := by
  obtain ⟨c, c0, hc⟩ := prim_rel' zs
  obtain ⟨d, d0, hd⟩ := prim_rel' (zs.take n)
  refine ⟨by rw [prim_len, hl], by rw [prim_len, List.length_take]; omega, c, d, c0, d0, fun j hj => ?_⟩
  rw [← hd j, ← hc j, List.getD_eq_getElem?_getD, List.getD_eq_getElem?_getD, List.getElem?_take, if_pos hj]
theorem ech_take {n : Nat} {zss : List (List Int)} (hl : ∀ zs ∈ zss, zs.length = n + 1) : ∀ i, i ≤ n → (echN zss i).1.length = (echN (zss.map (List.take n)) i).1.length ∧ LR n (echN zss i).2 (echN (zss.map (List.take n)) i).2
  | 0, _ => by
    refine ⟨rfl, by show (zss.map prim).length = ((zss.map (List.take n)).map prim).length; simp, fun k P P' hP hP' => ?_⟩
    have hP : (zss.map prim)[k]? = some P := hP
    have hP' : ((zss.map (List.take n)).map prim)[k]? = some P' := hP'
    rw [List.getElem?_map] at hP hP'
    rw [List.getElem?_map] at hP'
    cases e : zss[k]? with
    | none => rw [e] at hP; cases hP
    | some zs =>
      rw [e] at hP hP'
      cases hP
      cases hP'
      exact PR.start (hl zs (List.mem_of_getElem? e))
  | i + 1, hi => by
    obtain ⟨h1, h2⟩ := ech_take hl i (by omega)
    have hf := h2.find (i := i) (by omega)
    show (eStep i (echN zss i)).1.length = (eStep i (echN (zss.map (List.take n)) i)).1.length ∧ LR n (eStep i (echN zss i)).2 (eStep i (echN (zss.map (List.take n)) i)).2
    generalize echN zss i = st at *
    generalize echN (zss.map (List.take n)) i = st' at *
    cases e : st.2.findIdx? (fz i) with
    | none =>
      rw [eStep_none e, eStep_none (hf ▸ e)]
      exact ⟨h1, h2⟩
    | some j =>
      rw [eStep_some e, eStep_some (hf ▸ e)]
      obtain ⟨hj, hjt, _⟩ := List.findIdx?_eq_some_iff_getElem.mp e
      have e1 : st.2[j]? = some (st.2.getD j []) := by rw [List.getD_eq_getElem?_getD, List.getElem?_eq_getElem hj]; rfl
      have e2 : st'.2[j]? = some (st'.2.getD j []) := by rw [List.getD_eq_getElem?_getD, List.getElem?_eq_getElem (by rw [← h2.1]; exact hj)]; rfl
      have hb := h2.2 j _ _ e1 e2
      have h0 : (st.2.getD j []).getD i 0 ≠ 0 := fun z => by
        have : fz i (st.2.getD j []) = true := by
          rw [List.getD_eq_getElem?_getD, List.getElem?_eq_getElem hj]
          exact hjt
        unfold fz at this
        rw [z] at this
        exact absurd this (by decide)
      refine ⟨?_, h2.next hb (by omega) h0⟩
      show (st.1.map _ ++ [_]).length = (st'.1.map _ ++ [_]).length
      rw [List.length_append, List.length_append, List.length_map, List.length_map, h1]
      rfl
theorem piv_lt (zss : List (List Int)) : ∀ i, ∀ x ∈ (echN zss i).1, x.1 < i
  | 0, x, hx => absurd hx List.not_mem_nil
  | i + 1, x, hx => by
    have ih := piv_lt zss i
    have hx : x ∈ (eStep i (echN zss i)).1 := hx
    cases e : (echN zss i).2.findIdx? (fz i) with
    | none =>
      rw [eStep_none e] at hx
      have := ih x hx
      omega
    | some j =>
      rw [eStep_some e] at hx
      rcases List.mem_append.mp hx with h | h
      · obtain ⟨y, hy, rfl⟩ := List.mem_map.mp h
        have := ih y hy
        show y.1 < i + 1
        omega
      · rw [List.mem_singleton.mp h]
        exact Nat.lt_succ_self i
theorem cen_eq {n : Nat} {zss : List (List Int)} (hl : ∀ zs ∈ zss, zs.length = n + 1) : cenL n zss = decide (rankL n zss = (echN zss (n + 1)).1.length) := by
  unfold rankL cenL
  rw [← (ech_take hl n (Nat.le_refl _)).1]
  have hp := piv_lt zss n
  show (eStep n (echN zss n)).1.all _ = decide ((echN zss n).1.length = (eStep n (echN zss n)).1.length)
  cases e : (echN zss n).2.findIdx? (fz n) with
  | none =>
    rw [eStep_none e, decide_eq_true rfl, List.all_eq_true]
    exact fun x hx => decide_eq_true (by have := hp x hx; omega)
  | some j =>
    rw [eStep_some e, decide_eq_false (by show ¬ _ = (List.map _ _ ++ [_]).length; rw [List.length_append, List.length_map]; show ¬ _ = _ + 1; omega)]
    refine Bool.eq_false_iff.mpr fun h => ?_
    rw [List.all_eq_true] at h
    have := of_decide_eq_true (h (n, (echN zss n).2.getD j []) (List.mem_append_right _ (by simp)))
    omega
/-! ### common divisors -/
def glf (c : Nat) (zs : List Int) : Nat := zs.foldl (fun g a => g.gcd a.natAbs) c
theorem glf_dvd : ∀ (zs : List Int) (c : Nat), glf c zs ∣ c ∧ ∀ z ∈ zs, (glf c zs : Int) ∣ z
  | [], c => ⟨Nat.dvd_refl _, fun z h => absurd h List.not_mem_nil⟩
  | y :: ys, c => by
    have ih := glf_dvd ys (c.gcd y.natAbs)
    refine ⟨Nat.dvd_trans ih.1 (Nat.gcd_dvd_left _ _), fun z hz => ?_⟩
    rcases List.mem_cons.mp hz with e | h
    · rw [e]
      have : glf c (y :: ys) ∣ y.natAbs := Nat.dvd_trans ih.1 (Nat.gcd_dvd_right _ _)
      exact Int.natAbs_dvd_natAbs.mp this
    · exact ih.2 z h
theorem glf_mul {g : Nat} (hg : 0 < g) : ∀ (zs : List Int) (c : Nat), (∀ z ∈ zs, (g : Int) ∣ z) → glf (g * c) zs = g * glf c (zs.map fun z => z.fdiv g)
  | [], c, _ => rfl
  | y :: ys, c, h => by
    obtain ⟨k, rfl⟩ := h y (by simp)
    have e1 : ((g : Int) * k).fdiv g = k := by rw [Int.fdiv_eq_ediv_of_dvd ⟨k, rfl⟩, Int.mul_ediv_cancel_left k (by omega)]
    have e2 : ((g : Int) * k).natAbs = g * k.natAbs := by rw [Int.natAbs_mul]; rfl
    show glf ((g * c).gcd ((g : Int) * k).natAbs) ys = g * glf (c.gcd (((g : Int) * k).fdiv g).natAbs) (ys.map fun z => z.fdiv g)
    rw [e1, e2, Nat.gcd_mul_left]
    exact glf_mul hg ys _ fun z hz => h z (List.mem_cons_of_mem _ hz)
theorem gl_quot {zs : List Int} (h : 0 < gl zs) : gl (zs.map fun z => z.fdiv (gl zs : Nat)) = 1 := by
  have e := glf_mul h zs 0 (glf_dvd zs 0).2
  rw [Nat.mul_zero] at e
  have e2 : gl zs * 1 = gl zs * glf 0 (zs.map fun z => z.fdiv (gl zs : Nat)) := by
    rw [Nat.mul_one]
    exact e
  exact (Nat.eq_of_mul_eq_mul_left h e2).symm
theorem gl_pos {zs : List Int} {z : Int} (hz : z ∈ zs) (h0 : z ≠ 0) : 0 < gl zs := by
  have h1 := (glf_dvd zs 0).2 z hz
  by_cases h : gl zs = 0
  · have h1 : ((gl zs : Nat) : Int) ∣ z := h1
    rw [h] at h1
    have := Int.zero_dvd.mp h1
    exact absurd this h0
  · omega
theorem gl_le {zs : List Int} {z : Int} (hz : z ∈ zs) (h0 : z ≠ 0) : gl zs ≤ z.natAbs := by
  have h1 : ((gl zs : Nat) : Int) ∣ z := (glf_dvd zs 0).2 z hz
  have h2 : ((gl zs : Nat) : Int).natAbs ∣ z.natAbs := Int.natAbs_dvd_natAbs.mpr h1
  exact Nat.le_of_dvd (by omega) h2
theorem quot_bd {g : Nat} (hg : 0 < g) {z : Int} (h : (g : Int) ∣ z) {B : Nat} (hz : z.natAbs ≤ B) : (z.fdiv g).natAbs ≤ B ∧ (z ≠ 0 → z.fdiv g ≠ 0) := by
  obtain ⟨k, rfl⟩ := h
  have e1 : ((g : Int) * k).fdiv g = k := by rw [Int.fdiv_eq_ediv_of_dvd ⟨k, rfl⟩, Int.mul_ediv_cancel_left k (by omega)]
  rw [e1]
  rw [Int.natAbs_mul] at hz
  refine ⟨Nat.le_trans (Nat.le_mul_of_pos_left _ (by show 0 < (g : Int).natAbs; omega)) hz, fun h hk => h (by rw [hk, Int.mul_zero])⟩
theorem sum_bd {B : Int} (hB : 0 ≤ B) : ∀ xs : List Int, (∀ z ∈ xs, -B ≤ z ∧ z ≤ B) → -(B * xs.length) ≤ xs.sum ∧ xs.sum ≤ B * xs.length
  | [], _ => by simp
  | x :: xs, h => by
    have ih := sum_bd hB xs fun z hz => h z (List.mem_cons_of_mem _ hz)
    have h0 := h x (by simp)
    rw [List.sum_cons, List.length_cons]
    have : B * ((xs.length + 1 : Nat) : Int) = B * xs.length + B := by
      rw [Int.natCast_add, Int.mul_add]
      simp
    omega
theorem plane_of {n : Nat} {zs : List Int} {last : Int} (hl : zs.length = n) (hb : ∀ z ∈ zs, -3 ≤ z ∧ z ≤ 3) (hlast : -100 ≤ last ∧ last ≤ 100) (hne : ∃ z ∈ zs, z ≠ 0) :
    0 < gl (zs ++ [last]) ∧ gl (zs ++ [last]) ≤ 3 ∧ Pl n ((zs ++ [last]).map fun z => z.fdiv (gl (zs ++ [last]) : Nat)) := by
  obtain ⟨z, hz, z0⟩ := hne
  have hm : z ∈ zs ++ [last] := List.mem_append_left _ hz
  have hp := gl_pos hm z0
  have hle := gl_le hm z0
  have hzb := hb z hz
  refine ⟨hp, by omega, by rw [List.length_map, List.length_append, hl]; rfl, fun y hy => ?_, ⟨z.fdiv (gl (zs ++ [last]) : Nat), ?_, ?_⟩, gl_quot hp⟩
  · obtain ⟨x, hx, rfl⟩ := List.mem_map.mp hy
    have hd := (glf_dvd (zs ++ [last]) 0).2 x hx
    have hxb : x.natAbs ≤ 100 := by
      rcases List.mem_append.mp hx with h | h
      · have := hb x h
        omega
      · have := List.mem_singleton.mp h
        omega
    have := (quot_bd hp hd hxb).1
    show -1000 ≤ x.fdiv (gl (zs ++ [last]) : Nat) ∧ x.fdiv (gl (zs ++ [last]) : Nat) ≤ 1000
    omega
  · rw [← List.map_take, ← hl, List.take_left]
    exact List.mem_map.mpr ⟨z, hz, rfl⟩
  · exact (quot_bd hp ((glf_dvd (zs ++ [last]) 0).2 z hm) (B := z.natAbs) (Nat.le_refl _)).2 z0
/-! ### planes that are drawn -/
theorem Mv.exo {l : Addr} {H H' : Hp} (m : Mv l H H') : Exo (some l) H H' := fun a o n h => m.1 a o (fun e => n (by rw [e])) h
theorem Mv.mk {l : Addr} {H H' : Hp} (e : Exo (some l) H H') (d : DrA l H') : Mv l H H' := ⟨fun a o n h => e a o (fun z => n (Option.some.inj z)) h, d⟩
theorem dra_ex {l : Addr} {H H' : Hp} (d : DrA l H) (e : Ex H H') : DrA l H' := (Mv.of d e).2
theorem dra_upd {l p : Addr} {H : Hp} {o : HO} (d : DrA l H) (h : p ≠ l) : DrA l (upd H p o) := by
  obtain ⟨ds, h1, h2⟩ := d
  exact ⟨ds, by rw [upd_ne (Ne.symm h)]; exact h1, h2⟩
theorem Mv.upd {l p : Addr} {H H' : Hp} {o : HO} (m : Mv l H H') (h : H p = none) (n : p ≠ l) : Mv l H (upd H' p o) := .mk (exo_upd m.exo h) (dra_upd m.2 n)
theorem dra_ne {l p : Addr} {H : Hp} (d : DrA l H) (h : H p = none) : p ≠ l := by
  obtain ⟨ds, h1, _⟩ := d
  exact (ne_of_none h1 h).symm
theorem mv_none {l p : Addr} {H H1 : Hp} (m : Mv l H H1) (h : H1 p = none) : H p = none := by
  cases z : H p with
  | none => rfl
  | some o =>
    have := m.1 p o (dra_ne m.2 h) z
    rw [h] at this
    cases this
/-- a list of ints of our own -/
structure RowAt (l : Addr) (H : Hp) (n : Nat) (B : Int) (D : Addr) (zs : List Int) (H' : Hp) : Prop where
  mv : Mv l H H'
  fr : H D = none
  ne : D ≠ l
  at_ : H' D = some (.lst (zs.map V.int))
  len : zs.length = n
  bd : ∀ z ∈ zs, -B ≤ z ∧ z ≤ B
theorem RowAt.on {l : Addr} {H : Hp} {n : Nat} {B : Int} {D : Addr} {zs : List Int} {H' H2 : Hp} (r : RowAt l H n B D zs H') (m : Mv l H' H2) : RowAt l H n B D zs H2 :=
  ⟨r.mv.trans m, r.fr, r.ne, m.1 _ _ r.ne r.at_, r.len, r.bd⟩
def AccI (l : Addr) (B : Int) (i : Nat) (ys : List V) (H : Hp) : Prop := DrA l H ∧ ∃ zs : List Int, ys = zs.map V.int ∧ zs.length = i ∧ ∀ z ∈ zs, -B ≤ z ∧ z ≤ B
theorem AccI.ex {l : Addr} {B : Int} {i : Nat} {ys : List V} {H H' : Hp} (e : Ex H H') (h : AccI l B i ys H) : AccI l B i ys H' := ⟨dra_ex h.1 e, h.2⟩
theorem AccI.push {l : Addr} {B : Int} {i : Nat} {ys : List V} {H H' : Hp} (h : AccI l B i ys H) (d : DrA l H') {z : Int} (hz : -B ≤ z ∧ z ≤ B) : AccI l B (i + 1) (ys ++ [.int z]) H' := by
  obtain ⟨_, zs, rfl, h2, h3⟩ := h
  refine ⟨d, zs ++ [z], by rw [List.map_append]; rfl, by rw [List.length_append, h2]; rfl, fun y hy => ?_⟩
  rcases List.mem_append.mp hy with h | h
  · exact h3 y h
  · rw [List.mem_singleton.mp h]
    exact hz
theorem AccI.row {l : Addr} {B : Int} {n : Nat} {ys : List V} {H H1 H2 : Hp} {D : Addr} (h : AccI l B n ys H2) (m : Mv l H H1) (hD : H1 D = none) (e : Exo (some l) H1 H2) (hy : H2 D = some (.lst ys)) : ∃ zs, RowAt l H n B D zs H2 := by
  obtain ⟨d, zs, rfl, h2, h3⟩ := h
  exact ⟨zs, ⟨.mk (m.exo.trans e) d, mv_none m hD, dra_ne m.2 hD, hy, h2, h3⟩⟩
def PvAt (H : Hp) (n : Nat) (pt : Addr) (gs : List Int) : Prop := H pt = some (.lst (gs.map V.int)) ∧ gs.length = n ∧ ∀ z ∈ gs, -2 ≤ z ∧ z ≤ 2
def sp__law_plane (K : PySem.W.Frag) : Sp := fun vs H Q _ => ∃ (l pt : Addr) (n : Nat) (gs : List Int), vs = [.ref l, .int n, .ref pt] ∧ DrA l H ∧ 1 ≤ n ∧ n ≤ 4 ∧ PvAt H n pt gs ∧ pt ≠ l ∧
  ∀ H' v zs, Mv l H H' → PlV K H' v zs → Pl n zs → Q v H'
theorem ok__law_plane (T : Txt K w mg ad fd) : Cal P w K mg base CX0 2 "_law_plane" (ad 36) (fd 36) ["draws", "n", "point"] [] [] (sp__law_plane K) := by
  refine ⟨T.f__law_plane.ok sc__law_plane (fun vs H Q E h => ?_) (fun cdv A outer s H vs Q E hr h => ?_), T.g__law_plane, T.f__law_plane.kp, T.f__law_plane.binds (ps := ["draws", "n", "point"]) fun _ _ _ _ _ _ us hl => match us, hl with | [_, _, _], _ => rfl, .nil⟩
  · obtain ⟨l, pt, n, gs, rfl, _⟩ := h
    rfl
  · obtain ⟨l, pt, n, gs, rfl, hd, n1, n4, ⟨hpt, hpl, hpb⟩, npl, q⟩ := h
    have sz : sizeLine = 16777216 := sizeLine_eq
    refine ⟨_, (pss_cons (ps_set (i := 3) sc__law_plane.nd rfl (by first | exact Or.inl rfl | exact Or.inr rfl) (pe_lc (own := [("j", 4)]) rfl sc__law_plane.nd (pi_range1 rfl T.m_range (pa_cons (pv 1) pa_nil)) (blkOk_by (N := ["draws", "n", "point", "row", "j", "place", "a", "last", "common"]) (sc := defScope s__law_plane) (by decide +kernel)) (fun _ _ _ _ _ => (pg_name (i := 4) sc__law_plane.nd rfl (by first | exact Or.inl rfl | exact Or.inr rfl))) (fun _ _ _ _ _ => pts_nil) (fun _ _ _ _ _ => (pe_op op_sub (pe_op op_mod (pe_callTy (T := "int") call_int1 (by rfl) T.m_int (by decide +kernel) (pa_cons (pe_cal (ok__law_next T (P := P) (w := w) (base := base)) (hr.mono (by decide)) pass0 (pa_cons (pv 0) pa_nil)) pa_nil)) pe_int) pe_int))))
    (pss_cons (ps_if (pt_cmpR op_eq (pe_op op_mod (pe_callTy (T := "int") call_int1 (by rfl) T.m_int (by decide +kernel) (pa_cons (pe_cal (ok__law_next T (P := P) (w := w) (base := base)) (hr.mono (by decide)) pass0 (pa_cons (pv 0) pa_nil)) pa_nil)) pe_int) pe_int (nomark _)) (pss_cons (ps_set (i := 5) sc__law_plane.nd rfl (by first | exact Or.inl rfl | exact Or.inr rfl) (pe_op op_mod (pe_callTy (T := "int") call_int1 (by rfl) T.m_int (by decide +kernel) (pa_cons (pe_cal (ok__law_next T (P := P) (w := w) (base := base)) (hr.mono (by decide)) pass0 (pa_cons (pv 0) pa_nil)) pa_nil)) (pv 1)))
    (pss_one (ps_set (i := 3) sc__law_plane.nd rfl (by first | exact Or.inl rfl | exact Or.inr rfl) (pe_lc (own := [("j", 4)]) rfl sc__law_plane.nd (pi_range1 rfl T.m_range (pa_cons (pv 1) pa_nil)) (blkOk_by (N := ["draws", "n", "point", "row", "j", "place", "a", "last", "common"]) (sc := defScope s__law_plane) (by decide +kernel)) (fun _ _ _ _ _ => (pg_name (i := 4) sc__law_plane.nd rfl (by first | exact Or.inl rfl | exact Or.inr rfl))) (fun _ _ _ _ _ => pts_nil) (fun _ _ _ _ _ => (pe_ifExp (pt_cmpR op_eq (pv 4) (pv 5) (nomark _)) (pe_ix (ix_listK (K := K)) (pv 3) (pv 4) (fun _ _ => rfl)) pe_int)))))) pss_nil)
    (pss_cons (ps_if (pt_not (pt_val (pe_callB (cr_any rfl) (by rfl) T.m_any (by decide +kernel) (pa_cons (pe_lc (own := [("a", 6)]) rfl sc__law_plane.nd (pi_list (pv 3)) (blkOk_by (N := ["draws", "n", "point", "row", "j", "place", "a", "last", "common"]) (sc := defScope s__law_plane) (by decide +kernel)) (fun _ _ _ _ _ => (pg_name (i := 6) sc__law_plane.nd rfl (by first | exact Or.inl rfl | exact Or.inr rfl))) (fun _ _ _ _ _ => pts_nil) (fun _ _ _ _ _ => (pe_cmpR op_ne (pv 6) pe_int (nomark _)))) pa_nil)))) (pss_one (ps_asg pe_int (pg_sub (pv 3) (pe_op op_mod (pe_callTy (T := "int") call_int1 (by rfl) T.m_int (by decide +kernel) (pa_cons (pe_cal (ok__law_next T (P := P) (w := w) (base := base)) (hr.mono (by decide)) pass0 (pa_cons (pv 0) pa_nil)) pa_nil)) (pv 1)) set_list))) pss_nil)
    (pss_cons (ps_set (i := 7) sc__law_plane.nd rfl (by first | exact Or.inl rfl | exact Or.inr rfl) (pe_op op_sub (pe_op op_mod (pe_callTy (T := "int") call_int1 (by rfl) T.m_int (by decide +kernel) (pa_cons (pe_cal (ok__law_next T (P := P) (w := w) (base := base)) (hr.mono (by decide)) pass0 (pa_cons (pv 0) pa_nil)) pa_nil)) pe_int) pe_int))
    (pss_cons (ps_if (pt_cmpR op_eq (pe_op op_mod (pe_callTy (T := "int") call_int1 (by rfl) T.m_int (by decide +kernel) (pa_cons (pe_cal (ok__law_next T (P := P) (w := w) (base := base)) (hr.mono (by decide)) pass0 (pa_cons (pv 0) pa_nil)) pa_nil)) pe_int) pe_int (nomark _)) (pss_one (ps_set (i := 7) sc__law_plane.nd rfl (by first | exact Or.inl rfl | exact Or.inr rfl) (pe_callB (cr_sum rfl) (by rfl) T.m_sum (by decide +kernel) (pa_cons (pe_lc (own := [("j", 4)]) rfl sc__law_plane.nd (pi_range1 rfl T.m_range (pa_cons (pv 1) pa_nil)) (blkOk_by (N := ["draws", "n", "point", "row", "j", "place", "a", "last", "common"]) (sc := defScope s__law_plane) (by decide +kernel)) (fun _ _ _ _ _ => (pg_name (i := 4) sc__law_plane.nd rfl (by first | exact Or.inl rfl | exact Or.inr rfl))) (fun _ _ _ _ _ => pts_nil) (fun _ _ _ _ _ => (pe_op op_mulW (pe_ix (ix_listK (K := K)) (pv 3) (pv 4) (fun _ _ => rfl)) (pe_ix (ix_listK (K := K)) (pv 2) (pv 4) (fun _ _ => rfl))))) pa_nil)))) pss_nil)
    (pss_cons (ps_expr (pe_bm PySem.F.plainAttrs_list PySem.F.slot_list_append PySem.F.type_list_append mt_append (pv 3) (pa_cons (pv 7) pa_nil)))
    (pss_cons (ps_set (i := 8) sc__law_plane.nd rfl (by first | exact Or.inl rfl | exact Or.inr rfl) pe_int)
    (pss_cons (ps_for (by first | exact PassesOwn.never | exact passes_of rfl) rfl (pi_list (pv 3)) (pg_name (i := 6) sc__law_plane.nd rfl (by first | exact Or.inl rfl | exact Or.inr rfl))
      (pss_one (ps_set (i := 8) sc__law_plane.nd rfl (by first | exact Or.inl rfl | exact Or.inr rfl) (pe_cal (ok__law_divisor T (P := P) (w := w) (base := base)) (hr.mono (by decide)) pass0 (pa_cons (pv 8) (pa_cons (pv 6) pa_nil))))))
    (pss_one (ps_ret (pe_callTy (T := "tuple") (call_tupleK (K := K)) (by rfl) T.m_tuple (by decide +kernel) (pa_cons (pe_lc (own := [("a", 6)]) rfl sc__law_plane.nd (pi_list (pv 3)) (blkOk_by (N := ["draws", "n", "point", "row", "j", "place", "a", "last", "common"]) (sc := defScope s__law_plane) (by decide +kernel)) (fun _ _ _ _ _ => (pg_name (i := 6) sc__law_plane.nd rfl (by first | exact Or.inl rfl | exact Or.inr rfl))) (fun _ _ _ _ _ => pts_nil) (fun _ _ _ _ _ => (pe_op op_fdivG (pv 6) (pv 8)))) pa_nil)))))))))))), ?_⟩
    refine ⟨_, rfl, n, rfl, by omega, by omega, fun D1 hD1 => ?_⟩
    refine lc_acc (l := some l) wk_range hD1 (AccI l 3) ⟨dra_upd hd (dra_ne hd hD1), [], rfl, rfl, fun z h => absurd h List.not_mem_nil⟩ (fun i ys H H' e h => h.ex e) ?_ ?_
    · rintro i x H1 ys hi e1 hy hl ha rfl
      have nD := dra_ne hd hD1
      refine ⟨rfl, ?_⟩
      refine ⟨_, rfl, l, rfl, ha.1, fun H2 d d0 d1 m2 => .inl ⟨_, rfl, _, _, rfl, rfl, by show (0 : Int) < 7; decide, _, _, rfl, rfl, ?_⟩⟩
      exact LcP.push hD1 (e1.trans m2.exo) (m2.1 _ _ nD hy) hl (by omega) (ha.push (dra_upd m2.2 nD) (by omega))
    rintro H1 ys e1 hy ha
    obtain ⟨zs1, r1⟩ := ha.row (Mv.refl hd) hD1 e1 hy
    clear ha hy e1
    change Ends.nx _ _ _
    dsimp only
    refine scut (fun σ' H' => ∃ D zs c, σ' = [some (.ref l), some (.int n), some (.ref pt), some (.ref D), none, c, none, none, none] ∧ RowAt l H n 3 D zs H') (fun n' q' => ?_) ?_
    · refine ⟨_, rfl, l, rfl, r1.mv.2, fun H2 d d0 d1 m2 => .inl ⟨_, rfl, _, _, rfl, rfl, by show (0 : Int) < 3; decide, rfl, _, rfl, ite2 (fun _ => ?_) (fun _ => ?_)⟩⟩
      · refine ⟨_, rfl, l, rfl, m2.2, fun H3 f f0 f1 m3 => .inl ⟨_, rfl, _, rfl, _, _, rfl, rfl, by omega, ?_⟩⟩
        have r3 := r1.on (m2.trans m3)
        refine ⟨_, rfl, n, rfl, by omega, by omega, fun D2 hD2 => ?_⟩
        refine lc_acc (l := some l) wk_range hD2 (AccI l 3) ⟨dra_upd m3.2 (dra_ne m3.2 hD2), [], rfl, rfl, fun z h => absurd h List.not_mem_nil⟩ (fun i ys H H' e h => h.ex e) ?_ ?_
        · rintro i x H4 ys hi e4 hy hl ha rfl
          have nD := dra_ne m3.2 hD2
          have ei : (0 + (i : Int)) = (i : Int) := by omega
          obtain ⟨z, hz⟩ : ∃ z, zs1[i]? = some z := ⟨_, List.getElem?_eq_getElem (by rw [r3.len]; exact hi)⟩
          have hz' : (zs1.map V.int)[i]? = some (.int z) := by rw [List.getElem?_map, hz]; rfl
          have h4 : H4 D1 = some (.lst (zs1.map V.int)) := e4 _ _ (fun e => r3.ne (Option.some.inj e)) r3.at_
          refine ⟨rfl, ?_⟩
          refine ⟨_, rfl, _, rfl, rfl, _, rfl, ite2 (fun _ => ?_) (fun _ => ?_)⟩
          · refine ⟨_, rfl, _, rfl, D1, _, i, .int z, rfl, by rw [ei], SqL.of h4, atI_nat hz', ?_⟩
            exact LcP.push hD2 e4 hy hl (by omega) (ha.push (dra_upd ha.1 nD) (r3.bd z (List.mem_of_getElem? hz)))
          · exact LcP.push hD2 e4 hy hl (by omega) (ha.push (dra_upd ha.1 nD) (by omega))
        · rintro H4 ys e4 hy ha
          obtain ⟨zs2, r2⟩ := ha.row r3.mv hD2 e4 hy
          exact q' _ _ ⟨D2, zs2, _, rfl, r2⟩
      · exact q' _ _ ⟨D1, zs1, _, rfl, r1.on m2⟩
    clear r1 hD1
    rintro σ2 H2 ⟨D, zs, c, rfl, r⟩
    refine scut (fun σ' H' => ∃ zs, σ' = [some (.ref l), some (.int n), some (.ref pt), some (.ref D), none, c, none, none, none] ∧ RowAt l H n 3 D zs H' ∧ ∃ z ∈ zs, z ≠ 0) (fun n' q' => ?_) ?_
    · refine ⟨_, rfl, D, rfl, ⟨_, SqL.of r.at_⟩, fun D3 hD3 => ?_⟩
      refine lc_acc (l := none) (wk_list (K := K) (fun z => nomatch z) (SqL.of r.at_)) hD3 (fun i acc _ => acc = ((zs.map fun z => !decide (z = 0)).take i).map V.bl) rfl (fun _ _ _ _ _ h => h) ?_ ?_
      · rintro i x H4 acc hi e4 hy4 hl4 rfl hx
        obtain ⟨z, rfl, hz'⟩ := int_at hx
        refine ⟨rfl, ?_⟩
        refine ⟨_, rfl, rfl, LcP.push hD3 e4 hy4 hl4 (by rw [List.length_map, r.len] at hi; omega) ?_⟩
        rw [List.take_add_one, List.getElem?_map, hz', List.map_append]
        have : decide (V.int z = V.int 0) = decide (z = 0) := by
          by_cases h : z = 0
          · rw [h, decide_eq_true rfl, decide_eq_true rfl]
          · rw [decide_eq_false h, decide_eq_false (fun q => h (V.int.inj q))]
        rw [this]
        rfl
      · rintro H4 acc e4 hy4 rfl
        rw [List.length_map, ← List.length_map (f := fun z : Int => !decide (z = 0)), List.take_length] at hy4
        refine ⟨D3, _, rfl, SqL.of hy4, _, rfl, ?_⟩
        have r4 := r.on (Mv.of r.mv.2 e4.ex)
        by_cases hB : ∃ z ∈ zs, z ≠ 0
        · have hb : (zs.map fun z => !decide (z = 0)).any id = true := by
            rw [List.any_map, List.any_eq_true]
            obtain ⟨z, h1, h2⟩ := hB
            exact ⟨z, h1, by show (!decide (z = 0)) = true; rw [decide_eq_false h2]; rfl⟩
          rw [hb]
          exact q' _ _ ⟨zs, rfl, r4, hB⟩
        · have hb : (zs.map fun z => !decide (z = 0)).any id = false := by
            rw [List.any_map, List.any_eq_false]
            intro z h1 h2
            have h2 : (!decide (z = 0)) = true := h2
            exact hB ⟨z, h1, fun z0 => by rw [z0] at h2; exact absurd h2 (by decide)⟩
          rw [hb]
          refine ⟨_, rfl, _, rfl, l, rfl, r4.mv.2, fun H5 d d0 d1 m5 => .inl ⟨_, rfl, _, rfl, _, _, rfl, rfl, by omega, ?_⟩⟩
          have r5 := r4.on m5
          have h0n : 0 ≤ d % (n : Int) := Int.emod_nonneg _ (by omega)
          have h1n : d % (n : Int) < n := Int.emod_lt_of_pos _ (by omega)
          have hlt : (d % (n : Int)).toNat < zs.length := by rw [r.len]; omega
          refine ⟨D, _, d % n, (d % (n : Int)).toNat, rfl, rfl, r5.at_, ?_, ?_⟩
          · unfold ixN
            rw [List.length_map]
            have h0 : 0 ≤ d % (n : Int) := Int.emod_nonneg _ (by omega)
            have h1 : d % (n : Int) < n := Int.emod_lt_of_pos _ (by omega)
            rw [if_pos h0, if_pos (by rw [r.len]; exact h1)]
          · refine q' _ _ ⟨zs.set (d % (n : Int)).toNat 1, rfl, ⟨r5.mv.upd r.fr r.ne, r.fr, r.ne, by rw [upd_same, List.map_set], by rw [List.length_set, r.len], fun z hz => ?_⟩, 1, ?_, by decide⟩
            · rcases List.mem_or_eq_of_mem_set hz with h | h
              · exact r.bd z h
              · omega
            · exact List.mem_set hlt 1
    clear r
    rintro σ3 H3 ⟨zs, rfl, r, hne⟩
    refine seqA ?_
    refine ⟨_, rfl, l, rfl, r.mv.2, fun H4 d d0 d1 m4 => .inl ⟨_, rfl, _, _, rfl, rfl, by show (0 : Int) < 9; decide, _, _, rfl, rfl, ?_⟩⟩
    have r4 := r.on m4
    refine scut (fun σ' H' => ∃ z, σ' = [some (.ref l), some (.int n), some (.ref pt), some (.ref D), none, c, none, some (.int z), none] ∧ RowAt l H n 3 D zs H' ∧ -100 ≤ z ∧ z ≤ 100) (fun n' q' => ?_) ?_
    · refine ⟨_, rfl, l, rfl, r4.mv.2, fun H5 e e0 e1 m5 => .inl ⟨_, rfl, _, _, rfl, rfl, by show (0 : Int) < 2; decide, rfl, _, rfl, ite2 (fun _ => ?_) (fun _ => ?_)⟩⟩
      · have r5 := r4.on m5
        have hp5 : H5 pt = some (.lst (gs.map V.int)) := r5.mv.1 _ _ npl hpt
        refine ⟨_, rfl, n, rfl, by omega, by omega, fun D6 hD6 => ?_⟩
        refine lc_acc (l := none) wk_range hD6 (fun i acc _ => ∃ xs : List Int, acc = xs.map V.int ∧ xs.length = i ∧ ∀ z ∈ xs, -6 ≤ z ∧ z ≤ 6) ⟨[], rfl, rfl, fun z h => absurd h List.not_mem_nil⟩ (fun _ _ _ _ _ h => h) ?_ ?_
        · rintro i x H6 acc hi e6 hy6 hl6 ⟨xs, rfl, hxl, hxb⟩ rfl
          have ei : (0 + (i : Int)) = (i : Int) := by omega
          obtain ⟨z, hz⟩ : ∃ z, zs[i]? = some z := ⟨_, List.getElem?_eq_getElem (by rw [r5.len]; exact hi)⟩
          obtain ⟨g, hg⟩ : ∃ g, gs[i]? = some g := ⟨_, List.getElem?_eq_getElem (by rw [hpl]; exact hi)⟩
          have hz' : (zs.map V.int)[i]? = some (.int z) := by rw [List.getElem?_map, hz]; rfl
          have hg' : (gs.map V.int)[i]? = some (.int g) := by rw [List.getElem?_map, hg]; rfl
          have zb := r5.bd z (List.mem_of_getElem? hz)
          have gb := hpb g (List.mem_of_getElem? hg)
          have bg : (100 : Nat) < 2 ^ 3000 := Nat.lt_of_lt_of_le (by decide : (100 : Nat) < 2 ^ 7) (Nat.pow_le_pow_right (by decide) (by decide))
          have pb : -6 ≤ z * g ∧ z * g ≤ 6 := by
            have h1 : (z * g).natAbs ≤ 3 * 2 := by rw [Int.natAbs_mul]; exact Nat.mul_le_mul (by omega) (by omega)
            omega
          refine ⟨rfl, ?_⟩
          refine ⟨_, rfl, _, rfl, D, _, i, .int z, rfl, by rw [ei], SqL.of (e6.ex _ _ r5.at_), atI_nat hz', _, rfl, _, rfl, pt, _, i, .int g, rfl, by rw [ei], SqL.of (e6.ex _ _ hp5), atI_nat hg', z, g, rfl, rfl, mul_ok (by omega) (by omega), ?_⟩
          refine LcP.push hD6 e6 hy6 hl6 (by omega) ⟨xs ++ [z * g], by rw [List.map_append]; rfl, by rw [List.length_append, hxl]; rfl, fun y hy => ?_⟩
          rcases List.mem_append.mp hy with h | h
          · exact hxb y h
          · rw [List.mem_singleton.mp h]
            exact pb
        · rintro H6 acc e6 hy6 ⟨xs, rfl, hxl, hxb⟩
          have hs := sum_bd (by decide) xs hxb
          rw [hxl] at hs
          exact ⟨D6, xs, rfl, SqL.of hy6, q' _ _ ⟨xs.sum, rfl, r5.on (Mv.of r5.mv.2 e6.ex), by omega, by omega⟩⟩
      · exact q' _ _ ⟨_, rfl, r4.on m5, by omega, by omega⟩
    clear r4 m4
    rintro σ5 H5 ⟨last, rfl, r5, hl0, hl1⟩
    obtain ⟨hg0, hg3, hpl5⟩ := plane_of r5.len r5.bd ⟨hl0, hl1⟩ hne
    refine ⟨_, rfl, .inl ⟨rfl, _, SqL.of r5.at_⟩, _, rfl, D, _, _, rfl, rfl, r5.at_, by rw [List.length_map, r5.len]; omega, ?_⟩
    have hD6 : (upd H5 D (.lst (zs.map V.int ++ [.int last]))) D = some (.lst ((zs ++ [last]).map V.int)) := by rw [upd_same, List.map_append]; rfl
    have m6 : Mv l H (upd H5 D (.lst (zs.map V.int ++ [.int last]))) := r5.mv.upd r5.fr r5.ne
    generalize upd H5 D (.lst (zs.map V.int ++ [.int last])) = H6 at hD6 m6 ⊢
    have hlenF : (zs ++ [last]).length = n + 1 := by rw [List.length_append, r5.len]; rfl
    have small : ∀ z ∈ zs ++ [last], z.natAbs ≤ 100 := fun z hz => by
      rcases List.mem_append.mp hz with h | h
      · have := r5.bd z h
        omega
      · have := List.mem_singleton.mp h
        omega
    generalize zs ++ [last] = zf at hD6 hlenF small hg0 hg3 hpl5 ⊢
    have bg : (1000 : Nat) < 2 ^ 4000 := Nat.lt_of_lt_of_le (by decide : (1000 : Nat) < 2 ^ 10) (Nat.pow_le_pow_right (by decide) (by decide))
    refine ⟨_, rfl, D, rfl, ⟨_, SqL.of hD6⟩, for_list (K := K) (a := D) (xs := zf.map V.int) (fun i σ H' => ∃ (ca : Option V), σ = [some (.ref l), some (.int n), some (.ref pt), some (.ref D), none, c, ca, some (.int last), some (.int ((gl (zf.take i) : Nat) : Int))] ∧ H' = H6 ∧ gl (zf.take i) ≤ 100) ⟨none, rfl, rfl, by show (0 : Nat) ≤ 100; decide⟩ (fun i σ H' _ ⟨_, _, e, _⟩ => by rw [e]; exact SqL.of hD6) ?_ ?_⟩
    · rintro i x σ H7 hi ⟨ca, rfl, rfl, hgb⟩
      obtain ⟨z, rfl, hz⟩ := int_at hi
      have zb := small z (List.mem_of_getElem? hz)
      have e1 : gl (zf.take (i + 1)) = (gl (zf.take i)).gcd z.natAbs := by
        unfold gl
        rw [List.take_add_one, hz, List.foldl_append]
        rfl
      refine ⟨_, rfl, _, rfl, _, _, rfl, by omega, by omega, some (.int z), ?_, rfl, ?_⟩
      · rw [e1]
        rfl
      · rw [e1]
        by_cases h0 : z.natAbs = 0
        · rw [h0, Nat.gcd_zero_right]
          exact hgb
        · exact Nat.le_trans (Nat.gcd_le_right _ (by omega)) zb
    · rintro σ H7 ⟨ca, rfl, rfl, _⟩
      rw [List.length_map, List.take_length]
      refine ⟨_, rfl, D, rfl, ⟨_, SqL.of hD6⟩, fun D8 hD8 => ?_⟩
      refine lc_acc (l := none) (wk_list (K := K) (fun z => nomatch z) (SqL.of hD6)) hD8 (fun i acc _ => acc = ((zf.map fun z => z.fdiv (gl zf : Nat)).take i).map V.int) rfl (fun _ _ _ _ _ h => h) ?_ ?_
      · rintro i x H8 acc hi e8 hy8 hl8 rfl hx
        obtain ⟨z, rfl, hz⟩ := int_at hx
        refine ⟨rfl, ?_⟩
        refine ⟨_, rfl, _, rfl, z, _, rfl, rfl, ⟨by omega, ?_⟩, LcP.push hD8 e8 hy8 hl8 (by rw [List.length_map] at hi; omega) ?_⟩
        · have : ((gl zf : Nat) : Int).natAbs.log2 ≤ 8 := PySem.W.mg_log (by show gl zf < 2 ^ 9; omega)
          omega
        · rw [List.take_add_one, List.getElem?_map, hz, List.map_append]
          rfl
      · rintro H8 acc e8 hy8 rfl
        rw [List.length_map, ← List.length_map (f := fun z : Int => z.fdiv (gl zf : Nat)), List.take_length] at hy8
        exact ⟨D8, _, rfl, .inl ⟨SqL.of hy8, fun p hp => q _ _ _ (m6.trans (.of m6.2 (e8.ex.trans (Ex.new hp)))) ⟨p, rfl, SqT.of upd_same⟩ hpl5⟩⟩
/-! ### lists of planes and points that are drawn -/
theorem mv_plv {K : PySem.W.Frag} {l : Addr} {H H' : Hp} {v : V} {zs : List Int} (d : DrA l H) (m : Mv l H H') (h : PlV K H v zs) : PlV K H' v zs :=
  have ⟨p, h1, h2⟩ := h
  ⟨p, h1, mv_t d m h2⟩
theorem PlanesOk.snoc {n : Nat} {zss : List (List Int)} {zs : List Int} (h : PlanesOk n zss) (hl : zss.length < 12) (hz : Pl n zs) (h1 : zs ∉ zss) (h2 : neg zs ∉ zss) : PlanesOk n (zss ++ [zs]) := by
  obtain ⟨a1, a2, a3⟩ := h
  refine ⟨by rw [List.length_append]; exact hl, fun y hy => ?_, fun i j a b hij ha hb => ?_⟩
  · rcases List.mem_append.mp hy with h | h
    · exact a2 y h
    · rw [List.mem_singleton.mp h]
      exact hz
  · have hj := (List.getElem?_eq_some_iff.mp hb).1
    rw [List.length_append] at hj
    have hj : j < zss.length + 1 := hj
    have hi : i < zss.length := by omega
    rw [List.getElem?_append_left hi] at ha
    by_cases hjl : j < zss.length
    · rw [List.getElem?_append_left hjl] at hb
      exact a3 i j a b hij ha hb
    · rw [List.getElem?_append_right (by omega), show j - zss.length = 0 by omega] at hb
      cases hb
      have ham := List.mem_of_getElem? ha
      exact ⟨fun e => h1 (e ▸ ham), fun e => h2 (by rw [e, neg_neg]; exact ham)⟩
def sp__law_planes (K : PySem.W.Frag) : Sp := fun vs H Q _ => ∃ (l : Addr) (n mo : Nat), vs = [.ref l, .int n, .int (mo : Nat)] ∧ DrA l H ∧ 1 ≤ n ∧ n ≤ 4 ∧ mo ≤ 11 ∧
  ∀ (H' : Hp) (v f p : Addr) (us : List V) (zss : List (List Int)) (gs : List Int), Mv l H H' → H' v = some (.lst [.ref f, .ref p]) → f ≠ l → p ≠ l → v ≠ l → H' f = some (.lst us) → All2 (PlV K H') us zss → PlanesOk n zss → zss.length ≤ mo → PvAt H' n p gs → Q (.ref v) H'
theorem ok__law_planes (T : Txt K w mg ad fd) : Cal P w K mg base CX0 3 "_law_planes" (ad 37) (fd 37) ["draws", "n", "most"] [] [] (sp__law_planes K) := by
  refine ⟨T.f__law_planes.ok sc__law_planes (fun vs H Q E h => ?_) (fun cdv A outer s H vs Q E hr h => ?_), T.g__law_planes, T.f__law_planes.kp, T.f__law_planes.binds (ps := ["draws", "n", "most"]) fun _ _ _ _ _ _ us hl => match us, hl with | [_, _, _], _ => rfl, .nil⟩
  · obtain ⟨l, n, mo, rfl, _⟩ := h
    rfl
  · obtain ⟨l, n, mo, rfl, hd, n1, n4, hmo, q⟩ := h
    have sz : sizeLine = 16777216 := sizeLine_eq
    refine ⟨_, (pss_cons (ps_setLc (i := 3) (own := [("j", 4)]) rfl sc__law_planes.nd rfl rfl (sw_true rfl rfl rfl (by decide +kernel)) (pi_range1 rfl T.m_range (pa_cons (pv 1) pa_nil)) (blkOk_by (N := ["draws", "n", "most", "point", "j", "found", "plane", "a"]) (sc := defScope s__law_planes) (by decide +kernel)) (fun _ _ _ _ _ => (pg_name (i := 4) sc__law_planes.nd rfl (by first | exact Or.inl rfl | exact Or.inr rfl))) (fun _ _ _ _ _ => pts_nil) (fun _ _ _ _ _ => (pe_op op_sub (pe_op op_mod (pe_callTy (T := "int") call_int1 (by rfl) T.m_int (by decide +kernel) (pa_cons (pe_cal (ok__law_next T (P := P) (w := w) (base := base)) (hr.mono (by decide)) pass0 (pa_cons (pv 0) pa_nil)) pa_nil)) pe_int) pe_int)))
    (pss_cons (ps_set (i := 5) sc__law_planes.nd rfl (by first | exact Or.inl rfl | exact Or.inr rfl) (pe_lst pa_nil))
    (pss_cons (ps_for (by first | exact PassesOwn.never | exact passes_of rfl) rfl (pi_range1 rfl T.m_range (pa_cons (pe_op op_mod (pe_callTy (T := "int") call_int1 (by rfl) T.m_int (by decide +kernel) (pa_cons (pe_cal (ok__law_next T (P := P) (w := w) (base := base)) (hr.mono (by decide)) pass0 (pa_cons (pv 0) pa_nil)) pa_nil)) (pe_op op_add (pv 2) pe_int)) pa_nil)) (pg_name (i := 4) sc__law_planes.nd rfl (by first | exact Or.inl rfl | exact Or.inr rfl))
      (pss_cons (ps_set (i := 6) sc__law_planes.nd rfl (by first | exact Or.inl rfl | exact Or.inr rfl) (pe_cal (ok__law_plane T (P := P) (w := w) (base := base)) (hr.mono (by decide)) pass0 (pa_cons (pv 0) (pa_cons (pv 1) (pa_cons (pv 3) pa_nil)))))
    (pss_one (ps_if (L2.PW.pt (pw_and (pt_cmpR (op_notInD (hu65 hr)) (pv 6) (pv 5) (by rfl)) (pw_and1 (pt_cmpR (op_notInD (hu65 hr)) (pe_callTy (T := "tuple") (call_tupleK (K := K)) (by rfl) T.m_tuple (by decide +kernel) (pa_cons (pe_lc (own := [("a", 7)]) rfl sc__law_planes.nd (pi_tup (pv 6)) (blkOk_by (N := ["draws", "n", "most", "point", "j", "found", "plane", "a"]) (sc := defScope s__law_planes) (by decide +kernel)) (fun _ _ _ _ _ => (pg_name (i := 7) sc__law_planes.nd rfl (by first | exact Or.inl rfl | exact Or.inr rfl))) (fun _ _ _ _ _ => pts_nil) (fun _ _ _ _ _ => (pe_op op_sub pe_int (pv 7)))) pa_nil)) (pv 5) (by rfl))))) (pss_one (ps_expr (pe_bm PySem.F.plainAttrs_list PySem.F.slot_list_append PySem.F.type_list_append mt_append (pv 5) (pa_cons (pv 6) pa_nil)))) pss_nil))))
    (pss_one (ps_ret (pe_lst (pa_cons (pv 5) (pa_cons (pv 3) pa_nil)))))))), ?_⟩
    refine ⟨_, rfl, n, rfl, by omega, by omega, fun p hp => ?_⟩
    refine lc_acc (l := some l) wk_range hp (AccI l 2) ⟨dra_upd hd (dra_ne hd hp), [], rfl, rfl, fun z h => absurd h List.not_mem_nil⟩ (fun i ys H H' e h => h.ex e) ?_ ?_
    · rintro i x H1 ys hi e1 hy hl ha rfl
      have nD := dra_ne hd hp
      refine ⟨rfl, ?_⟩
      refine ⟨_, rfl, l, rfl, ha.1, fun H2 d d0 d1 m2 => .inl ⟨_, rfl, _, _, rfl, rfl, by show (0 : Int) < 5; decide, _, _, rfl, rfl, ?_⟩⟩
      exact LcP.push hp (e1.trans m2.exo) (m2.1 _ _ nD hy) hl (by omega) (ha.push (dra_upd m2.2 nD) (by omega))
    rintro H1 ys e1 hy ha
    obtain ⟨gs, r1⟩ := ha.row (Mv.refl hd) hp e1 hy
    clear ha hy e1
    change Ends.nx _ _ _
    dsimp only
    refine seqA ?_
    refine ⟨by show (0 : Nat) ≤ sizeLine; omega, fun f hf => ?_⟩
    have nfl := dra_ne r1.mv.2 hf
    have hf0 := mv_none r1.mv hf
    have nfp : p ≠ f := ne_of_none r1.at_ hf
    have r2 := r1.on (Mv.of r1.mv.2 (Ex.new (o := .lst []) hf))
    have hf2 : (upd H1 f (.lst [])) f = some (.lst []) := upd_same
    generalize upd H1 f (.lst []) = H2 at r2 hf2 ⊢
    refine ⟨_, rfl, l, rfl, r2.mv.2, fun H3 d d0 d1 m3 => .inl ⟨_, rfl, _, rfl, _, _, rfl, rfl, _, _, rfl, rfl, by omega, ?_⟩⟩
    have r3 := r2.on m3
    have w0 : 0 ≤ d % ((mo : Int) + 1) := Int.emod_nonneg _ (by omega)
    have w1 : d % ((mo : Int) + 1) < mo + 1 := Int.emod_lt_of_pos _ (by omega)
    obtain ⟨W, hW⟩ : ∃ W : Nat, d % ((mo : Int) + 1) = (W : Int) := ⟨(d % ((mo : Int) + 1)).toNat, by omega⟩
    have hf3 := m3.1 _ _ nfl hf2
    refine ⟨W, by show [V.int (d % ((mo : Int) + 1))] = [V.int ((W : Nat) : Int)]; rw [hW], by omega, by omega, for_range (lo := 0) (n := W) (fun i σ H' => i ≤ mo ∧ ∃ (cj cp : Option V) (us : List V) (zss : List (List Int)), σ = [some (.ref l), some (.int n), some (.int (mo : Nat)), some (.ref p), cj, some (.ref f), cp, none] ∧ RowAt l H n 2 p gs H' ∧ H' f = some (.lst us) ∧ All2 (PlV K H') us zss ∧ PlanesOk n zss ∧ zss.length ≤ i)
      ⟨by omega, none, none, [], [], rfl, r3, hf3, .nil, ⟨by decide, fun z h => absurd h List.not_mem_nil, fun i j a b _ h => by cases h⟩, Nat.le_refl _⟩ ?_ ?_⟩
    · rintro i σ H4 hi ⟨hi7, cj, cp, us, zss, rfl, r4, hf4, hz, hok, hzl⟩
      refine ⟨_, rfl, _, rfl, _, rfl, l, p, n, gs, rfl, r4.mv.2, n1, n4, ⟨r4.at_, r4.len, r4.bd⟩, r4.ne, fun H5 v zs m5 hv hpl => ?_⟩
      have r5 := r4.on m5
      have hf5 := m5.1 _ _ nfl hf4
      have hz5 := hz.imp fun _ _ h => mv_plv r4.mv.2 m5 h
      refine ⟨_, rfl, _, rfl, tupD zs, _, dp_pl hv, .lst (SqL.of hf5) (dpAll_pls hz5), shaped_tupD zs, shaped_tups _, _, rfl, ?_⟩
      rw [any_tups]
      have skip : ∀ H6, Ex H5 H6 → (i + 1 ≤ mo ∧ ∃ (cj' cp' : Option V) (us : List V) (zss : List (List Int)), [some (.ref l), some (.int n), some (.int (mo : Nat)), some (.ref p), some (.int (0 + (i : Int))), some (.ref f), some v, none] = [some (.ref l), some (.int n), some (.int (mo : Nat)), some (.ref p), cj', some (.ref f), cp', none] ∧ RowAt l H n 2 p gs H6 ∧ H6 f = some (.lst us) ∧ All2 (PlV K H6) us zss ∧ PlanesOk n zss ∧ zss.length ≤ i + 1) := fun H6 e6 =>
        ⟨by omega, _, _, us, zss, rfl, r5.on (Mv.of r5.mv.2 e6), e6 _ _ hf5, hz5.imp (fun _ _ h => h.mono e6), hok, by omega⟩
      by_cases hin : zs ∈ zss
      · rw [decide_eq_true hin]
        exact iteF (iteF (skip H5 (Ex.refl _)))
      · rw [decide_eq_false hin]
        obtain ⟨pv', rfl, hpv⟩ := hv
        refine iteT ⟨_, rfl, pv', rfl, ⟨_, hpv⟩, fun D6 hD6 => ?_⟩
        refine lc_acc (l := none) (wk_tup (K := K) (fun z => nomatch z) hpv) hD6 (fun i acc _ => acc = ((neg zs).take i).map V.int) rfl (fun _ _ _ _ _ h => h) ?_ ?_
        · rintro j x H6 acc hj e6 hy6 hl6 rfl hx
          obtain ⟨z, rfl, hz'⟩ := int_at hx
          refine ⟨rfl, ?_⟩
          refine ⟨_, rfl, _, _, rfl, rfl, LcP.push hD6 e6 hy6 hl6 (by rw [List.length_map] at hj; have := hpl.1; omega) ?_⟩
          unfold neg
          rw [List.take_add_one, List.getElem?_map, hz', List.map_append]
          congr 1
          show [V.int (0 - z)] = [V.int (-z)]
          rw [show (0 - z) = -z by omega]
        · rintro H6 acc e6 hy6 rfl
          rw [List.length_map, show zs.length = (neg zs).length by unfold neg; rw [List.length_map], List.take_length] at hy6
          refine ⟨D6, _, rfl, .inl ⟨SqL.of hy6, fun p7 hp7 => ?_⟩⟩
          have e7 := e6.ex.trans (Ex.new (o := .tup ((neg zs).map V.int)) hp7)
          have hp7' : PlV K (upd H6 p7 (.tup ((neg zs).map V.int))) (.ref p7) (neg zs) := ⟨p7, rfl, SqT.of upd_same⟩
          generalize upd H6 p7 (.tup ((neg zs).map V.int)) = H7 at e7 hp7' ⊢
          have hf7 := e7 _ _ hf5
          have hz7 := hz5.imp fun _ _ h => h.mono e7
          refine ⟨_, rfl, tupD (neg zs), _, dp_pl hp7', .lst (SqL.of hf7) (dpAll_pls hz7), shaped_tupD _, shaped_tups _, _, rfl, ?_⟩
          rw [any_tups]
          by_cases hin2 : neg zs ∈ zss
          · rw [decide_eq_true hin2]
            exact iteF (skip H7 e7)
          · rw [decide_eq_false hin2]
            refine iteT ⟨_, rfl, .inl ⟨rfl, _, SqL.of hf7⟩, _, rfl, f, us, .ref pv', rfl, rfl, hf7, by rw [hz.1]; omega, ?_⟩
            have r7 := r5.on (Mv.of r5.mv.2 e7)
            refine ⟨by omega, _, _, _, _, rfl, ⟨r7.mv.upd hf0 nfl, r7.fr, r7.ne, by rw [upd_ne nfp]; exact r7.at_, r7.len, r7.bd⟩, upd_same, (hz7.imp (fun _ _ h => plv_upd h hf7)).app (All2.cons (plv_upd (PlV.mono e7 ⟨pv', rfl, hpv⟩) hf7) .nil), hok.snoc (by omega) hpl hin hin2, by rw [List.length_append]; show zss.length + 1 ≤ i + 1; omega⟩
    · rintro σ H4 ⟨hi7, cj, cp, us, zss, rfl, r4, hf4, hz, hok, hzl⟩
      refine ⟨_, rfl, _, rfl, by show (2 : Nat) ≤ sizeLine; omega, fun v hv => ?_⟩
      have e5 := Ex.new (o := .lst [.ref f, .ref p]) hv
      exact q _ v f p us zss gs (r4.mv.ex e5) upd_same nfl r4.ne (dra_ne r4.mv.2 hv) (e5 _ _ hf4) (hz.imp fun _ _ h => h.mono e5) hok (by omega) ⟨e5 _ _ r4.at_, r4.len, r4.bd⟩
/-! ### the law's planes, looked at -/
def sp__law_is_plane (K : PySem.W.Frag) : Sp := fun vs H Q _ => ∃ (n : Nat) (v : V) (zs : List Int), vs = [.int n, v] ∧ PlV K H v zs ∧ zs.length ≤ 1000 ∧ (∀ z ∈ zs, z.natAbs < 2 ^ 3000) ∧ ∀ H', Ex H H' → Q (.bl (decide (Pl n zs))) H'
theorem gl_lt {zs : List Int} {B : Nat} (hB : 0 < B) (h : ∀ z ∈ zs, z.natAbs < B) : gl zs < B := by
  by_cases hg : 0 < gl zs
  · have := gl_small (B := B - 1) hg fun z hz => by have := h z hz; omega
    omega
  · omega
theorem ok__law_is_plane (T : Txt K w mg ad fd) : Cal P w K mg base CX0 2 "_law_is_plane" (ad 43) (fd 43) ["n", "row"] [] [] (sp__law_is_plane K) := by
  refine ⟨T.f__law_is_plane.ok sc__law_is_plane (fun vs H Q E h => ?_) (fun cdv A outer s H vs Q E hr h => ?_), T.g__law_is_plane, T.f__law_is_plane.kp, T.f__law_is_plane.binds (ps := ["n", "row"]) fun _ _ _ _ _ _ us hl => match us, hl with | [_, _], _ => rfl, .nil⟩
  · obtain ⟨n, v, zs, rfl, _⟩ := h
    rfl
  · obtain ⟨n, v, zs, rfl, ⟨p, rfl, hp⟩, hl, hb, q⟩ := h
    have sz : sizeLine = 16777216 := sizeLine_eq
    have pos3 : 0 < 2 ^ 3000 := Nat.pow_pos (by decide)
    refine ⟨_, (pss_cons (ps_set (i := 2) sc__law_is_plane.nd rfl (by first | exact Or.inl rfl | exact Or.inr rfl) pe_int)
    (pss_cons (ps_for (by first | exact PassesOwn.never | exact passes_of rfl) rfl (pi_tup (pv 1)) (pg_name (i := 3) sc__law_is_plane.nd rfl (by first | exact Or.inl rfl | exact Or.inr rfl))
      (pss_one (ps_set (i := 2) sc__law_is_plane.nd rfl (by first | exact Or.inl rfl | exact Or.inr rfl) (pe_cal (ok__law_divisor T (P := P) (w := w) (base := base)) (hr.mono (by decide)) pass0 (pa_cons (pv 2) (pa_cons (pv 3) pa_nil))))))
    (pss_cons (ps_if (L2.PW.pt (pw_or (pt_cmpR op_ne (pe_callB call_len_seq (by rfl) T.m_len PySem.boot_len (pa_cons (pv 1) pa_nil)) (pe_op op_add (pv 0) pe_int) (nomark _)) (pw_or (pt_cmpR op_ne (pv 2) pe_int (nomark _)) (pw_or1 (pt_not (pt_val (pe_callB (cr_all rfl) (by rfl) T.m_all (by decide +kernel) (pa_cons (pe_lc (own := [("a", 3)]) rfl sc__law_is_plane.nd (pi_tup (pv 1)) (blkOk_by (N := ["n", "row", "common", "a"]) (sc := defScope s__law_is_plane) (by decide +kernel)) (fun _ _ _ _ _ => (pg_name (i := 3) sc__law_is_plane.nd rfl (by first | exact Or.inl rfl | exact Or.inr rfl))) (fun _ _ _ _ _ => pts_nil) (fun _ _ _ _ _ => (pe_cmpR op_le (pe_callB call_abs (by rfl) T.m_abs (by decide +kernel) (pa_cons (pv 3) pa_nil)) pe_int (nomark _)))) pa_nil)))))))) (pss_one (ps_ret pe_bl)) pss_nil)
    (pss_one (ps_ret (pe_callB (cr_any rfl) (by rfl) T.m_any (by decide +kernel) (pa_cons (pe_lc (own := [("a", 3)]) rfl sc__law_is_plane.nd (pi_tup (pe_slice (sl_tupK (K := K)) (pv 1) po_none (po_some (pv 0)))) (blkOk_by (N := ["n", "row", "common", "a"]) (sc := defScope s__law_is_plane) (by decide +kernel)) (fun _ _ _ _ _ => (pg_name (i := 3) sc__law_is_plane.nd rfl (by first | exact Or.inl rfl | exact Or.inr rfl))) (fun _ _ _ _ _ => pts_nil) (fun _ _ _ _ _ => (pe_cmpR op_ne (pv 3) pe_int (nomark _)))) pa_nil))))))), ?_⟩
    refine ⟨_, rfl, p, rfl, ⟨_, hp⟩, for_tup (K := K) (a := p) (xs := zs.map V.int) (fun i σ H' => ∃ c, σ = [some (.int n), some (.ref p), some (.int ((gl (zs.take i) : Nat) : Int)), c] ∧ H' = H) ⟨none, rfl, rfl⟩ (fun i σ H' _ ⟨_, _, e⟩ => e ▸ hp) ?_ ?_⟩
    · rintro i x σ H1 hi ⟨c, rfl, rfl⟩
      obtain ⟨z, rfl, hz⟩ := int_at hi
      have up : (2 : Nat) ^ 3000 ≤ 2 ^ 4000 := Nat.pow_le_pow_right (by decide) (by decide)
      have h1 : gl (zs.take i) < 2 ^ 3000 := gl_lt pos3 fun y hy => hb y (List.mem_of_mem_take hy)
      have h2 := hb z (List.mem_of_getElem? hz)
      refine ⟨_, rfl, _, rfl, _, z, rfl, by show gl (zs.take i) < 2 ^ 4000; omega, by omega, ?_⟩
      have e1 : gl (zs.take (i + 1)) = (gl (zs.take i)).gcd z.natAbs := by
        unfold gl
        rw [List.take_add_one, hz, List.foldl_append]
        rfl
      refine ⟨some (.int z), ?_, rfl⟩
      rw [e1]
      rfl
    · rintro σ H1 ⟨c, rfl, rfl⟩
      rw [List.length_map, List.take_length]
      have hlen2 : decide (V.int (((zs.map V.int).length : Nat) : Int) = V.int ((n : Int) + 1)) = decide (zs.length = n + 1) := by
        rw [List.length_map]
        by_cases h : zs.length = n + 1
        · rw [h, decide_eq_true rfl, decide_eq_true (show V.int (((n + 1 : Nat)) : Int) = V.int ((n : Int) + 1) from rfl)]
        · rw [decide_eq_false h, decide_eq_false (fun e => h (by have := V.int.inj e; omega))]
      have q0 := q H1 (Ex.refl H1)
      refine ⟨_, rfl, p, _, rfl, .inr hp, _, rfl, _, _, rfl, rfl, rfl, _, rfl, ?_⟩
      rw [hlen2]
      by_cases h1 : ¬ zs.length = n + 1
      · rw [decide_eq_false h1]
        refine iteT ?_
        rw [decide_eq_false (fun z => h1 z.1)] at q0
        exact q0
      have h1 : zs.length = n + 1 := Classical.not_not.mp h1
      rw [decide_eq_true h1]
      refine iteF ⟨_, rfl, rfl, _, rfl, ?_⟩
      have hgd : decide (V.int ((gl zs : Nat) : Int) = V.int 1) = decide (gl zs = 1) := by
        by_cases h : gl zs = 1
        · rw [h, decide_eq_true (show V.int ((1 : Nat) : Int) = V.int 1 from rfl), decide_eq_true rfl]
        · rw [decide_eq_false h, decide_eq_false (fun e => h (by have := V.int.inj e; omega))]
      rw [hgd]
      by_cases hg : ¬ gl zs = 1
      · rw [decide_eq_false hg]
        refine iteT ?_
        rw [decide_eq_false (fun z => hg z.2.2.2)] at q0
        exact q0
      have hg : gl zs = 1 := Classical.not_not.mp hg
      rw [decide_eq_true hg]
      refine iteF ?_
      have hac : ∀ z : Int, decide ((if z < 0 then -z else z) ≤ 1000) = decide (-1000 ≤ z ∧ z ≤ 1000) := fun z => by
        by_cases h : -1000 ≤ z ∧ z ≤ 1000
        · rw [decide_eq_true h, decide_eq_true (by split <;> omega)]
        · rw [decide_eq_false h, decide_eq_false (by split <;> omega)]
      refine ⟨_, rfl, p, rfl, ⟨_, hp⟩, fun D hD => ?_⟩
      refine lc_acc (l := none) (wk_tup (K := K) (fun z => nomatch z) hp) hD (fun i acc _ => acc = ((zs.map fun z => decide (-1000 ≤ z ∧ z ≤ 1000)).take i).map V.bl) rfl (fun _ _ _ _ _ h => h) ?_ ?_
      · rintro i x H2 acc hi e2 hy hl' rfl hx
        obtain ⟨z, rfl, hz'⟩ := int_at hx
        refine ⟨rfl, ?_⟩
        refine ⟨_, rfl, z, rfl, _, _, rfl, rfl, ?_⟩
        refine LcP.push hD e2 hy hl' (by rw [List.length_map] at hi; omega) ?_
        rw [List.take_add_one, List.getElem?_map, hz', List.map_append]
        congr 1
        show [V.bl _] = [V.bl _]
        rw [hac]
      · rintro H2 acc e2 hy rfl
        rw [List.length_map, ← List.length_map (f := fun z : Int => decide (-1000 ≤ z ∧ z ≤ 1000)), List.take_length] at hy
        refine ⟨D, _, rfl, SqL.of hy, _, rfl, ?_⟩
        by_cases hA : ¬ ∀ z ∈ zs, -1000 ≤ z ∧ z ≤ 1000
        · have ha : (zs.map fun z => decide (-1000 ≤ z ∧ z ≤ 1000)).all id = false := by
            rw [List.all_map]
            refine Bool.eq_false_iff.mpr fun z => hA fun x hx => ?_
            exact of_decide_eq_true (List.all_eq_true.mp z x hx)
          rw [ha]
          refine iteT ?_
          have q1 := q H2 e2.ex
          rw [decide_eq_false (fun z => hA z.2.1)] at q1
          exact q1
        have hA : ∀ z ∈ zs, -1000 ≤ z ∧ z ≤ 1000 := Classical.not_not.mp hA
        have ha : (zs.map fun z => decide (-1000 ≤ z ∧ z ≤ 1000)).all id = true := by
          rw [List.all_map, List.all_eq_true]
          exact fun z hz => decide_eq_true (hA z hz)
        rw [ha]
        refine iteF ?_
        refine ⟨_, rfl, _, rfl, _, rfl, take_pl ⟨p, rfl, ex_t e2.ex hp⟩ fun H3 u e3 h3 => ?_⟩
        obtain ⟨p3, rfl, hp3⟩ := h3
        refine ⟨p3, rfl, ⟨_, hp3⟩, fun D2 hD2 => ?_⟩
        refine lc_acc (l := none) (wk_tup (K := K) (fun z => nomatch z) hp3) hD2 (fun i acc _ => acc = (((zs.take n).map fun z => !decide (z = 0)).take i).map V.bl) rfl (fun _ _ _ _ _ h => h) ?_ ?_
        · rintro i x H4 acc hi e4 hy4 hl4 rfl hx
          obtain ⟨z, rfl, hz'⟩ := int_at hx
          refine ⟨rfl, ?_⟩
          refine ⟨_, rfl, rfl, LcP.push hD2 e4 hy4 hl4 (by rw [List.length_map, List.length_take] at hi; omega) ?_⟩
          rw [List.take_add_one, List.getElem?_map, hz', List.map_append]
          have : decide (V.int z = V.int 0) = decide (z = 0) := by
            by_cases h : z = 0
            · rw [h, decide_eq_true rfl, decide_eq_true rfl]
            · rw [decide_eq_false h, decide_eq_false (fun q => h (V.int.inj q))]
          rw [this]
          rfl
        · rintro H4 acc e4 hy4 rfl
          rw [List.length_map, ← List.length_map (f := fun z : Int => !decide (z = 0)), List.take_length] at hy4
          refine ⟨D2, _, rfl, SqL.of hy4, ?_⟩
          have q1 := q H4 (e2.ex.trans (e3.trans e4.ex))
          by_cases hB : ∃ z ∈ zs.take n, z ≠ 0
          · have hb2 : ((zs.take n).map fun z => !decide (z = 0)).any id = true := by
              rw [List.any_map, List.any_eq_true]
              obtain ⟨z, h1, h2⟩ := hB
              exact ⟨z, h1, by show (!decide (z = 0)) = true; rw [decide_eq_false h2]; rfl⟩
            rw [hb2]
            rw [decide_eq_true (show Pl n zs from ⟨h1, hA, hB, hg⟩)] at q1
            exact q1
          · have hb2 : ((zs.take n).map fun z => !decide (z = 0)).any id = false := by
              rw [List.any_map, List.any_eq_false]
              intro z h1 h2
              have h2 : (!decide (z = 0)) = true := h2
              exact hB ⟨z, h1, fun z0 => by rw [z0] at h2; exact absurd h2 (by decide)⟩
            rw [hb2]
            rw [decide_eq_false (fun z => hB z.2.2.1)] at q1
            exact q1
def sp__law_numbers (K : PySem.W.Frag) : Sp := fun vs H Q _ => ∃ (r : Addr) (us : List V) (zss : List (List Int)), vs = [.ref r] ∧ SqL K H r us ∧ All2 (PlV K H) us zss ∧ zss.length ≤ 1000 ∧ (∀ zs ∈ zss, zs.length ≤ 1000) ∧ ∀ H' l xs, Ex H H' → H' l = some (.lst xs) → All2 (fun v zs => PtV K H' v (onesL zs)) xs zss → Q (.ref l) H'
theorem ok__law_numbers (T : Txt K w mg ad fd) : Cal P w K mg base CX0 1 "_law_numbers" (ad 47) (fd 47) ["rows"] [] [] (sp__law_numbers K) := by
  refine ⟨T.f__law_numbers.ok sc__law_numbers (fun vs H Q E h => ?_) (fun cdv A outer s H vs Q E hr h => ?_), T.g__law_numbers, T.f__law_numbers.kp, T.f__law_numbers.binds (ps := ["rows"]) fun _ _ _ _ _ _ us hl => match us, hl with | [_], _ => rfl, .nil⟩
  · obtain ⟨r, us, zss, rfl, _⟩ := h
    rfl
  · obtain ⟨r, us, zss, rfl, hr', hz, hl, hlen, q⟩ := h
    have sz : sizeLine = 16777216 := sizeLine_eq
    refine ⟨_, (pss_one (ps_ret (pe_lc (own := [("row", 2)]) rfl sc__law_numbers.nd (pi_list (pv 0)) (blkOk_by (N := ["rows", "a", "row"]) (sc := defScope s__law_numbers) (by decide +kernel)) (fun _ _ _ _ _ => (pg_name (i := 2) sc__law_numbers.nd rfl (by first | exact Or.inl rfl | exact Or.inr rfl))) (fun _ _ _ _ _ => pts_nil) (fun _ _ _ _ _ => (pe_callTy (T := "tuple") (call_tupleK (K := K)) (by rfl) T.m_tuple (by decide +kernel) (pa_cons (pe_lc (own := [("a", 1)]) rfl sc__law_numbers.nd (pi_tupK (K := K) (pv 2)) (blkOk_by (N := ["rows", "a", "row"]) (sc := { kind := ScopeKind.function, names := [(Str.ofString ".0", NameKind.local), (Str.ofString "row", NameKind.local), (Str.ofString "tuple", NameKind.globalImplicit)], isGenerator := false, isCoroutine := false }) (by decide +kernel)) (fun _ _ _ _ _ => (pg_name (i := 1) sc__law_numbers.nd rfl (by first | exact Or.inl rfl | exact Or.inr rfl))) (fun _ _ _ _ _ => pts_nil) (fun _ _ _ _ _ => (pe_tup (pa_cons (pv 1) (pa_cons pe_int pa_nil))))) pa_nil)))))), ?_⟩
    refine ⟨.ref r, rfl, r, rfl, ⟨_, hr'⟩, fun D hD => ?_⟩
    refine lc_acc (l := none) (wk_list (K := K) (fun z => nomatch z) hr') hD (fun i acc H' => All2 (fun v zs => PtV K H' v (onesL zs)) acc (zss.take i)) .nil (fun _ _ _ _ e h => h.imp fun _ _ h => h.mono e) ?_ ?_
    · rintro i x H1 acc hi e1 hy hl' ha' hx
      obtain ⟨zs, hzs, p, rfl, hp⟩ := hz.get hx
      have hlz := hlen zs (List.mem_of_getElem? hzs)
      have hp1 := ex_t e1.ex hp
      refine ⟨rfl, ?_⟩
      refine ⟨_, rfl, p, rfl, ⟨_, hp1⟩, fun D2 hD2 => ?_⟩
      refine lc_acc (l := none) (wk_tup (K := K) (fun z => nomatch z) hp1) hD2 (fun k acc2 H' => All2 (NumR K H') acc2 ((onesL zs).take k)) .nil (fun _ _ _ _ e h => h.imp fun _ _ n => n.mono e) ?_ ?_
      · rintro k y H2 acc2 hk e2 hy2 hl2 ha2 hyk
        obtain ⟨z, rfl, hz'⟩ := int_at hyk
        refine ⟨rfl, ?_⟩
        refine ⟨_, rfl, by show (2 : Nat) ≤ sizeLine; omega, fun t3 ht3 => ?_⟩
        have e3 := Ex.new (o := .tup [.int z, .int 1]) ht3
        have hy3 := e3 _ _ hy2
        refine LcP.push hD2 (e2.trans (Exo.of e3)) hy3 hl2 (by rw [List.length_map] at hk; omega) ?_
        have h1 : (onesL zs)[k]? = some (z, 1) := by unfold onesL; rw [List.getElem?_map, hz']; rfl
        rw [List.take_add_one, h1]
        exact (ha2.imp fun _ _ n => num_upd (n.mono e3) hy3).app (.cons (num_upd ⟨t3, rfl, SqT.of upd_same⟩ hy3) .nil)
      · rintro H2 ys2 e2 hy2 ha2
        rw [List.length_map, ← ones_len, List.take_length] at ha2
        refine ⟨D2, _, rfl, .inl ⟨SqL.of hy2, fun p3 hp3 => ?_⟩⟩
        have e3 := Ex.new (o := .tup ys2) hp3
        have e23 := e2.ex.trans e3
        have hy3 := e23 _ _ hy
        have hpt : PtV K (upd H2 p3 (.tup ys2)) (.ref p3) (onesL zs) := ⟨p3, ys2, rfl, SqT.of upd_same, ha2.imp fun _ _ n => n.mono e3⟩
        refine LcP.push hD (e1.trans (Exo.of e23)) hy3 hl' (by have := hz.1; omega) ?_
        rw [List.take_add_one, hzs]
        have up : ∀ {v : V} {zs : List Int} {o : HO}, PtV K (upd H2 p3 (.tup ys2)) v (onesL zs) → PtV K (L2.upd (upd H2 p3 (.tup ys2)) D o) v (onesL zs) := fun {v zs o} h => by
          obtain ⟨p, us, h1, h2, h3⟩ := h
          exact ⟨p, us, h1, sqt_upd h2 hy3, h3.imp fun _ _ n => num_upd n hy3⟩
        exact (ha'.imp fun _ _ h => up (h.mono e23)).app (.cons (up hpt) .nil)
    · rintro H1 ys e1 hy ha1
      rw [hz.1, List.take_length] at ha1
      exact q H1 D ys e1.ex hy ha1
/-! ### planes that are spoilt -/
def bdI (e : Nat) (zs : List Int) : Prop := ∀ z ∈ zs, z.natAbs < 2 ^ e
theorem bdI.up {e f : Nat} {zs : List Int} (h : bdI e zs) (hf : e ≤ f) : bdI f zs := fun z hz => Nat.lt_of_lt_of_le (h z hz) (Nat.pow_le_pow_right (by decide) hf)
def sp__law_spoilt (K : PySem.W.Frag) : Sp := fun vs H Q _ => ∃ (l : Addr) (v : V) (zs : List Int) (e : Nat), vs = [.ref l, v] ∧ DrA l H ∧ PlV K H v zs ∧ 1 ≤ zs.length ∧ zs.length ≤ 100 ∧ 70 ≤ e ∧ e ≤ 1000 ∧ bdI e zs ∧
  ∀ H' v' ws, Mv l H H' → PlV K H' v' ws → zs.length - 1 ≤ ws.length → ws.length ≤ zs.length + 1 → bdI (e + 3) ws → Q v' H'
theorem ok__law_spoilt (T : Txt K w mg ad fd) : Cal P w K mg base CX0 2 "_law_spoilt" (ad 44) (fd 44) ["draws", "plane"] [] [] (sp__law_spoilt K) := by
  refine ⟨T.f__law_spoilt.ok sc__law_spoilt (fun vs H Q E h => ?_) (fun cdv A outer s H vs Q E hr h => ?_), T.g__law_spoilt, T.f__law_spoilt.kp, T.f__law_spoilt.binds (ps := ["draws", "plane"]) fun _ _ _ _ _ _ us hl => match us, hl with | [_, _], _ => rfl, .nil⟩
  · obtain ⟨l, v, zs, e, rfl, _⟩ := h
    rfl
  · obtain ⟨l, v, zs, e, rfl, hd, ⟨p, rfl, hp⟩, hl1, hl2, he, he2, hb, q⟩ := h
    have sz : sizeLine = 16777216 := sizeLine_eq
    have b70 : (2 : Nat) ^ 70 ≤ 2 ^ e := Nat.pow_le_pow_right (by decide) he
    have b3 : (2 : Nat) ^ (e + 3) = 2 ^ e * 8 := by rw [Nat.pow_add]
    have b70' : (2 : Nat) ^ 70 = 1180591620717411303424 := by decide
    have b1000 : (2 : Nat) ^ e < 2 ^ 2000 := Nat.pow_lt_pow_right (by decide) (by omega)
    refine ⟨_, (pss_cons (ps_set (i := 2) sc__law_spoilt.nd rfl (by first | exact Or.inl rfl | exact Or.inr rfl) (pe_callTy (T := "list") (call_listSK (K := K) rfl) (by rfl) T.m_list (by decide +kernel) (pa_cons (pv 1) pa_nil)))
    (pss_cons (ps_set (i := 3) sc__law_spoilt.nd rfl (by first | exact Or.inl rfl | exact Or.inr rfl) (pe_op op_mod (pe_callTy (T := "int") call_int1 (by rfl) T.m_int (by decide +kernel) (pa_cons (pe_cal (ok__law_next T (P := P) (w := w) (base := base)) (hr.mono (by decide)) pass0 (pa_cons (pv 0) pa_nil)) pa_nil)) (pe_callB call_len_seq (by rfl) T.m_len PySem.boot_len (pa_cons (pv 2) pa_nil))))
    (pss_cons (ps_set (i := 4) sc__law_spoilt.nd rfl (by first | exact Or.inl rfl | exact Or.inr rfl) (pe_op op_mod (pe_callTy (T := "int") call_int1 (by rfl) T.m_int (by decide +kernel) (pa_cons (pe_cal (ok__law_next T (P := P) (w := w) (base := base)) (hr.mono (by decide)) pass0 (pa_cons (pv 0) pa_nil)) pa_nil)) pe_int))
    (pss_cons (ps_if (pt_cmpR op_eq (pv 4) pe_int (nomark _)) (pss_one (ps_asg (pe_ix (ix_listK (K := K)) (pe_lst (pa_cons pe_int (pa_cons (pe_un un_neg pe_int) (pa_cons pe_int (pa_cons (pe_un un_neg pe_int) (pa_cons pe_int (pa_cons (pe_op op_pow pe_int pe_int) pa_nil))))))) (pe_op op_mod (pe_callTy (T := "int") call_int1 (by rfl) T.m_int (by decide +kernel) (pa_cons (pe_cal (ok__law_next T (P := P) (w := w) (base := base)) (hr.mono (by decide)) pass0 (pa_cons (pv 0) pa_nil)) pa_nil)) pe_int) (fun _ _ => rfl)) (pg_sub (pv 2) (pv 3) set_list))) (pss_one (ps_if (pt_cmpR op_eq (pv 4) pe_int (nomark _)) (pss_one (ps_setLc (i := 2) (own := [("a", 5)]) rfl sc__law_spoilt.nd rfl rfl (sw_true rfl rfl rfl (by decide +kernel)) (pi_list (pv 2)) (blkOk_by (N := ["draws", "plane", "row", "at", "kind", "a"]) (sc := defScope s__law_spoilt) (by decide +kernel)) (fun _ _ _ _ _ => (pg_name (i := 5) sc__law_spoilt.nd rfl (by first | exact Or.inl rfl | exact Or.inr rfl))) (fun _ _ _ _ _ => pts_nil) (fun _ _ _ _ _ => (pe_op op_mulW (pv 5) (pe_op op_add pe_int (pe_op op_mod (pe_callTy (T := "int") call_int1 (by rfl) T.m_int (by decide +kernel) (pa_cons (pe_cal (ok__law_next T (P := P) (w := w) (base := base)) (hr.mono (by decide)) pass0 (pa_cons (pv 0) pa_nil)) pa_nil)) pe_int)))))) (pss_one (ps_if (pt_cmpR op_eq (pv 4) pe_int (nomark _)) (pss_one (ps_expr (pe_bm PySem.F.plainAttrs_list PySem.F.slot_list_append PySem.F.type_list_append mt_append (pv 2) (pa_cons (pe_op op_mod (pe_callTy (T := "int") call_int1 (by rfl) T.m_int (by decide +kernel) (pa_cons (pe_cal (ok__law_next T (P := P) (w := w) (base := base)) (hr.mono (by decide)) pass0 (pa_cons (pv 0) pa_nil)) pa_nil)) pe_int) pa_nil)))) (pss_one (ps_if (pt_cmpR op_eq (pv 4) pe_int (nomark _)) (pss_one (ps_expr (pe_bm PySem.F.plainAttrs_list PySem.F.slot_list_pop PySem.F.type_list_pop mt_popAt (pv 2) (pa_cons (pv 3) pa_nil)))) (pss_one (ps_if (pt_cmpR op_eq (pv 4) pe_int (nomark _)) (pss_one (ps_set (i := 2) sc__law_spoilt.nd rfl (by first | exact Or.inl rfl | exact Or.inr rfl) (pe_op op_cat (pe_op op_rep (pe_lst (pa_cons pe_int pa_nil)) (pe_op op_sub (pe_callB call_len_seq (by rfl) T.m_len PySem.boot_len (pa_cons (pv 2) pa_nil)) pe_int)) (pe_lst (pa_cons pe_int pa_nil))))) (pss_one (ps_asg (pe_op op_sub (pe_op op_mod (pe_callTy (T := "int") call_int1 (by rfl) T.m_int (by decide +kernel) (pa_cons (pe_cal (ok__law_next T (P := P) (w := w) (base := base)) (hr.mono (by decide)) pass0 (pa_cons (pv 0) pa_nil)) pa_nil)) pe_int) pe_int) (pg_sub (pv 2) (pv 3) set_list))))))))))))
    (pss_one (ps_ret (pe_callTy (T := "tuple") (call_tupleK (K := K)) (by rfl) T.m_tuple (by decide +kernel) (pa_cons (pv 2) pa_nil)))))))), ?_⟩
    refine ⟨_, rfl, .tup p, _, rfl, hp, by rw [List.length_map]; omega, fun D hD => ?_⟩
    have nD := dra_ne hd hD
    have e1 := Ex.new (o := .lst (zs.map V.int)) hD
    have m1 := Mv.of hd e1
    have hD1 : (upd H D (.lst (zs.map V.int))) D = some (.lst (zs.map V.int)) := upd_same
    generalize upd H D (.lst (zs.map V.int)) = H1 at m1 hD1 ⊢
    -- at
    refine ⟨_, rfl, l, rfl, m1.2, fun H2 d d0 d1 m2 => .inl ⟨_, rfl, _, rfl, D, _, rfl, .inl (SqL.of (m2.1 _ _ nD hD1)), _, _, rfl, rfl, by rw [List.length_map]; omega, ?_⟩⟩
    obtain ⟨k, hk, hkl⟩ : ∃ k : Nat, d % (((zs.map V.int).length : Nat) : Int) = (k : Int) ∧ k < zs.length := by
      rw [List.length_map]
      have h0 : 0 ≤ d % (zs.length : Int) := Int.emod_nonneg _ (by omega)
      have h1 : d % (zs.length : Int) < zs.length := Int.emod_lt_of_pos _ (by omega)
      generalize d % (zs.length : Int) = r at h0 h1
      exact ⟨r.toNat, by omega, by omega⟩
    rw [show (fun i j : Int => V.int (i % j)) d (((zs.map V.int).length : Nat) : Int) = V.int (k : Int) from congrArg V.int hk]
    have hD2 := m2.1 _ _ nD hD1
    have m12 := m1.trans m2
    -- kind
    refine ⟨_, rfl, l, rfl, m12.2, fun H3 c c0 c1 m3 => .inl ⟨_, rfl, _, _, rfl, rfl, by show (0 : Int) < 6; decide, ?_⟩⟩
    have hD3 := m3.1 _ _ nD hD2
    have m13 := m12.trans m3
    have hixk : ixN (zs.map V.int).length (k : Int) = some k := by
      unfold ixN
      rw [List.length_map, if_pos (by omega), if_pos (by omega)]
      simp
    have setB : ∀ z : Int, z.natAbs < 2 ^ (e + 3) → bdI (e + 3) (zs.set k z) := fun z hz y hy => by
      rcases List.mem_or_eq_of_mem_set hy with h | h
      · exact hb.up (by omega) y h
      · rw [h]
        exact hz
    have fin : ∀ (H4 : Hp) (D4 : Addr) (ws : List Int), Mv l H H4 → H4 D4 = some (.lst (ws.map V.int)) → zs.length - 1 ≤ ws.length → ws.length ≤ zs.length + 1 → bdI (e + 3) ws → ∀ p4, H4 p4 = none → Q (.ref p4) (upd H4 p4 (.tup (ws.map V.int))) := fun H4 D4 ws m h a1 a2 b p4 hp4 => q _ _ ws (m.ex (Ex.new hp4)) ⟨p4, rfl, SqT.of upd_same⟩ a1 a2 b
    have Dn0 : H D = none := hD
    refine ⟨_, rfl, rfl, _, rfl, ite2 (fun _ => ?_) (fun _ => ?_)⟩
    · -- one of six
      refine ⟨_, rfl, _, rfl, _, _, rfl, rfl, ⟨by decide, by decide, by decide⟩, by show (6 : Nat) ≤ sizeLine; omega, fun p4 hp4 => ?_⟩
      have e4 := Ex.new (o := .lst ([1000, -1000, 1001, -1001, 0, 10 ^ 20].map V.int)) hp4
      have m14 := m13.ex e4
      have hD4 := e4 _ _ hD3
      have nl4 : p4 ≠ l := dra_ne m13.2 hp4
      have hp4' : (upd H3 p4 (.lst ([1000, -1000, 1001, -1001, 0, 10 ^ 20].map V.int))) p4 = some (.lst ([1000, -1000, 1001, -1001, 0, 10 ^ 20].map V.int)) := upd_same
      refine ⟨_, rfl, l, rfl, m14.2, fun H5 b b0 b1 m5 => .inl ⟨_, rfl, _, _, rfl, rfl, by show (0 : Int) < 6; decide, ?_⟩⟩
      have hp5 := m5.1 _ _ nl4 hp4'
      have hD5 := m5.1 _ _ nD hD4
      obtain ⟨z, hz, hzb⟩ : ∃ z : Int, ([1000, -1000, 1001, -1001, 0, 10 ^ 20] : List Int)[(b % 6).toNat]? = some z ∧ z.natAbs ≤ 100000000000000000000 := by
        have : (b % 6).toNat = 0 ∨ (b % 6).toNat = 1 ∨ (b % 6).toNat = 2 ∨ (b % 6).toNat = 3 ∨ (b % 6).toNat = 4 ∨ (b % 6).toNat = 5 := by omega
        rcases this with h | h | h | h | h | h <;> rw [h] <;> exact ⟨_, rfl, by decide⟩
      refine ⟨p4, _, b % 6, .int z, rfl, rfl, SqL.of hp5, ?_, ?_⟩
      · have : (b % 6 : Int) = ((b % 6).toNat : Int) := by omega
        rw [this]
        refine atI_nat ?_
        rw [List.getElem?_map, hz]
        rfl
      refine ⟨_, rfl, _, rfl, D, _, k, k, rfl, rfl, hD5, hixk, ?_⟩
      have m15 := (m14.trans m5).upd (o := .lst ((zs.map V.int).set k (.int z))) Dn0 nD
      refine ⟨_, rfl, D, _, rfl, .inl ⟨SqL.of upd_same, ?_⟩⟩
      have := fin _ D (zs.set k z) m15 (by rw [upd_same, List.map_set]) (by rw [List.length_set]; omega) (by rw [List.length_set]; omega) (setB z (by omega))
      rw [List.map_set] at this
      exact this
    refine ⟨_, rfl, rfl, _, rfl, ite2 (fun _ => ?_) (fun _ => ?_)⟩
    · -- times
      refine ⟨_, rfl, D, rfl, ⟨_, SqL.of hD3⟩, fun D5 hD5 => ?_⟩
      have nD5 := dra_ne m13.2 hD5
      refine lc_acc (l := some l) (wk_list (K := K) (fun z => nD (Option.some.inj z)) (SqL.of hD3)) hD5 (AccI l ((2 ^ (e + 2) : Nat) : Int)) ⟨dra_upd m13.2 nD5, [], rfl, rfl, fun z h => absurd h List.not_mem_nil⟩ (fun i ys H H' e h => h.ex e) ?_ ?_
      · rintro i x H6 ys hi e6 hy hl' ha hx
        obtain ⟨z, rfl, hz⟩ := int_at hx
        have zb := hb z (List.mem_of_getElem? hz)
        refine ⟨rfl, ?_⟩
        refine ⟨_, rfl, _, rfl, l, rfl, ha.1, fun H7 b b0 b1 m7 => .inl ⟨_, rfl, _, _, rfl, rfl, by show (0 : Int) < 3; decide, _, _, rfl, rfl, z, 2 + b % 3, rfl, rfl, mul_ok ?_ ?_, ?_⟩⟩
        · have : (2 : Nat) ^ 2000 < 2 ^ 3000 := Nat.pow_lt_pow_right (by decide) (by decide)
          omega
        · have : (4 : Nat) < 2 ^ 3000 := Nat.lt_of_lt_of_le (by decide : (4 : Nat) < 2 ^ 3) (Nat.pow_le_pow_right (by decide) (by decide))
          omega
        · refine LcP.push hD5 (e6.trans m7.exo) (m7.1 _ _ nD5 hy) hl' (by rw [List.length_map] at hi; omega) (ha.push (dra_upd m7.2 nD5) ?_)
          have h1 : (z * (2 + b % 3)).natAbs ≤ 2 ^ e * 4 := by
            rw [Int.natAbs_mul]
            exact Nat.mul_le_mul (Nat.le_of_lt zb) (by omega)
          have h2 : (2 : Nat) ^ (e + 2) = 2 ^ e * 4 := by rw [Nat.pow_add]
          omega
      · rintro H6 ys e6 hy ha
        rw [List.length_map] at ha
        obtain ⟨ws, r6⟩ := ha.row m13 hD5 e6 hy
        refine ⟨_, rfl, D5, _, rfl, .inl ⟨SqL.of r6.at_, fin H6 D5 ws r6.mv r6.at_ (by rw [r6.len]; omega) (by rw [r6.len]; omega) fun w hw => ?_⟩⟩
        have := r6.bd w hw
        have h2 : (2 : Nat) ^ (e + 2) = 2 ^ e * 4 := by rw [Nat.pow_add]
        have : 0 < 2 ^ e := Nat.pow_pos (by decide)
        omega
    refine ⟨_, rfl, rfl, _, rfl, ite2 (fun _ => ?_) (fun _ => ?_)⟩
    · -- longer
      refine ⟨_, rfl, .inl ⟨rfl, _, SqL.of hD3⟩, _, rfl, l, rfl, m13.2, fun H5 b b0 b1 m5 => .inl ⟨_, rfl, _, _, rfl, rfl, by show (0 : Int) < 3; decide, ?_⟩⟩
      have hD5 := m5.1 _ _ nD hD3
      refine ⟨D, _, _, rfl, rfl, hD5, by rw [List.length_map]; omega, ?_⟩
      have m15 := (m13.trans m5).upd (o := .lst (zs.map V.int ++ [.int (b % 3)])) Dn0 nD
      refine ⟨_, rfl, D, _, rfl, .inl ⟨SqL.of upd_same, ?_⟩⟩
      have := fin _ D (zs ++ [b % 3]) m15 (by rw [upd_same, List.map_append]; rfl) (by rw [List.length_append]; omega) (by rw [List.length_append]; exact Nat.le_refl _) (fun y hy => by
        rcases List.mem_append.mp hy with h | h
        · exact hb.up (by omega) y h
        · rw [List.mem_singleton.mp h]
          omega)
      rw [List.map_append] at this
      exact this
    refine ⟨_, rfl, rfl, _, rfl, ite2 (fun _ => ?_) (fun _ => ?_)⟩
    · -- shorter
      obtain ⟨y, hy⟩ : ∃ y, (zs.map V.int)[k]? = some y := ⟨_, List.getElem?_eq_getElem (by rw [List.length_map]; exact hkl)⟩
      refine ⟨_, rfl, .inl ⟨rfl, _, SqL.of hD3⟩, _, rfl, D, _, k, k, y, rfl, rfl, hD3, by omega, by omega, by unfold seqIndex?; simp; omega, hy, ?_⟩
      have m15 := m13.upd (o := .lst ((zs.map V.int).eraseIdx k)) Dn0 nD
      have em : ∀ (xs : List Int) (j : Nat), (xs.map V.int).eraseIdx j = (xs.eraseIdx j).map V.int := fun xs j => by
        refine List.ext_getElem? fun i => ?_
        rw [List.getElem?_eraseIdx, List.getElem?_map, List.getElem?_map, List.getElem?_map, List.getElem?_eraseIdx]
        split <;> rfl
      refine ⟨_, rfl, D, _, rfl, .inl ⟨SqL.of upd_same, ?_⟩⟩
      have lr : (zs.eraseIdx k).length = zs.length - 1 := by rw [List.length_eraseIdx, if_pos hkl]
      have := fin _ D (zs.eraseIdx k) m15 (by rw [upd_same, em]) (by omega) (by omega) (fun y hy => hb.up (by omega) y (List.mem_of_mem_eraseIdx hy))
      rw [← em] at this
      exact this
    refine ⟨_, rfl, rfl, _, rfl, ite2 (fun _ => ?_) (fun _ => ?_)⟩
    · -- noughts
      refine ⟨by show (1 : Nat) ≤ sizeLine; omega, fun p4 hp4 => ?_⟩
      have e4 := Ex.new (o := .lst [.int 0]) hp4
      refine ⟨_, rfl, D, _, rfl, .inl (SqL.of (e4 _ _ hD3)), _, _, rfl, rfl, ?_⟩
      have nl4 : p4 ≠ l := dra_ne m13.2 hp4
      have m14 := m13.ex e4
      refine ⟨p4, _, [.int 0], rfl, rfl, upd_same, by rw [List.length_map]; omega, by rw [List.length_map]; omega, by rw [List.length_map]; show 1 * _ ≤ sizeLine; omega, fun p5 hp5 => ⟨by show (1 : Nat) ≤ sizeLine; omega, fun p6 hp6 => ?_⟩⟩
      have eN : ((((zs.map V.int).length : Nat) : Int) - 1).toNat = zs.length - 1 := by rw [List.length_map]; omega
      rw [eN] at hp6 ⊢
      rw [flat_rep] at hp6 ⊢
      have e5 := Ex.new (o := .lst (List.replicate (zs.length - 1) (V.int 0))) hp5
      have e6 := Ex.new (o := .lst [.int 1]) hp6
      refine ⟨p5, p6, _, _, rfl, rfl, e6 _ _ upd_same, upd_same, by rw [List.length_replicate]; show _ + 1 ≤ sizeLine; omega, fun p7 hp7 => ?_⟩
      have e7 := Ex.new (o := .lst (List.replicate (zs.length - 1) (V.int 0) ++ [V.int 1])) hp7
      have m17 := m14.ex ((e5.trans e6).trans e7)
      refine ⟨_, rfl, p7, _, rfl, .inl ⟨SqL.of upd_same, ?_⟩⟩
      have em : (List.replicate (zs.length - 1) (0 : Int) ++ [1]).map V.int = List.replicate (zs.length - 1) (V.int 0) ++ [V.int 1] := by rw [List.map_append, List.map_replicate]; rfl
      have := fin _ p7 (List.replicate (zs.length - 1) 0 ++ [1]) m17 (by rw [upd_same, em]) (by rw [List.length_append, List.length_replicate]; omega) (by rw [List.length_append, List.length_replicate]; show _ + 1 ≤ _; omega) (fun y hy => by
        rcases List.mem_append.mp hy with h | h
        · rw [(List.mem_replicate.mp h).2]
          show 0 < _
          omega
        · rw [List.mem_singleton.mp h]
          show 1 < _
          omega)
      rw [em] at this
      exact this
    · -- another one
      refine ⟨_, rfl, l, rfl, m13.2, fun H5 b b0 b1 m5 => .inl ⟨_, rfl, _, _, rfl, rfl, by show (0 : Int) < 9; decide, _, _, rfl, rfl, ?_⟩⟩
      have hD5 := m5.1 _ _ nD hD3
      refine ⟨_, rfl, _, rfl, D, _, k, k, rfl, rfl, hD5, hixk, ?_⟩
      have m15 := (m13.trans m5).upd (o := .lst ((zs.map V.int).set k (.int (b % 9 - 4)))) Dn0 nD
      refine ⟨_, rfl, D, _, rfl, .inl ⟨SqL.of upd_same, ?_⟩⟩
      have := fin _ D (zs.set k (b % 9 - 4)) m15 (by rw [upd_same, List.map_set]) (by rw [List.length_set]; omega) (by rw [List.length_set]; omega) (setB _ (by omega))
      rw [List.map_set] at this
      exact this
/-! ### what is told of lists that are refused -/
def tB : Str := "![1, 0]"
def tN : Str := "![0, 1]"
def sp__law_told (K : PySem.W.Frag) (C : Addr) : Sp := fun vs H Q _ => ∃ (way i : Int) (r : Addr) (us : List V) (zss : List (List Int)), vs = [.int way, .int i, .ref r] ∧ SqL K H r us ∧ All2 (PlV K H) us zss ∧ zss.length ≤ 1000 ∧ (∀ zs ∈ zss, zs.length ≤ 1000) ∧ 0 ≤ way ∧ way ≤ 2 ∧
  (¬ (1 ≤ i ∧ i ≤ 4) → ∀ H', Ex H H' → Q (.str tB) H') ∧ (1 ≤ i ∧ i ≤ 4 → way = 0) ∧ (way = 2 → zss ≠ []) ∧
  ∀ n : Nat, i = n → 1 ≤ n → n ≤ 4 → (PlanesOk n zss → ∀ H' l us', Ex H H' → H' l = some (.lst us') → All2 (PlV K H') us' zss → H l = none → Q (.ref l) H') ∧ (¬ PlanesOk n zss → ∀ H', Ex H H' → Q (.str tN) H')
def tSuite (K : PySem.W.Frag) (ad : Nat → Addr) : Addr → Value → Option Addr → TS := fun a cls d =>
  tRet (tOp (fun x y H Q => ∃ i j, x = V.str i ∧ y = V.str j ∧ i.length + j.length ≤ sizeLine ∧ Q (V.str (i ++ j)) H) (tC (V.str (Str.ofString "!")))
    (tCB (fun vs H Q => ∃ a d, vs = [V.ref a] ∧ Dp K H (V.ref a) d ∧ Show1 d ∧ Q (V.str d.shown) H)
      (tCons (tLst
        (tCons (tCB (fun xs H Q => (∃ i, xs = [V.int i] ∧ Q (V.int i) H) ∨ ∃ k, xs = [V.bl k] ∧ Q (V.int (if k = true then 1 else 0)) H) (tCons (tCB (rIsX K a cls d) (tCons (tVar 3) (tCons (tC (V.ref (ad 4))) tNil))) tNil))
        (tCons (tCB (fun xs H Q => (∃ i, xs = [V.int i] ∧ Q (V.int i) H) ∨ ∃ k, xs = [V.bl k] ∧ Q (V.int (if k = true then 1 else 0)) H) (tCons (tCB (rIsX K a cls d) (tCons (tVar 3) (tCons (tC (V.ref (ad 3))) tNil))) tNil)) tNil)))
        tNil)))
def b2 (k : Bool) : Int := if k = true then 1 else 0
def errText (x y : Bool) : Str := Str.ofString "!" ++ (PyData.list [.int (b2 x), .int (b2 y)]).shown
theorem show_bb : ∀ x y : Bool, Show1 (PyData.list [.int (b2 x), .int (b2 y)]) := by
  intro x y
  cases x <;> cases y <;> exact ⟨by decide +kernel, by decide +kernel, by decide +kernel, by decide +kernel⟩
theorem err_len : ∀ x y : Bool, (Str.ofString "!").length + ((PyData.list [.int (b2 x), .int (b2 y)]).shown).length ≤ sizeLine := by
  intro x y
  cases x <;> cases y <;> decide +kernel
theorem told_suite {c0 C : Addr} {bB bN : Bool} {Q : VK} {n : L2.St → Hp → Prop} {o1 o2 o3 : Option V} {H1 : Hp} (xm : PySem.W.exmOne K (.ref C) (.ref c0) = some true) (c : ExcC K C)
    (kB : PySem.W.kitOne K (.ref C) (.ref (ad 4)) = some bB) (kN : PySem.W.kitOne K (.ref C) (.ref (ad 3)) = some bN)
    (q : ∀ H', Ex H1 H' → Q (.str (errText bB bN)) H') : wAs K (.ref c0) 3 (tSuite K ad) (fun _ _ _ _ => False) { nx := n, rt := Q } (.ref C) none [o1, o2, o3, none] H1 := by
  refine ⟨true, xm, fun _ a ha => ?_, fun z => nomatch z⟩
  refine ⟨.ref a, rfl, .inr ⟨C, rfl, rfl, c, .ref (ad 4), _, bB, rfl, fun u h => h, kB, .inr ⟨bB, rfl, ?_⟩⟩⟩
  refine ⟨.ref a, rfl, .inr ⟨C, rfl, rfl, c, .ref (ad 3), _, bN, rfl, fun u h => h, kN, .inr ⟨bN, rfl, ?_⟩⟩⟩
  refine ⟨(by show (2 : Nat) ≤ sizeLine; decide), fun p hp => ?_⟩
  refine ⟨p, _, rfl, .lst (SqL.of upd_same) (.cons (.int (b2 bB)) (.cons (.int (b2 bN)) .nil)), show_bb bB bN, _, _, rfl, rfl, err_len bB bN, q _ (Ex.new hp)⟩
theorem errT_B : errText true false = tB := by decide +kernel
theorem errT_N : errText false true = tN := by decide +kernel
theorem suite_B (T : Txt K w mg ad fd) {Q : VK} {n : L2.St → Hp → Prop} {o1 o2 o3 : Option V} {H1 : Hp} (q : ∀ H', Ex H1 H' → Q (.str tB) H') : wAs K (.ref (ad 2)) 3 (tSuite K ad) (fun _ _ _ _ => False) { nx := n, rt := Q } (.ref (ad 4)) none [o1, o2, o3, none] H1 :=
  told_suite T.e_BadNumber_PlaneError T.c_BadNumber T.i_BadNumber_BadNumber T.i_BadNumber_NotPlanes (by rw [errT_B]; exact q)
theorem suite_N (T : Txt K w mg ad fd) {Q : VK} {n : L2.St → Hp → Prop} {o1 o2 o3 : Option V} {H1 : Hp} (q : ∀ H', Ex H1 H' → Q (.str tN) H') : wAs K (.ref (ad 2)) 3 (tSuite K ad) (fun _ _ _ _ => False) { nx := n, rt := Q } (.ref (ad 3)) none [o1, o2, o3, none] H1 :=
  told_suite T.e_NotPlanes_PlaneError T.c_NotPlanes T.i_NotPlanes_BadNumber T.i_NotPlanes_NotPlanes (by rw [errT_N]; exact q)
theorem ok__law_told (T : Txt K w mg ad fd) : CalG P w K mg base CX0 6 "_law_told" (ad 45) (fd 45) ["way", "n", "rows"] (sp__law_told K (ad 23)) := by
  refine ⟨T.f__law_told.okGn sc__law_told (fun vs H Q E h => ?_) (fun cdv A outer s H vs Q E gd hr h => ?_), T.g__law_told, T.f__law_told.kp, T.f__law_told.binds (ps := ["way", "n", "rows"]) fun _ _ _ _ _ _ us hl => match us, hl with | [_, _, _], _ => rfl⟩
  · obtain ⟨way, i, r, us, zss, rfl, _⟩ := h
    rfl
  · obtain ⟨way, i, r, us, zss, rfl, hr', hz, hl, hlen, w0, w2, qB, hway, hne, qn⟩ := h
    have hu := hr.units
    refine ⟨_, (pss_one (L2N.ps_try_as (i := 3) rfl rfl sc__law_told.nd rfl rfl ⟨rfl, by decide, Or.inl T.g_PlaneError⟩ takes0N
    (fun W pn xe tk hp => (pss_cons (ps_if (pt_cmpR op_eq (pv 0) pe_int (nomark _)) (pss_one (ps_ret (pe_meth0 (pe_makeS T.mk_Planes (ok_Planes_init T (P := P) (w := w) (base := base)).ok (hr.mono (by decide)) rfl T.g_Planes (ok_Planes_init T (P := P) (w := w) (base := base)).b (fun σ => L2N.passAt tk σ) (pa_cons (pv 1) (pa_cons (pv 2) pa_nil))) T.cl_Planes T.me_Planes_planes (ok_Planes_planes T (P := P) (w := w) (base := base)).ok (hr.mono (by decide)) (ok_Planes_planes T (P := P) (w := w) (base := base)).b .nil pass0))) pss_nil)
    (pss_cons (ps_if (pt_cmpR op_eq (pv 0) pe_int (nomark _)) (pss_one (ps_ret (pe_calS (ok_check_letters T (P := P) (w := w) (base := base)) (hr.mono (by decide)) (fun σ => L2N.passAt tk σ) (pa_cons (pv 1) pa_nil)))) pss_nil)
    (pss_one (ps_ret (pe_calS (ok_is_plane T (P := P) (w := w) (base := base)) (hr.mono (by decide)) (fun σ => L2N.passAt tk σ) (pa_cons (pv 1) (pa_cons (pe_ix (ix_listK (K := K)) (pv 2) pe_int (fun _ _ => rfl)) pa_nil))))))))
    (fun a oe cls d pn hz hf => by exact (pss_one (ps_ret (pe_op op_add_str pe_str (pe_strD (K := K) gd hu T.m_str (pa_cons (pe_lst (pa_cons (pe_callTy (T := "int") call_int1 (by rfl) T.m_int (by decide +kernel) (pa_cons (pe_callB (call_isX (K := K) (L2N.Zn.zc hz) hf) (by rfl) T.m_isinstance (by decide +kernel) (pa_cons (pv 3) (pa_cons (pe_globR (f := ad 4) T.g_BadNumber) pa_nil))) pa_nil)) (pa_cons (pe_callTy (T := "int") call_int1 (by rfl) T.m_int (by decide +kernel) (pa_cons (pe_callB (call_isX (K := K) (L2N.Zn.zc hz) hf) (by rfl) T.m_isinstance (by decide +kernel) (pa_cons (pv 3) (pa_cons (pe_globR (f := ad 3) T.g_NotPlanes) pa_nil))) pa_nil)) pa_nil))) pa_nil)))))))), ?_⟩
    by_cases h0 : way = 0
    · subst h0
      refine ⟨_, rfl, rfl, _, rfl, ?_⟩
      rw [decide_eq_true rfl]
      refine iteT ?_
      refine ⟨_, rfl, _, rfl, fun x dx hx hdx hxy => ?_⟩
      refine make_plR hr' hz hl hlen hx hdx hxy (fun hb H1 e1 => suite_B T fun H2 e2 => qB hb H2 (e1.trans e2)) (fun n hin n1 n4 => ⟨fun hok H1 r1 e1 hr1 hpl => ?_, fun hok H1 e1 => suite_N T fun H2 e2 => (qn n hin n1 n4).2 hok H2 (e1.trans e2)⟩)
      obtain ⟨dx', hob⟩ := hpl.ob
      exact ⟨x, dx', _, rfl, hob, pflds_no _ _ (by decide +kernel) (by decide +kernel), x, r1, n, zss, rfl, hpl, fun H2 l us2 e2 hl2 hz2 hn2 => (qn n hin n1 n4).1 hok H2 l us2 (e1.trans e2) hl2 hz2 (none_ex e1 hn2)⟩
    · refine ⟨_, rfl, rfl, _, rfl, ?_⟩
      rw [decide_eq_false (show ¬ V.int way = V.int 0 from fun e => h0 (V.int.inj e))]
      refine iteF ?_
      have hbad : ¬ (1 ≤ i ∧ i ≤ 4) := fun h => h0 (hway h)
      by_cases h1 : way = 1
      · subst h1
        refine ⟨_, rfl, rfl, _, rfl, ?_⟩
        rw [decide_eq_true rfl]
        exact iteT ⟨_, rfl, i, rfl, fun h => absurd h hbad, fun _ H1 e1 => suite_B T fun H2 e2 => qB hbad H2 (e1.trans e2)⟩
      · refine ⟨_, rfl, rfl, _, rfl, ?_⟩
        rw [decide_eq_false (show ¬ V.int way = V.int 1 from fun e => h1 (V.int.inj e))]
        refine iteF ?_
        obtain ⟨zs, hzs⟩ : ∃ zs, zss[0]? = some zs := by
          cases zss with
          | nil => exact absurd rfl (hne (by omega))
          | cons y ys => exact ⟨y, rfl⟩
        obtain ⟨u, hu0, hpu⟩ := hz.at_ hzs
        refine ⟨_, rfl, _, rfl, r, us, 0, u, rfl, rfl, hr', atI_nat (j := 0) hu0, i, u, zs, rfl, hpu, hlen zs (List.mem_of_getElem? hzs), fun _ H1 e1 => suite_B T fun H2 e2 => qB hbad H2 (e1.trans e2), fun n hn n1 n4 => absurd (show 1 ≤ i ∧ i ≤ 4 by omega) hbad⟩
/-! ### what is told of places that are none -/
def tM : Str := "!1"
def mSuite (K : PySem.W.Frag) (ad : Nat → Addr) : Addr → Value → Option Addr → TS := fun a cls d =>
  tRet (tOp (fun x y H Q => ∃ i j, x = V.str i ∧ y = V.str j ∧ i.length + j.length ≤ sizeLine ∧ Q (V.str (i ++ j)) H) (tC (V.str (Str.ofString "!")))
    (tCB (fun xs H Q => ∃ i, xs = [V.int i] ∧ i.natAbs.log2 < 1920 ∧ Q (V.str (toString i)) H)
      (tCons (tCB (fun xs H Q => (∃ i, xs = [V.int i] ∧ Q (V.int i) H) ∨ ∃ k, xs = [V.bl k] ∧ Q (V.int (if k = true then 1 else 0)) H) (tCons (tCB (rIsX K a cls d) (tCons (tVar 3) (tCons (tC (V.ref (ad 4))) tNil))) tNil)) tNil)))
theorem msuite (T : Txt K w mg ad fd) {Q : VK} {n : L2.St → Hp → Prop} {o1 o2 o3 : Option V} {H1 : Hp} (q : ∀ H', Ex H1 H' → Q (.str tM) H') : wAs K (.ref (ad 2)) 3 (mSuite K ad) (fun _ _ _ _ => False) { nx := n, rt := Q } (.ref (ad 4)) none [o1, o2, o3, none] H1 := by
  refine ⟨true, T.e_BadNumber_PlaneError, fun _ a ha => ?_, fun z => nomatch z⟩
  refine ⟨.ref a, rfl, .inr ⟨_, rfl, rfl, T.c_BadNumber, .ref (ad 4), _, true, rfl, fun u h => h, T.i_BadNumber_BadNumber, .inr ⟨true, rfl, 1, rfl, by decide, _, _, rfl, rfl, by decide +kernel, ?_⟩⟩⟩
  have e : (Str.ofString "!" ++ ((toString (1 : Int) : String) : Str)) = tM := by decide +kernel
  have := q H1 (Ex.refl H1)
  rw [← e] at this
  exact this
def sp__law_method (K : PySem.W.Frag) (C : Addr) : Sp := fun vs H Q _ => ∃ (way : Int) (a r : Addr) (n : Nat) (zss : List (List Int)) (y : V), vs = [.int way, .ref a, y] ∧ PlsAt K C H a r n zss ∧ 0 ≤ way ∧ way ≤ 2 ∧
  (way ≤ 1 → ∃ i : Int, y = .int i ∧ ¬ (0 ≤ i ∧ i < zss.length)) ∧ (way = 2 → ∃ is : List Int, PlV K H y is ∧ is.length ≤ 1000 ∧ ¬ (inAll zss.length is ∧ ascB is = true)) ∧ ∀ H', Ex H H' → Q (.str tM) H'
theorem ok__law_method (T : Txt K w mg ad fd) : CalG P w K mg base CX0 7 "_law_method" (ad 46) (fd 46) ["way", "planes", "at"] (sp__law_method K (ad 23)) := by
  refine ⟨T.f__law_method.okGn sc__law_method (fun vs H Q E h => ?_) (fun cdv A outer s H vs Q E gd hr h => ?_), T.g__law_method, T.f__law_method.kp, T.f__law_method.binds (ps := ["way", "planes", "at"]) fun _ _ _ _ _ _ us hl => match us, hl with | [_, _, _], _ => rfl⟩
  · obtain ⟨way, a, r, n, zss, y, rfl, _⟩ := h
    rfl
  · obtain ⟨way, a, r, n, zss, y, rfl, hpl, w0, w2, h01, h2, q⟩ := h
    have hu := hr.units
    obtain ⟨dx, hob⟩ := hpl.ob
    refine ⟨_, (pss_one (L2N.ps_try_as (i := 3) rfl rfl sc__law_method.nd rfl rfl ⟨rfl, by decide, Or.inl T.g_PlaneError⟩ takes0N
    (fun W pn xe tk hp => (pss_cons (ps_if (pt_cmpR op_eq (pv 0) pe_int (nomark _)) (pss_one (ps_ret (pe_methT (pv 1) T.cl_Planes T.me_Planes_without (ok_Planes_without T (P := P) (w := w) (base := base)).ok (hr.mono (by decide)) (ok_Planes_without T (P := P) (w := w) (base := base)).b (fun σ => L2N.passAt tk σ) (pa_cons (pv 2) pa_nil)))) pss_nil)
    (pss_cons (ps_if (pt_cmpR op_eq (pv 0) pe_int (nomark _)) (pss_one (ps_ret (pe_methT (pv 1) T.cl_Planes T.me_Planes_turned (ok_Planes_turned T (P := P) (w := w) (base := base)).ok (hr.mono (by decide)) (ok_Planes_turned T (P := P) (w := w) (base := base)).b (fun σ => L2N.passAt tk σ) (pa_cons (pv 2) pa_nil)))) pss_nil)
    (pss_one (ps_ret (pe_methT (pv 1) T.cl_Planes T.me_Planes_only (ok_Planes_only T (P := P) (w := w) (base := base)).ok (hr.mono (by decide)) (ok_Planes_only T (P := P) (w := w) (base := base)).b (fun σ => L2N.passAt tk σ) (pa_cons (pv 2) pa_nil)))))))
    (fun a oe cls d pn hz hf => by exact (pss_one (ps_ret (pe_op op_add_str pe_str (pe_callTy (T := "str") call_str_int (by rfl) T.m_str (by decide +kernel) (pa_cons (pe_callTy (T := "int") call_int1 (by rfl) T.m_int (by decide +kernel) (pa_cons (pe_callB (call_isX (K := K) (L2N.Zn.zc hz) hf) (by rfl) T.m_isinstance (by decide +kernel) (pa_cons (pv 3) (pa_cons (pe_globR (f := ad 4) T.g_BadNumber) pa_nil))) pa_nil)) pa_nil)))))))), ?_⟩
    have no : ∀ {i j : Int}, i ≠ j → decide (V.int i = V.int j) = false := fun h => decide_eq_false fun e => h (V.int.inj e)
    by_cases hw0 : way = 0
    · subst hw0
      obtain ⟨i, rfl, hi⟩ := h01 (by decide)
      refine ⟨_, rfl, rfl, _, rfl, ?_⟩
      rw [decide_eq_true rfl]
      exact iteT ⟨_, rfl, a, dx, _, rfl, hob, pflds_no _ _ (by decide +kernel) (by decide +kernel), _, rfl, a, r, n, zss, i, rfl, hpl, fun _ H1 e1 => msuite T fun H2 e2 => q H2 (e1.trans e2), fun h => absurd h hi⟩
    refine ⟨_, rfl, rfl, _, rfl, ?_⟩
    rw [no hw0]
    refine iteF ?_
    by_cases hw1 : way = 1
    · subst hw1
      obtain ⟨i, rfl, hi⟩ := h01 (by decide)
      refine ⟨_, rfl, rfl, _, rfl, ?_⟩
      rw [decide_eq_true rfl]
      exact iteT ⟨_, rfl, a, dx, _, rfl, hob, pflds_no _ _ (by decide +kernel) (by decide +kernel), _, rfl, a, r, n, zss, i, rfl, hpl, fun _ H1 e1 => msuite T fun H2 e2 => q H2 (e1.trans e2), fun k zs hk hz => absurd (show 0 ≤ i ∧ i < zss.length by have := (List.getElem?_eq_some_iff.mp hz).1; omega) hi⟩
    refine ⟨_, rfl, rfl, _, rfl, ?_⟩
    rw [no hw1]
    refine iteF ?_
    obtain ⟨is, hpi, hli, hbad⟩ := h2 (by omega)
    exact ⟨_, rfl, a, dx, _, rfl, hob, pflds_no _ _ (by decide +kernel) (by decide +kernel), _, rfl, a, r, n, zss, y, is, rfl, hpl, hpi, hli, fun _ H1 e1 => msuite T fun H2 e2 => q H2 (e1.trans e2), fun h => absurd h hbad⟩
/-! ### long lists -/
def lg (n : Nat) (c : Int) (i : Nat) : List Int := [1] ++ List.replicate (n - 1) 0 ++ [(i : Int) + c]
def lgs (n : Nat) (c : Int) : List (List Int) := (List.range 12).map (lg n c)
theorem lg_pl {n i : Nat} {c : Int} (n1 : 1 ≤ n) (hi : i < 12) (hc : -6 ≤ c ∧ c ≤ 0) : Pl n (lg n c i) := by
  unfold lg
  refine ⟨?_, fun y hy => ?_, ⟨1, ?_, by decide⟩, ?_⟩
  · rw [List.length_append, List.length_append, List.length_replicate]
    show 1 + (n - 1) + 1 = n + 1
    omega
  · rcases List.mem_append.mp hy with h | h
    · rcases List.mem_append.mp h with h | h
      · rw [List.mem_singleton.mp h]
        decide
      · rw [(List.mem_replicate.mp h).2]
        decide
    · rw [List.mem_singleton.mp h]
      omega
  · obtain ⟨k, rfl⟩ : ∃ k, n = k + 1 := ⟨n - 1, by omega⟩
    show (1 : Int) ∈ (1 :: (List.replicate (k + 1 - 1) 0 ++ [(i : Int) + c])).take (k + 1)
    rw [List.take_succ_cons]
    exact List.mem_cons_self ..
  · refine gl_one (k := 1) ?_
    show gl ((1 :: (List.replicate (n - 1) 0 ++ [(i : Int) + c])).take 1) = 1
    rw [List.take_succ_cons]
    rfl
theorem lgs_ok {n : Nat} {c : Int} (n1 : 1 ≤ n) (hc : -6 ≤ c ∧ c ≤ 0) : PlanesOk n (lgs n c) := by
  have at_ : ∀ {i : Nat} {a : List Int}, (lgs n c)[i]? = some a → i < 12 ∧ a = lg n c i := fun {i a} h => by
    unfold lgs at h
    rw [List.getElem?_map] at h
    by_cases hi : i < 12
    · rw [List.getElem?_range hi] at h
      cases h
      exact ⟨hi, rfl⟩
    · rw [List.getElem?_eq_none (by rw [List.length_range]; omega)] at h
      cases h
  refine ⟨by unfold lgs; rw [List.length_map, List.length_range]; decide, fun a ha => ?_, fun i j a b hij ha hb => ?_⟩
  · obtain ⟨i, hi⟩ := List.mem_iff_getElem?.mp ha
    obtain ⟨h1, rfl⟩ := at_ hi
    exact lg_pl n1 h1 hc
  · obtain ⟨_, rfl⟩ := at_ ha
    obtain ⟨_, rfl⟩ := at_ hb
    refine ⟨fun e => ?_, fun e => ?_⟩
    · have := (List.cons.inj (List.append_cancel_left e)).1
      omega
    · have e : (1 : Int) :: (List.replicate (n - 1) 0 ++ [(j : Int) + c]) = -1 :: neg (List.replicate (n - 1) 0 ++ [(i : Int) + c]) := e
      have := (List.cons.inj e).1
      omega
theorem PlanesOk.take {n k : Nat} {zss : List (List Int)} (h : PlanesOk n zss) : PlanesOk n (zss.take k) := by
  obtain ⟨h1, h2, h3⟩ := h
  have sub : ∀ {i : Nat} {a : List Int}, (zss.take k)[i]? = some a → zss[i]? = some a := fun {i a} h => by
    rw [List.getElem?_take] at h
    split at h
    · exact h
    · cases h
  exact ⟨by rw [List.length_take]; omega, fun a ha => h2 a (List.mem_of_mem_take ha), fun i j a b hij ha hb => h3 i j a b hij (sub ha) (sub hb)⟩
theorem PlanesOk.drop {n k : Nat} {zss : List (List Int)} (h : PlanesOk n zss) : PlanesOk n (zss.drop k) := by
  obtain ⟨h1, h2, h3⟩ := h
  exact ⟨by rw [List.length_drop]; omega, fun a ha => h2 a (List.mem_of_mem_drop ha), fun i j a b hij ha hb => h3 (k + i) (k + j) a b (by omega) (by rw [List.getElem?_drop] at ha; exact ha) (by rw [List.getElem?_drop] at hb; exact hb)⟩
theorem lgs_len (n : Nat) (c : Int) : (lgs n c).length = 12 := by
  unfold lgs
  rw [List.length_map, List.length_range]
theorem one_ok : PlanesOk 1 [[1, 0]] := ⟨by decide, fun a ha => by rw [List.mem_singleton.mp ha]; decide, fun i j a b hij ha hb => by
  have := (List.getElem?_eq_some_iff.mp hb).1
  simp at this
  omega⟩
theorem nil_ok (n : Nat) : PlanesOk n [] := ⟨by decide, fun a ha => absurd ha List.not_mem_nil, fun i j a b hij ha hb => by cases ha⟩
theorem cutV_to {xs : List V} {n : Nat} : cutV xs none (some (n : Int)) = xs.take n := by
  unfold cutV
  rw [HT.sIx_none, HT.sIx_nat, List.drop_zero]
  by_cases h : n ≤ xs.length
  · congr 1
    omega
  · rw [List.take_of_length_le (by omega), List.take_of_length_le (by omega)]
theorem cutV_from {xs : List V} {n : Nat} : cutV xs (some (n : Int)) none = xs.drop n := by
  unfold cutV
  rw [HT.sIx_none, HT.sIx_nat]
  by_cases h : n ≤ xs.length
  · rw [List.take_of_length_le (by rw [List.length_drop]; omega)]
    congr 1
    omega
  · rw [List.take_of_length_le (by rw [List.length_drop]; omega), List.drop_of_length_le (by omega), List.drop_of_length_le (by omega)]
theorem All2.take {α : Type} {R : V → α → Prop} {vs : List V} {xs : List α} (h : All2 R vs xs) (k : Nat) : All2 R (vs.take k) (xs.take k) := by
  refine ⟨by rw [List.length_take, List.length_take, h.1], fun i v x a b => ?_⟩
  rw [List.getElem?_take] at a b
  split at a
  · rw [if_pos (by assumption)] at b
    exact h.2 i v x a b
  · cases a
theorem All2.drop {α : Type} {R : V → α → Prop} {vs : List V} {xs : List α} (h : All2 R vs xs) (k : Nat) : All2 R (vs.drop k) (xs.drop k) := by
  refine ⟨by rw [List.length_drop, List.length_drop, h.1], fun i v x a b => ?_⟩
  rw [List.getElem?_drop] at a b
  exact h.2 _ v x a b
theorem rep0_plI {K : PySem.W.Frag} {H : Hp} {u : V} {n : Nat} {k : Int} {Q : VK} (hk : k = (n : Nat)) (hu : PlV K H u [0]) (hn : n ≤ 1000) (q : ∀ H' z, Ex H H' → PlV K H' z (List.replicate n 0) → Q z H') : rRepA K u (.int k) H Q := by
  subst hk
  exact rep0_pl hu hn q
theorem PlsAt.mv {K : PySem.W.Frag} {C l : Addr} {H H' : Hp} {a r : Addr} {n : Nat} {zss : List (List Int)} (d : DrA l H) (m : Mv l H H') (nr : r ≠ l) (h : PlsAt K C H a r n zss) : PlsAt K C H' a r n zss := by
  obtain ⟨⟨dx, h1⟩, ⟨us, h2, h3⟩, a1, a4, ok⟩ := h
  obtain ⟨ds, hl, _⟩ := id d
  exact ⟨⟨dx, m.1 _ _ (ne_of h1 hl (fun z => nomatch z)) h1⟩, ⟨us, m.1 _ _ nr h2, h3.imp fun _ _ z => mv_plv d m z⟩, a1, a4, ok⟩
/-! ### parts -/
theorem ascB_snoc {is : List Int} {i : Int} (h : ascB is = true) (hb : ∀ x ∈ is, x < i) : ascB (is ++ [i]) = true := by
  have hlt := ascB_lt h
  unfold ascB
  rw [List.all_eq_true]
  intro b hb2
  obtain ⟨k, hk⟩ := List.mem_iff_getElem?.mp hb2
  rw [List.getElem?_zipWith] at hk
  cases e1 : (is ++ [i])[k]? with
  | none => rw [e1] at hk; cases hk
  | some x =>
    cases e2 : ((is ++ [i]).drop 1)[k]? with
    | none => rw [e1, e2] at hk; cases hk
    | some y =>
      rw [e1, e2] at hk
      cases hk
      rw [List.getElem?_drop] at e2
      refine decide_eq_true ?_
      have hk2 := (List.getElem?_eq_some_iff.mp e2).1
      rw [List.length_append] at hk2
      have hk2 : 1 + k < is.length + 1 := hk2
      rw [List.getElem?_append_left (by omega)] at e1
      by_cases hl : 1 + k < is.length
      · rw [List.getElem?_append_left hl] at e2
        exact hlt k (1 + k) x y (by omega) e1 e2
      · rw [List.getElem?_append_right (by omega), show 1 + k - is.length = 0 by omega] at e2
        cases e2
        exact hb x (List.mem_of_getElem? e1)
theorem neg_len (zs : List Int) : (neg zs).length = zs.length := by
  unfold neg
  rw [List.length_map]
def AccA (l : Addr) (i : Nat) (ys : List V) (H : Hp) : Prop := DrA l H ∧ ∃ is : List Int, ys = is.map V.int ∧ (∀ x ∈ is, 0 ≤ x ∧ x < i) ∧ ascB is = true
theorem take_list {us : List V} {zss : List (List Int)} {R : V → List Int → Prop} (h : All2 R us zss) (i : Nat) : All2 R (cutV us none (some (i : Int))) (zss.take i) := by
  rw [cutV_to]
  exact h.take i
theorem drop_list {us : List V} {zss : List (List Int)} {R : V → List Int → Prop} (h : All2 R us zss) (i : Nat) : All2 R (cutV us (some (i : Int)) none) (zss.drop i) := by
  rw [cutV_from]
  exact h.drop i
theorem eqv_same {xs ys : List (List Int)} (h : xs = ys) : SeqAt.shaped (.list (xs.map tupD)) = true ∧ SeqAt.shaped (.list (ys.map tupD)) = true ∧ PyData.eqv (.list (xs.map tupD)) (.list (ys.map tupD)) = true := by
  refine ⟨shaped_tups _, shaped_tups _, ?_⟩
  rw [eqv_lists]
  exact decide_eq_true h
def sp__law_parts (K : PySem.W.Frag) (C : Addr) : Sp := fun vs H Q _ => ∃ (l f a r : Addr) (n : Nat) (us : List V) (zss : List (List Int)), vs = [.ref l, .int n, .ref f, .ref a] ∧ DrA l H ∧ f ≠ l ∧ r ≠ l ∧ H f = some (.lst us) ∧ All2 (PlV K H) us zss ∧ PlsAt K C H a r n zss ∧ ∀ H', Mv l H H' → Q (.bl true) H'
theorem ok__law_parts (T : Txt K w mg ad fd) : CalG P w K mg base CX0 8 "_law_parts" (ad 48) (fd 48) ["draws", "n", "rows", "planes"] (sp__law_parts K (ad 23)) := by
  refine ⟨T.f__law_parts.okGn sc__law_parts (fun vs H Q E h => ?_) (fun cdv A outer s H vs Q E gd hr h => ?_), T.g__law_parts, T.f__law_parts.kp, T.f__law_parts.binds (ps := ["draws", "n", "rows", "planes"]) fun _ _ _ _ _ _ us hl => match us, hl with | [_, _, _, _], _ => rfl⟩
  · obtain ⟨l, f, a, r, n, us, zss, rfl, _⟩ := h
    rfl
  · obtain ⟨l, f, a, r, n, us, zss, rfl, hd, nf, nr, hf, hz, hpl, q⟩ := h
    have hu := hr.units
    have sz : sizeLine = 16777216 := sizeLine_eq
    obtain ⟨dx, hob⟩ := hpl.ob
    have hok := hpl.ok
    have m12 := hok.1
    have lus : us.length = zss.length := hz.1
    refine ⟨_, (pss_cons (ps_set (i := 4) sc__law_parts.nd rfl (by first | exact Or.inl rfl | exact Or.inr rfl) (pe_callTy (T := "tuple") (call_tupleK (K := K)) (by rfl) T.m_tuple (by decide +kernel) (pa_cons (pe_lc (own := [("at", 5)]) rfl sc__law_parts.nd (pi_range1 rfl T.m_range (pa_cons (pe_callB call_len_seq (by rfl) T.m_len PySem.boot_len (pa_cons (pv 2) pa_nil)) pa_nil)) (blkOk_by (N := ["draws", "n", "rows", "planes", "indexes", "at", "turned", "a", "pair"]) (sc := defScope s__law_parts) (by decide +kernel)) (fun _ _ _ _ _ => (pg_name (i := 5) sc__law_parts.nd rfl (by first | exact Or.inl rfl | exact Or.inr rfl))) (fun _ _ _ _ _ => (pts_one (pt_cmpR op_eq (pe_op op_mod (pe_callTy (T := "int") call_int1 (by rfl) T.m_int (by decide +kernel) (pa_cons (pe_cal (ok__law_next T (P := P) (w := w) (base := base)) (hr.mono (by decide)) pass0 (pa_cons (pv 0) pa_nil)) pa_nil)) pe_int) pe_int (nomark _)))) (fun _ _ _ _ _ => (pv 5))) pa_nil)))
    (pss_cons (ps_if (pt_cmpR (op_neD hu) (pe_meth0 (pe_meth (pv 3) T.cl_Planes T.me_Planes_only (ok_Planes_only T (P := P) (w := w) (base := base)).ok (hr.mono (by decide)) (ok_Planes_only T (P := P) (w := w) (base := base)).b .nil passLN (pa_cons (pv 4) pa_nil)) T.cl_Planes T.me_Planes_planes (ok_Planes_planes T (P := P) (w := w) (base := base)).ok (hr.mono (by decide)) (ok_Planes_planes T (P := P) (w := w) (base := base)).b .nil pass0) (pe_lc (own := [("at", 5)]) rfl sc__law_parts.nd (pi_tup (pv 4)) (blkOk_by (N := ["draws", "n", "rows", "planes", "indexes", "at", "turned", "a", "pair"]) (sc := defScope s__law_parts) (by decide +kernel)) (fun _ _ _ _ _ => (pg_name (i := 5) sc__law_parts.nd rfl (by first | exact Or.inl rfl | exact Or.inr rfl))) (fun _ _ _ _ _ => pts_nil) (fun _ _ _ _ _ => (pe_ix (ix_listK (K := K)) (pv 2) (pv 5) (fun _ _ => rfl)))) (nomark _)) (pss_one (ps_ret pe_bl)) pss_nil)
    (pss_cons (ps_for (by first | exact PassesOwn.never | exact passes_of rfl) rfl (pi_range1 rfl T.m_range (pa_cons (pe_callB call_len_seq (by rfl) T.m_len PySem.boot_len (pa_cons (pv 2) pa_nil)) pa_nil)) (pg_name (i := 5) sc__law_parts.nd rfl (by first | exact Or.inl rfl | exact Or.inr rfl))
      (pss_cons (ps_set (i := 6) sc__law_parts.nd rfl (by first | exact Or.inl rfl | exact Or.inr rfl) (pe_callTy (T := "tuple") (call_tupleK (K := K)) (by rfl) T.m_tuple (by decide +kernel) (pa_cons (pe_lc (own := [("a", 7)]) rfl sc__law_parts.nd (pi_tup (pe_ix (ix_listK (K := K)) (pv 2) (pv 5) (fun _ _ => rfl))) (blkOk_by (N := ["draws", "n", "rows", "planes", "indexes", "at", "turned", "a", "pair"]) (sc := defScope s__law_parts) (by decide +kernel)) (fun _ _ _ _ _ => (pg_name (i := 7) sc__law_parts.nd rfl (by first | exact Or.inl rfl | exact Or.inr rfl))) (fun _ _ _ _ _ => pts_nil) (fun _ _ _ _ _ => (pe_op op_sub pe_int (pv 7)))) pa_nil)))
    (pss_cons (ps_if (pt_cmpR (op_neD hu) (pe_meth0 (pe_meth (pv 3) T.cl_Planes T.me_Planes_without (ok_Planes_without T (P := P) (w := w) (base := base)).ok (hr.mono (by decide)) (ok_Planes_without T (P := P) (w := w) (base := base)).b .nil passLN (pa_cons (pv 5) pa_nil)) T.cl_Planes T.me_Planes_planes (ok_Planes_planes T (P := P) (w := w) (base := base)).ok (hr.mono (by decide)) (ok_Planes_planes T (P := P) (w := w) (base := base)).b .nil pass0) (pe_op op_cat (pe_slice sl_list (pv 2) po_none (po_some (pv 5))) (pe_slice sl_list (pv 2) (po_some (pe_op op_add (pv 5) pe_int)) po_none)) (nomark _)) (pss_one (ps_ret pe_bl)) pss_nil)
    (pss_one (ps_if (L2.PW.pt (pw_or (pt_cmpR (op_neD hu) (pe_meth0 (pe_meth (pv 3) T.cl_Planes T.me_Planes_turned (ok_Planes_turned T (P := P) (w := w) (base := base)).ok (hr.mono (by decide)) (ok_Planes_turned T (P := P) (w := w) (base := base)).b .nil passLN (pa_cons (pv 5) pa_nil)) T.cl_Planes T.me_Planes_planes (ok_Planes_planes T (P := P) (w := w) (base := base)).ok (hr.mono (by decide)) (ok_Planes_planes T (P := P) (w := w) (base := base)).b .nil pass0) (pe_op op_cat (pe_op op_cat (pe_slice sl_list (pv 2) po_none (po_some (pv 5))) (pe_lst (pa_cons (pv 6) pa_nil))) (pe_slice sl_list (pv 2) (po_some (pe_op op_add (pv 5) pe_int)) po_none)) (nomark _)) (pw_or1 (pt_cmpR op_ne (pe_fldK (K := K) (pe_meth (pv 3) T.cl_Planes T.me_Planes_turned (ok_Planes_turned T (P := P) (w := w) (base := base)).ok (hr.mono (by decide)) (ok_Planes_turned T (P := P) (w := w) (base := base)).b .nil passLN (pa_cons (pv 5) pa_nil)) rfl) (pv 1) (nomark _))))) (pss_one (ps_ret pe_bl)) pss_nil)))))
    (pss_cons (ps_for (by first | exact PassesOwn.never | exact passes_of rfl) rfl (pi_list (pe_lst (pa_cons (pe_un un_neg pe_int) (pa_cons (pe_callB call_len_seq (by rfl) T.m_len PySem.boot_len (pa_cons (pv 2) pa_nil)) (pa_cons (pe_op op_add (pe_callB call_len_seq (by rfl) T.m_len PySem.boot_len (pa_cons (pv 2) pa_nil)) pe_int) pa_nil))))) (pg_name (i := 5) sc__law_parts.nd rfl (by first | exact Or.inl rfl | exact Or.inr rfl))
      (pss_one (ps_if (L2.PW.pt (pw_or (pt_cmpR op_ne (pe_calG (ok__law_method T (P := P) (w := w) (base := base)) gd (hr.mono (by decide)) (pa_cons pe_int (pa_cons (pv 3) (pa_cons (pv 5) pa_nil)))) pe_str (nomark _)) (pw_or (pt_cmpR op_ne (pe_calG (ok__law_method T (P := P) (w := w) (base := base)) gd (hr.mono (by decide)) (pa_cons pe_int (pa_cons (pv 3) (pa_cons (pv 5) pa_nil)))) pe_str (nomark _)) (pw_or1 (pt_cmpR op_ne (pe_calG (ok__law_method T (P := P) (w := w) (base := base)) gd (hr.mono (by decide)) (pa_cons pe_int (pa_cons (pv 3) (pa_cons (pe_tup (pa_cons (pv 5) pa_nil)) pa_nil)))) pe_str (nomark _)))))) (pss_one (ps_ret pe_bl)) pss_nil)))
    (pss_cons (ps_if (pt_cmpR op_gt (pe_callB call_len_seq (by rfl) T.m_len PySem.boot_len (pa_cons (pv 2) pa_nil)) pe_int (nomark _)) (pss_one (ps_ret (pe_cmpR (op_eqD hu) (pe_lc (own := [("pair", 8)]) rfl sc__law_parts.nd (pi_list (pe_lst (pa_cons (pe_tup (pa_cons pe_int (pa_cons pe_int pa_nil))) (pa_cons (pe_tup (pa_cons pe_int (pa_cons pe_int pa_nil))) (pa_cons (pe_tup (pa_cons pe_int (pa_cons pe_int pa_nil))) pa_nil))))) (blkOk_by (N := ["draws", "n", "rows", "planes", "indexes", "at", "turned", "a", "pair"]) (sc := defScope s__law_parts) (by decide +kernel)) (fun _ _ _ _ _ => (pg_name (i := 8) sc__law_parts.nd rfl (by first | exact Or.inl rfl | exact Or.inr rfl))) (fun _ _ _ _ _ => pts_nil) (fun _ _ _ _ _ => (pe_calG (ok__law_method T (P := P) (w := w) (base := base)) gd (hr.mono (by decide)) (pa_cons pe_int (pa_cons (pv 3) (pa_cons (pv 8) pa_nil)))))) (pe_op op_rep (pe_lst (pa_cons pe_str pa_nil)) pe_int) (nomark _)))) pss_nil)
    (pss_one (ps_ret pe_bl))))))), ?_⟩
    -- indexes
    refine ⟨_, rfl, f, us, rfl, .inl (SqL.of hf), us.length, rfl, by omega, by omega, fun D hD => ?_⟩
    have nD := dra_ne hd hD
    refine lc_acc (l := some l) wk_range hD (AccA l) ⟨dra_upd hd nD, [], rfl, fun x h => absurd h List.not_mem_nil, rfl⟩ (fun i ys H H' e h => ⟨dra_ex h.1 e, h.2⟩) ?_ ?_
    · rintro i x H1 ys hi e1 hy hl' ⟨hdr, is, rfl, hin, hasc⟩ rfl
      have hi : i < us.length := hi
      refine ⟨rfl, ?_⟩
      refine ⟨_, rfl, l, rfl, hdr, fun H2 d d0 d1 m2 => .inl ⟨_, rfl, _, _, rfl, rfl, by show (0 : Int) < 2; decide, rfl, _, rfl, ?_⟩⟩
      have hy2 := m2.1 _ _ nD hy
      have e12 := e1.trans m2.exo
      refine ite2 (fun _ => ?_) (fun _ => ?_)
      · refine ⟨_, rfl, LcP.push hD e12 hy2 hl' (by omega) ⟨dra_upd m2.2 nD, is ++ [(0 + (i : Int))], by rw [List.map_append]; rfl, fun x hx => ?_, ascB_snoc hasc fun x hx => by have := hin x hx; omega⟩⟩
        rcases List.mem_append.mp hx with h | h
        · have := hin x h
          omega
        · rw [List.mem_singleton.mp h]
          omega
      · exact LcP.skip e12 hy2 hl' ⟨m2.2, is, rfl, fun x hx => by have := hin x hx; omega, hasc⟩
    rintro H1 ys e1 hy1 ⟨hdr, is, rfl, hin, hasc⟩
    have hin : inAll zss.length is := fun x hx => by
      have h := hin x hx
      have h2 : ((us.length : Nat) : Int).toNat = us.length := Int.toNat_natCast _
      have h3 : x < ((us.length : Nat) : Int) := by have := h.2; omega
      omega
    have m01 : Mv l H H1 := .mk e1 hdr
    have lis : is.length ≤ 1000 := by
      have := (hok.only hin hasc).1
      unfold selL at this
      rw [List.length_map] at this
      omega
    refine ⟨D, _, rfl, .inl ⟨SqL.of hy1, fun p2 hp2 => ?_⟩⟩
    have e2 := Ex.new (o := .tup (is.map V.int)) hp2
    have m02 := m01.ex e2
    have hp2' : SqT K (upd H1 p2 (.tup (is.map V.int))) p2 (is.map V.int) := SqT.of upd_same
    have hpl2 := hpl.mv hd m02 nr
    have hf2 := m02.1 _ _ nf hf
    have hz2 := hz.imp fun _ _ h => mv_plv hd m02 h
    generalize upd H1 p2 (.tup (is.map V.int)) = H2 at m02 hp2' hpl2 hf2 hz2 ⊢
    clear e2 hp2 hy1 hdr m01 e1
    obtain ⟨dx, hob⟩ := hpl2.ob
    -- only
    refine ⟨_, rfl, a, dx, _, rfl, hob, pflds_no _ _ (by decide +kernel) (by decide +kernel), _, rfl, a, r, n, zss, .ref p2, is, rfl, hpl2, ⟨p2, rfl, hp2'⟩, lis, fun h => absurd ⟨hin, hasc⟩ h, fun _ H3 a3 r3 e3 hr3 hpl3 => ?_⟩
    obtain ⟨dx3, hob3⟩ := hpl3.ob
    refine ⟨a3, dx3, _, rfl, hob3, pflds_no _ _ (by decide +kernel) (by decide +kernel), a3, r3, n, _, rfl, hpl3, fun H4 g us4 e4 hg hz4 _ => ?_⟩
    have e24 := e3.trans e4
    have hp4' := ex_t e24 hp2'
    refine ⟨_, rfl, p2, rfl, ⟨_, hp4'⟩, fun D5 hD5 => ?_⟩
    refine lc_acc (l := none) (wk_tup (K := K) (fun z => nomatch z) hp4') hD5 (fun i acc H' => All2 (PlV K H') acc ((selL zss is).take i)) .nil (fun _ _ _ _ e h => h.imp fun _ _ h => h.mono e) ?_ ?_
    · rintro j x H5 acc hj e5 hy hl' ha' hx
      obtain ⟨z, rfl, hz'⟩ := int_at hx
      have hzr := hin z (List.mem_of_getElem? hz')
      obtain ⟨k, rfl⟩ : ∃ k : Nat, z = (k : Int) := ⟨z.toNat, by omega⟩
      obtain ⟨zs, hzs⟩ : ∃ zs, zss[k]? = some zs := ⟨_, List.getElem?_eq_getElem (by omega)⟩
      obtain ⟨u, hu5, hpu⟩ := hz2.at_ hzs
      refine ⟨rfl, ?_⟩
      have hsel : (selL zss is)[j]? = some zs := by
        unfold selL
        rw [List.getElem?_map, hz']
        show some (zss.getD ((k : Int)).toNat []) = some zs
        rw [Int.toNat_natCast, List.getD_eq_getElem?_getD, hzs]
        rfl
      refine ⟨_, rfl, _, rfl, f, us, k, u, rfl, rfl, SqL.of ((e24.trans e5.ex) _ _ hf2), atI_nat hu5, LcP.push hD5 e5 hy hl' (by rw [List.length_map] at hj; omega) ?_⟩
      rw [List.take_add_one, hsel]
      exact (ha'.imp fun _ _ h => plv_upd h hy).app (.cons (plv_upd (hpu.mono (e24.trans e5.ex)) hy) .nil)
    rintro H5 ys5 e5 hy5 ha5
    rw [List.length_map, show is.length = (selL zss is).length by unfold selL; rw [List.length_map], List.take_length] at ha5
    have sh := eqv_same (rfl : selL zss is = selL zss is)
    refine ⟨.list ((selL zss is).map tupD), .list ((selL zss is).map tupD), .lst (SqL.of (e5.ex _ _ hg)) (dpAll_pls (hz4.imp fun _ _ h => h.mono e5.ex)), .lst (SqL.of hy5) (dpAll_pls ha5), sh.1, sh.2.1, _, rfl, ?_⟩
    rw [sh.2.2]
    refine iteF ?_
    have m05 := (m02.ex e24).ex e5.ex
    have hpl5 := hpl2.mono (e24.trans e5.ex)
    have hf5 := (e24.trans e5.ex) _ _ hf2
    have hz5 := hz2.imp fun _ _ h => h.mono (e24.trans e5.ex)
    clear hpl2 hf2 hz2 hob hob3 hpl3 hr3 e3 e4 hg hz4 hD5 hy5 ha5 e24 hp4' e5 sh
    -- each place
    refine ⟨_, rfl, f, us, rfl, .inl (SqL.of hf5), us.length, rfl, by omega, by omega, for_range (lo := 0) (n := us.length) (fun i σ H' => ∃ c d, σ = [some (.ref l), some (.int n), some (.ref f), some (.ref a), some (.ref p2), c, d, none, none] ∧ Ex H5 H') ⟨_, _, rfl, Ex.refl _⟩ ?_ ?_⟩
    · rintro i σ H6 hi ⟨c, d, rfl, e6⟩
      have ei : (0 + (i : Int)) = (i : Int) := by omega
      rw [ei]
      obtain ⟨zs, hzs⟩ : ∃ zs, zss[i]? = some zs := ⟨_, List.getElem?_eq_getElem (by omega)⟩
      obtain ⟨u, hu6, pz, rfl, hpz⟩ := hz5.at_ hzs
      have hpz6 := ex_t e6 hpz
      have hf6 := e6 _ _ hf5
      have lz : zs.length ≤ 5 := by have := (hok.2.1 zs (List.mem_of_getElem? hzs)).1; have := hpl.n4; omega
      refine ⟨_, rfl, _, rfl, f, us, i, .ref pz, rfl, rfl, SqL.of hf6, atI_nat hu6, pz, rfl, ⟨_, hpz6⟩, fun D7 hD7 => ?_⟩
      refine lc_acc (l := none) (wk_tup (K := K) (fun z => nomatch z) hpz6) hD7 (fun k acc _ => acc = ((neg zs).take k).map V.int) rfl (fun _ _ _ _ _ h => h) ?_ ?_
      · rintro k x H7 acc hk e7 hy hl' rfl hx
        obtain ⟨z, rfl, hz'⟩ := int_at hx
        refine ⟨rfl, ?_⟩
        refine ⟨_, rfl, _, _, rfl, rfl, LcP.push hD7 e7 hy hl' (by rw [List.length_map] at hk; omega) ?_⟩
        unfold neg
        rw [List.take_add_one, List.getElem?_map, hz', List.map_append]
        congr 1
        show [V.int (0 - z)] = [V.int (-z)]
        rw [show (0 - z) = -z by omega]
      rintro H7 acc e7 hy7 rfl
      rw [List.length_map, ← neg_len, List.take_length] at hy7
      refine ⟨D7, _, rfl, .inl ⟨SqL.of hy7, fun p8 hp8 => ?_⟩⟩
      have e8 := Ex.new (o := .tup ((neg zs).map V.int)) hp8
      have e68 := e7.ex.trans e8
      have hturn : PlV K (upd H7 p8 (.tup ((neg zs).map V.int))) (.ref p8) (neg zs) := ⟨p8, rfl, SqT.of upd_same⟩
      generalize upd H7 p8 (.tup ((neg zs).map V.int)) = H8 at e8 e68 hturn ⊢
      have e58 := e6.trans e68
      have hpl8 := hpl5.mono e58
      have hf8 := e58 _ _ hf5
      have hz8 := hz5.imp fun _ _ h => h.mono e58
      obtain ⟨dx8, hob8⟩ := hpl8.ob
      have hin8 : 0 ≤ (i : Int) ∧ (i : Int) < zss.length := by omega
      -- without
      refine ⟨_, rfl, a, dx8, _, rfl, hob8, pflds_no _ _ (by decide +kernel) (by decide +kernel), _, rfl, a, r, n, zss, i, rfl, hpl8, fun h => absurd hin8 h, fun _ H9 a9 r9 e9 _ hpl9 => ?_⟩
      rw [Int.toNat_natCast] at hpl9
      obtain ⟨dx9, hob9⟩ := hpl9.ob
      refine ⟨a9, dx9, _, rfl, hob9, pflds_no _ _ (by decide +kernel) (by decide +kernel), a9, r9, n, _, rfl, hpl9, fun H10 g10 us10 e10 hg10 hz10 _ => ?_⟩
      have e810 := e9.trans e10
      refine ⟨_, rfl, _, rfl, _, rfl, f, us, rfl, SqL.of (e810 _ _ hf8), fun p11 hp11 => ?_⟩
      have e11 := Ex.new (o := .lst (cutV us none (some (i : Int)))) hp11
      refine ⟨_, rfl, _, rfl, _, _, rfl, rfl, _, rfl, ?_⟩
      dsimp only [tNoPart]
      refine ⟨f, us, rfl, SqL.of ((e810.trans e11) _ _ hf8), fun p12 hp12 => ?_⟩
      have e12 := Ex.new (o := .lst (cutV us (some ((i : Int) + 1)) none)) hp12
      have l1 : (cutV us none (some (i : Int))).length ≤ 12 := by rw [cutV_to, List.length_take]; omega
      have l2 : (cutV us (some ((i : Int) + 1)) none).length ≤ 12 := by rw [show ((i : Int) + 1) = ((i + 1 : Nat) : Int) from rfl, cutV_from, List.length_drop]; omega
      refine ⟨p11, p12, _, _, rfl, rfl, e12 _ _ upd_same, upd_same, by omega, fun p13 hp13 => ?_⟩
      have e13 := Ex.new (o := .lst (cutV us none (some (i : Int)) ++ cutV us (some ((i : Int) + 1)) none)) hp13
      have e813 := e810.trans ((e11.trans e12).trans e13)
      have hz813 := hz8.imp fun _ _ h => h.mono e813
      have he1 : zss.eraseIdx i = zss.take i ++ zss.drop (i + 1) := List.eraseIdx_eq_take_drop_succ _ _
      have sh1 := eqv_same he1
      refine ⟨_, _, .lst (SqL.of (((e11.trans e12).trans e13) _ _ hg10)) (dpAll_pls (hz10.imp fun _ _ h => h.mono ((e11.trans e12).trans e13))), .lst (SqL.of upd_same) (dpAll_pls ((take_list hz813 i).app (drop_list hz813 (i + 1)))), sh1.1, sh1.2.1, _, rfl, ?_⟩
      rw [sh1.2.2]
      refine iteF ?_
      generalize L2.upd _ p13 _ = H13 at e813 hz813 ⊢
      clear hg10 hz10 hpl9 hob9 e810 e9 e10 sh1
      have hpl13 := hpl8.mono e813
      have hf13 := e813 _ _ hf8
      have ht13 := hturn.mono e813
      obtain ⟨dx13, hob13⟩ := hpl13.ob
      -- turned
      refine ⟨_, rfl, a, dx13, _, rfl, hob13, pflds_no _ _ (by decide +kernel) (by decide +kernel), _, rfl, a, r, n, zss, i, rfl, hpl13, fun h => absurd hin8 h, fun k zs' hk hzs' H14 a14 r14 e14 _ hpl14 => ?_⟩
      have hki : k = i := by omega
      subst hki
      rw [hzs] at hzs'
      cases hzs'
      obtain ⟨dx14, hob14⟩ := hpl14.ob
      refine ⟨a14, dx14, _, rfl, hob14, pflds_no _ _ (by decide +kernel) (by decide +kernel), a14, r14, n, _, rfl, hpl14, fun H15 g15 us15 e15 hg15 hz15 _ => ?_⟩
      have e1315 := e14.trans e15
      refine ⟨_, rfl, _, rfl, _, rfl, f, us, rfl, SqL.of (e1315 _ _ hf13), fun q16 hq16 => ?_⟩
      have g16 := Ex.new (o := .lst (cutV us none (some (k : Int)))) hq16
      refine ⟨_, rfl, by show (1 : Nat) ≤ sizeLine; omega, fun q17 hq17 => ?_⟩
      have g17 := Ex.new (o := .lst [.ref p8]) hq17
      refine ⟨q16, q17, _, _, rfl, rfl, g17 _ _ upd_same, upd_same, by show _ + 1 ≤ sizeLine; omega, fun q18 hq18 => ?_⟩
      have g18 := Ex.new (o := .lst (cutV us none (some (k : Int)) ++ [.ref p8])) hq18
      have g1518 := (g16.trans g17).trans g18
      refine ⟨_, rfl, _, rfl, _, _, rfl, rfl, _, rfl, ?_⟩
      dsimp only [tNoPart]
      refine ⟨f, us, rfl, SqL.of ((e1315.trans g1518) _ _ hf13), fun q19 hq19 => ?_⟩
      have g19 := Ex.new (o := .lst (cutV us (some ((k : Int) + 1)) none)) hq19
      refine ⟨q18, q19, _, _, rfl, rfl, g19 _ _ upd_same, upd_same, by rw [List.length_append]; show _ + 1 + _ ≤ sizeLine; omega, fun q20 hq20 => ?_⟩
      have g20 := Ex.new (o := .lst ((cutV us none (some (k : Int)) ++ [.ref p8]) ++ cutV us (some ((k : Int) + 1)) none)) hq20
      have g1520 := (g1518.trans g19).trans g20
      have e1320 := e1315.trans g1520
      have hz1320 := hz813.imp fun _ _ h => h.mono e1320
      have he2 : zss.set k (neg zs) = (zss.take k ++ [neg zs]) ++ zss.drop (k + 1) := by
        rw [List.set_eq_take_append_cons_drop, if_pos (by omega), List.append_assoc]
        rfl
      have sh2 := eqv_same he2
      refine ⟨_, _, .lst (SqL.of (g1520 _ _ hg15)) (dpAll_pls (hz15.imp fun _ _ h => h.mono g1520)), .lst (SqL.of upd_same) (dpAll_pls (((take_list hz1320 k).app (.cons (ht13.mono e1320) .nil)).app (drop_list hz1320 (k + 1)))), sh2.1, sh2.2.1, _, rfl, ?_⟩
      rw [sh2.2.2]
      refine iteF ?_
      generalize L2.upd _ q20 _ = H20 at e1320 ⊢
      have hpl20 := hpl13.mono e1320
      obtain ⟨dx20, hob20⟩ := hpl20.ob
      -- its letters
      refine ⟨_, rfl, a, dx20, _, rfl, hob20, pflds_no _ _ (by decide +kernel) (by decide +kernel), _, rfl, a, r, n, zss, k, rfl, hpl20, fun h => absurd hin8 h, fun k2 zs2 _ _ H21 a21 r21 e21 _ hpl21 => ?_⟩
      obtain ⟨dx21, hob21⟩ := hpl21.ob
      refine ⟨a21, _, dx21, _, _, rfl, hob21, T.cl_Planes, T.na_Planes_n, pflds_n _ _, _, rfl, rfl, _, rfl, ?_⟩
      rw [decide_eq_true rfl]
      exact iteF ⟨_, _, rfl, e58.trans (e813.trans (e1320.trans e21))⟩
    · rintro σ H6 ⟨c, d, rfl, e6⟩
      have f6 := e6 _ _ hf5
      have neM : (!decide (V.str tM = V.str (Str.ofString "!1"))) = false := by
        rw [decide_eq_true (show V.str tM = V.str (Str.ofString "!1") from rfl)]
        rfl
      have m06 := m05.ex e6
      have hpl6 := hpl5.mono e6
      clear hpl5 hf5 hz5 hob hd hf hz hpl
      change Ends.nx _ _ _
      dsimp only
      refine ⟨1, rfl, _, rfl, f, us, rfl, .inl (SqL.of f6), _, rfl, f, us, rfl, .inl (SqL.of f6), _, _, rfl, rfl, by show (3 : Nat) ≤ sizeLine; omega, fun p7 hp7 => ?_⟩
      have e7 := Ex.new (o := .lst (([-1, (us.length : Int), (us.length : Int) + 9] : List Int).map V.int)) hp7
      have hp7' : SqL K (upd H6 p7 (.lst (([-1, (us.length : Int), (us.length : Int) + 9] : List Int).map V.int))) p7 (([-1, (us.length : Int), (us.length : Int) + 9] : List Int).map V.int) := SqL.of upd_same
      have m07 := m06.ex e7
      have hpl7 := hpl6.mono e7
      refine ⟨p7, rfl, ⟨_, hp7'⟩, for_list (K := K) (a := p7) (xs := ([-1, (us.length : Int), (us.length : Int) + 9] : List Int).map V.int) (fun i σ H' => ∃ c, σ = [some (.ref l), some (.int n), some (.ref f), some (.ref a), some (.ref p2), c, d, none, none] ∧ Ex (upd H6 p7 (.lst (([-1, (us.length : Int), (us.length : Int) + 9] : List Int).map V.int))) H') ⟨c, rfl, Ex.refl _⟩ (fun i σ H' _ ⟨_, _, e⟩ => ex_l e hp7') ?_ ?_⟩
      · rintro i x σ H8 hi ⟨c, rfl, e8⟩
        obtain ⟨z, rfl, hz⟩ := int_at hi
        have hz2 : ¬ (0 ≤ z ∧ z < zss.length) := by
          have := List.mem_of_getElem? hz
          simp only [List.mem_cons, List.not_mem_nil, or_false] at this
          omega
        have p8 := hpl7.mono e8
        refine ⟨_, rfl, _, rfl, 0, a, r, n, zss, .int z, rfl, p8, by decide, by decide, fun _ => ⟨z, rfl, hz2⟩, fun h => absurd h (by decide), fun H9 e9 => ⟨rfl, _, rfl, ?_⟩⟩
        rw [neM]
        refine iteF ?_
        refine ⟨_, rfl, _, rfl, 1, a, r, n, zss, .int z, rfl, p8.mono e9, by decide, by decide, fun _ => ⟨z, rfl, hz2⟩, fun h => absurd h (by decide), fun H10 e10 => ⟨rfl, _, rfl, ?_⟩⟩
        rw [neM]
        refine iteF ?_
        refine ⟨_, rfl, _, rfl, by show (1 : Nat) ≤ sizeLine; omega, fun p11 hp11 => ?_⟩
        obtain ⟨e11, h11⟩ := pl_of (K := K) [z] hp11
        refine ⟨2, a, r, n, zss, .ref p11, rfl, (p8.mono (e9.trans e10)).mono e11, by decide, by decide, fun h => absurd h (by decide), fun _ => ⟨[z], h11, Nat.le_of_lt (by show (1 : Nat) < 1000; omega), fun h => hz2 (h.1 z (List.mem_singleton.mpr rfl))⟩, fun H12 e12 => ⟨rfl, _, rfl, ?_⟩⟩
        rw [neM]
        exact iteF ⟨_, rfl, e8.trans ((e9.trans e10).trans (e11.trans e12))⟩
      · rintro σ H8 ⟨c, rfl, e8⟩
        have f8 := (e7.trans e8) _ _ f6
        have m08 := m07.ex e8
        have p8 := hpl7.mono e8
        change Ends.nx _ _ _
        dsimp only
        refine ⟨_, rfl, f, us, rfl, .inl (SqL.of f8), _, _, rfl, rfl, _, rfl, ite2 (fun _ => ?_) (fun _ => q _ m08)⟩
        refine ⟨by show (2 : Nat) ≤ sizeLine; omega, fun t1 ht1 => ?_⟩
        obtain ⟨g1, h1⟩ := pl_of (K := K) [1, 0] ht1
        refine ⟨by show (2 : Nat) ≤ sizeLine; omega, fun t2 ht2 => ?_⟩
        obtain ⟨g2, h2⟩ := pl_of (K := K) [0, 0] ht2
        refine ⟨by show (2 : Nat) ≤ sizeLine; omega, fun t3 ht3 => ?_⟩
        obtain ⟨g3, h3⟩ := pl_of (K := K) [1, 1] ht3
        refine ⟨by show (3 : Nat) ≤ sizeLine; omega, fun t4 ht4 => ?_⟩
        have g4 := Ex.new (o := .lst [.ref t1, .ref t2, .ref t3]) ht4
        have g14 := (g1.trans g2).trans (g3.trans g4)
        have all3 := (All2.cons (h1.mono ((g2.trans g3).trans g4)) (.cons (h2.mono (g3.trans g4)) (.cons (h3.mono g4) .nil)))
        have p9 := p8.mono g14
        have m09 := m08.ex g14
        refine ⟨t4, rfl, ⟨_, SqL.of upd_same⟩, fun D hD => ?_⟩
        refine lc_acc (l := none) (wk_list (K := K) (fun z => nomatch z) (SqL.of upd_same)) hD (fun i acc _ => acc = List.replicate i (V.str tM)) rfl (fun _ _ _ _ _ h => h) ?_ ?_
        · rintro i x H10 acc hi e10 hy hl' rfl hx
          obtain ⟨is, his⟩ : ∃ is, ([[1, 0], [0, 0], [1, 1]] : List (List Int))[i]? = some is := ⟨_, List.getElem?_eq_getElem (by rw [← all3.1]; exact hi)⟩
          have hpi := all3.2 i x is hx his
          have hi3 : i < 3 := hi
          refine ⟨rfl, ?_⟩
          have hb : ascB is = false ∧ is.length ≤ 1000 := by
            have := List.mem_of_getElem? his
            simp only [List.mem_cons, List.not_mem_nil, or_false] at this
            rcases this with h | h | h <;> rw [h] <;> decide
          refine ⟨_, rfl, _, rfl, 2, a, r, n, zss, x, rfl, p9.mono e10.ex, by decide, by decide, fun h => absurd h (by decide), fun _ => ⟨is, hpi.mono e10.ex, hb.2, fun h => ?_⟩, fun H11 e11 => ?_⟩
          · rw [hb.1] at h
            exact Bool.noConfusion h.2
          · refine LcP.push hD (e10.trans (Exo.of e11)) (e11 _ _ hy) hl' (by omega) ?_
            rw [List.replicate_succ']
        rintro H10 acc e10 hy rfl
        refine ⟨by show (1 : Nat) ≤ sizeLine; omega, fun t5 ht5 => ?_⟩
        refine ⟨t5, _, [.str tM], rfl, rfl, upd_same, by decide, by decide, by decide, fun t6 ht6 => ?_⟩
        have sh : PyData.eqv (.list (List.replicate 3 (PyData.str tM))) (.list (List.replicate 3 (PyData.str tM))) = true := by decide +kernel
        have m10 := m09.ex e10.ex
        refine ⟨.list (List.replicate 3 (PyData.str tM)), .list (List.replicate 3 (PyData.str tM)), .lst (SqL.of (((Ex.new ht5).trans (Ex.new ht6)) _ _ hy)) (.cons (.str _) (.cons (.str _) (.cons (.str _) .nil))), .lst (SqL.of upd_same) (.cons (.str _) (.cons (.str _) (.cons (.str _) .nil))), by decide +kernel, by decide +kernel, ?_⟩
        rw [sh]
        exact q _ ((m10.ex (Ex.new ht5)).ex (Ex.new ht6))
/-! ### long lists and lists that are refused -/
theorem toldN {K : PySem.W.Frag} {C : Addr} {Q : VK} {E : XK} {H : Hp} {n : Nat} {r : Addr} {us : List V} {zss : List (List Int)} (hs : SqL K H r us) (hz : All2 (PlV K H) us zss) (hl : zss.length ≤ 1000) (h2 : ∀ zs ∈ zss, zs.length ≤ 1000) (n1 : 1 ≤ n) (n4 : n ≤ 4) (bad : ¬ PlanesOk n zss) (q : ∀ H', Ex H H' → Q (.str tN) H') : sp__law_told K C [.int 0, .int n, .ref r] H Q E :=
  ⟨0, n, r, us, zss, rfl, hs, hz, hl, h2, by decide, by decide, fun h => absurd (show 1 ≤ (n : Int) ∧ (n : Int) ≤ 4 by omega) h, fun _ => rfl, fun h => absurd h (by decide), fun m hm _ _ => by
    have : n = m := Int.ofNat.inj hm
    subst this
    exact ⟨fun h => absurd h bad, fun _ => q⟩⟩
theorem toldP {K : PySem.W.Frag} {C : Addr} {Q : VK} {E : XK} {H : Hp} {n : Nat} {r : Addr} {us : List V} {zss : List (List Int)} (hs : SqL K H r us) (hz : All2 (PlV K H) us zss) (n1 : 1 ≤ n) (n4 : n ≤ 4) (ok : PlanesOk n zss) (q : ∀ H' l us', Ex H H' → H' l = some (.lst us') → All2 (PlV K H') us' zss → H l = none → Q (.ref l) H') : sp__law_told K C [.int 0, .int n, .ref r] H Q E :=
  ⟨0, n, r, us, zss, rfl, hs, hz, by have := ok.1; omega, fun zs h => by have := (ok.2.1 zs h).1; omega, by decide, by decide, fun h => absurd (show 1 ≤ (n : Int) ∧ (n : Int) ≤ 4 by omega) h, fun _ => rfl, fun h => absurd h (by decide), fun m hm _ _ => by
    have : n = m := Int.ofNat.inj hm
    subst this
    exact ⟨fun _ => q, fun h => absurd ok h⟩⟩
theorem toldB {K : PySem.W.Frag} {C : Addr} {Q : VK} {E : XK} {H : Hp} {way i : Int} {r : Addr} {us : List V} {zss : List (List Int)} (hs : SqL K H r us) (hz : All2 (PlV K H) us zss) (hl : zss.length ≤ 1000) (h2 : ∀ zs ∈ zss, zs.length ≤ 1000) (w0 : 0 ≤ way) (w2 : way ≤ 2) (hne : zss ≠ []) (bad : ¬ (1 ≤ i ∧ i ≤ 4)) (q : ∀ H', Ex H H' → Q (.str tB) H') : sp__law_told K C [.int way, .int i, .ref r] H Q E :=
  ⟨way, i, r, us, zss, rfl, hs, hz, hl, h2, w0, w2, fun _ => q, fun h => absurd h bad, fun _ => hne, fun m hm h1 h4 => absurd (show 1 ≤ i ∧ i ≤ 4 by omega) bad⟩
def lgk (k n : Nat) (c : Int) : List (List Int) := (List.range k).map (lg n c)
theorem lgk_len (k n : Nat) (c : Int) : (lgk k n c).length = k := by
  unfold lgk
  rw [List.length_map, List.length_range]
theorem lgk_take (n : Nat) (c : Int) : (lgk 13 n c).take 12 = lgs n c := by
  unfold lgk lgs
  rw [← List.map_take, List.take_range]
  rfl
theorem lg_len {n i : Nat} {c : Int} (n1 : 1 ≤ n) : (lg n c i).length = n + 1 := by
  unfold lg
  rw [List.length_append, List.length_append, List.length_replicate]
  show 1 + (n - 1) + 1 = n + 1
  omega
theorem neNt : (!decide (V.str tN = V.str (Str.ofString "![0, 1]"))) = false := by
  rw [decide_eq_true (show V.str tN = V.str (Str.ofString "![0, 1]") from rfl)]
  rfl
def sp__law_lists (K : PySem.W.Frag) : Sp := fun vs H Q _ => ∃ (f : Addr) (n : Nat) (us : List V) (zss : List (List Int)), vs = [.int n, .ref f] ∧ 1 ≤ n ∧ n ≤ 4 ∧ H f = some (.lst us) ∧ All2 (PlV K H) us zss ∧ PlanesOk n zss ∧ zss.length ≤ 11 ∧ ∀ H', Ex H H' → Q (.bl true) H'
theorem ok__law_lists (T : Txt K w mg ad fd) : CalG P w K mg base CX0 7 "_law_lists" (ad 49) (fd 49) ["n", "rows"] (sp__law_lists K) := by
  refine ⟨T.f__law_lists.okGn sc__law_lists (fun vs H Q E h => ?_) (fun cdv A outer s H vs Q E gd hr h => ?_), T.g__law_lists, T.f__law_lists.kp, T.f__law_lists.binds (ps := ["n", "rows"]) fun _ _ _ _ _ _ us hl => match us, hl with | [_, _], _ => rfl⟩
  · obtain ⟨f, n, us, zss, rfl, _⟩ := h
    rfl
  · obtain ⟨f, n, us, zss, rfl, n1, n4, hf, hz, hok, hm, q⟩ := h
    have hu := hr.units
    have sz : sizeLine = 16777216 := sizeLine_eq
    have lus : us.length = zss.length := hz.1
    refine ⟨_, (pss_cons (ps_if (pt_truth (pv 1) (fun _ => rfl)) (pss_cons (ps_set (i := 2) sc__law_lists.nd rfl (by first | exact Or.inl rfl | exact Or.inr rfl) (pe_callTy (T := "tuple") (call_tupleK (K := K)) (by rfl) T.m_tuple (by decide +kernel) (pa_cons (pe_lc (own := [("a", 3)]) rfl sc__law_lists.nd (pi_tup (pe_ix (ix_listK (K := K)) (pv 1) pe_int (fun _ _ => rfl))) (blkOk_by (N := ["n", "rows", "turned", "a", "long", "at", "other", "way"]) (sc := defScope s__law_lists) (by decide +kernel)) (fun _ _ _ _ _ => (pg_name (i := 3) sc__law_lists.nd rfl (by first | exact Or.inl rfl | exact Or.inr rfl))) (fun _ _ _ _ _ => pts_nil) (fun _ _ _ _ _ => (pe_op op_sub pe_int (pv 3)))) pa_nil)))
    (pss_one (ps_if (L2.PW.pt (pw_or (pt_cmpR op_ne (pe_calG (ok__law_told T (P := P) (w := w) (base := base)) gd (hr.mono (by decide)) (pa_cons pe_int (pa_cons (pv 0) (pa_cons (pe_op op_cat (pv 1) (pe_lst (pa_cons (pv 2) pa_nil))) pa_nil)))) pe_str (nomark _)) (pw_or1 (pt_cmpR op_ne (pe_calG (ok__law_told T (P := P) (w := w) (base := base)) gd (hr.mono (by decide)) (pa_cons pe_int (pa_cons (pv 0) (pa_cons (pe_op op_cat (pe_lst (pa_cons (pe_ix (ix_listK (K := K)) (pv 1) (pe_un un_neg pe_int) (fun _ _ => rfl)) pa_nil)) (pv 1)) pa_nil)))) pe_str (nomark _))))) (pss_one (ps_ret pe_bl)) pss_nil))) pss_nil)
    (pss_cons (ps_setLc (i := 4) (own := [("at", 5)]) rfl sc__law_lists.nd rfl rfl (sw_true rfl rfl rfl (by decide +kernel)) (pi_range1 rfl T.m_range (pa_cons pe_int pa_nil)) (blkOk_by (N := ["n", "rows", "turned", "a", "long", "at", "other", "way"]) (sc := defScope s__law_lists) (by decide +kernel)) (fun _ _ _ _ _ => (pg_name (i := 5) sc__law_lists.nd rfl (by first | exact Or.inl rfl | exact Or.inr rfl))) (fun _ _ _ _ _ => pts_nil) (fun _ _ _ _ _ => (pe_op (op_catK (K := K)) (pe_op (op_catK (K := K)) (pe_tup (pa_cons pe_int pa_nil)) (pe_op (op_repA (K := K)) (pe_tup (pa_cons pe_int pa_nil)) (pe_op op_sub (pv 0) pe_int))) (pe_tup (pa_cons (pe_op op_sub (pv 5) pe_int) pa_nil)))))
    (pss_cons (ps_if (L2.PW.pt (pw_or (pt_cmpR (op_neD hu) (pe_calG (ok__law_told T (P := P) (w := w) (base := base)) gd (hr.mono (by decide)) (pa_cons pe_int (pa_cons (pv 0) (pa_cons (pe_slice sl_list (pv 4) po_none (po_some pe_int)) pa_nil)))) (pe_slice sl_list (pv 4) po_none (po_some pe_int)) (nomark _)) (pw_or1 (pt_cmpR op_ne (pe_calG (ok__law_told T (P := P) (w := w) (base := base)) gd (hr.mono (by decide)) (pa_cons pe_int (pa_cons (pv 0) (pa_cons (pv 4) pa_nil)))) pe_str (nomark _))))) (pss_one (ps_ret pe_bl)) pss_nil)
    (pss_cons (ps_for (by first | exact PassesOwn.never | exact passes_of rfl) rfl (pi_list (pe_lst (pa_cons pe_int (pa_cons pe_int (pa_cons (pe_un un_neg pe_int) (pa_cons pe_int pa_nil)))))) (pg_name (i := 6) sc__law_lists.nd rfl (by first | exact Or.inl rfl | exact Or.inr rfl))
      (pss_one (ps_if (pt_cmpR (op_neD hu) (pe_lc (own := [("way", 7)]) rfl sc__law_lists.nd (pi_range1 rfl T.m_range (pa_cons pe_int pa_nil)) (blkOk_by (N := ["n", "rows", "turned", "a", "long", "at", "other", "way"]) (sc := defScope s__law_lists) (by decide +kernel)) (fun _ _ _ _ _ => (pg_name (i := 7) sc__law_lists.nd rfl (by first | exact Or.inl rfl | exact Or.inr rfl))) (fun _ _ _ _ _ => pts_nil) (fun _ _ _ _ _ => (pe_calG (ok__law_told T (P := P) (w := w) (base := base)) gd (hr.mono (by decide)) (pa_cons (pv 7) (pa_cons (pv 6) (pa_cons (pe_lst (pa_cons (pe_tup (pa_cons pe_int (pa_cons pe_int pa_nil))) pa_nil)) pa_nil)))))) (pe_op op_rep (pe_lst (pa_cons pe_str pa_nil)) pe_int) (nomark _)) (pss_one (ps_ret pe_bl)) pss_nil)))
    (pss_one (ps_ret (pe_cmpR op_isN (pe_cal (ok_check_letters T (P := P) (w := w) (base := base)) (hr.mono (by decide)) passLN (pa_cons (pv 0) pa_nil)) pe_non (nomark _)))))))), ?_⟩
    have lz : ∀ zs ∈ zss, zs.length ≤ 5 := fun zs h => by have := (hok.2.1 zs h).1; omega
    refine scut (fun σ' H' => ∃ t, σ' = [some (.int n), some (.ref f), t, none, none, none, none, none] ∧ Ex H H') (fun n' q' => ?_) ?_
    · cases hc : us with
      | nil =>
        subst hc
        refine ⟨_, rfl, false, .inl ⟨[], SqL.of hf, rfl⟩, ?_⟩
        exact iteF (q' _ _ ⟨none, rfl, Ex.refl _⟩)
      | cons u0 us0 =>
        have hne : us ≠ [] := by rw [hc]; exact List.cons_ne_nil _ _
        rw [hc] at hf
        rw [← hc] at hf
        have hl0 : 0 < us.length := List.length_pos_iff.mpr hne
        refine ⟨_, rfl, true, .inl ⟨us, SqL.of hf, by rw [hc]; rfl⟩, ?_⟩
        refine iteT ?_
        obtain ⟨zs, hzs⟩ : ∃ zs, zss[0]? = some zs := ⟨_, List.getElem?_eq_getElem (by omega)⟩
        obtain ⟨u, hu0, pz, rfl, hpz⟩ := hz.at_ hzs
        have lzs := lz zs (List.mem_of_getElem? hzs)
        refine ⟨_, rfl, f, us, 0, .ref pz, rfl, rfl, SqL.of hf, atI_nat (j := 0) hu0, pz, rfl, ⟨_, hpz⟩, fun D7 hD7 => ?_⟩
        refine lc_acc (l := none) (wk_tup (K := K) (fun z => nomatch z) hpz) hD7 (fun k acc _ => acc = ((neg zs).take k).map V.int) rfl (fun _ _ _ _ _ h => h) ?_ ?_
        · rintro k x H7 acc hk e7 hy hl' rfl hx
          obtain ⟨z, rfl, hz'⟩ := int_at hx
          refine ⟨rfl, ?_⟩
          refine ⟨_, rfl, _, _, rfl, rfl, LcP.push hD7 e7 hy hl' (by rw [List.length_map] at hk; omega) ?_⟩
          unfold neg
          rw [List.take_add_one, List.getElem?_map, hz', List.map_append]
          congr 1
          show [V.int (0 - z)] = [V.int (-z)]
          rw [show (0 - z) = -z by omega]
        rintro H7 acc e7 hy7 rfl
        rw [List.length_map, ← neg_len, List.take_length] at hy7
        refine ⟨D7, _, rfl, .inl ⟨SqL.of hy7, fun p8 hp8 => ?_⟩⟩
        have e8 := Ex.new (o := .tup ((neg zs).map V.int)) hp8
        have e08 := e7.ex.trans e8
        have hturn : PlV K (upd H7 p8 (.tup ((neg zs).map V.int))) (.ref p8) (neg zs) := ⟨p8, rfl, SqT.of upd_same⟩
        generalize upd H7 p8 (.tup ((neg zs).map V.int)) = H8 at e8 e08 hturn ⊢
        have hf8 := e08 _ _ hf
        have hz8 := hz.imp fun _ _ h => h.mono e08
        -- with what is turned
        refine ⟨_, rfl, _, rfl, _, rfl, by show (1 : Nat) ≤ sizeLine; omega, fun p9 hp9 => ?_⟩
        have e9 := Ex.new (o := .lst [.ref p8]) hp9
        refine ⟨f, p9, us, _, rfl, rfl, e9 _ _ hf8, upd_same, by show _ + 1 ≤ sizeLine; omega, fun p10 hp10 => ?_⟩
        have e10 := Ex.new (o := .lst (us ++ [.ref p8])) hp10
        have e810 := e9.trans e10
        dsimp only [tNil]
        refine toldN (SqL.of upd_same) ((hz8.imp fun _ _ h => h.mono e810).app (.cons (hturn.mono e810) .nil)) (by rw [List.length_append]; show _ + 1 ≤ 1000; omega) (fun y hy => ?_) n1 n4 (fun h => ?_) fun H11 e11 => ?_
        · rcases List.mem_append.mp hy with h | h
          · have := lz y h
            omega
          · rw [List.mem_singleton.mp h, neg_len]
            omega
        · exact (h.2.2 0 zss.length zs (neg zs) (by omega) (by rw [List.getElem?_append_left (by omega)]; exact hzs) (by rw [List.getElem?_append_right (Nat.le_refl _), Nat.sub_self]; rfl)).2 rfl
        refine ⟨rfl, _, rfl, ?_⟩
        rw [neNt]
        refine iteF ?_
        have e811 := e810.trans e11
        have e011 := e08.trans e811
        have hf11 := e011 _ _ hf
        have hz11 := hz.imp fun _ _ h => h.mono e011
        -- with the last one before
        obtain ⟨zl, hzl⟩ : ∃ zl, zss[zss.length - 1]? = some zl := ⟨_, List.getElem?_eq_getElem (by omega)⟩
        obtain ⟨ul, hul, hpl⟩ := hz11.at_ hzl
        have lzl := lz zl (List.mem_of_getElem? hzl)
        refine ⟨_, rfl, _, rfl, 1, rfl, f, us, -1, ul, rfl, rfl, SqL.of hf11, ?_, ?_⟩
        · rw [← lus] at hul
          unfold atI ixN
          rw [if_neg (by omega), if_pos (by omega)]
          have : (-1 + (us.length : Int)).toNat = us.length - 1 := by omega
          rw [this]
          exact hul
        refine ⟨by show (1 : Nat) ≤ sizeLine; omega, fun p12 hp12 => ?_⟩
        have e12 := Ex.new (o := .lst [ul]) hp12
        refine ⟨_, rfl, p12, f, _, us, rfl, rfl, upd_same, e12 _ _ hf11, by show 1 + _ ≤ sizeLine; omega, fun p13 hp13 => ?_⟩
        have e13 := Ex.new (o := .lst ([ul] ++ us)) hp13
        have e1113 := e12.trans e13
        dsimp only [tNil]
        refine toldN (zss := [zl] ++ zss) (SqL.of upd_same) ((All2.cons (hpl.mono e1113) .nil).app (hz11.imp fun _ _ h => h.mono e1113)) (by rw [List.length_append]; show 1 + _ ≤ 1000; omega) (fun y hy => ?_) n1 n4 (fun h => ?_) fun H14 e14 => ?_
        · rcases List.mem_append.mp hy with h | h
          · rw [List.mem_singleton.mp h]
            omega
          · have := lz y h
            omega
        · refine (h.2.2 0 zss.length zl zl (by omega) rfl ?_).1 rfl
          rw [List.getElem?_append_right (by show 1 ≤ _; omega)]
          exact hzl
        refine ⟨rfl, _, rfl, ?_⟩
        rw [neNt]
        refine iteF ?_
        exact q' _ _ ⟨_, rfl, e011.trans (e1113.trans e14)⟩
    rintro σ1 H1 ⟨t, rfl, e1⟩
    refine seqA ?_
    refine ⟨13, rfl, by decide, by decide, fun D hD => ?_⟩
    refine lc_acc (l := none) wk_range hD (fun i acc H' => All2 (PlV K H') acc ((lgk 13 n (-6)).take i)) .nil (fun _ _ _ _ e h => h.imp fun _ _ h => h.mono e) ?_ ?_
    · rintro i x H2 acc hi e2 hy hl' ha' rfl
      have hi : i < 13 := hi
      refine ⟨rfl, ?_⟩
      refine ⟨by show (1 : Nat) ≤ sizeLine; omega, fun t2 ht2 => ?_⟩
      obtain ⟨g2, h2⟩ := pl_of (K := K) [1] ht2
      refine ⟨by show (1 : Nat) ≤ sizeLine; omega, fun t3 ht3 => ?_⟩
      obtain ⟨g3, h3⟩ := pl_of (K := K) [0] ht3
      have en : ((n : Int) - 1) = ((n - 1 : Nat) : Int) := by omega
      refine ⟨_, rfl, _, _, rfl, rfl, ?_⟩
      refine rep0_plI en h3 (by omega) fun H4 u4 g4 h4 => ?_
      refine cat_pl (h2.mono (g3.trans g4)) h4 (by rw [List.length_replicate]; show 1 + (n - 1) ≤ 2000; omega) fun H5 u5 g5 h5 => ?_
      refine ⟨_, rfl, _, _, rfl, rfl, by show (1 : Nat) ≤ sizeLine; omega, fun t6 ht6 => ?_⟩
      obtain ⟨g6, h6⟩ := pl_of (K := K) [0 + (i : Int) - 6] ht6
      refine cat_pl (h5.mono g6) h6 (by rw [List.length_append, List.length_replicate]; show 1 + (n - 1) + 1 ≤ 2000; omega) fun H7 u7 g7 h7 => ?_
      have g27 := ((g2.trans g3).trans (g4.trans g5)).trans (g6.trans g7)
      have hy7 := g27 _ _ hy
      have hlg : (lgk 13 n (-6))[i]? = some (lg n (-6) i) := by
        unfold lgk
        rw [List.getElem?_map, List.getElem?_range hi]
        rfl
      rw [show (0 + (i : Int) - 6) = (i : Int) + -6 by omega] at h7
      refine LcP.push hD (e2.trans (Exo.of g27)) hy7 hl' (by omega) ?_
      rw [List.take_add_one, hlg]
      exact (ha'.imp fun _ _ h => plv_upd (h.mono g27) hy7).app (.cons (plv_upd h7 hy7) .nil)
    rintro H2 ys e2 hy ha2
    have e2 := e2.ex
    have ha2 : All2 (PlV K H2) ys ((lgk 13 n (-6)).take 13) := ha2
    have ha12 := ha2.take 12
    rw [List.take_take, show min 12 13 = 12 from rfl, lgk_take] at ha12
    rw [List.take_of_length_le (Nat.le_of_eq (lgk_len 13 n (-6)))] at ha2
    have okL := lgs_ok (n := n) (c := -6) n1 (by decide)
    have ly : ys.length = 13 := by rw [ha2.1, lgk_len]
    have cut12 : cutV ys none (some (12 : Int)) = ys.take 12 := cutV_to (n := 12)
    have e02 := e1.trans e2
    -- twelve, and what is told of them
    refine ⟨_, rfl, _, rfl, _, rfl, D, ys, rfl, SqL.of hy, fun p3 hp3 => ?_⟩
    rw [cut12]
    have e3 := Ex.new (o := .lst (ys.take 12)) hp3
    dsimp only [tNil]
    refine toldP (SqL.of upd_same) (ha12.imp fun _ _ h => h.mono e3) n1 n4 okL fun H4 g us4 e4 hg hz4 _ => ?_
    have hy4 := (e3.trans e4) _ _ hy
    refine ⟨_, rfl, _, rfl, D, ys, rfl, SqL.of hy4, fun p5 hp5 => ?_⟩
    rw [cut12]
    have e5 := Ex.new (o := .lst (ys.take 12)) hp5
    have e25 := (e3.trans e4).trans e5
    have sh := eqv_same (rfl : lgs n (-6) = lgs n (-6))
    refine ⟨_, _, .lst (SqL.of (e5 _ _ hg)) (dpAll_pls (hz4.imp fun _ _ h => h.mono e5)), .lst (SqL.of upd_same) (dpAll_pls (ha12.imp fun _ _ h => h.mono e25)), sh.1, sh.2.1, _, rfl, ?_⟩
    rw [sh.2.2]
    refine iteF ?_
    -- thirteen
    refine ⟨_, rfl, _, rfl, ?_⟩
    dsimp only [tNil]
    refine toldN (SqL.of (e25 _ _ hy)) (ha2.imp fun _ _ h => h.mono e25) (by rw [lgk_len]; decide) (fun y h => ?_) n1 n4 (fun h => ?_) fun H6 e6 => ?_
    · unfold lgk at h
      obtain ⟨i, _, rfl⟩ := List.mem_map.mp h
      rw [lg_len n1]
      omega
    · have := h.1
      rw [lgk_len] at this
      omega
    refine ⟨rfl, _, rfl, ?_⟩
    rw [neNt]
    refine iteF ?_
    have e06 := e02.trans (e25.trans e6)
    clear e6 e25 sh e5 hp5 hz4 hg e4 e3 hp3 ha2 ha12 hy e2 e1 hD
    change Ends.nx _ _ _
    dsimp only
    -- numbers that are none
    refine ⟨1, rfl, by show (4 : Nat) ≤ sizeLine; omega, fun p7 hp7 => ?_⟩
    have e7 := Ex.new (o := .lst (([0, 5, -1, 99] : List Int).map V.int)) hp7
    have hp7' : SqL K (upd H6 p7 (.lst (([0, 5, -1, 99] : List Int).map V.int))) p7 (([0, 5, -1, 99] : List Int).map V.int) := SqL.of upd_same
    refine ⟨p7, rfl, ⟨_, hp7'⟩, for_list (K := K) (a := p7) (xs := ([0, 5, -1, 99] : List Int).map V.int) (fun i σ H' => ∃ c, σ = [some (.int n), some (.ref f), t, none, some (.ref D), none, c, none] ∧ Ex (upd H6 p7 (.lst (([0, 5, -1, 99] : List Int).map V.int))) H') ⟨none, rfl, Ex.refl _⟩ (fun i σ H' _ ⟨_, _, e⟩ => ex_l e hp7') ?_ ?_⟩
    · rintro i x σ H8 hi ⟨c, rfl, e8⟩
      obtain ⟨z, rfl, hz⟩ := int_at hi
      have hz2 : ¬ (1 ≤ z ∧ z ≤ 4) := by
        have := List.mem_of_getElem? hz
        simp only [List.mem_cons, List.not_mem_nil, or_false] at this
        omega
      refine ⟨3, rfl, by decide, by decide, fun D9 hD9 => ?_⟩
      refine lc_acc (l := none) wk_range hD9 (fun i acc _ => acc = List.replicate i (V.str tB)) rfl (fun _ _ _ _ _ h => h) ?_ ?_
      · rintro k x H10 acc hk e10 hy hl' rfl rfl
        have hk : k < 3 := hk
        refine ⟨rfl, ?_⟩
        refine ⟨_, rfl, _, rfl, by show (2 : Nat) ≤ sizeLine; omega, fun p11 hp11 => ?_⟩
        obtain ⟨g11, h11⟩ := pl_of (K := K) [0, 0] hp11
        refine ⟨by show (1 : Nat) ≤ sizeLine; omega, fun p12 hp12 => ?_⟩
        have g12 := Ex.new (o := .lst [.ref p11]) hp12
        dsimp only [tNil]
        refine toldB (zss := [[0, 0]]) (SqL.of upd_same) (.cons (h11.mono g12) .nil) (by decide) (fun y h => by rw [List.mem_singleton.mp h]; decide) (by omega) (by omega) (List.cons_ne_nil _ _) hz2 fun H13 g13 => ?_
        have g1013 := (g11.trans g12).trans g13
        refine LcP.push hD9 (e10.trans (Exo.of g1013)) (g1013 _ _ hy) hl' (by omega) ?_
        rw [List.replicate_succ']
      rintro H10 acc e10 hy rfl
      have hy : H10 D9 = some (.lst (List.replicate 3 (V.str tB))) := hy
      refine ⟨by show (1 : Nat) ≤ sizeLine; omega, fun t5 ht5 => ?_⟩
      refine ⟨t5, _, [.str tB], rfl, rfl, upd_same, by decide, by decide, by decide, fun t6 ht6 => ?_⟩
      have sh : PyData.eqv (.list (List.replicate 3 (PyData.str tB))) (.list (List.replicate 3 (PyData.str tB))) = true := by decide +kernel
      refine ⟨.list (List.replicate 3 (PyData.str tB)), .list (List.replicate 3 (PyData.str tB)), .lst (SqL.of (((Ex.new ht5).trans (Ex.new ht6)) _ _ hy)) (.cons (.str _) (.cons (.str _) (.cons (.str _) .nil))), .lst (SqL.of upd_same) (.cons (.str _) (.cons (.str _) (.cons (.str _) .nil))), by decide +kernel, by decide +kernel, _, rfl, ?_⟩
      rw [sh]
      exact iteF ⟨_, rfl, (e8.trans e10.ex).trans ((Ex.new ht5).trans (Ex.new ht6))⟩
    · rintro σ H8 ⟨c, rfl, e8⟩
      change Ends.nx _ _ _
      dsimp only
      refine ⟨_, rfl, n, rfl, fun _ H9 e9 => ⟨rfl, ?_⟩, fun h => absurd (show 1 ≤ (n : Int) ∧ (n : Int) ≤ 4 by omega) h⟩
      exact q _ (e06.trans ((e7.trans e8).trans e9))
/-! ### texts of data -/
theorem int_len {a : Int} (ha : a.natAbs < 2 ^ 1000) : ((toString a : String) : Str).length ≤ 1001 ∧ a.natAbs.log2 < 1920 := by
  have h : a.natAbs.log2 < 1000 := by
    by_cases h0 : a.natAbs = 0
    · rw [h0]
      decide
    · exact (Nat.log2_lt h0).mpr ha
  refine ⟨?_, by omega⟩
  have := PySem.int_text_length_le (k := 1000) (by decide) h
  rw [PySem.ofString_length]
  exact this
theorem show_int {a : Int} (ha : a.natAbs < 2 ^ 1000) : Show1 (.int a) := by
  obtain ⟨la, sa⟩ := int_len ha
  refine ⟨by simp [PyData.showable, sa], rfl, Nat.le_trans la (by decide), by simp [PyData.depth]⟩
theorem show_bool : ∀ b : Bool, Show1 (.bool b) := by
  intro b
  cases b <;> exact ⟨rfl, rfl, by decide +kernel, by decide⟩
theorem show_tN : Show1 (.str tN) := ⟨rfl, rfl, by decide +kernel, by decide⟩
theorem showableAll_ints : ∀ zs : List Int, (∀ z ∈ zs, z.natAbs < 2 ^ 1000) → PyData.showableAll (zs.map PyData.int) = true
  | [], _ => by simp [PyData.showableAll]
  | z :: zs, h => by
    have h1 := (int_len (h z (by simp))).2
    have h2 := showableAll_ints zs fun y hy => h y (List.mem_cons_of_mem _ hy)
    simp [PyData.showableAll, PyData.showable, h1, h2]
theorem hasDict_ints : ∀ zs : List Int, PyData.hasDictAll (zs.map PyData.int) = false
  | [] => by simp [PyData.hasDictAll]
  | z :: zs => by simp [PyData.hasDictAll, PyData.hasDict, hasDict_ints zs]
theorem piled_ints : ∀ zs : List Int, (∀ z ∈ zs, z.natAbs < 2 ^ 1000) → piled (PyData.shownAll (zs.map PyData.int)) ≤ zs.length * 1003
  | [], _ => by
    have : piled (PyData.shownAll (([] : List Int).map PyData.int)) = 0 := by simp [PyData.shownAll, piled]
    omega
  | z :: zs, h => by
    have h1 := (int_len (h z (by simp))).1
    have h2 := piled_ints zs fun y hy => h y (List.mem_cons_of_mem _ hy)
    have h3 : PyData.shownAll ((z :: zs).map PyData.int) = ((toString z : String) : Str) :: PyData.shownAll (zs.map PyData.int) := by simp [PyData.shownAll, PyData.shown]
    rw [h3, piled_cons, List.length_cons, Nat.add_mul]
    omega
theorem show_tupD {zs : List Int} (hz : ∀ z ∈ zs, z.natAbs < 2 ^ 1000) (hl : zs.length ≤ 1000) : Show1 (tupD zs) := by
  have hd := depth_ints zs
  refine ⟨?_, ?_, ?_, ?_⟩
  · show PyData.showable (.tuple (zs.map PyData.int)) = true
    rw [PyData.showable]
    exact showableAll_ints zs hz
  · show PyData.hasDict (.tuple (zs.map PyData.int)) = false
    rw [PyData.hasDict]
    exact hasDict_ints zs
  · show (PyData.shown (.tuple (zs.map PyData.int))).length ≤ sizeLine
    rw [PyData.shown]
    have h1 := PySem.fmt_text (PyData.shownAll (zs.map PyData.int))
    have h2 := piled_ints zs hz
    have sz : sizeLine = 16777216 := sizeLine_eq
    refine Nat.le_trans h1 ?_
    have : zs.length * 1003 ≤ 1000 * 1003 := Nat.mul_le_mul_right _ hl
    omega
  · show PyData.depth (.tuple (zs.map PyData.int)) < 40
    rw [PyData.depth]
    omega
theorem show_tupL {zs : List Int} (hz : ∀ z ∈ zs, z.natAbs < 2 ^ 1000) (hl : zs.length ≤ 1000) : Show1 (.list [tupD zs]) := by
  have hd := depth_ints zs
  obtain ⟨s1, s2, _, s4⟩ := show_tupD hz hl
  have hd2 : (tupD zs).depth ≤ 2 := by
    show PyData.depth (.tuple (zs.map PyData.int)) ≤ 2
    rw [PyData.depth]
    omega
  refine ⟨?_, ?_, ?_, ?_⟩
  · simp [PyData.showable, PyData.showableAll, s1]
  · simp [PyData.hasDict, PyData.hasDictAll, s2]
  · have h1 := PySem.fmt_text (PyData.shownAll (zs.map PyData.int))
    have h2 := piled_ints zs hz
    have sz : sizeLine = 16777216 := sizeLine_eq
    have h3 : zs.length * 1003 ≤ 1000 * 1003 := Nat.mul_le_mul_right _ hl
    have h5 : (PyData.shown (tupD zs)) = tupleText (PyData.shownAll (zs.map PyData.int)) := by
      show PyData.shown (.tuple (zs.map PyData.int)) = _
      rw [PyData.shown]
    have h4 : (PyData.shown (.list [tupD zs])).length ≤ (PyData.shown (tupD zs)).length + 2 := by
      rw [PyData.shown, PyData.shownAll, PyData.shownAll]
      have e0 : ((("[" : String) : Str) ++ (("" : String) : Str)).length = 1 := by decide +kernel
      have e1 : (((("]" : String) : Str))).length = 1 := rfl
      unfold listText textFrom textFrom
      rw [strLen_append, strLen_append, e1]
      show ((("[" : String) : Str) ++ (("" : String) : Str)).length + _ + 1 ≤ _
      rw [e0]
      omega
    rw [h5] at h4
    omega
  · rw [PyData.depth]
    simp [PyData.depthAll]
    omega
/-! ### lists that are other ones -/
theorem PlsAt.updL {K : PySem.W.Frag} {C : Addr} {H : Hp} {a r f : Addr} {n : Nat} {zss : List (List Int)} {ys : List V} {o : HO} (hf : H f = some (.lst ys)) (nr : r ≠ f) (h : PlsAt K C H a r n zss) : PlsAt K C (upd H f o) a r n zss := by
  obtain ⟨⟨dx, h1⟩, ⟨us, h2, h3⟩, a1, a4, ok⟩ := h
  exact ⟨⟨dx, by rw [upd_ne (ne_of h1 hf (fun z => nomatch z))]; exact h1⟩, ⟨us, by rw [upd_ne nr]; exact h2, h3.imp fun _ _ z => plv_upd z hf⟩, a1, a4, ok⟩
theorem negneg (zs : List Int) : neg (neg zs) = zs := by
  unfold neg
  rw [List.map_map]
  refine (List.map_congr_left fun z _ => ?_).trans (List.map_id zs)
  show - - z = z
  omega
theorem neg_ne {n : Nat} {zs : List Int} (h : Pl n zs) : neg zs ≠ zs := by
  intro e
  obtain ⟨z, hz, h0⟩ := h.2.2.1
  obtain ⟨i, hi⟩ := List.mem_iff_getElem?.mp (List.mem_of_mem_take hz)
  have h1 : (neg zs)[i]? = zs[i]? := by rw [e]
  unfold neg at h1
  rw [List.getElem?_map, hi] at h1
  have : -z = z := Option.some.inj h1
  omega
theorem rot_ok {n : Nat} : ∀ {zss : List (List Int)}, PlanesOk n zss → PlanesOk n (zss.drop 1 ++ zss.take 1)
  | [], h => h
  | y :: ys, h => by
    show PlanesOk n (ys ++ [y])
    have h1 := h.1
    rw [List.length_cons] at h1
    refine ⟨by rw [List.length_append]; exact h1, fun a ha => h.2.1 a ?_, fun i j a b hij ha hb => ?_⟩
    · rcases List.mem_append.mp ha with z | z
      · exact List.mem_cons_of_mem _ z
      · rw [List.mem_singleton.mp z]
        exact List.mem_cons_self ..
    · by_cases hj : j < ys.length
      · rw [List.getElem?_append_left (by omega)] at ha
        rw [List.getElem?_append_left hj] at hb
        exact h.2.2 (i + 1) (j + 1) a b (by omega) ha hb
      · have hj2 := (List.getElem?_eq_some_iff.mp hb).1
        rw [List.length_append] at hj2
        have hj2 : j < ys.length + 1 := hj2
        rw [List.getElem?_append_right (by omega), show j - ys.length = 0 by omega] at hb
        cases hb
        rw [List.getElem?_append_left (by omega)] at ha
        have := h.2.2 0 (i + 1) y a (by omega) rfl ha
        exact ⟨fun e => this.1 e.symm, fun e => this.2 (by rw [e, negneg])⟩
theorem rot_ne {n : Nat} : ∀ {zss : List (List Int)}, PlanesOk n zss → 1 < zss.length → ¬ zss = zss.drop 1 ++ zss.take 1
  | [], _, h => absurd h (by decide)
  | [_], _, h => absurd h (Nat.lt_irrefl _)
  | y :: y2 :: ys, h, _ => fun e => by
    have e : y :: y2 :: ys = (y2 :: ys) ++ [y] := e
    exact (h.2.2 0 1 y y2 (by decide) rfl rfl).1 (List.cons.inj e).1.symm
theorem drop_ne {zss : List (List Int)} (h : zss ≠ []) : ¬ zss = zss.drop 1 := fun e => by
  have h1 := List.length_pos_iff.mpr h
  have h2 := congrArg List.length e
  rw [List.length_drop] at h2
  omega
theorem set_ne {n : Nat} {zs : List Int} : ∀ {zss : List (List Int)}, zss[0]? = some zs → Pl n zs → ¬ zss = zss.set 0 (neg zs)
  | [], h, _ => nomatch h
  | y :: ys, h, hp => fun e => by
    cases h
    have e : zs :: ys = neg zs :: ys := e
    exact neg_ne hp (List.cons.inj e).1.symm
theorem set2 {zs : List Int} : ∀ {zss : List (List Int)}, zss[0]? = some zs → (zss.set 0 (neg zs)).set 0 (neg (neg zs)) = zss
  | [], h => nomatch h
  | y :: ys, h => by
    cases h
    show neg (neg zs) :: ys = zs :: ys
    rw [negneg]
theorem one_plane {n : Nat} {zs : List Int} : PlanesOk n [zs] ↔ Pl n zs := by
  refine ⟨fun h => h.2.1 zs (List.mem_singleton.mpr rfl), fun h => ⟨by show (1 : Nat) ≤ 12; decide, fun a ha => by rw [List.mem_singleton.mp ha]; exact h, fun i j a b hij ha hb => ?_⟩⟩
  have hj : j < 1 := (List.getElem?_eq_some_iff.mp hb).1
  omega
theorem neNat {a b : Nat} (h : a = b) : (!decide (V.int (a : Int) = V.int (b : Int))) = false := by
  rw [h, decide_eq_true rfl]
  rfl
theorem neD {d d2 : PyData} (h : d = d2) : (!decide (V.str d.shown = V.str d2.shown)) = false := by
  rw [h, decide_eq_true rfl]
  rfl
theorem show_nat {a : Nat} (h : a < 2 ^ 1000) : Show1 (.int (a : Int)) := show_int (by rw [Int.natAbs_natCast]; exact h)
theorem piv_le (zss : List (List Int)) : ∀ i, (echN zss i).1.length ≤ i
  | 0 => Nat.le_refl _
  | i + 1 => by
    have ih := piv_le zss i
    show (eStep i (echN zss i)).1.length ≤ i + 1
    cases e : (echN zss i).2.findIdx? (fz i) with
    | none =>
      rw [eStep_none e]
      omega
    | some j =>
      rw [eStep_some e]
      show (List.map _ _ ++ [_]).length ≤ i + 1
      rw [List.length_append, List.length_map]
      show _ + 1 ≤ i + 1
      omega
/-! ### the law -/
def sp_law (K : PySem.W.Frag) : Sp := fun vs H Q _ => ∃ (a : Addr) (ns : List Int), vs = [.ref a] ∧ SqL K H a (ns.map V.int) ∧ ns.length ≤ 63 ∧ ∀ H', Q (.bl true) H'
theorem ok_law (T : Txt K w mg ad fd) : CalG P w K mg base CX0 9 "law" (ad 50) (fd 50) ["script"] (sp_law K) := by
  refine ⟨T.f_law.okGn sc_law (fun vs H Q E h => ?_) (fun cdv A outer s H vs Q E gd hr h => ?_), T.g_law, T.f_law.kp, T.f_law.binds (ps := ["script"]) fun _ _ _ _ _ _ us hl => match us, hl with | [_], _ => rfl⟩
  · obtain ⟨a, ns, rfl, _⟩ := h
    rfl
  · obtain ⟨sc, ns, rfl, hS, hlen, q⟩ := h
    have hu := hr.units
    have sz : sizeLine = 16777216 := sizeLine_eq
    refine ⟨_, (pss_cons (ps_set (i := 1) sc_law.nd rfl (by first | exact Or.inl rfl | exact Or.inr rfl) (pe_cal (ok__law_draws T (P := P) (w := w) (base := base)) (hr.mono (by decide)) pass0 (pa_cons (pv 0) pa_nil)))
    (pss_cons (ps_expr (pe_bm0 PySem.F.plainAttrs_list PySem.F.slot_list_reverse PySem.F.type_list_reverse mt_reverse (pv 1)))
    (pss_cons (ps_set (i := 2) sc_law.nd rfl (by first | exact Or.inl rfl | exact Or.inr rfl) (pe_op op_add pe_int (pe_op op_mod (pe_callTy (T := "int") call_int1 (by rfl) T.m_int (by decide +kernel) (pa_cons (pe_cal (ok__law_next T (P := P) (w := w) (base := base)) (hr.mono (by decide)) pass0 (pa_cons (pv 1) pa_nil)) pa_nil)) pe_int)))
    (pss_cons (ps_asg (pe_cal (ok__law_planes T (P := P) (w := w) (base := base)) (hr.mono (by decide)) pass0 (pa_cons (pv 1) (pa_cons (pv 2) (pa_cons pe_int pa_nil)))) (pg_lst (n := 2) rfl (pgs_cons (pg_name (i := 3) sc_law.nd rfl (by first | exact Or.inl rfl | exact Or.inr rfl)) (pgs_cons (pg_name (i := 4) sc_law.nd rfl (by first | exact Or.inl rfl | exact Or.inr rfl)) pgs_nil))))
    (pss_cons (ps_set (i := 5) sc_law.nd rfl (by first | exact Or.inl rfl | exact Or.inr rfl) (pe_callTy (T := "list") (call_listSK (K := K) rfl) (by rfl) T.m_list (by decide +kernel) (pa_cons (pv 3) pa_nil)))
    (pss_cons (ps_set (i := 6) sc_law.nd rfl (by first | exact Or.inl rfl | exact Or.inr rfl) (pe_make T.mk_Planes (ok_Planes_init T (P := P) (w := w) (base := base)).ok (hr.mono (by decide)) rfl T.g_Planes (ok_Planes_init T (P := P) (w := w) (base := base)).b .nil passLN (pa_cons (pv 2) (pa_cons (pv 3) pa_nil))))
    (pss_cons (ps_if (L2.PW.pt (pw_or (pt_cmpR (op_neD hu) (pe_meth0 (pv 6) T.cl_Planes T.me_Planes_planes (ok_Planes_planes T (P := P) (w := w) (base := base)).ok (hr.mono (by decide)) (ok_Planes_planes T (P := P) (w := w) (base := base)).b .nil pass0) (pv 5) (nomark _)) (pw_or (pt_cmpR op_ne (pe_callB (call_lenOwn (ok_Planes_len T (P := P) (w := w) (base := base)).ok (hr.mono (by decide)) T.me_Planes_len.at_ T.me_Planes_len.fn (ok_Planes_len T (P := P) (w := w) (base := base)).b pass0) (by rfl) T.m_len PySem.boot_len (pa_cons (pv 6) pa_nil)) (pe_callB call_len_seq (by rfl) T.m_len PySem.boot_len (pa_cons (pv 5) pa_nil)) (nomark _)) (pw_or1 (pt_cmpR op_ne (pe_fldK (K := K) (pv 6) rfl) (pv 2) (nomark _)))))) (pss_one (ps_ret pe_bl)) pss_nil)
    (pss_cons (ps_set (i := 7) sc_law.nd rfl (by first | exact Or.inl rfl | exact Or.inr rfl) (pe_meth0 (pv 6) T.cl_Planes T.me_Planes_planes (ok_Planes_planes T (P := P) (w := w) (base := base)).ok (hr.mono (by decide)) (ok_Planes_planes T (P := P) (w := w) (base := base)).b .nil pass0))
    (pss_cons (ps_expr (pe_bm PySem.F.plainAttrs_list PySem.F.slot_list_append PySem.F.type_list_append mt_append (pv 7) (pa_cons (pe_tup (pa_cons pe_int (pa_cons pe_int pa_nil))) pa_nil)))
    (pss_cons (ps_expr (pe_bm PySem.F.plainAttrs_list PySem.F.slot_list_append PySem.F.type_list_append mt_append (pv 3) (pa_cons (pe_tup (pa_cons pe_int pa_nil)) pa_nil)))
    (pss_cons (ps_if (L2.PW.pt (pw_or (pt_cmpR (op_neD hu) (pe_meth0 (pv 6) T.cl_Planes T.me_Planes_planes (ok_Planes_planes T (P := P) (w := w) (base := base)).ok (hr.mono (by decide)) (ok_Planes_planes T (P := P) (w := w) (base := base)).b .nil pass0) (pv 5) (nomark _)) (pw_or1 (pt_not (pt_cmpR (op_eqOwn (ok_Planes_eq T (P := P) (w := w) (base := base)).ok (hr.mono (by decide)) T.me_Planes_eq.at_ T.me_Planes_eq.fn (ok_Planes_eq T (P := P) (w := w) (base := base)).b pass0) (pv 6) (pe_make T.mk_Planes (ok_Planes_init T (P := P) (w := w) (base := base)).ok (hr.mono (by decide)) rfl T.g_Planes (ok_Planes_init T (P := P) (w := w) (base := base)).b .nil passLN (pa_cons (pv 2) (pa_cons (pv 5) pa_nil))) (nomark _)))))) (pss_one (ps_ret pe_bl)) pss_nil)
    (pss_cons (ps_if (L2.PW.pt (pw_and (pt_truth (pv 5) (fun _ => rfl)) (pw_and1 (L2.PW.pt (pw_or (pt_cmpR (op_eqOwn (ok_Planes_eq T (P := P) (w := w) (base := base)).ok (hr.mono (by decide)) T.me_Planes_eq.at_ T.me_Planes_eq.fn (ok_Planes_eq T (P := P) (w := w) (base := base)).b pass0) (pv 6) (pe_make T.mk_Planes (ok_Planes_init T (P := P) (w := w) (base := base)).ok (hr.mono (by decide)) rfl T.g_Planes (ok_Planes_init T (P := P) (w := w) (base := base)).b .nil passLN (pa_cons (pv 2) (pa_cons (pe_slice sl_list (pv 5) (po_some pe_int) po_none) pa_nil))) (nomark _)) (pw_or (pt_cmpR (op_eqOwn (ok_Planes_eq T (P := P) (w := w) (base := base)).ok (hr.mono (by decide)) T.me_Planes_eq.at_ T.me_Planes_eq.fn (ok_Planes_eq T (P := P) (w := w) (base := base)).b pass0) (pv 6) (pe_meth (pv 6) T.cl_Planes T.me_Planes_turned (ok_Planes_turned T (P := P) (w := w) (base := base)).ok (hr.mono (by decide)) (ok_Planes_turned T (P := P) (w := w) (base := base)).b .nil passLN (pa_cons pe_int pa_nil)) (nomark _)) (pw_or1 (pt_not (pt_cmpR (op_eqOwn (ok_Planes_eq T (P := P) (w := w) (base := base)).ok (hr.mono (by decide)) T.me_Planes_eq.at_ T.me_Planes_eq.fn (ok_Planes_eq T (P := P) (w := w) (base := base)).b pass0) (pv 6) (pe_meth (pe_meth (pv 6) T.cl_Planes T.me_Planes_turned (ok_Planes_turned T (P := P) (w := w) (base := base)).ok (hr.mono (by decide)) (ok_Planes_turned T (P := P) (w := w) (base := base)).b .nil passLN (pa_cons pe_int pa_nil)) T.cl_Planes T.me_Planes_turned (ok_Planes_turned T (P := P) (w := w) (base := base)).ok (hr.mono (by decide)) (ok_Planes_turned T (P := P) (w := w) (base := base)).b .nil passLN (pa_cons pe_int pa_nil)) (nomark _)))))))))) (pss_one (ps_ret pe_bl)) pss_nil)
    (pss_cons (ps_if (L2.PW.pt (pw_and (pt_cmpR op_gt (pe_callB call_len_seq (by rfl) T.m_len PySem.boot_len (pa_cons (pv 5) pa_nil)) pe_int (nomark _)) (pw_and1 (pt_cmpR (op_eqOwn (ok_Planes_eq T (P := P) (w := w) (base := base)).ok (hr.mono (by decide)) T.me_Planes_eq.at_ T.me_Planes_eq.fn (ok_Planes_eq T (P := P) (w := w) (base := base)).b pass0) (pv 6) (pe_make T.mk_Planes (ok_Planes_init T (P := P) (w := w) (base := base)).ok (hr.mono (by decide)) rfl T.g_Planes (ok_Planes_init T (P := P) (w := w) (base := base)).b .nil passLN (pa_cons (pv 2) (pa_cons (pe_op op_cat (pe_slice sl_list (pv 5) (po_some pe_int) po_none) (pe_slice sl_list (pv 5) po_none (po_some pe_int))) pa_nil))) (nomark _))))) (pss_one (ps_ret pe_bl)) pss_nil)
    (pss_cons (ps_set (i := 8) sc_law.nd rfl (by first | exact Or.inl rfl | exact Or.inr rfl) (pe_cal (ok__law_echelon T (P := P) (w := w) (base := base)) (hr.mono (by decide)) pass0 (pa_cons (pv 2) (pa_cons (pe_cal (ok__law_numbers T (P := P) (w := w) (base := base)) (hr.mono (by decide)) pass0 (pa_cons (pe_lc (own := [("plane", 9)]) rfl sc_law.nd (pi_list (pv 5)) (blkOk_by (N := ["script", "draws", "n", "rows", "point", "kept", "planes", "told", "first", "plane", "whole", "row", "due"]) (sc := defScope s_law) (by decide +kernel)) (fun _ _ _ _ _ => (pg_name (i := 9) sc_law.nd rfl (by first | exact Or.inl rfl | exact Or.inr rfl))) (fun _ _ _ _ _ => pts_nil) (fun _ _ _ _ _ => (pe_slice (sl_tupK (K := K)) (pv 9) po_none (po_some (pv 2))))) pa_nil)) pa_nil))))
    (pss_cons (ps_set (i := 10) sc_law.nd rfl (by first | exact Or.inl rfl | exact Or.inr rfl) (pe_cal (ok__law_echelon T (P := P) (w := w) (base := base)) (hr.mono (by decide)) pass0 (pa_cons (pe_op op_add (pv 2) pe_int) (pa_cons (pe_cal (ok__law_numbers T (P := P) (w := w) (base := base)) (hr.mono (by decide)) pass0 (pa_cons (pv 5) pa_nil)) pa_nil))))
    (pss_cons (ps_if (L2.PW.pt (pw_or (pt_cmpR op_ne (pe_repr gd hu T.m_repr (pa_cons (pe_meth0 (pv 6) T.cl_Planes T.me_Planes_rank (ok_Planes_rank T (P := P) (w := w) (base := base)).ok (hr.mono (by decide)) (ok_Planes_rank T (P := P) (w := w) (base := base)).b .nil pass0) pa_nil)) (pe_repr gd hu T.m_repr (pa_cons (pe_callB call_len_seq (by rfl) T.m_len PySem.boot_len (pa_cons (pv 8) pa_nil)) pa_nil)) (nomark _)) (pw_or1 (pt_cmpR op_ne (pe_repr gd hu T.m_repr (pa_cons (pe_meth0 (pv 6) T.cl_Planes T.me_Planes_is_central (ok_Planes_is_central T (P := P) (w := w) (base := base)).ok (hr.mono (by decide)) (ok_Planes_is_central T (P := P) (w := w) (base := base)).b .nil pass0) pa_nil)) (pe_repr gd hu T.m_repr (pa_cons (pe_cmpR op_eq (pe_callB call_len_seq (by rfl) T.m_len PySem.boot_len (pa_cons (pv 8) pa_nil)) (pe_callB call_len_seq (by rfl) T.m_len PySem.boot_len (pa_cons (pv 10) pa_nil)) (nomark _)) pa_nil)) (nomark _))))) (pss_one (ps_ret pe_bl)) pss_nil)
    (pss_cons (ps_if (L2.PW.pt (pw_or (pt_not (pt_val (pe_calG (ok__law_parts T (P := P) (w := w) (base := base)) gd (hr.mono (by decide)) (pa_cons (pv 1) (pa_cons (pv 2) (pa_cons (pv 5) (pa_cons (pv 6) pa_nil))))))) (pw_or (pt_cmpR (op_neD hu) (pe_meth0 (pv 6) T.cl_Planes T.me_Planes_planes (ok_Planes_planes T (P := P) (w := w) (base := base)).ok (hr.mono (by decide)) (ok_Planes_planes T (P := P) (w := w) (base := base)).b .nil pass0) (pv 5) (nomark _)) (pw_or1 (pt_not (pt_val (pe_calG (ok__law_lists T (P := P) (w := w) (base := base)) gd (hr.mono (by decide)) (pa_cons (pv 2) (pa_cons (pv 5) pa_nil))))))))) (pss_one (ps_ret pe_bl)) pss_nil)
    (pss_cons (ps_set (i := 9) sc_law.nd rfl (by first | exact Or.inl rfl | exact Or.inr rfl) (pe_cal (ok__law_plane T (P := P) (w := w) (base := base)) (hr.mono (by decide)) pass0 (pa_cons (pv 1) (pa_cons (pv 2) (pa_cons (pv 4) pa_nil)))))
    (pss_cons (ps_for (by first | exact PassesOwn.never | exact passes_of rfl) rfl (pi_list (pe_lst (pa_cons (pv 9) (pa_cons (pe_cal (ok__law_spoilt T (P := P) (w := w) (base := base)) (hr.mono (by decide)) pass0 (pa_cons (pv 1) (pa_cons (pv 9) pa_nil))) (pa_cons (pe_cal (ok__law_spoilt T (P := P) (w := w) (base := base)) (hr.mono (by decide)) pass0 (pa_cons (pv 1) (pa_cons (pe_cal (ok__law_spoilt T (P := P) (w := w) (base := base)) (hr.mono (by decide)) pass0 (pa_cons (pv 1) (pa_cons (pv 9) pa_nil))) pa_nil))) pa_nil))))) (pg_name (i := 11) sc_law.nd rfl (by first | exact Or.inl rfl | exact Or.inr rfl))
      (pss_cons (ps_set (i := 12) sc_law.nd rfl (by first | exact Or.inl rfl | exact Or.inr rfl) (pe_cal (ok__law_is_plane T (P := P) (w := w) (base := base)) (hr.mono (by decide)) pass0 (pa_cons (pv 2) (pa_cons (pv 11) pa_nil))))
    (pss_one (ps_if (L2.PW.pt (pw_or (pt_cmpR op_ne (pe_repr gd hu T.m_repr (pa_cons (pe_cal (ok_is_plane T (P := P) (w := w) (base := base)) (hr.mono (by decide)) passLN (pa_cons (pv 2) (pa_cons (pv 11) pa_nil))) pa_nil)) (pe_repr gd hu T.m_repr (pa_cons (pv 12) pa_nil)) (nomark _)) (pw_or1 (pt_cmpR op_ne (pe_repr gd hu T.m_repr (pa_cons (pe_calG (ok__law_told T (P := P) (w := w) (base := base)) gd (hr.mono (by decide)) (pa_cons pe_int (pa_cons (pv 2) (pa_cons (pe_lst (pa_cons (pv 11) pa_nil)) pa_nil)))) pa_nil)) (pe_repr gd hu T.m_repr (pa_cons (pe_ifExp (pt_val (pv 12)) (pe_lst (pa_cons (pv 11) pa_nil)) pe_str) pa_nil)) (nomark _))))) (pss_one (ps_ret pe_bl)) pss_nil))))
    (pss_one (ps_ret pe_bl))))))))))))))))))))), ?_⟩
    -- draws
    refine ⟨.ref sc, rfl, sc, ns, rfl, hS, hlen, fun H1 l dH => ?_⟩
    obtain ⟨e1, nl, ds, hl, hd, _⟩ := dH
    refine ⟨.ref l, rfl, .inl ⟨rfl, _, .inl (.inl hl)⟩, l, _, rfl, rfl, hl, ?_⟩
    have dA : DrA l (upd H1 l (.lst (ds.map V.int).reverse)) := ⟨ds.reverse, by rw [upd_same, List.map_reverse], fun d h => hd d (List.mem_reverse.mp h)⟩
    generalize upd H1 l (.lst (ds.map V.int).reverse) = H2 at dA ⊢
    clear hl nl e1
    change Ends.nx _ _ _
    dsimp only
    refine seqA ?_
    refine ⟨_, rfl, l, rfl, dA, fun H3 d d0 d1 m3 => .inl ⟨_, rfl, _, _, rfl, rfl, by show (0 : Int) < 4; decide, _, _, rfl, rfl, ?_⟩⟩
    obtain ⟨n, hn, n1, n4⟩ : ∃ n : Nat, 1 + d % 4 = (n : Int) ∧ 1 ≤ n ∧ n ≤ 4 := ⟨(1 + d % 4).toNat, by omega, by omega, by omega⟩
    dsimp only
    rw [hn]
    refine ⟨_, rfl, _, rfl, l, n, 7, rfl, m3.2, n1, n4, by decide, fun H4 v f p us zss gs m4 hv nf np nv hf hz hok hz7 hg => ?_⟩
    refine ⟨v, _, rfl, SqL.of hv, rfl, _, _, rfl, _, _, rfl, rfl, ?_⟩
    have lus : us.length = zss.length := hz.1
    have m12 := hok.1
    have nfp : p ≠ f := fun z => by
      rw [z] at hg
      have h1 := hg.1
      rw [hf] at h1
      have h2 : us = gs.map V.int := by cases h1; rfl
      have h3 := hg.2.1
      obtain ⟨zs, hzs⟩ : ∃ zs, zss[0]? = some zs := ⟨_, List.getElem?_eq_getElem (by rw [← lus, h2, List.length_map]; omega)⟩
      obtain ⟨u, hu0, pz, rfl, _⟩ := hz.at_ hzs
      rw [h2] at hu0
      obtain ⟨y, hy, _⟩ := int_at hu0
      cases hy
    -- kept
    refine ⟨_, rfl, .lst f, us, rfl, SqL.of hf, by omega, fun k hk0 => ?_⟩
    have e5 := Ex.new (o := .lst us) hk0
    have hk5 : (upd H4 k (.lst us)) k = some (.lst us) := upd_same
    have nk : k ≠ f := fun z => by rw [z, hf] at hk0; cases hk0
    have nkl := dra_ne m4.2 hk0
    have dA5 := dra_ex m4.2 e5
    have hf5 := e5 _ _ hf
    have hz5 := hz.imp fun _ _ h => h.mono e5
    have hg5 : PvAt (upd H4 k (.lst us)) n p gs := ⟨e5 _ _ hg.1, hg.2⟩
    generalize upd H4 k (.lst us) = H5 at hk5 dA5 hf5 hz5 hg5 ⊢
    clear hz hg hf hk0 e5 m4 hv m3 dA
    -- planes
    refine ⟨_, rfl, _, rfl, fun a dx ha hdx hxy => ?_⟩
    refine make_plV n1 n4 (SqL.of hf5) hz5 hok ha hdx hxy fun H6 r e6 hr6 hpl6 => ?_
    have nrf : r ≠ f := fun z => by rw [z, hf5] at hr6; cases hr6
    have nrl := dra_ne dA5 hr6
    obtain ⟨dx6, hob⟩ := hpl6.ob
    have sh := eqv_same (rfl : zss = zss)
    refine ⟨_, rfl, a, dx6, _, rfl, hob, pflds_no _ _ (by decide +kernel) (by decide +kernel), a, r, n, zss, rfl, hpl6, fun H7 g us7 e7 hg7 hz7' _ => ?_⟩
    have e57 := e6.trans e7
    refine ⟨_, rfl, .list (zss.map tupD), .list (zss.map tupD), .lst (SqL.of hg7) (dpAll_pls hz7'), .lst (SqL.of (e57 _ _ hk5)) (dpAll_pls (hz5.imp fun _ _ h => h.mono e57)), sh.1, sh.2.1, _, rfl, ?_⟩
    rw [sh.2.2]
    refine iteF ?_
    have hpl7 := hpl6.mono e7
    obtain ⟨dx7, hob7⟩ := hpl7.ob
    refine ⟨_, rfl, a, dx7, _, rfl, hob7, a, r, n, zss, rfl, hpl7, fun H8 e8 => ⟨_, rfl, by omega, ?_⟩⟩
    refine ⟨_, rfl, k, us, rfl, .inl (SqL.of ((e57.trans e8) _ _ hk5)), rfl, _, rfl, ?_⟩
    rw [neNat lus.symm]
    refine iteF ?_
    have hpl8 := hpl7.mono e8
    obtain ⟨dx8, hob8⟩ := hpl8.ob
    refine ⟨_, rfl, a, _, dx8, _, _, rfl, hob8, T.cl_Planes, T.na_Planes_n, pflds_n _ _, _, rfl, rfl, _, rfl, ?_⟩
    rw [neNat rfl]
    refine iteF ?_
    have e58 := e57.trans e8
    clear hob hg7 hz7' hob7 hpl7 hpl6 e57 e7 e6 hr6 ha hdx
    -- told
    refine ⟨_, rfl, a, dx8, _, rfl, hob8, pflds_no _ _ (by decide +kernel) (by decide +kernel), a, r, n, zss, rfl, hpl8, fun H9 t us9 e9 ht9 hz9 nt => ?_⟩
    refine ⟨_, rfl, .inl ⟨rfl, _, SqL.of ht9⟩, by show (2 : Nat) ≤ sizeLine; omega, fun p10 hp10 => ?_⟩
    have e10 := Ex.new (o := .tup [.int 0, .int 0]) hp10
    refine ⟨t, _, _, rfl, rfl, e10 _ _ ht9, by have := hz9.1; omega, ?_⟩
    have e811 : Ex H8 (upd (upd H9 p10 (.tup [.int 0, .int 0])) t (.lst (us9 ++ [.ref p10]))) := fun b o hb => by
      rw [upd_ne (ne_of_none hb nt)]
      exact (e9.trans e10) _ _ hb
    generalize upd (upd H9 p10 (.tup [.int 0, .int 0])) t (.lst (us9 ++ [.ref p10])) = H11 at e811 ⊢
    have e511 := e58.trans e811
    -- rows
    refine ⟨_, rfl, .inl ⟨rfl, _, SqL.of (e511 _ _ hf5)⟩, by show (1 : Nat) ≤ sizeLine; omega, fun p12 hp12 => ?_⟩
    have e12 := Ex.new (o := .tup [.int 1]) hp12
    have e512 := e511.trans e12
    have hf12 := e512 _ _ hf5
    refine ⟨f, _, _, rfl, rfl, hf12, by omega, ?_⟩
    have hk : (L2.upd (upd H11 p12 (.tup [.int 1])) f (.lst (us ++ [.ref p12]))) k = some (.lst us) := by
      rw [upd_ne nk]
      exact e512 _ _ hk5
    have hz : All2 (PlV K (L2.upd (upd H11 p12 (.tup [.int 1])) f (.lst (us ++ [.ref p12])))) us zss := (hz5.imp fun _ _ h => h.mono e512).imp fun _ _ h => plv_upd h hf12
    have hpl := ((hpl8.mono e811).mono e12).updL (o := .lst (us ++ [.ref p12])) hf12 nrf
    have dA := dra_upd (o := .lst (us ++ [.ref p12])) (dra_ex dA5 e512) nf
    have hg : PvAt (L2.upd (upd H11 p12 (.tup [.int 1])) f (.lst (us ++ [.ref p12]))) n p gs := ⟨by rw [upd_ne nfp]; exact e512 _ _ hg5.1, hg5.2⟩
    generalize L2.upd (upd H11 p12 (.tup [.int 1])) f (.lst (us ++ [.ref p12])) = HB at hk hz hpl dA hg ⊢
    clear e512 hf12 e12 hp12 e511 e811 hp10 e10 e9 ht9 hz9 nt hob8 hpl8 e58 e8 hg5 hz5 hf5 dA5 hk5
    change Ends.nx _ _ _
    dsimp only
    -- the same again, and equal to another of the same
    obtain ⟨dxB, hobB⟩ := hpl.ob
    refine ⟨_, rfl, a, dxB, _, rfl, hobB, pflds_no _ _ (by decide +kernel) (by decide +kernel), a, r, n, zss, rfl, hpl, fun C1 g us1 c1 hg1 hz1 _ => ?_⟩
    refine ⟨_, rfl, .list (zss.map tupD), .list (zss.map tupD), .lst (SqL.of hg1) (dpAll_pls hz1), .lst (SqL.of (c1 _ _ hk)) (dpAll_pls (hz.imp fun _ _ h => h.mono c1)), sh.1, sh.2.1, _, rfl, ?_⟩
    rw [sh.2.2]
    refine iteF ?_
    refine ⟨_, rfl, _, rfl, _, rfl, fun x dx hx hdx hxy => ?_⟩
    refine make_plV n1 n4 (SqL.of (c1 _ _ hk)) (hz.imp fun _ _ h => h.mono c1) hok hx hdx hxy fun C2 r2 c2 _ hpl2 => ?_
    have c02 := c1.trans c2
    obtain ⟨dx2, hob2⟩ := hpl2.ob
    have hplC := hpl.mono c02
    obtain ⟨dx3, hob3⟩ := hplC.ob
    refine ⟨a, x, dx3, dx2, _, _, rfl, rfl, hob3, hob2, a, r, n, zss, x, r2, n, zss, rfl, hplC, hpl2, fun C3 c3 => ⟨_, rfl, _, rfl, ?_⟩⟩
    rw [decide_eq_true (show n = n ∧ zss = zss from ⟨rfl, rfl⟩)]
    refine iteF ?_
    have c03 := c02.trans c3
    clear hplC hob3 hob2 hpl2 c02 c3 c2 hx hdx hg1 hz1 c1
    change Ends.nx _ _ _
    dsimp only
    refine scut (fun σ' H' => σ' = [some (.ref sc), some (.ref l), some (.int n), some (.ref f), some (.ref p), some (.ref k), some (.ref a), some (.ref t), none, none, none, none, none] ∧ Ex HB H') (fun n' q' => ?_) ?_
    · have hk3 := c03 _ _ hk
      have hz3 := hz.imp fun _ _ h => h.mono c03
      have hpl3 := hpl.mono c03
      by_cases hne : zss = []
      · have hu0 : us = [] := List.length_eq_zero_iff.mp (by rw [lus, hne]; rfl)
        refine ⟨_, rfl, false, .inl ⟨us, SqL.of hk3, by rw [hu0]; rfl⟩, ?_⟩
        exact iteF (iteF (q' _ _ ⟨rfl, c03⟩))
      have hl0 := List.length_pos_iff.mpr hne
      obtain ⟨zs, hzs⟩ : ∃ zs, zss[0]? = some zs := ⟨_, List.getElem?_eq_getElem hl0⟩
      have hPz := hok.2.1 zs (List.mem_of_getElem? hzs)
      have i0 : 0 ≤ (0 : Int) ∧ (0 : Int) < zss.length := by omega
      refine ⟨_, rfl, true, .inl ⟨us, SqL.of hk3, ?_⟩, ?_⟩
      · cases us with
        | nil => rw [← lus] at hl0; exact absurd hl0 (by decide)
        | cons _ _ => rfl
      refine iteT ?_
      -- without the first
      refine ⟨_, rfl, _, rfl, _, rfl, _, rfl, k, us, rfl, SqL.of hk3, fun p4 hp4 x dx hx hdx hxy => ?_⟩
      have e4 := Ex.new (o := .lst (cutV us (some ((1 : Nat) : Int)) none)) hp4
      refine make_plV (zss := zss.drop 1) n1 n4 (SqL.of upd_same) (drop_list (hz3.imp fun _ _ h => h.mono e4) 1) hok.drop hx hdx hxy fun C5 r5 c5 _ hpl5 => ?_
      have c35 := e4.trans c5
      obtain ⟨dx5, hob5⟩ := hpl5.ob
      obtain ⟨dxa, hoba⟩ := (hpl3.mono c35).ob
      refine ⟨a, x, dxa, dx5, _, _, rfl, rfl, hoba, hob5, a, r, n, zss, x, r5, n, zss.drop 1, rfl, hpl3.mono c35, hpl5, fun C6 c6 => ⟨_, rfl, _, rfl, ?_⟩⟩
      rw [decide_eq_false (show ¬ (n = n ∧ zss = zss.drop 1) from fun h => drop_ne hne h.2)]
      refine iteF ?_
      have c36 := c35.trans c6
      have hpl6 := hpl3.mono c36
      obtain ⟨dx6b, hob6⟩ := hpl6.ob
      -- turned
      refine ⟨_, rfl, _, rfl, a, dx6b, _, rfl, hob6, pflds_no _ _ (by decide +kernel) (by decide +kernel), a, r, n, zss, 0, rfl, hpl6, fun h => absurd i0 h, fun k1 zs1 hk1 hzs1 C7 a7 r7 c7 _ hpl7 => ?_⟩
      obtain rfl : k1 = 0 := by omega
      rw [hzs] at hzs1
      cases hzs1
      obtain ⟨dx7b, hob7⟩ := hpl7.ob
      obtain ⟨dxc, hobc⟩ := (hpl6.mono c7).ob
      refine ⟨a, a7, dxc, dx7b, _, _, rfl, rfl, hobc, hob7, a, r, n, zss, a7, r7, n, _, rfl, hpl6.mono c7, hpl7, fun C8 c8 => ⟨_, rfl, _, rfl, ?_⟩⟩
      rw [decide_eq_false (show ¬ (n = n ∧ zss = zss.set 0 (neg zs)) from fun h => set_ne hzs hPz h.2)]
      refine iteF ?_
      have c38 := c36.trans (c7.trans c8)
      have hpl8 := hpl3.mono c38
      obtain ⟨dx8b, hob8⟩ := hpl8.ob
      -- turned twice
      refine ⟨_, rfl, _, rfl, a, dx8b, _, rfl, hob8, pflds_no _ _ (by decide +kernel) (by decide +kernel), a, r, n, zss, 0, rfl, hpl8, fun h => absurd i0 h, fun k1 zs1 hk1 hzs1 C9 a9 r9 c9 _ hpl9 => ?_⟩
      obtain rfl : k1 = 0 := by omega
      rw [hzs] at hzs1
      cases hzs1
      obtain ⟨dx9, hob9⟩ := hpl9.ob
      have hset : (zss.set 0 (neg zs))[0]? = some (neg zs) := by
        rw [List.getElem?_set_self hl0]
      refine ⟨a9, dx9, _, rfl, hob9, pflds_no _ _ (by decide +kernel) (by decide +kernel), a9, r9, n, _, 0, rfl, hpl9, fun h => absurd (show 0 ≤ (0 : Int) ∧ (0 : Int) < (zss.set 0 (neg zs)).length by rw [List.length_set]; exact i0) h, fun k1 zs1 hk1 hzs1 C10 a10 r10 c10 _ hpl10 => ?_⟩
      obtain rfl : k1 = 0 := by omega
      rw [hset] at hzs1
      cases hzs1
      rw [set2 hzs] at hpl10
      obtain ⟨dx10, hob10⟩ := hpl10.ob
      have hplE := (hpl8.mono c9).mono c10
      obtain ⟨dxe, hobe⟩ := hplE.ob
      refine ⟨a, a10, dxe, dx10, _, _, rfl, rfl, hobe, hob10, a, r, n, zss, a10, r10, n, zss, rfl, hplE, hpl10, fun C11 c11 => ⟨_, rfl, _, rfl, ?_⟩⟩
      rw [decide_eq_true (show n = n ∧ zss = zss from ⟨rfl, rfl⟩)]
      exact iteF (q' _ _ ⟨rfl, c03.trans (c38.trans ((c9.trans c10).trans c11))⟩)
    rintro σ1 HC ⟨rfl, eC⟩
    replace hk := eC _ _ hk
    replace hz : All2 (PlV K HC) us zss := hz.imp fun _ _ h => h.mono eC
    replace hpl := hpl.mono eC
    replace dA := dra_ex dA eC
    replace hg : PvAt HC n p gs := ⟨eC _ _ hg.1, hg.2⟩
    clear c03 hobB eC
    -- another order
    refine scut (fun σ' H' => σ' = [some (.ref sc), some (.ref l), some (.int n), some (.ref f), some (.ref p), some (.ref k), some (.ref a), some (.ref t), none, none, none, none, none] ∧ Ex HC H') (fun n' q' => ?_) ?_
    · refine ⟨_, rfl, k, us, rfl, .inl (SqL.of hk), _, _, rfl, rfl, _, rfl, ?_⟩
      by_cases hl1 : 1 < us.length
      · rw [decide_eq_true (show (1 : Int) < ((us.length : Nat) : Int) by omega)]
        refine iteT ?_
        refine ⟨_, rfl, _, rfl, _, rfl, _, rfl, k, us, rfl, SqL.of hk, fun p1 hp1 => ?_⟩
        have e1 := Ex.new (o := .lst (cutV us (some ((1 : Nat) : Int)) none)) hp1
        refine ⟨_, rfl, _, rfl, k, us, rfl, SqL.of (e1 _ _ hk), fun p2 hp2 => ?_⟩
        have e2 := Ex.new (o := .lst (cutV us none (some ((1 : Nat) : Int)))) hp2
        have l1 : (cutV us (some ((1 : Nat) : Int)) none).length ≤ 12 := by rw [cutV_from, List.length_drop]; omega
        have l2 : (cutV us none (some ((1 : Nat) : Int))).length ≤ 12 := by rw [cutV_to, List.length_take]; omega
        refine ⟨p1, p2, _, _, rfl, rfl, e2 _ _ upd_same, upd_same, Nat.le_trans (Nat.add_le_add l1 l2) (by omega), fun p3 hp3 x dx hx hdx hxy => ?_⟩
        have e3 := Ex.new (o := .lst (cutV us (some ((1 : Nat) : Int)) none ++ cutV us none (some ((1 : Nat) : Int)))) hp3
        have e13 := (e1.trans e2).trans e3
        have hz3 := hz.imp fun _ _ h => h.mono e13
        refine make_plV (zss := zss.drop 1 ++ zss.take 1) n1 n4 (SqL.of upd_same) ((drop_list hz3 1).app (take_list hz3 1)) (rot_ok hok) hx hdx hxy fun C5 r5 c5 _ hpl5 => ?_
        have c35 := e13.trans c5
        obtain ⟨dx5, hob5⟩ := hpl5.ob
        obtain ⟨dxa, hoba⟩ := (hpl.mono c35).ob
        refine ⟨a, x, dxa, dx5, _, _, rfl, rfl, hoba, hob5, a, r, n, zss, x, r5, n, _, rfl, hpl.mono c35, hpl5, fun C6 c6 => ⟨_, rfl, _, rfl, ?_⟩⟩
        rw [decide_eq_false (show ¬ (n = n ∧ zss = zss.drop 1 ++ zss.take 1) from fun h => rot_ne hok (by omega) h.2)]
        exact iteF (q' _ _ ⟨rfl, c35.trans c6⟩)
      · rw [decide_eq_false (show ¬ (1 : Int) < ((us.length : Nat) : Int) by omega)]
        exact iteF (iteF (q' _ _ ⟨rfl, Ex.refl _⟩))
    rintro σ1 HD ⟨rfl, eD⟩
    replace hk := eD _ _ hk
    replace hz : All2 (PlV K HD) us zss := hz.imp fun _ _ h => h.mono eD
    replace hpl := hpl.mono eD
    replace dA := dra_ex dA eD
    replace hg : PvAt HD n p gs := ⟨eD _ _ hg.1, hg.2⟩
    clear eD
    -- ranks
    have zl : ∀ zs ∈ zss, zs.length = n + 1 := fun zs h => (hok.2.1 zs h).1
    have zb : ∀ zs ∈ zss, ∀ z ∈ zs, z.natAbs < 2 ^ 10 := fun zs h z hz => by have := (hok.2.1 zs h).2.1 z hz; omega
    refine seqA ?_
    refine ⟨_, rfl, _, rfl, k, rfl, ⟨_, SqL.of hk⟩, fun D hD => ?_⟩
    refine lc_acc (l := none) (wk_list (K := K) (fun z => nomatch z) (SqL.of hk)) hD (fun i acc H' => All2 (PlV K H') acc ((zss.map (List.take n)).take i)) .nil (fun _ _ _ _ e h => h.imp fun _ _ h => h.mono e) ?_ ?_
    · rintro i x H5 acc hi e5 hy hl' ha' hx
      obtain ⟨zs, hzs⟩ : ∃ zs, zss[i]? = some zs := ⟨_, List.getElem?_eq_getElem (by omega)⟩
      have hpx := (hz.2 i x zs hx hzs).mono e5.ex
      refine ⟨rfl, ?_⟩
      refine ⟨_, rfl, _, rfl, _, rfl, take_pl hpx fun H6 u6 e6 h6 => ?_⟩
      refine LcP.push hD (e5.trans (Exo.of e6)) (e6 _ _ hy) hl' (by omega) ?_
      rw [List.take_add_one, List.getElem?_map, hzs]
      exact (ha'.imp fun _ _ h => plv_upd (h.mono e6) (e6 _ _ hy)).app (.cons (plv_upd h6 (e6 _ _ hy)) .nil)
    rintro H5 ys e5 hy ha5
    rw [show us.length = (zss.map (List.take n)).length by rw [List.length_map]; exact lus, List.take_length] at ha5
    have tl : ∀ zs ∈ zss.map (List.take n), zs.length = n := fun zs h => by
      obtain ⟨y, hy2, rfl⟩ := List.mem_map.mp h
      rw [List.length_take, zl y hy2]
      omega
    refine ⟨D, ys, _, rfl, SqL.of hy, ha5, by rw [List.length_map]; omega, fun zs h => by rw [tl zs h]; omega, fun H7 l7 xs7 e7 hl7 hn7 => ?_⟩
    refine ⟨l7, n, xs7, _, rfl, SqL.of hl7, hn7, by rw [List.length_map]; omega, by omega, tl, fun zs h z hz2 => ?_, fun H8 l8 xs8 e8 hl8 hlen8 => ?_⟩
    · obtain ⟨y, hy2, rfl⟩ := List.mem_map.mp h
      exact zb y hy2 z (List.mem_of_mem_take hz2)
    have e08 := (e5.ex.trans e7).trans e8
    have hlen8 : xs8.length = rankL n zss := hlen8
    -- whole
    refine ⟨_, rfl, _, _, rfl, rfl, _, rfl, k, us, zss, rfl, SqL.of (e08 _ _ hk), hz.imp fun _ _ h => h.mono e08, by omega, fun zs h => by rw [zl zs h]; omega, fun H9 l9 xs9 e9 hl9 hn9 => ?_⟩
    refine ⟨l9, n + 1, xs9, zss, rfl, SqL.of hl9, hn9, by omega, by omega, zl, zb, fun H10 l10 xs10 e10 hl10 hlen10 => ?_⟩
    have e010 := e08.trans (e9.trans e10)
    have hpl10 := hpl.mono e010
    obtain ⟨dx10, hob10⟩ := hpl10.ob
    have hl810 := (e9.trans e10) _ _ hl8
    have rk1 : rankL n zss ≤ n := piv_le _ n
    have up : (5 : Nat) < 2 ^ 1000 := Nat.lt_of_lt_of_le (by decide : (5 : Nat) < 2 ^ 3) (Nat.pow_le_pow_right (by decide) (by decide))
    refine ⟨_, rfl, a, dx10, _, rfl, hob10, pflds_no _ _ (by decide +kernel) (by decide +kernel), a, r, n, zss, rfl, hpl10, fun H11 e11 => ⟨_, .int (rankL n zss : Nat), rfl, .int _, show_nat (by omega), ?_⟩⟩
    refine ⟨_, rfl, l8, xs8, rfl, .inl (SqL.of (e11 _ _ hl810)), _, .int (xs8.length : Nat), rfl, .int _, show_nat (by omega), rfl, _, rfl, ?_⟩
    rw [neD (show PyData.int (rankL n zss : Nat) = PyData.int (xs8.length : Nat) by rw [hlen8])]
    refine iteF ?_
    have hpl11 := hpl10.mono e11
    obtain ⟨dx11, hob11⟩ := hpl11.ob
    refine ⟨_, rfl, a, dx11, _, rfl, hob11, pflds_no _ _ (by decide +kernel) (by decide +kernel), a, r, n, zss, rfl, hpl11, fun H12 e12 => ⟨_, .bool (cenL n zss), rfl, .bl _, show_bool _, ?_⟩⟩
    refine ⟨_, rfl, l8, xs8, rfl, .inl (SqL.of ((e11.trans e12) _ _ hl810)), _, rfl, l10, xs10, rfl, .inl (SqL.of ((e11.trans e12) _ _ hl10)), rfl, ?_⟩
    have cen : cenL n zss = decide (V.int ((xs8.length : Nat) : Int) = V.int ((xs10.length : Nat) : Int)) := by
      rw [cen_eq zl, hlen8, hlen10, decide_eq_decide]
      exact ⟨fun h => by rw [h], fun h => by have := V.int.inj h; omega⟩
    refine ⟨_, .bool (decide (V.int ((xs8.length : Nat) : Int) = V.int ((xs10.length : Nat) : Int))), rfl, .bl _, show_bool _, rfl, _, rfl, ?_⟩
    rw [neD (show PyData.bool (cenL n zss) = PyData.bool _ by rw [cen])]
    refine iteF ?_
    have e012 := e010.trans (e11.trans e12)
    replace hk := e012 _ _ hk
    replace hz : All2 (PlV K H12) us zss := hz.imp fun _ _ h => h.mono e012
    replace hpl := hpl.mono e012
    replace dA := dra_ex dA e012
    replace hg : PvAt H12 n p gs := ⟨e012 _ _ hg.1, hg.2⟩
    clear hl810 hpl10 hpl11 hob10 hob11 e012 e010 e08 e11 e12 e10 e9 e8 e7 e5
    change Ends.nx _ _ _
    dsimp only
    -- parts
    refine ⟨_, rfl, _, rfl, _, rfl, _, rfl, l, k, a, r, n, us, zss, rfl, dA, nkl, nrl, hk, hz, hpl, fun H13 w13 => ⟨_, rfl, iteF ?_⟩⟩
    replace hk := w13.1 _ _ nkl hk
    replace hz : All2 (PlV K H13) us zss := hz.imp fun _ _ h => mv_plv dA w13 h
    replace hpl := hpl.mv dA w13 nrl
    replace hg : PvAt H13 n p gs := ⟨w13.1 _ _ np hg.1, hg.2⟩
    replace dA := w13.2
    clear w13
    obtain ⟨dxB, hobB⟩ := hpl.ob
    refine ⟨_, rfl, a, dxB, _, rfl, hobB, pflds_no _ _ (by decide +kernel) (by decide +kernel), a, r, n, zss, rfl, hpl, fun C1 g us1 c1 hg1 hz1 _ => ?_⟩
    refine ⟨_, rfl, .list (zss.map tupD), .list (zss.map tupD), .lst (SqL.of hg1) (dpAll_pls hz1), .lst (SqL.of (c1 _ _ hk)) (dpAll_pls (hz.imp fun _ _ h => h.mono c1)), sh.1, sh.2.1, _, rfl, ?_⟩
    rw [sh.2.2]
    refine iteF ?_
    refine ⟨_, rfl, _, rfl, k, n, us, zss, rfl, n1, n4, c1 _ _ hk, hz.imp fun _ _ h => h.mono c1, hok, by omega, fun C2 c2 => ⟨_, rfl, iteF ?_⟩⟩
    have c02 := c1.trans c2
    replace dA := dra_ex dA c02
    replace hg : PvAt C2 n p gs := ⟨c02 _ _ hg.1, hg.2⟩
    clear hg1 hz1 hobB hpl hz hk c02 c1 c2
    -- a plane
    refine ⟨_, rfl, _, rfl, _, rfl, l, p, n, gs, rfl, dA, n1, n4, hg, np, fun C3 v3 zs3 m3 hv3 hP3 => ?_⟩
    have b3 : bdI 70 zs3 := fun z hz => by
      have := hP3.2.1 z hz
      have h70 : (2 : Nat) ^ 70 = 1180591620717411303424 := by decide
      omega
    have l3 : zs3.length = n + 1 := hP3.1
    change Ends.nx _ _ _
    dsimp only
    -- spoilt once and twice
    refine ⟨_, rfl, _, rfl, _, rfl, l, v3, zs3, 70, rfl, m3.2, hv3, by omega, by omega, by decide, by decide, b3, fun C4 v4 ws4 m4 hv4 a4 a4' b4 => ?_⟩
    have hv34 := mv_plv m3.2 m4 hv3
    refine ⟨_, rfl, _, rfl, _, rfl, l, v3, zs3, 70, rfl, m4.2, hv34, by omega, by omega, by decide, by decide, b3, fun C5 v5 ws5 m5 hv5 a5 a5' b5 => ?_⟩
    have hv35 := mv_plv m4.2 m5 hv34
    have hv45 := mv_plv m4.2 m5 hv4
    refine ⟨l, v5, ws5, 73, rfl, m5.2, hv5, by omega, by omega, by decide, by decide, b5, fun C6 v6 ws6 m6 hv6 a6 a6' b6 => ?_⟩
    have hv36 := mv_plv m5.2 m6 hv35
    have hv46 := mv_plv m5.2 m6 hv45
    refine ⟨by show (3 : Nat) ≤ sizeLine; omega, fun pL hpL => ?_⟩
    have e7 := Ex.new (o := .lst [v3, v4, v6]) hpL
    have hL : SqL K (upd C6 pL (.lst [v3, v4, v6])) pL [v3, v4, v6] := SqL.of upd_same
    have all3 : All2 (PlV K (upd C6 pL (.lst [v3, v4, v6]))) [v3, v4, v6] [zs3, ws4, ws6] := .cons (hv36.mono e7) (.cons (hv46.mono e7) (.cons (hv6.mono e7) .nil))
    have props : ∀ ws ∈ [zs3, ws4, ws6], ws.length ≤ 10 ∧ bdI 100 ws := fun ws h => by
      simp only [List.mem_cons, List.not_mem_nil, or_false] at h
      rcases h with h | h | h
      · rw [h]
        exact ⟨by omega, b3.up (by decide)⟩
      · rw [h]
        exact ⟨by omega, b4.up (by decide)⟩
      · rw [h]
        exact ⟨by omega, b6.up (by decide)⟩
    generalize upd C6 pL (.lst [v3, v4, v6]) = C7 at hL all3 ⊢
    clear e7 hpL hv36 hv46 hv35 hv45 hv34 hv6 hv5 hv4 hv3 m6 m5 m4 m3 hg dA
    refine ⟨pL, rfl, ⟨_, hL⟩, for_list (K := K) (a := pL) (xs := [v3, v4, v6]) (fun i σ H' => ∃ c d, σ = [some (.ref sc), some (.ref l), some (.int n), some (.ref f), some (.ref p), some (.ref k), some (.ref a), some (.ref t), some (.ref l8), some v3, some (.ref l10), c, d] ∧ Ex C7 H') ⟨none, none, rfl, Ex.refl _⟩ (fun i σ H' _ ⟨_, _, _, e⟩ => ex_l e hL) ?_ ?_⟩
    · rintro i x σ H8 hi ⟨c, d, rfl, e8⟩
      obtain ⟨ws, hws⟩ : ∃ ws, [zs3, ws4, ws6][i]? = some ws := ⟨_, List.getElem?_eq_getElem (by rw [← all3.1]; exact (List.getElem?_eq_some_iff.mp hi).1)⟩
      obtain ⟨lw, bw⟩ := props ws (List.mem_of_getElem? hws)
      have hx := (all3.2 i x ws hi hws).mono e8
      have big : ∀ z ∈ ws, z.natAbs < 2 ^ 1000 := fun z h => Nat.lt_of_lt_of_le (bw z h) (Nat.pow_le_pow_right (by decide) (by decide))
      refine ⟨_, rfl, _, rfl, n, x, ws, rfl, hx, by omega, fun z h => Nat.lt_of_lt_of_le (bw z h) (Nat.pow_le_pow_right (by decide) (by decide)), fun H9 e9 => ?_⟩
      refine ⟨_, rfl, _, rfl, n, x, ws, rfl, hx.mono e9, by omega, fun h => absurd (show 1 ≤ (n : Int) ∧ (n : Int) ≤ 4 by omega) h, fun m hm _ _ H10 e10 => ?_⟩
      obtain rfl : n = m := Int.ofNat.inj hm
      refine ⟨_, .bool (decide (Pl n ws)), rfl, .bl _, show_bool _, ?_⟩
      refine ⟨_, rfl, _, .bool (decide (Pl n ws)), rfl, .bl _, show_bool _, rfl, _, rfl, ?_⟩
      rw [neD rfl]
      refine iteF ?_
      have hx10 := (hx.mono e9).mono e10
      refine ⟨_, rfl, _, rfl, by show (1 : Nat) ≤ sizeLine; omega, fun p11 hp11 => ?_⟩
      have e11 := Ex.new (o := .lst [x]) hp11
      have hx11 := hx10.mono e11
      dsimp only [tNil]
      by_cases hP : Pl n ws
      · refine toldP (zss := [ws]) (SqL.of upd_same) (.cons hx11 .nil) n1 n4 (one_plane.mpr hP) fun H12 g us12 e12 hg12 hz12 _ => ?_
        refine ⟨_, .list [tupD ws], rfl, .lst (SqL.of hg12) (dpAll_pls hz12), show_tupL big (by omega), ?_⟩
        refine ⟨_, rfl, _, rfl, ?_⟩
        rw [decide_eq_true hP]
        refine iteT ⟨_, rfl, by show (1 : Nat) ≤ sizeLine; omega, fun p13 hp13 => ?_⟩
        have e13 := Ex.new (o := .lst [x]) hp13
        refine ⟨_, .list [tupD ws], rfl, .lst (SqL.of upd_same) (dpAll_pls (.cons ((hx11.mono e12).mono e13) .nil)), show_tupL big (by omega), rfl, _, rfl, ?_⟩
        rw [neD rfl]
        exact iteF ⟨_, _, rfl, e8.trans (e9.trans (e10.trans (e11.trans (e12.trans e13))))⟩
      · refine toldN (zss := [ws]) (SqL.of upd_same) (.cons hx11 .nil) (by show (1 : Nat) ≤ 1000; decide) (fun y h => by rw [List.mem_singleton.mp h]; omega) n1 n4 (fun h => hP (one_plane.mp h)) fun H12 e12 => ?_
        refine ⟨_, .str tN, rfl, .str _, show_tN, ?_⟩
        refine ⟨_, rfl, _, rfl, ?_⟩
        rw [decide_eq_false hP]
        refine iteF ?_
        refine ⟨_, .str tN, rfl, .str _, show_tN, rfl, _, rfl, ?_⟩
        rw [neD rfl]
        exact iteF ⟨_, _, rfl, e8.trans (e9.trans (e10.trans (e11.trans e12)))⟩
    · rintro σ H8 ⟨c, d, rfl, e8⟩
      exact q _

end
theorem all_mk {l : PySem.W.OpenLaw} {w : World} {K : PySem.W.Frag} {h : Heap} {mg : Str → Option Value} {fa q2 q3 q4 q6 q7 q8 q10 q11 q12 q17 q18 q19 q20 q21 q22 q23 q24 q26 q27 q28 q29 q30 q32 q33 q36 q37 q39 q40 q41 q43 q44 q45 q46 q47 q48 q49 q50 q1460 q1461 q1462 q1463 q1464 q1465 q1466 q1467 q1468 : Addr} (X : K.In h) (G : h.Ns mainGlobals mg) (hfa : mg "law" = some (.ref fa))
  {oc6 kV6 dc6 pm6 cd6 ct6 : Value} {od6 an6 : Option Addr} {sl6 : Array (Option Value)}
  {oc7 kV7 dc7 pm7 cd7 ct7 : Value} {od7 an7 : Option Addr} {sl7 : Array (Option Value)}
  {oc8 kV8 dc8 pm8 cd8 ct8 : Value} {od8 an8 : Option Addr} {sl8 : Array (Option Value)}
  {oc10 kV10 dc10 pm10 cd10 ct10 : Value} {od10 an10 : Option Addr} {sl10 : Array (Option Value)}
  {oc11 kV11 dc11 pm11 cd11 ct11 : Value} {od11 an11 : Option Addr} {sl11 : Array (Option Value)}
  {oc12 kV12 dc12 pm12 cd12 ct12 : Value} {od12 an12 : Option Addr} {sl12 : Array (Option Value)}
  {oc17 kV17 dc17 pm17 cd17 ct17 : Value} {od17 an17 : Option Addr} {sl17 : Array (Option Value)}
  {oc18 kV18 dc18 pm18 cd18 ct18 : Value} {od18 an18 : Option Addr} {sl18 : Array (Option Value)}
  {oc19 kV19 dc19 pm19 cd19 ct19 : Value} {od19 an19 : Option Addr} {sl19 : Array (Option Value)}
  {oc20 kV20 dc20 pm20 cd20 ct20 : Value} {od20 an20 : Option Addr} {sl20 : Array (Option Value)}
  {oc21 kV21 dc21 pm21 cd21 ct21 : Value} {od21 an21 : Option Addr} {sl21 : Array (Option Value)}
  {oc22 kV22 dc22 pm22 cd22 ct22 : Value} {od22 an22 : Option Addr} {sl22 : Array (Option Value)}
  {oc24 kV24 dc24 pm24 cd24 ct24 : Value} {od24 an24 : Option Addr} {sl24 : Array (Option Value)}
  {oc26 kV26 dc26 pm26 cd26 ct26 : Value} {od26 an26 : Option Addr} {sl26 : Array (Option Value)}
  {oc27 kV27 dc27 pm27 cd27 ct27 : Value} {od27 an27 : Option Addr} {sl27 : Array (Option Value)}
  {oc28 kV28 dc28 pm28 cd28 ct28 : Value} {od28 an28 : Option Addr} {sl28 : Array (Option Value)}
  {oc29 kV29 dc29 pm29 cd29 ct29 : Value} {od29 an29 : Option Addr} {sl29 : Array (Option Value)}
  {oc30 kV30 dc30 pm30 cd30 ct30 : Value} {od30 an30 : Option Addr} {sl30 : Array (Option Value)}
  {oc32 kV32 dc32 pm32 cd32 ct32 : Value} {od32 an32 : Option Addr} {sl32 : Array (Option Value)}
  {oc33 kV33 dc33 pm33 cd33 ct33 : Value} {od33 an33 : Option Addr} {sl33 : Array (Option Value)}
  {oc36 kV36 dc36 pm36 cd36 ct36 : Value} {od36 an36 : Option Addr} {sl36 : Array (Option Value)}
  {oc37 kV37 dc37 pm37 cd37 ct37 : Value} {od37 an37 : Option Addr} {sl37 : Array (Option Value)}
  {oc39 kV39 dc39 pm39 cd39 ct39 : Value} {od39 an39 : Option Addr} {sl39 : Array (Option Value)}
  {oc40 kV40 dc40 pm40 cd40 ct40 : Value} {od40 an40 : Option Addr} {sl40 : Array (Option Value)}
  {oc41 kV41 dc41 pm41 cd41 ct41 : Value} {od41 an41 : Option Addr} {sl41 : Array (Option Value)}
  {oc43 kV43 dc43 pm43 cd43 ct43 : Value} {od43 an43 : Option Addr} {sl43 : Array (Option Value)}
  {oc44 kV44 dc44 pm44 cd44 ct44 : Value} {od44 an44 : Option Addr} {sl44 : Array (Option Value)}
  {oc45 kV45 dc45 pm45 cd45 ct45 : Value} {od45 an45 : Option Addr} {sl45 : Array (Option Value)}
  {oc46 kV46 dc46 pm46 cd46 ct46 : Value} {od46 an46 : Option Addr} {sl46 : Array (Option Value)}
  {oc47 kV47 dc47 pm47 cd47 ct47 : Value} {od47 an47 : Option Addr} {sl47 : Array (Option Value)}
  {oc48 kV48 dc48 pm48 cd48 ct48 : Value} {od48 an48 : Option Addr} {sl48 : Array (Option Value)}
  {oc49 kV49 dc49 pm49 cd49 ct49 : Value} {od49 an49 : Option Addr} {sl49 : Array (Option Value)}
  {oc50 kV50 dc50 pm50 cd50 ct50 : Value} {od50 an50 : Option Addr} {sl50 : Array (Option Value)}
  {oc1460 kV1460 dc1460 pm1460 cd1460 ct1460 : Value} {od1460 an1460 : Option Addr} {sl1460 : Array (Option Value)}
  {oc1461 kV1461 dc1461 pm1461 cd1461 ct1461 : Value} {od1461 an1461 : Option Addr} {sl1461 : Array (Option Value)}
  {oc1462 kV1462 dc1462 pm1462 cd1462 ct1462 : Value} {od1462 an1462 : Option Addr} {sl1462 : Array (Option Value)}
  {oc1463 kV1463 dc1463 pm1463 cd1463 ct1463 : Value} {od1463 an1463 : Option Addr} {sl1463 : Array (Option Value)}
  {oc1464 kV1464 dc1464 pm1464 cd1464 ct1464 : Value} {od1464 an1464 : Option Addr} {sl1464 : Array (Option Value)}
  {oc1465 kV1465 dc1465 pm1465 cd1465 ct1465 : Value} {od1465 an1465 : Option Addr} {sl1465 : Array (Option Value)}
  {oc1466 kV1466 dc1466 pm1466 cd1466 ct1466 : Value} {od1466 an1466 : Option Addr} {sl1466 : Array (Option Value)}
  {oc1467 kV1467 dc1467 pm1467 cd1467 ct1467 : Value} {od1467 an1467 : Option Addr} {sl1467 : Array (Option Value)}
  {oc1468 kV1468 dc1468 pm1468 cd1468 ct1468 : Value} {od1468 an1468 : Option Addr} {sl1468 : Array (Option Value)}
  {uc14 : Tok}
  {uc15 : Tok}
  {uc16 : Tok}
  (a6 : PySem.W.nsIn K mainGlobals "content" = some (some (.ref q6)))
  (l6 : K.lookup q6 = some ⟨oc6, od6, .func (PySem.W.fnOf "content" "content" (defArgs s_content) (defBody s_content) (defScope s_content) .none kV6 dc6 pm6 an6 cd6 ct6), sl6⟩)
  (c6 : PySem.W.codeIn K cd6 "content" = true)
  (k6 : PySem.W.keepIn K (.ref q6) = true)
  (a7 : PySem.W.nsIn K mainGlobals "primitive" = some (some (.ref q7)))
  (l7 : K.lookup q7 = some ⟨oc7, od7, .func (PySem.W.fnOf "primitive" "primitive" (defArgs s_primitive) (defBody s_primitive) (defScope s_primitive) .none kV7 dc7 pm7 an7 cd7 ct7), sl7⟩)
  (c7 : PySem.W.codeIn K cd7 "primitive" = true)
  (k7 : PySem.W.keepIn K (.ref q7) = true)
  (a8 : PySem.W.nsIn K mainGlobals "negated" = some (some (.ref q8)))
  (l8 : K.lookup q8 = some ⟨oc8, od8, .func (PySem.W.fnOf "negated" "negated" (defArgs s_negated) (defBody s_negated) (defScope s_negated) .none kV8 dc8 pm8 an8 cd8 ct8), sl8⟩)
  (c8 : PySem.W.codeIn K cd8 "negated" = true)
  (k8 : PySem.W.keepIn K (.ref q8) = true)
  (a10 : PySem.W.nsIn K mainGlobals "first_row_with" = some (some (.ref q10)))
  (l10 : K.lookup q10 = some ⟨oc10, od10, .func (PySem.W.fnOf "first_row_with" "first_row_with" (defArgs s_first_row_with) (defBody s_first_row_with) (defScope s_first_row_with) .none kV10 dc10 pm10 an10 cd10 ct10), sl10⟩)
  (c10 : PySem.W.codeIn K cd10 "first_row_with" = true)
  (k10 : PySem.W.keepIn K (.ref q10) = true)
  (a11 : PySem.W.nsIn K mainGlobals "struck" = some (some (.ref q11)))
  (l11 : K.lookup q11 = some ⟨oc11, od11, .func (PySem.W.fnOf "struck" "struck" (defArgs s_struck) (defBody s_struck) (defScope s_struck) .none kV11 dc11 pm11 an11 cd11 ct11), sl11⟩)
  (c11 : PySem.W.codeIn K cd11 "struck" = true)
  (k11 : PySem.W.keepIn K (.ref q11) = true)
  (a12 : PySem.W.nsIn K mainGlobals "whole_echelon" = some (some (.ref q12)))
  (l12 : K.lookup q12 = some ⟨oc12, od12, .func (PySem.W.fnOf "whole_echelon" "whole_echelon" (defArgs s_whole_echelon) (defBody s_whole_echelon) (defScope s_whole_echelon) .none kV12 dc12 pm12 an12 cd12 ct12), sl12⟩)
  (c12 : PySem.W.codeIn K cd12 "whole_echelon" = true)
  (k12 : PySem.W.keepIn K (.ref q12) = true)
  (a17 : PySem.W.nsIn K mainGlobals "check_letters" = some (some (.ref q17)))
  (l17 : K.lookup q17 = some ⟨oc17, od17, .func (PySem.W.fnOf "check_letters" "check_letters" (defArgs s_check_letters) (defBody s_check_letters) (defScope s_check_letters) .none kV17 dc17 pm17 an17 cd17 ct17), sl17⟩)
  (c17 : PySem.W.codeIn K cd17 "check_letters" = true)
  (k17 : PySem.W.keepIn K (.ref q17) = true)
  (a18 : PySem.W.nsIn K mainGlobals "is_plane" = some (some (.ref q18)))
  (l18 : K.lookup q18 = some ⟨oc18, od18, .func (PySem.W.fnOf "is_plane" "is_plane" (defArgs s_is_plane) (defBody s_is_plane) (defScope s_is_plane) .none kV18 dc18 pm18 an18 cd18 ct18), sl18⟩)
  (c18 : PySem.W.codeIn K cd18 "is_plane" = true)
  (k18 : PySem.W.keepIn K (.ref q18) = true)
  (a19 : PySem.W.nsIn K mainGlobals "check_planes" = some (some (.ref q19)))
  (l19 : K.lookup q19 = some ⟨oc19, od19, .func (PySem.W.fnOf "check_planes" "check_planes" (defArgs s_check_planes) (defBody s_check_planes) (defScope s_check_planes) .none kV19 dc19 pm19 an19 cd19 ct19), sl19⟩)
  (c19 : PySem.W.codeIn K cd19 "check_planes" = true)
  (k19 : PySem.W.keepIn K (.ref q19) = true)
  (a20 : PySem.W.nsIn K mainGlobals "check_index" = some (some (.ref q20)))
  (l20 : K.lookup q20 = some ⟨oc20, od20, .func (PySem.W.fnOf "check_index" "check_index" (defArgs s_check_index) (defBody s_check_index) (defScope s_check_index) .none kV20 dc20 pm20 an20 cd20 ct20), sl20⟩)
  (c20 : PySem.W.codeIn K cd20 "check_index" = true)
  (k20 : PySem.W.keepIn K (.ref q20) = true)
  (a21 : PySem.W.nsIn K mainGlobals "ascends" = some (some (.ref q21)))
  (l21 : K.lookup q21 = some ⟨oc21, od21, .func (PySem.W.fnOf "ascends" "ascends" (defArgs s_ascends) (defBody s_ascends) (defScope s_ascends) .none kV21 dc21 pm21 an21 cd21 ct21), sl21⟩)
  (c21 : PySem.W.codeIn K cd21 "ascends" = true)
  (k21 : PySem.W.keepIn K (.ref q21) = true)
  (a22 : PySem.W.nsIn K mainGlobals "check_indexes" = some (some (.ref q22)))
  (l22 : K.lookup q22 = some ⟨oc22, od22, .func (PySem.W.fnOf "check_indexes" "check_indexes" (defArgs s_check_indexes) (defBody s_check_indexes) (defScope s_check_indexes) .none kV22 dc22 pm22 an22 cd22 ct22), sl22⟩)
  (c22 : PySem.W.codeIn K cd22 "check_indexes" = true)
  (k22 : PySem.W.keepIn K (.ref q22) = true)
  (a24 : PySem.W.nsIn K mainGlobals "letter_rows" = some (some (.ref q24)))
  (l24 : K.lookup q24 = some ⟨oc24, od24, .func (PySem.W.fnOf "letter_rows" "letter_rows" (defArgs s_letter_rows) (defBody s_letter_rows) (defScope s_letter_rows) .none kV24 dc24 pm24 an24 cd24 ct24), sl24⟩)
  (c24 : PySem.W.codeIn K cd24 "letter_rows" = true)
  (k24 : PySem.W.keepIn K (.ref q24) = true)
  (a26 : PySem.W.nsIn K mainGlobals "_law_number" = some (some (.ref q26)))
  (l26 : K.lookup q26 = some ⟨oc26, od26, .func (PySem.W.fnOf "_law_number" "_law_number" (defArgs s__law_number) (defBody s__law_number) (defScope s__law_number) .none kV26 dc26 pm26 an26 cd26 ct26), sl26⟩)
  (c26 : PySem.W.codeIn K cd26 "_law_number" = true)
  (k26 : PySem.W.keepIn K (.ref q26) = true)
  (a27 : PySem.W.nsIn K mainGlobals "_law_draws" = some (some (.ref q27)))
  (l27 : K.lookup q27 = some ⟨oc27, od27, .func (PySem.W.fnOf "_law_draws" "_law_draws" (defArgs s__law_draws) (defBody s__law_draws) (defScope s__law_draws) .none kV27 dc27 pm27 an27 cd27 ct27), sl27⟩)
  (c27 : PySem.W.codeIn K cd27 "_law_draws" = true)
  (k27 : PySem.W.keepIn K (.ref q27) = true)
  (a28 : PySem.W.nsIn K mainGlobals "_law_next" = some (some (.ref q28)))
  (l28 : K.lookup q28 = some ⟨oc28, od28, .func (PySem.W.fnOf "_law_next" "_law_next" (defArgs s__law_next) (defBody s__law_next) (defScope s__law_next) .none kV28 dc28 pm28 an28 cd28 ct28), sl28⟩)
  (c28 : PySem.W.codeIn K cd28 "_law_next" = true)
  (k28 : PySem.W.keepIn K (.ref q28) = true)
  (a29 : PySem.W.nsIn K mainGlobals "_law_divisor" = some (some (.ref q29)))
  (l29 : K.lookup q29 = some ⟨oc29, od29, .func (PySem.W.fnOf "_law_divisor" "_law_divisor" (defArgs s__law_divisor) (defBody s__law_divisor) (defScope s__law_divisor) .none kV29 dc29 pm29 an29 cd29 ct29), sl29⟩)
  (c29 : PySem.W.codeIn K cd29 "_law_divisor" = true)
  (k29 : PySem.W.keepIn K (.ref q29) = true)
  (a30 : PySem.W.nsIn K mainGlobals "_law_lowest" = some (some (.ref q30)))
  (l30 : K.lookup q30 = some ⟨oc30, od30, .func (PySem.W.fnOf "_law_lowest" "_law_lowest" (defArgs s__law_lowest) (defBody s__law_lowest) (defScope s__law_lowest) .none kV30 dc30 pm30 an30 cd30 ct30), sl30⟩)
  (c30 : PySem.W.codeIn K cd30 "_law_lowest" = true)
  (k30 : PySem.W.keepIn K (.ref q30) = true)
  (a32 : PySem.W.nsIn K mainGlobals "_law_times" = some (some (.ref q32)))
  (l32 : K.lookup q32 = some ⟨oc32, od32, .func (PySem.W.fnOf "_law_times" "_law_times" (defArgs s__law_times) (defBody s__law_times) (defScope s__law_times) .none kV32 dc32 pm32 an32 cd32 ct32), sl32⟩)
  (c32 : PySem.W.codeIn K cd32 "_law_times" = true)
  (k32 : PySem.W.keepIn K (.ref q32) = true)
  (a33 : PySem.W.nsIn K mainGlobals "_law_less" = some (some (.ref q33)))
  (l33 : K.lookup q33 = some ⟨oc33, od33, .func (PySem.W.fnOf "_law_less" "_law_less" (defArgs s__law_less) (defBody s__law_less) (defScope s__law_less) .none kV33 dc33 pm33 an33 cd33 ct33), sl33⟩)
  (c33 : PySem.W.codeIn K cd33 "_law_less" = true)
  (k33 : PySem.W.keepIn K (.ref q33) = true)
  (a36 : PySem.W.nsIn K mainGlobals "_law_plane" = some (some (.ref q36)))
  (l36 : K.lookup q36 = some ⟨oc36, od36, .func (PySem.W.fnOf "_law_plane" "_law_plane" (defArgs s__law_plane) (defBody s__law_plane) (defScope s__law_plane) .none kV36 dc36 pm36 an36 cd36 ct36), sl36⟩)
  (c36 : PySem.W.codeIn K cd36 "_law_plane" = true)
  (k36 : PySem.W.keepIn K (.ref q36) = true)
  (a37 : PySem.W.nsIn K mainGlobals "_law_planes" = some (some (.ref q37)))
  (l37 : K.lookup q37 = some ⟨oc37, od37, .func (PySem.W.fnOf "_law_planes" "_law_planes" (defArgs s__law_planes) (defBody s__law_planes) (defScope s__law_planes) .none kV37 dc37 pm37 an37 cd37 ct37), sl37⟩)
  (c37 : PySem.W.codeIn K cd37 "_law_planes" = true)
  (k37 : PySem.W.keepIn K (.ref q37) = true)
  (a39 : PySem.W.nsIn K mainGlobals "_law_over" = some (some (.ref q39)))
  (l39 : K.lookup q39 = some ⟨oc39, od39, .func (PySem.W.fnOf "_law_over" "_law_over" (defArgs s__law_over) (defBody s__law_over) (defScope s__law_over) .none kV39 dc39 pm39 an39 cd39 ct39), sl39⟩)
  (c39 : PySem.W.codeIn K cd39 "_law_over" = true)
  (k39 : PySem.W.keepIn K (.ref q39) = true)
  (a40 : PySem.W.nsIn K mainGlobals "_law_echelon" = some (some (.ref q40)))
  (l40 : K.lookup q40 = some ⟨oc40, od40, .func (PySem.W.fnOf "_law_echelon" "_law_echelon" (defArgs s__law_echelon) (defBody s__law_echelon) (defScope s__law_echelon) .none kV40 dc40 pm40 an40 cd40 ct40), sl40⟩)
  (c40 : PySem.W.codeIn K cd40 "_law_echelon" = true)
  (k40 : PySem.W.keepIn K (.ref q40) = true)
  (a41 : PySem.W.nsIn K mainGlobals "_law_taken" = some (some (.ref q41)))
  (l41 : K.lookup q41 = some ⟨oc41, od41, .func (PySem.W.fnOf "_law_taken" "_law_taken" (defArgs s__law_taken) (defBody s__law_taken) (defScope s__law_taken) .none kV41 dc41 pm41 an41 cd41 ct41), sl41⟩)
  (c41 : PySem.W.codeIn K cd41 "_law_taken" = true)
  (k41 : PySem.W.keepIn K (.ref q41) = true)
  (a43 : PySem.W.nsIn K mainGlobals "_law_is_plane" = some (some (.ref q43)))
  (l43 : K.lookup q43 = some ⟨oc43, od43, .func (PySem.W.fnOf "_law_is_plane" "_law_is_plane" (defArgs s__law_is_plane) (defBody s__law_is_plane) (defScope s__law_is_plane) .none kV43 dc43 pm43 an43 cd43 ct43), sl43⟩)
  (c43 : PySem.W.codeIn K cd43 "_law_is_plane" = true)
  (k43 : PySem.W.keepIn K (.ref q43) = true)
  (a44 : PySem.W.nsIn K mainGlobals "_law_spoilt" = some (some (.ref q44)))
  (l44 : K.lookup q44 = some ⟨oc44, od44, .func (PySem.W.fnOf "_law_spoilt" "_law_spoilt" (defArgs s__law_spoilt) (defBody s__law_spoilt) (defScope s__law_spoilt) .none kV44 dc44 pm44 an44 cd44 ct44), sl44⟩)
  (c44 : PySem.W.codeIn K cd44 "_law_spoilt" = true)
  (k44 : PySem.W.keepIn K (.ref q44) = true)
  (a45 : PySem.W.nsIn K mainGlobals "_law_told" = some (some (.ref q45)))
  (l45 : K.lookup q45 = some ⟨oc45, od45, .func (PySem.W.fnOf "_law_told" "_law_told" (defArgs s__law_told) (defBody s__law_told) (defScope s__law_told) .none kV45 dc45 pm45 an45 cd45 ct45), sl45⟩)
  (c45 : PySem.W.codeIn K cd45 "_law_told" = true)
  (k45 : PySem.W.keepIn K (.ref q45) = true)
  (a46 : PySem.W.nsIn K mainGlobals "_law_method" = some (some (.ref q46)))
  (l46 : K.lookup q46 = some ⟨oc46, od46, .func (PySem.W.fnOf "_law_method" "_law_method" (defArgs s__law_method) (defBody s__law_method) (defScope s__law_method) .none kV46 dc46 pm46 an46 cd46 ct46), sl46⟩)
  (c46 : PySem.W.codeIn K cd46 "_law_method" = true)
  (k46 : PySem.W.keepIn K (.ref q46) = true)
  (a47 : PySem.W.nsIn K mainGlobals "_law_numbers" = some (some (.ref q47)))
  (l47 : K.lookup q47 = some ⟨oc47, od47, .func (PySem.W.fnOf "_law_numbers" "_law_numbers" (defArgs s__law_numbers) (defBody s__law_numbers) (defScope s__law_numbers) .none kV47 dc47 pm47 an47 cd47 ct47), sl47⟩)
  (c47 : PySem.W.codeIn K cd47 "_law_numbers" = true)
  (k47 : PySem.W.keepIn K (.ref q47) = true)
  (a48 : PySem.W.nsIn K mainGlobals "_law_parts" = some (some (.ref q48)))
  (l48 : K.lookup q48 = some ⟨oc48, od48, .func (PySem.W.fnOf "_law_parts" "_law_parts" (defArgs s__law_parts) (defBody s__law_parts) (defScope s__law_parts) .none kV48 dc48 pm48 an48 cd48 ct48), sl48⟩)
  (c48 : PySem.W.codeIn K cd48 "_law_parts" = true)
  (k48 : PySem.W.keepIn K (.ref q48) = true)
  (a49 : PySem.W.nsIn K mainGlobals "_law_lists" = some (some (.ref q49)))
  (l49 : K.lookup q49 = some ⟨oc49, od49, .func (PySem.W.fnOf "_law_lists" "_law_lists" (defArgs s__law_lists) (defBody s__law_lists) (defScope s__law_lists) .none kV49 dc49 pm49 an49 cd49 ct49), sl49⟩)
  (c49 : PySem.W.codeIn K cd49 "_law_lists" = true)
  (k49 : PySem.W.keepIn K (.ref q49) = true)
  (a50 : PySem.W.nsIn K mainGlobals "law" = some (some (.ref q50)))
  (l50 : K.lookup q50 = some ⟨oc50, od50, .func (PySem.W.fnOf "law" "law" (defArgs s_law) (defBody s_law) (defScope s_law) .none kV50 dc50 pm50 an50 cd50 ct50), sl50⟩)
  (c50 : PySem.W.codeIn K cd50 "law" = true)
  (k50 : PySem.W.keepIn K (.ref q50) = true)
  (a23 : PySem.W.nsIn K mainGlobals "Planes" = some (some (.ref q23)))
  (a1460 : PySem.W.findIn K (.ref q23) "__init__" = some (some (.ref q1460)))
  (i1460 : PySem.W.isFn K (.ref q1460) = true)
  (l1460 : K.lookup q1460 = some ⟨oc1460, od1460, .func (PySem.W.fnOf "__init__" "Planes.__init__" (defArgs s_Planes_init) (defBody s_Planes_init) (defScope s_Planes_init) .none kV1460 dc1460 pm1460 an1460 cd1460 ct1460), sl1460⟩)
  (c1460 : PySem.W.codeIn K cd1460 "Planes.__init__" = true)
  (k1460 : PySem.W.keepIn K (.ref q1460) = true)
  (mk23 : PySem.W.makesIn K q23 = true)
  (kc23 : PySem.W.keepIn K (.ref q23) = true)
  (a1461 : PySem.W.findIn K (.ref q23) "__len__" = some (some (.ref q1461)))
  (i1461 : PySem.W.isFn K (.ref q1461) = true)
  (l1461 : K.lookup q1461 = some ⟨oc1461, od1461, .func (PySem.W.fnOf "__len__" "Planes.__len__" (defArgs s_Planes_len) (defBody s_Planes_len) (defScope s_Planes_len) .none kV1461 dc1461 pm1461 an1461 cd1461 ct1461), sl1461⟩)
  (c1461 : PySem.W.codeIn K cd1461 "Planes.__len__" = true)
  (k1461 : PySem.W.keepIn K (.ref q1461) = true)
  (a1462 : PySem.W.findIn K (.ref q23) "__eq__" = some (some (.ref q1462)))
  (i1462 : PySem.W.isFn K (.ref q1462) = true)
  (l1462 : K.lookup q1462 = some ⟨oc1462, od1462, .func (PySem.W.fnOf "__eq__" "Planes.__eq__" (defArgs s_Planes_eq) (defBody s_Planes_eq) (defScope s_Planes_eq) .none kV1462 dc1462 pm1462 an1462 cd1462 ct1462), sl1462⟩)
  (c1462 : PySem.W.codeIn K cd1462 "Planes.__eq__" = true)
  (k1462 : PySem.W.keepIn K (.ref q1462) = true)
  (a1463 : PySem.W.findIn K (.ref q23) "planes" = some (some (.ref q1463)))
  (i1463 : PySem.W.isFn K (.ref q1463) = true)
  (l1463 : K.lookup q1463 = some ⟨oc1463, od1463, .func (PySem.W.fnOf "planes" "Planes.planes" (defArgs s_Planes_planes) (defBody s_Planes_planes) (defScope s_Planes_planes) .none kV1463 dc1463 pm1463 an1463 cd1463 ct1463), sl1463⟩)
  (c1463 : PySem.W.codeIn K cd1463 "Planes.planes" = true)
  (k1463 : PySem.W.keepIn K (.ref q1463) = true)
  (a1464 : PySem.W.findIn K (.ref q23) "rank" = some (some (.ref q1464)))
  (i1464 : PySem.W.isFn K (.ref q1464) = true)
  (l1464 : K.lookup q1464 = some ⟨oc1464, od1464, .func (PySem.W.fnOf "rank" "Planes.rank" (defArgs s_Planes_rank) (defBody s_Planes_rank) (defScope s_Planes_rank) .none kV1464 dc1464 pm1464 an1464 cd1464 ct1464), sl1464⟩)
  (c1464 : PySem.W.codeIn K cd1464 "Planes.rank" = true)
  (k1464 : PySem.W.keepIn K (.ref q1464) = true)
  (a1465 : PySem.W.findIn K (.ref q23) "is_central" = some (some (.ref q1465)))
  (i1465 : PySem.W.isFn K (.ref q1465) = true)
  (l1465 : K.lookup q1465 = some ⟨oc1465, od1465, .func (PySem.W.fnOf "is_central" "Planes.is_central" (defArgs s_Planes_is_central) (defBody s_Planes_is_central) (defScope s_Planes_is_central) .none kV1465 dc1465 pm1465 an1465 cd1465 ct1465), sl1465⟩)
  (c1465 : PySem.W.codeIn K cd1465 "Planes.is_central" = true)
  (k1465 : PySem.W.keepIn K (.ref q1465) = true)
  (a1466 : PySem.W.findIn K (.ref q23) "without" = some (some (.ref q1466)))
  (i1466 : PySem.W.isFn K (.ref q1466) = true)
  (l1466 : K.lookup q1466 = some ⟨oc1466, od1466, .func (PySem.W.fnOf "without" "Planes.without" (defArgs s_Planes_without) (defBody s_Planes_without) (defScope s_Planes_without) .none kV1466 dc1466 pm1466 an1466 cd1466 ct1466), sl1466⟩)
  (c1466 : PySem.W.codeIn K cd1466 "Planes.without" = true)
  (k1466 : PySem.W.keepIn K (.ref q1466) = true)
  (a1467 : PySem.W.findIn K (.ref q23) "turned" = some (some (.ref q1467)))
  (i1467 : PySem.W.isFn K (.ref q1467) = true)
  (l1467 : K.lookup q1467 = some ⟨oc1467, od1467, .func (PySem.W.fnOf "turned" "Planes.turned" (defArgs s_Planes_turned) (defBody s_Planes_turned) (defScope s_Planes_turned) .none kV1467 dc1467 pm1467 an1467 cd1467 ct1467), sl1467⟩)
  (c1467 : PySem.W.codeIn K cd1467 "Planes.turned" = true)
  (k1467 : PySem.W.keepIn K (.ref q1467) = true)
  (a1468 : PySem.W.findIn K (.ref q23) "only" = some (some (.ref q1468)))
  (i1468 : PySem.W.isFn K (.ref q1468) = true)
  (l1468 : K.lookup q1468 = some ⟨oc1468, od1468, .func (PySem.W.fnOf "only" "Planes.only" (defArgs s_Planes_only) (defBody s_Planes_only) (defScope s_Planes_only) .none kV1468 dc1468 pm1468 an1468 cd1468 ct1468), sl1468⟩)
  (c1468 : PySem.W.codeIn K cd1468 "Planes.only" = true)
  (k1468 : PySem.W.keepIn K (.ref q1468) = true)
  (pg23 : PySem.W.plainGet K q23 Str.empty = true)
  (hd23 : PySem.W.hasDictIn K q23 = true)
  (po23 : PySem.W.plainOver K q23 = true)
  (sa23 : PySem.W.findIn K (.ref q23) "__setattr__" = some (some (.builtin "object.__setattr__")))
  (n23_n : PySem.W.findIn K (.ref q23) "n" = some none)
  (n23__rows : PySem.W.findIn K (.ref q23) "_rows" = some none)
  (a14 : PySem.W.nsIn K mainGlobals "MOST_LETTERS" = some (some (.int 4 uc14)))
  (a15 : PySem.W.nsIn K mainGlobals "MOST_PLANES" = some (some (.int 12 uc15)))
  (a16 : PySem.W.nsIn K mainGlobals "MOST_ENTRY" = some (some (.int 1000 uc16)))
  (m_tuple : PySem.W.nsIn K mainGlobals "tuple" = some none)
  (m_enumerate : PySem.W.nsIn K mainGlobals "enumerate" = some none)
  (m_zip : PySem.W.nsIn K mainGlobals "zip" = some none)
  (m_range : PySem.W.nsIn K mainGlobals "range" = some none)
  (m_all : PySem.W.nsIn K mainGlobals "all" = some none)
  (m_any : PySem.W.nsIn K mainGlobals "any" = some none)
  (m_len : PySem.W.nsIn K mainGlobals "len" = some none)
  (m_int : PySem.W.nsIn K mainGlobals "int" = some none)
  (m_abs : PySem.W.nsIn K mainGlobals "abs" = some none)
  (m_sum : PySem.W.nsIn K mainGlobals "sum" = some none)
  (m_list : PySem.W.nsIn K mainGlobals "list" = some none)
  (m_str : PySem.W.nsIn K mainGlobals "str" = some none)
  (m_isinstance : PySem.W.nsIn K mainGlobals "isinstance" = some none)
  (m_repr : PySem.W.nsIn K mainGlobals "repr" = some none)
  (b_gcd : PySem.W.nsIn K mainGlobals "gcd" = some (some (.builtin "math.gcd")))
  (a2 : PySem.W.nsIn K mainGlobals "PlaneError" = some (some (.ref q2)))
  (a3 : PySem.W.nsIn K mainGlobals "NotPlanes" = some (some (.ref q3)))
  (x3 : PySem.W.excIn K q3 [.type "ValueError", .type "Exception", .type "BaseException", .type "object"] "ValueError.__new__" = true)
  (k3 : PySem.W.keepIn K (.ref q3) = true)
  (s3 : PySem.W.subIn K (.ref q3) (.type "BaseException") = some true)
  (t3 : PySem.W.typeIn K (.ref q3) = some (.type "type"))
  (a4 : PySem.W.nsIn K mainGlobals "BadNumber" = some (some (.ref q4)))
  (x4 : PySem.W.excIn K q4 [.type "ValueError", .type "Exception", .type "BaseException", .type "object"] "ValueError.__new__" = true)
  (k4 : PySem.W.keepIn K (.ref q4) = true)
  (s4 : PySem.W.subIn K (.ref q4) (.type "BaseException") = some true)
  (t4 : PySem.W.typeIn K (.ref q4) = some (.type "type"))
  (s2 : PySem.W.subIn K (.ref q2) (.type "BaseException") = some true)
  (t2 : PySem.W.typeIn K (.ref q2) = some (.type "type"))
  (h2 : PySem.W.hasDictIn K q2 = true)
  (e4_2 : PySem.W.subIn K (.ref q4) (.ref q2) = some true)
  (e3_2 : PySem.W.subIn K (.ref q3) (.ref q2) = some true)
  (cn : PySem.W.specialIn K (.builtin "object.__class__") "__get__" = some (some (.builtin "getset_descriptor.__get__")))
  (ct : PySem.W.takesIn K (.builtin "object.__class__") = some true)
  (oa23 : PySem.W.findIn K (.ref q23) "__class__" = some (some (.builtin "object.__class__")))
  (om23 : PySem.W.mroIn K q23 (.type "object") = some true)
  (oy23_str : PySem.W.kitOne K (.ref q23) (.type "str") = some false)
  (cg4 : PySem.W.findIn K (.ref q4) "__getattribute__" = some (some (.builtin "BaseException.__getattribute__")))
  (ck4 : PySem.W.findIn K (.ref q4) "__getattr__" = some none)
  (cd4 : PySem.W.hasDictIn K q4 = true)
  (ca4 : PySem.W.findIn K (.ref q4) "__class__" = some (some (.builtin "object.__class__")))
  (cm4 : PySem.W.mroIn K q4 (.type "object") = some true)
  (cg3 : PySem.W.findIn K (.ref q3) "__getattribute__" = some (some (.builtin "BaseException.__getattribute__")))
  (ck3 : PySem.W.findIn K (.ref q3) "__getattr__" = some none)
  (cd3 : PySem.W.hasDictIn K q3 = true)
  (ca3 : PySem.W.findIn K (.ref q3) "__class__" = some (some (.builtin "object.__class__")))
  (cm3 : PySem.W.mroIn K q3 (.type "object") = some true)
  (i4_4 : PySem.W.kitOne K (.ref q4) (.ref q4) = some true)
  (i4_3 : PySem.W.kitOne K (.ref q4) (.ref q3) = some false)
  (i3_4 : PySem.W.kitOne K (.ref q3) (.ref q4) = some false)
  (i3_3 : PySem.W.kitOne K (.ref q3) (.ref q3) = some true)
  (i23_23 : PySem.W.kitOne K (.ref q23) (.ref q23) = some true) :
  ∃ fd : FuncData, (∀ (s : Shared) (v : Value), BindsTo s fd ⟨[v], []⟩ [("script", v)]) ∧ ∀ base : Heap, K.In base → base.Ns mainGlobals mg → FnG l.prog w K mg base CX0 9 fa fd ["script"] (sp_law K) := by
  have e := hfa.symm.trans (PySem.W.mg_of X G a50)
  cases e
  have T : Txt K w mg (fun i => match i with | 2 => q2 | 3 => q3 | 4 => q4 | 6 => q6 | 7 => q7 | 8 => q8 | 10 => q10 | 11 => q11 | 12 => q12 | 17 => q17 | 18 => q18 | 19 => q19 | 20 => q20 | 21 => q21 | 22 => q22 | 23 => q23 | 24 => q24 | 26 => q26 | 27 => q27 | 28 => q28 | 29 => q29 | 30 => q30 | 32 => q32 | 33 => q33 | 36 => q36 | 37 => q37 | 39 => q39 | 40 => q40 | 41 => q41 | 43 => q43 | 44 => q44 | 45 => q45 | 46 => q46 | 47 => q47 | 48 => q48 | 49 => q49 | 50 => fa | 1460 => q1460 | 1461 => q1461 | 1462 => q1462 | 1463 => q1463 | 1464 => q1464 | 1465 => q1465 | 1466 => q1466 | 1467 => q1467 | 1468 => q1468 | _ => 0) (fun i => match i with | 6 => (PySem.W.fnOf "content" "content" (defArgs s_content) (defBody s_content) (defScope s_content) .none kV6 dc6 pm6 an6 cd6 ct6) | 7 => (PySem.W.fnOf "primitive" "primitive" (defArgs s_primitive) (defBody s_primitive) (defScope s_primitive) .none kV7 dc7 pm7 an7 cd7 ct7) | 8 => (PySem.W.fnOf "negated" "negated" (defArgs s_negated) (defBody s_negated) (defScope s_negated) .none kV8 dc8 pm8 an8 cd8 ct8) | 10 => (PySem.W.fnOf "first_row_with" "first_row_with" (defArgs s_first_row_with) (defBody s_first_row_with) (defScope s_first_row_with) .none kV10 dc10 pm10 an10 cd10 ct10) | 11 => (PySem.W.fnOf "struck" "struck" (defArgs s_struck) (defBody s_struck) (defScope s_struck) .none kV11 dc11 pm11 an11 cd11 ct11) | 12 => (PySem.W.fnOf "whole_echelon" "whole_echelon" (defArgs s_whole_echelon) (defBody s_whole_echelon) (defScope s_whole_echelon) .none kV12 dc12 pm12 an12 cd12 ct12) | 17 => (PySem.W.fnOf "check_letters" "check_letters" (defArgs s_check_letters) (defBody s_check_letters) (defScope s_check_letters) .none kV17 dc17 pm17 an17 cd17 ct17) | 18 => (PySem.W.fnOf "is_plane" "is_plane" (defArgs s_is_plane) (defBody s_is_plane) (defScope s_is_plane) .none kV18 dc18 pm18 an18 cd18 ct18) | 19 => (PySem.W.fnOf "check_planes" "check_planes" (defArgs s_check_planes) (defBody s_check_planes) (defScope s_check_planes) .none kV19 dc19 pm19 an19 cd19 ct19) | 20 => (PySem.W.fnOf "check_index" "check_index" (defArgs s_check_index) (defBody s_check_index) (defScope s_check_index) .none kV20 dc20 pm20 an20 cd20 ct20) | 21 => (PySem.W.fnOf "ascends" "ascends" (defArgs s_ascends) (defBody s_ascends) (defScope s_ascends) .none kV21 dc21 pm21 an21 cd21 ct21) | 22 => (PySem.W.fnOf "check_indexes" "check_indexes" (defArgs s_check_indexes) (defBody s_check_indexes) (defScope s_check_indexes) .none kV22 dc22 pm22 an22 cd22 ct22) | 24 => (PySem.W.fnOf "letter_rows" "letter_rows" (defArgs s_letter_rows) (defBody s_letter_rows) (defScope s_letter_rows) .none kV24 dc24 pm24 an24 cd24 ct24) | 26 => (PySem.W.fnOf "_law_number" "_law_number" (defArgs s__law_number) (defBody s__law_number) (defScope s__law_number) .none kV26 dc26 pm26 an26 cd26 ct26) | 27 => (PySem.W.fnOf "_law_draws" "_law_draws" (defArgs s__law_draws) (defBody s__law_draws) (defScope s__law_draws) .none kV27 dc27 pm27 an27 cd27 ct27) | 28 => (PySem.W.fnOf "_law_next" "_law_next" (defArgs s__law_next) (defBody s__law_next) (defScope s__law_next) .none kV28 dc28 pm28 an28 cd28 ct28) | 29 => (PySem.W.fnOf "_law_divisor" "_law_divisor" (defArgs s__law_divisor) (defBody s__law_divisor) (defScope s__law_divisor) .none kV29 dc29 pm29 an29 cd29 ct29) | 30 => (PySem.W.fnOf "_law_lowest" "_law_lowest" (defArgs s__law_lowest) (defBody s__law_lowest) (defScope s__law_lowest) .none kV30 dc30 pm30 an30 cd30 ct30) | 32 => (PySem.W.fnOf "_law_times" "_law_times" (defArgs s__law_times) (defBody s__law_times) (defScope s__law_times) .none kV32 dc32 pm32 an32 cd32 ct32) | 33 => (PySem.W.fnOf "_law_less" "_law_less" (defArgs s__law_less) (defBody s__law_less) (defScope s__law_less) .none kV33 dc33 pm33 an33 cd33 ct33) | 36 => (PySem.W.fnOf "_law_plane" "_law_plane" (defArgs s__law_plane) (defBody s__law_plane) (defScope s__law_plane) .none kV36 dc36 pm36 an36 cd36 ct36) | 37 => (PySem.W.fnOf "_law_planes" "_law_planes" (defArgs s__law_planes) (defBody s__law_planes) (defScope s__law_planes) .none kV37 dc37 pm37 an37 cd37 ct37) | 39 => (PySem.W.fnOf "_law_over" "_law_over" (defArgs s__law_over) (defBody s__law_over) (defScope s__law_over) .none kV39 dc39 pm39 an39 cd39 ct39) | 40 => (PySem.W.fnOf "_law_echelon" "_law_echelon" (defArgs s__law_echelon) (defBody s__law_echelon) (defScope s__law_echelon) .none kV40 dc40 pm40 an40 cd40 ct40) | 41 => (PySem.W.fnOf "_law_taken" "_law_taken" (defArgs s__law_taken) (defBody s__law_taken) (defScope s__law_taken) .none kV41 dc41 pm41 an41 cd41 ct41) | 43 => (PySem.W.fnOf "_law_is_plane" "_law_is_plane" (defArgs s__law_is_plane) (defBody s__law_is_plane) (defScope s__law_is_plane) .none kV43 dc43 pm43 an43 cd43 ct43) | 44 => (PySem.W.fnOf "_law_spoilt" "_law_spoilt" (defArgs s__law_spoilt) (defBody s__law_spoilt) (defScope s__law_spoilt) .none kV44 dc44 pm44 an44 cd44 ct44) | 45 => (PySem.W.fnOf "_law_told" "_law_told" (defArgs s__law_told) (defBody s__law_told) (defScope s__law_told) .none kV45 dc45 pm45 an45 cd45 ct45) | 46 => (PySem.W.fnOf "_law_method" "_law_method" (defArgs s__law_method) (defBody s__law_method) (defScope s__law_method) .none kV46 dc46 pm46 an46 cd46 ct46) | 47 => (PySem.W.fnOf "_law_numbers" "_law_numbers" (defArgs s__law_numbers) (defBody s__law_numbers) (defScope s__law_numbers) .none kV47 dc47 pm47 an47 cd47 ct47) | 48 => (PySem.W.fnOf "_law_parts" "_law_parts" (defArgs s__law_parts) (defBody s__law_parts) (defScope s__law_parts) .none kV48 dc48 pm48 an48 cd48 ct48) | 49 => (PySem.W.fnOf "_law_lists" "_law_lists" (defArgs s__law_lists) (defBody s__law_lists) (defScope s__law_lists) .none kV49 dc49 pm49 an49 cd49 ct49) | 50 => (PySem.W.fnOf "law" "law" (defArgs s_law) (defBody s_law) (defScope s_law) .none kV50 dc50 pm50 an50 cd50 ct50) | 1460 => (PySem.W.fnOf "__init__" "Planes.__init__" (defArgs s_Planes_init) (defBody s_Planes_init) (defScope s_Planes_init) .none kV1460 dc1460 pm1460 an1460 cd1460 ct1460) | 1461 => (PySem.W.fnOf "__len__" "Planes.__len__" (defArgs s_Planes_len) (defBody s_Planes_len) (defScope s_Planes_len) .none kV1461 dc1461 pm1461 an1461 cd1461 ct1461) | 1462 => (PySem.W.fnOf "__eq__" "Planes.__eq__" (defArgs s_Planes_eq) (defBody s_Planes_eq) (defScope s_Planes_eq) .none kV1462 dc1462 pm1462 an1462 cd1462 ct1462) | 1463 => (PySem.W.fnOf "planes" "Planes.planes" (defArgs s_Planes_planes) (defBody s_Planes_planes) (defScope s_Planes_planes) .none kV1463 dc1463 pm1463 an1463 cd1463 ct1463) | 1464 => (PySem.W.fnOf "rank" "Planes.rank" (defArgs s_Planes_rank) (defBody s_Planes_rank) (defScope s_Planes_rank) .none kV1464 dc1464 pm1464 an1464 cd1464 ct1464) | 1465 => (PySem.W.fnOf "is_central" "Planes.is_central" (defArgs s_Planes_is_central) (defBody s_Planes_is_central) (defScope s_Planes_is_central) .none kV1465 dc1465 pm1465 an1465 cd1465 ct1465) | 1466 => (PySem.W.fnOf "without" "Planes.without" (defArgs s_Planes_without) (defBody s_Planes_without) (defScope s_Planes_without) .none kV1466 dc1466 pm1466 an1466 cd1466 ct1466) | 1467 => (PySem.W.fnOf "turned" "Planes.turned" (defArgs s_Planes_turned) (defBody s_Planes_turned) (defScope s_Planes_turned) .none kV1467 dc1467 pm1467 an1467 cd1467 ct1467) | 1468 => (PySem.W.fnOf "only" "Planes.only" (defArgs s_Planes_only) (defBody s_Planes_only) (defScope s_Planes_only) .none kV1468 dc1468 pm1468 an1468 cd1468 ct1468) | _ => (PySem.W.fnOf "content" "content" (defArgs s_content) (defBody s_content) (defScope s_content) .none kV6 dc6 pm6 an6 cd6 ct6)) :=
    { f_content := fun_mk (st := s_content) l6 c6 k6
      g_content := PySem.W.mg_of X G a6
      f_primitive := fun_mk (st := s_primitive) l7 c7 k7
      g_primitive := PySem.W.mg_of X G a7
      f_negated := fun_mk (st := s_negated) l8 c8 k8
      g_negated := PySem.W.mg_of X G a8
      f_first_row_with := fun_mk (st := s_first_row_with) l10 c10 k10
      g_first_row_with := PySem.W.mg_of X G a10
      f_struck := fun_mk (st := s_struck) l11 c11 k11
      g_struck := PySem.W.mg_of X G a11
      f_whole_echelon := fun_mk (st := s_whole_echelon) l12 c12 k12
      g_whole_echelon := PySem.W.mg_of X G a12
      f_check_letters := fun_mk (st := s_check_letters) l17 c17 k17
      g_check_letters := PySem.W.mg_of X G a17
      f_is_plane := fun_mk (st := s_is_plane) l18 c18 k18
      g_is_plane := PySem.W.mg_of X G a18
      f_check_planes := fun_mk (st := s_check_planes) l19 c19 k19
      g_check_planes := PySem.W.mg_of X G a19
      f_check_index := fun_mk (st := s_check_index) l20 c20 k20
      g_check_index := PySem.W.mg_of X G a20
      f_ascends := fun_mk (st := s_ascends) l21 c21 k21
      g_ascends := PySem.W.mg_of X G a21
      f_check_indexes := fun_mk (st := s_check_indexes) l22 c22 k22
      g_check_indexes := PySem.W.mg_of X G a22
      f_letter_rows := fun_mk (st := s_letter_rows) l24 c24 k24
      g_letter_rows := PySem.W.mg_of X G a24
      f__law_number := fun_mk (st := s__law_number) l26 c26 k26
      g__law_number := PySem.W.mg_of X G a26
      f__law_draws := fun_mk (st := s__law_draws) l27 c27 k27
      g__law_draws := PySem.W.mg_of X G a27
      f__law_next := fun_mk (st := s__law_next) l28 c28 k28
      g__law_next := PySem.W.mg_of X G a28
      f__law_divisor := fun_mk (st := s__law_divisor) l29 c29 k29
      g__law_divisor := PySem.W.mg_of X G a29
      f__law_lowest := fun_mk (st := s__law_lowest) l30 c30 k30
      g__law_lowest := PySem.W.mg_of X G a30
      f__law_times := fun_mk (st := s__law_times) l32 c32 k32
      g__law_times := PySem.W.mg_of X G a32
      f__law_less := fun_mk (st := s__law_less) l33 c33 k33
      g__law_less := PySem.W.mg_of X G a33
      f__law_plane := fun_mk (st := s__law_plane) l36 c36 k36
      g__law_plane := PySem.W.mg_of X G a36
      f__law_planes := fun_mk (st := s__law_planes) l37 c37 k37
      g__law_planes := PySem.W.mg_of X G a37
      f__law_over := fun_mk (st := s__law_over) l39 c39 k39
      g__law_over := PySem.W.mg_of X G a39
      f__law_echelon := fun_mk (st := s__law_echelon) l40 c40 k40
      g__law_echelon := PySem.W.mg_of X G a40
      f__law_taken := fun_mk (st := s__law_taken) l41 c41 k41
      g__law_taken := PySem.W.mg_of X G a41
      f__law_is_plane := fun_mk (st := s__law_is_plane) l43 c43 k43
      g__law_is_plane := PySem.W.mg_of X G a43
      f__law_spoilt := fun_mk (st := s__law_spoilt) l44 c44 k44
      g__law_spoilt := PySem.W.mg_of X G a44
      f__law_told := fun_mk (st := s__law_told) l45 c45 k45
      g__law_told := PySem.W.mg_of X G a45
      f__law_method := fun_mk (st := s__law_method) l46 c46 k46
      g__law_method := PySem.W.mg_of X G a46
      f__law_numbers := fun_mk (st := s__law_numbers) l47 c47 k47
      g__law_numbers := PySem.W.mg_of X G a47
      f__law_parts := fun_mk (st := s__law_parts) l48 c48 k48
      g__law_parts := PySem.W.mg_of X G a48
      f__law_lists := fun_mk (st := s__law_lists) l49 c49 k49
      g__law_lists := PySem.W.mg_of X G a49
      f_law := fun_mk (st := s_law) l50 c50 k50
      g_law := PySem.W.mg_of X G a50
      g_Planes := PySem.W.mg_of X G a23
      f_Planes_init := fun_mk (st := s_Planes_init) l1460 c1460 k1460
      me_Planes_init := ⟨a1460, i1460, k1460⟩
      mk_Planes := ⟨mk23, a1460, i1460, kc23⟩
      f_Planes_len := fun_mk (st := s_Planes_len) l1461 c1461 k1461
      me_Planes_len := ⟨a1461, i1461, k1461⟩
      f_Planes_eq := fun_mk (st := s_Planes_eq) l1462 c1462 k1462
      me_Planes_eq := ⟨a1462, i1462, k1462⟩
      f_Planes_planes := fun_mk (st := s_Planes_planes) l1463 c1463 k1463
      me_Planes_planes := ⟨a1463, i1463, k1463⟩
      f_Planes_rank := fun_mk (st := s_Planes_rank) l1464 c1464 k1464
      me_Planes_rank := ⟨a1464, i1464, k1464⟩
      f_Planes_is_central := fun_mk (st := s_Planes_is_central) l1465 c1465 k1465
      me_Planes_is_central := ⟨a1465, i1465, k1465⟩
      f_Planes_without := fun_mk (st := s_Planes_without) l1466 c1466 k1466
      me_Planes_without := ⟨a1466, i1466, k1466⟩
      f_Planes_turned := fun_mk (st := s_Planes_turned) l1467 c1467 k1467
      me_Planes_turned := ⟨a1467, i1467, k1467⟩
      f_Planes_only := fun_mk (st := s_Planes_only) l1468 c1468 k1468
      me_Planes_only := ⟨a1468, i1468, k1468⟩
      cl_Planes := ⟨pg23, hd23, po23, sa23⟩
      na_Planes_n := n23_n
      na_Planes__rows := n23__rows
      v_MOST_LETTERS := ⟨_, PySem.W.mg_of X G a14⟩
      v_MOST_PLANES := ⟨_, PySem.W.mg_of X G a15⟩
      v_MOST_ENTRY := ⟨_, PySem.W.mg_of X G a16⟩
      m_tuple := PySem.W.mg_none_of X G m_tuple
      m_enumerate := PySem.W.mg_none_of X G m_enumerate
      m_zip := PySem.W.mg_none_of X G m_zip
      m_range := PySem.W.mg_none_of X G m_range
      m_all := PySem.W.mg_none_of X G m_all
      m_any := PySem.W.mg_none_of X G m_any
      m_len := PySem.W.mg_none_of X G m_len
      m_int := PySem.W.mg_none_of X G m_int
      m_abs := PySem.W.mg_none_of X G m_abs
      m_sum := PySem.W.mg_none_of X G m_sum
      m_list := PySem.W.mg_none_of X G m_list
      m_str := PySem.W.mg_none_of X G m_str
      m_isinstance := PySem.W.mg_none_of X G m_isinstance
      m_repr := PySem.W.mg_none_of X G m_repr
      g_gcd := PySem.W.mg_of X G b_gcd
      g_PlaneError := PySem.W.mg_of X G a2
      g_NotPlanes := PySem.W.mg_of X G a3
      x_NotPlanes := x3
      k_NotPlanes := k3
      s_NotPlanes := s3
      t_NotPlanes := t3
      g_BadNumber := PySem.W.mg_of X G a4
      x_BadNumber := x4
      k_BadNumber := k4
      s_BadNumber := s4
      t_BadNumber := t4
      e_BadNumber_PlaneError := PySem.W.exm_ref s2 h2 t2 e4_2
      e_NotPlanes_PlaneError := PySem.W.exm_ref s2 h2 t2 e3_2
      o_Planes := ⟨oa23, cn, ct, om23⟩
      y_Planes_str := oy23_str
      c_BadNumber := ⟨cg4, ck4, s4, cd4, ca4, cn, ct, cm4⟩
      c_NotPlanes := ⟨cg3, ck3, s3, cd3, ca3, cn, ct, cm3⟩
      i_BadNumber_BadNumber := i4_4
      i_BadNumber_NotPlanes := i4_3
      i_NotPlanes_BadNumber := i3_4
      i_NotPlanes_NotPlanes := i3_3
      i_Planes_Planes := i23_23 }
  exact ⟨(PySem.W.fnOf "law" "law" (defArgs s_law) (defBody s_law) (defScope s_law) .none kV50 dc50 pm50 an50 cd50 ct50), fun s v => .of_eq rfl, fun base _ _ => (ok_law T).ok⟩
end PW
open PySem PySem.W PyProof.Rows
set_option maxHeartbeats 0 in
theorem PySem.Challenge.cw_planeworth_k05_planes_and_lists_holds : PySem.Challenge.rw_planeworth_k05_planes_and_lists.Holds := by
  w_on; o_law; k_head; (case hw => w_witness2)
  k_fill
  refine PW.walk_ofGK (l := PySem.Challenge.rw_planeworth_k05_planes_and_lists) (n := 63) (k := 9) (x := "script") (sp := PW.sp_law) rfl (by decide) rfl ⟨rfl, by decide, by decide⟩ (fun w h Y => PySem.W.kIn_of Y) ?F ?good
  case good =>
    intro K H a ns hl hS
    exact ⟨a, ns, rfl, hS, hl, fun _ => rfl⟩
  case F =>
    intro w mg fa h KX G hmg
    refine' PW.all_mk KX G hmg ?a6 ?l6 ?c6 ?k6 ?a7 ?l7 ?c7 ?k7 ?a8 ?l8 ?c8 ?k8 ?a10 ?l10 ?c10 ?k10 ?a11 ?l11 ?c11 ?k11 ?a12 ?l12 ?c12 ?k12 ?a17 ?l17 ?c17 ?k17 ?a18 ?l18 ?c18 ?k18 ?a19 ?l19 ?c19 ?k19 ?a20 ?l20 ?c20 ?k20 ?a21 ?l21 ?c21 ?k21 ?a22 ?l22 ?c22 ?k22 ?a24 ?l24 ?c24 ?k24 ?a26 ?l26 ?c26 ?k26 ?a27 ?l27 ?c27 ?k27 ?a28 ?l28 ?c28 ?k28 ?a29 ?l29 ?c29 ?k29 ?a30 ?l30 ?c30 ?k30 ?a32 ?l32 ?c32 ?k32 ?a33 ?l33 ?c33 ?k33 ?a36 ?l36 ?c36 ?k36 ?a37 ?l37 ?c37 ?k37 ?a39 ?l39 ?c39 ?k39 ?a40 ?l40 ?c40 ?k40 ?a41 ?l41 ?c41 ?k41 ?a43 ?l43 ?c43 ?k43 ?a44 ?l44 ?c44 ?k44 ?a45 ?l45 ?c45 ?k45 ?a46 ?l46 ?c46 ?k46 ?a47 ?l47 ?c47 ?k47 ?a48 ?l48 ?c48 ?k48 ?a49 ?l49 ?c49 ?k49 ?a50 ?l50 ?c50 ?k50 ?a23 ?a1460 ?i1460 ?l1460 ?c1460 ?k1460 ?mk23 ?kc23 ?a1461 ?i1461 ?l1461 ?c1461 ?k1461 ?a1462 ?i1462 ?l1462 ?c1462 ?k1462 ?a1463 ?i1463 ?l1463 ?c1463 ?k1463 ?a1464 ?i1464 ?l1464 ?c1464 ?k1464 ?a1465 ?i1465 ?l1465 ?c1465 ?k1465 ?a1466 ?i1466 ?l1466 ?c1466 ?k1466 ?a1467 ?i1467 ?l1467 ?c1467 ?k1467 ?a1468 ?i1468 ?l1468 ?c1468 ?k1468 ?pg23 ?hd23 ?po23 ?sa23 ?n23_n ?n23__rows ?a14 ?a15 ?a16 ?m_tuple ?m_enumerate ?m_zip ?m_range ?m_all ?m_any ?m_len ?m_int ?m_abs ?m_sum ?m_list ?m_str ?m_isinstance ?m_repr ?b_gcd ?a2 ?a3 ?x3 ?k3 ?s3 ?t3 ?a4 ?x4 ?k4 ?s4 ?t4 ?s2 ?t2 ?h2 ?e4_2 ?e3_2 ?cn ?ct ?oa23 ?om23 ?oy23_str ?cg4 ?ck4 ?cd4 ?ca4 ?cm4 ?cg3 ?ck3 ?cd3 ?ca3 ?cm3 ?i4_4 ?i4_3 ?i3_4 ?i3_3 ?i23_23
    (case a6 => k_is)
    (case l6 => k_is)
    (case c6 => k_is)
    (case k6 => k_is)
    (case a7 => k_is)
    (case l7 => k_is)
    (case c7 => k_is)
    (case k7 => k_is)
    (case a8 => k_is)
    (case l8 => k_is)
    (case c8 => k_is)
    (case k8 => k_is)
    (case a10 => k_is)
    (case l10 => k_is)
    (case c10 => k_is)
    (case k10 => k_is)
    (case a11 => k_is)
    (case l11 => k_is)
    (case c11 => k_is)
    (case k11 => k_is)
    (case a12 => k_is)
    (case l12 => k_is)
    (case c12 => k_is)
    (case k12 => k_is)
    (case a17 => k_is)
    (case l17 => k_is)
    (case c17 => k_is)
    (case k17 => k_is)
    (case a18 => k_is)
    (case l18 => k_is)
    (case c18 => k_is)
    (case k18 => k_is)
    (case a19 => k_is)
    (case l19 => k_is)
    (case c19 => k_is)
    (case k19 => k_is)
    (case a20 => k_is)
    (case l20 => k_is)
    (case c20 => k_is)
    (case k20 => k_is)
    (case a21 => k_is)
    (case l21 => k_is)
    (case c21 => k_is)
    (case k21 => k_is)
    (case a22 => k_is)
    (case l22 => k_is)
    (case c22 => k_is)
    (case k22 => k_is)
    (case a24 => k_is)
    (case l24 => k_is)
    (case c24 => k_is)
    (case k24 => k_is)
    (case a26 => k_is)
    (case l26 => k_is)
    (case c26 => k_is)
    (case k26 => k_is)
    (case a27 => k_is)
    (case l27 => k_is)
    (case c27 => k_is)
    (case k27 => k_is)
    (case a28 => k_is)
    (case l28 => k_is)
    (case c28 => k_is)
    (case k28 => k_is)
    (case a29 => k_is)
    (case l29 => k_is)
    (case c29 => k_is)
    (case k29 => k_is)
    (case a30 => k_is)
    (case l30 => k_is)
    (case c30 => k_is)
    (case k30 => k_is)
    (case a32 => k_is)
    (case l32 => k_is)
    (case c32 => k_is)
    (case k32 => k_is)
    (case a33 => k_is)
    (case l33 => k_is)
    (case c33 => k_is)
    (case k33 => k_is)
    (case a36 => k_is)
    (case l36 => k_is)
    (case c36 => k_is)
    (case k36 => k_is)
    (case a37 => k_is)
    (case l37 => k_is)
    (case c37 => k_is)
    (case k37 => k_is)
    (case a39 => k_is)
    (case l39 => k_is)
    (case c39 => k_is)
    (case k39 => k_is)
    (case a40 => k_is)
    (case l40 => k_is)
    (case c40 => k_is)
    (case k40 => k_is)
    (case a41 => k_is)
    (case l41 => k_is)
    (case c41 => k_is)
    (case k41 => k_is)
    (case a43 => k_is)
    (case l43 => k_is)
    (case c43 => k_is)
    (case k43 => k_is)
    (case a44 => k_is)
    (case l44 => k_is)
    (case c44 => k_is)
    (case k44 => k_is)
    (case a45 => k_is)
    (case l45 => k_is)
    (case c45 => k_is)
    (case k45 => k_is)
    (case a46 => k_is)
    (case l46 => k_is)
    (case c46 => k_is)
    (case k46 => k_is)
    (case a47 => k_is)
    (case l47 => k_is)
    (case c47 => k_is)
    (case k47 => k_is)
    (case a48 => k_is)
    (case l48 => k_is)
    (case c48 => k_is)
    (case k48 => k_is)
    (case a49 => k_is)
    (case l49 => k_is)
    (case c49 => k_is)
    (case k49 => k_is)
    (case a50 => k_is)
    (case l50 => k_is)
    (case c50 => k_is)
    (case k50 => k_is)
    (case a23 => k_is)
    (case a1460 => k_is)
    (case i1460 => k_is)
    (case l1460 => k_is)
    (case c1460 => k_is)
    (case k1460 => k_is)
    (case mk23 => k_is)
    (case kc23 => k_is)
    (case a1461 => k_is)
    (case i1461 => k_is)
    (case l1461 => k_is)
    (case c1461 => k_is)
    (case k1461 => k_is)
    (case a1462 => k_is)
    (case i1462 => k_is)
    (case l1462 => k_is)
    (case c1462 => k_is)
    (case k1462 => k_is)
    (case a1463 => k_is)
    (case i1463 => k_is)
    (case l1463 => k_is)
    (case c1463 => k_is)
    (case k1463 => k_is)
    (case a1464 => k_is)
    (case i1464 => k_is)
    (case l1464 => k_is)
    (case c1464 => k_is)
    (case k1464 => k_is)
    (case a1465 => k_is)
    (case i1465 => k_is)
    (case l1465 => k_is)
    (case c1465 => k_is)
    (case k1465 => k_is)
    (case a1466 => k_is)
    (case i1466 => k_is)
    (case l1466 => k_is)
    (case c1466 => k_is)
    (case k1466 => k_is)
    (case a1467 => k_is)
    (case i1467 => k_is)
    (case l1467 => k_is)
    (case c1467 => k_is)
    (case k1467 => k_is)
    (case a1468 => k_is)
    (case i1468 => k_is)
    (case l1468 => k_is)
    (case c1468 => k_is)
    (case k1468 => k_is)
    (case pg23 => k_is)
    (case hd23 => k_is)
    (case po23 => k_is)
    (case sa23 => k_is)
    (case n23_n => k_is)
    (case n23__rows => k_is)
    (case a14 => k_is)
    (case a15 => k_is)
    (case a16 => k_is)
    (case m_tuple => k_is)
    (case m_enumerate => k_is)
    (case m_zip => k_is)
    (case m_range => k_is)
    (case m_all => k_is)
    (case m_any => k_is)
    (case m_len => k_is)
    (case m_int => k_is)
    (case m_abs => k_is)
    (case m_sum => k_is)
    (case m_list => k_is)
    (case m_str => k_is)
    (case m_isinstance => k_is)
    (case m_repr => k_is)
    (case b_gcd => k_is)
    (case a2 => k_is)
    (case a3 => k_is)
    (case x3 => k_exc)
    (case k3 => k_is)
    (case s3 => k_is)
    (case t3 => k_is)
    (case a4 => k_is)
    (case x4 => k_exc)
    (case k4 => k_is)
    (case s4 => k_is)
    (case t4 => k_is)
    (case s2 => k_is)
    (case t2 => k_is)
    (case h2 => k_is)
    (case e4_2 => (first | rfl | k_is))
    (case e3_2 => (first | rfl | k_is))
    (case cn => k_is)
    (case ct => k_is)
    (case oa23 => k_is)
    (case om23 => k_is)
    (case oy23_str => (first | kit_is | k_is | rfl | decide +kernel))
    (case cg4 => k_is)
    (case ck4 => k_is)
    (case cd4 => k_is)
    (case ca4 => k_is)
    (case cm4 => k_is)
    (case cg3 => k_is)
    (case ck3 => k_is)
    (case cd3 => k_is)
    (case ca3 => k_is)
    (case cm3 => k_is)
    (case i4_4 => (first | kit_is | k_is | decide +kernel))
    (case i4_3 => (first | kit_is | k_is | decide +kernel))
    (case i3_4 => (first | kit_is | k_is | decide +kernel))
    (case i3_3 => (first | kit_is | k_is | decide +kernel))
    (case i23_23 => (first | kit_is | k_is | decide +kernel))
