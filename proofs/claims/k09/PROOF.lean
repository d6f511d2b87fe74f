import PyProof.Rows.All
import Wide.All
import OpenK.AllK
import Wide.FinOn
import HandS.ForExc
import HandS.Gcd
import HandS.Wide
import HandS.ExcIs
import HandS.Evl
import HandS.Defaults
import HandS.RaiseMore
import HandS.Style
import HandS.ForMost
import HandS.TupAny
import HandS.IsInst
import HandS.Conv
import KE.GoesEnum
import KE.GoesZip
import KE.GoesMore
import KE.KMathG
import PyProof.ListStr
import OpenK.KOps
import HandS.More
import HandS.TryOnly
import HandS.ExcCtx
import HandS.Hot
import HandS.HotCalls
import KE.GoesComp
import HandS.TupMul
import HandS.FStrTup
import HandS.Deep
import HandS.Replace
import HandS.HeadHook3
import HandS.Text
import HandS.MapJoin
import PySem.Challenge.RW_planeworth_k09_cones_and_joined_lists
set_option Elab.async false
set_option linter.all false
set_option maxRecDepth 100000
set_option maxHeartbeats 4000000
/-! Own layer over HandS: data read deep, texts of data, calls where no text is under way, calls by value. -/
namespace PW
open PySem PySem.Spec PyProof.Rows L2 Evl

/-! ### heaps that only grow -/
theorem dp_mono {K : PySem.W.Frag} {H H' : Hp} (e : Ex H H') {v : V} {d : PyData} (h : Dp K H v d) : Dp K H' v d :=
  Dp.rec (motive_1 := fun v d _ => Dp K H' v d) (motive_2 := fun vs ds _ => DpAll K H' vs ds)
    .non .bl .int .str (fun s _ ih => .lst (ex_l e s) ih) (fun s _ ih => .tup (ex_t e s) ih) .nil (fun _ _ a b => .cons a b) h
theorem dpAll_mono {K : PySem.W.Frag} {H H' : Hp} (e : Ex H H') : ∀ {vs : List V} {ds : List PyData}, DpAll K H vs ds → DpAll K H' vs ds
  | _, _, .nil => .nil
  | _, _, .cons a b => .cons (dp_mono e a) (dpAll_mono e b)

/-! ### // by any divisor but 0 -/
def CDivG (_ j : Int) : Prop := j ≠ 0 ∧ j.natAbs.log2 < 9000
theorem op_fdivG {X : Cx} : OpR X (binaryOp .FloorDiv) (rI CDivG fun i j => .int (i.fdiv j)) := opI fun _ _ _ _ _ _ _ hc q =>
  floordiv_int hc.1 q (.inl (PyProof.noPylong_of_log2 hc.2))

/-! ### the text of data, where no text is under way -/
def Show1 (d : PyData) : Prop := d.showable = true ∧ d.hasDict = false ∧ d.shown.length ≤ sizeLine ∧ d.depth < 40
def rShow (K : PySem.W.Frag) : List V → Hp → VK → Prop := fun vs H Q => ∃ v d, vs = [v] ∧ Dp K H v d ∧ Show1 d ∧ Q (.str d.shown) H
section
variable {X : Cx}
theorem call_repr (hg : X.A.guards = some []) (hu : X.A.units + 64 < cLine) : CallR X (.builtin "repr") (rShow X.K) := by
  intro pins s σ H vs us Q I r h
  obtain ⟨v, d, rfl, hd, ⟨h1, h2, h3, h4⟩, q⟩ := h
  obtain ⟨u, rfl, rv⟩ := vals1 r
  cases v with
  | non =>
    cases hd; cases rv
    exact PySem.P.repr_of_none ⟨.str (PyData.shown .none), H, I.tok _, ⟨_, rfl⟩, q⟩
  | bl b =>
    cases hd; cases rv
    exact PySem.P.repr_of_bool ⟨.str (PyData.shown (.bool b)), H, I.tok _, ⟨s.toks, by cases b <;> rfl⟩, q⟩
  | int i =>
    cases hd
    obtain ⟨t, rfl⟩ := rv
    exact PySem.P.repr_of_int (by simpa [PyData.showable] using h1) ⟨.str (PyData.shown (.int i)), H, I.tok _, ⟨_, rfl⟩, q⟩
  | str x =>
    cases hd
    obtain ⟨t, rfl⟩ := rv
    exact PySem.P.repr_of_str ⟨.str (PyData.shown (.str x)), H, I.tok _, ⟨_, rfl⟩, q⟩ h3
  | byt b => cases hd
  | flt b => cases hd
  | ty n => cases hd
  | ref a =>
    cases rv
    obtain ⟨as, rd⟩ := Dp.reads I d _ _ hd rfl
    exact repr_of_reads' rd h1 (PyData.noDict_hsm h2) hg (by omega) (fun _ _ e => e) (fun h' u tk k => ⟨.str d.shown, H, I.kept k, ⟨_, rfl⟩, q⟩) h3
theorem call_strD (hg : X.A.guards = some []) (hu : X.A.units + 64 < cLine) : CallR X (.type "str") (fun vs H Q => ∃ a d, vs = [.ref a] ∧ Dp X.K H (.ref a) d ∧ Show1 d ∧ Q (.str d.shown) H) := by
  intro pins s σ H vs us Q I r h
  obtain ⟨a, d, rfl, hd, ⟨h1, h2, h3, h4⟩, q⟩ := h
  obtain ⟨u, rfl, rv⟩ := vals1 r
  cases rv
  obtain ⟨as, rd⟩ := Dp.reads I d _ _ hd rfl
  exact str_of_reads rd h1 (PyData.noDict_hsm h2) hg (by omega) (fun _ _ e => e) (fun h' u tk k => ⟨.str d.shown, H, I.kept k, ⟨_, rfl⟩, q⟩) h3
end

/-! ### defs that want no text under way -/
structure FnG (P : Program) (w : World) (K : PySem.W.Frag) (mg : Str → Option Value) (base : Heap) (CX : CXT) (k : Nat) (f : Addr) (fd : FuncData) (ps : List Str) (sp : Sp) : Prop where
  len : ∀ vs H Q E, sp vs H Q E → vs.length = ps.length
  run : ∀ (A : Around) (outer : List Env) (s : Shared) (H : Hp) (args : Args) (us : List Value) (vs : List V) (Q : VK) (E : XK),
    A.guards = some [] → Room k A → Env0 P w K mg base A outer s H → BindsTo s fd args (ps.zip us) → Vals vs us → sp vs H Q E →
    codeAny (model P w) A (.call (.ref f) args) (CR CX outer P w H s Q E) s
section
variable {P : Program} {w : World} {K : PySem.W.Frag} {mg : Str → Option Value} {base : Heap}
/-- a def of the text, by its body -/
theorem _root_.L2.Fun.okG {CX : CXT} {x qual : Str} {st : Stmt} {f : Addr} {fd : FuncData} {N ps : List Str} {k : Nat} {sp : Sp} (F : Fun K x qual st f fd)
    (S : FnScope N ps (defScope st)) (len : ∀ vs H Q E, sp vs H Q E → vs.length = ps.length)
    (body : ∀ (cdv : Value) (A : Around) (outer : List Env) (s : Shared) (H : Hp) (vs : List V) (Q : VK) (E : XK), A.guards = some [] →
      Room k (A.deeper (envOfC qual (defScope st) s.heap.objs.size f cdv)) → sp vs H Q E →
      ∃ t, PSs (cxOf CX P w K mg base N qual (defScope st) f cdv A outer s H E) (defBody st) t ∧
        t { nx := fun _ H' => Q .non H', rt := Q } (start N vs) H) : FnG P w K mg base CX (k + 1) f fd ps sp := by
  obtain ⟨oc, od, kV, doc, pm, an, cdv, ct, osl, rfl, lk, hcd⟩ := F.ex
  constructor
  · exact len
  · intro A outer s H args us vs Q E hg hr e0 hb rv hsp
    have down : ∀ (b : Addr) (o : Obj), base.get? b = some o → s.heap.get? b = some o := fun b o e => (e0.bs b o e).1
    have inK := e0.mod.kin.keeps down
    have kinds : ∀ y ∈ ps.zip us, (defScope st).names.lookup y.1 = some .local ∨
        ((defScope st).names.lookup y.1 = some .cell ∧ ((cellsFrom (s.heap.objs.size + 1) (defScope st).names []).lookup y.1).isSome = true) := by
      rintro ⟨n, v⟩ hy
      have hn := S.par n (List.of_mem_zip hy).1
      exact hn.imp id fun q => ⟨q, PySem.W.cellsFrom_some _ _ _ (.inl q)⟩
    apply codeAny_call_function hr.depth (inK _ _ lk) rfl S.co S.gen rfl (PySem.W.codeRec_of inK hcd)
    refine hb _ _ _ _ (wpAny_newFunctionEnv_cells S.kind kinds ?_)
    rintro env rfl s1 x
    obtain ⟨t, ht, hq⟩ := body cdv A outer s H vs Q E hg (hr.deeper _) hsp
    have I := inv_start (CX := CX) (E := E) (P := P) (w := w) S hr.hd e0 (len _ _ _ _ hsp) rv x
    refine ⟨(e0.mod.nolimit.keeps down).keeps x.toInCall.keep, codeAny_func (wpAny_mono (ht.run [] s1 _ H _ I hq) ?_ fun _ _ z => z)⟩
    intro fl s' hs
    cases fl with
    | ret u =>
      obtain ⟨v, σ', H', J, r', q⟩ := hs
      exact ⟨v, H', J.os, J.bare, J.base, J.hok, r', q⟩
    | next =>
      obtain ⟨σ', H', J, q⟩ := hs
      exact ⟨.non, H', J.os, J.bare, J.base, J.hok, rfl, q⟩
    | brk => exact hs.elim fun _ z => z.elim fun _ z => z.2.elim
    | cont => exact hs.elim fun _ z => z.elim fun _ z => z.2.elim
end
section
variable {X : Cx} {CX : CXT} {k : Nat} {f : Addr} {fd : FuncData} {ps : List Str} {sp : Sp} {E : L2.St → XK} {x : Str} {p pos : Pos} {e fn : Expr} {es : List Expr} {t : TA} {tf : TE}
/-- the call of such a def -/
theorem pe_callG (F : FnG X.prog X.w X.K X.mg X.base CX k f fd ps sp) (gd : X.A.guards = some []) (hr : Room k X.A) (hg : Gl X x) (hm : X.mg x = some (.ref f)) (hk : PySem.W.keepIn X.K (.ref f) = true) (hb : Binds X.K fd ps [])
    (hx : ∀ σ, PassesAt CX X σ (E σ)) (ha : PA X (e :: es) t) (hdb : (x == ("__debug__" : Str)) = false := by decide)
    (he : starEach (e :: es) X.env = (false, eval e X.env) :: starEach es X.env := by rfl) (hpl : (backTo pos (starEach es X.env)).any (·.1) = false := by rfl) :
    PE X (.Call (.Name x p) (e :: es) [] pos) (tCallS sp E t) := by
  constructor
  intro pins s σ H Q I h
  apply wpAny_Call_Name_kw
  apply ld_glob I hg hm _ hdb
  refine PySem.W.callWith_K (h₀ := X.base) I.ok.mod.kin hk (thn (ha.run pos pins s σ H _ I h) ?_) he hpl
  rintro us s1 ⟨vs, H1, I1, rv, q⟩
  have b := hb s1 us I1.kIn (by rw [List.append_nil, ← rv.length]; exact F.len _ _ _ _ q)
  rw [List.append_nil] at b
  refine ⟨I1.kIn, wpAny_call (codeAny_mono (F.run X.A X.stack s1 H1 ⟨us, []⟩ us vs Q (E σ) gd hr I1.env0 b rv q) ?_)⟩
  intro r s' hq
  match r, hq with
  | .error e, hq => exact hx σ pins H1 s1 e s' I1 hq
  | .ok (.ret u), hq => exact I1.after hq
/-- one of several defs, by what the called expression is worth -/
structure Callee (X : Cx) (CX : CXT) (f : Addr) (sp : Sp) : Prop where
  ok : ∃ (k : Nat) (fd : FuncData) (ps : List Str), FnOk X.prog X.w X.K X.mg X.base CX k f fd ps sp ∧ Room k X.A ∧ PySem.W.keepIn X.K (.ref f) = true ∧ Binds X.K fd ps []
def tCallV (C : Addr → Sp → Prop) (E : L2.St → XK) (tf : TE) (t : TA) : TE := fun σ H Q => tf σ H fun v H1 => ∃ (f : Addr) (sp : Sp), v = .ref f ∧ C f sp ∧ t σ H1 fun vs H2 => sp vs H2 Q (E σ)
theorem pe_callV' {C : Addr → Sp → Prop} (hC : ∀ f sp, C f sp → Callee X CX f sp) (hf : PE X fn tf) (hx : ∀ σ, PassesAt CX X σ (E σ)) (ha : PA X (e :: es) t)
    (hc : eval (.Call fn (e :: es) [] pos) X.env = (do
      let u ← eval fn X.env
      callWith pos u [] (backTo pos (starEach (e :: es) X.env)) (backToKw pos (keywordEach [] X.env))) := by rfl)
    (he : starEach (e :: es) X.env = (false, eval e X.env) :: starEach es X.env := by rfl) (hpl : (backTo pos (starEach es X.env)).any (·.1) = false := by rfl) :
    PE X (.Call fn (e :: es) [] pos) (tCallV C E tf t) := by
  constructor
  intro pins s σ H Q I h
  rw [hc]
  refine wpAny_bind (thn (hf.run pins s σ H _ I h) ?_)
  rintro u s0 ⟨v, H0, I0, ru, f, sp, rfl, hCf, h0⟩
  cases ru
  obtain ⟨k, fd, ps, F, hr, hk, hb⟩ := (hC f sp hCf).ok
  refine PySem.W.callWith_K (h₀ := X.base) I0.ok.mod.kin hk (thn (ha.run pos pins s0 σ H0 _ I0 h0) ?_) he hpl
  rintro us s1 ⟨vs, H1, I1, rv, q⟩
  exact ⟨I1.kIn, run_fnS F hr hb (hx σ) I1 rv q⟩
end
end PW
namespace PW
open PySem PySem.Spec PyProof.Rows L2 Evl
section
variable {P : Program} {w : World} {K : PySem.W.Frag} {mg mb : Str → Option Value} {k : Nat} {fa a : Addr} {fd : FuncData} {x : Str} {sp : Sp} {s0 : Shared} {vs : List Value} {ns : List Int}
/-- the law's call, no text being under way, by the law's own promise -/
theorem law_end (KX : K.In s0.heap) (gl : s0.heap.Ns mainGlobals mg) (bl : s0.heap.Ns builtinsNs mb) (bb : ∀ y : Str, y ≠ "__name__" → mb y = bootBuiltins y)
    (lim : s0.heap.NoLimit) (gens : s0.gens = #[]) (at_a : s0.heap.get? a = some { cls := .type "list", data := .seq vs.toArray }) (isInts : IntsAre vs ns)
    (few : ns.length ≤ sizeLine) (room : Room k callerA)
    (F : ∀ base : Heap, K.In base → base.Ns mainGlobals mg → FnG P w K mg base CX0 k fa fd [x] sp)
    (bind : ∀ (s : Shared) (u : Value), BindsTo s fd ⟨[u], []⟩ [(x, u)])
    (good : ∀ H : Hp, SqL K H a (ns.map V.int) → sp [.ref a] H (fun v _ => v = .bl true) fun _ _ _ => False) :
    codeAny (model P w) callerA (.call (.ref fa) ⟨[.ref a], []⟩)
      (fun r s' => r = .ok (.ret (.bool true)) ∧ OldK s0.heap s'.heap ∧ s'.os = s0.os ∧ AllBare s'.gens) s0 := by
  have rv := vals_ints isInts
  have hsize := isInts.length
  obtain ⟨H, hH, hS, hK⟩ : ∃ H : Hp, (∀ b, H b = none ∨ (b = a ∧ K.lookup a = none ∧ H b = some (.frz { cls := .type "list", data := .seq vs.toArray } (.lst (ns.map V.int))))) ∧
      SqL K H a (ns.map V.int) ∧ (∀ b o, K.lookup b = some o → H b = none) := by
    cases hk : K.lookup a with
    | some o =>
      have same := (KX a o hk).symm.trans at_a
      cases same
      refine ⟨fun _ => none, fun _ => .inl rfl, .inr ⟨_, vs.toArray, _, hk, rfl, rfl, rfl, ?_, by simpa using rv⟩, fun _ _ _ => rfl⟩
      rw [List.size_toArray, hsize]
      exact few
    | none =>
      refine ⟨fun b => if b = a then some (.frz { cls := .type "list", data := .seq vs.toArray } (.lst (ns.map V.int))) else none, fun b => ?_, .inl (.inr ⟨_, if_pos rfl⟩), fun b o hb => if_neg ?_⟩
      · by_cases e : b = a
        · exact .inr ⟨e, rfl, if_pos e⟩
        · exact .inl (if_neg e)
      · rintro rfl
        rw [hk] at hb
        cases hb
  have ok : HOk P w H s0.heap := by
    intro b u e
    rcases hH b with z | ⟨rfl, _, z⟩
    · rw [z] at e
      cases e
    · cases z.symm.trans e
      exact ⟨at_a, by rw [List.length_map]; exact few, vs, _, rv, at_a⟩
  have isDict : ∀ (b : Addr) (m : Str → Option Value), s0.heap.Ns b m → (hidT s0.heap H).Ns b m := by
    rintro b m ⟨o, es, ep, e, d, r⟩
    refine ⟨o, es, ep, hidT_get e ?_, d, r⟩
    rcases hH b with z | ⟨rfl, _, z⟩
    · exact z
    · cases at_a.symm.trans e
      cases d
  have inK : K.In (hidT s0.heap H) := fun b o e => hidT_get (KX b o e) (hK b o e)
  have nolim : (hidT s0.heap H).NoLimit := by
    obtain ⟨mc, h1, h2⟩ := lim
    exact ⟨mc, isDict _ _ h1, h2⟩
  have modu : Mod K mg (hidT s0.heap H) := ⟨inK, isDict _ _ gl, ⟨mb, isDict _ _ bl, bb⟩, nolim⟩
  have here : Env0 P w K mg (hidT s0.heap H) callerA [] s0 H :=
    { frames := rfl, mod := modu, bs := fun b o e => of_hidT e, bsz := Nat.le_of_eq (hidT_size _ _), funs := trivial
      frf := fun b hb => by
        have hb' : b ∈ ([] : List Addr) := hb
        cases hb'
      hok := ok, bare := .of_eq gens }
  refine codeAny_mono ((F _ inK (isDict _ _ gl)).run callerA [] s0 H ⟨[.ref a], []⟩ [.ref a] [.ref a] _ _ rfl room here (bind s0 _) (.cons rfl .nil) (good H hS)) ?_
  intro r s' h
  match r, h with
  | .error e, h => exact h.elim
  | .ok (.ret u), ⟨v, H', os, bare, un, ok', r', q⟩ =>
    have q' : v = .bl true := q
    subst q'
    cases r'
    refine ⟨rfl, OldK.of_keep fun b o e => ?_, os, bare⟩
    rcases hH b with z | ⟨rfl, _, z⟩
    · refine un.keep b o e z (fun hb => ?_) (fun hb => nomatch hb)
      have hb' : b ∈ ([] : List Addr) := hb
      cases hb'
    · have e1 := (ok b _ z).1
      have e2 := (ok' b _ (un.frzs b _ _ z)).1
      rw [e] at e1
      cases e1
      exact e2
end
/-- what k_head leaves of a law, from the law's promise (no text under way) -/
theorem walk_ofG {l : PySem.W.OpenLaw} {n k : Nat} {q : Program} {loose : List Str} {XP : (Str → Option Value) → Heap → Prop} {YP : World → Heap → Prop} {d : DefRec} {K : Params → PySem.W.Frag} {sp : World → Sp} {x : Str}
    (most : l.most = some n) (few : n ≤ sizeLine) (hdf : d.params.defaults = []) (room : Room k callerA) (inK : ∀ (w : World) (h : Heap), YP w h → (K w.params).In h)
    (F : ∀ (w : World) (mg : Str → Option Value) (fa : Addr) (h : Heap), (K w.params).In h → h.Ns mainGlobals mg → mg d.name = some (.ref fa) →
      ∃ fd : FuncData, (∀ (s : Shared) (u : Value), BindsTo s fd ⟨[u], []⟩ [(x, u)]) ∧
        ∀ base : Heap, (K w.params).In base → base.Ns mainGlobals mg → FnG l.prog w (K w.params) mg base CX0 k fa fd [x] (sp w))
    (good : ∀ (w : World) (H : Hp) (a : Addr) (ns : List Int), ns.length ≤ n → SqL (K w.params) H a (ns.map V.int) → sp w [.ref a] H (fun v _ => v = .bl true) fun _ _ _ => False) :
    PySem.W.WalkO q loose XP YP l.row.toRowW d [] (fun f vs => PySem.call f vs) := by
  refine Att.attach_call most hdf ?_
  intro w s0 s1 mg mb fa o pm cd doc a vs ns G Y ho hd hcd hmg hobj hints hlen hg
  obtain ⟨fd, hb, hF⟩ := F w mg fa _ (inK w _ Y) G.T.g hmg
  exact law_end (inK w _ Y) G.T.g G.T.b G.T.builtins G.T.nolimit hg hobj hints (Nat.le_trans hlen few) room hF hb fun H hS => good w H a ns hlen hS
/-- the same where the promise hangs on the written part alone -/
theorem walk_ofGK {l : PySem.W.OpenLaw} {n k : Nat} {q : Program} {loose : List Str} {XP : (Str → Option Value) → Heap → Prop} {YP : World → Heap → Prop} {d : DefRec} {K : Params → PySem.W.Frag} {sp : PySem.W.Frag → Sp} {x : Str}
    (most : l.most = some n) (few : n ≤ sizeLine) (hdf : d.params.defaults = []) (room : Room k callerA) (inK : ∀ (w : World) (h : Heap), YP w h → (K w.params).In h)
    (F : ∀ (w : World) (mg : Str → Option Value) (fa : Addr) (h : Heap), (K w.params).In h → h.Ns mainGlobals mg → mg d.name = some (.ref fa) →
      ∃ fd : FuncData, (∀ (s : Shared) (u : Value), BindsTo s fd ⟨[u], []⟩ [(x, u)]) ∧
        ∀ base : Heap, (K w.params).In base → base.Ns mainGlobals mg → FnG l.prog w (K w.params) mg base CX0 k fa fd [x] (sp (K w.params)))
    (good : ∀ (K : PySem.W.Frag) (H : Hp) (a : Addr) (ns : List Int), ns.length ≤ n → SqL K H a (ns.map V.int) → sp K [.ref a] H (fun v _ => v = .bl true) fun _ _ _ => False) :
    PySem.W.WalkO q loose XP YP l.row.toRowW d [] (fun f vs => PySem.call f vs) :=
  walk_ofG (K := K) (sp := fun w => sp (K w.params)) most few hdf room inK F fun w H a ns h1 h2 => good (K w.params) H a ns h1 h2
end PW
namespace PW
open PySem PySem.Spec PyProof.Rows L2 Evl
/-- a def that keeps its promise, under its name -/
structure Cal (P : Program) (w : World) (K : PySem.W.Frag) (mg : Str → Option Value) (base : Heap) (CX : CXT) (k : Nat) (x : Str) (f : Addr) (fd : FuncData) (ps : List Str) (ds : List Value) (dvs : List V) (sp : Sp) : Prop where
  ok : FnOk P w K mg base CX k f fd ps sp
  g : mg x = some (.ref f)
  kp : PySem.W.keepIn K (.ref f) = true
  b : Binds K fd ps ds
  d : Vals dvs ds
structure CalG (P : Program) (w : World) (K : PySem.W.Frag) (mg : Str → Option Value) (base : Heap) (CX : CXT) (k : Nat) (x : Str) (f : Addr) (fd : FuncData) (ps : List Str) (sp : Sp) : Prop where
  ok : FnG P w K mg base CX k f fd ps sp
  g : mg x = some (.ref f)
  kp : PySem.W.keepIn K (.ref f) = true
  b : Binds K fd ps []
section
variable {X : Cx} {CX : CXT} {k : Nat} {f : Addr} {fd : FuncData} {ps : List Str} {ds : List Value} {dvs : List V} {sp : Sp} {E : XK} {E2 : L2.St → XK} {x : Str} {p pos : Pos} {e : Expr} {es : List Expr} {t : TA}
theorem pe_cal (c : Cal X.prog X.w X.K X.mg X.base CX k x f fd ps ds dvs sp) (hr : Room k X.A) (hx : Passes CX X E) (ha : PA X (e :: es) t) (hg : Gl X x := by rfl) (hdb : (x == ("__debug__" : Str)) = false := by decide)
    (he : starEach (e :: es) X.env = (false, eval e X.env) :: starEach es X.env := by rfl) (hpl : (backTo pos (starEach es X.env)).any (·.1) = false := by rfl) :
    PE X (.Call (.Name x p) (e :: es) [] pos) (tCall sp dvs E t) := pe_call c.ok hr hg c.g c.kp c.b c.d hx ha hdb he hpl
theorem pe_calS (c : Cal X.prog X.w X.K X.mg X.base CX k x f fd ps [] [] sp) (hr : Room k X.A) (hx : ∀ σ, PassesAt CX X σ (E2 σ)) (ha : PA X (e :: es) t) (hg : Gl X x := by rfl) (hdb : (x == ("__debug__" : Str)) = false := by decide)
    (he : starEach (e :: es) X.env = (false, eval e X.env) :: starEach es X.env := by rfl) (hpl : (backTo pos (starEach es X.env)).any (·.1) = false := by rfl) :
    PE X (.Call (.Name x p) (e :: es) [] pos) (tCallS sp E2 t) := pe_callS c.ok hr hg c.g c.kp c.b hx ha hdb he hpl
theorem pe_calG (c : CalG X.prog X.w X.K X.mg X.base CX0 k x f fd ps sp) (gd : X.A.guards = some []) (hr : Room k X.A) (ha : PA X (e :: es) t) (hg : Gl X x := by rfl) (hdb : (x == ("__debug__" : Str)) = false := by decide)
    (he : starEach (e :: es) X.env = (false, eval e X.env) :: starEach es X.env := by rfl) (hpl : (backTo pos (starEach es X.env)).any (·.1) = false := by rfl) :
    PE X (.Call (.Name x p) (e :: es) [] pos) (tCallS sp (fun _ => E0) t) := pe_callG c.ok gd hr hg c.g c.kp c.b (fun _ => fun _ _ _ _ _ _ h => h.elim) ha hdb he hpl
theorem pe_globR (hm : X.mg x = some (.ref f)) (hg : Gl X x := by rfl) (hd : (x == ("__debug__" : Str)) = false := by decide) : PE X (.Name x pos) (tC (.ref f)) := pe_glob hg hm rfl hd
theorem pe_strD {K : PySem.W.Frag} (gd : X.A.guards = some []) (hu : X.A.units + 64 < cLine) (hm : X.mg "str" = none) (ha : PA X (e :: es) t) (hK : X.K = K := by rfl) (hg : Gl X "str" := by rfl)
    (he : starEach (e :: es) X.env = (false, eval e X.env) :: starEach es X.env := by rfl) (hpl : (backTo pos (starEach es X.env)).any (·.1) = false := by rfl) :
    PE X (.Call (.Name "str" p) (e :: es) [] pos) (tCB (fun vs H Q => ∃ a d, vs = [.ref a] ∧ Dp K H (.ref a) d ∧ Show1 d ∧ Q (.str d.shown) H) t) := by
  subst hK
  exact pe_callTy (call_strD gd hu) hg hm (by decide +kernel) ha (by decide) (by decide) he hpl
theorem pe_repr (gd : X.A.guards = some []) (hu : X.A.units + 64 < cLine) (hm : X.mg "repr" = none) (ha : PA X (e :: es) t) (hg : Gl X "repr" := by rfl)
    (he : starEach (e :: es) X.env = (false, eval e X.env) :: starEach es X.env := by rfl) (hpl : (backTo pos (starEach es X.env)).any (·.1) = false := by rfl) :
    PE X (.Call (.Name "repr" p) (e :: es) [] pos) (tCB (rShow X.K) t) :=
  pe_callB (call_repr gd hu) hg hm (by decide +kernel) ha (by decide) (by decide) he hpl
theorem ix_listK {K : PySem.W.Frag} (hK : X.K = K := by rfl) : IxR X (rIxL K) := by
  subst hK
  exact ix_list
theorem ix_tupK {K : PySem.W.Frag} (hK : X.K = K := by rfl) : IxR X (rIxT K) := by
  subst hK
  exact ix_tup
theorem Cal.callee (c : Cal X.prog X.w X.K X.mg X.base CX k x f fd ps [] [] sp) (hr : Room k X.A) : Callee X CX f sp := ⟨k, fd, ps, c.ok, hr, c.kp, c.b⟩
end
section
variable {P : Program} {w : World} {K : PySem.W.Frag} {mg : Str → Option Value} {base : Heap}
theorem _root_.L2.Fun.okGn {x qual : Str} {st : Stmt} {f : Addr} {fd : FuncData} {N ps : List Str} {k : Nat} {sp : Sp} (F : Fun K x qual st f fd)
    (S : FnScope N ps (defScope st)) (len : ∀ vs H Q E, sp vs H Q E → vs.length = ps.length)
    (body : ∀ (cdv : Value) (A : Around) (outer : List Env) (s : Shared) (H : Hp) (vs : List V) (Q : VK) (E : XK), A.guards = some [] →
      Room k (A.deeper (envOfC qual (defScope st) s.heap.objs.size f cdv)) → sp vs H Q E →
      ∃ t, PSs (cxOf CX0 P w K mg base N qual (defScope st) f cdv A outer s H E).nox (defBody st) t ∧
        t { nx := fun _ H' => Q .non H', rt := Q } (start N vs) H) : FnG P w K mg base CX0 (k + 1) f fd ps sp :=
  F.okG S len fun cdv A outer s H vs Q E g hr h =>
    have ⟨t, a, b⟩ := body cdv A outer s H vs Q E g hr h
    ⟨t, a.nox, b⟩
theorem gd_deeper {A : Around} {e : Env} (h : A.guards = some []) : (A.deeper e).guards = some [] := h
theorem hu_64 {A : Around} {k : Nat} (hr : Room k A) : A.units + 64 < cLine := hr.units
end
/-- isinstance(e, c) of the exception that the suite holds, its class not told before -/
def rIsX (K : PySem.W.Frag) (a : Addr) (cls : Value) (d : Option Addr) : List V → Hp → VK → Prop := fun xs H Q => cls ≠ cls ∨ ∃ D, cls = .ref D ∧ d = none ∧ ExcC K D ∧ rIsE K D a xs H Q
theorem call_isX {X : Cx} {K : PySem.W.Frag} {a : Addr} {cls : Value} {d : Option Addr} {oe : Obj} {pn : List (Addr × Obj)} (hz : Zc cls d oe) (hf : ∃ vs, oe.data = .fields vs) (hK : X.K = K := by rfl) : CallR (X.suite a ((a, oe) :: pn)) (.builtin "isinstance") (rIsX K a cls d) := by
  subst hK
  intro pins s σ H xs us Q I r h
  rcases h with z | ⟨D, rfl, rfl, C, h⟩
  · exact absurd rfl z
  · exact call_isE C hz hf pins s σ H xs us Q I r h
/-- a number: a pair of ints -/
def Num (K : PySem.W.Frag) (H : Hp) (v : V) (a b : Int) : Prop := ∃ p, v = .ref p ∧ SqT K H p [.int a, .int b]
theorem Num.mono {K : PySem.W.Frag} {H H' : Hp} {v : V} {a b : Int} (e : Ex H H') (n : Num K H v a b) : Num K H' v a b :=
  have ⟨p, h1, h2⟩ := n
  ⟨p, h1, ex_t e h2⟩
def isN (a b : Int) : Prop := 1 ≤ b ∧ Int.gcd a b = 1
instance (a b : Int) : Decidable (isN a b) := inferInstanceAs (Decidable (_ ∧ _))
end PW
/-! Own layer over HandS: lcm, len by an own __len__, enumerate and zip over lists, tuples and texts, list(text). -/
namespace PW
open PySem PySem.Spec PyProof.Rows L2 Evl
/-! ### math.lcm -/
def rLcm : List V → Hp → VK → Prop := fun vs H Q => ∃ a b : Int, vs = [.int a, .int b] ∧ a.natAbs < 2 ^ 9000 ∧ b.natAbs < 2 ^ 9000 ∧ Q (.int ((Nat.lcm a.natAbs b.natAbs : Nat) : Int)) H
theorem lcm_le_mul (m n : Nat) : m.lcm n ≤ m * n := by
  unfold Nat.lcm
  exact Nat.div_le_self _ _
theorem cr_lcm {X : Cx} : CallR X (.builtin "math.lcm") rLcm := by
  intro pins s σ H vs us Q I r h
  obtain ⟨a, b, rfl, ha, hb, q⟩ := h
  obtain ⟨t, u, rfl⟩ := Vals.int2 r
  have lg : ∀ {n : Nat}, n < 2 ^ 9000 → n.log2 ≤ 8999 := fun h => PySem.W.mg_log (k := 8999) h
  have one : (1 : Nat) < 2 ^ 9000 := Nat.one_lt_two_pow (by decide)
  have h1 : (max 1 a.natAbs).log2 ≤ 8999 := lg (by omega)
  have h2 : (max a.natAbs b.natAbs).log2 ≤ 8999 := lg (by omega)
  have e1 : Nat.lcm 1 a.natAbs = a.natAbs := by simp [Nat.lcm]
  have hs : ((((Nat.lcm 1 a.natAbs).lcm b.natAbs : Nat) : Int)).natAbs.log2 < bitsLine := by
    rw [e1]
    have e2 : (((a.natAbs.lcm b.natAbs : Nat) : Int)).natAbs = a.natAbs.lcm b.natAbs := rfl
    rw [e2]
    have h3 : a.natAbs.lcm b.natAbs < 2 ^ (17999 + 1) := by
      refine Nat.lt_of_le_of_lt (lcm_le_mul _ _) ?_
      have : (2 : Nat) ^ (17999 + 1) = 2 ^ 9000 * 2 ^ 9000 := by rw [← Nat.pow_add]
      rw [this]
      exact Nat.mul_lt_mul'' ha hb
    have h4 := PySem.W.mg_log h3
    have : bitsLine = 134217728 := by decide
    omega
  have g := PySem.W.mg_run_lcm a t b u (by omega) (by omega) hs
  refine call_function_meets PySem.W.MGF.kind_lcm PySem.W.MGF.plain_lcm PySem.W.MGF.entry_lcm (PySem.W.MGF.args_lcm _ _) g.meets ⟨.int _, H, I.tok _, ⟨_, rfl⟩, ?_⟩
  rw [e1]
  exact q
/-! ### len(x) by the class's own __len__ -/
theorem call_lenOwn {X : Cx} {CX : CXT} {C f : Addr} {fd : FuncData} {ps : List Str} {n : Nat} {sp : Sp} {E : XK} (F : FnOk X.prog X.w X.K X.mg X.base CX n f fd ps sp)
    (hr : Room (n + 1) X.A) (hs : PySem.W.findIn X.K (.ref C) "__len__" = some (some (.ref f))) (hf : PySem.W.isFn X.K (.ref f) = true) (hb : Binds X.K fd ps []) (hx : Passes CX X E) :
    CallR X (.builtin "len") (fun xs H Q => ∃ a dx fs, xs = [.ref a] ∧ H a = some (.ins C dx fs) ∧ sp [.ref a] H (fun v H' => ∃ n : Nat, v = .int n ∧ n < 2 ^ 62 ∧ Q (.int n) H') E) := by
  intro pins s σ H xs us Q I r h
  obtain ⟨a, dx, fs, rfl, ha, hsp⟩ := h
  obtain ⟨u, rfl, ru⟩ := vals1 r
  cases ru
  obtain ⟨mA, J, _⟩ := ins_get I.hok ha
  obtain ⟨od, J, _⟩ := J.look
  obtain ⟨m, hF⟩ := I.fr
  refine PySem.W.len_K hF I.ok.mod.kin J hs hf ?_
  have e0 : Env0 X.prog X.w X.K X.mg X.base X.A.in1 X.stack s H := by
    have e := I.env0
    exact ⟨e.frames, e.mod, e.bs, e.bsz, e.funs, e.frf, e.hok, e.bare⟩
  have hl := F.len _ _ _ _ hsp
  have r2 : Vals [V.ref a] [Value.ref a] := .cons rfl .nil
  refine wpAny_call (codeAny_mono (F.run X.A.in1 X.stack s H ⟨[.ref a], []⟩ [.ref a] [.ref a] _ E hr.in1 e0 (by
    have := hb s [.ref a] I.kIn (by simpa using hl)
    simpa using this) r2 hsp) fun r s' hq => ?_)
  cases r with
  | error e => exact hx pins σ H s e s' I hq
  | ok fl =>
    cases fl with
    | ret w =>
      obtain ⟨z, H', I', rz, n, ez, hn, q⟩ := I.after hq
      subst ez
      obtain ⟨t, rfl⟩ := rz
      exact ⟨⟨by omega, by omega⟩, .int n, H', I'.tok _, ⟨_, rfl⟩, q⟩
    | next => exact False.elim hq
    | brk => exact False.elim hq
    | cont => exact False.elim hq
/-! ### what is gone through: a list, a tuple, a text -/
inductive Src where
  | lst (a : Addr)
  | tup (a : Addr)
  | str (x : Str)
def chars (x : Str) : List V := x.cps.toList.map fun c => .str ⟨#[c]⟩
def Src.at (K : PySem.W.Frag) (H : Hp) : Src → List V → Prop
  | .lst a, xs => SqL K H a xs
  | .tup a, xs => SqT K H a xs
  | .str x, xs => xs = chars x
def Src.v : Src → V
  | .lst a => .ref a
  | .tup a => .ref a
  | .str x => .str x
def Src.base : Src → List Addr
  | .lst a => [a]
  | .tup a => [a]
  | .str _ => []
def Src.St (it : Addr) (i : Nat) (h : Heap) : Src → Prop
  | .lst a => h.IsListIter it a i
  | .tup a => h.IsTupleIter it a i
  | .str x => ∃ t, h.IsStrIter it (strIterType x) x t i
theorem Src.St.at {S : Src} {it : Addr} {i : Nat} {h h' : Heap} (st : S.St it i h) (k : ∀ o, h.get? it = some o → h'.get? it = some o) : S.St it i h' := by
  cases S with
  | lst a => exact Heap.IsListIter.at st k
  | tup a => exact Heap.IsTupleIter.at st k
  | str x => exact let ⟨t, o, ho, r⟩ := st; ⟨t, o, k o ho, r⟩
theorem Src.St.obj {S : Src} {it : Addr} {i : Nat} {h : Heap} (st : S.St it i h) : ∃ o, h.get? it = some o ∧ ∀ v, o.data ≠ .cell v := by
  cases S with
  | lst a => exact let ⟨o, ho, _, hd⟩ := st; ⟨o, ho, fun v q => by rw [hd] at q; cases q⟩
  | tup a => exact let ⟨o, ho, _, hd⟩ := st; ⟨o, ho, fun v q => by rw [hd] at q; cases q⟩
  | str x => exact let ⟨t, o, ho, _, hd⟩ := st; ⟨o, ho, fun v q => by rw [hd] at q; cases q⟩
section
variable {X : Cx} {pins : List (Addr × Obj)} {σ : L2.St} {H : Hp} {s : Shared} {xs ys : List V}
theorem Src.inj {S : Src} (I : Inv X pins σ H s) (h1 : S.at X.K H xs) (h2 : S.at X.K H ys) : xs = ys := by
  cases S with
  | lst a => exact I.list_inj h1 h2
  | tup a => exact I.tuple_inj h1 h2
  | str x => exact Eq.trans h1 (Eq.symm h2)
theorem Src.draws {S : Src} {A : Around} (I : Inv X pins σ H s) (hh : A.handled = none) (hq : S.at X.K H xs) (it : Addr) (hne : ∀ b ∈ S.base, b ≠ it) (i : Nat) (st : S.St it i s.heap) :
    ∃ (P : Nat → Value → Prop) (St : Nat → Heap → Prop), Draws X.prog X.w A it (it :: S.base) xs.length P St ∧ (∀ i v, P i v → ∃ x, xs[i]? = some x ∧ RelV x v) ∧ St i s.heap ∧ ∀ i h, St i h → S.St it i h := by
  cases S with
  | lst a =>
    obtain ⟨its, rv, p, hz⟩ := I.list hq
    have hl := rv.length
    have D := Draws.list (prog := X.prog) (w := X.w) (A := A) hh it a (hne a (by simp [Src.base])) its.toArray
    rw [List.size_toArray, ← hl] at D
    refine ⟨_, _, D, ?_, ⟨st, p.isList⟩, fun i h q => q.1⟩
    · intro i v hv
      have hv' : its[i]? = some v := by simpa using hv
      have hi : i < xs.length := by
        have := (List.getElem?_eq_some_iff.mp hv').1
        omega
      obtain ⟨u, hu, ru⟩ := rv.get (List.getElem?_eq_getElem hi)
      rw [hu] at hv'
      cases hv'
      exact ⟨_, List.getElem?_eq_getElem hi, ru⟩
  | tup a =>
    obtain ⟨its, rv, p, hz⟩ := I.tuple hq
    have hl := rv.length
    have D := Draws.tuple (prog := X.prog) (w := X.w) (A := A) hh it a (hne a (by simp [Src.base])) its.toArray
    rw [List.size_toArray, ← hl] at D
    refine ⟨_, _, D, ?_, ⟨st, p⟩, fun i h q => q.1⟩
    · intro i v hv
      have hv' : its[i]? = some v := by simpa using hv
      have hi : i < xs.length := by
        have := (List.getElem?_eq_some_iff.mp hv').1
        omega
      obtain ⟨u, hu, ru⟩ := rv.get (List.getElem?_eq_getElem hi)
      rw [hu] at hv'
      cases hv'
      exact ⟨_, List.getElem?_eq_getElem hi, ru⟩
  | str x =>
    obtain ⟨t, st⟩ := st
    have hq : xs = chars x := hq
    subst hq
    have hl : (chars x).length = x.cps.size := by unfold chars; simp
    have D := Draws.text (prog := X.prog) (w := X.w) (A := A) hh it x t
    rw [← hl] at D
    refine ⟨_, _, D, ?_, st, fun i h q => ⟨t, q⟩⟩
    · rintro i v ⟨c, u, hc, rfl⟩
      refine ⟨.str ⟨#[c]⟩, ?_, ⟨u, rfl⟩⟩
      unfold chars
      rw [List.getElem?_map, Array.getElem?_toList, hc]
      rfl
theorem Src.begins {S : Src} {u : Value} (I : Inv X pins σ H s) (hq : S.at X.K H xs) (ru : RelV S.v u) :
    ∃ (o : Obj) (Hh : Heap → Prop), Begins u o Hh ∧ Hh s.heap ∧ (∀ b ∈ S.base, b < s.heap.objs.size) ∧ ∀ it h, h.get? it = some o → S.St it 0 h := by
  cases S with
  | lst a =>
    cases ru
    obtain ⟨its, rv, p, hz⟩ := I.list hq
    exact ⟨_, _, begins_list a its.toArray, p.isList, fun b hb => by rw [List.mem_singleton.mp hb]; exact p.lt, fun it h e => ⟨_, e, rfl, rfl⟩⟩
  | tup a =>
    cases ru
    obtain ⟨its, rv, p, hz⟩ := I.tuple hq
    obtain ⟨o1, ho1, _⟩ := id p
    exact ⟨_, _, begins_tuple a its.toArray, p, fun b hb => by rw [List.mem_singleton.mp hb]; exact Heap.lt_size ho1, fun it h e => ⟨_, e, rfl, rfl⟩⟩
  | str x =>
    obtain ⟨t, rfl⟩ := ru
    exact ⟨_, _, begins_text x t, trivial, fun b hb => absurd hb List.not_mem_nil, fun it h e => ⟨t, _, e, rfl, rfl⟩⟩
end
/-! ### enumerate(..) -/
def ItE (K : PySem.W.Frag) (S : Src) : It :=
  ⟨fun i H => ∃ (xs : List V) (x : V), S.at K H xs ∧ xs[i]? = some x, fun i H v H' => ∃ T x, v = .ref T ∧ H T = none ∧ H' = upd H T (.tup [.int (i : Nat), x]) ∧ ∀ xs, S.at K H xs → xs[i]? = some x, fun i H => ∃ xs : List V, S.at K H xs ∧ xs.length = i⟩
theorem turn_enumS {P : Program} {w : World} {K : PySem.W.Frag} {elts : List Expr} {kk : Nat} {tpos : Pos} (S : Src) (e it : Addr) (hb : ∀ b ∈ S.base, b ≠ it ∧ b ≠ e) :
    Turn P w K (.Tuple elts kk tpos) (ItE K S) [e, it] e (fun i h => (∃ old, IsEnum h e it ((i : Nat) : Int) old) ∧ S.St it i h ∧ e ≠ it) where
  mem := by simp
  obj := fun i h st b hb => by
    obtain ⟨⟨old, he⟩, hs, _⟩ := st
    have e' : b = e ∨ b = it := by simpa using hb
    rcases e' with z | z
    · rw [z]; exact ⟨_, he, fun v q => nomatch q⟩
    · rw [z]; exact hs.obj
  keep := fun i h h' st k => let ⟨⟨old, he⟩, hi, hne⟩ := st; ⟨⟨old, k e (by simp) _ he⟩, hi.at fun o q => k it (by simp) o q, hne⟩
  item := by
    intro X hP hw hK hc i pins s σ H E I hf st hg
    subst hP hw hK
    obtain ⟨⟨old, he⟩, hit, hne⟩ := st
    obtain ⟨xs, x0, hq, hx0⟩ := hg
    obtain ⟨P, St, D, hP, st0, hS⟩ := S.draws (A := X.A.in1) I (I.ok.hd hc) hq it (fun b h => (hb b h).1) i hit
    have hlt : i < xs.length := (List.getElem?_eq_some_iff.mp hx0).1
    have hef : e ∉ it :: S.base := fun h => by
      rcases List.mem_cons.mp h with h | h
      · exact hne h
      · exact (hb e h).2 rfl
    have hel : e < s.heap.objs.size := Heap.lt_size he
    have hil : it < s.heap.objs.size := by obtain ⟨_, q, _⟩ := hit.obj; exact Heap.lt_size q
    refine wpAny_pyNext_enum_itemD D he st0 hlt hne hef fun u h' tk hu ho hst' hT hsz hk => ?_
    obtain ⟨x, hx, ru⟩ := hP i u hu
    refine ⟨_, rfl, wpAny_letOwnedTupleGo_enum (s := { s with heap := h', toks := tk + 1 }) ho fun h'' he' sb => ?_⟩
    have hT2 : h''.get? s.heap.objs.size = some { cls := .type "tuple", data := .seq #[.int i tk, u] } := (sb.2 _ (Nat.ne_of_gt hel)).trans hT
    have new : ObjOk X.prog X.w (upd H s.heap.objs.size (.tup [.int (i : Nat), x])) h'' s.heap.objs.size (.tup [.int (i : Nat), x]) :=
      ⟨by show 2 ≤ sizeLine; decide, [.int i tk, u], .cons ⟨_, rfl⟩ (.cons ru .nil), ⟨_, hT2, rfl, _, rfl⟩⟩
    have I1 : Inv X pins σ (upd H s.heap.objs.size (.tup [.int (i : Nat), x])) { s with heap := h'', toks := tk + 1 } :=
      I.turnedNew (ch := [e, it]) (fun b ob hb q => (sb.2 b (fun z => hb (by simp [z]))).trans (hk b ob (fun z => hb (by simp [z])) (fun z => hb (by simp [z])) q)) hf (Nat.le_refl _) new
    refine ⟨.ref s.heap.objs.size, _, I1, rfl, ⟨_, x, rfl, I.hok.fresh (Nat.le_refl _), rfl, fun ys hy => by rw [S.inj I hy hq]; exact hx⟩, ⟨⟨u, ?_⟩, (hS _ _ hst').at fun o q => (sb.2 it (Ne.symm hne)).trans q, hne⟩, fun b hb => ?_⟩
    · have e1 : ((i + 1 : Nat) : Int) = (i : Int) + 1 := by omega
      rw [e1]; exact he'
    · have hb' : b < s.heap.objs.size := by
        have e' : b = e ∨ b = it := by simpa using hb
        rcases e' with z | z
        · rw [z]; exact hel
        · rw [z]; exact hil
      rw [upd_ne (Nat.ne_of_lt hb')]
      exact (hf b hb).1
  done := by
    intro X hP hw hK hc i pins s σ H E I hf st hg
    subst hP hw hK
    obtain ⟨⟨old, he⟩, hit, hne⟩ := st
    obtain ⟨xs, hq, hx⟩ := hg
    subst hx
    obtain ⟨P, St, D, hP, st0, hS⟩ := S.draws (A := X.A.in1) I (I.ok.hd hc) hq it (fun b h => (hb b h).1) _ hit
    obtain ⟨f0, f1, f2, f3, f4, f5⟩ := hf it (by simp)
    exact wpAny_pyNext_enum_endD D he st0 fun h' eb => ⟨rfl, I.turned (t' := s.toks) (fun b o hb q => eb b o hb q) f0 f1 f3 f4 f5⟩
  self := fun A i s Q E st h => let ⟨⟨_, he⟩, _⟩ := st; wpAny_pyIter_enum he h
theorem ad_ne {N : Nat} (i j : Nat) (h : i ≠ j) : N + i ≠ N + j := by omega
/-! ### zip(.., ..) -/
def ItZ (K : PySem.W.Frag) (S1 S2 : Src) : It :=
  ⟨fun i H => ∃ (xs ys : List V), S1.at K H xs ∧ S2.at K H ys ∧ i < xs.length ∧ i < ys.length,
    fun i H v H' => ∃ T x y, v = .ref T ∧ H T = none ∧ H' = upd H T (.tup [x, y]) ∧ (∀ xs, S1.at K H xs → xs[i]? = some x) ∧ ∀ ys, S2.at K H ys → ys[i]? = some y,
    fun i H => ∃ xs ys : List V, S1.at K H xs ∧ S2.at K H ys ∧ i = min xs.length ys.length⟩
theorem turn_zipS {P : Program} {w : World} {K : PySem.W.Frag} {elts : List Expr} {kk : Nat} {tpos : Pos} {S1 S2 : Src} {z TI TO i1 i2 : Addr} (D : ZipSep2 z TI TO i1 i2 (i1 :: S1.base) (i2 :: S2.base))
    (b1 : ∀ b ∈ S1.base, b ≠ i1) (b2 : ∀ b ∈ S2.base, b ≠ i2) :
    Turn P w K (.Tuple elts kk tpos) (ItZ K S1 S2) [z, TI, TO, i1, i2] z (fun i h => IsZip h z TI TO .none ∧ IsTupOf2 h TI (.ref i1) (.ref i2) ∧ (∃ x y, IsTupOf2 h TO x y) ∧ S1.St i1 i h ∧ S2.St i2 i h) where
  mem := by simp
  obj := fun i h st c hc => by
    obtain ⟨hz, hTI, ⟨x, y, hTO⟩, h1, h2⟩ := st
    have e' : c = z ∨ c = TI ∨ c = TO ∨ c = i1 ∨ c = i2 := by simpa using hc
    rcases e' with q | q | q | q | q
    · rw [q]; exact ⟨_, hz, fun v q => nomatch q⟩
    · rw [q]; exact ⟨_, hTI, fun v q => nomatch q⟩
    · rw [q]; exact ⟨_, hTO, fun v q => nomatch q⟩
    · rw [q]; exact h1.obj
    · rw [q]; exact h2.obj
  keep := fun i h h' st k => by
    obtain ⟨hz, hTI, ⟨x, y, hTO⟩, h1, h2⟩ := st
    exact ⟨k z (by simp) _ hz, k TI (by simp) _ hTI, ⟨x, y, k TO (by simp) _ hTO⟩, h1.at fun o q => k i1 (by simp) o q, h2.at fun o q => k i2 (by simp) o q⟩
  item := by
    intro X hP hw hK hc i pins s σ H E I hf st hg
    subst hP hw hK
    obtain ⟨hz, hTI, ⟨x0, y0, hTO⟩, h1, h2⟩ := st
    obtain ⟨xs, ys, hqx, hqy, hx, hy⟩ := hg
    obtain ⟨P1, St1, D1, hP1, st1, hS1⟩ := S1.draws (A := X.A.in1) I (I.ok.hd hc) hqx i1 b1 i h1
    obtain ⟨P2, St2, D2, hP2, st2, hS2⟩ := S2.draws (A := X.A.in1) I (I.ok.hd hc) hqy i2 b2 i h2
    have hzl : z < s.heap.objs.size := Heap.lt_size hz
    refine wpAny_pyNext_zipD2_item D D1 D2 hz hTI hTO st1 st2 hx hy fun u u2 h' tk p1 p2 z' TO' s1' s2' hT hsz hk => ?_
    obtain ⟨x, hx, ru⟩ := hP1 i u p1
    obtain ⟨y, hy, ru2⟩ := hP2 i u2 p2
    refine ⟨_, rfl, wpAny_letOwnedTupleGo_zip (s := { s with heap := h', toks := tk }) z' fun h'' z'' sb => ?_⟩
    have hT2 : h''.get? s.heap.objs.size = some { cls := .type "tuple", data := .seq #[u, u2] } := (sb.2 _ (Nat.ne_of_gt hzl)).trans hT
    have new : ObjOk X.prog X.w (upd H s.heap.objs.size (.tup [x, y])) h'' s.heap.objs.size (.tup [x, y]) :=
      ⟨by show 2 ≤ sizeLine; decide, [u, u2], .cons ru (.cons ru2 .nil), ⟨_, hT2, rfl, _, rfl⟩⟩
    have I1 : Inv X pins σ (upd H s.heap.objs.size (.tup [x, y])) { s with heap := h'', toks := tk } :=
      I.turnedNew (t' := tk) (ch := [z, TI, TO, i1, i2]) (fun c o hb q => (sb.2 c (fun q' => hb (by simp [q']))).trans (hk c o (fun q' => hb (by simp [q'])) (fun q' => hb (by simp [q'])) (fun q' => hb (by simp [q'])) (fun q' => hb (by simp [q'])) q)) hf (Nat.le_refl _) new
    refine ⟨.ref s.heap.objs.size, _, I1, rfl, ⟨_, x, y, rfl, I.hok.fresh (Nat.le_refl _), rfl, fun l hl => by rw [S1.inj I hl hqx]; exact hx, fun l hl => by rw [S2.inj I hl hqy]; exact hy⟩, ⟨z'', ?_, ⟨u, u2, ?_⟩, ?_, ?_⟩, fun c hcm => ?_⟩
    · exact (sb.2 _ D.TIz).trans (hk _ _ D.TIz D.TITO D.TIi1 D.TIi2 hTI)
    · exact (sb.2 _ D.TOz).trans TO'
    · exact (hS1 _ _ s1').at fun o q => (sb.2 _ D.zi1.symm).trans q
    · exact (hS2 _ _ s2').at fun o q => (sb.2 _ D.zi2.symm).trans q
    · have hlt : c < s.heap.objs.size := by
        have e' : c = z ∨ c = TI ∨ c = TO ∨ c = i1 ∨ c = i2 := by simpa using hcm
        rcases e' with q | q | q | q | q
        · rw [q]; exact hzl
        · rw [q]; exact Heap.lt_size hTI
        · rw [q]; exact Heap.lt_size hTO
        · rw [q]; obtain ⟨_, e1, _⟩ := h1.obj; exact Heap.lt_size e1
        · rw [q]; obtain ⟨_, e1, _⟩ := h2.obj; exact Heap.lt_size e1
      rw [upd_ne (Nat.ne_of_lt hlt)]
      exact (hf c hcm).1
  done := by
    intro X hP hw hK hc i pins s σ H E I hf st hg
    subst hP hw hK
    obtain ⟨hz, hTI, ⟨x0, y0, hTO⟩, h1, h2⟩ := st
    obtain ⟨xs, ys, hqx, hqy, hend⟩ := hg
    obtain ⟨P1, St1, D1, hP1, st1, hS1⟩ := S1.draws (A := X.A.in1) I (I.ok.hd hc) hqx i1 b1 i h1
    obtain ⟨P2, St2, D2, hP2, st2, hS2⟩ := S2.draws (A := X.A.in1) I (I.ok.hd hc) hqy i2 b2 i h2
    exact wpAny_pyNext_zipD2_end D D1 D2 hz hTI hTO st1 st2 (by omega) (by omega) (by omega) fun h' tk hk => ⟨rfl, I.turnedL (t' := tk) (ch := [z, TI, TO, i1, i2]) (fun c o hb q =>
      hk c o (fun q' => hb (by simp [q'])) (fun q' => hb (by simp [q'])) (fun q' => hb (by simp [q'])) (fun q' => hb (by simp [q'])) q) hf⟩
  self := fun A i s Q E st h => wpAny_pyIter_zip st.1 h
def iZipS (K : PySem.W.Frag) (ta : TA) : TI := fun σ H R => ta σ H fun vs H1 => ∃ S1 S2 xs ys, vs = [Src.v S1, Src.v S2] ∧ Src.at K H1 S1 xs ∧ Src.at K H1 S2 ys ∧ R (ItZ K S1 S2) H1
theorem pi_zipS {X : Cx} {e e2 : Expr} {ta : TA} {p pos tpos : Pos} {elts : List Expr} {kk : Nat} (hg : Gl X "zip") (hm : X.mg "zip" = none) (ha : PA X [e, e2] ta)
    (hs : starEach [e, e2] X.env = (false, eval e X.env) :: starEach [e2] X.env := by rfl) (hpl : (backTo pos (starEach [e2] X.env)).any (·.1) = false := by rfl) :
    PI X (.Tuple elts kk tpos) (.Call (.Name "zip" p) [e, e2] [] pos) (iZipS X.K ta) := by
  refine ⟨fun pins s σ H R I h => ?_⟩
  refine Call_ (ld_blt I hg hm PyProof.Rows.boot_zip (PyProof.Rows.callWith_type1 (thn (ha.run pos pins s σ H _ I h) fun us s1 ⟨vs, H1, I1, r1, q1⟩ => ?_) hs hpl))
  obtain ⟨S1, S2, xs, ys, ex, hqx, hqy, q⟩ := q1
  subst ex
  obtain ⟨u1, u2, rfl, ru1, ru2⟩ := vals2 r1
  obtain ⟨o1, G1, B1, g1, l1, m1⟩ := S1.begins I1 hqx ru1
  obtain ⟨o2, G2, B2, g2, l2, m2⟩ := S2.begins I1 hqy ru2
  refine zip_begins2 B1 B2 g1 g2 fun h' hz hTI hTO h1 h2 hsz hk => wpAny_pyIter_zip hz ?_
  have I2 : Inv X pins σ H1 { s1 with heap := h' } := I1.kept (t' := s1.toks) hk
  have n1 : ∀ {j : Nat}, (s1.heap.objs.size + j) ∉ S1.base := fun h => absurd (l1 _ h) (Nat.not_lt.mpr (Nat.le_add_right _ _))
  have n2 : ∀ {j : Nat}, (s1.heap.objs.size + j) ∉ S2.base := fun h => absurd (l2 _ h) (Nat.not_lt.mpr (Nat.le_add_right _ _))
  have sep : ZipSep2 (s1.heap.objs.size + 4) (s1.heap.objs.size + 2) (s1.heap.objs.size + 3) s1.heap.objs.size (s1.heap.objs.size + 1) (s1.heap.objs.size :: S1.base) ((s1.heap.objs.size + 1) :: S2.base) := by
    constructor
    · exact ad_ne 2 4 (by decide)
    · exact ad_ne 3 4 (by decide)
    · exact ad_ne 2 3 (by decide)
    · exact ad_ne 2 0 (by decide)
    · exact List.mem_cons_self ..
    · exact fun h => (List.mem_cons.mp h).elim (ad_ne 4 0 (by decide)) n1
    · exact fun h => (List.mem_cons.mp h).elim (ad_ne 3 0 (by decide)) n1
    · exact ad_ne 2 1 (by decide)
    · exact List.mem_cons_self ..
    · exact fun h => (List.mem_cons.mp h).elim (ad_ne 4 1 (by decide)) n2
    · exact fun h => (List.mem_cons.mp h).elim (ad_ne 3 1 (by decide)) n2
    · exact fun h => (List.mem_cons.mp h).elim (ad_ne 0 1 (by decide)) (n2 (j := 0))
    · exact fun h => (List.mem_cons.mp h).elim (ad_ne 1 0 (by decide)) n1
  refine ⟨s1.heap.objs.size + 4, [s1.heap.objs.size + 4, s1.heap.objs.size + 2, s1.heap.objs.size + 3, s1.heap.objs.size, s1.heap.objs.size + 1], _, _, H1, rfl, I2, turn_zipS sep (fun b hb => Nat.ne_of_lt (l1 b hb)) (fun b hb => Nat.ne_of_lt (Nat.lt_of_lt_of_le (l2 b hb) (Nat.le_add_right _ _))), ⟨hz, hTI, ⟨_, _, hTO⟩, m1 _ _ h1, m2 _ _ h2⟩, fun c hcm => ?_, q⟩
  have e' : c = s1.heap.objs.size + 4 ∨ c = s1.heap.objs.size + 2 ∨ c = s1.heap.objs.size + 3 ∨ c = s1.heap.objs.size ∨ c = s1.heap.objs.size + 1 := by simpa using hcm
  have hle : s1.heap.objs.size ≤ c := by
    rcases e' with z | z | z | z | z
    · rw [z]; exact Nat.le_add_right _ _
    · rw [z]; exact Nat.le_add_right _ _
    · rw [z]; exact Nat.le_add_right _ _
    · rw [z]; exact Nat.le_refl _
    · rw [z]; exact Nat.le_add_right _ _
  exact I1.fpOk hle (I1.hok.fresh hle)

theorem meets_enumB {v : Value} {o : Obj} {H : Heap → Prop} (B : Begins v o H) :
    Meets (Builtin.«enumerate.__new__» ⟨[.type "enumerate", v], []⟩) (fun _ R s => H s.heap ∧
      R (.ok (.ret (.ref (s.heap.push o).objs.size))) { s with heap := (s.heap.push o).push { cls := .type "enumerate", data := .fields #[.none, .bool false, .ref s.heap.objs.size, rawInt 0, .none, .none] } }) :=
  .of_wp fun prog w A R s h => by
    obtain ⟨hp, g, d, tk, os⟩ := s; obtain ⟨h1, h⟩ := h
    have hsub := sub_enumerate
    have q1 : ∀ {A' : Around} {E : Value → Shared → Prop} {Q : Value → Shared → Prop}, Q (.ref hp.objs.size) ⟨hp.push o, g, d, tk, os⟩ → wpAny (model prog w) A' (pyIter v) Q E ⟨hp, g, d, tk, os⟩ :=
      fun q => B.iter prog w _ _ ⟨hp, g, d, tk, os⟩ _ h1 q
    wp_walk using q1
    refine wpAny_stack_any fun st => wpAny_pure ?_
    split
    · rename_i c _ _ _ _ _
      cases (c == Value.type "enumerate")
      · wp_walk using q1
        exact ⟨_, rfl, h⟩
      · wp_walk using q1
        exact ⟨_, rfl, h⟩
    · wp_walk using q1
      exact ⟨_, rfl, h⟩
theorem enum_begins1 {prog : Program} {w : World} {A : Around} {E : Value → Shared → Prop} {s : Shared} {v : Value} {o : Obj} {H : Heap → Prop} {Q : Value → Shared → Prop} (B : Begins v o H) (h1 : H s.heap)
    (h : ∀ h', IsEnum h' (s.heap.objs.size + 1) s.heap.objs.size 0 .none → h'.get? s.heap.objs.size = some o → h'.objs.size = s.heap.objs.size + 2 →
      (∀ b o, s.heap.get? b = some o → h'.get? b = some o) → Q (.ref (s.heap.objs.size + 1)) { s with heap := h' }) :
    wpAny (model prog w) A (call (.type "enumerate") [v]) Q E s := by
  refine callType_new F.called_enumerate (by decide) (F.typeCall_enumerate_1 _) (F.newCall_enumerate_1 _) (fun obj => F.args_object_init_2 obj _) F.entry_enumerate_new
    (meets_enumB B) ⟨h1, ?_⟩
  have hz : (s.heap.push o).objs.size = s.heap.objs.size + 1 := Heap.size_push ..
  show _ ∧ _
  rw [hz]
  have he : IsEnum ((s.heap.push o).push { cls := .type "enumerate", data := .fields #[.none, .bool false, .ref s.heap.objs.size, rawInt 0, .none, .none] }) (s.heap.objs.size + 1) s.heap.objs.size 0 .none := by
    have := Heap.get?_push_size (s.heap.push o) (o := { cls := .type "enumerate", data := .fields #[.none, .bool false, .ref s.heap.objs.size, rawInt 0, .none, .none] }) rfl
    rw [hz] at this; exact this
  refine ⟨⟨_, he, rfl⟩, h _ he (Heap.get?_push_of_some _ (Heap.get?_push_size _ B.free)) (by rw [Heap.size_push, hz]) fun b o x => Heap.get?_push_of_some _ (Heap.get?_push_of_some _ x)⟩
def iEnumS (K : PySem.W.Frag) (ta : TA) : TI := fun σ H R => ta σ H fun vs H1 => ∃ S xs, vs = [Src.v S] ∧ Src.at K H1 S xs ∧ R (ItE K S) H1
theorem pi_enumS {X : Cx} {e : Expr} {ta : TA} {p pos tpos : Pos} {elts : List Expr} {kk : Nat} (hg : Gl X "enumerate") (hm : X.mg "enumerate" = none) (ha : PA X [e] ta) (hs : starEach [e] X.env = [(false, eval e X.env)] := by rfl) :
    PI X (.Tuple elts kk tpos) (.Call (.Name "enumerate" p) [e] [] pos) (iEnumS X.K ta) := by
  refine ⟨fun pins s σ H R I h => ?_⟩
  refine Call_ (ld_blt I hg hm boot_enumerate (PyProof.Rows.callWith_type1 (thn (ha.run pos pins s σ H _ I h) fun us s1 ⟨vs, H1, I1, r1, q1⟩ => ?_) hs rfl))
  obtain ⟨S, xs, ex, hq, q⟩ := q1
  subst ex
  obtain ⟨u, rfl, ru⟩ := vals1 r1
  obtain ⟨o, G, B, g, l, m⟩ := S.begins I1 hq ru
  refine enum_begins1 B g fun h' he h1 hsz hk => wpAny_pyIter_enum he ?_
  have I2 : Inv X pins σ H1 { s1 with heap := h' } := I1.kept (t' := s1.toks) hk
  refine ⟨s1.heap.objs.size + 1, [s1.heap.objs.size + 1, s1.heap.objs.size], _, _, H1, rfl, I2, turn_enumS S (s1.heap.objs.size + 1) s1.heap.objs.size (fun b hb => ⟨Nat.ne_of_lt (l b hb), Nat.ne_of_lt (Nat.lt_succ_of_lt (l b hb))⟩), ⟨⟨.none, he⟩, m _ _ h1, Nat.succ_ne_self _⟩, fun b hb => ?_, q⟩
  have e' : b = s1.heap.objs.size + 1 ∨ b = s1.heap.objs.size := by simpa using hb
  have hle : s1.heap.objs.size ≤ b := by
    rcases e' with z | z
    · rw [z]; exact Nat.le_add_right _ _
    · rw [z]; exact Nat.le_refl _
  exact I1.fpOk hle (I1.hok.fresh hle)
/-! ### list(..) of a text, a list, a tuple -/
theorem call_listS {X : Cx} (hc : X.calm = true) : CallR X (.type "list") (fun xs H Q => ∃ S ys, xs = [Src.v S] ∧ Src.at X.K H S ys ∧ ys.length ≤ sizeLine ∧ ∀ p, H p = none → Q (.ref p) (upd H p (.lst ys))) := by
  intro pins s σ H xs us Q I r h
  obtain ⟨S, ys, rfl, hq, hn, q⟩ := h
  cases S with
  | lst a => exact call_list_of pins s σ H _ us Q I r ⟨a, ys, rfl, .inl hq, q⟩
  | tup a => exact call_list_of pins s σ H _ us Q I r ⟨a, ys, rfl, .inr hq, q⟩
  | str x =>
    have hq : ys = chars x := hq
    subst hq
    obtain ⟨u, rfl, ru⟩ := vals1 r
    obtain ⟨t, rfl⟩ := ru
    have hl : (chars x).length = x.cps.size := by unfold chars; simp
    refine PySem.call_list_str (I.ok.hd hc) x t (hn := by rw [← hl]; exact hn) fun h' tk acc' c' hkeep hS hacc => ?_
    refine ⟨.ref s.heap.objs.size, upd H s.heap.objs.size (.lst (chars x)), I.laid hkeep (Nat.le_refl _) (show ObjOk X.prog X.w _ _ _ (.lst (chars x)) from ⟨hn, acc'.toList, c', ?_, ?_⟩), rfl, q _ (I.hok.fresh (Nat.le_refl _))⟩
    · have el : acc'.toList.length = acc'.size := by simp
      refine vals_of_at (by rw [el, hacc.1, hl]) fun j x' w h1 h2 => ?_
      obtain ⟨c, y, hcx, rfl⟩ := hacc.2 j w (by rw [← Array.getElem?_toList]; exact h2)
      have e1 : (chars x)[j]? = some (.str ⟨#[c]⟩) := by
        unfold chars
        rw [List.getElem?_map, Array.getElem?_toList, hcx]
        rfl
      rw [e1] at h1
      cases h1
      exact ⟨y, rfl⟩
    · exact hS
end PW
/-! Own layer: comprehensions and loops, by what is gone through and what has been gathered. -/
namespace PW
open PySem PySem.Spec PyProof.Rows L2 Evl
theorem ix_kdictK {X : Cx} {K : PySem.W.Frag} {w : World} (hK : X.K = K := by rfl) (hw : X.w = w := by rfl) : IxR X (rIxD K w) := by
  subst hK hw
  exact ix_kdict
theorem op_in_seqK {X : Cx} {K : PySem.W.Frag} (hK : X.K = K := by rfl) : OpR X (compareOp .In) (rIn K false) := by
  subst hK
  exact op_in_seq
theorem op_notIn_seqK {X : Cx} {K : PySem.W.Frag} (hK : X.K = K := by rfl) : OpR X (compareOp .NotIn) (rIn K true) := by
  subst hK
  exact op_notIn_seq
/-- a method's promise -/
structure CalM (P : Program) (w : World) (K : PySem.W.Frag) (mg : Str → Option Value) (base : Heap) (CX : CXT) (k : Nat) (f : Addr) (fd : FuncData) (ps : List Str) (sp : Sp) : Prop where
  ok : FnOk P w K mg base CX k f fd ps sp
  b : Binds K fd ps []
/-- all stands but the object at l -/
def Exo (l : Option Addr) (H H' : Hp) : Prop := ∀ a o, some a ≠ l → H a = some o → H' a = some o
theorem Exo.of {l : Option Addr} {H H' : Hp} (e : Ex H H') : Exo l H H' := fun a o _ h => e a o h
theorem Exo.refl {l : Option Addr} {H : Hp} : Exo l H H := fun _ _ _ h => h
theorem Exo.trans {l : Option Addr} {H H1 H2 : Hp} (a : Exo l H H1) (b : Exo l H1 H2) : Exo l H H2 := fun x o n h => b x o n (a x o n h)
theorem Exo.ex {H H' : Hp} (e : Exo none H H') : Ex H H' := fun a o h => e a o (fun z => nomatch z) h
theorem exo_t {K : PySem.W.Frag} {l : Option Addr} {H H' : Hp} {a : Addr} {xs : List V} (n : some a ≠ l) (e : Exo l H H') (h : SqT K H a xs) : SqT K H' a xs := by
  rcases h with (h | ⟨o, h⟩) | h
  · exact .inl (.inl (e _ _ n h))
  · exact .inl (.inr ⟨o, e _ _ n h⟩)
  · exact .inr h
theorem exo_l {K : PySem.W.Frag} {l : Option Addr} {H H' : Hp} {a : Addr} {xs : List V} (n : some a ≠ l) (e : Exo l H H') (h : SqL K H a xs) : SqL K H' a xs := by
  rcases h with (h | ⟨o, h⟩) | h
  · exact .inl (.inl (e _ _ n h))
  · exact .inl (.inr ⟨o, e _ _ n h⟩)
  · exact .inr h
theorem exo_upd {l : Option Addr} {H H' : Hp} {p : Addr} {o : HO} (e : Exo l H H') (h : H p = none) : Exo l H (upd H' p o) := fun a u n ha => by
  rw [upd_ne (ne_of_none ha h)]
  exact e a u n ha
/-- n items, the i-th of which is as `it` tells, in every heap in which all but l stands as in H0 -/
structure Wk (l : Option Addr) (J : It) (H0 : Hp) (n : Nat) (it : Nat → V → Hp → Prop) : Prop where
  go : ∀ i H, Exo l H0 H → i < n → J.go i H
  stop : ∀ H, Exo l H0 H → J.stop n H
  yld : ∀ i H x H', Exo l H0 H → i < n → J.yld i H x H' → Ex H H' ∧ it i x H'
def offl (l : Option Addr) : Src → Prop
  | .lst a => some a ≠ l
  | .tup a => some a ≠ l
  | .str _ => True
theorem Src.exo {K : PySem.W.Frag} {l : Option Addr} {H H' : Hp} {S : Src} {xs : List V} (n : offl l S) (e : Exo l H H') (h : S.at K H xs) : S.at K H' xs := by
  cases S with
  | lst a => exact exo_l n e h
  | tup a => exact exo_t n e h
  | str x => exact h
section
variable {K : PySem.W.Frag} {l : Option Addr} {H0 : Hp} {xs ys : List V} {a : Addr}
theorem wk_list (n : some a ≠ l) (h : SqL K H0 a xs) : Wk l (Itl K a) H0 xs.length (fun i x _ => xs[i]? = some x) where
  go := fun i H e hi => ⟨xs, xs[i], exo_l n e h, List.getElem?_eq_getElem hi⟩
  stop := fun H e => ⟨xs, exo_l n e h, Nat.le_refl _⟩
  yld := fun i H x H' e hi y => by
    obtain ⟨rfl, y⟩ := y
    exact ⟨Ex.refl _, y xs (exo_l n e h)⟩
theorem wk_tup (n : some a ≠ l) (h : SqT K H0 a xs) : Wk l (Itt K a) H0 xs.length (fun i x _ => xs[i]? = some x) where
  go := fun i H e hi => ⟨xs, xs[i], exo_t n e h, List.getElem?_eq_getElem hi⟩
  stop := fun H e => ⟨xs, exo_t n e h, Nat.le_refl _⟩
  yld := fun i H x H' e hi y => by
    obtain ⟨rfl, y⟩ := y
    exact ⟨Ex.refl _, y xs (exo_t n e h)⟩
theorem wk_range {lo : Int} {n : Nat} : Wk l (Itr lo n) H0 n (fun i x _ => x = .int (lo + i)) where
  go := fun i H e hi => hi
  stop := fun H e => Nat.le_refl _
  yld := fun i H x H' e hi y => by
    obtain ⟨rfl, y⟩ := y
    exact ⟨Ex.refl _, y⟩
theorem wk_str {x : Str} : Wk l (Its x) H0 x.cps.size (fun i v _ => ∃ c, x.cps[i]? = some c ∧ v = .str ⟨#[c]⟩) where
  go := fun i H e hi => hi
  stop := fun H e => Nat.le_refl _
  yld := fun i H x H' e hi y => by
    obtain ⟨rfl, y⟩ := y
    exact ⟨Ex.refl _, y⟩
theorem wk_enum {S : Src} (n : offl l S) (h : S.at K H0 xs) : Wk l (ItE K S) H0 xs.length (fun i v H => ∃ T x, v = .ref T ∧ H T = some (.tup [.int (i : Nat), x]) ∧ xs[i]? = some x) where
  go := fun i H e hi => ⟨xs, xs[i], Src.exo n e h, List.getElem?_eq_getElem hi⟩
  stop := fun H e => ⟨xs, Src.exo n e h, rfl⟩
  yld := fun i H v H' e hi y => by
    obtain ⟨T, x, rfl, hT, rfl, y⟩ := y
    exact ⟨Ex.new hT, T, x, rfl, upd_same, y xs (Src.exo n e h)⟩
theorem wk_zip {S1 S2 : Src} (n1 : offl l S1) (n2 : offl l S2) (h1 : S1.at K H0 xs) (h2 : S2.at K H0 ys) :
    Wk l (ItZ K S1 S2) H0 (min xs.length ys.length) (fun i v H => ∃ T x y, v = .ref T ∧ H T = some (.tup [x, y]) ∧ xs[i]? = some x ∧ ys[i]? = some y) where
  go := fun i H e hi => ⟨xs, ys, Src.exo n1 e h1, Src.exo n2 e h2, by omega, by omega⟩
  stop := fun H e => ⟨xs, ys, Src.exo n1 e h1, Src.exo n2 e h2, rfl⟩
  yld := fun i H v H' e hi y => by
    obtain ⟨T, x, y, rfl, hT, rfl, y1, y2⟩ := y
    exact ⟨Ex.new hT, T, x, y, rfl, upd_same, y1 xs (Src.exo n1 e h1), y2 ys (Src.exo n2 e h2)⟩
end
/-- what has been gathered after i items: the list at D -/
def LcP (l : Option Addr) (H1 : Hp) (D : Addr) (Acc : Nat → List V → Hp → Prop) (i : Nat) (H : Hp) : Prop := Exo l H1 H ∧ ∃ ys, H D = some (.lst ys) ∧ ys.length ≤ i ∧ Acc i ys H
section
variable {l : Option Addr} {H1 : Hp} {D : Addr} {Acc : Nat → List V → Hp → Prop} {i : Nat} {H : Hp} {ys : List V} {y : V}
theorem LcP.push (hD : H1 D = none) (e : Exo l H1 H) (h : H D = some (.lst ys)) (hl : ys.length ≤ i) (hn : i < sizeLine) (a : Acc (i + 1) (ys ++ [y]) (upd H D (.lst (ys ++ [y])))) :
    ∃ acc, H D = some (.lst acc) ∧ acc.length < sizeLine ∧ LcP l H1 D Acc (i + 1) (upd H D (.lst (acc ++ [y]))) :=
  ⟨ys, h, Nat.lt_of_le_of_lt hl hn, exo_upd e hD, ys ++ [y], upd_same, by rw [List.length_append]; exact Nat.succ_le_succ hl, a⟩
theorem LcP.skip (e : Exo l H1 H) (h : H D = some (.lst ys)) (hl : ys.length ≤ i) (a : Acc (i + 1) ys H) : LcP l H1 D Acc (i + 1) H := ⟨e, ys, h, Nat.le_succ_of_le hl, a⟩
end
theorem lc_acc {l : Option Addr} {J : It} {n : Nat} {it : Nat → V → Hp → Prop} {g : TG} {tt : TT} {te : TE} {vs : List Nat} {σ : L2.St} {H1 : Hp} {D : Addr} {Qd : Hp → Prop} (wk : Wk l J H1 n it) (hD : H1 D = none)
    (Acc : Nat → List V → Hp → Prop) (a0 : Acc 0 [] (upd H1 D (.lst []))) (me : ∀ i ys H H', Ex H H' → Acc i ys H → Acc i ys H')
    (hs : ∀ i x H ys, i < n → Exo l H1 H → H D = some (.lst ys) → ys.length ≤ i → Acc i ys H → it i x H → g x (wipe σ vs) H fun σ2 H2 => wipe σ2 vs = wipe σ vs ∧ tt σ2 H2 fun b H3 =>
      if b = true then te σ2 H3 fun y H4 => ∃ acc, H4 D = some (.lst acc) ∧ acc.length < sizeLine ∧ LcP l H1 D Acc (i + 1) (upd H4 D (.lst (acc ++ [y]))) else LcP l H1 D Acc (i + 1) H3)
    (hd : ∀ H ys, Exo l H1 H → H D = some (.lst ys) → Acc n ys H → Qd H) :
    ∃ W : Nat → Nat → Hp → Prop, (∃ m, W 0 m (upd H1 D (.lst []))) ∧ ∀ i m H, W i m H →
      (J.stop i H ∧ Qd H) ∨ (J.go i H ∧ ∃ Nx : Hp → Prop, (∀ H', Nx H' → ∃ m', m' < m ∧ W (i + 1) m' H') ∧ ∀ x H', J.yld i H x H' → g x (wipe σ vs) H' fun σ2 H2 => wipe σ2 vs = wipe σ vs ∧ tt σ2 H2 fun b H3 =>
        if b = true then te σ2 H3 fun y H4 => ∃ acc, H4 D = some (.lst acc) ∧ acc.length < sizeLine ∧ Nx (upd H4 D (.lst (acc ++ [y]))) else Nx H3) := by
  refine ⟨fun i m H => m = n - i ∧ i ≤ n ∧ LcP l H1 D Acc i H, ⟨n, rfl, Nat.zero_le _, exo_upd Exo.refl hD, [], upd_same, Nat.le_refl _, a0⟩, ?_⟩
  rintro i m H ⟨rfl, hi, e, ys, hy, hl, ha⟩
  by_cases hlt : i < n
  · refine .inr ⟨wk.go i H e hlt, LcP l H1 D Acc (i + 1), fun H' p' => ⟨n - (i + 1), by omega, rfl, hlt, p'⟩, fun x H' y => ?_⟩
    obtain ⟨ex, hx⟩ := wk.yld i H x H' e hlt y
    exact hs i x H' ys hlt (e.trans (Exo.of ex)) (ex _ _ hy) hl (me _ _ _ _ ex ha) hx
  · have z : i = n := by omega
    subst z
    exact .inl ⟨wk.stop H e, hd H ys e hy ha⟩
/-- a loop, by what is gone through; Pv of the i-th turn must outlast new objects -/
theorem for_wk {l : Option Addr} {J : It} {n : Nat} {it : Nat → V → Hp → Prop} {g : TG} {tb : TS} {D : Ends} {σ : L2.St} {H0 H : Hp} (wk : Wk l J H0 n it) (Pv : Nat → L2.St → Hp → Prop) (h0 : Pv 0 σ H)
    (he : ∀ i σ H, Pv i σ H → Exo l H0 H) (me : ∀ i σ H H', Ex H H' → Pv i σ H → Pv i σ H')
    (hs : ∀ i x σ H, i < n → it i x H → Pv i σ H → g x σ H fun σ2 H2 => tb { D with nx := Pv (i + 1), ct := Pv (i + 1), bk := D.nx } σ2 H2) (hd : ∀ σ H, Pv n σ H → D.nx σ H) :
    ∃ W : Nat → Nat → L2.St → Hp → Prop, (∃ m, W 0 m σ H) ∧ ∀ i m σ H, W i m σ H →
      (J.stop i H ∧ D.nx σ H) ∨ (J.go i H ∧ ∃ N : L2.St → Hp → Prop, (∀ σ' H', N σ' H' → ∃ m', m' < m ∧ W (i + 1) m' σ' H') ∧ ∀ x H', J.yld i H x H' → g x σ H' fun σ2 H2 => tb { D with nx := N, ct := N, bk := D.nx } σ2 H2) := by
  refine ⟨fun i m σ H => m = n - i ∧ i ≤ n ∧ Pv i σ H, ⟨n, rfl, Nat.zero_le _, h0⟩, ?_⟩
  rintro i m σ H ⟨rfl, hi, p⟩
  by_cases hlt : i < n
  · refine .inr ⟨wk.go i H (he _ _ _ p) hlt, Pv (i + 1), fun σ' H' p' => ⟨n - (i + 1), by omega, rfl, hlt, p'⟩, fun x H' y => ?_⟩
    obtain ⟨ex, hx⟩ := wk.yld i H x H' (he _ _ _ p) hlt y
    exact hs i x σ H' hlt hx (me _ _ _ _ ex p)
  · have z : i = n := by omega
    subst z
    exact .inl ⟨wk.stop H (he _ _ _ p), hd σ H p⟩
end PW
/-! Own layer: defs whose exceptions have no context (raised where nothing is handled). -/
namespace PW
open PySem PySem.Spec PyProof.Rows L2 Evl
theorem passLN {X : Cx} : Passes (L2N.CX X.prog X.w) X E0 := fun _ _ _ _ _ _ _ h => by
  obtain ⟨_, _, _, _, _, _, _, _, _, _, _, _, z⟩ := h
  exact z.elim
theorem takes0N {X : Cx} : L2N.Takes X (fun _ _ _ _ => False) := fun _ _ x => by
  obtain ⟨_, _, _, _, _, _, _, _, _, _, _, _, _, _, _, _, z⟩ := x
  exact z.elim
section
variable {P : Program} {w : World} {K : PySem.W.Frag} {mg : Str → Option Value} {base : Heap}
theorem _root_.L2.Fun.okXN {x qual : Str} {st : Stmt} {f : Addr} {fd : FuncData} {N ps : List Str} {k : Nat} {sp : Sp} (F : Fun K x qual st f fd) (S : FnScope N ps (defScope st)) (len : ∀ vs H Q E, sp vs H Q E → vs.length = ps.length)
    (hbody : ∀ (cdv : Value) (A : Around) (outer : List Env) (s : Shared) (H : Hp) (vs : List V) (Q : VK) (E : XK), Room k (A.deeper (envOfC qual (defScope st) s.heap.objs.size f cdv)) → sp vs H Q E →
      ∃ t, PSs (cxOf (L2N.CX P w) P w K mg base N qual (defScope st) f cdv A outer s H E) (defBody st) t ∧ t { nx := fun _ H' => Q .non H', rt := Q } (start N vs) H) : FnOk P w K mg base (L2N.CX P w) (k + 1) f fd ps sp := by
  obtain ⟨oc, od, kV, doc, pm, an, cdv, ct, osl, e, lk, hcd⟩ := F.ex
  subst e
  exact fn_of lk hcd S len fun A outer s H vs Q E hr hsp => hbody cdv A outer s H vs Q E hr hsp
end
end PW
/-! Own layer: a comprehension over a list within an except suite. -/
namespace PW
open PySem PySem.Spec PyProof.Rows L2 Evl
open HotX
section
variable {prog : Program} {w : World} {A : Around} {E : Value → Shared → Prop} {s : Shared}
/-- the list's end, where an exception without context is handled -/
theorem list_end_hot {it l x1 : Addr} {i : Nat} {items : Array Value} {Q : Option Value → Shared → Prop} (hot : HotAt A x1 s.heap) (hne : x1 ≠ it)
    (hit : s.heap.IsListIter it l i) (hl : s.heap.IsList l items) (hx : items[i]? = none)
    (hQ : ∀ h', (∀ b o, b ≠ it → s.heap.get? b = some o → h'.get? b = some o) → Q none { s with heap := h' }) : wpAny (model prog w) A (pyNext (.ref it)) Q E s := by
  obtain ⟨o, ho, hc, hd⟩ := id hit
  obtain ⟨ol, hol, _, nl, hdl⟩ := hl
  obtain ⟨hh, o1, vs1, h1, d1, c1⟩ := hot
  unfold pyNext
  refine wpAny_bind (wpAny_attempt (wpAny_callSpecial?_slot (name := Str.ofString "__next__") hit.typeIs slot_listiter_next
    (wpAny_call_entry slot_listiter_next hit.typeIs entry_listiter_next ?_ (args_listiter_next _))))
  show wpAny _ _ (field (.ref it) 0 >>= _) _ _ s
  refine wpAny_bind (wpAny_field ho hd (x := .ref l) rfl ?_)
  show wpAny _ _ (if (Value.ref l == Value.none) = true then _ else _) _ _ s
  rw [if_neg (show ¬ ((Value.ref l == Value.none) = true) from Bool.false_ne_true)]
  show wpAny _ _ (field (.ref it) 1 >>= _) _ _ s
  refine wpAny_bind (wpAny_field ho hd (x := .int i 0) rfl ?_)
  show wpAny _ _ (seqItems? (.ref l) >>= _) _ _ s
  refine wpAny_bind (wpAny_seqItems hol hdl ?_)
  simp only [Int.toNat_natCast, hx]
  refine wpAny_bind (wpAny_rule (wpAny_bind (wpAny_setField ho hd (by simp) ?_)))
  have h1' : (s.heap.update it (Obj.mapFields (·.setIfInBounds 0 .none))).get? x1 = some o1 := (Heap.get?_update_other _ _ (Ne.symm hne)).trans h1
  show wpAny _ _ (newExc (.type "StopIteration") [] >>= _) _ _ _
  refine wpAny_bind ?_
  simp only [newExc, newTuple]
  refine wpAny_bind (wpAny_newObj_type ?_ (by size_fits))
  refine wpAny_bind (m := firstArgMember _ _) (wpAny_of_eq (a := Value.none) (by first | rfl | (simp only [firstArgMember]; rfl)) ?_)
  refine wpAny_newObj_type ?_ (by size_fits)
  refine raiseNew_hot ⟨hh, o1, vs1, Heap.get?_push_of_some _ (Heap.get?_push_of_some _ h1'), d1, c1⟩ (Nat.ne_of_lt (Heap.lt_size (Heap.get?_push_of_some _ h1'))) (Heap.get?_push_size _ rfl) rfl (by first | (simp; done) | (simp; omega) | (simp only [Array.size_append]; simp; omega)) ?_
  refine wpAny_bind (wpAny_isInstance (T := "StopIteration") (b := true) ⟨_, Heap.get?_update_self _ (Heap.get?_push_size _ rfl) rfl, rfl⟩ isSubtype_stop ?_)
  refine wpAny_pure (hQ _ fun b o' nb e => ?_)
  have e' : (s.heap.update it (Obj.mapFields (·.setIfInBounds 0 .none))).get? b = some o' := (Heap.get?_update_other _ _ (Ne.symm nb)).trans e
  rw [Heap.get?_update_other _ _ (Nat.ne_of_gt (Heap.lt_size (Heap.get?_push_of_some _ e')))]
  exact Heap.get?_push_of_some _ (Heap.get?_push_of_some _ e')
theorem goes_hot {it l x1 : Addr} {items : Array Value} {target : Expr} (hh : A.handled = some (.ref x1)) (hne : x1 ≠ it) (hl : l ≠ it) :
    Goes prog w A target it [it, l, x1] [it] items.size (fun i v _ => items[i]? = some v) (fun i h => h.IsListIter it l i ∧ h.IsList l items ∧ ∃ (o : Obj) (vs : Array Value), h.get? x1 = some o ∧ o.data = .fields vs ∧ vs[2]? = some .none) where
  sub := fun b hb => by rw [List.mem_singleton.mp hb]; exact List.mem_cons_self ..
  frame := fun i h h' ⟨s1, s2, o, vs, h1, h2, h3⟩ k => ⟨s1.at fun o e => k it (by simp) o e, s2.at fun o e => k l (by simp) o e, o, vs, k x1 (by simp) o h1, h2, h3⟩
  goes := fun i s Q E hi ⟨s1, s2, o, vs, h1, h2, h3⟩ hQ => by
    refine wpAny_pyNext_list_item s1 s2 (x := items[i]) (by simp [hi]) fun h' s1' sb => ⟨_, rfl, ?_⟩
    obtain ⟨oi, e, c, d⟩ := id s1'
    refine go_of (s := { s with heap := h' }) e c d (by decide) (hQ items[i] h' s.toks (by simp [hi]) ⟨s1', s2.extBut sb.extBut hl, o, vs, sb.extBut _ _ hne h1, h2, h3⟩ (fun b o hb e => sb.extBut _ _ (fun z => hb (by simp [z])) e) (Nat.le_refl _))
  stops := fun s Q E ⟨s1, s2, o, vs, h1, h2, h3⟩ hQ =>
    list_end_hot ⟨hh, o, vs, h1, h2, h3⟩ hne s1 s2 (by simp) fun h' k => ⟨rfl, hQ h' s.toks (fun b o hb e => k b o (fun z => hb (by simp [z])) e) (Nat.le_refl _)⟩
  self := fun i s Q E ⟨s1, _⟩ h => wpAny_pyIter_listiter s1 h
end
/-- [int(y) for y in ..] of truth values, where an exception without context is handled -/
def tLcInt (K : PySem.W.Frag) (te : TE) : TE := fun σ H Q => te σ H fun v H1 => ∃ (p : Addr) (bs : List Bool), v = .ref p ∧ SqL K H1 p (bs.map V.bl) ∧ ∀ D, H1 D = none → Q (.ref D) (upd H1 D (.lst (bs.map fun b => V.int (if b = true then 1 else 0))))
theorem pe_lcInt {X : Cx} {y : Str} {iter : Expr} {te : TE} {scope : Scope} {pos px p1 p2 p3 : Pos} (hot : ∃ (a : Addr) (o : Obj), X.A.handled = some (.ref a) ∧ (a, o) ∈ X.pn ∧ ∃ vs : Array Value, o.data = .fields vs ∧ vs[2]? = some .none) (hi : PE X iter te) (hm : X.mg "int" = none)
    (hclos : closureFor scope X.env = pure []) (hcell : ∀ z ∈ scope.names, z.2 ≠ .cell) (hkind : scope.kind = .function) (hnames : ∀ z ∈ scope.names, z.2 = .local → scope.names.lookup z.1 = some .local)
    (hy : ∀ C, (compEnvC scope [] C X.env).kindOf y = some .local) (hint : ∀ C, (compEnvC scope [] C X.env).kindOf "int" = some .globalImplicit) (hyd : (y == ("__debug__" : Str)) = false)
    (hs : ∀ x, foldedSetIterable iter X.env x = pure x := by intro _; rfl) :
    PE X (.ListComp (.Call (.Name "int" p1) [.Name y p2] [] p3) [⟨.Name y px, iter, [], 0⟩] scope pos) (tLcInt X.K te) := by
  refine ⟨fun pins s σ H Q I h => ?_⟩
  refine ListComp_goes (cl := []) hclos hcell hkind hnames (thn (hi.run pins s σ H _ I h) fun xv s1 ⟨v, H1, I1, rv, p, bs, ev, hS, q⟩ => ?_) hs
  subst ev
  cases rv
  obtain ⟨its, rits, pl, hz⟩ := I1.list hS
  have hlen := rits.length
  rw [List.length_map] at hlen
  obtain ⟨x1, o1, hh, hmem, vs1, d1, c1⟩ := hot
  have hx1 : s1.heap.get? x1 = some o1 := (I1.pin (x1, o1) (List.mem_append_left _ hmem)).1
  have lx1 := Heap.lt_size hx1
  have lp := pl.lt
  refine wpAny_pyIter_list pl.isList ?_
  have up : ∀ b o, s1.heap.get? b = some o → (s1.heap.push { cls := .type "list_iterator", data := .fields #[.ref p, .int 0 0] }).get? b = some o := fun b o e => Heap.get?_push_of_some _ e
  refine ⟨s1.heap.objs.size, _, _, _, _, _, rfl, goes_hot (items := its.toArray) hh (Nat.ne_of_lt lx1) (Nat.ne_of_lt lp), by rw [List.size_toArray, ← hlen]; rw [List.length_map] at hz; exact hz, ⟨⟨_, Heap.get?_push_size _ rfl, rfl, rfl⟩, pl.isList.at fun o e => up _ _ e, o1, vs1, up _ _ hx1, d1, c1⟩, fun b hb => ?_, fun D C s3 cb => ?_⟩
  · have e : b = s1.heap.objs.size ∨ b = p ∨ b = x1 := by simpa using hb
    show b < (s1.heap.push _).objs.size
    rw [Heap.size_push]
    rcases e with e | e | e
    · rw [e]; exact Nat.lt_succ_self _
    · rw [e]; exact Nat.lt_succ_of_lt lp
    · rw [e]; exact Nat.lt_succ_of_lt lx1
  have szD : s1.heap.objs.size < D := by
    have := cb.newD
    rw [show ({ s1 with heap := s1.heap.push { cls := .type "list_iterator", data := .fields #[.ref p, .int 0 0] } } : Shared).heap.objs.size = s1.heap.objs.size + 1 from Heap.size_push ..] at this
    exact this
  have szC : s1.heap.objs.size < C := by
    have := cb.newC
    rw [show ({ s1 with heap := s1.heap.push { cls := .type "list_iterator", data := .fields #[.ref p, .int 0 0] } } : Shared).heap.objs.size = s1.heap.objs.size + 1 from Heap.size_push ..] at this
    exact this
  refine ⟨fun i ys s' => (∃ h tk, s' = { s1 with heap := h, toks := tk }) ∧ (∀ b o, s1.heap.get? b = some o → s'.heap.get? b = some o) ∧ (∃ m, s'.heap.Ns C m) ∧ Vals ((bs.take i).map fun b => V.int (if b = true then 1 else 0)) ys, ?_, ?_, ?_, ?_⟩
  · obtain ⟨h, tk, e⟩ := cb.only
    refine ⟨⟨h, tk, e⟩, fun b o e => cb.old b o (up b o e), ⟨_, cb.names⟩, .nil⟩
  · rintro i ys s' h' tk ⟨⟨h, tk0, e⟩, k, ⟨m, hm'⟩, hv⟩ keep _
    subst e
    refine ⟨⟨h', tk, rfl⟩, fun b o e => keep b o ?_ (k b o e), ⟨m, ?_⟩, hv⟩
    · have := Heap.lt_size e
      intro hb
      have e : b = D ∨ b = s1.heap.objs.size := by simpa using hb
      rcases e with e | e
      · rw [e] at this; exact absurd this (Nat.not_lt.mpr (Nat.le_of_lt szD))
      · rw [e] at this; exact absurd this (Nat.lt_irrefl _)
    · refine hm'.at fun o e => keep C o ?_ e
      intro hb
      have e : C = D ∨ C = s1.heap.objs.size := by simpa using hb
      rcases e with e | e
      · exact cb.ne e.symm
      · rw [e] at szC; exact Nat.lt_irrefl _ szC
  · rintro i v ys s' hi hv st ⟨⟨h, tk0, e⟩, k, ⟨m, hm'⟩, hys⟩ hD
    subst e
    have hil : i < bs.length := by rw [hlen]; simpa using hi
    obtain ⟨b, hb⟩ : ∃ b, bs[i]? = some b := ⟨_, List.getElem?_eq_getElem hil⟩
    have hvb : v = .bool b := by
      obtain ⟨u, hu, ru⟩ := rits.get (x := V.bl b) (by rw [List.getElem?_map, hb]; rfl)
      have hv' : its[i]? = some v := by simpa using hv
      rw [hu] at hv'
      cases hv'
      exact ru
    subst hvb
    have hk : (compEnvC scope [] C X.env).scope.kind = .function := hkind
    refine wpAny_assign_Name (wpAny_storeName_local (hy C) hm' (fun h2 hn2 sb2 => ?_) (by rw [hk]; rfl))
    show wpAny _ _ (testsOf [] _) _ _ _
    refine wpAny_pure ?_
    show wpAny _ _ (eval (.Call (.Name "int" p1) [.Name y p2] [] p3) _) _ _ _
    have kC : ∀ b o, s1.heap.get? b = some o → h2.get? b = some o := fun b o e => sb2.extBut b o (by have := Heap.lt_size e; exact Nat.ne_of_lt (Nat.lt_trans this szC)) (k b o e)
    have kb : ∀ b o, X.base.get? b = some o → h2.get? b = some o := fun b o e => kC b o (I1.bk b o e)
    obtain ⟨mb, g1, g2⟩ := I1.mod.blt
    have hgl : h2.Ns (compEnvC scope [] C X.env).globals X.mg := by
      show h2.Ns X.env.globals X.mg
      rw [I1.ok.glob]
      exact I1.mod.glob.keeps kb
    have hbl : h2.Ns (compEnvC scope [] C X.env).builtins mb := by
      show h2.Ns X.env.builtins mb
      rw [I1.ok.blt]
      exact g1.keeps kb
    refine wpAny_Call_Name_kw (Calls.Name_function_global hk (hint C) (Calls.loadGlobal_builtin hgl hm hbl (v := .type "int") ((g2 "int" (by decide)).trans (by decide +kernel)) ?_))
    refine PyProof.Rows.callWith_type1 ?_ rfl rfl
    refine Calls.spliced_cons (wpAny_Name (wpAny_loadName_local hk (hy C) hn2 (v := .bool b) (by rw [if_pos rfl]) ?_) hyd)
    refine Calls.spliced_nil ?_
    refine call_int_bool ?_
    refine ⟨⟨⟨_, _, rfl⟩, kC, ⟨_, hn2⟩, ?_⟩, ?_, ?_⟩
    · rw [List.take_add_one, hb, List.map_append]
      exact hys.append (.cons ⟨_, rfl⟩ .nil)
    · obtain ⟨t1, t2, o, vs, t3, t4, t5⟩ := st
      exact ⟨t1.at fun o e => sb2.extBut _ _ (Nat.ne_of_lt szC) e, t2.at fun o e => sb2.extBut _ _ (Nat.ne_of_lt (Nat.lt_trans lp szC)) e, o, vs, sb2.extBut _ _ (Nat.ne_of_lt (Nat.lt_trans lx1 szC)) t3, t4, t5⟩
    · obtain ⟨c, hc⟩ := hD
      exact ⟨c, sb2.extBut _ _ cb.ne hc⟩
  · rintro ys s' ⟨⟨h, tk0, e⟩, k, ⟨m, hm'⟩, hys⟩ hD
    subst e
    refine ⟨m, hm', fun h' sb => ?_⟩
    obtain ⟨c, hc⟩ := hD
    have hc' := sb.extBut _ _ cb.ne hc
    refine ⟨.ref D, upd H1 D (.lst (bs.map fun b => V.int (if b = true then 1 else 0))), I1.laid (fun b o e => sb.extBut b o (by have := Heap.lt_size e; exact Nat.ne_of_lt (Nat.lt_trans this szC)) (k b o e)) (Nat.le_of_lt szD) ⟨by rw [List.length_map] at hz ⊢; exact hz, ys, c, ?_, hc'⟩, rfl, q D (I1.hok.fresh (Nat.le_of_lt szD))⟩
    rw [List.size_toArray, ← hlen, List.take_length] at hys
    exact hys
theorem pe_lcIntK {X : Cx} {K : PySem.W.Frag} {y : Str} {iter : Expr} {te : TE} {scope : Scope} {pos px p1 p2 p3 : Pos} (hot : ∃ (a : Addr) (o : Obj), X.A.handled = some (.ref a) ∧ (a, o) ∈ X.pn ∧ ∃ vs : Array Value, o.data = .fields vs ∧ vs[2]? = some .none) (hi : PE X iter te) (hm : X.mg "int" = none)
    (hclos : closureFor scope X.env = pure []) (hcell : ∀ z ∈ scope.names, z.2 ≠ .cell) (hkind : scope.kind = .function) (hnames : ∀ z ∈ scope.names, z.2 = .local → scope.names.lookup z.1 = some .local)
    (hy : ∀ C, (compEnvC scope [] C X.env).kindOf y = some .local) (hint : ∀ C, (compEnvC scope [] C X.env).kindOf "int" = some .globalImplicit) (hyd : (y == ("__debug__" : Str)) = false) (hK : X.K = K := by rfl)
    (hs : ∀ x, foldedSetIterable iter X.env x = pure x := by intro _; rfl) :
    PE X (.ListComp (.Call (.Name "int" p1) [.Name y p2] [] p3) [⟨.Name y px, iter, [], 0⟩] scope pos) (tLcInt K te) := by
  subst hK
  exact pe_lcInt hot hi hm hclos hcell hkind hnames hy hint hyd hs
theorem hotN {X : Cx} {a : Addr} {cls : Value} {d : Option Addr} {oe : Obj} {pn : List (Addr × Obj)} (hz : L2N.Zn cls d oe) (hf : ∃ vs, oe.data = .fields vs) :
    ∃ (b : Addr) (o : Obj), (X.suite a ((a, oe) :: pn)).A.handled = some (.ref b) ∧ (b, o) ∈ (X.suite a ((a, oe) :: pn)).pn ∧ ∃ vs : Array Value, o.data = .fields vs ∧ vs[2]? = some .none :=
  let ⟨vs, h⟩ := hf
  ⟨a, oe, rfl, List.mem_cons_self, vs, h, hz.2.2 vs h⟩
theorem pe_indexK {X : Cx} {K : PySem.W.Frag} {o e : Expr} {to : TE} {t : TA} {apos cpos : Pos} (ho : PE X o to) (ha : PA X [e] t) (hK : X.K = K := by rfl)
    (hbase : attributeBase o "index" X.env (eval o X.env) = eval o X.env := by rfl)
    (hfew : ((backTo cpos (starEach [e] X.env)).all (fun x => !x.1) && (backToKw cpos (keywordEach [] X.env)).all (fun x => x.1.isSome)
      && decide (([e] : List Expr).length + ([] : List Keyword).length + (if ([] : List Keyword).isEmpty then 0 else 1) < 30)) = true := by rfl)
    (hline : (apos.endLine == cpos.line) = true := by rfl) (hs : starEach [e] X.env = (false, eval e X.env) :: starEach [] X.env := by rfl) (hplain : (backTo cpos (starEach [] X.env)).any (·.1) = false := by rfl) :
    PE X (.Call (.Attribute o "index" apos) [e] [] cpos) (tBM K "list" (rIndex K) to t) := by
  subst hK
  exact pe_bm PySem.F.plainAttrs_list PySem.F.slot_list_index PySem.F.type_list_index mt_index ho ha hbase hfew hline hs hplain
end PW
/-! Own layer: going through a list or a tuple, whichever it is; a tuple repeated any number of times. -/
namespace PW
open PySem PySem.Spec PyProof.Rows L2 Evl
def Src.sq : Src → Prop
  | .lst _ => True
  | .tup _ => True
  | .str _ => False
def ItP (K : PySem.W.Frag) : Src → It
  | .lst a => Itl K a
  | .tup a => Itt K a
  | .str x => Its x
def iSrc (K : PySem.W.Frag) (te : TE) : TI := fun σ H R => te σ H fun v H1 => ∃ S : Src, v = S.v ∧ S.sq ∧ (∃ xs, S.at K H1 xs) ∧ R (ItP K S) H1
theorem pi_src {X : Cx} {tg l : Expr} {te : TE} (he : PE X l te) : PI X tg l (iSrc X.K te) := by
  constructor
  intro pins s σ H R I h
  refine thn (he.run pins s σ H _ I h) ?_
  rintro u s2 ⟨z, H2, J, ru, S, hz, hs, ⟨ys, hy⟩, q⟩
  subst hz
  cases S with
  | lst b =>
    cases ru
    obtain ⟨is, _, pb, _⟩ := J.list hy
    refine wpAny_pyIter_list pb.isList ?_
    refine ⟨s2.heap.objs.size, [s2.heap.objs.size], _, _, H2, rfl, J.kept (t' := s2.toks) (fun c o w => Heap.get?_push_of_some _ w), turn_list b _, ⟨_, Heap.get?_push_size _ rfl, rfl, rfl⟩, ?_, q⟩
    intro c hc
    rw [List.mem_singleton.mp hc]
    exact J.fpOk (Nat.le_refl _) (J.hok.fresh (Nat.le_refl _))
  | tup b =>
    cases ru
    obtain ⟨is, _, pb, _⟩ := J.tuple hy
    refine wpAny_pyIter_tuple (items := is.toArray) pb ?_
    refine ⟨s2.heap.objs.size, [s2.heap.objs.size], _, _, H2, rfl, J.kept (t' := s2.toks) (fun c o w => Heap.get?_push_of_some _ w), turn_tuple b _, ⟨_, Heap.get?_push_size _ rfl, rfl, rfl⟩, ?_, q⟩
    intro c hc
    rw [List.mem_singleton.mp hc]
    exact J.fpOk (Nat.le_refl _) (J.hok.fresh (Nat.le_refl _))
  | str x => exact hs.elim
theorem wk_src {K : PySem.W.Frag} {l : Option Addr} {H0 : Hp} {xs : List V} {S : Src} (hs : S.sq) (n : offl l S) (h : S.at K H0 xs) : Wk l (ItP K S) H0 xs.length (fun i x _ => xs[i]? = some x) := by
  cases S with
  | lst a => exact wk_list n h
  | tup a => exact wk_tup n h
  | str x => exact hs.elim
/-! ### objects of own classes, asked for their class -/
structure InsC (K : PySem.W.Frag) (C : Addr) : Prop where
  ha : PySem.W.findIn K (.ref C) "__class__" = some (some (.builtin "object.__class__"))
  hn : PySem.W.specialIn K (.builtin "object.__class__") "__get__" = some (some (.builtin "getset_descriptor.__get__"))
  ht : PySem.W.takesIn K (.builtin "object.__class__") = some true
  hm : PySem.W.mroIn K C (.type "object") = some true
theorem InsC.ty {K : PySem.W.Frag} {H : Hp} {a C dx : Addr} {fs : List (Str × V)} (i : InsC K C) (cl : Cls K C) (e : H a = some (.ins C dx fs)) : TyX K H (.ref a) (.ref C) := .base (.ins e cl i.ha i.hn i.ht i.hm)
/-! ### rules that are told K -/
theorem pe_fldK {X : Cx} {K : PySem.W.Frag} {e : Expr} {f : Str} {pos : Pos} {ta : TE} (he : PE X e ta) (hb : attributeBase e f X.env (eval e X.env) = eval e X.env) (hK : X.K = K := by rfl) : PE X (.Attribute e f pos) (tFld K ta f) := by
  subst hK
  exact pe_fld he hb
theorem sl_tupK {X : Cx} {K : PySem.W.Frag} (hK : X.K = K := by rfl) : SlR X (rSlA K) := by
  subst hK
  exact sl_tupA
theorem op_catK {X : Cx} {K : PySem.W.Frag} (hK : X.K = K := by rfl) : OpR X (binaryOp .Add) (rCatA K) := by
  subst hK
  exact op_catA
/-! ### a tuple, repeated -/
theorem tup_mul1 (l : Addr) (items : Array Value) (n : Nat) (dd : Option Addr) (sl : Array (Option Value)) (u : Tok) :
    Meets (Builtin.«tuple.__mul__» ⟨[.ref l, .int 1 u], []⟩) (fun _ R s => s.heap.get? l = some { cls := .type "tuple", dict := dd, data := .seq items n, slots := sl } ∧ ∀ tk, R (.ok (.ret (Value.ref l))) { s with toks := tk }) :=
  .of_wp fun prog w A R s h => by
    obtain ⟨hp, g, d, tk, os⟩ := s
    obtain ⟨hl, h⟩ := h
    have f1 := AutoSeq1.idx_int
    have c0 : (decide ((1 : Int) < -(2 ^ 63)) || decide ((1 : Int) ≥ 2 ^ 63)) = false := by decide
    have c1 : (items.isEmpty || (1 : Int) == 1) = true := by simp
    wp_walk using wpAny_loadPart' hl
    exact ⟨_, rfl, h tk⟩
theorem tup_mul0 (l : Addr) (items : Array Value) (n : Nat) (dd : Option Addr) (sl : Array (Option Value)) (u : Tok) (hne : items.isEmpty = false) :
    Meets (Builtin.«tuple.__mul__» ⟨[.ref l, .int 0 u], []⟩) (fun _ R s => s.heap.get? l = some { cls := .type "tuple", dict := dd, data := .seq items n, slots := sl } ∧
      R (.ok (.ret (Value.ref s.heap.objs.size))) { s with heap := s.heap.push { cls := Value.type "tuple", data := Data.seq #[] }, toks := s.toks }) :=
  .of_wp fun prog w A R s h => by
    obtain ⟨hp, g, d, tk, os⟩ := s
    obtain ⟨hl, h⟩ := h
    have f1 := AutoSeq1.idx_int
    have c0 : (decide ((0 : Int) < -(2 ^ 63)) || decide ((0 : Int) ≥ 2 ^ 63)) = false := by decide
    have c1 : (items.isEmpty || (0 : Int) == 1) = false := by rw [hne]; decide
    have c2 : (decide ((0 : Int) ≤ 0) || items.isEmpty) = true := by simp
    wp_walk using wpAny_loadPart' hl
    exact ⟨_, rfl, h⟩
def rRepA (K : PySem.W.Frag) : R2 := fun x y H Q => ∃ l k ys, x = .ref l ∧ y = .int k ∧ SqT K H l ys ∧ ys ≠ [] ∧ 0 ≤ k ∧ k ≤ 1000 ∧ ys.length ≤ 1000 ∧ (k = 1 → Q (.ref l) H) ∧ (k ≠ 1 → ∀ p, H p = none → Q (.ref p) (upd H p (.tup (List.replicate k.toNat ys).flatten)))
theorem op_repA {X : Cx} {K : PySem.W.Frag} (hK : X.K = K := by rfl) : OpR X (binaryOp .Mult) (rRepA K) := by
  subst hK
  intro pins s σ H x y v u Q I rx ry h
  obtain ⟨l, k, ys, rfl, rfl, hT, hne, k0, k9, hz, q1, q2⟩ := h
  by_cases h2 : 2 ≤ k
  · exact op_repT pins s σ H _ _ v u Q I rx ry ⟨l, k, ys, rfl, rfl, hT, hne, h2, k9, hz, q2 (by omega)⟩
  cases rx
  obtain ⟨c, rfl⟩ := ry
  obtain ⟨is, rv, ⟨⟨oc, od, dt, os⟩, hg, hcl, m, hdt⟩, _⟩ := I.tuple hT
  simp only at hcl hdt
  subst hcl hdt
  have hni : is ≠ [] := fun e => hne (List.eq_nil_of_length_eq_zero (by rw [rv.length, e]; rfl))
  have hem : is.toArray.isEmpty = false := by
    cases is with
    | nil => exact absurd rfl hni
    | cons a b => rfl
  by_cases h1 : k = 1
  · subst h1
    refine wpAny_binaryOp_repeat_ref (T := "tuple") (U := "int") (by decide) ⟨_, hg, rfl⟩ (fun z => typeIs_int z 1 c) noFill_tuple_mul F.fills_int_mul F.slot_int_rmul repeat_tuple F.slot_int_index.lookup ?_
    refine call_meets F.slot_int_rmul (typeIs_int s 1 c) F.entry_int_rmul (F.args_int_rmul_2 _ _) (int_rmul_tuple 1 c l is.toArray m od os) ?_
    refine ⟨hg, rfl, ⟨_, hg, rfl⟩, ?_⟩
    refine call_meets F.slot_tuple_mul ⟨_, hg, rfl⟩ F.entry_tuple_mul (F.args_tuple_mul_2 _ _) (tup_mul1 l is.toArray m od os c) ⟨hg, fun tk => ?_⟩
    exact ⟨.ref l, H, I.tok tk, rfl, q1 rfl⟩
  · have h0 : k = 0 := by omega
    subst h0
    refine wpAny_binaryOp_repeat_ref (T := "tuple") (U := "int") (by decide) ⟨_, hg, rfl⟩ (fun z => typeIs_int z 0 c) noFill_tuple_mul F.fills_int_mul F.slot_int_rmul repeat_tuple F.slot_int_index.lookup ?_
    refine call_meets F.slot_int_rmul (typeIs_int s 0 c) F.entry_int_rmul (F.args_int_rmul_2 _ _) (int_rmul_tuple 0 c l is.toArray m od os) ?_
    refine ⟨hg, rfl, ⟨_, hg, rfl⟩, ?_⟩
    refine call_meets F.slot_tuple_mul ⟨_, hg, rfl⟩ F.entry_tuple_mul (F.args_tuple_mul_2 _ _) (tup_mul0 l is.toArray m od os c hem) ⟨hg, ?_⟩
    refine ⟨.ref s.heap.objs.size, _, I.laid (t' := s.toks) (o := .tup (List.replicate (0 : Int).toNat ys).flatten) (fun b z e => Heap.get?_push_of_some _ e) (Nat.le_refl _) ?_, rfl, q2 h1 _ (I.hok.fresh (Nat.le_refl _))⟩
    exact ⟨Nat.zero_le _, [], .nil, IsTup.new _ _⟩
end PW
namespace PW
open PySem PySem.Spec PyProof.Rows L2 Evl
def topS (i : Nat) : Stmt := PySem.Challenge.pw_planeworth_k09_cones_and_joined_lists.main.body.getD i (.Pass ⟨0, 0, 0, 0⟩)
abbrev s__wall : Stmt := topS 1
theorem sc__wall : FnScope ["k"] ["k"] (defScope s__wall) := ⟨rfl, rfl, rfl, by decide +kernel, rfl, by decide +kernel, by decide +kernel⟩
abbrev s_is_number : Stmt := topS 11
theorem sc_is_number : FnScope ["x", "a", "b"] ["x"] (defScope s_is_number) := ⟨rfl, rfl, rfl, by decide +kernel, rfl, by decide +kernel, by decide +kernel⟩
abbrev s_check_number : Stmt := topS 12
theorem sc_check_number : FnScope ["x"] ["x"] (defScope s_check_number) := ⟨rfl, rfl, rfl, by decide +kernel, rfl, by decide +kernel, by decide +kernel⟩
abbrev s_content : Stmt := topS 13
theorem sc_content : FnScope ["integers", "shared", "a"] ["integers"] (defScope s_content) := ⟨rfl, rfl, rfl, by decide +kernel, rfl, by decide +kernel, by decide +kernel⟩
abbrev s_primitive : Stmt := topS 14
theorem sc_primitive : FnScope ["integers", "shared", "a"] ["integers"] (defScope s_primitive) := ⟨rfl, rfl, rfl, by decide +kernel, rfl, by decide +kernel, by decide +kernel⟩
abbrev s_over_one_divisor : Stmt := topS 15
theorem sc_over_one_divisor : FnScope ["row", "divisor", "x"] ["row"] (defScope s_over_one_divisor) := ⟨rfl, rfl, rfl, by decide +kernel, rfl, by decide +kernel, by decide +kernel⟩
abbrev s_negated : Stmt := topS 16
theorem sc_negated : FnScope ["integers", "a"] ["integers"] (defScope s_negated) := ⟨rfl, rfl, rfl, by decide +kernel, rfl, by decide +kernel, by decide +kernel⟩
abbrev s_is_number_row : Stmt := topS 18
theorem sc_is_number_row : FnScope ["width", "row", "x"] ["width", "row"] (defScope s_is_number_row) := ⟨rfl, rfl, rfl, by decide +kernel, rfl, by decide +kernel, by decide +kernel⟩
abbrev s_first_row_with : Stmt := topS 19
theorem sc_first_row_with : FnScope ["rows", "place", "at", "row"] ["rows", "place"] (defScope s_first_row_with) := ⟨rfl, rfl, rfl, by decide +kernel, rfl, by decide +kernel, by decide +kernel⟩
abbrev s_struck : Stmt := topS 20
theorem sc_struck : FnScope ["row", "by", "place", "shared", "much", "less", "a", "b"] ["row", "by", "place"] (defScope s_struck) := ⟨rfl, rfl, rfl, by decide +kernel, rfl, by decide +kernel, by decide +kernel⟩
abbrev s_whole_echelon : Stmt := topS 21
theorem sc_whole_echelon : FnScope ["width", "rows", "done", "left", "row", "place", "at", "by", "pivot", "k"] ["width", "rows"] (defScope s_whole_echelon) := ⟨rfl, rfl, rfl, by decide +kernel, rfl, by decide +kernel, by decide +kernel⟩
abbrev s_whole_product : Stmt := topS 22
theorem sc_whole_product : FnScope ["one", "other", "a", "b"] ["one", "other"] (defScope s_whole_product) := ⟨rfl, rfl, rfl, by decide +kernel, rfl, by decide +kernel, by decide +kernel⟩
abbrev s_check_letters : Stmt := topS 29
theorem sc_check_letters : FnScope ["n"] ["n"] (defScope s_check_letters) := ⟨rfl, rfl, rfl, by decide +kernel, rfl, by decide +kernel, by decide +kernel⟩
abbrev s_is_plane : Stmt := topS 30
theorem sc_is_plane : FnScope ["n", "plane", "a"] ["n", "plane"] (defScope s_is_plane) := ⟨rfl, rfl, rfl, by decide +kernel, rfl, by decide +kernel, by decide +kernel⟩
abbrev s_check_point : Stmt := topS 31
theorem sc_check_point : FnScope ["n", "point"] ["n", "point"] (defScope s_check_point) := ⟨rfl, rfl, rfl, by decide +kernel, rfl, by decide +kernel, by decide +kernel⟩
abbrev s_check_planes : Stmt := topS 32
theorem sc_check_planes : FnScope ["n", "rows", "before", "plane"] ["n", "rows"] (defScope s_check_planes) := ⟨rfl, rfl, rfl, by decide +kernel, rfl, by decide +kernel, by decide +kernel⟩
abbrev s_sign_letter : Stmt := topS 34
theorem sc_sign_letter : FnScope ["a"] ["a"] (defScope s_sign_letter) := ⟨rfl, rfl, rfl, by decide +kernel, rfl, by decide +kernel, by decide +kernel⟩
abbrev s_sides_of : Stmt := topS 35
theorem sc_sides_of : FnScope ["planes", "point", "integers", "divisor", "place", "plane"] ["planes", "point"] (defScope s_sides_of) := ⟨rfl, rfl, rfl, by decide +kernel, rfl, by decide +kernel, by decide +kernel⟩
abbrev s_row_of : Stmt := topS 36
theorem sc_row_of : FnScope ["planes", "point"] ["planes", "point"] (defScope s_row_of) := ⟨rfl, rfl, rfl, by decide +kernel, rfl, by decide +kernel, by decide +kernel⟩
abbrev s_is_row : Stmt := topS 37
theorem sc_is_row : FnScope ["planes", "row", "letter"] ["planes", "row"] (defScope s_is_row) := ⟨rfl, rfl, rfl, by decide +kernel, rfl, by decide +kernel, by decide +kernel⟩
abbrev s_check_row : Stmt := topS 38
theorem sc_check_row : FnScope ["planes", "row"] ["planes", "row"] (defScope s_check_row) := ⟨rfl, rfl, rfl, by decide +kernel, rfl, by decide +kernel, by decide +kernel⟩
abbrev s_opposite : Stmt := topS 39
theorem sc_opposite : FnScope ["planes", "row", "letter"] ["planes", "row"] (defScope s_opposite) := ⟨rfl, rfl, rfl, by decide +kernel, rfl, by decide +kernel, by decide +kernel⟩
abbrev s_joined : Stmt := topS 41
theorem sc_joined : FnScope ["one", "other", "n", "m", "first", "plane", "second"] ["one", "other"] (defScope s_joined) := ⟨rfl, rfl, rfl, by decide +kernel, rfl, by decide +kernel, by decide +kernel⟩
abbrev s_coned : Stmt := topS 42
theorem sc_coned : FnScope ["planes", "n", "rows", "plane"] ["planes"] (defScope s_coned) := ⟨rfl, rfl, rfl, by decide +kernel, rfl, by decide +kernel, by decide +kernel⟩
abbrev s__law_number : Stmt := topS 44
theorem sc__law_number : FnScope ["cell"] ["cell"] (defScope s__law_number) := ⟨rfl, rfl, rfl, by decide +kernel, rfl, by decide +kernel, by decide +kernel⟩
abbrev s__law_draws : Stmt := topS 45
theorem sc__law_draws : FnScope ["script", "draws", "cell", "rest", "k", "once", "twice"] ["script"] (defScope s__law_draws) := ⟨rfl, rfl, rfl, by decide +kernel, rfl, by decide +kernel, by decide +kernel⟩
abbrev s__law_next : Stmt := topS 46
theorem sc__law_next : FnScope ["draws"] ["draws"] (defScope s__law_next) := ⟨rfl, rfl, rfl, by decide +kernel, rfl, by decide +kernel, by decide +kernel⟩
abbrev s__law_divisor : Stmt := topS 47
theorem sc__law_divisor : FnScope ["a", "b", "one", "other", "j"] ["a", "b"] (defScope s__law_divisor) := ⟨rfl, rfl, rfl, by decide +kernel, rfl, by decide +kernel, by decide +kernel⟩
abbrev s__law_lowest : Stmt := topS 48
theorem sc__law_lowest : FnScope ["a", "b", "common"] ["a", "b"] (defScope s__law_lowest) := ⟨rfl, rfl, rfl, by decide +kernel, rfl, by decide +kernel, by decide +kernel⟩
abbrev s__law_plus : Stmt := topS 49
theorem sc__law_plus : FnScope ["x", "y"] ["x", "y"] (defScope s__law_plus) := ⟨rfl, rfl, rfl, by decide +kernel, rfl, by decide +kernel, by decide +kernel⟩
abbrev s__law_times : Stmt := topS 50
theorem sc__law_times : FnScope ["x", "y"] ["x", "y"] (defScope s__law_times) := ⟨rfl, rfl, rfl, by decide +kernel, rfl, by decide +kernel, by decide +kernel⟩
abbrev s__law_less : Stmt := topS 51
theorem sc__law_less : FnScope ["x", "y"] ["x", "y"] (defScope s__law_less) := ⟨rfl, rfl, rfl, by decide +kernel, rfl, by decide +kernel, by decide +kernel⟩
abbrev s__law_dot : Stmt := topS 52
theorem sc__law_dot : FnScope ["one", "other", "total", "at"] ["one", "other"] (defScope s__law_dot) := ⟨rfl, rfl, rfl, by decide +kernel, rfl, by decide +kernel, by decide +kernel⟩
abbrev s__law_fraction : Stmt := topS 53
theorem sc__law_fraction : FnScope ["draws"] ["draws"] (defScope s__law_fraction) := ⟨rfl, rfl, rfl, by decide +kernel, rfl, by decide +kernel, by decide +kernel⟩
abbrev s__law_plane : Stmt := topS 54
theorem sc__law_plane : FnScope ["draws", "n", "point", "row", "j", "place", "a", "last", "common"] ["draws", "n", "point"] (defScope s__law_plane) := ⟨rfl, rfl, rfl, by decide +kernel, rfl, by decide +kernel, by decide +kernel⟩
abbrev s__law_planes : Stmt := topS 55
theorem sc__law_planes : FnScope ["draws", "n", "most", "point", "j", "found", "plane", "a"] ["draws", "n", "most"] (defScope s__law_planes) := ⟨rfl, rfl, rfl, by decide +kernel, rfl, by decide +kernel, by decide +kernel⟩
abbrev s__law_point : Stmt := topS 56
theorem sc__law_point : FnScope ["draws", "n", "point", "kind", "a", "j", "near"] ["draws", "n", "point"] (defScope s__law_point) := ⟨rfl, rfl, rfl, by decide +kernel, rfl, by decide +kernel, by decide +kernel⟩
abbrev s__law_height : Stmt := topS 57
theorem sc__law_height : FnScope ["plane", "point", "total", "at"] ["plane", "point"] (defScope s__law_height) := ⟨rfl, rfl, rfl, by decide +kernel, rfl, by decide +kernel, by decide +kernel⟩
abbrev s__law_side : Stmt := topS 58
theorem sc__law_side : FnScope ["plane", "point", "a"] ["plane", "point"] (defScope s__law_side) := ⟨rfl, rfl, rfl, by decide +kernel, rfl, by decide +kernel, by decide +kernel⟩
abbrev s__law_row : Stmt := topS 59
theorem sc__law_row : FnScope ["planes", "point", "plane"] ["planes", "point"] (defScope s__law_row) := ⟨rfl, rfl, rfl, by decide +kernel, rfl, by decide +kernel, by decide +kernel⟩
abbrev s__law_told : Stmt := topS 60
theorem sc__law_told : FnScope ["way", "one", "other", "error"] ["way", "one", "other"] (defScope s__law_told) := ⟨rfl, rfl, rfl, by decide +kernel, rfl, by decide +kernel, by decide +kernel⟩
abbrev s__law_cone : Stmt := topS 61
theorem sc__law_cone : FnScope ["draws", "n", "rows", "point", "told", "due", "row", "t", "less", "here", "x", "there"] ["draws", "n", "rows", "point"] (defScope s__law_cone) := ⟨rfl, rfl, rfl, by decide +kernel, rfl, by decide +kernel, by decide +kernel⟩
abbrev s__law_joined : Stmt := topS 62
theorem sc__law_joined : FnScope ["n", "rows", "point", "m", "others", "place", "told", "due", "row"] ["n", "rows", "point", "m", "others", "place"] (defScope s__law_joined) := ⟨rfl, rfl, rfl, by decide +kernel, rfl, by decide +kernel, by decide +kernel⟩
abbrev s__law_bounds : Stmt := topS 63
theorem sc__law_bounds : FnScope ["n", "rows", "long", "at"] ["n", "rows"] (defScope s__law_bounds) := ⟨rfl, rfl, rfl, by decide +kernel, rfl, by decide +kernel, by decide +kernel⟩
abbrev s_law : Stmt := topS 64
theorem sc_law : FnScope ["script", "draws", "n", "rows", "middle", "point", "m", "others", "place", "long", "at"] ["script"] (defScope s_law) := ⟨rfl, rfl, rfl, by decide +kernel, rfl, by decide +kernel, by decide +kernel⟩
abbrev s_Planes_init : Stmt := inClass (topS 33) 0
theorem sc_Planes_init : FnScope ["self", "n", "rows"] ["self", "n", "rows"] (defScope s_Planes_init) := ⟨rfl, rfl, rfl, by decide +kernel, rfl, by decide +kernel, by decide +kernel⟩
abbrev s_Planes_len : Stmt := inClass (topS 33) 1
theorem sc_Planes_len : FnScope ["self"] ["self"] (defScope s_Planes_len) := ⟨rfl, rfl, rfl, by decide +kernel, rfl, by decide +kernel, by decide +kernel⟩
abbrev s_Planes_planes : Stmt := inClass (topS 33) 3
theorem sc_Planes_planes : FnScope ["self"] ["self"] (defScope s_Planes_planes) := ⟨rfl, rfl, rfl, by decide +kernel, rfl, by decide +kernel, by decide +kernel⟩
abbrev s_Planes_is_central : Stmt := inClass (topS 33) 5
theorem sc_Planes_is_central : FnScope ["self", "found", "pivot", "_"] ["self"] (defScope s_Planes_is_central) := ⟨rfl, rfl, rfl, by decide +kernel, rfl, by decide +kernel, by decide +kernel⟩
local macro_rules | `(tactic| walk_at "go") => `(tactic| simp only [tSeq, tAsg, tVar, tC, tOp, tUn, tRet, tRetN, tIfS, tTest, tB, tCB, tCons, tNil, tAndV, tOrV, tNotV, tAnd, tOr, tNot, tIf, gName, gTup, gCons, gNil, rI0, rI, rU, rEq, rNe, tCall, tCallS, tDrop, tTup, tLst, tNext, tPar, tBreak, rGcd, List.set_cons_zero, List.set_cons_succ, List.getElem?_cons_zero, List.getElem?_cons_succ, Option.some.injEq, exists_eq_left', exists_eq_left, V.int.injEq, V.bl.injEq, V.ref.injEq, List.cons.injEq, and_true, true_and, reduceCtorEq, L2.start, List.map_cons, List.map_nil, List.length_cons, List.length_nil, List.replicate_succ, List.replicate_zero, List.cons_append, List.nil_append, List.append_nil, Nat.reduceAdd, Nat.reduceSub, scal, exists_const, exists_and_left, ite_true, ite_false, decide_eq_true_eq, and_assoc, cxOf, Nat.zero_add, Bool.not_eq_true', decide_eq_false_iff_not, false_and, exists_false, or_false, false_or, Int.reduceLT, Int.reduceEq, Int.reduceLE, ↓reduceIte, exists_eq])
structure Txt (K : PySem.W.Frag) (w : World) (mg : Str → Option Value) (ad : Nat → Addr) (fd : Nat → FuncData) : Prop where
  f_is_number : Fun K "is_number" "is_number" s_is_number (ad 11) (fd 11)
  g_is_number : mg "is_number" = some (.ref (ad 11))
  f_check_number : Fun K "check_number" "check_number" s_check_number (ad 12) (fd 12)
  g_check_number : mg "check_number" = some (.ref (ad 12))
  f_content : Fun K "content" "content" s_content (ad 13) (fd 13)
  g_content : mg "content" = some (.ref (ad 13))
  f_primitive : Fun K "primitive" "primitive" s_primitive (ad 14) (fd 14)
  g_primitive : mg "primitive" = some (.ref (ad 14))
  f_over_one_divisor : Fun K "over_one_divisor" "over_one_divisor" s_over_one_divisor (ad 15) (fd 15)
  g_over_one_divisor : mg "over_one_divisor" = some (.ref (ad 15))
  f_negated : Fun K "negated" "negated" s_negated (ad 16) (fd 16)
  g_negated : mg "negated" = some (.ref (ad 16))
  f_is_number_row : Fun K "is_number_row" "is_number_row" s_is_number_row (ad 18) (fd 18)
  g_is_number_row : mg "is_number_row" = some (.ref (ad 18))
  f_first_row_with : Fun K "first_row_with" "first_row_with" s_first_row_with (ad 19) (fd 19)
  g_first_row_with : mg "first_row_with" = some (.ref (ad 19))
  f_struck : Fun K "struck" "struck" s_struck (ad 20) (fd 20)
  g_struck : mg "struck" = some (.ref (ad 20))
  f_whole_echelon : Fun K "whole_echelon" "whole_echelon" s_whole_echelon (ad 21) (fd 21)
  g_whole_echelon : mg "whole_echelon" = some (.ref (ad 21))
  f_whole_product : Fun K "whole_product" "whole_product" s_whole_product (ad 22) (fd 22)
  g_whole_product : mg "whole_product" = some (.ref (ad 22))
  f_check_letters : Fun K "check_letters" "check_letters" s_check_letters (ad 29) (fd 29)
  g_check_letters : mg "check_letters" = some (.ref (ad 29))
  f_is_plane : Fun K "is_plane" "is_plane" s_is_plane (ad 30) (fd 30)
  g_is_plane : mg "is_plane" = some (.ref (ad 30))
  f_check_point : Fun K "check_point" "check_point" s_check_point (ad 31) (fd 31)
  g_check_point : mg "check_point" = some (.ref (ad 31))
  f_check_planes : Fun K "check_planes" "check_planes" s_check_planes (ad 32) (fd 32)
  g_check_planes : mg "check_planes" = some (.ref (ad 32))
  f_sign_letter : Fun K "sign_letter" "sign_letter" s_sign_letter (ad 34) (fd 34)
  g_sign_letter : mg "sign_letter" = some (.ref (ad 34))
  f_sides_of : Fun K "sides_of" "sides_of" s_sides_of (ad 35) (fd 35)
  g_sides_of : mg "sides_of" = some (.ref (ad 35))
  f_row_of : Fun K "row_of" "row_of" s_row_of (ad 36) (fd 36)
  g_row_of : mg "row_of" = some (.ref (ad 36))
  f_is_row : Fun K "is_row" "is_row" s_is_row (ad 37) (fd 37)
  g_is_row : mg "is_row" = some (.ref (ad 37))
  f_check_row : Fun K "check_row" "check_row" s_check_row (ad 38) (fd 38)
  g_check_row : mg "check_row" = some (.ref (ad 38))
  f_opposite : Fun K "opposite" "opposite" s_opposite (ad 39) (fd 39)
  g_opposite : mg "opposite" = some (.ref (ad 39))
  f_joined : Fun K "joined" "joined" s_joined (ad 41) (fd 41)
  g_joined : mg "joined" = some (.ref (ad 41))
  f_coned : Fun K "coned" "coned" s_coned (ad 42) (fd 42)
  g_coned : mg "coned" = some (.ref (ad 42))
  f__law_number : Fun K "_law_number" "_law_number" s__law_number (ad 44) (fd 44)
  g__law_number : mg "_law_number" = some (.ref (ad 44))
  f__law_draws : Fun K "_law_draws" "_law_draws" s__law_draws (ad 45) (fd 45)
  g__law_draws : mg "_law_draws" = some (.ref (ad 45))
  f__law_next : Fun K "_law_next" "_law_next" s__law_next (ad 46) (fd 46)
  g__law_next : mg "_law_next" = some (.ref (ad 46))
  f__law_divisor : Fun K "_law_divisor" "_law_divisor" s__law_divisor (ad 47) (fd 47)
  g__law_divisor : mg "_law_divisor" = some (.ref (ad 47))
  f__law_lowest : Fun K "_law_lowest" "_law_lowest" s__law_lowest (ad 48) (fd 48)
  g__law_lowest : mg "_law_lowest" = some (.ref (ad 48))
  f__law_plus : Fun K "_law_plus" "_law_plus" s__law_plus (ad 49) (fd 49)
  g__law_plus : mg "_law_plus" = some (.ref (ad 49))
  f__law_times : Fun K "_law_times" "_law_times" s__law_times (ad 50) (fd 50)
  g__law_times : mg "_law_times" = some (.ref (ad 50))
  f__law_fraction : Fun K "_law_fraction" "_law_fraction" s__law_fraction (ad 53) (fd 53)
  g__law_fraction : mg "_law_fraction" = some (.ref (ad 53))
  f__law_plane : Fun K "_law_plane" "_law_plane" s__law_plane (ad 54) (fd 54)
  g__law_plane : mg "_law_plane" = some (.ref (ad 54))
  f__law_planes : Fun K "_law_planes" "_law_planes" s__law_planes (ad 55) (fd 55)
  g__law_planes : mg "_law_planes" = some (.ref (ad 55))
  f__law_point : Fun K "_law_point" "_law_point" s__law_point (ad 56) (fd 56)
  g__law_point : mg "_law_point" = some (.ref (ad 56))
  f__law_height : Fun K "_law_height" "_law_height" s__law_height (ad 57) (fd 57)
  g__law_height : mg "_law_height" = some (.ref (ad 57))
  f__law_side : Fun K "_law_side" "_law_side" s__law_side (ad 58) (fd 58)
  g__law_side : mg "_law_side" = some (.ref (ad 58))
  f__law_row : Fun K "_law_row" "_law_row" s__law_row (ad 59) (fd 59)
  g__law_row : mg "_law_row" = some (.ref (ad 59))
  f__law_told : Fun K "_law_told" "_law_told" s__law_told (ad 60) (fd 60)
  g__law_told : mg "_law_told" = some (.ref (ad 60))
  f__law_cone : Fun K "_law_cone" "_law_cone" s__law_cone (ad 61) (fd 61)
  g__law_cone : mg "_law_cone" = some (.ref (ad 61))
  f__law_joined : Fun K "_law_joined" "_law_joined" s__law_joined (ad 62) (fd 62)
  g__law_joined : mg "_law_joined" = some (.ref (ad 62))
  f__law_bounds : Fun K "_law_bounds" "_law_bounds" s__law_bounds (ad 63) (fd 63)
  g__law_bounds : mg "_law_bounds" = some (.ref (ad 63))
  f_law : Fun K "law" "law" s_law (ad 64) (fd 64)
  g_law : mg "law" = some (.ref (ad 64))
  f_Planes_init : Fun K "__init__" "Planes.__init__" s_Planes_init (ad 1660) (fd 1660)
  me_Planes_init : Meth K (ad 33) "__init__" (ad 1660)
  mk_Planes : Mk K (ad 33) (ad 1660)
  f_Planes_len : Fun K "__len__" "Planes.__len__" s_Planes_len (ad 1661) (fd 1661)
  me_Planes_len : Meth K (ad 33) "__len__" (ad 1661)
  f_Planes_planes : Fun K "planes" "Planes.planes" s_Planes_planes (ad 1663) (fd 1663)
  me_Planes_planes : Meth K (ad 33) "planes" (ad 1663)
  f_Planes_is_central : Fun K "is_central" "Planes.is_central" s_Planes_is_central (ad 1665) (fd 1665)
  me_Planes_is_central : Meth K (ad 33) "is_central" (ad 1665)
  cl_Planes : Cls K (ad 33)
  na_Planes_n : NoAttr K (ad 33) "n"
  na_Planes__rows : NoAttr K (ad 33) "_rows"
  v_MOST_LETTERS : ∃ u, mg "MOST_LETTERS" = some (.int 4 u)
  v_MOST_PLANES : ∃ u, mg "MOST_PLANES" = some (.int 12 u)
  v_MOST_ENTRY : ∃ u, mg "MOST_ENTRY" = some (.int 1000 u)
  v_SIGNS : ∃ u, mg "SIGNS" = some (.str "+-0" u)
  v_TURNED : ∃ a, mg "TURNED" = some (.ref a) ∧ KDct K w a "+" (.str "-") ∧ KDct K w a "-" (.str "+") ∧ KDct K w a "0" (.str "0")
  m_tuple : mg "tuple" = none
  m_isinstance : mg "isinstance" = none
  m_all : mg "all" = none
  m_len : mg "len" = none
  m_enumerate : mg "enumerate" = none
  m_zip : mg "zip" = none
  m_range : mg "range" = none
  m_sum : mg "sum" = none
  m_any : mg "any" = none
  m_int : mg "int" = none
  m_abs : mg "abs" = none
  m_str : mg "str" = none
  m_list : mg "list" = none
  g_gcd : mg "gcd" = some (.builtin "math.gcd")
  g_lcm : mg "lcm" = some (.builtin "math.lcm")
  g_PlaneError : mg "PlaneError" = some (.ref (ad 3))
  g_NotNumber : mg "NotNumber" = some (.ref (ad 4))
  x_NotNumber : PySem.W.excIn K (ad 4) [.type "ValueError", .type "Exception", .type "BaseException", .type "object"] "ValueError.__new__" = true
  k_NotNumber : PySem.W.keepIn K (.ref (ad 4)) = true
  s_NotNumber : PySem.W.subIn K (.ref (ad 4)) (.type "BaseException") = some true
  t_NotNumber : PySem.W.typeIn K (.ref (ad 4)) = some (.type "type")
  g_NotPoint : mg "NotPoint" = some (.ref (ad 5))
  x_NotPoint : PySem.W.excIn K (ad 5) [.type "ValueError", .type "Exception", .type "BaseException", .type "object"] "ValueError.__new__" = true
  k_NotPoint : PySem.W.keepIn K (.ref (ad 5)) = true
  s_NotPoint : PySem.W.subIn K (.ref (ad 5)) (.type "BaseException") = some true
  t_NotPoint : PySem.W.typeIn K (.ref (ad 5)) = some (.type "type")
  g_NotRow : mg "NotRow" = some (.ref (ad 7))
  x_NotRow : PySem.W.excIn K (ad 7) [.type "ValueError", .type "Exception", .type "BaseException", .type "object"] "ValueError.__new__" = true
  k_NotRow : PySem.W.keepIn K (.ref (ad 7)) = true
  s_NotRow : PySem.W.subIn K (.ref (ad 7)) (.type "BaseException") = some true
  t_NotRow : PySem.W.typeIn K (.ref (ad 7)) = some (.type "type")
  g_BadNumber : mg "BadNumber" = some (.ref (ad 8))
  x_BadNumber : PySem.W.excIn K (ad 8) [.type "ValueError", .type "Exception", .type "BaseException", .type "object"] "ValueError.__new__" = true
  k_BadNumber : PySem.W.keepIn K (.ref (ad 8)) = true
  s_BadNumber : PySem.W.subIn K (.ref (ad 8)) (.type "BaseException") = some true
  t_BadNumber : PySem.W.typeIn K (.ref (ad 8)) = some (.type "type")
  g_TooLarge : mg "TooLarge" = some (.ref (ad 9))
  x_TooLarge : PySem.W.excIn K (ad 9) [.type "ValueError", .type "Exception", .type "BaseException", .type "object"] "ValueError.__new__" = true
  k_TooLarge : PySem.W.keepIn K (.ref (ad 9)) = true
  s_TooLarge : PySem.W.subIn K (.ref (ad 9)) (.type "BaseException") = some true
  t_TooLarge : PySem.W.typeIn K (.ref (ad 9)) = some (.type "type")
  g_Planes : mg "Planes" = some (.ref (ad 33))
  e_BadNumber_PlaneError : PySem.W.exmOne K (.ref (ad 8)) (.ref (ad 3)) = some true
  e_TooLarge_PlaneError : PySem.W.exmOne K (.ref (ad 9)) (.ref (ad 3)) = some true
  o_Planes : InsC K (ad 33)
  y_Planes_str : PySem.W.kitOne K (.ref (ad 33)) (.type "str") = some false
  c_BadNumber : ExcC K (ad 8)
  c_TooLarge : ExcC K (ad 9)
  i_BadNumber_BadNumber : PySem.W.kitOne K (.ref (ad 8)) (.ref (ad 8)) = some true
  i_BadNumber_TooLarge : PySem.W.kitOne K (.ref (ad 8)) (.ref (ad 9)) = some false
  i_TooLarge_BadNumber : PySem.W.kitOne K (.ref (ad 9)) (.ref (ad 8)) = some false
  i_TooLarge_TooLarge : PySem.W.kitOne K (.ref (ad 9)) (.ref (ad 9)) = some true
section
variable {P : Program} {w : World} {K : PySem.W.Frag} {mg : Str → Option Value} {base : Heap} {ad : Nat → Addr} {fd : Nat → FuncData}
def sp_is_number (K : PySem.W.Frag) : Sp := fun vs H Q _ => ∃ v a b, vs = [v] ∧ Num K H v a b ∧ ∀ H', Ex H H' → Q (.bl (decide (isN a b))) H'
theorem ok_is_number (T : Txt K w mg ad fd) : Cal P w K mg base CX0 1 "is_number" (ad 11) (fd 11) ["x"] [] [] (sp_is_number K) := by
  refine ⟨T.f_is_number.ok sc_is_number (fun vs H Q E h => ?_) (fun cdv A outer s H vs Q E hr h => ?_), T.g_is_number, T.f_is_number.kp, T.f_is_number.binds (ps := ["x"]) fun _ _ _ _ _ _ us hl => match us, hl with | [_], _ => rfl, .nil⟩
  · obtain ⟨v, a, b, rfl, _⟩ := h
    rfl
  · obtain ⟨v, a, b, rfl, ⟨p, rfl, hp⟩, q⟩ := h
    refine ⟨_, (pss_cons (ps_asg (pv 0) (pg_tup (n := 2) rfl (pgs_cons (pg_name (i := 1) sc_is_number.nd rfl (by first | exact Or.inl rfl | exact Or.inr rfl)) (pgs_cons (pg_name (i := 2) sc_is_number.nd rfl (by first | exact Or.inl rfl | exact Or.inr rfl)) pgs_nil))))
    (pss_one (ps_ret (pe_and (pe_cmpR op_ge (pv 2) pe_int (nomark _)) (pe_one (pe_cmpR op_eq (pe_callBfun cr_gcd rfl T.g_gcd (pa_cons (pv 1) (pa_cons (pv 2) pa_nil))) pe_int (nomark _))))))), ?_⟩
    walk_at "go"
    refine ⟨[V.int a, V.int b], hp, rfl, _, _, rfl, ?_⟩
    walk_at "go"
    have q := q H (Ex.refl H)
    by_cases h1 : 1 ≤ b
    · rw [if_pos h1]
      have e : decide ((a.natAbs.gcd b.natAbs : Int) = 1) = decide (isN a b) := by
        unfold isN Int.gcd
        by_cases h2 : a.natAbs.gcd b.natAbs = 1 <;> simp [h1, h2] <;> omega
      rw [e]
      exact q
    · rw [if_neg h1]
      rw [decide_eq_false (fun z => h1 z.1)] at q
      exact q
/-- raises the error of the class at c, or hands back None -/
def sp_check_number (K : PySem.W.Frag) (c : Addr) : Sp := fun vs H Q E => ∃ v a b, vs = [v] ∧ Num K H v a b ∧ (isN a b → ∀ H', Ex H H' → Q .non H') ∧ (¬ isN a b → ∀ H', Ex H H' → E (.ref c) none H')
theorem ok_check_number (T : Txt K w mg ad fd) : Cal P w K mg base (L2N.CX P w) 2 "check_number" (ad 12) (fd 12) ["x"] [] [] (sp_check_number K (ad 4)) := by
  refine ⟨T.f_check_number.okXN sc_check_number (fun vs H Q E h => ?_) (fun cdv A outer s H vs Q E hr h => ?_), T.g_check_number, T.f_check_number.kp, T.f_check_number.binds (ps := ["x"]) fun _ _ _ _ _ _ us hl => match us, hl with | [_], _ => rfl, .nil⟩
  · obtain ⟨v, a, b, rfl, _⟩ := h
    rfl
  · obtain ⟨v, a, b, rfl, hp, q1, q2⟩ := h
    refine ⟨_, (pss_one (ps_if (pt_not (pt_val (pe_cal (ok_is_number T (P := P) (w := w) (base := base)) (hr.mono (by decide)) pass0 (pa_cons (pv 0) pa_nil)))) (pss_one (L2N.ps_raise rfl (L2N.takes_of rfl rfl rfl rfl) (L2N.pmk_own PySem.F.excBase_ValueError T.x_NotNumber T.g_NotNumber T.k_NotNumber (raises_own T.s_NotNumber T.t_NotNumber) rfl))) pss_nil)), ?_⟩
    walk_at "go"
    refine ⟨v, a, b, rfl, hp, fun H1 e1 => ⟨_, rfl, ?_⟩⟩
    by_cases hn : isN a b
    · rw [decide_eq_true hn]
      exact q1 hn H1 e1
    · rw [decide_eq_false hn]
      exact q2 hn H1 e1
/-- a over b in lowest terms, b below the bar above 0 -/
def sg (a b : Int) : Int := if b < 0 then -((a.natAbs.gcd b.natAbs : Nat) : Int) else ((a.natAbs.gcd b.natAbs : Nat) : Int)
def nrm (a b : Int) : Int × Int := (a.fdiv (sg a b), b.fdiv (sg a b))
theorem sg_ne {a b : Int} (h : b ≠ 0) : sg a b ≠ 0 := by
  have : a.natAbs.gcd b.natAbs ≠ 0 := fun z => h (by have := (Nat.gcd_eq_zero_iff.mp z).2; omega)
  unfold sg
  split <;> omega
theorem sg_abs (a b : Int) : (sg a b).natAbs = a.natAbs.gcd b.natAbs := by
  unfold sg
  split <;> omega
theorem sg_small {a b : Int} (h : b ≠ 0) (hb : b.natAbs < 2 ^ 8000) : (sg a b).natAbs.log2 < 9000 := by
  have h1 : a.natAbs.gcd b.natAbs ≤ b.natAbs := Nat.gcd_le_right _ (by omega)
  rw [sg_abs]
  have h3 : a.natAbs.gcd b.natAbs ≠ 0 := fun z => h (by have := (Nat.gcd_eq_zero_iff.mp z).2; omega)
  have h4 := (Nat.log2_lt h3 (k := 8000)).mpr (Nat.lt_of_le_of_lt h1 hb)
  omega
def qNumber (K : PySem.W.Frag) (cB : Addr) (a b : Int) (H : Hp) (Q : VK) (E : XK) : Prop :=
  (b = 0 → ∀ H', Ex H H' → E (.ref cB) none H') ∧ (b ≠ 0 → ∀ H' v, Ex H H' → Num K H' v (nrm a b).1 (nrm a b).2 → Q v H')
theorem qNumber.mono {K : PySem.W.Frag} {cB : Addr} {a b : Int} {H H' : Hp} {Q : VK} {E : XK} (e : Ex H H') (q : qNumber K cB a b H Q E) : qNumber K cB a b H' Q E :=
  ⟨fun z H2 e2 => q.1 z H2 (e.trans e2), fun z H2 v e2 => q.2 z H2 v (e.trans e2)⟩
theorem mul_ok {x y : Int} (hx : x.natAbs < 2 ^ 3000) (hy : y.natAbs < 2 ^ 3000) : CMulW x y := wide_mul hx hy (by decide) (by decide) (by decide)
theorem mul_lt {x y : Int} (hx : x.natAbs < 2 ^ 3000) (hy : y.natAbs < 2 ^ 3000) : (x * y).natAbs < 2 ^ 8000 := Nat.lt_of_lt_of_le (wide_lt hx hy) (Nat.pow_le_pow_right (by decide) (by decide))
theorem rix0 {K : PySem.W.Frag} {H : Hp} {v : V} {a b : Int} {Q : VK} (n : Num K H v a b) (q : Q (.int a) H) : rIxT K v (.int 0) H Q := by
  obtain ⟨p, rfl, hp⟩ := n
  exact ⟨p, _, 0, _, rfl, rfl, hp, rfl, q⟩
theorem rix1 {K : PySem.W.Frag} {H : Hp} {v : V} {a b : Int} {Q : VK} (n : Num K H v a b) (q : Q (.int b) H) : rIxT K v (.int 1) H Q := by
  obtain ⟨p, rfl, hp⟩ := n
  exact ⟨p, _, 1, _, rfl, rfl, hp, rfl, q⟩
/-! ### planes, points: what they are -/
theorem hu65 {A : Around} {k : Nat} (hr : Room k A) : A.units + 65 < cLine := by
  have := hr.un
  omega
def gl (zs : List Int) : Nat := zs.foldl (fun g a => g.gcd a.natAbs) 0
def PlV (K : PySem.W.Frag) (H : Hp) (v : V) (zs : List Int) : Prop := ∃ p, v = .ref p ∧ SqT K H p (zs.map V.int)
theorem PlV.mono {K : PySem.W.Frag} {H H' : Hp} {v : V} {zs : List Int} (e : Ex H H') (h : PlV K H v zs) : PlV K H' v zs :=
  have ⟨p, h1, h2⟩ := h
  ⟨p, h1, ex_t e h2⟩
def Pl (n : Nat) (zs : List Int) : Prop := zs.length = n + 1 ∧ (∀ z ∈ zs, -1000 ≤ z ∧ z ≤ 1000) ∧ (∃ z ∈ zs.take n, z ≠ 0) ∧ gl zs = 1
instance (n : Nat) (zs : List Int) : Decidable (Pl n zs) := inferInstanceAs (Decidable (_ ∧ _))
theorem int_at {ns : List Int} {i : Nat} {x : V} (h : (ns.map V.int)[i]? = some x) : ∃ z, x = .int z ∧ ns[i]? = some z := by
  rw [List.getElem?_map] at h
  cases e : ns[i]? with
  | none =>
    rw [e] at h
    cases h
  | some z =>
    rw [e] at h
    exact ⟨z, (Option.some.inj h).symm, rfl⟩
/-! ### the common divisor of a row, be it a list or a tuple; a row without a common divisor -/
theorem gl_one {zs : List Int} {k : Nat} (h : gl (zs.take k) = 1) : gl zs = 1 := by
  rw [← List.take_append_drop k zs]
  unfold gl at h ⊢
  rw [List.foldl_append, h]
  generalize zs.drop k = ys
  induction ys with
  | nil => rfl
  | cons y ys ih =>
    rw [List.foldl_cons, Nat.gcd_one_left]
    exact ih
theorem offN {S : Src} : offl none S := by
  cases S <;> first | exact (fun z => nomatch z) | trivial
theorem src_ex {K : PySem.W.Frag} {H H' : Hp} {S : Src} {xs : List V} (e : Ex H H') (h : S.at K H xs) : S.at K H' xs := Src.exo (l := none) offN (Exo.of e) h
def sp_content (K : PySem.W.Frag) : Sp := fun vs H Q _ => ∃ S zs, vs = [Src.v S] ∧ S.sq ∧ S.at K H (zs.map V.int) ∧ ∀ H', Ex H H' → Q (.int (gl zs : Nat)) H'
theorem ok_content (T : Txt K w mg ad fd) : Cal P w K mg base CX0 1 "content" (ad 13) (fd 13) ["integers"] [] [] (sp_content K) := by
  refine ⟨T.f_content.ok sc_content (fun vs H Q E h => ?_) (fun cdv A outer s H vs Q E hr h => ?_), T.g_content, T.f_content.kp, T.f_content.binds (ps := ["integers"]) fun _ _ _ _ _ _ us hl => match us, hl with | [_], _ => rfl, .nil⟩
  · obtain ⟨S, zs, rfl, _⟩ := h
    rfl
  · obtain ⟨S, zs, rfl, hs, hp, q⟩ := h
    refine ⟨_, (pss_cons (ps_set (i := 1) sc_content.nd rfl (by first | exact Or.inl rfl | exact Or.inr rfl) pe_int)
    (pss_cons (ps_for (by first | exact PassesOwn.never | exact passes_of rfl) rfl (pi_src (pv 0)) (pg_name (i := 2) sc_content.nd rfl (by first | exact Or.inl rfl | exact Or.inr rfl))
      (pss_cons (ps_set (i := 1) sc_content.nd rfl (by first | exact Or.inl rfl | exact Or.inr rfl) (pe_callBfun cr_gcd rfl T.g_gcd (pa_cons (pv 1) (pa_cons (pv 2) pa_nil))))
    (pss_one (ps_if (pt_cmpR op_eq (pv 1) pe_int (nomark _)) (pss_one (ps_ret pe_int)) pss_nil))))
    (pss_one (ps_ret (pv 1))))), ?_⟩
    refine ⟨S.v, rfl, S, rfl, hs, ⟨_, hp⟩, for_wk (wk_src (l := none) hs offN hp) (fun i σ H' => ∃ c, σ = [some S.v, some (.int ((gl (zs.take i) : Nat) : Int)), c] ∧ Ex H H') ⟨none, rfl, Ex.refl _⟩ (fun i σ H' ⟨_, _, e⟩ => Exo.of e) (fun i σ H1 H2 e ⟨c, h, e1⟩ => ⟨c, h, e1.trans e⟩) ?_ ?_⟩
    · rintro i x σ H1 hi hx ⟨c, rfl, e⟩
      obtain ⟨z, rfl, hz⟩ := int_at hx
      refine ⟨_, rfl, _, rfl, _, _, rfl, ?_⟩
      have e1 : gl (zs.take (i + 1)) = (gl (zs.take i)).gcd z.natAbs := by
        unfold gl
        rw [List.take_add_one, hz, List.foldl_append]
        rfl
      have e2 : ((((gl (zs.take i) : Nat) : Int).natAbs.gcd z.natAbs : Nat) : Int) = ((gl (zs.take (i + 1)) : Nat) : Int) := by
        rw [e1]
        rfl
      rw [e2]
      refine ⟨_, rfl, rfl, _, rfl, ite2 (fun y => ?_) (fun y => ?_)⟩
      · have y1 := V.int.inj (of_decide_eq_true y)
        have y2 : gl (zs.take (i + 1)) = 1 := by omega
        have := q H1 e
        rw [gl_one y2] at this
        exact this
      · exact ⟨some (.int z), rfl, e⟩
    · rintro σ H1 ⟨c, rfl, e⟩
      rw [List.length_map, List.take_length]
      exact ⟨_, rfl, q H1 e⟩
def neg (zs : List Int) : List Int := zs.map fun z => -z
def sp_negated (K : PySem.W.Frag) : Sp := fun vs H Q _ => ∃ v zs, vs = [v] ∧ PlV K H v zs ∧ zs.length ≤ 1000 ∧ ∀ H' v', Ex H H' → PlV K H' v' (neg zs) → Q v' H'
theorem ok_negated (T : Txt K w mg ad fd) : Cal P w K mg base CX0 1 "negated" (ad 16) (fd 16) ["integers"] [] [] (sp_negated K) := by
  refine ⟨T.f_negated.ok sc_negated (fun vs H Q E h => ?_) (fun cdv A outer s H vs Q E hr h => ?_), T.g_negated, T.f_negated.kp, T.f_negated.binds (ps := ["integers"]) fun _ _ _ _ _ _ us hl => match us, hl with | [_], _ => rfl, .nil⟩
  · obtain ⟨v, zs, rfl, _⟩ := h
    rfl
  · obtain ⟨v, zs, rfl, ⟨p, rfl, hp⟩, hz, q⟩ := h
    refine ⟨_, (pss_one (ps_ret (pe_callTy (T := "tuple") call_tuple_of (by rfl) T.m_tuple (by decide +kernel) (pa_cons (pe_lc (own := [("a", 1)]) rfl sc_negated.nd (pi_tup (pv 0)) (blkOk_by (N := ["integers", "a"]) (sc := defScope s_negated) (by decide +kernel)) (fun _ _ _ _ _ => (pg_name (i := 1) sc_negated.nd rfl (by first | exact Or.inl rfl | exact Or.inr rfl))) (fun _ _ _ _ _ => pts_nil) (fun _ _ _ _ _ => (pe_un un_neg (pv 1)))) pa_nil)))), ?_⟩
    refine ⟨.ref p, rfl, p, rfl, ⟨_, hp⟩, fun D hD => ?_⟩
    have sz : sizeLine = 16777216 := sizeLine_eq
    refine lc_acc (l := none) (wk_tup (fun z => nomatch z) hp) hD (fun i ys _ => ys = ((neg zs).take i).map V.int) rfl (fun _ _ _ _ _ h => h) ?_ ?_
    · rintro i x H1 ys hi e hy hl rfl hx
      obtain ⟨z, rfl, hz'⟩ := int_at hx
      refine ⟨rfl, ?_⟩
      refine ⟨_, rfl, z, rfl, LcP.push hD e hy hl (by rw [List.length_map] at hi; omega) ?_⟩
      unfold neg
      rw [List.take_add_one, List.getElem?_map, hz', List.map_append]
      rfl
    · rintro H1 ys e hy rfl
      rw [List.length_map, show zs.length = (neg zs).length by unfold neg; rw [List.length_map], List.take_length] at hy
      refine ⟨D, _, rfl, .inl ⟨SqL.of hy, fun p' hp' => q _ _ (e.ex.trans (Ex.new hp')) ⟨p', rfl, SqT.of upd_same⟩⟩⟩
def dot (xs ys : List Int) : Int := (List.zipWith (fun a b => a * b) xs ys).sum
def sp_whole_product (K : PySem.W.Frag) : Sp := fun vs H Q _ => ∃ v r xs ys, vs = [v, .ref r] ∧ PlV K H v xs ∧ SqL K H r (ys.map V.int) ∧ xs.length ≤ 1000 ∧ (∀ z ∈ xs, z.natAbs < 2 ^ 3000) ∧ (∀ z ∈ ys, z.natAbs < 2 ^ 3000) ∧ ∀ H', Ex H H' → Q (.int (dot xs ys)) H'
theorem ok_whole_product (T : Txt K w mg ad fd) : Cal P w K mg base CX0 1 "whole_product" (ad 22) (fd 22) ["one", "other"] [] [] (sp_whole_product K) := by
  refine ⟨T.f_whole_product.ok sc_whole_product (fun vs H Q E h => ?_) (fun cdv A outer s H vs Q E hr h => ?_), T.g_whole_product, T.f_whole_product.kp, T.f_whole_product.binds (ps := ["one", "other"]) fun _ _ _ _ _ _ us hl => match us, hl with | [_, _], _ => rfl, .nil⟩
  · obtain ⟨v, r, xs, ys, rfl, _⟩ := h
    rfl
  · obtain ⟨v, r, xs, ys, rfl, ⟨p, rfl, hp⟩, hr', hz, bx, bY, q⟩ := h
    refine ⟨_, (pss_one (ps_ret (pe_callB (cr_sum rfl) (by rfl) T.m_sum (by decide +kernel) (pa_cons (pe_lc (own := [("a", 2), ("b", 3)]) (g := gTup K 2 (gCons (gName 2) (gCons (gName 3) gNil))) rfl sc_whole_product.nd (pi_zipS (by rfl) T.m_zip (pa_cons (pv 0) (pa_cons (pv 1) pa_nil))) (blkOk_by (N := ["one", "other", "a", "b"]) (sc := defScope s_whole_product) (by decide +kernel)) (fun _ _ _ _ _ => (pg_tup (n := 2) rfl (pgs_cons (pg_name (i := 2) sc_whole_product.nd rfl (by first | exact Or.inl rfl | exact Or.inr rfl)) (pgs_cons (pg_name (i := 3) sc_whole_product.nd rfl (by first | exact Or.inl rfl | exact Or.inr rfl)) pgs_nil)))) (fun _ _ _ _ _ => pts_nil) (fun _ _ _ _ _ => (pe_op op_mulW (pv 2) (pv 3)))) pa_nil)))), ?_⟩
    have sz : sizeLine = 16777216 := sizeLine_eq
    refine ⟨_, rfl, _, rfl, .tup p, .lst r, _, _, rfl, hp, hr', fun D hD => ?_⟩
    refine lc_acc (l := none) (wk_zip (S1 := .tup p) (S2 := .lst r) (fun z => nomatch z) (fun z => nomatch z) hp hr') hD (fun i acc _ => acc = ((List.zipWith (fun a b => a * b) xs ys).take i).map V.int) rfl (fun _ _ _ _ _ h => h) ?_ ?_
    · rintro i x H1 acc hi e hy hl rfl ⟨T', x', y', rfl, hT', hx, hy'⟩
      obtain ⟨a, rfl, ha⟩ := int_at hx
      obtain ⟨b, rfl, hb⟩ := int_at hy'
      refine ⟨T', _, rfl, SqT.of hT', rfl, ?_⟩
      refine ⟨_, _, rfl, _, _, rfl, rfl, rfl, ?_⟩
      refine ⟨_, rfl, _, rfl, a, b, rfl, rfl, mul_ok (bx a (List.mem_of_getElem? ha)) (bY b (List.mem_of_getElem? hb)), LcP.push hD e hy hl (by rw [List.length_map] at hi; omega) ?_⟩
      rw [List.take_add_one, List.getElem?_zipWith, ha, hb, List.map_append]
      rfl
    · rintro H1 acc e hy rfl
      rw [List.length_map, List.length_map, ← List.length_zipWith (f := fun a b : Int => a * b), List.take_length] at hy
      exact ⟨D, _, rfl, SqL.of hy, q H1 e.ex⟩
/-! ### points -/
def All2 {α : Type} (R : V → α → Prop) (vs : List V) (xs : List α) : Prop := vs.length = xs.length ∧ ∀ (i : Nat) (v : V) (x : α), vs[i]? = some v → xs[i]? = some x → R v x
theorem All2.get {α : Type} {R : V → α → Prop} {vs : List V} {xs : List α} (h : All2 R vs xs) {i : Nat} {v : V} (e : vs[i]? = some v) : ∃ x, xs[i]? = some x ∧ R v x := by
  have hi : i < vs.length := (List.getElem?_eq_some_iff.mp e).1
  have hx : xs[i]? = some (xs[i]'(h.1 ▸ hi)) := List.getElem?_eq_getElem _
  exact ⟨_, hx, h.2 i v _ e hx⟩
theorem All2.imp {α : Type} {R R' : V → α → Prop} {vs : List V} {xs : List α} (h : All2 R vs xs) (f : ∀ v x, R v x → R' v x) : All2 R' vs xs := ⟨h.1, fun i v x a b => f v x (h.2 i v x a b)⟩
theorem All2.nil {α : Type} {R : V → α → Prop} : All2 R [] ([] : List α) := ⟨rfl, fun i v x h => by simp at h⟩
theorem All2.cons {α : Type} {R : V → α → Prop} {v : V} {x : α} {vs : List V} {xs : List α} (a : R v x) (h : All2 R vs xs) : All2 R (v :: vs) (x :: xs) := by
  refine ⟨by rw [List.length_cons, List.length_cons, h.1], fun i u y hu hy => ?_⟩
  cases i with
  | zero =>
    cases hu
    cases hy
    exact a
  | succ i => exact h.2 i u y hu hy
theorem All2.app {α : Type} {R : V → α → Prop} {vs ws : List V} {xs ys : List α} (a : All2 R vs xs) (b : All2 R ws ys) : All2 R (vs ++ ws) (xs ++ ys) := by
  induction vs generalizing xs with
  | nil =>
    have : xs = [] := by
      have := a.1
      cases xs with
      | nil => rfl
      | cons _ _ => simp at this
    subst this
    exact b
  | cons v vs ih =>
    cases xs with
    | nil => have := a.1; simp at this
    | cons x xs =>
      have h0 : R v x := a.2 0 v x rfl rfl
      have h1 : All2 R vs xs := ⟨by have := a.1; simpa using this, fun i u y hu hy => a.2 (i + 1) u y hu hy⟩
      exact .cons h0 (ih h1)
theorem All2.set {α : Type} {R : V → α → Prop} {vs : List V} {xs : List α} (h : All2 R vs xs) {j : Nat} {v : V} {x : α} (r : R v x) : All2 R (vs.set j v) (xs.set j x) := by
  refine ⟨by rw [List.length_set, List.length_set, h.1], fun i u y hu hy => ?_⟩
  by_cases e : j = i
  · subst e
    have h1 := (List.getElem?_eq_some_iff.mp hu).1
    have h2 := (List.getElem?_eq_some_iff.mp hy).1
    rw [List.length_set] at h1 h2
    rw [List.getElem?_set_self h1] at hu
    rw [List.getElem?_set_self h2] at hy
    cases hu
    cases hy
    exact r
  · rw [List.getElem?_set_ne e] at hu hy
    exact h.2 i u y hu hy
abbrev NumR (K : PySem.W.Frag) (H : Hp) : V → Int × Int → Prop := fun v x => Num K H v x.1 x.2
def PtV (K : PySem.W.Frag) (H : Hp) (v : V) (ps : List (Int × Int)) : Prop := ∃ p vs, v = .ref p ∧ SqT K H p vs ∧ All2 (NumR K H) vs ps
theorem PtV.mono {K : PySem.W.Frag} {H H' : Hp} {v : V} {ps : List (Int × Int)} (e : Ex H H') (h : PtV K H v ps) : PtV K H' v ps :=
  have ⟨p, vs, h1, h2, h3⟩ := h
  ⟨p, vs, h1, ex_t e h2, h3.imp fun _ _ n => n.mono e⟩
def ptN (ps : List (Int × Int)) : Prop := ∀ x ∈ ps, isN x.1 x.2
instance (ps : List (Int × Int)) : Decidable (ptN ps) := inferInstanceAs (Decidable (∀ _ ∈ _, _))
def PtOk (ps : List (Int × Int)) : Prop := ps.length ≤ 4 ∧ ∀ x ∈ ps, isN x.1 x.2 ∧ x.1.natAbs ≤ 30 ∧ x.2 ≤ 12
theorem PtOk.n {ps : List (Int × Int)} (h : PtOk ps) : ptN ps := fun x hx => (h.2 x hx).1
theorem tyx_tup {K : PySem.W.Frag} {H : Hp} {p : Addr} {xs : List V} (h : SqT K H p xs) : TyX K H (.ref p) (.type "tuple") := by
  rcases h with (h | ⟨o, h⟩) | ⟨o, its, n, h, c, _⟩
  · exact .base (.tup h)
  · exact .fTuple h
  · exact .kTuple h c
def sp_is_number_row (K : PySem.W.Frag) : Sp := fun vs H Q _ => ∃ (n : Int) (v : V) (ps : List (Int × Int)), vs = [.int n, v] ∧ PtV K H v ps ∧ ps.length ≤ 1000 ∧ ∀ H', Ex H H' → Q (.bl (decide ((ps.length : Int) = n ∧ ptN ps))) H'
theorem ok_is_number_row (T : Txt K w mg ad fd) : Cal P w K mg base CX0 2 "is_number_row" (ad 18) (fd 18) ["width", "row"] [] [] (sp_is_number_row K) := by
  refine ⟨T.f_is_number_row.ok sc_is_number_row (fun vs H Q E h => ?_) (fun cdv A outer s H vs Q E hr h => ?_), T.g_is_number_row, T.f_is_number_row.kp, T.f_is_number_row.binds (ps := ["width", "row"]) fun _ _ _ _ _ _ us hl => match us, hl with | [_, _], _ => rfl, .nil⟩
  · obtain ⟨n, v, ps, rfl, _⟩ := h
    rfl
  · obtain ⟨n, v, ps, rfl, ⟨p, vs, rfl, hp, hv⟩, hl, q⟩ := h
    refine ⟨_, (pss_one (ps_ret (pe_and (pe_callB call_isi (by rfl) T.m_isinstance (by decide +kernel) (pa_cons (pv 1) (pa_cons (pe_bltn (by rfl) T.m_tuple (v := .ty "tuple") (u := .type "tuple") rfl rfl) pa_nil))) (pe_and (pe_cmpR op_eq (pe_callB call_len_seq (by rfl) T.m_len PySem.boot_len (pa_cons (pv 1) pa_nil)) (pv 0) (nomark _)) (pe_one (pe_callB (cr_all rfl) (by rfl) T.m_all (by decide +kernel) (pa_cons (pe_lc (own := [("x", 2)]) rfl sc_is_number_row.nd (pi_tup (pv 1)) (blkOk_by (N := ["width", "row", "x"]) (sc := defScope s_is_number_row) (by decide +kernel)) (fun _ _ _ _ _ => (pg_name (i := 2) sc_is_number_row.nd rfl (by first | exact Or.inl rfl | exact Or.inr rfl))) (fun _ _ _ _ _ => pts_nil) (fun _ _ _ _ _ => (pe_cal (ok_is_number T (P := P) (w := w) (base := base)) (hr.mono (by decide)) pass0 (pa_cons (pv 2) pa_nil)))) pa_nil))))))), ?_⟩
    have sz : sizeLine = 16777216 := sizeLine_eq
    refine ⟨_, rfl, .ref p, .ty "tuple", .type "tuple", .type "tuple", true, rfl, .ty "tuple", tyx_tup hp, kit_ty (by decide +kernel), true, rfl, ?_⟩
    rw [if_pos rfl]
    refine ⟨_, rfl, p, vs, rfl, .inr hp, _, rfl, rfl, _, rfl, ?_⟩
    by_cases hn : (vs.length : Int) = n
    · rw [decide_eq_true (show V.int (vs.length : Int) = V.int n by rw [hn])]
      refine iteT ⟨_, rfl, p, rfl, ⟨_, hp⟩, fun D hD => ?_⟩
      refine lc_acc (l := none) (wk_tup (fun z => nomatch z) hp) hD (fun i acc _ => acc = ((ps.map fun x => decide (isN x.1 x.2)).take i).map V.bl) rfl (fun _ _ _ _ _ h => h) ?_ ?_
      · rintro i x H1 acc hi e hy hl' rfl hx
        obtain ⟨⟨a, b⟩, hab, nm⟩ := hv.get hx
        refine ⟨rfl, ?_⟩
        refine ⟨_, rfl, x, a, b, rfl, nm.mono e.ex, fun H2 e2 => ?_⟩
        refine LcP.push hD (e.trans (Exo.of e2)) (e2 _ _ hy) hl' (by have := hv.1; omega) ?_
        rw [List.take_add_one, List.getElem?_map, hab, List.map_append]
        rfl
      · rintro H1 acc e hy rfl
        rw [hv.1, ← List.length_map (f := fun x : Int × Int => decide (isN x.1 x.2)), List.take_length] at hy
        refine ⟨D, _, rfl, SqL.of hy, ?_⟩
        have hd : (List.map (fun x : Int × Int => decide (isN x.1 x.2)) ps).all id = decide ((ps.length : Int) = n ∧ ptN ps) := by
          rw [List.all_map]
          have h1 : (ps.length : Int) = n := by rw [← hn, hv.1]
          by_cases hp' : ptN ps
          · rw [decide_eq_true ⟨h1, hp'⟩, List.all_eq_true]
            exact fun x hx => decide_eq_true (hp' x hx)
          · rw [decide_eq_false (fun z => hp' z.2)]
            refine Bool.eq_false_iff.mpr fun z => hp' fun x hx => ?_
            exact of_decide_eq_true (List.all_eq_true.mp z x hx)
        rw [hd]
        exact q H1 e.ex
    · rw [decide_eq_false (show ¬ V.int (vs.length : Int) = V.int n from fun z => hn (V.int.inj z))]
      refine iteF ?_
      have := q H (Ex.refl H)
      rw [decide_eq_false (fun z => hn (by rw [hv.1]; exact z.1))] at this
      exact this
/-! ### one divisor for all -/
def overQ (K : PySem.W.Frag) (ps : List (Int × Int)) (H' : Hp) (t q : Addr) (ws : List Int) (D : Int) : Prop :=
  SqT K H' t [.ref q, .int D] ∧ H' q = some (.lst (ws.map V.int)) ∧ 1 ≤ D ∧ D ≤ 20736 ∧ ws.length = ps.length ∧ ∀ (i : Nat) (x : Int × Int) (y : Int), ps[i]? = some x → ws[i]? = some y → y * x.2 = x.1 * D
def sp_over_one_divisor (K : PySem.W.Frag) : Sp := fun vs H Q _ => ∃ (v : V) (ps : List (Int × Int)), vs = [v] ∧ PtV K H v ps ∧ PtOk ps ∧ ∀ H' t q ws D, Ex H H' → overQ K ps H' t q ws D → Q (.ref t) H'
theorem pow4 {i : Nat} (h : i ≤ 4) : (12 : Int) ^ i ≤ 20736 := by
  have : i = 0 ∨ i = 1 ∨ i = 2 ∨ i = 3 ∨ i = 4 := by omega
  rcases this with rfl | rfl | rfl | rfl | rfl <;> decide
theorem ok_over_one_divisor (T : Txt K w mg ad fd) : Cal P w K mg base CX0 3 "over_one_divisor" (ad 15) (fd 15) ["row"] [] [] (sp_over_one_divisor K) := by
  refine ⟨T.f_over_one_divisor.ok sc_over_one_divisor (fun vs H Q E h => ?_) (fun cdv A outer s H vs Q E hr h => ?_), T.g_over_one_divisor, T.f_over_one_divisor.kp, T.f_over_one_divisor.binds (ps := ["row"]) fun _ _ _ _ _ _ us hl => match us, hl with | [_], _ => rfl, .nil⟩
  · obtain ⟨v, ps, rfl, _⟩ := h
    rfl
  · obtain ⟨v, ps, rfl, ⟨p, vs, rfl, hp, hv⟩, hok, q⟩ := h
    refine ⟨_, (pss_cons (ps_set (i := 1) sc_over_one_divisor.nd rfl (by first | exact Or.inl rfl | exact Or.inr rfl) pe_int)
    (pss_cons (ps_for (by first | exact PassesOwn.never | exact passes_of rfl) rfl (pi_tup (pv 0)) (pg_name (i := 2) sc_over_one_divisor.nd rfl (by first | exact Or.inl rfl | exact Or.inr rfl))
      (pss_cons (ps_expr (pe_cal (ok_check_number T (P := P) (w := w) (base := base)) (hr.mono (by decide)) passLN (pa_cons (pv 2) pa_nil)))
    (pss_one (ps_set (i := 1) sc_over_one_divisor.nd rfl (by first | exact Or.inl rfl | exact Or.inr rfl) (pe_callBfun cr_lcm rfl T.g_lcm (pa_cons (pv 1) (pa_cons (pe_ix (ix_tupK (K := K)) (pv 2) pe_int (fun _ _ => rfl)) pa_nil)))))))
    (pss_one (ps_ret (pe_tup (pa_cons (pe_lc (own := [("x", 2)]) rfl sc_over_one_divisor.nd (pi_tup (pv 0)) (blkOk_by (N := ["row", "divisor", "x"]) (sc := defScope s_over_one_divisor) (by decide +kernel)) (fun _ _ _ _ _ => (pg_name (i := 2) sc_over_one_divisor.nd rfl (by first | exact Or.inl rfl | exact Or.inr rfl))) (fun _ _ _ _ _ => pts_nil) (fun _ _ _ _ _ => (pe_op op_mulW (pe_ix (ix_tupK (K := K)) (pv 2) pe_int (fun _ _ => rfl)) (pe_op op_fdivG (pv 1) (pe_ix (ix_tupK (K := K)) (pv 2) pe_int (fun _ _ => rfl)))))) (pa_cons (pv 1) pa_nil))))))), ?_⟩
    have sz : sizeLine = 16777216 := sizeLine_eq
    refine ⟨.ref p, rfl, p, rfl, ⟨_, hp⟩, for_tup (K := K) (a := p) (xs := vs) (fun i σ H' => ∃ (c : Option V) (D : Nat), σ = [some (.ref p), some (.int (D : Int)), c] ∧ Ex H H' ∧ 1 ≤ D ∧ (D : Int) ≤ 12 ^ i ∧ ∀ (j : Nat) (x : Int × Int), j < i → ps[j]? = some x → x.2 ∣ (D : Int))
      ⟨none, 1, rfl, Ex.refl _, by decide, by decide, fun j x h => absurd h (Nat.not_lt_zero _)⟩ (fun i σ H' _ ⟨_, _, _, e, _⟩ => ex_t e hp) ?_ ?_⟩
    · rintro i x σ H1 hi ⟨c, D, rfl, e, h1, hD, hdv⟩
      obtain ⟨⟨a, b⟩, hab, nm⟩ := hv.get hi
      obtain ⟨hn, ha6, hb4⟩ := hok.2 _ (List.mem_of_getElem? hab)
      have hb1 : 1 ≤ b := hn.1
      have hilt : i < 4 := by
        have := (List.getElem?_eq_some_iff.mp hab).1
        have := hok.1
        omega
      have hD4 := pow4 (i := i) (by omega)
      refine ⟨_, rfl, x, a, b, rfl, nm.mono e, fun _ H2 e2 => ?_, fun z => absurd hn z⟩
      obtain ⟨p1, rfl, hp1⟩ := nm.mono (e.trans e2)
      have big : (20736 : Nat) < 2 ^ 9000 := Nat.lt_of_lt_of_le (by decide : (20736 : Nat) < 2 ^ 15) (Nat.pow_le_pow_right (by decide) (by decide))
      refine ⟨_, rfl, _, rfl, p1, _, 1, _, rfl, rfl, hp1, rfl, _, _, rfl, ?_, ?_, ?_⟩
      · show D < 2 ^ 9000
        omega
      · show b.natAbs < 2 ^ 9000
        have hb4 : b ≤ 12 := hb4
        omega
      · have hbn : b.natAbs ≠ 0 := by omega
        refine ⟨some (.ref p1), D.lcm b.natAbs, rfl, e.trans e2, ?_, ?_, ?_⟩
        · exact Nat.lcm_pos h1 (by omega)
        · have h2 : D.lcm b.natAbs ≤ D * b.natAbs := lcm_le_mul _ _
          have h3 : D * b.natAbs ≤ D * 12 := Nat.mul_le_mul_left _ (by have hb4 : b ≤ 12 := hb4; omega)
          rw [Int.pow_succ]
          omega
        · intro j y hj hy
          by_cases hji : j < i
          · exact Int.dvd_trans (hdv j y hji hy) (Int.natCast_dvd_natCast.mpr (Nat.dvd_lcm_left _ _))
          · have : j = i := by omega
            subst this
            rw [hab] at hy
            cases hy
            exact Int.natAbs_dvd_natAbs.mp (by show b.natAbs ∣ (D.lcm b.natAbs); exact Nat.dvd_lcm_right _ _)
    · rintro σ H1 ⟨c, D, rfl, e, h1, hD, hdv⟩
      have hl4 := hok.1
      rw [hv.1] at hD hdv
      have hD4 : (D : Int) ≤ 20736 := Int.le_trans hD (pow4 hl4)
      refine ⟨_, rfl, p, rfl, ⟨_, ex_t e hp⟩, fun D' hD' => ?_⟩
      refine lc_acc (l := none) (wk_tup (fun z => nomatch z) (ex_t e hp)) hD' (fun i acc _ => acc = ((ps.map fun x => x.1 * ((D : Int) / x.2)).take i).map V.int) rfl (fun _ _ _ _ _ h => h) ?_ ?_
      · rintro i x H2 acc hi e2 hy hl' rfl hx
        obtain ⟨⟨a, b⟩, hab, nm⟩ := hv.get hx
        obtain ⟨hn, ha6, hb4⟩ := hok.2 _ (List.mem_of_getElem? hab)
        have hb1 : 1 ≤ b := hn.1
        obtain ⟨p1, rfl, hp1⟩ := nm.mono (e.trans e2.ex)
        refine ⟨rfl, ?_⟩
        have hq : ((D : Int).fdiv b) = (D : Int) / b := Int.fdiv_eq_ediv_of_nonneg _ (by omega)
        have hqs : ((D : Int) / b).natAbs ≤ 20736 := by
          have h0 : 0 ≤ (D : Int) / b := Int.ediv_nonneg (by omega) (by omega)
          have h1 : (D : Int) / b ≤ D := Int.ediv_le_self _ (by omega)
          omega
        have bg : (20736 : Nat) < 2 ^ 3000 := Nat.lt_of_lt_of_le (by decide : (20736 : Nat) < 2 ^ 15) (Nat.pow_le_pow_right (by decide) (by decide))
        refine ⟨_, rfl, p1, _, 0, _, rfl, rfl, hp1, rfl, _, rfl, _, rfl, p1, _, 1, _, rfl, rfl, hp1, rfl, _, _, rfl, rfl, ⟨by omega, ?_⟩, a, _, rfl, rfl, ?_, ?_⟩
        · have : b.natAbs.log2 ≤ 8 := PySem.W.mg_log (by have hb4 : b ≤ 12 := hb4; omega)
          show b.natAbs.log2 < 9000
          omega
        · rw [hq]
          have ha6 : a.natAbs ≤ 30 := ha6
          exact mul_ok (by omega) (by omega)
        · refine LcP.push hD' e2 hy hl' (by have := hv.1; omega) ?_
          rw [List.take_add_one, List.getElem?_map, hab, List.map_append, hq]
          rfl
      · rintro H2 acc e2 hy rfl
        rw [hv.1, ← List.length_map (f := fun x : Int × Int => x.1 * ((D : Int) / x.2)), List.take_length] at hy
        refine ⟨_, rfl, by show (2 : Nat) ≤ sizeLine; decide, fun t ht => ?_⟩
        refine q _ t D' _ D ((e.trans e2.ex).trans (Ex.new ht)) ⟨SqT.of upd_same, by rw [upd_ne (ne_of_none hy ht)]; exact hy, by omega, hD4, by rw [List.length_map], fun i x y hx hy' => ?_⟩
        rw [List.getElem?_map, hx] at hy'
        cases hy'
        have h2 := hdv i x ((List.getElem?_eq_some_iff.mp hx).1) hx
        show x.1 * ((D : Int) / x.2) * x.2 = x.1 * D
        rw [Int.mul_assoc, Int.ediv_mul_cancel h2]
/-! ### a part taken out: what is wanted behind it is said once -/
theorem cut {te : TE} {σ : L2.St} {H : Hp} {Q : VK} (P : V → Hp → Prop) (h : ∀ Q' : VK, (∀ v H', P v H' → Q' v H') → te σ H Q') (q : ∀ v H', P v H' → Q v H') : te σ H Q := h Q q
theorem scut {t u : TS} {D : Ends} {σ : L2.St} {H : Hp} (P : L2.St → Hp → Prop) (h : ∀ n : L2.St → Hp → Prop, (∀ σ' H', P σ' H' → n σ' H') → t { D with nx := n } σ H) (q : ∀ σ' H', P σ' H' → u D σ' H') : tSeq t u D σ H := h _ q
theorem gset {i : Nat} {v : V} {σ : L2.St} {H : Hp} {Q : L2.St → Hp → Prop} (h : Q (σ.set i (some v)) H) : gName i v σ H Q := h
theorem seqA {te : TE} {i : Nat} {t u : TS} {D : Ends} {σ : L2.St} {H : Hp} (h : te σ H fun v H1 => tSeq t u D (σ.set i (some v)) H1) : tSeq (tAsg te (gName i)) (tSeq t u) D σ H := h
theorem acut {te : TE} {i : Nat} {u : TS} {D : Ends} {σ : L2.St} {H : Hp} (P : V → Hp → Prop) (h : ∀ Q' : VK, (∀ v H', P v H' → Q' v H') → te σ H Q') (q : ∀ v H', P v H' → u D (σ.set i (some v)) H') : tSeq (tAsg te (gName i)) u D σ H := h _ q
theorem pow_up {x : Nat} {a b : Nat} (h : x < 2 ^ a) (hab : a ≤ b) : x < 2 ^ b := Nat.lt_of_lt_of_le h (Nat.pow_le_pow_right (by decide) hab)
/-! ### planes: checks -/
def sp_check_letters (cB : Addr) : Sp := fun vs H Q E => ∃ n : Int, vs = [.int n] ∧ (1 ≤ n ∧ n ≤ 4 → ∀ H', Ex H H' → Q .non H') ∧ (¬ (1 ≤ n ∧ n ≤ 4) → ∀ H', Ex H H' → E (.ref cB) none H')
theorem ok_check_letters (T : Txt K w mg ad fd) : Cal P w K mg base (L2N.CX P w) 1 "check_letters" (ad 29) (fd 29) ["n"] [] [] (sp_check_letters (ad 8)) := by
  refine ⟨T.f_check_letters.okXN sc_check_letters (fun vs H Q E h => ?_) (fun cdv A outer s H vs Q E hr h => ?_), T.g_check_letters, T.f_check_letters.kp, T.f_check_letters.binds (ps := ["n"]) fun _ _ _ _ _ _ us hl => match us, hl with | [_], _ => rfl, .nil⟩
  · obtain ⟨n, rfl, _⟩ := h
    rfl
  · obtain ⟨n, rfl, q1, q2⟩ := h
    obtain ⟨_, g_MOST_LETTERS⟩ := T.v_MOST_LETTERS
    refine ⟨_, (pss_one (ps_if (pt_not (pt_chain op_le op_le pe_int (pv 0) (pe_glob (v := .int 4) rfl g_MOST_LETTERS ⟨_, rfl⟩))) (pss_one (L2N.ps_raise rfl (L2N.takes_of rfl rfl rfl rfl) (L2N.pmk_own PySem.F.excBase_ValueError T.x_BadNumber T.g_BadNumber T.k_BadNumber (raises_own T.s_BadNumber T.t_BadNumber) rfl))) pss_nil)), ?_⟩
    refine ⟨_, rfl, _, _, rfl, rfl, _, rfl, ?_⟩
    refine ite2 (fun z => ?_) (fun z => ?_)
    · have z' : 1 ≤ n := of_decide_eq_true z
      refine ⟨_, _, rfl, rfl, _, rfl, ?_⟩
      by_cases h4 : n ≤ 4
      · rw [decide_eq_true h4]
        exact iteF (q1 ⟨z', h4⟩ H (Ex.refl H))
      · rw [decide_eq_false h4]
        exact iteT (q2 (fun z => h4 z.2) H (Ex.refl H))
    · have z' : ¬ 1 ≤ n := fun e => z (decide_eq_true e)
      refine ⟨_, rfl, iteT (q2 (fun z => z' z.1) H (Ex.refl H))⟩
def sp_check_point (K : PySem.W.Frag) (cB cP : Addr) : Sp := fun vs H Q E => ∃ (n : Int) (v : V) (ps : List (Int × Int)), vs = [.int n, v] ∧ PtV K H v ps ∧ ps.length ≤ 1000 ∧ (1 ≤ n ∧ n ≤ 4 → (ps.length : Int) = n ∧ ptN ps → ∀ H', Ex H H' → Q .non H') ∧
  (1 ≤ n ∧ n ≤ 4 → ¬ ((ps.length : Int) = n ∧ ptN ps) → ∀ H', Ex H H' → E (.ref cP) none H') ∧ (¬ (1 ≤ n ∧ n ≤ 4) → ∀ H', Ex H H' → E (.ref cB) none H')
theorem ok_check_point (T : Txt K w mg ad fd) : Cal P w K mg base (L2N.CX P w) 3 "check_point" (ad 31) (fd 31) ["n", "point"] [] [] (sp_check_point K (ad 8) (ad 5)) := by
  refine ⟨T.f_check_point.okXN sc_check_point (fun vs H Q E h => ?_) (fun cdv A outer s H vs Q E hr h => ?_), T.g_check_point, T.f_check_point.kp, T.f_check_point.binds (ps := ["n", "point"]) fun _ _ _ _ _ _ us hl => match us, hl with | [_, _], _ => rfl, .nil⟩
  · obtain ⟨n, v, ps, rfl, _⟩ := h
    rfl
  · obtain ⟨n, v, ps, rfl, hp, hl, q1, q2, q3⟩ := h
    refine ⟨_, (pss_cons (ps_expr (pe_cal (ok_check_letters T (P := P) (w := w) (base := base)) (hr.mono (by decide)) (L2N.passes_call (L2N.takes_of rfl rfl rfl rfl) fun _ _ _ _ h => h) (pa_cons (pv 0) pa_nil)))
    (pss_one (ps_if (pt_not (pt_val (pe_cal (ok_is_number_row T (P := P) (w := w) (base := base)) (hr.mono (by decide)) pass0 (pa_cons (pv 0) (pa_cons (pv 1) pa_nil))))) (pss_one (L2N.ps_raise rfl (L2N.takes_of rfl rfl rfl rfl) (L2N.pmk_own PySem.F.excBase_ValueError T.x_NotPoint T.g_NotPoint T.k_NotPoint (raises_own T.s_NotPoint T.t_NotPoint) rfl))) pss_nil))), ?_⟩
    refine ⟨_, rfl, n, rfl, fun hn H1 e1 => ?_, fun hn H1 e1 => q3 hn H1 e1⟩
    refine ⟨_, rfl, _, rfl, n, v, ps, rfl, hp.mono e1, hl, fun H2 e2 => ⟨_, rfl, ?_⟩⟩
    by_cases hd : (ps.length : Int) = n ∧ ptN ps
    · rw [decide_eq_true hd]
      exact q1 hn hd H2 (e1.trans e2)
    · rw [decide_eq_false hd]
      exact q2 hn hd H2 (e1.trans e2)
def sp_is_plane (K : PySem.W.Frag) : Sp := fun vs H Q _ => ∃ (n : Nat) (v : V) (zs : List Int), vs = [.int n, v] ∧ 1 ≤ n ∧ n ≤ 4 ∧ PlV K H v zs ∧ zs.length ≤ 1000 ∧ ∀ H', Ex H H' → Q (.bl (decide (Pl n zs))) H'
theorem ok_is_plane (T : Txt K w mg ad fd) : Cal P w K mg base CX0 2 "is_plane" (ad 30) (fd 30) ["n", "plane"] [] [] (sp_is_plane K) := by
  refine ⟨T.f_is_plane.ok sc_is_plane (fun vs H Q E h => ?_) (fun cdv A outer s H vs Q E hr h => ?_), T.g_is_plane, T.f_is_plane.kp, T.f_is_plane.binds (ps := ["n", "plane"]) fun _ _ _ _ _ _ us hl => match us, hl with | [_, _], _ => rfl, .nil⟩
  · obtain ⟨n, v, zs, rfl, _⟩ := h
    rfl
  · obtain ⟨n, v, zs, rfl, n1, n4, ⟨p, rfl, hp⟩, hz, q⟩ := h
    obtain ⟨_, g_MOST_ENTRY⟩ := T.v_MOST_ENTRY
    have sz : sizeLine = 16777216 := sizeLine_eq
    refine ⟨_, (pss_cons (ps_expr (pe_cal (ok_check_letters T (P := P) (w := w) (base := base)) (hr.mono (by decide)) passLN (pa_cons (pv 0) pa_nil)))
    (pss_one (ps_ret (pe_and (pe_cmpR op_eq (pe_callB call_len_seq (by rfl) T.m_len PySem.boot_len (pa_cons (pv 1) pa_nil)) (pe_op op_add (pv 0) pe_int) (nomark _)) (pe_and (pe_callB (cr_all rfl) (by rfl) T.m_all (by decide +kernel) (pa_cons (pe_lc (own := [("a", 2)]) rfl sc_is_plane.nd (pi_tup (pv 1)) (blkOk_by (N := ["n", "plane", "a"]) (sc := defScope s_is_plane) (by decide +kernel)) (fun _ _ _ _ _ => (pg_name (i := 2) sc_is_plane.nd rfl (by first | exact Or.inl rfl | exact Or.inr rfl))) (fun _ _ _ _ _ => pts_nil) (fun _ _ _ _ _ => (pe_chain op_le op_le (pe_un un_neg (pe_glob (v := .int 1000) rfl g_MOST_ENTRY ⟨_, rfl⟩)) (pv 2) (pe_glob (v := .int 1000) rfl g_MOST_ENTRY ⟨_, rfl⟩)))) pa_nil)) (pe_and (pe_callB (cr_any rfl) (by rfl) T.m_any (by decide +kernel) (pa_cons (pe_lc (own := [("a", 2)]) rfl sc_is_plane.nd (pi_tup (pe_slice (sl_tupK (K := K)) (pv 1) po_none (po_some (pv 0)))) (blkOk_by (N := ["n", "plane", "a"]) (sc := defScope s_is_plane) (by decide +kernel)) (fun _ _ _ _ _ => (pg_name (i := 2) sc_is_plane.nd rfl (by first | exact Or.inl rfl | exact Or.inr rfl))) (fun _ _ _ _ _ => pts_nil) (fun _ _ _ _ _ => (pe_cmpR op_ne (pv 2) pe_int (nomark _)))) pa_nil)) (pe_one (pe_cmpR op_eq (pe_cal (ok_content T (P := P) (w := w) (base := base)) (hr.mono (by decide)) pass0 (pa_cons (pv 1) pa_nil)) pe_int (nomark _))))))))), ?_⟩
    refine ⟨_, rfl, n, rfl, fun hn H1 e1 => ?_, fun hn => absurd (show 1 ≤ (n : Int) ∧ (n : Int) ≤ 4 by omega) hn⟩
    refine ⟨_, rfl, p, _, rfl, .inr (ex_t e1 hp), _, rfl, _, _, rfl, rfl, rfl, _, rfl, ?_⟩
    rw [List.length_map]
    by_cases hlen : zs.length = n + 1
    · rw [decide_eq_true (show V.int (zs.length : Int) = V.int ((n : Int) + 1) by rw [hlen]; rfl)]
      refine iteT ⟨_, rfl, p, rfl, ⟨_, ex_t e1 hp⟩, fun D hD => ?_⟩
      refine lc_acc (l := none) (wk_tup (fun z => nomatch z) (ex_t e1 hp)) hD (fun i acc _ => acc = ((zs.map fun z => decide (-1000 ≤ z ∧ z ≤ 1000)).take i).map V.bl) rfl (fun _ _ _ _ _ h => h) ?_ ?_
      · rintro i x H2 acc hi e2 hy hl' rfl hx
        obtain ⟨z, rfl, hz'⟩ := int_at hx
        refine ⟨rfl, ?_⟩
        have fin : ∀ b : Bool, b = decide (-1000 ≤ z ∧ z ≤ 1000) → ∃ acc', H2 D = some (.lst acc') ∧ acc'.length < sizeLine ∧ LcP none H1 D (fun i acc _ => acc = ((zs.map fun z => decide (-1000 ≤ z ∧ z ≤ 1000)).take i).map V.bl) (i + 1) (upd H2 D (.lst (acc' ++ [V.bl b]))) := fun b hb => by
          refine LcP.push hD e2 hy hl' (by rw [List.length_map] at hi; omega) ?_
          rw [List.take_add_one, List.getElem?_map, hz', List.map_append, hb]
          rfl
        refine ⟨_, rfl, _, rfl, _, _, rfl, rfl, _, rfl, ?_⟩
        refine ite2 (fun y => ?_) (fun y => ?_)
        · have y' : -1000 ≤ z := of_decide_eq_true y
          refine ⟨_, _, rfl, rfl, fin _ ?_⟩
          by_cases h1 : z ≤ 1000
          · rw [decide_eq_true h1, decide_eq_true ⟨y', h1⟩]
          · rw [decide_eq_false h1, decide_eq_false (fun q => h1 q.2)]
        · have y' : ¬ -1000 ≤ z := fun q => y (decide_eq_true q)
          exact fin _ (decide_eq_false (fun q => y' q.1)).symm
      · rintro H2 acc e2 hy rfl
        rw [List.length_map, ← List.length_map (f := fun z : Int => decide (-1000 ≤ z ∧ z ≤ 1000)), List.take_length] at hy
        refine ⟨D, _, rfl, SqL.of hy, ?_⟩
        have hp2 := ex_t (e1.trans e2.ex) hp
        by_cases hA : ∀ z ∈ zs, -1000 ≤ z ∧ z ≤ 1000
        · have ha : (zs.map fun z => decide (-1000 ≤ z ∧ z ≤ 1000)).all id = true := by
            rw [List.all_map, List.all_eq_true]
            exact fun z hz => decide_eq_true (hA z hz)
          rw [ha]
          refine ⟨_, rfl, iteT ?_⟩
          -- any
          have hct : cutV (zs.map V.int) none (some (n : Int)) = (zs.take n).map V.int := by
            unfold cutV
            rw [HT.sIx_none, HT.sIx_nat, List.drop_zero, List.length_map, List.map_take]
            congr 1
            omega
          have hne : ¬ (HT.sIx (zs.map V.int).length 0 none = 0 ∧ HT.sIx (zs.map V.int).length (zs.map V.int).length (some (n : Int)) = (zs.map V.int).length) := by
            rw [HT.sIx_nat, List.length_map]
            omega
          refine ⟨_, rfl, _, rfl, _, rfl, p, _, rfl, hp2, fun z => absurd z hne, fun _ p3 hp3 => ⟨p3, rfl, ⟨_, SqT.of upd_same⟩, fun D2 hD2 => ?_⟩⟩
          rw [hct] at hD2 ⊢
          have hp3' : SqT K (upd H2 p3 (.tup ((zs.take n).map V.int))) p3 ((zs.take n).map V.int) := SqT.of upd_same
          have e3 : Ex H (upd H2 p3 (.tup ((zs.take n).map V.int))) := (e1.trans e2.ex).trans (Ex.new hp3)
          generalize upd H2 p3 (.tup ((zs.take n).map V.int)) = H3 at hD2 hp3' e3 ⊢
          refine lc_acc (l := none) (wk_tup (fun z => nomatch z) hp3') hD2 (fun i acc _ => acc = (((zs.take n).map fun z => !decide (z = 0)).take i).map V.bl) rfl (fun _ _ _ _ _ h => h) ?_ ?_
          · rintro i x H4 acc hi e4 hy4 hl4 rfl hx
            obtain ⟨z, rfl, hz'⟩ := int_at hx
            refine ⟨rfl, ?_⟩
            refine ⟨_, rfl, rfl, LcP.push hD2 e4 hy4 hl4 (by rw [List.length_map, List.length_take] at hi; omega) ?_⟩
            rw [List.take_add_one, List.getElem?_map, hz', List.map_append]
            have : decide (V.int z = V.int 0) = decide (z = 0) := by
              by_cases h : z = 0
              · rw [h, decide_eq_true rfl, decide_eq_true rfl]
              · rw [decide_eq_false h, decide_eq_false (fun q => h (V.int.inj q))]
            rw [this]
            rfl
          · rintro H4 acc e4 hy4 rfl
            rw [List.length_map, ← List.length_map (f := fun z : Int => !decide (z = 0)), List.take_length] at hy4
            refine ⟨D2, _, rfl, SqL.of hy4, ?_⟩
            by_cases hB : ∃ z ∈ zs.take n, z ≠ 0
            · have hb : ((zs.take n).map fun z => !decide (z = 0)).any id = true := by
                rw [List.any_map, List.any_eq_true]
                obtain ⟨z, h1, h2⟩ := hB
                exact ⟨z, h1, by show (!decide (z = 0)) = true; rw [decide_eq_false h2]; rfl⟩
              rw [hb]
              refine ⟨_, rfl, iteT ⟨_, rfl, .tup p, zs, rfl, trivial, ex_t (e3.trans e4.ex) hp, fun H5 e5 => ⟨rfl, ?_⟩⟩⟩
              have := q H5 ((e3.trans e4.ex).trans e5)
              by_cases hg : gl zs = 1
              · rw [decide_eq_true (show Pl n zs from ⟨hlen, hA, hB, hg⟩)] at this
                rw [hg]
                exact this
              · rw [decide_eq_false (fun z => hg z.2.2.2)] at this
                rw [decide_eq_false (show ¬ V.int ((gl zs : Nat) : Int) = V.int 1 from fun z => hg (by have := V.int.inj z; omega))]
                exact this
            · have hb : ((zs.take n).map fun z => !decide (z = 0)).any id = false := by
                rw [List.any_map, List.any_eq_false]
                intro z h1 h2
                have h2 : (!decide (z = 0)) = true := h2
                exact hB ⟨z, h1, fun z0 => by rw [z0] at h2; exact absurd h2 (by decide)⟩
              rw [hb]
              refine ⟨_, rfl, iteF ?_⟩
              have := q H4 (e3.trans e4.ex)
              rw [decide_eq_false (fun z => hB z.2.2.1)] at this
              exact this
        · have ha : (zs.map fun z => decide (-1000 ≤ z ∧ z ≤ 1000)).all id = false := by
            rw [List.all_map]
            refine Bool.eq_false_iff.mpr fun z => hA fun x hx => ?_
            exact of_decide_eq_true (List.all_eq_true.mp z x hx)
          rw [ha]
          refine ⟨_, rfl, iteF ?_⟩
          have := q H2 (e1.trans e2.ex)
          rw [decide_eq_false (fun z => hA z.2.1)] at this
          exact this
    · rw [decide_eq_false (show ¬ V.int (zs.length : Int) = V.int ((n : Int) + 1) from fun z => hlen (by have := V.int.inj z; omega))]
      refine iteF ?_
      have := q H1 e1
      rw [decide_eq_false (fun z => hlen z.1)] at this
      exact this
/-! ### lists of planes -/
def tupD (zs : List Int) : PyData := .tuple (zs.map PyData.int)
theorem dpAll_int {K : PySem.W.Frag} {H : Hp} : ∀ zs : List Int, DpAll K H (zs.map V.int) (zs.map PyData.int)
  | [] => .nil
  | z :: zs => .cons (.int z) (dpAll_int zs)
theorem dp_pl {K : PySem.W.Frag} {H : Hp} {v : V} {zs : List Int} (h : PlV K H v zs) : Dp K H v (tupD zs) := by
  obtain ⟨p, rfl, hp⟩ := h
  exact .tup hp (dpAll_int zs)
theorem eqvAll_int : ∀ xs ys : List Int, PyData.eqvAll (xs.map PyData.int) (ys.map PyData.int) = decide (xs = ys)
  | [], [] => by simp [PyData.eqvAll]
  | [], y :: ys => by simp [PyData.eqvAll]
  | x :: xs, [] => by simp [PyData.eqvAll]
  | x :: xs, y :: ys => by
    rw [List.map_cons, List.map_cons, PyData.eqvAll, eqvAll_int xs ys, PyData.eqv]
    by_cases h : x = y
    · subst h
      simp
    · have : ¬ (x :: xs = y :: ys) := fun e => h (List.cons.inj e).1
      simp [h]
theorem eqv_tupD (xs ys : List Int) : PyData.eqv (tupD xs) (tupD ys) = decide (xs = ys) := by
  unfold tupD
  rw [PyData.eqv, eqvAll_int]
theorem canLay_ints : ∀ zs : List Int, PyData.canLayAll0 (zs.map PyData.int) = true
  | [] => by simp [PyData.canLayAll0]
  | z :: zs => by simp [PyData.canLayAll0, PyData.canLay0, canLay_ints zs]
theorem depth_ints : ∀ zs : List Int, PyData.depthAll (zs.map PyData.int) ≤ 1
  | [] => by simp [PyData.depthAll]
  | z :: zs => by
    have := depth_ints zs
    simp only [List.map_cons, PyData.depthAll, PyData.depth]
    omega
theorem shaped_tupD (zs : List Int) : SeqAt.shaped (tupD zs) = true := by
  have := depth_ints zs
  unfold SeqAt.shaped tupD
  rw [PyData.canLay0, canLay_ints, Bool.true_and]
  refine decide_eq_true ?_
  rw [PyData.depth]
  omega
theorem canLay_tups : ∀ zss : List (List Int), PyData.canLayAll0 (zss.map tupD) = true
  | [] => by simp [PyData.canLayAll0]
  | z :: zs => by simp [PyData.canLayAll0, PyData.canLay0, canLay_tups zs, tupD, canLay_ints]
theorem depth_tups : ∀ zss : List (List Int), PyData.depthAll (zss.map tupD) ≤ 3
  | [] => by simp [PyData.depthAll]
  | z :: zs => by
    have h1 := depth_tups zs
    have h2 := depth_ints z
    simp only [List.map_cons, PyData.depthAll, tupD, PyData.depth]
    omega
theorem shaped_tups (zss : List (List Int)) : SeqAt.shaped (.list (zss.map tupD)) = true := by
  have := depth_tups zss
  unfold SeqAt.shaped
  rw [PyData.canLay0, canLay_tups, Bool.true_and]
  refine decide_eq_true ?_
  rw [PyData.depth]
  omega
theorem dpAll_pls {K : PySem.W.Frag} {H : Hp} : ∀ {us : List V} {zss : List (List Int)}, All2 (PlV K H) us zss → DpAll K H us (zss.map tupD)
  | [], [], _ => .nil
  | [], _ :: _, h => absurd h.1 (by simp)
  | _ :: _, [], h => absurd h.1 (by simp)
  | u :: us, z :: zs, h => .cons (dp_pl (h.2 0 u z rfl rfl)) (dpAll_pls ⟨by have := h.1; simpa using this, fun i v x a b => h.2 (i + 1) v x a b⟩)
theorem any_tups (zss : List (List Int)) (zs : List Int) : ((zss.map tupD).any fun z => PyData.eqv z (tupD zs)) = decide (zs ∈ zss) := by
  rw [List.any_map]
  by_cases h : zs ∈ zss
  · rw [decide_eq_true h, List.any_eq_true]
    exact ⟨zs, h, by show PyData.eqv (tupD zs) (tupD zs) = true; rw [eqv_tupD]; exact decide_eq_true rfl⟩
  · rw [decide_eq_false h, List.any_eq_false]
    intro x hx e
    have e : PyData.eqv (tupD x) (tupD zs) = true := e
    rw [eqv_tupD] at e
    exact h (of_decide_eq_true e ▸ hx)
theorem neg_neg (zs : List Int) : neg (neg zs) = zs := by
  unfold neg
  rw [List.map_map]
  have : ((fun z : Int => -z) ∘ fun z => -z) = id := funext fun z => by show - -z = z; omega
  rw [this, List.map_id]
def PlanesOk (n : Nat) (zss : List (List Int)) : Prop := zss.length ≤ 12 ∧ (∀ zs ∈ zss, Pl n zs) ∧ ∀ (i j : Nat) (a b : List Int), i < j → zss[i]? = some a → zss[j]? = some b → b ≠ a ∧ b ≠ neg a
def both (zss : List (List Int)) : List (List Int) := zss.flatMap fun zs => [zs, neg zs]
theorem not_before {n : Nat} {zss : List (List Int)} (h : PlanesOk n zss) {i : Nat} {b : List Int} (hb : zss[i]? = some b) : b ∉ both (zss.take i) := by
  intro hm
  obtain ⟨a, ha, hab⟩ := List.mem_flatMap.mp hm
  obtain ⟨j, hj⟩ := List.mem_iff_getElem?.mp ha
  rw [List.getElem?_take] at hj
  split at hj
  · rename_i hji
    have := h.2.2 j i a b hji hj hb
    rcases List.mem_cons.mp hab with e | e
    · exact this.1 e
    · exact this.2 (List.mem_singleton.mp e)
  · cases hj
theorem sqt_upd {K : PySem.W.Frag} {H : Hp} {p b : Addr} {xs ys : List V} {o : HO} (h : SqT K H p xs) (hb : H b = some (.lst ys)) : SqT K (upd H b o) p xs := by
  rcases h with (h | ⟨u, h⟩) | h
  · exact .inl (.inl (by rw [upd_ne (ne_of h hb (fun z => nomatch z))]; exact h))
  · exact .inl (.inr ⟨u, by rw [upd_ne (ne_of h hb (fun z => nomatch z))]; exact h⟩)
  · exact .inr h
theorem plv_upd {K : PySem.W.Frag} {H : Hp} {v : V} {zs : List Int} {b : Addr} {ys : List V} {o : HO} (h : PlV K H v zs) (hb : H b = some (.lst ys)) : PlV K (upd H b o) v zs :=
  have ⟨p, h1, h2⟩ := h
  ⟨p, h1, sqt_upd h2 hb⟩
theorem both_succ {zss : List (List Int)} {i : Nat} {zs : List Int} (h : zss[i]? = some zs) : both (zss.take (i + 1)) = both (zss.take i) ++ [zs] ++ [neg zs] := by
  unfold both
  rw [List.take_add_one, h, List.flatMap_append, List.append_assoc]
  rfl
def sp_check_planes (K : PySem.W.Frag) : Sp := fun vs H Q _ => ∃ (n : Nat) (r : Addr) (us : List V) (zss : List (List Int)), vs = [.int n, .ref r] ∧ 1 ≤ n ∧ n ≤ 4 ∧ SqL K H r us ∧ All2 (PlV K H) us zss ∧ PlanesOk n zss ∧ ∀ H', Ex H H' → Q .non H'
theorem ok_check_planes (T : Txt K w mg ad fd) : Cal P w K mg base CX0 3 "check_planes" (ad 32) (fd 32) ["n", "rows"] [] [] (sp_check_planes K) := by
  refine ⟨T.f_check_planes.ok sc_check_planes (fun vs H Q E h => ?_) (fun cdv A outer s H vs Q E hr h => ?_), T.g_check_planes, T.f_check_planes.kp, T.f_check_planes.binds (ps := ["n", "rows"]) fun _ _ _ _ _ _ us hl => match us, hl with | [_, _], _ => rfl, .nil⟩
  · obtain ⟨n, r, us, zss, rfl, _⟩ := h
    rfl
  · obtain ⟨n, r, us, zss, rfl, n1, n4, hL, hz, hok, q⟩ := h
    obtain ⟨_, g_MOST_PLANES⟩ := T.v_MOST_PLANES
    have sz : sizeLine = 16777216 := sizeLine_eq
    refine ⟨_, (pss_cons (ps_expr (pe_cal (ok_check_letters T (P := P) (w := w) (base := base)) (hr.mono (by decide)) passLN (pa_cons (pv 0) pa_nil)))
    (pss_cons (ps_if (pt_cmpR op_gt (pe_callB call_len_seq (by rfl) T.m_len PySem.boot_len (pa_cons (pv 1) pa_nil)) (pe_glob (v := .int 12) rfl g_MOST_PLANES ⟨_, rfl⟩) (nomark _)) (pss_one ps_never) pss_nil)
    (pss_cons (ps_set (i := 2) sc_check_planes.nd rfl (by first | exact Or.inl rfl | exact Or.inr rfl) (pe_lst pa_nil))
    (pss_one (ps_for (by first | exact PassesOwn.never | exact passes_of rfl) rfl (pi_list (pv 1)) (pg_name (i := 3) sc_check_planes.nd rfl (by first | exact Or.inl rfl | exact Or.inr rfl))
      (pss_cons (ps_if (pt_not (pt_val (pe_cal (ok_is_plane T (P := P) (w := w) (base := base)) (hr.mono (by decide)) pass0 (pa_cons (pv 0) (pa_cons (pv 3) pa_nil))))) (pss_one ps_never) pss_nil)
    (pss_cons (ps_if (pt_cmpR (op_inD (hu65 hr)) (pv 3) (pv 2) (by rfl)) (pss_one ps_never) pss_nil)
    (pss_cons (ps_expr (pe_bm PySem.F.plainAttrs_list PySem.F.slot_list_append PySem.F.type_list_append mt_append (pv 2) (pa_cons (pv 3) pa_nil)))
    (pss_one (ps_expr (pe_bm PySem.F.plainAttrs_list PySem.F.slot_list_append PySem.F.type_list_append mt_append (pv 2) (pa_cons (pe_cal (ok_negated T (P := P) (w := w) (base := base)) (hr.mono (by decide)) pass0 (pa_cons (pv 3) pa_nil)) pa_nil)))))))))))), ?_⟩
    refine ⟨_, rfl, n, rfl, fun hn H1 e1 => ?_, fun hn => absurd (show 1 ≤ (n : Int) ∧ (n : Int) ≤ 4 by omega) hn⟩
    refine ⟨_, rfl, r, _, rfl, .inl (ex_l e1 hL), _, _, rfl, rfl, _, rfl, ?_⟩
    rw [hz.1, decide_eq_false (show ¬ (12 : Int) < (zss.length : Int) by have := hok.1; omega)]
    refine iteF ?_
    refine ⟨by show (0 : Nat) ≤ sizeLine; omega, fun b hb => ?_⟩
    refine ⟨_, rfl, r, rfl, ⟨_, ex_l (e1.trans (Ex.new hb)) hL⟩, for_list (K := K) (a := r) (xs := us) (fun i σ H' => ∃ c, σ = [some (.int n), some (.ref r), some (.ref b), c] ∧ Ex H1 H' ∧ ∃ ws, H' b = some (.lst ws) ∧ All2 (PlV K H') ws (both (zss.take i)))
      ⟨none, rfl, Ex.new hb, [], upd_same, .nil⟩ (fun i σ H' _ ⟨_, _, e, _⟩ => ex_l (e1.trans e) hL) ?_ ?_⟩
    · rintro i x σ H2 hi ⟨c, rfl, e2, ws, hws, hal⟩
      obtain ⟨zs, hzs, hpl⟩ := hz.get hi
      have hpz := hok.2.1 zs (List.mem_of_getElem? hzs)
      have hlz : zs.length ≤ 1000 := by have := hpz.1; omega
      have hpl2 := hpl.mono (e1.trans e2)
      refine ⟨_, rfl, _, rfl, n, x, zs, rfl, n1, n4, hpl2, hlz, fun H3 e3 => ⟨_, rfl, ?_⟩⟩
      rw [decide_eq_true hpz]
      refine iteF ?_
      have hb3 := e3 _ _ hws
      have hal3 := hal.imp fun _ _ h => h.mono e3
      refine ⟨_, rfl, _, rfl, tupD zs, _, dp_pl (hpl2.mono e3), .lst (SqL.of hb3) (dpAll_pls hal3), shaped_tupD zs, shaped_tups _, _, rfl, ?_⟩
      rw [any_tups, decide_eq_false (not_before hok hzs)]
      refine iteF ?_
      have lw : ws.length ≤ 24 := by
        rw [hal.1]
        unfold both
        rw [List.length_flatMap]
        have : ((zss.take i).map fun zs => ([zs, neg zs] : List (List Int)).length) = (zss.take i).map fun _ => 2 := rfl
        rw [this, List.map_const', List.sum_replicate_nat, List.length_take]
        have := hok.1
        omega
      refine ⟨_, rfl, .inl ⟨rfl, _, .inl (.inl hb3)⟩, _, rfl, b, ws, x, rfl, rfl, hb3, by omega, ?_⟩
      have nb : H1 b = none := hb
      have hpl4 : PlV K (upd H3 b (.lst (ws ++ [x]))) x zs := by
        obtain ⟨p, e0, hp⟩ := hpl.mono e1
        exact ⟨p, e0, ex_t (Ex.mut (e2.trans e3) hb) hp⟩
      refine ⟨_, rfl, .inl ⟨rfl, _, .inl (.inl upd_same)⟩, _, rfl, x, zs, rfl, hpl4, hlz, fun H5 v5 e5 hp5 => ?_⟩
      have hb5 := e5 _ _ upd_same
      refine ⟨b, _, v5, rfl, rfl, hb5, by rw [List.length_append]; show ws.length + 1 < sizeLine; omega, ?_⟩
      refine ⟨some x, rfl, ?_, _, upd_same, ?_⟩
      · exact Ex.mut ((Ex.mut (e2.trans e3) hb).trans e5) hb
      · rw [both_succ hzs]
        have a1 := (hal3.imp fun _ _ h => plv_upd (o := .lst (ws ++ [x])) h hb3).app (All2.cons hpl4 .nil)
        exact ((a1.imp fun _ _ h => plv_upd (o := .lst ((ws ++ [x]) ++ [v5])) (h.mono e5) hb5).app (All2.cons (plv_upd hp5 hb5) .nil))
    · rintro σ H2 ⟨c, rfl, e2, _⟩
      exact q H2 (e1.trans e2)

def prim (zs : List Int) : List Int := if 1 < gl zs then zs.map fun z => z.fdiv ((gl zs : Nat) : Int) else zs
theorem prim_len (zs : List Int) : (prim zs).length = zs.length := by
  unfold prim
  split
  · rw [List.length_map]
  · rfl
theorem gl_dvd (zs : List Int) : ∀ z ∈ zs, ((gl zs : Nat) : Int) ∣ z := by
  have key : ∀ (zs : List Int) (c : Nat), zs.foldl (fun g a => g.gcd a.natAbs) c ∣ c ∧ ∀ z ∈ zs, zs.foldl (fun g a => g.gcd a.natAbs) c ∣ z.natAbs := by
    intro zs
    induction zs with
    | nil => exact fun c => ⟨Nat.dvd_refl _, fun z h => absurd h List.not_mem_nil⟩
    | cons y ys ih =>
      intro c
      have := ih (c.gcd y.natAbs)
      refine ⟨Nat.dvd_trans this.1 (Nat.gcd_dvd_left _ _), fun z hz => ?_⟩
      rcases List.mem_cons.mp hz with e | h
      · rw [e]
        exact Nat.dvd_trans this.1 (Nat.gcd_dvd_right _ _)
      · exact this.2 z h
  intro z hz
  exact Int.natAbs_dvd_natAbs.mp ((key zs 0).2 z hz)
theorem prim_bd {zs : List Int} {B : Nat} (h : ∀ z ∈ zs, z.natAbs ≤ B) : ∀ z ∈ prim zs, z.natAbs ≤ B := by
  unfold prim
  split
  · rename_i hg
    intro y hy
    obtain ⟨z, hz, rfl⟩ := List.mem_map.mp hy
    obtain ⟨k, hk⟩ := gl_dvd zs z hz
    have e1 : z.fdiv ((gl zs : Nat) : Int) = k := by
      rw [Int.fdiv_eq_ediv_of_dvd ⟨k, hk⟩, hk, Int.mul_ediv_cancel_left k (by omega)]
    show (z.fdiv ((gl zs : Nat) : Int)).natAbs ≤ B
    rw [e1]
    have h2 : z.natAbs = gl zs * k.natAbs := by
      have := congrArg Int.natAbs hk
      rw [Int.natAbs_mul] at this
      exact this
    have h3 : k.natAbs ≤ gl zs * k.natAbs := Nat.le_mul_of_pos_left _ (by omega)
    have := h z hz
    omega
  · exact h
theorem gl_small {zs : List Int} {B : Nat} (hg : 0 < gl zs) (h : ∀ z ∈ zs, z.natAbs ≤ B) : gl zs ≤ B := by
  have : ∃ z ∈ zs, z ≠ 0 := by
    refine Classical.byContradiction fun no => ?_
    have all0 : ∀ z ∈ zs, z = 0 := fun z hz => Classical.byContradiction fun hn => no ⟨z, hz, hn⟩
    have : ∀ (zs : List Int), (∀ z ∈ zs, z = 0) → zs.foldl (fun g a => g.gcd a.natAbs) 0 = 0 := by
      intro zs
      induction zs with
      | nil => exact fun _ => rfl
      | cons y ys ih =>
        intro h
        rw [List.foldl_cons, h y (by simp)]
        exact ih fun z hz => h z (List.mem_cons_of_mem _ hz)
    have := this zs all0
    unfold gl at hg
    omega
  obtain ⟨z, hz, h0⟩ := this
  have h1 := Int.natAbs_dvd_natAbs.mpr (gl_dvd zs z hz)
  have h2 : gl zs ≤ z.natAbs := Nat.le_of_dvd (by omega) h1
  have := h z hz
  omega
def sp_primitive (K : PySem.W.Frag) : Sp := fun vs H Q _ => ∃ S zs, vs = [Src.v S] ∧ S.sq ∧ S.at K H (zs.map V.int) ∧ zs.length ≤ 1000 ∧ (∀ z ∈ zs, z.natAbs ≤ 2 ^ 3000) ∧ ∀ H' v, Ex H H' → PlV K H' v (prim zs) → Q v H'
theorem ok_primitive (T : Txt K w mg ad fd) : Cal P w K mg base CX0 2 "primitive" (ad 14) (fd 14) ["integers"] [] [] (sp_primitive K) := by
  refine ⟨T.f_primitive.ok sc_primitive (fun vs H Q E h => ?_) (fun cdv A outer s H vs Q E hr h => ?_), T.g_primitive, T.f_primitive.kp, T.f_primitive.binds (ps := ["integers"]) fun _ _ _ _ _ _ us hl => match us, hl with | [_], _ => rfl, .nil⟩
  · obtain ⟨S, zs, rfl, _⟩ := h
    rfl
  · obtain ⟨S, zs, rfl, hs, hp, hl, hb, q⟩ := h
    have sz : sizeLine = 16777216 := sizeLine_eq
    refine ⟨_, (pss_cons (ps_set (i := 1) sc_primitive.nd rfl (by first | exact Or.inl rfl | exact Or.inr rfl) (pe_cal (ok_content T (P := P) (w := w) (base := base)) (hr.mono (by decide)) pass0 (pa_cons (pv 0) pa_nil)))
    (pss_cons (ps_if (pt_cmpR op_gt (pv 1) pe_int (nomark _)) (pss_one (ps_ret (pe_callTy (T := "tuple") call_tuple_of (by rfl) T.m_tuple (by decide +kernel) (pa_cons (pe_lc (own := [("a", 2)]) rfl sc_primitive.nd (pi_src (pv 0)) (blkOk_by (N := ["integers", "shared", "a"]) (sc := defScope s_primitive) (by decide +kernel)) (fun _ _ _ _ _ => (pg_name (i := 2) sc_primitive.nd rfl (by first | exact Or.inl rfl | exact Or.inr rfl))) (fun _ _ _ _ _ => pts_nil) (fun _ _ _ _ _ => (pe_op op_fdivG (pv 2) (pv 1)))) pa_nil)))) pss_nil)
    (pss_one (ps_ret (pe_callTy (T := "tuple") call_tuple_of (by rfl) T.m_tuple (by decide +kernel) (pa_cons (pv 0) pa_nil)))))), ?_⟩
    refine ⟨_, rfl, S, zs, rfl, hs, hp, fun H1 e1 => ?_⟩
    have hp1 := src_ex e1 hp
    refine ⟨_, rfl, _, _, rfl, rfl, _, rfl, ite2 (fun y => ?_) (fun y => ?_)⟩
    · have hg : 1 < gl zs := by
        have : (1 : Int) < ((gl zs : Nat) : Int) := of_decide_eq_true y
        omega
      have hpr : prim zs = zs.map fun z => z.fdiv ((gl zs : Nat) : Int) := by unfold prim; rw [if_pos hg]
      refine ⟨S.v, rfl, S, rfl, hs, ⟨_, hp1⟩, fun D hD => ?_⟩
      refine lc_acc (l := none) (wk_src hs offN hp1) hD (fun i ys _ => ys = ((prim zs).take i).map V.int) rfl (fun _ _ _ _ _ h => h) ?_ ?_
      · rintro i x H2 ys hi e hy hl' rfl hx
        obtain ⟨z, rfl, hz'⟩ := int_at hx
        refine ⟨rfl, ?_⟩
        have hgs := gl_small (by omega) hb
        refine ⟨_, rfl, _, rfl, _, _, rfl, rfl, ⟨by omega, ?_⟩, LcP.push hD e hy hl' (by rw [List.length_map] at hi; omega) ?_⟩
        · show (gl zs).log2 < 9000
          have := (Nat.log2_lt (n := gl zs) (k := 3001) (by omega)).mpr (Nat.lt_of_le_of_lt hgs (Nat.pow_lt_pow_right (by decide) (by decide)))
          omega
        · rw [hpr, List.take_add_one, List.getElem?_map, hz', List.map_append]
          rfl
      · rintro H2 ys e hy rfl
        rw [List.length_map, ← prim_len, List.take_length] at hy
        exact ⟨D, _, rfl, .inl ⟨SqL.of hy, fun p' hp' => q _ _ ((e1.trans e.ex).trans (Ex.new hp')) ⟨p', rfl, SqT.of upd_same⟩⟩⟩
    · have hg : ¬ 1 < gl zs := fun h => y (decide_eq_true (show (1 : Int) < ((gl zs : Nat) : Int) by omega))
      have hpr : prim zs = zs := by unfold prim; rw [if_neg hg]
      rw [hpr] at q
      cases S with
      | lst a => exact ⟨_, rfl, a, _, rfl, .inl ⟨hp1, fun p' hp' => q _ _ (e1.trans (Ex.new hp')) ⟨p', rfl, SqT.of upd_same⟩⟩⟩
      | tup a => exact ⟨_, rfl, a, _, rfl, .inr ⟨hp1, q _ _ e1 ⟨a, rfl, hp1⟩⟩⟩
      | str x => exact hs.elim
/-! ### steps to the echelon form, mirrored -/
def fz (p : Nat) (r : List Int) : Bool := !decide (r.getD p 0 = 0)
def sp_first_row_with (K : PySem.W.Frag) : Sp := fun vs H Q _ => ∃ (r : Addr) (p : Nat) (us : List V) (zss : List (List Int)), vs = [.ref r, .int p] ∧ SqL K H r us ∧ All2 (PlV K H) us zss ∧ zss.length ≤ 1000 ∧ (∀ zs ∈ zss, p < zs.length) ∧
  ∀ H', Ex H H' → (∀ i, zss.findIdx? (fz p) = some i → Q (.int i) H') ∧ (zss.findIdx? (fz p) = none → Q .non H')
theorem findIdx_take {α : Type} {f : α → Bool} {xs : List α} {i : Nat} {x : α} (h : xs[i]? = some x) (h0 : ∀ (j : Nat) (y : α), j < i → xs[j]? = some y → f y = false) (hx : f x = true) : xs.findIdx? f = some i := by
  rw [List.findIdx?_eq_some_iff_getElem]
  obtain ⟨hi, e⟩ := List.getElem?_eq_some_iff.mp h
  refine ⟨hi, by rw [e]; exact hx, fun j hj => ?_⟩
  have hjl : j < xs.length := by omega
  rw [h0 j _ hj (List.getElem?_eq_getElem hjl)]
  simp
theorem findIdx_none {α : Type} {f : α → Bool} {xs : List α} (h0 : ∀ (j : Nat) (y : α), xs[j]? = some y → f y = false) : xs.findIdx? f = none := by
  rw [List.findIdx?_eq_none_iff]
  intro x hx
  obtain ⟨i, hi⟩ := List.mem_iff_getElem?.mp hx
  exact h0 i x hi
theorem atp {zs : List Int} {p : Nat} (h : p < zs.length) : (zs.map V.int)[p]? = some (.int (zs.getD p 0)) := by
  rw [List.getElem?_map, List.getD_eq_getElem?_getD, List.getElem?_eq_getElem h]
  rfl
theorem ok_first_row_with (T : Txt K w mg ad fd) : Cal P w K mg base CX0 1 "first_row_with" (ad 19) (fd 19) ["rows", "place"] [] [] (sp_first_row_with K) := by
  refine ⟨T.f_first_row_with.ok sc_first_row_with (fun vs H Q E h => ?_) (fun cdv A outer s H vs Q E hr h => ?_), T.g_first_row_with, T.f_first_row_with.kp, T.f_first_row_with.binds (ps := ["rows", "place"]) fun _ _ _ _ _ _ us hl => match us, hl with | [_, _], _ => rfl, .nil⟩
  · obtain ⟨r, p, us, zss, rfl, _⟩ := h
    rfl
  · obtain ⟨r, p, us, zss, rfl, hr', hz, hl, hlen, q⟩ := h
    refine ⟨_, (pss_cons (ps_for (by first | exact PassesOwn.never | exact passes_of rfl) rfl (pi_enumS (by rfl) T.m_enumerate (pa_cons (pv 0) pa_nil)) (pg_tup (n := 2) rfl (pgs_cons (pg_name (i := 2) sc_first_row_with.nd rfl (by first | exact Or.inl rfl | exact Or.inr rfl)) (pgs_cons (pg_name (i := 3) sc_first_row_with.nd rfl (by first | exact Or.inl rfl | exact Or.inr rfl)) pgs_nil)))
      (pss_one (ps_if (pt_cmpR op_ne (pe_ix (ix_tupK (K := K)) (pv 3) (pv 1) (fun _ _ => rfl)) pe_int (nomark _)) (pss_one (ps_ret (pv 2))) pss_nil)))
    (pss_one (ps_ret pe_non))), ?_⟩
    refine ⟨_, rfl, .lst r, us, rfl, hr', for_wk (wk_enum (l := none) (S := .lst r) (fun z => nomatch z) hr') (fun i σ H' => ∃ c d, σ = [some (.ref r), some (.int p), c, d] ∧ Ex H H' ∧ ∀ (j : Nat) (y : List Int), j < i → zss[j]? = some y → fz p y = false) ⟨none, none, rfl, Ex.refl _, fun j y h => absurd h (Nat.not_lt_zero _)⟩ (fun i σ H' ⟨_, _, _, e, _⟩ => Exo.of e) (fun i σ H1 H2 e ⟨c, d, h, e1, h1⟩ => ⟨c, d, h, e1.trans e, h1⟩) ?_ ?_⟩
    · rintro i v σ H1 hi ⟨T', x, rfl, hT', hx⟩ ⟨c, d, rfl, e, h0⟩
      obtain ⟨zs, hzs, p1, rfl, hp1⟩ := hz.get hx
      have hpl := hlen zs (List.mem_of_getElem? hzs)
      refine ⟨T', _, rfl, SqT.of hT', rfl, _, _, rfl, _, _, rfl, rfl, ?_⟩
      have hv : fz p zs = !decide (V.int (zs.getD p 0) = V.int 0) := by
        unfold fz
        by_cases h : zs.getD p 0 = 0
        · rw [h, decide_eq_true rfl, decide_eq_true rfl]
        · rw [decide_eq_false h, decide_eq_false (fun e => h (V.int.inj e))]
      refine ⟨_, rfl, _, rfl, p1, _, p, _, rfl, rfl, ex_t e hp1, atI_nat (atp hpl), rfl, _, rfl, ite2 (fun y => ?_) (fun y => ?_)⟩
      · exact ⟨_, rfl, (q H1 e).1 i (findIdx_take hzs h0 (hv.trans y))⟩
      · refine ⟨_, _, rfl, e, fun j y' hj hy' => ?_⟩
        by_cases hji : j < i
        · exact h0 j y' hji hy'
        · have : j = i := by omega
          subst this
          rw [hzs] at hy'
          cases hy'
          rw [hv]
          exact Bool.eq_false_iff.mpr y
    · rintro σ H1 ⟨c, d, rfl, e, h0⟩
      refine (q H1 e).2 (findIdx_none fun j y hy => h0 j y ?_ hy)
      rw [hz.1]
      exact (List.getElem?_eq_some_iff.mp hy).1
def strk (row bys : List Int) (p : Nat) : List Int :=
  if row.getD p 0 = 0 then row else
    prim (List.zipWith (fun a b => (bys.getD p 0).fdiv (((row.getD p 0).natAbs.gcd (bys.getD p 0).natAbs : Nat) : Int) * a - (row.getD p 0).fdiv (((row.getD p 0).natAbs.gcd (bys.getD p 0).natAbs : Nat) : Int) * b) row bys)
theorem fdiv_le {a : Int} {g : Nat} (hg : 0 < g) (h : (g : Int) ∣ a) : (a.fdiv g).natAbs ≤ a.natAbs := by
  obtain ⟨k, rfl⟩ := h
  have e1 : ((g : Int) * k).fdiv g = k := by rw [Int.fdiv_eq_ediv_of_dvd ⟨k, rfl⟩, Int.mul_ediv_cancel_left k (by omega)]
  rw [e1, Int.natAbs_mul]
  exact Nat.le_mul_of_pos_left _ (by show 0 < (g : Int).natAbs; omega)
theorem getD_mem {zs : List Int} {p : Nat} (h : p < zs.length) : zs.getD p 0 ∈ zs := by
  rw [List.getD_eq_getElem?_getD, List.getElem?_eq_getElem h]
  exact List.getElem_mem h
def sp_struck (K : PySem.W.Frag) : Sp := fun vs H Q _ => ∃ (u v : V) (p e : Nat) (xs ys : List Int), vs = [u, v, .int p] ∧ PlV K H u xs ∧ PlV K H v ys ∧ p < xs.length ∧ p < ys.length ∧ xs.length ≤ 1000 ∧ ys.length = xs.length ∧ e ≤ 1490 ∧ (∀ z ∈ xs, z.natAbs < 2 ^ e) ∧ (∀ z ∈ ys, z.natAbs < 2 ^ e) ∧
  ∀ H' v, Ex H H' → PlV K H' v (strk xs ys p) → Q v H'
theorem ok_struck (T : Txt K w mg ad fd) : Cal P w K mg base CX0 3 "struck" (ad 20) (fd 20) ["row", "by", "place"] [] [] (sp_struck K) := by
  refine ⟨T.f_struck.ok sc_struck (fun vs H Q E h => ?_) (fun cdv A outer s H vs Q E hr h => ?_), T.g_struck, T.f_struck.kp, T.f_struck.binds (ps := ["row", "by", "place"]) fun _ _ _ _ _ _ us hl => match us, hl with | [_, _, _], _ => rfl, .nil⟩
  · obtain ⟨u, v, p, e, xs, ys, rfl, _⟩ := h
    rfl
  · obtain ⟨u, v, p, e, xs, ys, rfl, ⟨px, rfl, hx⟩, ⟨py, rfl, hy⟩, lx, ly, l9, lxy, he, bx, bY, q⟩ := h
    have sz : sizeLine = 16777216 := sizeLine_eq
    refine ⟨_, (pss_cons (ps_if (pt_cmpR op_eq (pe_ix (ix_tupK (K := K)) (pv 0) (pv 2) (fun _ _ => rfl)) pe_int (nomark _)) (pss_one (ps_ret (pv 0))) pss_nil)
    (pss_cons (ps_set (i := 3) sc_struck.nd rfl (by first | exact Or.inl rfl | exact Or.inr rfl) (pe_callBfun cr_gcd rfl T.g_gcd (pa_cons (pe_ix (ix_tupK (K := K)) (pv 0) (pv 2) (fun _ _ => rfl)) (pa_cons (pe_ix (ix_tupK (K := K)) (pv 1) (pv 2) (fun _ _ => rfl)) pa_nil))))
    (pss_cons (ps_set (i := 4) sc_struck.nd rfl (by first | exact Or.inl rfl | exact Or.inr rfl) (pe_op op_fdivG (pe_ix (ix_tupK (K := K)) (pv 1) (pv 2) (fun _ _ => rfl)) (pv 3)))
    (pss_cons (ps_set (i := 5) sc_struck.nd rfl (by first | exact Or.inl rfl | exact Or.inr rfl) (pe_op op_fdivG (pe_ix (ix_tupK (K := K)) (pv 0) (pv 2) (fun _ _ => rfl)) (pv 3)))
    (pss_one (ps_ret (pe_cal (ok_primitive T (P := P) (w := w) (base := base)) (hr.mono (by decide)) pass0 (pa_cons (pe_lc (own := [("a", 6), ("b", 7)]) (g := gTup K 2 (gCons (gName 6) (gCons (gName 7) gNil))) rfl sc_struck.nd (pi_zipS (by rfl) T.m_zip (pa_cons (pv 0) (pa_cons (pv 1) pa_nil))) (blkOk_by (N := ["row", "by", "place", "shared", "much", "less", "a", "b"]) (sc := defScope s_struck) (by decide +kernel)) (fun _ _ _ _ _ => (pg_tup (n := 2) rfl (pgs_cons (pg_name (i := 6) sc_struck.nd rfl (by first | exact Or.inl rfl | exact Or.inr rfl)) (pgs_cons (pg_name (i := 7) sc_struck.nd rfl (by first | exact Or.inl rfl | exact Or.inr rfl)) pgs_nil)))) (fun _ _ _ _ _ => pts_nil) (fun _ _ _ _ _ => (pe_op op_sub (pe_op op_mulW (pv 4) (pv 6)) (pe_op op_mulW (pv 5) (pv 7))))) pa_nil)))))))), ?_⟩
    have ax := atp lx
    have ay := atp ly
    have mx := bx _ (getD_mem lx)
    have my := bY _ (getD_mem ly)
    unfold strk at q
    generalize hA : xs.getD p 0 = A at ax mx q
    generalize hB : ys.getD p 0 = B at ay my q
    refine ⟨_, rfl, _, rfl, px, _, p, _, rfl, rfl, hx, atI_nat ax, rfl, _, rfl, ite2 (fun y => ?_) (fun y => ?_)⟩
    · have y0 : A = 0 := V.int.inj (of_decide_eq_true y)
      rw [if_pos y0] at q
      exact ⟨_, rfl, q H (.ref px) (Ex.refl _) ⟨px, rfl, hx⟩⟩
    · have y0 : A ≠ 0 := fun e => y (by rw [e]; rfl)
      rw [if_neg y0] at q
      have e9 : (2 : Nat) ^ e ≤ 2 ^ 1490 := Nat.pow_le_pow_right (by decide) he
      generalize hG : A.natAbs.gcd B.natAbs = G at q
      have g0 : 0 < G := by
        rw [← hG]
        exact Nat.gcd_pos_of_pos_left _ (by omega)
      have gA : (G : Int) ∣ A := Int.natAbs_dvd_natAbs.mp (by rw [← hG]; exact Nat.gcd_dvd_left _ _)
      have gB : (G : Int) ∣ B := Int.natAbs_dvd_natAbs.mp (by rw [← hG]; exact Nat.gcd_dvd_right _ _)
      have gl : G < 2 ^ 1490 := by
        have : G ≤ A.natAbs := by rw [← hG]; exact Nat.gcd_le_left _ (by omega)
        omega
      have glog : (G : Int).natAbs.log2 < 9000 := by
        show G.log2 < 9000
        have := (Nat.log2_lt (n := G) (k := 1490) (by omega)).mpr gl
        omega
      refine ⟨_, rfl, _, rfl, px, _, p, _, rfl, rfl, hx, atI_nat ax, _, rfl, _, rfl, py, _, p, _, rfl, rfl, hy, atI_nat ay, _, _, rfl, ?_⟩
      rw [hG]
      refine ⟨_, rfl, _, rfl, py, _, p, _, rfl, rfl, hy, atI_nat ay, _, rfl, _, _, rfl, rfl, ⟨by omega, glog⟩, ?_⟩
      refine ⟨_, rfl, _, rfl, px, _, p, _, rfl, rfl, hx, atI_nat ax, _, rfl, _, _, rfl, rfl, ⟨by omega, glog⟩, ?_⟩
      have dA := fdiv_le g0 gA
      have dB := fdiv_le g0 gB
      refine ⟨_, rfl, _, rfl, .tup px, .tup py, _, _, rfl, hx, hy, fun D hD => ?_⟩
      refine lc_acc (l := none) (wk_zip (S1 := .tup px) (S2 := .tup py) (fun z => nomatch z) (fun z => nomatch z) hx hy) hD (fun i acc _ => acc = ((List.zipWith (fun a b => B.fdiv (G : Int) * a - A.fdiv (G : Int) * b) xs ys).take i).map V.int) rfl (fun _ _ _ _ _ h => h) ?_ ?_
      · rintro i x H1 acc hi e hy' hl' rfl ⟨T', x', y', rfl, hT', hx', hy2⟩
        obtain ⟨a, rfl, ha⟩ := int_at hx'
        obtain ⟨b, rfl, hb⟩ := int_at hy2
        have ba := bx a (List.mem_of_getElem? ha)
        have bb := bY b (List.mem_of_getElem? hb)
        have k3 : (2 : Nat) ^ 1490 < 2 ^ 3000 := Nat.pow_lt_pow_right (by decide) (by decide)
        refine ⟨T', _, rfl, SqT.of hT', rfl, ?_⟩
        refine ⟨_, _, rfl, _, _, rfl, rfl, rfl, ?_⟩
        have qM : (B.fdiv (G : Int)).natAbs < 2 ^ 3000 := by omega
        have qL : (A.fdiv (G : Int)).natAbs < 2 ^ 3000 := by omega
        have qa : a.natAbs < 2 ^ 3000 := by omega
        have qb : b.natAbs < 2 ^ 3000 := by omega
        refine ⟨_, rfl, _, rfl, _, a, rfl, rfl, mul_ok qM qa, _, rfl, _, rfl, _, b, rfl, rfl, mul_ok qL qb, _, _, rfl, rfl, LcP.push hD e hy' hl' (by rw [List.length_map] at hi; omega) ?_⟩
        rw [List.take_add_one, List.getElem?_zipWith, ha, hb, List.map_append]
        rfl
      · rintro H1 acc e hy' rfl
        rw [List.length_map, List.length_map, ← List.length_zipWith (f := fun a b : Int => B.fdiv (G : Int) * a - A.fdiv (G : Int) * b), List.take_length] at hy'
        refine ⟨.lst D, _, rfl, trivial, SqL.of hy', by rw [List.length_zipWith]; omega, fun z hz => ?_, fun H2 v e2 h2 => q H2 v (e.ex.trans e2) h2⟩
        obtain ⟨i, hi⟩ := List.mem_iff_getElem?.mp hz
        rw [List.getElem?_zipWith] at hi
        cases ha : xs[i]? with
        | none => rw [ha] at hi; cases hi
        | some a =>
          cases hb : ys[i]? with
          | none => rw [ha, hb] at hi; cases hi
          | some b =>
            rw [ha, hb] at hi
            cases hi
            have ba := bx a (List.mem_of_getElem? ha)
            have bb := bY b (List.mem_of_getElem? hb)
            have h1 : (B.fdiv (G : Int) * a).natAbs ≤ 2 ^ 1490 * 2 ^ 1490 := by rw [Int.natAbs_mul]; exact Nat.mul_le_mul (by omega) (by omega)
            have h2 : (A.fdiv (G : Int) * b).natAbs ≤ 2 ^ 1490 * 2 ^ 1490 := by rw [Int.natAbs_mul]; exact Nat.mul_le_mul (by omega) (by omega)
            have h3 : (2 : Nat) ^ 1490 * 2 ^ 1490 = 2 ^ 2980 := by rw [← Nat.pow_add]
            have h4 : (2 : Nat) ^ 2980 + 2 ^ 2980 ≤ 2 ^ 3000 := by
              have : (2 : Nat) ^ 2980 + 2 ^ 2980 = 2 ^ 2981 := by rw [Nat.pow_succ 2 2980]; omega
              rw [this]
              exact Nat.pow_le_pow_right (by decide) (by decide)
            omega
theorem strk_len {xs ys : List Int} (h : ys.length = xs.length) (p : Nat) : (strk xs ys p).length = xs.length := by
  unfold strk
  split
  · rfl
  · rw [prim_len, List.length_zipWith]
    omega
theorem strk_bd {xs ys : List Int} {p e : Nat} (lx : p < xs.length) (ly : p < ys.length) (bx : ∀ z ∈ xs, z.natAbs < 2 ^ e) (bY : ∀ z ∈ ys, z.natAbs < 2 ^ e) : ∀ z ∈ strk xs ys p, z.natAbs < 2 ^ (2 * e + 1) := by
  have mx := bx _ (getD_mem lx)
  have my := bY _ (getD_mem ly)
  have e2 : (2 : Nat) ^ (2 * e + 1) = 2 ^ e * 2 ^ e + 2 ^ e * 2 ^ e := by
    rw [Nat.pow_succ, Nat.two_mul, Nat.pow_add]
    omega
  have e1 : 2 ^ e ≤ 2 ^ (2 * e + 1) := Nat.pow_le_pow_right (by decide) (by omega)
  unfold strk
  split
  · intro z hz
    have := bx z hz
    omega
  · rename_i h0
    generalize xs.getD p 0 = A at mx h0 ⊢
    generalize ys.getD p 0 = B at my ⊢
    generalize hG : A.natAbs.gcd B.natAbs = G
    have g0 : 0 < G := by
      rw [← hG]
      exact Nat.gcd_pos_of_pos_left _ (by omega)
    have dA := fdiv_le g0 (a := A) (Int.natAbs_dvd_natAbs.mp (by rw [← hG]; exact Nat.gcd_dvd_left _ _))
    have dB := fdiv_le g0 (a := B) (Int.natAbs_dvd_natAbs.mp (by rw [← hG]; exact Nat.gcd_dvd_right _ _))
    generalize A.fdiv (G : Int) = L at dA ⊢
    generalize B.fdiv (G : Int) = M at dB ⊢
    have pos : 0 < 2 ^ e := Nat.pow_pos (by decide)
    have key : ∀ z ∈ List.zipWith (fun a b => M * a - L * b) xs ys, z.natAbs ≤ 2 ^ (2 * e + 1) - 1 := by
      intro z hz
      obtain ⟨i, hi⟩ := List.mem_iff_getElem?.mp hz
      rw [List.getElem?_zipWith] at hi
      cases ha : xs[i]? with
      | none => rw [ha] at hi; cases hi
      | some a =>
        cases hb : ys[i]? with
        | none => rw [ha, hb] at hi; cases hi
        | some b =>
          rw [ha, hb] at hi
          cases hi
          have ba := bx a (List.mem_of_getElem? ha)
          have bb := bY b (List.mem_of_getElem? hb)
          have h1 : (M * a).natAbs ≤ (2 ^ e - 1) * (2 ^ e - 1) := by rw [Int.natAbs_mul]; exact Nat.mul_le_mul (by omega) (by omega)
          have h2 : (L * b).natAbs ≤ (2 ^ e - 1) * (2 ^ e - 1) := by rw [Int.natAbs_mul]; exact Nat.mul_le_mul (by omega) (by omega)
          have h3 : (2 ^ e - 1) * (2 ^ e - 1) + 1 ≤ 2 ^ e * 2 ^ e := by
            have : (2 ^ e - 1) * (2 ^ e - 1) < 2 ^ e * 2 ^ e := Nat.mul_lt_mul'' (by omega) (by omega)
            exact this
          generalize (2 ^ e - 1) * (2 ^ e - 1) = W at h1 h2 h3
          generalize 2 ^ e * 2 ^ e = V at e2 h3
          omega
    intro z hz
    have := prim_bd key z hz
    have pos2 : 0 < 2 ^ (2 * e + 1) := Nat.pow_pos (by decide)
    omega
/-! ### the echelon form, mirrored -/
def eStep (p : Nat) (st : List (Nat × List Int) × List (List Int)) : List (Nat × List Int) × List (List Int) :=
  match st.2.findIdx? (fz p) with
  | none => st
  | some i => (st.1.map (fun x => (x.1, strk x.2 (st.2.getD i []) p)) ++ [(p, st.2.getD i [])], (st.2.eraseIdx i).map fun x => strk x (st.2.getD i []) p)
theorem eStep_none {p : Nat} {st : List (Nat × List Int) × List (List Int)} (h : st.2.findIdx? (fz p) = none) : eStep p st = st := by
  unfold eStep
  rw [h]
theorem eStep_some {p i : Nat} {st : List (Nat × List Int) × List (List Int)} (h : st.2.findIdx? (fz p) = some i) : eStep p st = (st.1.map (fun x => (x.1, strk x.2 (st.2.getD i []) p)) ++ [(p, st.2.getD i [])], (st.2.eraseIdx i).map fun x => strk x (st.2.getD i []) p) := by
  unfold eStep
  rw [h]
def echN (zss : List (List Int)) : Nat → List (Nat × List Int) × List (List Int)
  | 0 => ([], zss.map prim)
  | i + 1 => eStep i (echN zss i)
/-- rows of the width w, below 2 ^ e, m of them in all -/
def EOk (w e m : Nat) (st : List (Nat × List Int) × List (List Int)) : Prop :=
  (∀ x ∈ st.1, x.2.length = w ∧ ∀ z ∈ x.2, z.natAbs < 2 ^ e) ∧ (∀ x ∈ st.2, x.length = w ∧ ∀ z ∈ x, z.natAbs < 2 ^ e) ∧ st.1.length + st.2.length = m
theorem EOk.step {w e m p : Nat} {st : List (Nat × List Int) × List (List Int)} (h : EOk w e m st) (hp : p < w) : EOk w (2 * e + 1) m (eStep p st) := by
  obtain ⟨h1, h2, h3⟩ := h
  have up : ∀ {z : Int}, z.natAbs < 2 ^ e → z.natAbs < 2 ^ (2 * e + 1) := fun h => Nat.lt_of_lt_of_le h (Nat.pow_le_pow_right (by decide) (by omega))
  cases hf : st.2.findIdx? (fz p) with
  | none => rw [eStep_none hf]; exact ⟨fun x hx => ⟨(h1 x hx).1, fun z hz => up ((h1 x hx).2 z hz)⟩, fun x hx => ⟨(h2 x hx).1, fun z hz => up ((h2 x hx).2 z hz)⟩, h3⟩
  | some i =>
    rw [eStep_some hf]
    have hi : i < st.2.length := (List.findIdx?_eq_some_iff_getElem.mp hf).1
    have hm : st.2.getD i [] ∈ st.2 := by
      rw [List.getD_eq_getElem?_getD, List.getElem?_eq_getElem hi]
      exact List.getElem_mem hi
    generalize st.2.getD i [] = b at hm
    obtain ⟨b1, b2⟩ := h2 b hm
    refine ⟨fun x hx => ?_, fun x hx => ?_, ?_⟩
    · rcases List.mem_append.mp hx with h | h
      · obtain ⟨y, hy, rfl⟩ := List.mem_map.mp h
        obtain ⟨y1, y2⟩ := h1 y hy
        exact ⟨(strk_len (by rw [b1, y1]) p).trans y1, strk_bd (by rw [y1]; exact hp) (by rw [b1]; exact hp) y2 b2⟩
      · rw [List.mem_singleton.mp h]
        exact ⟨b1, fun z hz => up (b2 z hz)⟩
    · obtain ⟨y, hy, rfl⟩ := List.mem_map.mp hx
      obtain ⟨y1, y2⟩ := h2 y (List.mem_of_mem_eraseIdx hy)
      exact ⟨(strk_len (by rw [b1, y1]) p).trans y1, strk_bd (by rw [y1]; exact hp) (by rw [b1]; exact hp) y2 b2⟩
    · show (st.1.map _ ++ [_]).length + ((st.2.eraseIdx i).map _).length = m
      rw [List.length_append, List.length_map, List.length_map, List.length_eraseIdx, if_pos hi]
      show st.1.length + 1 + (st.2.length - 1) = m
      omega
theorem echN_ok {w e : Nat} {zss : List (List Int)} (hl : ∀ zs ∈ zss, zs.length = w) (hb : ∀ zs ∈ zss, ∀ z ∈ zs, z.natAbs < 2 ^ e) : ∀ i, i ≤ w → EOk w ((e + 1) * 2 ^ i - 1) zss.length (echN zss i)
  | 0, _ => by
    refine ⟨fun x hx => absurd hx List.not_mem_nil, fun x hx => ?_, by show 0 + (zss.map prim).length = _; rw [List.length_map, Nat.zero_add]⟩
    obtain ⟨y, hy, rfl⟩ := List.mem_map.mp hx
    refine ⟨(prim_len y).trans (hl y hy), fun z hz => ?_⟩
    have pos : 0 < 2 ^ e := Nat.pow_pos (by decide)
    have := prim_bd (zs := y) (B := 2 ^ e - 1) (fun z hz => by have := hb y hy z hz; omega) z hz
    rw [Nat.pow_zero, Nat.mul_one, Nat.add_sub_cancel]
    omega
  | i + 1, h => by
    have ih := (echN_ok hl hb i (by omega)).step (p := i) (by omega)
    have e1 : 2 * ((e + 1) * 2 ^ i - 1) + 1 = (e + 1) * 2 ^ (i + 1) - 1 := by
      have : 0 < (e + 1) * 2 ^ i := Nat.mul_pos (by omega) (Nat.pow_pos (by decide))
      rw [Nat.pow_succ, ← Nat.mul_assoc]
      omega
    rw [e1] at ih
    exact ih
theorem none_ex {H H' : Hp} {p : Addr} (e : Ex H H') (h : H' p = none) : H p = none := by
  cases z : H p with
  | none => rfl
  | some o => exact absurd (h.symm.trans (e _ _ z)) (by simp)
def PairR (K : PySem.W.Frag) (H : Hp) (v : V) (x : Nat × List Int) : Prop := ∃ t u, v = .ref t ∧ SqT K H t [.int (x.1 : Nat), u] ∧ PlV K H u x.2
theorem PairR.mono {K : PySem.W.Frag} {H H' : Hp} {v : V} {x : Nat × List Int} (e : Ex H H') (h : PairR K H v x) : PairR K H' v x :=
  have ⟨t, u, h1, h2, h3⟩ := h
  ⟨t, u, h1, ex_t e h2, h3.mono e⟩
theorem pairR_upd {K : PySem.W.Frag} {H : Hp} {v : V} {x : Nat × List Int} {D : Addr} {ys : List V} {o : HO} (h : PairR K H v x) (hD : H D = some (.lst ys)) : PairR K (upd H D o) v x :=
  have ⟨t, u, h1, h2, h3⟩ := h
  ⟨t, u, h1, sqt_upd h2 hD, plv_upd h3 hD⟩
theorem erase_take {α : Type} {xs : List α} {i j : Nat} {x : α} (h : xs[i]? = some x) : (xs.take (i + 1)).eraseIdx j = if i = j then (xs.take i).eraseIdx j else (xs.take i).eraseIdx j ++ [x] := by
  have hi := (List.getElem?_eq_some_iff.mp h).1
  have hl : (xs.take i).length = i := by rw [List.length_take]; omega
  rw [List.take_add_one, h]
  show (xs.take i ++ [x]).eraseIdx j = _
  by_cases e : i = j
  · subst e
    rw [if_pos rfl, List.eraseIdx_append_of_length_le (l := xs.take i) (k := i) (by omega), hl, Nat.sub_self, List.eraseIdx_of_length_le (l := xs.take i) (k := i) (by omega)]
    simp
  · rw [if_neg e]
    by_cases lt : j < i
    · rw [List.eraseIdx_append_of_lt_length (l := xs.take i) (k := j) (by omega)]
    · rw [List.eraseIdx_of_length_le (l := xs.take i ++ [x]) (k := j) (by rw [List.length_append, hl]; show i + 1 ≤ j; omega), List.eraseIdx_of_length_le (l := xs.take i) (k := j) (by omega)]
def sp_whole_echelon (K : PySem.W.Frag) : Sp := fun vs H Q _ => ∃ (r : Addr) (wd e : Nat) (us : List V) (zss : List (List Int)), vs = [.int wd, .ref r] ∧ SqL K H r us ∧ All2 (PlV K H) us zss ∧ zss.length ≤ 500 ∧ wd ≤ 500 ∧ (e + 1) * 2 ^ wd ≤ 1491 ∧ (∀ zs ∈ zss, zs.length = wd) ∧ (∀ zs ∈ zss, ∀ z ∈ zs, z.natAbs < 2 ^ e) ∧
  ∀ H' l us', Ex H H' → H' l = some (.lst us') → All2 (PairR K H') us' (echN zss wd).1 → Q (.ref l) H'
theorem ok_whole_echelon (T : Txt K w mg ad fd) : Cal P w K mg base CX0 4 "whole_echelon" (ad 21) (fd 21) ["width", "rows"] [] [] (sp_whole_echelon K) := by
  refine ⟨T.f_whole_echelon.ok sc_whole_echelon (fun vs H Q E h => ?_) (fun cdv A outer s H vs Q E hr h => ?_), T.g_whole_echelon, T.f_whole_echelon.kp, T.f_whole_echelon.binds (ps := ["width", "rows"]) fun _ _ _ _ _ _ us hl => match us, hl with | [_, _], _ => rfl, .nil⟩
  · obtain ⟨r, wd, e, us, zss, rfl, _⟩ := h
    rfl
  · obtain ⟨r, wd, e, us, zss, rfl, hL, hz, hm, hw, he, hlen, hbd, q⟩ := h
    have sz : sizeLine = 16777216 := sizeLine_eq
    have p0 : 1 ≤ 2 ^ wd := Nat.pow_pos (by decide)
    have e9 : e ≤ 1490 := by
      have : (e + 1) * 1 ≤ (e + 1) * 2 ^ wd := Nat.mul_le_mul_left _ p0
      omega
    refine ⟨_, (pss_cons (ps_set (i := 2) sc_whole_echelon.nd rfl (by first | exact Or.inl rfl | exact Or.inr rfl) (pe_lst pa_nil))
    (pss_cons (ps_setLc (i := 3) (own := [("row", 4)]) rfl sc_whole_echelon.nd rfl rfl (sw_true rfl rfl rfl (by decide +kernel)) (pi_list (pv 1)) (blkOk_by (N := ["width", "rows", "done", "left", "row", "place", "at", "by", "pivot", "k"]) (sc := defScope s_whole_echelon) (by decide +kernel)) (fun _ _ _ _ _ => (pg_name (i := 4) sc_whole_echelon.nd rfl (by first | exact Or.inl rfl | exact Or.inr rfl))) (fun _ _ _ _ _ => pts_nil) (fun _ _ _ _ _ => (pe_cal (ok_primitive T (P := P) (w := w) (base := base)) (hr.mono (by decide)) pass0 (pa_cons (pv 4) pa_nil))))
    (pss_cons (ps_for (by first | exact PassesOwn.never | exact passes_of rfl) rfl (pi_range1 rfl T.m_range (pa_cons (pv 0) pa_nil)) (pg_name (i := 5) sc_whole_echelon.nd rfl (by first | exact Or.inl rfl | exact Or.inr rfl))
      (pss_cons (ps_set (i := 6) sc_whole_echelon.nd rfl (by first | exact Or.inl rfl | exact Or.inr rfl) (pe_cal (ok_first_row_with T (P := P) (w := w) (base := base)) (hr.mono (by decide)) pass0 (pa_cons (pv 3) (pa_cons (pv 5) pa_nil))))
    (pss_one (ps_if (pt_cmpR op_notN (pv 6) pe_non (nomark _)) (pss_cons (ps_set (i := 7) sc_whole_echelon.nd rfl (by first | exact Or.inl rfl | exact Or.inr rfl) (pe_ix (ix_listK (K := K)) (pv 3) (pv 6) (fun _ _ => rfl)))
    (pss_cons (ps_setLc (i := 2) (own := [("pivot", 8), ("row", 4)]) (g := gTup K 2 (gCons (gName 8) (gCons (gName 4) gNil))) rfl sc_whole_echelon.nd rfl rfl (sw_true rfl rfl rfl (by decide +kernel)) (pi_list (pv 2)) (blkOk_by (N := ["width", "rows", "done", "left", "row", "place", "at", "by", "pivot", "k"]) (sc := defScope s_whole_echelon) (by decide +kernel)) (fun _ _ _ _ _ => (pg_tup (n := 2) rfl (pgs_cons (pg_name (i := 8) sc_whole_echelon.nd rfl (by first | exact Or.inl rfl | exact Or.inr rfl)) (pgs_cons (pg_name (i := 4) sc_whole_echelon.nd rfl (by first | exact Or.inl rfl | exact Or.inr rfl)) pgs_nil)))) (fun _ _ _ _ _ => pts_nil) (fun _ _ _ _ _ => (pe_tup (pa_cons (pv 8) (pa_cons (pe_cal (ok_struck T (P := P) (w := w) (base := base)) (hr.mono (by decide)) pass0 (pa_cons (pv 4) (pa_cons (pv 7) (pa_cons (pv 5) pa_nil)))) pa_nil)))))
    (pss_cons (ps_expr (pe_bm PySem.F.plainAttrs_list PySem.F.slot_list_append PySem.F.type_list_append mt_append (pv 2) (pa_cons (pe_tup (pa_cons (pv 5) (pa_cons (pv 7) pa_nil))) pa_nil)))
    (pss_one (ps_setLc (i := 3) (own := [("k", 9), ("row", 4)]) (g := gTup K 2 (gCons (gName 9) (gCons (gName 4) gNil))) rfl sc_whole_echelon.nd rfl rfl (sw_true rfl rfl rfl (by decide +kernel)) (pi_enumS (by rfl) T.m_enumerate (pa_cons (pv 3) pa_nil)) (blkOk_by (N := ["width", "rows", "done", "left", "row", "place", "at", "by", "pivot", "k"]) (sc := defScope s_whole_echelon) (by decide +kernel)) (fun _ _ _ _ _ => (pg_tup (n := 2) rfl (pgs_cons (pg_name (i := 9) sc_whole_echelon.nd rfl (by first | exact Or.inl rfl | exact Or.inr rfl)) (pgs_cons (pg_name (i := 4) sc_whole_echelon.nd rfl (by first | exact Or.inl rfl | exact Or.inr rfl)) pgs_nil)))) (fun _ _ _ _ _ => (pts_one (pt_cmpR op_ne (pv 9) (pv 6) (nomark _)))) (fun _ _ _ _ _ => (pe_cal (ok_struck T (P := P) (w := w) (base := base)) (hr.mono (by decide)) pass0 (pa_cons (pv 4) (pa_cons (pv 7) (pa_cons (pv 5) pa_nil)))))))))) pss_nil))))
    (pss_one (ps_ret (pv 2)))))), ?_⟩
    refine ⟨Nat.zero_le _, fun Dn hDn => ?_⟩
    have e0 := Ex.new (o := .lst []) hDn
    have hD0 : (upd H Dn (.lst [])) Dn = some (.lst []) := upd_same
    generalize upd H Dn (.lst []) = H0 at e0 hD0 ⊢
    refine ⟨.ref r, rfl, r, rfl, ⟨_, ex_l e0 hL⟩, fun Lf hLf => ?_⟩
    refine lc_acc (l := none) (wk_list (K := K) (fun z => nomatch z) (ex_l e0 hL)) hLf (fun i acc H' => All2 (PlV K H') acc ((zss.map prim).take i)) .nil (fun _ _ _ _ e h => h.imp fun _ _ h => h.mono e) ?_ ?_
    · rintro i x H1 acc hi ex hy hl' ha hx
      obtain ⟨zs, hzs, p1, rfl, hp1⟩ := hz.get hx
      have hzm := List.mem_of_getElem? hzs
      refine ⟨rfl, ?_⟩
      refine ⟨_, rfl, .tup p1, zs, rfl, trivial, ex_t (e0.trans ex.ex) hp1, by rw [hlen zs hzm]; omega, fun z hz' => ?_, fun H2 v e2 h2 => ?_⟩
      · exact Nat.le_of_lt (Nat.lt_of_lt_of_le (hbd zs hzm z hz') (Nat.pow_le_pow_right (by decide) (by omega)))
      · refine LcP.push hLf (ex.trans (Exo.of e2)) (e2 _ _ hy) hl' (by have := hz.1; omega) ?_
        rw [List.take_add_one, List.getElem?_map, hzs]
        exact (ha.imp fun _ _ h => plv_upd (h.mono e2) (e2 _ _ hy)).app (.cons (plv_upd h2 (e2 _ _ hy)) .nil)
    rintro H1 ws0 e1 hy1 ha1
    have e1 := e1.ex
    rw [hz.1, ← List.length_map (f := prim), List.take_length] at ha1
    have ok := fun i hi => echN_ok (w := wd) (e := e) hlen hbd i hi
    change Ends.nx _ _ _
    dsimp only
    refine ⟨_, rfl, wd, rfl, by omega, by omega, for_range (lo := 0) (n := wd) (fun i σ H' => ∃ (Da La : Addr) (us' ws : List V) (c5 c6 c7 : Option V), σ = [some (.int wd), some (.ref r), some (.ref Da), some (.ref La), none, c5, c6, c7, none, none] ∧ Ex H H' ∧ H' Da = some (.lst us') ∧ All2 (PairR K H') us' (echN zss i).1 ∧ H' La = some (.lst ws) ∧ All2 (PlV K H') ws (echN zss i).2)
      ⟨Dn, Lf, [], ws0, none, none, none, rfl, e0.trans e1, e1 _ _ hD0, .nil, hy1, ha1⟩ ?_ ?_⟩
    · rintro i σ H2 hi ⟨Da, La, us', ws, c5, c6, c7, rfl, e2, hDa, hza, hLa, hzl⟩
      obtain ⟨o1, o2, o3⟩ := ok i (by omega)
      have hei : (e + 1) * 2 ^ i - 1 ≤ 1490 := by
        have : (e + 1) * 2 ^ i ≤ (e + 1) * 2 ^ wd := Nat.mul_le_mul_left _ (Nat.pow_le_pow_right (by decide) (by omega))
        omega
      generalize (e + 1) * 2 ^ i - 1 = ei at o1 o2 hei
      have hst : echN zss (i + 1) = eStep i (echN zss i) := rfl
      rw [hst]
      generalize echN zss i = st at o1 o2 o3 hza hzl ⊢
      have ei0 : (0 + (i : Int)) = (i : Int) := by omega
      rw [ei0]
      refine ⟨_, rfl, _, rfl, La, i, ws, st.2, rfl, SqL.of hLa, hzl, by omega, fun zs hzs => by rw [(o2 zs hzs).1]; exact hi, fun H3 e3 => ⟨fun j hj => ?_, fun hn => ?_⟩⟩
      · rw [eStep_some hj]
        have hjl : j < st.2.length := (List.findIdx?_eq_some_iff_getElem.mp hj).1
        have hnn : (!decide (V.int (j : Nat) = V.non)) = true := by simp
        refine ⟨_, rfl, rfl, _, rfl, ?_⟩
        rw [hnn]
        refine iteT ?_
        have hz3 := hzl.imp fun _ _ h => h.mono e3
        have hza3 := hza.imp fun _ _ h => h.mono e3
        have hD3 := e3 _ _ hDa
        have hL3 := e3 _ _ hLa
        obtain ⟨u, hu⟩ : ∃ u, ws[j]? = some u := ⟨_, List.getElem?_eq_getElem (by rw [hz3.1]; exact hjl)⟩
        obtain ⟨b, hb, hpb⟩ := hz3.get hu
        have hgb : st.2.getD j [] = b := by rw [List.getD_eq_getElem?_getD, hb]; rfl
        rw [hgb]
        obtain ⟨b1, b2⟩ := o2 b (List.mem_of_getElem? hb)
        refine ⟨_, rfl, _, rfl, La, ws, j, u, rfl, rfl, SqL.of hL3, atI_nat hu, ?_⟩
        -- done, struck
        refine ⟨_, rfl, Da, rfl, ⟨_, SqL.of hD3⟩, fun D4 hD4 => ?_⟩
        refine lc_acc (l := none) (wk_list (K := K) (fun z => nomatch z) (SqL.of hD3)) hD4 (fun k acc H' => All2 (PairR K H') acc ((st.1.map fun x : Nat × List Int => ((x.1, strk x.2 b i) : Nat × List Int)).take k)) .nil (fun _ _ _ _ e h => h.imp fun _ _ h => h.mono e) ?_ ?_
        · rintro k x H5 acc hk e5 hy hl' ha hx
          obtain ⟨⟨pp, row⟩, hxs, t, v, rfl, ht, hv⟩ := hza3.get hx
          obtain ⟨y1, y2⟩ := o1 _ (List.mem_of_getElem? hxs)
          have y1 : row.length = wd := y1
          refine ⟨t, _, rfl, ex_t e5.ex ht, rfl, ?_⟩
          refine ⟨_, _, rfl, _, _, rfl, rfl, rfl, ?_⟩
          refine ⟨_, rfl, _, rfl, _, rfl, _, rfl, v, u, i, ei, row, b, rfl, hv.mono e5.ex, hpb.mono e5.ex, by omega, by omega, by omega, by omega, hei, y2, b2, fun H6 v6 e6 h6 => ⟨by show (2 : Nat) ≤ sizeLine; omega, fun t6 ht6 => ?_⟩⟩
          have e7 := Ex.new (o := .tup [.int (pp : Nat), v6]) ht6
          have hy7 := e7 _ _ (e6 _ _ hy)
          refine LcP.push hD4 (e5.trans (Exo.of (e6.trans e7))) hy7 hl' (by have := hza.1; omega) ?_
          rw [List.take_add_one, List.getElem?_map, hxs]
          exact (ha.imp fun _ _ h => pairR_upd (h.mono (e6.trans e7)) hy7).app (.cons (pairR_upd ⟨t6, v6, rfl, SqT.of upd_same, h6.mono e7⟩ hy7) .nil)
        rintro H5 ac5 e5 hy5 ha5
        have e5 := e5.ex
        rw [hza.1, ← List.length_map (f := fun x : Nat × List Int => (x.1, strk x.2 b i)), List.take_length] at ha5
        change Ends.nx _ _ _
        dsimp only
        -- append
        have hD50 : H D4 = none := none_ex (e2.trans e3) hD4
        refine ⟨_, rfl, .inl ⟨rfl, _, SqL.of hy5⟩, ?_⟩
        refine ⟨_, rfl, _, rfl, by show (2 : Nat) ≤ sizeLine; omega, fun t6 ht6 => ?_⟩
        have e6 := Ex.new (o := .tup [.int (i : Nat), u]) ht6
        have hy6 := e6 _ _ hy5
        have l5 : ac5.length = st.1.length := by rw [ha5.1, List.length_map]
        refine ⟨D4, ac5, .ref t6, rfl, rfl, hy6, by omega, ?_⟩
        have e36 := (e2.trans e3).trans (e5.trans e6)
        have e7 := Ex.mut e36 hD50 (o := .lst (ac5 ++ [.ref t6]))
        have h8a : All2 (PairR K (upd (upd H5 t6 (.tup [.int (i : Nat), u])) D4 (.lst (ac5 ++ [.ref t6])))) (ac5 ++ [.ref t6]) (st.1.map (fun x => (x.1, strk x.2 b i)) ++ [(i, b)]) :=
          (ha5.imp fun _ _ h => pairR_upd (h.mono e6) hy6).app (.cons (pairR_upd ⟨t6, u, rfl, SqT.of upd_same, hpb.mono (e5.trans e6)⟩ hy6) .nil)
        have hL7 : (upd (upd H5 t6 (.tup [.int (i : Nat), u])) D4 (.lst (ac5 ++ [.ref t6]))) La = some (.lst ws) := by
          rw [upd_ne (ne_of_none hL3 hD4)]
          exact (e5.trans e6) _ _ hL3
        have hz7 := hz3.imp fun _ _ h => plv_upd (o := .lst (ac5 ++ [.ref t6])) (h.mono (e5.trans e6)) hy6
        have hb7 := plv_upd (o := .lst (ac5 ++ [.ref t6])) (hpb.mono (e5.trans e6)) hy6
        have hD7 : (upd (upd H5 t6 (.tup [.int (i : Nat), u])) D4 (.lst (ac5 ++ [.ref t6]))) D4 = some (.lst (ac5 ++ [.ref t6])) := upd_same
        generalize upd (upd H5 t6 (.tup [.int (i : Nat), u])) D4 (.lst (ac5 ++ [.ref t6])) = H7 at e7 h8a hL7 hz7 hb7 hD7 ⊢
        -- left, struck
        refine ⟨_, rfl, .lst La, ws, rfl, SqL.of hL7, fun D8 hD8 => ?_⟩
        refine lc_acc (l := none) (wk_enum (S := .lst La) (fun z => nomatch z) (SqL.of hL7)) hD8 (fun k acc H' => All2 (PlV K H') acc (((st.2.take k).eraseIdx j).map fun x => strk x b i)) (by simp; exact .nil) (fun _ _ _ _ e h => h.imp fun _ _ h => h.mono e) ?_ ?_
        · rintro k x H9 acc hk e9 hy hl' ha ⟨t, v, rfl, ht, hx⟩
          obtain ⟨row, hrow, hv⟩ := hz7.get hx
          obtain ⟨y1, y2⟩ := o2 _ (List.mem_of_getElem? hrow)
          refine ⟨t, _, rfl, SqT.of ht, rfl, ?_⟩
          refine ⟨_, _, rfl, _, _, rfl, rfl, rfl, ?_⟩
          refine ⟨_, rfl, _, rfl, rfl, _, rfl, ?_⟩
          have hkj : decide (V.int ((k : Nat) : Int) = V.int ((j : Nat) : Int)) = decide (k = j) := by
            by_cases h : k = j
            · rw [h, decide_eq_true rfl, decide_eq_true rfl]
            · rw [decide_eq_false h, decide_eq_false (fun e => h (by have := V.int.inj e; omega))]
          rw [hkj]
          have het := erase_take (j := j) hrow
          by_cases hkj2 : k = j
          · rw [decide_eq_true hkj2]
            refine iteF (LcP.skip e9 hy hl' ?_)
            rw [het, if_pos hkj2]
            exact ha
          · rw [decide_eq_false hkj2]
            refine iteT ⟨_, rfl, _, rfl, _, rfl, v, u, i, ei, row, b, rfl, hv.mono e9.ex, hb7.mono e9.ex, by omega, by omega, by omega, by omega, hei, y2, b2, fun H6 v6 e6 h6 => ?_⟩
            have hy6 := e6 _ _ hy
            refine LcP.push hD8 (e9.trans (Exo.of e6)) hy6 hl' (by have := hz7.1; omega) ?_
            rw [het, if_neg hkj2, List.map_append]
            exact (ha.imp fun _ _ h => plv_upd (h.mono e6) hy6).app (.cons (plv_upd h6 hy6) .nil)
        · rintro H9 ac9 e9 hy9 ha9
          have e9 := e9.ex
          rw [hz7.1, List.take_length] at ha9
          exact ⟨D4, D8, _, ac9, _, _, _, rfl, e7.trans e9, e9 _ _ hD7, h8a.imp fun _ _ h => h.mono e9, hy9, ha9⟩
      · rw [eStep_none hn]
        have hnn : (!decide (V.non = V.non)) = false := by simp
        refine ⟨_, rfl, rfl, _, rfl, ?_⟩
        rw [hnn]
        exact iteF ⟨Da, La, us', ws, _, _, _, rfl, e2.trans e3, e3 _ _ hDa, hza.imp fun _ _ h => h.mono e3, e3 _ _ hLa, hzl.imp fun _ _ h => h.mono e3⟩
    · rintro σ H2 ⟨Da, La, us', ws, c5, c6, c7, rfl, e2, hDa, hza, hLa, hzl⟩
      exact ⟨_, rfl, q H2 Da us' e2 hDa hza⟩
/-! ### the list of planes, an object -/
def pflds (n : Int) (r : Addr) : List (Str × V) := putF "_rows" (.ref r) (putF "n" (.int n) [])
theorem kn : ¬ (("n" : Str) = "_rows") := by decide +kernel
theorem pflds_n (n : Int) (r : Addr) : (pflds n r).lookup ("n" : Str) = some (.int n) := by
  unfold pflds
  rw [lookup_putF, if_neg kn, lookup_putF, if_pos rfl]
theorem pflds_rows (n : Int) (r : Addr) : (pflds n r).lookup ("_rows" : Str) = some (.ref r) := by
  unfold pflds
  rw [lookup_putF, if_pos rfl]
theorem pflds_no (n : Int) (r : Addr) {m : Str} (h1 : ¬ m = "n") (h2 : ¬ m = "_rows") : (pflds n r).lookup m = none := by
  unfold pflds
  rw [lookup_putF, if_neg h2, lookup_putF, if_neg h1]
  all_goals rfl
structure PlsAt (K : PySem.W.Frag) (C : Addr) (H : Hp) (a r : Addr) (n : Nat) (zss : List (List Int)) : Prop where
  ob : ∃ dx, H a = some (.ins C dx (pflds n r))
  rw : ∃ us, H r = some (.lst us) ∧ All2 (PlV K H) us zss
  n1 : 1 ≤ n
  n4 : n ≤ 4
  ok : PlanesOk n zss
theorem PlsAt.mono {K : PySem.W.Frag} {C : Addr} {H H' : Hp} {a r : Addr} {n : Nat} {zss : List (List Int)} (e : Ex H H') (h : PlsAt K C H a r n zss) : PlsAt K C H' a r n zss := by
  obtain ⟨⟨dx, h1⟩, ⟨us, h2, h3⟩, a1, a4, ok⟩ := h
  exact ⟨⟨dx, e _ _ h1⟩, ⟨us, e _ _ h2, h3.imp fun _ _ z => z.mono e⟩, a1, a4, ok⟩
theorem none_of {H H' : Hp} {p : Addr} (e : Ex H H') (h : H' p = none) : H p = none := by
  cases z : H p with
  | none => rfl
  | some o =>
    have := e _ _ z
    rw [h] at this
    cases this
def sp_Planes_init (K : PySem.W.Frag) (C : Addr) : Sp := fun vs H Q _ => ∃ (a dx : Addr) (n : Nat) (r : Addr) (us : List V) (zss : List (List Int)), vs = [.ref a, .int n, .ref r] ∧ H a = some (.ins C dx []) ∧ 1 ≤ n ∧ n ≤ 4 ∧ SqL K H r us ∧ All2 (PlV K H) us zss ∧ PlanesOk n zss ∧
  ∀ H' r', (∀ b o, b ≠ a → H b = some o → H' b = some o) → H r' = none → PlsAt K C H' a r' n zss → Q .non H'
theorem ok_Planes_init (T : Txt K w mg ad fd) : CalM P w K mg base CX0 4 (ad 1660) (fd 1660) ["self", "n", "rows"] (sp_Planes_init K (ad 33)) := by
  refine ⟨T.f_Planes_init.ok sc_Planes_init (fun vs H Q E h => ?_) (fun cdv A outer s H vs Q E hr h => ?_), T.f_Planes_init.binds (ps := ["self", "n", "rows"]) fun _ _ _ _ _ _ us hl => match us, hl with | [_, _, _], _ => rfl⟩
  · obtain ⟨a, dx, n, r, us, zss, rfl, _⟩ := h
    rfl
  · obtain ⟨a, dx, n, r, us, zss, rfl, ha, n1, n4, hL, hz, hok, q⟩ := h
    have sz : sizeLine = 16777216 := sizeLine_eq
    refine ⟨_, (pss_cons (ps_expr (pe_cal (ok_check_planes T (P := P) (w := w) (base := base)) (hr.mono (by decide)) pass0 (pa_cons (pv 1) (pa_cons (pv 2) pa_nil))))
    (pss_cons (ps_fld (pv 0) (pv 1) rfl)
    (pss_one (ps_fld (pv 0) (pe_callTy (T := "list") (call_listS rfl) (by rfl) T.m_list (by decide +kernel) (pa_cons (pv 2) pa_nil)) rfl)))), ?_⟩
    refine ⟨_, rfl, _, rfl, n, r, us, zss, rfl, n1, n4, hL, hz, hok, fun H1 e1 => ?_⟩
    have ha1 := e1 _ _ ha
    refine ⟨_, rfl, _, rfl, a, _, dx, [], rfl, ha1, T.cl_Planes, T.na_Planes_n, (by show 0 < 1000; decide), ?_⟩
    have hlu : us.length ≤ sizeLine := by rw [hz.1]; have := hok.1; omega
    have hL2 : SqL K (upd H1 a (.ins (ad 33) dx (putF "n" (.int n) []))) r us := by
      rcases ex_l e1 hL with (h | ⟨u, h⟩) | h
      · exact .inl (.inl (by rw [upd_ne (ne_of h ha1 (fun z => nomatch z))]; exact h))
      · exact .inl (.inr ⟨u, by rw [upd_ne (ne_of h ha1 (fun z => nomatch z))]; exact h⟩)
      · exact .inr h
    refine ⟨_, rfl, .lst r, us, rfl, hL2, hlu, fun l hl => ?_⟩
    have nla : l ≠ a := (ne_of_none upd_same hl).symm
    refine ⟨_, rfl, a, _, dx, _, rfl, by rw [upd_ne nla.symm]; exact upd_same, T.cl_Planes, T.na_Planes__rows, (by show 1 < 1000; decide), ?_⟩
    have hl1 : H1 l = none := by rwa [upd_ne nla] at hl
    refine q _ l (fun b o nb hb => ?_) (none_of e1 hl1) ⟨⟨dx, upd_same⟩, ⟨us, by rw [upd_ne nla, upd_same], hz.imp fun v zs h => ?_⟩, n1, n4, hok⟩
    · rw [upd_ne nb, upd_ne (ne_of_none (e1 _ _ hb) hl1), upd_ne nb]
      exact e1 _ _ hb
    · obtain ⟨p, hv, hp⟩ := h
      refine ⟨p, hv, ?_⟩
      rcases ex_t e1 hp with (h | ⟨u, h⟩) | h
      · have n1 := ne_of h ha1 (fun z => nomatch z)
        exact .inl (.inl (by rw [upd_ne n1, upd_ne (ne_of_none h hl1), upd_ne n1]; exact h))
      · have n1 := ne_of h ha1 (fun z => nomatch z)
        exact .inl (.inr ⟨u, by rw [upd_ne n1, upd_ne (ne_of_none h hl1), upd_ne n1]; exact h⟩)
      · exact .inr h
def sp_Planes_len (K : PySem.W.Frag) (C : Addr) : Sp := fun vs H Q _ => ∃ (a r : Addr) (n : Nat) (zss : List (List Int)), vs = [.ref a] ∧ PlsAt K C H a r n zss ∧ ∀ H', Ex H H' → Q (.int (zss.length : Nat)) H'
theorem ok_Planes_len (T : Txt K w mg ad fd) : CalM P w K mg base CX0 1 (ad 1661) (fd 1661) ["self"] (sp_Planes_len K (ad 33)) := by
  refine ⟨T.f_Planes_len.ok sc_Planes_len (fun vs H Q E h => ?_) (fun cdv A outer s H vs Q E hr h => ?_), T.f_Planes_len.binds (ps := ["self"]) fun _ _ _ _ _ _ us hl => match us, hl with | [_], _ => rfl⟩
  · obtain ⟨a, r, n, zss, rfl, _⟩ := h
    rfl
  · obtain ⟨a, r, n, zss, rfl, ⟨⟨dx, ha⟩, ⟨us, hr', hz⟩, _⟩, q⟩ := h
    refine ⟨_, (pss_one (ps_ret (pe_callB call_len_seq (by rfl) T.m_len PySem.boot_len (pa_cons (pe_fldK (K := K) (pv 0) rfl) pa_nil)))), ?_⟩
    refine ⟨_, rfl, a, _, dx, _, _, rfl, ha, T.cl_Planes, T.na_Planes__rows, pflds_rows _ _, r, us, rfl, .inl (SqL.of hr'), ?_⟩
    rw [hz.1]
    exact q H (Ex.refl H)
def sp_Planes_planes (K : PySem.W.Frag) (C : Addr) : Sp := fun vs H Q _ => ∃ (a r : Addr) (n : Nat) (zss : List (List Int)), vs = [.ref a] ∧ PlsAt K C H a r n zss ∧ ∀ H' l us, Ex H H' → H' l = some (.lst us) → All2 (PlV K H') us zss → Q (.ref l) H'
theorem ok_Planes_planes (T : Txt K w mg ad fd) : CalM P w K mg base CX0 1 (ad 1663) (fd 1663) ["self"] (sp_Planes_planes K (ad 33)) := by
  refine ⟨T.f_Planes_planes.ok sc_Planes_planes (fun vs H Q E h => ?_) (fun cdv A outer s H vs Q E hr h => ?_), T.f_Planes_planes.binds (ps := ["self"]) fun _ _ _ _ _ _ us hl => match us, hl with | [_], _ => rfl⟩
  · obtain ⟨a, r, n, zss, rfl, _⟩ := h
    rfl
  · obtain ⟨a, r, n, zss, rfl, ⟨⟨dx, ha⟩, ⟨us, hr', hz⟩, n1, n4, hok⟩, q⟩ := h
    have sz : sizeLine = 16777216 := sizeLine_eq
    refine ⟨_, (pss_one (ps_ret (pe_callTy (T := "list") (call_listS rfl) (by rfl) T.m_list (by decide +kernel) (pa_cons (pe_fldK (K := K) (pv 0) rfl) pa_nil)))), ?_⟩
    refine ⟨_, rfl, a, _, dx, _, _, rfl, ha, T.cl_Planes, T.na_Planes__rows, pflds_rows _ _, .lst r, us, rfl, SqL.of hr', by rw [hz.1]; have := hok.1; omega, fun l hl => ?_⟩
    exact q _ l us (Ex.new hl) upd_same (hz.imp fun _ _ h => h.mono (Ex.new hl))
/-! ### sides -/
def sgC (w : Int) : Nat := if 0 < w then 43 else if w < 0 then 45 else 48
def one (c : Nat) : Str := ⟨#[c]⟩
def strC (cs : List Nat) : Str := ⟨cs.toArray⟩
def pr (ps : List (Int × Int)) : Int := ps.foldr (fun x a => x.2 * a) 1
theorem pr_pos : ∀ {ps : List (Int × Int)}, (∀ x ∈ ps, 1 ≤ x.2) → 1 ≤ pr ps
  | [], _ => by decide
  | x :: ps, h => by
    have h1 := h x (by simp)
    have h2 := pr_pos (ps := ps) fun y hy => h y (List.mem_cons_of_mem _ hy)
    show 1 ≤ x.2 * pr ps
    have := Int.mul_pos (show 0 < x.2 by omega) (show 0 < pr ps by omega)
    omega
theorem pr_dvd : ∀ {ps : List (Int × Int)}, ∀ x ∈ ps, x.2 ∣ pr ps
  | [], x, h => absurd h List.not_mem_nil
  | y :: ps, x, h => by
    show x.2 ∣ y.2 * pr ps
    rcases List.mem_cons.mp h with e | h
    · rw [e]
      exact Int.dvd_mul_right _ _
    · exact Int.dvd_trans (pr_dvd x h) (Int.dvd_mul_left _ _)
theorem PtOk.pos {ps : List (Int × Int)} (h : PtOk ps) : 1 ≤ pr ps := pr_pos fun x hx => (h.2 x hx).1.1
theorem pr_mul {ps : List (Int × Int)} {x : Int × Int} (hx : x ∈ ps) : x.2 * (pr ps / x.2) = pr ps := Int.mul_ediv_cancel' (pr_dvd x hx)
def wP (ps : List (Int × Int)) : List Int := ps.map (fun x => x.1 * (pr ps / x.2)) ++ [-(pr ps)]
def sideC (zs : List Int) (ps : List (Int × Int)) : Nat := sgC (dot zs (wP ps))
def rowC (zss : List (List Int)) (ps : List (Int × Int)) : List Nat := zss.map fun zs => sideC zs ps
theorem dot_smul (c : Int) : ∀ zs ys : List Int, dot zs (ys.map fun y => c * y) = c * dot zs ys
  | [], ys => by unfold dot; simp
  | z :: zs, [] => by unfold dot; simp
  | z :: zs, y :: ys => by
    have ih := dot_smul c zs ys
    unfold dot at ih ⊢
    rw [List.map_cons, List.zipWith_cons_cons, List.zipWith_cons_cons, List.sum_cons, List.sum_cons, ih, Int.mul_add, Int.mul_left_comm]
theorem sgC_scale {A B C D : Int} (h : C * A = D * B) (hC : 1 ≤ C) (hD : 1 ≤ D) : sgC A = sgC B := by
  have key : (0 < A ↔ 0 < B) ∧ (A < 0 ↔ B < 0) := by
    refine ⟨⟨fun ha => ?_, fun hb => ?_⟩, ⟨fun ha => ?_, fun hb => ?_⟩⟩
    · refine Classical.byContradiction fun hn => ?_
      have h1 : 0 < C * A := Int.mul_pos (by omega) ha
      have h2 : D * B ≤ 0 := Int.mul_nonpos_of_nonneg_of_nonpos (by omega) (by omega)
      omega
    · refine Classical.byContradiction fun hn => ?_
      have h1 : 0 < D * B := Int.mul_pos (by omega) hb
      have h2 : C * A ≤ 0 := Int.mul_nonpos_of_nonneg_of_nonpos (by omega) (by omega)
      omega
    · refine Classical.byContradiction fun hn => ?_
      have h1 : C * A < 0 := Int.mul_neg_of_pos_of_neg (by omega) ha
      have h2 : 0 ≤ D * B := Int.mul_nonneg (by omega) (by omega)
      omega
    · refine Classical.byContradiction fun hn => ?_
      have h1 : D * B < 0 := Int.mul_neg_of_pos_of_neg (by omega) hb
      have h2 : 0 ≤ C * A := Int.mul_nonneg (by omega) (by omega)
      omega
  unfold sgC
  simp only [key.1, key.2]
theorem side_of {ps : List (Int × Int)} (hok : PtOk ps) {ws : List Int} {D : Int} (hD : 1 ≤ D) (hl : ws.length = ps.length) (hw : ∀ (i : Nat) (x : Int × Int) (y : Int), ps[i]? = some x → ws[i]? = some y → y * x.2 = x.1 * D) (zs : List Int) :
    sgC (dot zs (ws ++ [-D])) = sideC zs ps := by
  refine sgC_scale (C := pr ps) (D := D) ?_ hok.pos hD
  rw [← dot_smul, ← dot_smul]
  congr 1
  unfold wP
  rw [List.map_append, List.map_append]
  congr 1
  · refine List.ext_getElem? fun i => ?_
    rw [List.getElem?_map, List.getElem?_map, List.getElem?_map]
    cases hp : ps[i]? with
    | none =>
      have : ws[i]? = none := List.getElem?_eq_none (by rw [hl]; exact List.getElem?_eq_none_iff.mp hp)
      rw [this]
      rfl
    | some x =>
      have hi := (List.getElem?_eq_some_iff.mp hp).1
      have hwi : ws[i]? = some (ws[i]'(by omega)) := List.getElem?_eq_getElem _
      have e := hw i x _ hp hwi
      rw [hwi]
      obtain ⟨hn, _, hb4⟩ := hok.2 x (List.mem_of_getElem? hp)
      have e12 := pr_mul (List.mem_of_getElem? hp)
      show some (pr ps * ws[i]'(by omega)) = some (D * (x.1 * (pr ps / x.2)))
      congr 1
      generalize ws[i]'(by omega) = y at e ⊢
      generalize pr ps / x.2 = k at e12 ⊢
      have : x.2 * k * y = D * (x.1 * k) := by
        rw [show x.2 * k * y = y * x.2 * k by ac_rfl, e]
        ac_rfl
      rw [← this, e12]
  · show [pr ps * -D] = [D * -(pr ps)]
    rw [Int.mul_neg, Int.mul_neg, Int.mul_comm]
theorem joinS_one : ∀ cs : List Nat, Str.join ("" : Str) (cs.map one) = strC cs
  | [] => rfl
  | [c] => rfl
  | c :: d :: r => by
    have ih := joinS_one (d :: r)
    show one c ++ ("" : Str) ++ Str.join ("" : Str) (one d :: r.map one) = strC (c :: d :: r)
    rw [show Str.join ("" : Str) (one d :: r.map one) = Str.join ("" : Str) ((d :: r).map one) from rfl, ih]
    show (⟨(#[c] ++ #[]) ++ (d :: r).toArray⟩ : Str) = ⟨(c :: d :: r).toArray⟩
    congr 1
    simp
theorem join_one (cs : List Nat) : Txt.join ("" : Str) (cs.map one) = strC cs := by
  show Builtin.Str.glued ("" : Str) (cs.map one) = strC cs
  rw [StrLaws.glued_eq_join, joinS_one]
theorem sum_one (cs : List Nat) : ((cs.map one).map (·.length)).sum = cs.length := by
  induction cs with
  | nil => rfl
  | cons c cs ih =>
    rw [List.map_cons, List.map_cons, List.sum_cons, ih, List.length_cons]
    show 1 + cs.length = cs.length + 1
    omega
theorem chars_strC (cs : List Nat) : chars (strC cs) = cs.map fun c => V.str (one c) := rfl
def sp_sign_letter : Sp := fun vs H Q _ => ∃ a : Int, vs = [.int a] ∧ Q (.str (one (sgC a))) H
theorem ok_sign_letter (T : Txt K w mg ad fd) : Cal P w K mg base CX0 1 "sign_letter" (ad 34) (fd 34) ["a"] [] [] sp_sign_letter := by
  refine ⟨T.f_sign_letter.ok sc_sign_letter (fun vs H Q E h => ?_) (fun cdv A outer s H vs Q E hr h => ?_), T.g_sign_letter, T.f_sign_letter.kp, T.f_sign_letter.binds (ps := ["a"]) fun _ _ _ _ _ _ us hl => match us, hl with | [_], _ => rfl, .nil⟩
  · obtain ⟨a, rfl, _⟩ := h
    rfl
  · obtain ⟨a, rfl, q⟩ := h
    refine ⟨_, (pss_cons (ps_if (pt_cmpR op_gt (pv 0) pe_int (nomark _)) (pss_one (ps_ret pe_str)) pss_nil)
    (pss_cons (ps_if (pt_cmpR op_lt (pv 0) pe_int (nomark _)) (pss_one (ps_ret pe_str)) pss_nil)
    (pss_one (ps_ret pe_str)))), ?_⟩
    refine ⟨_, rfl, _, _, rfl, rfl, _, rfl, ite2 (fun z => ?_) (fun z => ?_)⟩
    · have z' : 0 < a := of_decide_eq_true z
      unfold sgC at q
      rw [if_pos z'] at q
      exact q
    · have z' : ¬ 0 < a := fun e => z (decide_eq_true e)
      refine ⟨_, rfl, _, _, rfl, rfl, _, rfl, ite2 (fun y => ?_) (fun y => ?_)⟩
      · have y' : a < 0 := of_decide_eq_true y
        unfold sgC at q
        rw [if_neg z', if_pos y'] at q
        exact q
      · have y' : ¬ a < 0 := fun e => y (decide_eq_true e)
        unfold sgC at q
        rw [if_neg z', if_neg y'] at q
        exact q
def sp_sides_of (K : PySem.W.Frag) (C : Addr) : Sp := fun vs H Q _ => ∃ (a r : Addr) (n : Nat) (zss : List (List Int)) (v : V) (ps : List (Int × Int)), vs = [.ref a, v] ∧ PlsAt K C H a r n zss ∧ PtV K H v ps ∧ PtOk ps ∧
  ∀ H' l, Ex H H' → H' l = some (.lst ((rowC zss ps).map fun c => V.str (one c))) → Q (.ref l) H'
theorem w_small {ps : List (Int × Int)} (hok : PtOk ps) {ws : List Int} {D : Int} (hD : 1 ≤ D) (hD2 : D ≤ 20736) (hl : ws.length = ps.length) (hw : ∀ (i : Nat) (x : Int × Int) (y : Int), ps[i]? = some x → ws[i]? = some y → y * x.2 = x.1 * D) :
    ∀ y ∈ ws ++ [-D], y.natAbs < 2 ^ 3000 := by
  have bg : (700000 : Nat) < 2 ^ 3000 := Nat.lt_of_lt_of_le (by decide : (700000 : Nat) < 2 ^ 20) (Nat.pow_le_pow_right (by decide) (by decide))
  intro y hy
  rcases List.mem_append.mp hy with h | h
  · obtain ⟨i, hi⟩ := List.mem_iff_getElem?.mp h
    have hlt := (List.getElem?_eq_some_iff.mp hi).1
    have hp : ps[i]? = some (ps[i]'(by omega)) := List.getElem?_eq_getElem _
    have e := hw i _ _ hp hi
    obtain ⟨hn, h6, _⟩ := hok.2 _ (List.mem_of_getElem? hp)
    generalize ps[i]'(by omega) = x at e hn h6
    have h1 : 1 ≤ x.2 := hn.1
    have e2 : y.natAbs * x.2.natAbs = x.1.natAbs * D.natAbs := by rw [← Int.natAbs_mul, ← Int.natAbs_mul, e]
    have h2 : y.natAbs ≤ y.natAbs * x.2.natAbs := Nat.le_mul_of_pos_right _ (by omega)
    have h3 : x.1.natAbs * D.natAbs ≤ 30 * 20736 := Nat.mul_le_mul h6 (by omega)
    omega
  · have := List.mem_singleton.mp h
    omega
theorem ok_sides_of (T : Txt K w mg ad fd) : Cal P w K mg base CX0 4 "sides_of" (ad 35) (fd 35) ["planes", "point"] [] [] (sp_sides_of K (ad 33)) := by
  refine ⟨T.f_sides_of.ok sc_sides_of (fun vs H Q E h => ?_) (fun cdv A outer s H vs Q E hr h => ?_), T.g_sides_of, T.f_sides_of.kp, T.f_sides_of.binds (ps := ["planes", "point"]) fun _ _ _ _ _ _ us hl => match us, hl with | [_, _], _ => rfl, .nil⟩
  · obtain ⟨a, r, n, zss, v, ps, rfl, _⟩ := h
    rfl
  · obtain ⟨a, r, n, zss, v, ps, rfl, hpl, hpt, hok, q⟩ := h
    refine ⟨_, (pss_cons (ps_asg (pe_cal (ok_over_one_divisor T (P := P) (w := w) (base := base)) (hr.mono (by decide)) pass0 (pa_cons (pv 1) pa_nil)) (pg_tup (n := 2) rfl (pgs_cons (pg_name (i := 2) sc_sides_of.nd rfl (by first | exact Or.inl rfl | exact Or.inr rfl)) (pgs_cons (pg_name (i := 3) sc_sides_of.nd rfl (by first | exact Or.inl rfl | exact Or.inr rfl)) pgs_nil))))
    (pss_cons (ps_set (i := 4) sc_sides_of.nd rfl (by first | exact Or.inl rfl | exact Or.inr rfl) (pe_op op_cat (pv 2) (pe_lst (pa_cons (pe_un un_neg (pv 3)) pa_nil))))
    (pss_one (ps_ret (pe_lc (own := [("plane", 5)]) rfl sc_sides_of.nd (pi_list (pe_meth0 (pv 0) T.cl_Planes T.me_Planes_planes (ok_Planes_planes T (P := P) (w := w) (base := base)).ok (hr.mono (by decide)) (ok_Planes_planes T (P := P) (w := w) (base := base)).b .nil pass0)) (blkOk_by (N := ["planes", "point", "integers", "divisor", "place", "plane"]) (sc := defScope s_sides_of) (by decide +kernel)) (fun _ _ _ _ _ => (pg_name (i := 5) sc_sides_of.nd rfl (by first | exact Or.inl rfl | exact Or.inr rfl))) (fun _ _ _ _ _ => pts_nil) (fun _ _ _ _ _ => (pe_cal (ok_sign_letter T (P := P) (w := w) (base := base)) (hr.mono (by decide)) pass0 (pa_cons (pe_cal (ok_whole_product T (P := P) (w := w) (base := base)) (hr.mono (by decide)) pass0 (pa_cons (pv 5) (pa_cons (pv 4) pa_nil))) pa_nil)))))))), ?_⟩
    have sz : sizeLine = 16777216 := sizeLine_eq
    refine ⟨_, rfl, v, ps, rfl, hpt, hok, fun H1 t l ws D e1 ⟨ht, hl, hD1, hD2, hlen, hw⟩ => ?_⟩
    have hlw : ws.length ≤ 4 := by have := hok.1; omega
    refine ⟨t, _, rfl, ht, rfl, _, _, rfl, _, _, rfl, rfl, ?_⟩
    refine ⟨_, rfl, _, rfl, _, rfl, by show (1 : Nat) ≤ sizeLine; omega, fun m hm => ?_⟩
    have hl2 : (upd H1 m (.lst [.int (-D)])) l = some (.lst (ws.map V.int)) := by rw [upd_ne (ne_of_none hl hm)]; exact hl
    refine ⟨l, m, _, _, rfl, rfl, hl2, upd_same, by rw [List.length_map]; show ws.length + 1 ≤ sizeLine; omega, fun k hk => ?_⟩
    have e3 : Ex H (upd (upd H1 m (.lst [.int (-D)])) k (.lst (ws.map V.int ++ [.int (-D)]))) := (e1.trans (Ex.new hm)).trans (Ex.new hk)
    have hk3 : (upd (upd H1 m (.lst [.int (-D)])) k (.lst (ws.map V.int ++ [.int (-D)]))) k = some (.lst ((ws ++ [-D]).map V.int)) := by rw [upd_same, List.map_append]; rfl
    generalize upd (upd H1 m (.lst [.int (-D)])) k (.lst (ws.map V.int ++ [.int (-D)])) = H3 at e3 hk3 ⊢
    obtain ⟨dx, ha⟩ := hpl.ob
    refine ⟨_, rfl, a, dx, _, rfl, e3 _ _ ha, pflds_no _ _ (by decide +kernel) (by decide +kernel), a, r, n, zss, rfl, hpl.mono e3, fun H4 g us e4 hg hz => ?_⟩
    refine ⟨g, rfl, ⟨_, SqL.of hg⟩, fun D' hD' => ?_⟩
    refine lc_acc (l := none) (wk_list (K := K) (fun z => nomatch z) (SqL.of hg)) hD' (fun i acc _ => acc = ((rowC zss ps).take i).map fun c => V.str (one c)) rfl (fun _ _ _ _ _ h => h) ?_ ?_
    · rintro i x H5 acc hi e5 hy hl' rfl hx
      obtain ⟨zs, hzs, hp5⟩ := hz.get hx
      have hpz := hpl.ok.2.1 zs (List.mem_of_getElem? hzs)
      refine ⟨rfl, ?_⟩
      refine ⟨_, rfl, _, rfl, x, k, zs, ws ++ [-D], rfl, hp5.mono e5.ex, SqL.of ((e4.trans e5.ex) _ _ hk3), by have := hpz.1; have := hpl.n4; omega, fun z hz' => ?_, w_small hok hD1 hD2 hlen hw, fun H6 e6 => ?_⟩
      · have := hpz.2.1 z hz'
        have bg : (2000 : Nat) < 2 ^ 3000 := Nat.lt_of_lt_of_le (by decide : (2000 : Nat) < 2 ^ 11) (Nat.pow_le_pow_right (by decide) (by decide))
        omega
      · refine ⟨_, rfl, LcP.push hD' (e5.trans (Exo.of e6)) (e6 _ _ hy) hl' (by have := hz.1; have := hpl.ok.1; omega) ?_⟩
        unfold rowC
        rw [List.take_add_one, List.getElem?_map, hzs, List.map_append, side_of hok hD1 hlen hw]
        rfl
    · rintro H5 acc e5 hy rfl
      have hlr : us.length = (rowC zss ps).length := by rw [hz.1]; unfold rowC; rw [List.length_map]
      rw [hlr, List.take_length] at hy
      exact q H5 D' ((e3.trans e4).trans e5.ex) hy
/-! ### rows -/
def sp_row_of (K : PySem.W.Frag) (C cP : Addr) : Sp := fun vs H Q E => ∃ (a r : Addr) (n : Nat) (zss : List (List Int)) (v : V) (ps : List (Int × Int)), vs = [.ref a, v] ∧ PlsAt K C H a r n zss ∧ PtV K H v ps ∧ ps.length ≤ 1000 ∧
  (¬ ((ps.length : Int) = n ∧ ptN ps) → ∀ H', Ex H H' → E (.ref cP) none H') ∧
  ((ps.length : Int) = n ∧ ptN ps → PtOk ps ∧ ∀ H', Ex H H' → Q (.str (strC (rowC zss ps))) H')
theorem ok_row_of (T : Txt K w mg ad fd) : Cal P w K mg base (L2N.CX P w) 5 "row_of" (ad 36) (fd 36) ["planes", "point"] [] [] (sp_row_of K (ad 33) (ad 5)) := by
  refine ⟨T.f_row_of.okXN sc_row_of (fun vs H Q E h => ?_) (fun cdv A outer s H vs Q E hr h => ?_), T.g_row_of, T.f_row_of.kp, T.f_row_of.binds (ps := ["planes", "point"]) fun _ _ _ _ _ _ us hl => match us, hl with | [_, _], _ => rfl, .nil⟩
  · obtain ⟨a, r, n, zss, v, ps, rfl, _⟩ := h
    rfl
  · obtain ⟨a, r, n, zss, v, ps, rfl, hpl, hpt, hl, q2, q3⟩ := h
    refine ⟨_, (pss_cons (ps_expr (pe_cal (ok_check_point T (P := P) (w := w) (base := base)) (hr.mono (by decide)) (L2N.passes_call (L2N.takes_of rfl rfl rfl rfl) fun _ _ _ _ h => h) (pa_cons (pe_fldK (K := K) (pv 0) rfl) (pa_cons (pv 1) pa_nil))))
    (pss_one (ps_ret (pe_join pe_str (pe_cal (ok_sides_of T (P := P) (w := w) (base := base)) (hr.mono (by decide)) pass0 (pa_cons (pv 0) (pa_cons (pv 1) pa_nil))))))), ?_⟩
    have sz : sizeLine = 16777216 := sizeLine_eq
    obtain ⟨dx, ha⟩ := hpl.ob
    have nn : 1 ≤ (n : Int) ∧ (n : Int) ≤ 4 := by have := hpl.n1; have := hpl.n4; omega
    refine ⟨_, rfl, a, _, dx, _, _, rfl, ha, T.cl_Planes, T.na_Planes_n, pflds_n _ _, _, rfl, n, v, ps, rfl, hpt, hl, fun _ hv H2 e2 => ?_, fun _ hv H2 e2 => q2 hv H2 e2, fun hn => absurd nn hn⟩
    obtain ⟨hok, q⟩ := q3 hv
    refine ⟨⟨_, rfl⟩, _, rfl, _, rfl, a, r, n, zss, v, ps, rfl, hpl.mono e2, hpt.mono e2, hok, fun H3 l e3 hl3 => ?_⟩
    refine ⟨_, l, (rowC zss ps).map one, rfl, rfl, .inl (SqL.of ?_), ?_, ?_⟩
    · rw [List.map_map]
      exact hl3
    · have h1 : (rowC zss ps).length ≤ 12 := by unfold rowC; rw [List.length_map]; exact hpl.ok.1
      rw [sum_one]
      show _ + _ * 0 ≤ _
      omega
    · rw [join_one]
      exact q H3 (e2.trans e3)
def rowOk (m : Nat) (x : Str) : Prop := x.cps.size = m ∧ ∀ c ∈ x.cps.toList, c ∈ [43, 45, 48]
instance (m : Nat) (x : Str) : Decidable (rowOk m x) := inferInstanceAs (Decidable (_ ∧ _))
theorem at_toList {x : Str} {i c : Nat} (h : x.cps[i]? = some c) : x.cps.toList[i]? = some c := by rw [Array.getElem?_toList]; exact h
def sp_is_row (K : PySem.W.Frag) (C : Addr) : Sp := fun vs H Q _ => ∃ (a r : Addr) (n : Nat) (zss : List (List Int)) (x : Str), vs = [.ref a, .str x] ∧ PlsAt K C H a r n zss ∧ x.cps.size ≤ 1000 ∧ ∀ H', Ex H H' → Q (.bl (decide (rowOk zss.length x))) H'
theorem ok_is_row (T : Txt K w mg ad fd) : Cal P w K mg base CX0 3 "is_row" (ad 37) (fd 37) ["planes", "row"] [] [] (sp_is_row K (ad 33)) := by
  refine ⟨T.f_is_row.ok sc_is_row (fun vs H Q E h => ?_) (fun cdv A outer s H vs Q E hr h => ?_), T.g_is_row, T.f_is_row.kp, T.f_is_row.binds (ps := ["planes", "row"]) fun _ _ _ _ _ _ us hl => match us, hl with | [_, _], _ => rfl, .nil⟩
  · obtain ⟨a, r, n, zss, x, rfl, _⟩ := h
    rfl
  · obtain ⟨a, r, n, zss, x, rfl, hpl, hx, q⟩ := h
    obtain ⟨_, g_SIGNS⟩ := T.v_SIGNS
    refine ⟨_, (pss_one (ps_ret (pe_and (pe_cmpR op_eq (pe_callB call_len_str (by rfl) T.m_len PySem.boot_len (pa_cons (pv 1) pa_nil)) (pe_callB (call_lenOwn (ok_Planes_len T (P := P) (w := w) (base := base)).ok (hr.mono (by decide)) T.me_Planes_len.at_ T.me_Planes_len.fn (ok_Planes_len T (P := P) (w := w) (base := base)).b pass0) (by rfl) T.m_len PySem.boot_len (pa_cons (pv 0) pa_nil)) (nomark _)) (pe_one (pe_callB (cr_all rfl) (by rfl) T.m_all (by decide +kernel) (pa_cons (pe_lc (own := [("letter", 2)]) rfl sc_is_row.nd (pi_str (pv 1)) (blkOk_by (N := ["planes", "row", "letter"]) (sc := defScope s_is_row) (by decide +kernel)) (fun _ _ _ _ _ => (pg_name (i := 2) sc_is_row.nd rfl (by first | exact Or.inl rfl | exact Or.inr rfl))) (fun _ _ _ _ _ => pts_nil) (fun _ _ _ _ _ => (pe_cmpR op_in_sign (pv 2) (pe_glob (v := .str "+-0") rfl g_SIGNS ⟨_, rfl⟩) (by rfl)))) pa_nil)))))), ?_⟩
    have sz : sizeLine = 16777216 := sizeLine_eq
    obtain ⟨dx, ha⟩ := hpl.ob
    refine ⟨_, rfl, x, rfl, by show x.cps.size ≤ _; omega, _, rfl, a, dx, _, rfl, ha, a, r, n, zss, rfl, hpl, fun H1 e1 => ⟨zss.length, rfl, by have := hpl.ok.1; omega, rfl, _, rfl, ?_⟩⟩
    by_cases hn : x.cps.size = zss.length
    · rw [decide_eq_true (show V.int (x.length : Nat) = V.int (zss.length : Nat) by show V.int (x.cps.size : Nat) = _; rw [hn])]
      refine iteT ⟨_, rfl, x, rfl, fun D hD => ?_⟩
      refine lc_acc (l := none) wk_str hD (fun i acc _ => acc = ((x.cps.toList.map fun c => decide (c ∈ [43, 45, 48])).take i).map V.bl) rfl (fun _ _ _ _ _ h => h) ?_ ?_
      · rintro i v H2 acc hi e2 hy hl' rfl ⟨c, hc, rfl⟩
        refine ⟨rfl, ?_⟩
        refine ⟨_, rfl, c, _, rfl, rfl, LcP.push hD e2 hy hl' (by omega) ?_⟩
        rw [List.take_add_one, List.getElem?_map, at_toList hc, List.map_append]
        rfl
      · rintro H2 acc e2 hy rfl
        rw [show x.cps.size = (x.cps.toList.map fun c => decide (c ∈ [43, 45, 48])).length by rw [List.length_map, Array.length_toList], List.take_length] at hy
        refine ⟨D, _, rfl, SqL.of hy, ?_⟩
        have := q H2 (e1.trans e2.ex)
        by_cases hA : ∀ c ∈ x.cps.toList, c ∈ [43, 45, 48]
        · rw [decide_eq_true (show rowOk zss.length x from ⟨hn, hA⟩)] at this
          have ha : (x.cps.toList.map fun c => decide (c ∈ [43, 45, 48])).all id = true := by
            rw [List.all_map, List.all_eq_true]
            exact fun z hz => decide_eq_true (hA z hz)
          rw [ha]
          exact this
        · rw [decide_eq_false (fun z => hA z.2)] at this
          have ha : (x.cps.toList.map fun c => decide (c ∈ [43, 45, 48])).all id = false := by
            rw [List.all_map]
            refine Bool.eq_false_iff.mpr fun z => hA fun x hx => ?_
            exact of_decide_eq_true (List.all_eq_true.mp z x hx)
          rw [ha]
          exact this
    · rw [decide_eq_false (show ¬ V.int (x.length : Nat) = V.int (zss.length : Nat) from fun z => hn (by have := V.int.inj z; exact Int.ofNat.inj this))]
      refine iteF ?_
      have := q H1 e1
      rw [decide_eq_false (fun z => hn z.1)] at this
      exact this
def sp_check_row (K : PySem.W.Frag) (C cR : Addr) : Sp := fun vs H Q E => ∃ (a r : Addr) (n : Nat) (zss : List (List Int)) (x : Str), vs = [.ref a, .str x] ∧ PlsAt K C H a r n zss ∧ x.cps.size ≤ 1000 ∧ (rowOk zss.length x → ∀ H', Ex H H' → Q .non H') ∧ (¬ rowOk zss.length x → ∀ H', Ex H H' → E (.ref cR) none H')
theorem ok_check_row (T : Txt K w mg ad fd) : Cal P w K mg base (L2N.CX P w) 4 "check_row" (ad 38) (fd 38) ["planes", "row"] [] [] (sp_check_row K (ad 33) (ad 7)) := by
  refine ⟨T.f_check_row.okXN sc_check_row (fun vs H Q E h => ?_) (fun cdv A outer s H vs Q E hr h => ?_), T.g_check_row, T.f_check_row.kp, T.f_check_row.binds (ps := ["planes", "row"]) fun _ _ _ _ _ _ us hl => match us, hl with | [_, _], _ => rfl, .nil⟩
  · obtain ⟨a, r, n, zss, x, rfl, _⟩ := h
    rfl
  · obtain ⟨a, r, n, zss, x, rfl, hpl, hx, q1, q2⟩ := h
    refine ⟨_, (pss_one (ps_if (pt_not (pt_val (pe_cal (ok_is_row T (P := P) (w := w) (base := base)) (hr.mono (by decide)) pass0 (pa_cons (pv 0) (pa_cons (pv 1) pa_nil))))) (pss_one (L2N.ps_raise rfl (L2N.takes_of rfl rfl rfl rfl) (L2N.pmk_own PySem.F.excBase_ValueError T.x_NotRow T.g_NotRow T.k_NotRow (raises_own T.s_NotRow T.t_NotRow) rfl))) pss_nil)), ?_⟩
    refine ⟨_, rfl, _, rfl, a, r, n, zss, x, rfl, hpl, hx, fun H1 e1 => ⟨_, rfl, ?_⟩⟩
    by_cases h : rowOk zss.length x
    · rw [decide_eq_true h]
      exact q1 h H1 e1
    · rw [decide_eq_false h]
      exact q2 h H1 e1
def turnC (c : Nat) : Nat := if c = 43 then 45 else if c = 45 then 43 else 48
theorem kd_turn {K : PySem.W.Frag} {w : World} {d : Addr} (h : KDct K w d "+" (.str "-") ∧ KDct K w d "-" (.str "+") ∧ KDct K w d "0" (.str "0")) {c : Nat} (hc : c ∈ [43, 45, 48]) : KDct K w d (one c) (.str (one (turnC c))) := by
  have : c = 43 ∨ c = 45 ∨ c = 48 := by simpa using hc
  rcases this with rfl | rfl | rfl
  · exact h.1
  · exact h.2.1
  · exact h.2.2
def sp_opposite (K : PySem.W.Frag) (C cR : Addr) : Sp := fun vs H Q E => ∃ (a r : Addr) (n : Nat) (zss : List (List Int)) (x : Str), vs = [.ref a, .str x] ∧ PlsAt K C H a r n zss ∧ x.cps.size ≤ 1000 ∧ (rowOk zss.length x → ∀ H', Ex H H' → Q (.str (strC (x.cps.toList.map turnC))) H') ∧ (¬ rowOk zss.length x → ∀ H', Ex H H' → E (.ref cR) none H')
theorem ok_opposite (T : Txt K w mg ad fd) : Cal P w K mg base (L2N.CX P w) 5 "opposite" (ad 39) (fd 39) ["planes", "row"] [] [] (sp_opposite K (ad 33) (ad 7)) := by
  refine ⟨T.f_opposite.okXN sc_opposite (fun vs H Q E h => ?_) (fun cdv A outer s H vs Q E hr h => ?_), T.g_opposite, T.f_opposite.kp, T.f_opposite.binds (ps := ["planes", "row"]) fun _ _ _ _ _ _ us hl => match us, hl with | [_, _], _ => rfl, .nil⟩
  · obtain ⟨a, r, n, zss, x, rfl, _⟩ := h
    rfl
  · obtain ⟨a, r, n, zss, x, rfl, hpl, hx, q1, q2⟩ := h
    obtain ⟨d_TURNED, g_TURNED, hd⟩ := T.v_TURNED
    have sz : sizeLine = 16777216 := sizeLine_eq
    refine ⟨_, (pss_cons (ps_expr (pe_cal (ok_check_row T (P := P) (w := w) (base := base)) (hr.mono (by decide)) (L2N.passes_call (L2N.takes_of rfl rfl rfl rfl) fun _ _ _ _ h => h) (pa_cons (pv 0) (pa_cons (pv 1) pa_nil))))
    (pss_one (ps_ret (pe_join pe_str (pe_lc (own := [("letter", 2)]) rfl sc_opposite.nd (pi_str (pv 1)) (blkOk_by (N := ["planes", "row", "letter"]) (sc := defScope s_opposite) (by decide +kernel)) (fun _ _ _ _ _ => (pg_name (i := 2) sc_opposite.nd rfl (by first | exact Or.inl rfl | exact Or.inr rfl))) (fun _ _ _ _ _ => pts_nil) (fun _ _ _ _ _ => (pe_ix (ix_kdictK (K := K) (w := w)) (pe_globR (f := d_TURNED) g_TURNED) (pv 2) (fun _ _ => rfl)))))))), ?_⟩
    refine ⟨_, rfl, _, rfl, a, r, n, zss, x, rfl, hpl, hx, fun hrow H1 e1 => ?_, fun hrow H1 e1 => q2 hrow H1 e1⟩
    refine ⟨⟨_, rfl⟩, _, rfl, x, rfl, fun D hD => ?_⟩
    refine lc_acc (l := none) wk_str hD (fun i acc _ => acc = ((x.cps.toList.map turnC).take i).map fun c => V.str (one c)) rfl (fun _ _ _ _ _ h => h) ?_ ?_
    · rintro i v H2 acc hi e2 hy hl' rfl ⟨c, hc, rfl⟩
      have hc' := hrow.2 c (List.mem_of_getElem? (at_toList hc))
      refine ⟨rfl, ?_⟩
      refine ⟨_, rfl, d_TURNED, _, _, rfl, rfl, kd_turn hd hc', LcP.push hD e2 hy hl' (by omega) ?_⟩
      rw [List.take_add_one, List.getElem?_map, at_toList hc, List.map_append]
      rfl
    · rintro H2 acc e2 hy rfl
      rw [show x.cps.size = (x.cps.toList.map turnC).length by rw [List.length_map, Array.length_toList], List.take_length] at hy
      refine ⟨_, D, (x.cps.toList.map turnC).map one, rfl, rfl, .inl (SqL.of ?_), ?_, ?_⟩
      · rw [List.map_map]
        exact hy
      · rw [sum_one, List.length_map, Array.length_toList]
        show _ + _ * 0 ≤ _
        omega
      · rw [join_one]
        exact q1 hrow H2 (e1.trans e2.ex)
/-! ### the cone, lists that are joined: what they are -/
def cnL (n : Nat) (zs : List Int) : List Int := zs.take n ++ [-(zs.getD n 0), 0]
def cnE (n : Nat) : List Int := List.replicate n 0 ++ [1, 0]
def coneL (n : Nat) (zss : List (List Int)) : List (List Int) := zss.map (cnL n) ++ [cnE n]
def j1 (n m : Nat) (zs : List Int) : List Int := zs.take n ++ List.replicate m 0 ++ zs.drop n
def j2 (n : Nat) (zs : List Int) : List Int := List.replicate n 0 ++ zs
def joinL (n m : Nat) (zss yss : List (List Int)) : List (List Int) := zss.map (j1 n m) ++ yss.map (j2 n)
theorem split_last {n : Nat} {zs : List Int} (h : zs.length = n + 1) : zs = zs.take n ++ [zs.getD n 0] := by
  refine List.ext_getElem? fun i => ?_
  by_cases hi : i < n
  · rw [List.getElem?_append_left (by rw [List.length_take]; omega), List.getElem?_take, if_pos hi]
  · rw [List.getElem?_append_right (by rw [List.length_take]; omega), List.length_take, show i - min n zs.length = i - n by omega]
    by_cases hn : i = n
    · rw [hn, Nat.sub_self, List.getD_eq_getElem?_getD, List.getElem?_eq_getElem (by omega)]
      rfl
    · rw [List.getElem?_eq_none (by omega), List.getElem?_eq_none (by show [zs.getD n 0].length ≤ i - n; show 1 ≤ i - n; omega)]
theorem drop_last {n : Nat} {zs : List Int} (h : zs.length = n + 1) : zs.drop n = [zs.getD n 0] := by
  have := congrArg (List.drop n) (split_last h)
  rw [this, List.drop_append_of_le_length (by rw [List.length_take]; omega), List.drop_of_length_le (by rw [List.length_take]; omega)]
  rfl
theorem neg_app (xs ys : List Int) : neg (xs ++ ys) = neg xs ++ neg ys := List.map_append
theorem neg_rep (n : Nat) : neg (List.replicate n (0 : Int)) = List.replicate n 0 := by
  unfold neg
  rw [List.map_replicate]
  rfl
theorem neg_len (zs : List Int) : (neg zs).length = zs.length := by
  unfold neg
  rw [List.length_map]
theorem neg_getD (zs : List Int) (n : Nat) : (neg zs).getD n 0 = -(zs.getD n 0) := by
  unfold neg
  rw [List.getD_eq_getElem?_getD, List.getD_eq_getElem?_getD, List.getElem?_map]
  cases zs[n]? <;> rfl
theorem neg_take (zs : List Int) (n : Nat) : (neg zs).take n = neg (zs.take n) := by
  unfold neg
  rw [List.map_take]
theorem neg_drop (zs : List Int) (n : Nat) : (neg zs).drop n = neg (zs.drop n) := by
  unfold neg
  rw [List.map_drop]
theorem neg_cn (n : Nat) (zs : List Int) : neg (cnL n zs) = cnL n (neg zs) := by
  unfold cnL
  rw [neg_app, neg_take, neg_getD]
  congr 1
theorem neg_j1 (n m : Nat) (zs : List Int) : neg (j1 n m zs) = j1 n m (neg zs) := by
  unfold j1
  rw [neg_app, neg_app, neg_rep, neg_take, neg_drop]
theorem neg_j2 (n : Nat) (zs : List Int) : neg (j2 n zs) = j2 n (neg zs) := by
  unfold j2
  rw [neg_app, neg_rep]
theorem gl_app (xs ys : List Int) : gl (xs ++ ys) = ys.foldl (fun g a => g.gcd a.natAbs) (gl xs) := by
  unfold gl
  rw [List.foldl_append]
theorem fold_rep : ∀ (n c : Nat), (List.replicate n (0 : Int)).foldl (fun g a => g.gcd a.natAbs) c = c
  | 0, _ => rfl
  | n + 1, c => by
    rw [List.replicate_succ, List.foldl_cons]
    show (List.replicate n (0 : Int)).foldl _ (Nat.gcd c 0) = c
    rw [Nat.gcd_zero_right]
    exact fold_rep n c
theorem Pl.neg' {n : Nat} {zs : List Int} (h : Pl n zs) : Pl n (neg zs) := by
  obtain ⟨h1, h2, ⟨z, hz, hz0⟩, h4⟩ := h
  refine ⟨by rw [neg_len, h1], fun y hy => ?_, ⟨-z, ?_, by omega⟩, ?_⟩
  · obtain ⟨x, hx, rfl⟩ := List.mem_map.mp hy
    have := h2 x hx
    omega
  · rw [neg_take]
    exact List.mem_map.mpr ⟨z, hz, rfl⟩
  · unfold gl neg at *
    rw [List.foldl_map]
    simpa using h4
theorem Pl.cone {n : Nat} {zs : List Int} (h : Pl n zs) : Pl (n + 1) (cnL n zs) := by
  obtain ⟨h1, h2, ⟨z, hz, hz0⟩, h4⟩ := h
  have hl : (zs.take n).length = n := by rw [List.length_take]; omega
  have hm : zs.getD n 0 ∈ zs := getD_mem (by omega)
  refine ⟨?_, fun y hy => ?_, ⟨z, ?_, hz0⟩, ?_⟩
  · show (zs.take n ++ [_, _]).length = _
    rw [List.length_append, hl]
    rfl
  · rcases List.mem_append.mp hy with h | h
    · exact h2 y (List.mem_of_mem_take h)
    · have := h2 _ hm
      simp only [List.mem_cons, List.not_mem_nil, or_false] at h
      rcases h with rfl | rfl <;> omega
  · unfold cnL
    rw [List.take_append, hl]
    refine List.mem_append_left _ ?_
    rw [List.take_of_length_le (by omega)]
    exact hz
  · unfold cnL
    rw [gl_app]
    show Nat.gcd (Nat.gcd (gl (zs.take n)) (-(zs.getD n 0)).natAbs) 0 = 1
    rw [Nat.gcd_zero_right, Int.natAbs_neg]
    rw [split_last h1, gl_app] at h4
    exact h4
theorem Pl.coneE (n : Nat) : Pl (n + 1) (cnE n) := by
  unfold cnE
  refine ⟨by rw [List.length_append, List.length_replicate]; rfl, fun y hy => ?_, ⟨1, ?_, by decide⟩, ?_⟩
  · rcases List.mem_append.mp hy with h | h
    · rw [(List.mem_replicate.mp h).2]
      decide
    · simp only [List.mem_cons, List.not_mem_nil, or_false] at h
      rcases h with rfl | rfl <;> decide
  · rw [List.take_append, List.length_replicate, show n + 1 - n = 1 by omega]
    exact List.mem_append_right _ (by simp)
  · rw [gl_app]
    unfold gl
    rw [fold_rep]
    rfl
theorem cn_inj {n : Nat} {a b : List Int} (ha : a.length = n + 1) (hb : b.length = n + 1) (h : cnL n a = cnL n b) : a = b := by
  unfold cnL at h
  have hl : (a.take n).length = (b.take n).length := by rw [List.length_take, List.length_take]; omega
  obtain ⟨h1, h2⟩ := List.append_inj h hl
  have h3 : a.getD n 0 = b.getD n 0 := by
    have := (List.cons.inj h2).1
    omega
  rw [split_last ha, split_last hb, h1, h3]
theorem cn_ne {n : Nat} {a : List Int} (ha : Pl n a) (u : List Int) : cnL n a ≠ List.replicate n 0 ++ u := by
  obtain ⟨h1, h2, ⟨z, hz, hz0⟩, h4⟩ := ha
  intro h
  unfold cnL at h
  have hl : (a.take n).length = (List.replicate n (0 : Int)).length := by rw [List.length_take, List.length_replicate]; omega
  obtain ⟨e, _⟩ := List.append_inj h hl
  rw [e] at hz
  exact hz0 (List.mem_replicate.mp hz).2
theorem PlanesOk.cone {n : Nat} {zss : List (List Int)} (h : PlanesOk n zss) (hl : zss.length < 12) : PlanesOk (n + 1) (coneL n zss) := by
  obtain ⟨h1, h2, h3⟩ := h
  refine ⟨?_, fun y hy => ?_, fun i j a b hij ha hb => ?_⟩
  · unfold coneL
    rw [List.length_append, List.length_map]
    show zss.length + 1 ≤ 12
    omega
  · rcases List.mem_append.mp hy with h | h
    · obtain ⟨x, hx, rfl⟩ := List.mem_map.mp h
      exact (h2 x hx).cone
    · rw [List.mem_singleton.mp h]
      exact Pl.coneE n
  · unfold coneL at ha hb
    have hjl := (List.getElem?_eq_some_iff.mp hb).1
    rw [List.length_append, List.length_map] at hjl
    have hjl : j < zss.length + 1 := hjl
    rw [List.getElem?_append_left (by rw [List.length_map]; omega), List.getElem?_map] at ha
    cases ha0 : zss[i]? with
    | none => rw [ha0] at ha; cases ha
    | some x =>
      rw [ha0] at ha
      cases ha
      have px := h2 x (List.mem_of_getElem? ha0)
      by_cases hj : j < zss.length
      · rw [List.getElem?_append_left (by rw [List.length_map]; omega), List.getElem?_map] at hb
        cases hb0 : zss[j]? with
        | none => rw [hb0] at hb; cases hb
        | some y =>
          rw [hb0] at hb
          cases hb
          have py := h2 y (List.mem_of_getElem? hb0)
          obtain ⟨n1, n2⟩ := h3 i j x y hij ha0 hb0
          refine ⟨fun e => n1 (cn_inj py.1 px.1 e), fun e => n2 ?_⟩
          rw [neg_cn] at e
          exact cn_inj py.1 px.neg'.1 e
      · rw [List.getElem?_append_right (by rw [List.length_map]; omega), List.length_map, show j - zss.length = 0 by omega] at hb
        cases hb
        refine ⟨fun e => cn_ne px _ e.symm, fun e => ?_⟩
        rw [neg_cn] at e
        exact cn_ne px.neg' _ e.symm
theorem Pl.j1 {n m : Nat} {zs : List Int} (h : Pl n zs) : Pl (n + m) (PW.j1 n m zs) := by
  obtain ⟨h1, h2, ⟨z, hz, hz0⟩, h4⟩ := h
  have hl : (zs.take n).length = n := by rw [List.length_take]; omega
  unfold PW.j1
  refine ⟨?_, fun y hy => ?_, ⟨z, ?_, hz0⟩, ?_⟩
  · rw [List.length_append, List.length_append, hl, List.length_replicate, List.length_drop]
    omega
  · rcases List.mem_append.mp hy with h | h
    · rcases List.mem_append.mp h with h | h
      · exact h2 y (List.mem_of_mem_take h)
      · rw [(List.mem_replicate.mp h).2]
        decide
    · exact h2 y (List.mem_of_mem_drop h)
  · rw [List.append_assoc, List.take_append, hl]
    refine List.mem_append_left _ ?_
    rw [List.take_of_length_le (by omega)]
    exact hz
  · rw [gl_app, gl_app, fold_rep]
    have : gl zs = 1 := h4
    rw [← List.take_append_drop n zs, gl_app] at this
    exact this
theorem Pl.j2 {n m : Nat} {zs : List Int} (h : Pl m zs) : Pl (n + m) (PW.j2 n zs) := by
  obtain ⟨h1, h2, ⟨z, hz, hz0⟩, h4⟩ := h
  unfold PW.j2
  refine ⟨?_, fun y hy => ?_, ⟨z, ?_, hz0⟩, ?_⟩
  · rw [List.length_append, List.length_replicate]
    omega
  · rcases List.mem_append.mp hy with h | h
    · rw [(List.mem_replicate.mp h).2]
      decide
    · exact h2 y h
  · rw [List.take_append, List.length_replicate, show n + m - n = m by omega]
    exact List.mem_append_right _ hz
  · rw [gl_app]
    unfold gl at h4 ⊢
    rw [fold_rep]
    exact h4
theorem j1_inj {n m : Nat} {a b : List Int} (ha : a.length = n + 1) (hb : b.length = n + 1) (h : j1 n m a = j1 n m b) : a = b := by
  unfold j1 at h
  rw [List.append_assoc, List.append_assoc] at h
  have hl : (a.take n).length = (b.take n).length := by rw [List.length_take, List.length_take]; omega
  obtain ⟨h1, h2⟩ := List.append_inj h hl
  obtain ⟨_, h3⟩ := List.append_inj h2 rfl
  rw [← List.take_append_drop n a, ← List.take_append_drop n b, h1, h3]
theorem j12_ne {n m : Nat} {a : List Int} (ha : Pl n a) (b : List Int) : j1 n m a ≠ j2 n b := by
  obtain ⟨h1, h2, ⟨z, hz, hz0⟩, h4⟩ := ha
  intro h
  unfold j1 j2 at h
  rw [List.append_assoc] at h
  have hl : (a.take n).length = (List.replicate n (0 : Int)).length := by rw [List.length_take, List.length_replicate]; omega
  obtain ⟨e, _⟩ := List.append_inj h hl
  rw [e] at hz
  exact hz0 (List.mem_replicate.mp hz).2
theorem PlanesOk.join {n m : Nat} {zss yss : List (List Int)} (h : PlanesOk n zss) (g : PlanesOk m yss) (hl : zss.length + yss.length ≤ 12) : PlanesOk (n + m) (joinL n m zss yss) := by
  obtain ⟨h1, h2, h3⟩ := h
  obtain ⟨g1, g2, g3⟩ := g
  have at1 : ∀ {k : Nat} {a : List Int}, (joinL n m zss yss)[k]? = some a → (∃ x, k < zss.length ∧ zss[k]? = some x ∧ a = j1 n m x) ∨ (∃ x, zss.length ≤ k ∧ yss[k - zss.length]? = some x ∧ a = j2 n x) := by
    intro k a ha
    unfold joinL at ha
    by_cases hk : k < zss.length
    · rw [List.getElem?_append_left (by rw [List.length_map]; exact hk), List.getElem?_map] at ha
      cases e : zss[k]? with
      | none => rw [e] at ha; cases ha
      | some x => rw [e] at ha; cases ha; exact .inl ⟨x, hk, rfl, rfl⟩
    · rw [List.getElem?_append_right (by rw [List.length_map]; omega), List.length_map, List.getElem?_map] at ha
      cases e : yss[k - zss.length]? with
      | none => rw [e] at ha; cases ha
      | some x => rw [e] at ha; cases ha; exact .inr ⟨x, by omega, rfl, rfl⟩
  refine ⟨?_, fun y hy => ?_, fun i j a b hij ha hb => ?_⟩
  · unfold joinL
    rw [List.length_append, List.length_map, List.length_map]
    exact hl
  · rcases List.mem_append.mp hy with h | h
    · obtain ⟨x, hx, rfl⟩ := List.mem_map.mp h
      exact (h2 x hx).j1
    · obtain ⟨x, hx, rfl⟩ := List.mem_map.mp h
      exact (g2 x hx).j2
  · rcases at1 ha with ⟨x, hi, hx, rfl⟩ | ⟨x, hi, hx, rfl⟩ <;> rcases at1 hb with ⟨y, hj, hy, rfl⟩ | ⟨y, hj, hy, rfl⟩
    · have px := h2 x (List.mem_of_getElem? hx)
      have py := h2 y (List.mem_of_getElem? hy)
      obtain ⟨n1, n2⟩ := h3 i j x y hij hx hy
      refine ⟨fun e => n1 (j1_inj py.1 px.1 e), fun e => n2 ?_⟩
      rw [neg_j1] at e
      exact j1_inj py.1 px.neg'.1 e
    · have px := h2 x (List.mem_of_getElem? hx)
      refine ⟨fun e => j12_ne px _ e.symm, fun e => ?_⟩
      rw [neg_j1] at e
      exact j12_ne px.neg' _ e.symm
    · omega
    · obtain ⟨n1, n2⟩ := g3 _ _ x y (by omega) hx hy
      unfold j2
      refine ⟨fun e => n1 (List.append_cancel_left e), fun e => n2 ?_⟩
      rw [neg_app, neg_rep] at e
      exact List.append_cancel_left e
/-! ### tuples of integers put together, cut, repeated -/
theorem cat_pl {K : PySem.W.Frag} {H : Hp} {u v : V} {xs ys : List Int} {Q : VK} (hu : PlV K H u xs) (hv : PlV K H v ys) (hl : xs.length + ys.length ≤ 2000) (q : ∀ H' z, Ex H H' → PlV K H' z (xs ++ ys) → Q z H') : rCatA K u v H Q := by
  obtain ⟨a, rfl, ha⟩ := hu
  obtain ⟨b, rfl, hb⟩ := hv
  have sz : sizeLine = 16777216 := sizeLine_eq
  refine ⟨a, b, _, _, rfl, rfl, ha, hb, by rw [List.length_map, List.length_map]; omega, fun h => ?_, fun _ h => ?_, fun _ _ p hp => ?_⟩
  · have : xs = [] := List.map_eq_nil_iff.mp h
    subst this
    exact q H _ (Ex.refl _) ⟨b, rfl, hb⟩
  · have : ys = [] := List.map_eq_nil_iff.mp h
    subst this
    rw [List.append_nil] at q
    exact q H _ (Ex.refl _) ⟨a, rfl, ha⟩
  · exact q _ _ (Ex.new hp) ⟨p, rfl, by rw [List.map_append]; exact SqT.of upd_same⟩
theorem flat_rep : ∀ n : Nat, (List.replicate n [V.int 0]).flatten = List.replicate n (V.int 0)
  | 0 => rfl
  | n + 1 => by
    rw [List.replicate_succ, List.replicate_succ, List.flatten_cons, flat_rep n]
    rfl
theorem rep0_pl {K : PySem.W.Frag} {H : Hp} {u : V} {n : Nat} {Q : VK} (hu : PlV K H u [0]) (hn : n ≤ 1000) (q : ∀ H' z, Ex H H' → PlV K H' z (List.replicate n 0) → Q z H') : rRepA K u (.int (n : Nat)) H Q := by
  obtain ⟨a, rfl, ha⟩ := hu
  refine ⟨a, _, _, rfl, rfl, ha, by simp, by omega, by omega, by show (1 : Nat) ≤ 1000; decide, fun h => ?_, fun _ p hp => ?_⟩
  · have : n = 1 := by omega
    subst this
    exact q H _ (Ex.refl _) ⟨a, rfl, ha⟩
  · refine q _ _ (Ex.new hp) ⟨p, rfl, ?_⟩
    have e : (List.replicate (n : Int).toNat ([0].map V.int)).flatten = (List.replicate n (0 : Int)).map V.int := by
      rw [Int.toNat_natCast, List.map_replicate]
      exact flat_rep n
    rw [← e]
    exact SqT.of upd_same
theorem cut_to {zs : List Int} {n : Nat} : cutV (zs.map V.int) none (some (n : Int)) = (zs.take n).map V.int := by
  unfold cutV
  rw [HT.sIx_none, HT.sIx_nat, List.drop_zero, List.length_map, List.map_take]
  by_cases h : n ≤ zs.length
  · congr 1
    omega
  · rw [List.take_of_length_le (by rw [List.length_map]; omega), List.take_of_length_le (by rw [List.length_map]; omega)]
theorem cut_from {zs : List Int} {n : Nat} : cutV (zs.map V.int) (some (n : Int)) none = (zs.drop n).map V.int := by
  unfold cutV
  rw [HT.sIx_none, HT.sIx_nat, List.length_map, List.map_drop, List.take_of_length_le (by rw [List.length_drop, List.length_map]; omega)]
  by_cases h : n ≤ zs.length
  · congr 1
    omega
  · rw [List.drop_of_length_le (by rw [List.length_map]; omega), List.drop_of_length_le (by rw [List.length_map]; omega)]
theorem take_pl {K : PySem.W.Frag} {H : Hp} {u : V} {zs : List Int} {n : Nat} {Q : VK} (hu : PlV K H u zs) (q : ∀ H' z, Ex H H' → PlV K H' z (zs.take n) → Q z H') : rSlA K u none (some (n : Int)) H Q := by
  obtain ⟨a, rfl, ha⟩ := hu
  refine ⟨a, _, rfl, ha, fun h => ?_, fun _ p hp => q _ _ (Ex.new hp) ⟨p, rfl, by rw [← cut_to]; exact SqT.of upd_same⟩⟩
  have h2 := h.2
  rw [HT.sIx_nat, List.length_map] at h2
  have : zs.take n = zs := List.take_of_length_le (by omega)
  rw [this] at q
  exact q H _ (Ex.refl _) ⟨a, rfl, ha⟩
theorem drop_pl {K : PySem.W.Frag} {H : Hp} {u : V} {zs : List Int} {n : Nat} {Q : VK} (hu : PlV K H u zs) (q : ∀ H' z, Ex H H' → PlV K H' z (zs.drop n) → Q z H') : rSlA K u (some (n : Int)) none H Q := by
  obtain ⟨a, rfl, ha⟩ := hu
  refine ⟨a, _, rfl, ha, fun h => ?_, fun _ p hp => q _ _ (Ex.new hp) ⟨p, rfl, by rw [← cut_from]; exact SqT.of upd_same⟩⟩
  have h1 := h.1
  rw [HT.sIx_nat, List.length_map] at h1
  have : zs.drop n = zs := by
    by_cases h0 : n = 0
    · rw [h0, List.drop_zero]
    · have : zs.length = 0 := by omega
      rw [List.eq_nil_of_length_eq_zero this, List.drop_nil]
  rw [this] at q
  exact q H _ (Ex.refl _) ⟨a, rfl, ha⟩
theorem pl_of {K : PySem.W.Frag} {H : Hp} {p : Addr} (zs : List Int) (h : H p = none) : Ex H (upd H p (.tup (zs.map V.int))) ∧ PlV K (upd H p (.tup (zs.map V.int))) (.ref p) zs := ⟨Ex.new h, p, rfl, SqT.of upd_same⟩
theorem make_pl {K : PySem.W.Frag} {C : Addr} {H : Hp} {l : Addr} {us : List V} {n : Nat} {zss : List (List Int)} {Q : VK} (n1 : 1 ≤ n) (n4 : n ≤ 4) (hl : SqL K H l us) (hz : All2 (PlV K H) us zss) (hok : PlanesOk n zss)
    (q : ∀ H' a r, Ex H H' → H r = none → H a = none → PlsAt K C H' a r n zss → Q (.ref a) H') {x dx : Addr} (hx : H x = none) (hdx : H dx = none) (hxy : dx ≠ x) :
    sp_Planes_init K C [V.ref x, V.int (n : Nat), V.ref l] (upd (upd H dx (.own x)) x (.ins C dx [])) (fun v H2 => v = .non ∧ Q (.ref x) H2) E0 := by
  have e5 : Ex H (upd (upd H dx (.own x)) x (.ins C dx [])) := (Ex.new hdx).trans (Ex.new (by rw [upd_ne (Ne.symm hxy)]; exact hx))
  refine ⟨x, dx, n, l, us, zss, rfl, upd_same, n1, n4, ex_l e5 hl, hz.imp fun _ _ h => h.mono e5, hok, fun H6 r' k6 hr6 hp6 => ⟨rfl, q H6 x r' (fun b o hb => ?_) (none_ex e5 hr6) hx hp6⟩⟩
  exact k6 b o (ne_of_none hb hx) (e5 _ _ hb)
/-! ### is_central, coned, joined -/
def cenL (n : Nat) (zss : List (List Int)) : Bool := (echN zss (n + 1)).1.all fun x => decide ((x.1 : Int) < n)
def sp_Planes_is_central (K : PySem.W.Frag) (C : Addr) : Sp := fun vs H Q _ => ∃ (a r : Addr) (n : Nat) (zss : List (List Int)), vs = [.ref a] ∧ PlsAt K C H a r n zss ∧ ∀ H', Ex H H' → Q (.bl (cenL n zss)) H'
theorem ok_Planes_is_central (T : Txt K w mg ad fd) : CalM P w K mg base CX0 5 (ad 1665) (fd 1665) ["self"] (sp_Planes_is_central K (ad 33)) := by
  refine ⟨T.f_Planes_is_central.ok sc_Planes_is_central (fun vs H Q E h => ?_) (fun cdv A outer s H vs Q E hr h => ?_), T.f_Planes_is_central.binds (ps := ["self"]) fun _ _ _ _ _ _ us hl => match us, hl with | [_], _ => rfl⟩
  · obtain ⟨a, r, n, zss, rfl, _⟩ := h
    rfl
  · obtain ⟨a, r, n, zss, rfl, ⟨⟨dx, ha⟩, ⟨us, hr', hz⟩, n1, n4, hok⟩, q⟩ := h
    have sz : sizeLine = 16777216 := sizeLine_eq
    refine ⟨_, (pss_cons (ps_set (i := 1) sc_Planes_is_central.nd rfl (by first | exact Or.inl rfl | exact Or.inr rfl) (pe_cal (ok_whole_echelon T (P := P) (w := w) (base := base)) (hr.mono (by decide)) pass0 (pa_cons (pe_op op_add (pe_fldK (K := K) (pv 0) rfl) pe_int) (pa_cons (pe_fldK (K := K) (pv 0) rfl) pa_nil))))
    (pss_one (ps_ret (pe_callB (cr_all rfl) (by rfl) T.m_all (by decide +kernel) (pa_cons (pe_lc (own := [("pivot", 2), ("_", 3)]) (g := gTup K 2 (gCons (gName 2) (gCons (gName 3) gNil))) rfl sc_Planes_is_central.nd (pi_list (pv 1)) (blkOk_by (N := ["self", "found", "pivot", "_"]) (sc := defScope s_Planes_is_central) (by decide +kernel)) (fun _ _ _ _ _ => (pg_tup (n := 2) rfl (pgs_cons (pg_name (i := 2) sc_Planes_is_central.nd rfl (by first | exact Or.inl rfl | exact Or.inr rfl)) (pgs_cons (pg_name (i := 3) sc_Planes_is_central.nd rfl (by first | exact Or.inl rfl | exact Or.inr rfl)) pgs_nil)))) (fun _ _ _ _ _ => pts_nil) (fun _ _ _ _ _ => (pe_cmpR op_lt (pv 2) (pe_fldK (K := K) (pv 0) rfl) (nomark _)))) pa_nil))))), ?_⟩
    have p5 : 2 ^ (n + 1) ≤ 2 ^ 5 := Nat.pow_le_pow_right (by decide) (by omega)
    refine ⟨_, rfl, a, _, dx, _, _, rfl, ha, T.cl_Planes, T.na_Planes_n, pflds_n _ _, _, _, rfl, rfl, _, rfl, a, _, dx, _, _, rfl, ha, T.cl_Planes, T.na_Planes__rows, pflds_rows _ _, r, n + 1, 10, us, zss, rfl, SqL.of hr', hz, by have := hok.1; omega, by omega, by omega, fun zs hzs => (hok.2.1 zs hzs).1, fun zs hzs z hz' => by have := (hok.2.1 zs hzs).2.1 z hz'; omega, fun H1 l us1 e1 hl hz1 => ?_⟩
    have ha1 := e1 _ _ ha
    refine ⟨_, rfl, l, rfl, ⟨_, SqL.of hl⟩, fun D hD => ?_⟩
    refine lc_acc (l := none) (wk_list (K := K) (fun z => nomatch z) (SqL.of hl)) hD (fun i acc _ => acc = (((echN zss (n + 1)).1.map fun x => decide ((x.1 : Int) < n)).take i).map V.bl) rfl (fun _ _ _ _ _ h => h) ?_ ?_
    · rintro i x H2 acc hi e2 hy hl' rfl hx
      obtain ⟨⟨pp, row⟩, hxs, t, v, rfl, ht, hv⟩ := hz1.get hx
      refine ⟨t, _, rfl, ex_t e2.ex ht, rfl, ?_⟩
      refine ⟨_, _, rfl, _, _, rfl, rfl, rfl, ?_⟩
      refine ⟨_, rfl, _, rfl, a, _, dx, _, _, rfl, e2.ex _ _ ha1, T.cl_Planes, T.na_Planes_n, pflds_n _ _, _, _, rfl, rfl, ?_⟩
      have hbig : us1.length < sizeLine := by
        have := (echN_ok (w := n + 1) (e := 10) (fun zs hzs => (hok.2.1 zs hzs).1) (fun zs hzs z hz' => by have := (hok.2.1 zs hzs).2.1 z hz'; omega) (n + 1) (Nat.le_refl _)).2.2
        have := hz1.1
        have := hok.1
        omega
      refine LcP.push hD e2 hy hl' (by omega) ?_
      rw [List.take_add_one, List.getElem?_map, hxs, List.map_append]
      rfl
    · rintro H2 acc e2 hy rfl
      rw [hz1.1, ← List.length_map (f := fun x : Nat × List Int => decide ((x.1 : Int) < n)), List.take_length] at hy
      refine ⟨D, _, rfl, SqL.of hy, ?_⟩
      rw [List.all_map]
      exact q H2 (e1.trans e2.ex)
def sp_coned (K : PySem.W.Frag) (C cB cT : Addr) : Sp := fun vs H Q E => ∃ (a r : Addr) (n : Nat) (zss : List (List Int)), vs = [.ref a] ∧ PlsAt K C H a r n zss ∧ (n = 4 → ∀ H', Ex H H' → E (.ref cB) none H') ∧ (n ≠ 4 → zss.length = 12 → ∀ H', Ex H H' → E (.ref cT) none H') ∧
  (n ≠ 4 → zss.length < 12 → ∀ H' a' r', Ex H H' → H r' = none → PlsAt K C H' a' r' (n + 1) (coneL n zss) → Q (.ref a') H')
theorem ok_coned (T : Txt K w mg ad fd) : Cal P w K mg base (L2N.CX P w) 6 "coned" (ad 42) (fd 42) ["planes"] [] [] (sp_coned K (ad 33) (ad 8) (ad 9)) := by
  refine ⟨T.f_coned.okXN sc_coned (fun vs H Q E h => ?_) (fun cdv A outer s H vs Q E hr h => ?_), T.g_coned, T.f_coned.kp, T.f_coned.binds (ps := ["planes"]) fun _ _ _ _ _ _ us hl => match us, hl with | [_], _ => rfl, .nil⟩
  · obtain ⟨a, r, n, zss, rfl, _⟩ := h
    rfl
  · obtain ⟨a, r, n, zss, rfl, hpl, q1, q2, q3⟩ := h
    obtain ⟨_, g_MOST_LETTERS⟩ := T.v_MOST_LETTERS
    obtain ⟨_, g_MOST_PLANES⟩ := T.v_MOST_PLANES
    have sz : sizeLine = 16777216 := sizeLine_eq
    refine ⟨_, (pss_cons (ps_set (i := 1) sc_coned.nd rfl (by first | exact Or.inl rfl | exact Or.inr rfl) (pe_fldK (K := K) (pv 0) rfl))
    (pss_cons (ps_if (pt_cmpR op_eq (pv 1) (pe_glob (v := .int 4) rfl g_MOST_LETTERS ⟨_, rfl⟩) (nomark _)) (pss_one (L2N.ps_raise rfl (L2N.takes_of rfl rfl rfl rfl) (L2N.pmk_own PySem.F.excBase_ValueError T.x_BadNumber T.g_BadNumber T.k_BadNumber (raises_own T.s_BadNumber T.t_BadNumber) rfl))) pss_nil)
    (pss_cons (ps_if (pt_cmpR op_eq (pe_callB (call_lenOwn (ok_Planes_len T (P := P) (w := w) (base := base)).ok (hr.mono (by decide)) T.me_Planes_len.at_ T.me_Planes_len.fn (ok_Planes_len T (P := P) (w := w) (base := base)).b pass0) (by rfl) T.m_len PySem.boot_len (pa_cons (pv 0) pa_nil)) (pe_glob (v := .int 12) rfl g_MOST_PLANES ⟨_, rfl⟩) (nomark _)) (pss_one (L2N.ps_raise rfl (L2N.takes_of rfl rfl rfl rfl) (L2N.pmk_own PySem.F.excBase_ValueError T.x_TooLarge T.g_TooLarge T.k_TooLarge (raises_own T.s_TooLarge T.t_TooLarge) rfl))) pss_nil)
    (pss_cons (ps_setLc (i := 2) (own := [("plane", 3)]) rfl sc_coned.nd rfl rfl (sw_true rfl rfl rfl (by decide +kernel)) (pi_list (pe_meth0 (pv 0) T.cl_Planes T.me_Planes_planes (ok_Planes_planes T (P := P) (w := w) (base := base)).ok (hr.mono (by decide)) (ok_Planes_planes T (P := P) (w := w) (base := base)).b .nil pass0)) (blkOk_by (N := ["planes", "n", "rows", "plane"]) (sc := defScope s_coned) (by decide +kernel)) (fun _ _ _ _ _ => (pg_name (i := 3) sc_coned.nd rfl (by first | exact Or.inl rfl | exact Or.inr rfl))) (fun _ _ _ _ _ => pts_nil) (fun _ _ _ _ _ => (pe_op (op_catK (K := K)) (pe_slice (sl_tupK (K := K)) (pv 3) po_none (po_some (pv 1))) (pe_tup (pa_cons (pe_un un_neg (pe_ix (ix_tupK (K := K)) (pv 3) (pv 1) (fun _ _ => rfl))) (pa_cons pe_int pa_nil))))))
    (pss_one (ps_ret (pe_make T.mk_Planes (ok_Planes_init T (P := P) (w := w) (base := base)).ok (hr.mono (by decide)) rfl T.g_Planes (ok_Planes_init T (P := P) (w := w) (base := base)).b .nil pass0 (pa_cons (pe_op op_add (pv 1) pe_int) (pa_cons (pe_op op_cat (pv 2) (pe_lst (pa_cons (pe_op (op_catK (K := K)) (pe_op (op_repA (K := K)) (pe_tup (pa_cons pe_int pa_nil)) (pv 1)) (pe_tup (pa_cons pe_int (pa_cons pe_int pa_nil)))) pa_nil))) pa_nil))))))))), ?_⟩
    obtain ⟨dx, ha⟩ := hpl.ob
    have hok := hpl.ok
    have n1 := hpl.n1
    have n4 := hpl.n4
    have heq : ∀ i j : Nat, decide (V.int (i : Nat) = V.int (j : Nat)) = decide (i = j) := fun i j => by
      by_cases h : i = j
      · rw [h, decide_eq_true rfl, decide_eq_true rfl]
      · rw [decide_eq_false h, decide_eq_false (fun e => h (by have := V.int.inj e; omega))]
    refine ⟨_, rfl, a, _, dx, _, _, rfl, ha, T.cl_Planes, T.na_Planes_n, pflds_n _ _, ?_⟩
    refine ⟨_, rfl, rfl, _, rfl, ?_⟩
    rw [show decide (V.int ((n : Nat) : Int) = V.int 4) = decide (n = 4) from heq n 4]
    by_cases h4 : n = 4
    · rw [decide_eq_true h4]
      exact iteT (q1 h4 H (Ex.refl H))
    rw [decide_eq_false h4]
    refine iteF ?_
    refine ⟨_, rfl, a, dx, _, rfl, ha, a, r, n, zss, rfl, hpl, fun H1 e1 => ⟨zss.length, rfl, by have := hok.1; omega, rfl, _, rfl, ?_⟩⟩
    rw [show decide (V.int ((zss.length : Nat) : Int) = V.int 12) = decide (zss.length = 12) from heq _ 12]
    by_cases h12 : zss.length = 12
    · rw [decide_eq_true h12]
      exact iteT (q2 h4 h12 H1 e1)
    rw [decide_eq_false h12]
    refine iteF ?_
    have l12 : zss.length < 12 := by have := hok.1; omega
    refine ⟨_, rfl, a, dx, _, rfl, e1 _ _ ha, pflds_no _ _ (by decide +kernel) (by decide +kernel), a, r, n, zss, rfl, hpl.mono e1, fun H2 g us e2 hg hz => ?_⟩
    refine ⟨g, rfl, ⟨_, SqL.of hg⟩, fun D hD => ?_⟩
    refine lc_acc (l := none) (wk_list (K := K) (fun z => nomatch z) (SqL.of hg)) hD (fun i acc H' => All2 (PlV K H') acc ((zss.map (cnL n)).take i)) .nil (fun _ _ _ _ e h => h.imp fun _ _ h => h.mono e) ?_ ?_
    · rintro i x H3 acc hi e3 hy hl' ha' hx
      obtain ⟨zs, hzs, p, rfl, hp⟩ := hz.get hx
      have hpz := hok.2.1 zs (List.mem_of_getElem? hzs)
      refine ⟨rfl, ?_⟩
      have hpv : PlV K H3 (.ref p) zs := ⟨p, rfl, ex_t e3.ex hp⟩
      refine ⟨_, rfl, _, rfl, _, rfl, take_pl hpv fun H4 u4 e4 h4 => ?_⟩
      have hp4 := ex_t e4 (ex_t e3.ex hp)
      refine ⟨_, rfl, _, rfl, p, _, n, _, rfl, rfl, hp4, atI_nat (atp (by have := hpz.1; omega)), _, rfl, by show (2 : Nat) ≤ sizeLine; omega, fun t5 ht5 => ?_⟩
      obtain ⟨e5, h5⟩ := pl_of (K := K) [-(zs.getD n 0), 0] ht5
      refine cat_pl (h4.mono e5) h5 (by rw [List.length_take]; show _ + 2 ≤ 2000; omega) fun H6 u6 e6 h6 => ?_
      have e46 := e4.trans (e5.trans e6)
      have hy6 := e46 _ _ hy
      refine LcP.push hD (e3.trans (Exo.of e46)) hy6 hl' (by have := hz.1; omega) ?_
      rw [List.take_add_one, List.getElem?_map, hzs]
      exact (ha'.imp fun _ _ h => plv_upd (h.mono e46) hy6).app (.cons (plv_upd h6 hy6) .nil)
    · rintro H3 ys e3 hy ha3
      rw [hz.1, ← List.length_map (f := cnL n), List.take_length] at ha3
      have e03 := (e1.trans e2).trans e3.ex
      refine ⟨_, rfl, _, _, rfl, rfl, ?_⟩
      refine ⟨_, rfl, by show (1 : Nat) ≤ sizeLine; omega, fun t5 ht5 => ?_⟩
      obtain ⟨e5, h5⟩ := pl_of (K := K) [0] ht5
      refine ⟨_, rfl, rep0_pl h5 (by omega) fun H6 u6 e6 h6 => ⟨by show (2 : Nat) ≤ sizeLine; omega, fun t7 ht7 => ?_⟩⟩
      obtain ⟨e7, h7⟩ := pl_of (K := K) [1, 0] ht7
      refine cat_pl (h6.mono e7) h7 (by rw [List.length_replicate]; show n + 2 ≤ 2000; omega) fun H8 u8 e8 h8 => ⟨by show (1 : Nat) ≤ sizeLine; omega, fun p9 hp9 => ?_⟩
      have e38 := ((e5.trans e6).trans e7).trans e8
      have e9 := Ex.new (o := .lst [u8]) hp9
      have e39 := e38.trans e9
      have ly : ys.length = zss.length := by rw [ha3.1, List.length_map]
      refine ⟨D, p9, _, _, rfl, rfl, e39 _ _ hy, upd_same, by rw [ly]; show zss.length + 1 ≤ sizeLine; omega, fun k hk => ?_⟩
      have e10 := Ex.new (o := .lst (ys ++ [u8])) hk
      have e310 := e39.trans e10
      have hk' : (upd (upd H8 p9 (.lst [u8])) k (.lst (ys ++ [u8]))) k = some (.lst (ys ++ [u8])) := upd_same
      have hzk : All2 (PlV K (upd (upd H8 p9 (.lst [u8])) k (.lst (ys ++ [u8])))) (ys ++ [u8]) (coneL n zss) := (ha3.imp fun _ _ h => h.mono e310).app (.cons (h8.mono (e9.trans e10)) .nil)
      have eA := e03.trans e310
      generalize upd (upd H8 p9 (.lst [u8])) k (.lst (ys ++ [u8])) = H11 at hk' hzk eA ⊢
      intro x dx2 hx hdx hxy
      exact make_pl (by omega) (by omega) (SqL.of hk') hzk (hok.cone l12) (fun H' a' r' e hr _ h => q3 h4 l12 H' a' r' (eA.trans e) (none_ex eA hr) h) hx hdx hxy
def sp_joined (K : PySem.W.Frag) (C cB cT : Addr) : Sp := fun vs H Q E => ∃ (a r : Addr) (n : Nat) (zss : List (List Int)) (b s : Addr) (m : Nat) (yss : List (List Int)), vs = [.ref a, .ref b] ∧ PlsAt K C H a r n zss ∧ PlsAt K C H b s m yss ∧ (4 < n + m → ∀ H', Ex H H' → E (.ref cB) none H') ∧
  (n + m ≤ 4 → 12 < zss.length + yss.length → ∀ H', Ex H H' → E (.ref cT) none H') ∧
  (n + m ≤ 4 → zss.length + yss.length ≤ 12 → ∀ H' a' r', Ex H H' → H r' = none → PlsAt K C H' a' r' (n + m) (joinL n m zss yss) → Q (.ref a') H')
theorem ok_joined (T : Txt K w mg ad fd) : Cal P w K mg base (L2N.CX P w) 6 "joined" (ad 41) (fd 41) ["one", "other"] [] [] (sp_joined K (ad 33) (ad 8) (ad 9)) := by
  refine ⟨T.f_joined.okXN sc_joined (fun vs H Q E h => ?_) (fun cdv A outer s H vs Q E hr h => ?_), T.g_joined, T.f_joined.kp, T.f_joined.binds (ps := ["one", "other"]) fun _ _ _ _ _ _ us hl => match us, hl with | [_, _], _ => rfl, .nil⟩
  · obtain ⟨a, r, n, zss, b, s, m, yss, rfl, _⟩ := h
    rfl
  · obtain ⟨a, r, n, zss, b, s, m, yss, rfl, hpl, hpl2, q1, q2, q3⟩ := h
    obtain ⟨_, g_MOST_LETTERS⟩ := T.v_MOST_LETTERS
    obtain ⟨_, g_MOST_PLANES⟩ := T.v_MOST_PLANES
    have sz : sizeLine = 16777216 := sizeLine_eq
    refine ⟨_, (pss_cons (ps_asg (pe_tup (pa_cons (pe_fldK (K := K) (pv 0) rfl) (pa_cons (pe_fldK (K := K) (pv 1) rfl) pa_nil))) (pg_tup (n := 2) rfl (pgs_cons (pg_name (i := 2) sc_joined.nd rfl (by first | exact Or.inl rfl | exact Or.inr rfl)) (pgs_cons (pg_name (i := 3) sc_joined.nd rfl (by first | exact Or.inl rfl | exact Or.inr rfl)) pgs_nil))))
    (pss_cons (ps_if (pt_cmpR op_gt (pe_op op_add (pv 2) (pv 3)) (pe_glob (v := .int 4) rfl g_MOST_LETTERS ⟨_, rfl⟩) (nomark _)) (pss_one (L2N.ps_raise rfl (L2N.takes_of rfl rfl rfl rfl) (L2N.pmk_own PySem.F.excBase_ValueError T.x_BadNumber T.g_BadNumber T.k_BadNumber (raises_own T.s_BadNumber T.t_BadNumber) rfl))) pss_nil)
    (pss_cons (ps_if (pt_cmpR op_gt (pe_op op_add (pe_callB (call_lenOwn (ok_Planes_len T (P := P) (w := w) (base := base)).ok (hr.mono (by decide)) T.me_Planes_len.at_ T.me_Planes_len.fn (ok_Planes_len T (P := P) (w := w) (base := base)).b pass0) (by rfl) T.m_len PySem.boot_len (pa_cons (pv 0) pa_nil)) (pe_callB (call_lenOwn (ok_Planes_len T (P := P) (w := w) (base := base)).ok (hr.mono (by decide)) T.me_Planes_len.at_ T.me_Planes_len.fn (ok_Planes_len T (P := P) (w := w) (base := base)).b pass0) (by rfl) T.m_len PySem.boot_len (pa_cons (pv 1) pa_nil))) (pe_glob (v := .int 12) rfl g_MOST_PLANES ⟨_, rfl⟩) (nomark _)) (pss_one (L2N.ps_raise rfl (L2N.takes_of rfl rfl rfl rfl) (L2N.pmk_own PySem.F.excBase_ValueError T.x_TooLarge T.g_TooLarge T.k_TooLarge (raises_own T.s_TooLarge T.t_TooLarge) rfl))) pss_nil)
    (pss_cons (ps_setLc (i := 4) (own := [("plane", 5)]) rfl sc_joined.nd rfl rfl (sw_true rfl rfl rfl (by decide +kernel)) (pi_list (pe_meth0 (pv 0) T.cl_Planes T.me_Planes_planes (ok_Planes_planes T (P := P) (w := w) (base := base)).ok (hr.mono (by decide)) (ok_Planes_planes T (P := P) (w := w) (base := base)).b .nil pass0)) (blkOk_by (N := ["one", "other", "n", "m", "first", "plane", "second"]) (sc := defScope s_joined) (by decide +kernel)) (fun _ _ _ _ _ => (pg_name (i := 5) sc_joined.nd rfl (by first | exact Or.inl rfl | exact Or.inr rfl))) (fun _ _ _ _ _ => pts_nil) (fun _ _ _ _ _ => (pe_op (op_catK (K := K)) (pe_op (op_catK (K := K)) (pe_slice (sl_tupK (K := K)) (pv 5) po_none (po_some (pv 2))) (pe_op (op_repA (K := K)) (pe_tup (pa_cons pe_int pa_nil)) (pv 3))) (pe_slice (sl_tupK (K := K)) (pv 5) (po_some (pv 2)) po_none))))
    (pss_cons (ps_setLc (i := 6) (own := [("plane", 5)]) rfl sc_joined.nd rfl rfl (sw_true rfl rfl rfl (by decide +kernel)) (pi_list (pe_meth0 (pv 1) T.cl_Planes T.me_Planes_planes (ok_Planes_planes T (P := P) (w := w) (base := base)).ok (hr.mono (by decide)) (ok_Planes_planes T (P := P) (w := w) (base := base)).b .nil pass0)) (blkOk_by (N := ["one", "other", "n", "m", "first", "plane", "second"]) (sc := defScope s_joined) (by decide +kernel)) (fun _ _ _ _ _ => (pg_name (i := 5) sc_joined.nd rfl (by first | exact Or.inl rfl | exact Or.inr rfl))) (fun _ _ _ _ _ => pts_nil) (fun _ _ _ _ _ => (pe_op (op_catK (K := K)) (pe_op (op_repA (K := K)) (pe_tup (pa_cons pe_int pa_nil)) (pv 2)) (pv 5))))
    (pss_one (ps_ret (pe_make T.mk_Planes (ok_Planes_init T (P := P) (w := w) (base := base)).ok (hr.mono (by decide)) rfl T.g_Planes (ok_Planes_init T (P := P) (w := w) (base := base)).b .nil pass0 (pa_cons (pe_op op_add (pv 2) (pv 3)) (pa_cons (pe_op op_cat (pv 4) (pv 6)) pa_nil)))))))))), ?_⟩
    obtain ⟨dx, ha⟩ := hpl.ob
    obtain ⟨dy, hb⟩ := hpl2.ob
    have hok := hpl.ok
    have hok2 := hpl2.ok
    have n1 := hpl.n1
    have n4 := hpl.n4
    have m1 := hpl2.n1
    have m4 := hpl2.n4
    refine ⟨_, rfl, a, _, dx, _, _, rfl, ha, T.cl_Planes, T.na_Planes_n, pflds_n _ _, _, rfl, b, _, dy, _, _, rfl, hb, T.cl_Planes, T.na_Planes_n, pflds_n _ _, ?_⟩
    refine ⟨by show (2 : Nat) ≤ sizeLine; omega, fun t1 ht1 => ?_⟩
    have e1 := Ex.new (o := .tup [.int (n : Nat), .int (m : Nat)]) ht1
    refine ⟨t1, _, rfl, SqT.of upd_same, rfl, _, _, rfl, _, _, rfl, rfl, ?_⟩
    generalize upd H t1 (.tup [.int (n : Nat), .int (m : Nat)]) = H1 at e1 ⊢
    refine ⟨_, rfl, _, rfl, _, _, rfl, rfl, _, _, rfl, rfl, _, rfl, ?_⟩
    by_cases h4' : 4 < n + m
    · rw [decide_eq_true (show (4 : Int) < (n : Int) + m by omega)]
      exact iteT (q1 (by omega) H1 e1)
    have h4 : n + m ≤ 4 := by omega
    rw [decide_eq_false (show ¬ (4 : Int) < (n : Int) + m by omega)]
    refine iteF ?_
    refine ⟨_, rfl, a, dx, _, rfl, e1 _ _ ha, a, r, n, zss, rfl, hpl.mono e1, fun H2 e2 => ⟨zss.length, rfl, by have := hok.1; omega, ?_⟩⟩
    refine ⟨_, rfl, b, dy, _, rfl, (e1.trans e2) _ _ hb, b, s, m, yss, rfl, hpl2.mono (e1.trans e2), fun H3 e3 => ⟨yss.length, rfl, by have := hok2.1; omega, _, _, rfl, rfl, _, _, rfl, rfl, _, rfl, ?_⟩⟩
    have e03 := (e1.trans e2).trans e3
    by_cases h12' : 12 < zss.length + yss.length
    · rw [decide_eq_true (show (12 : Int) < (zss.length : Int) + yss.length by omega)]
      exact iteT (q2 h4 (by omega) H3 e03)
    have h12 : zss.length + yss.length ≤ 12 := by omega
    rw [decide_eq_false (show ¬ (12 : Int) < (zss.length : Int) + yss.length by omega)]
    refine iteF ?_
    refine ⟨_, rfl, a, dx, _, rfl, e03 _ _ ha, pflds_no _ _ (by decide +kernel) (by decide +kernel), a, r, n, zss, rfl, hpl.mono e03, fun H4 g us e4 hg hz => ?_⟩
    refine ⟨g, rfl, ⟨_, SqL.of hg⟩, fun D hD => ?_⟩
    refine lc_acc (l := none) (wk_list (K := K) (fun z => nomatch z) (SqL.of hg)) hD (fun i acc H' => All2 (PlV K H') acc ((zss.map (j1 n m)).take i)) .nil (fun _ _ _ _ e h => h.imp fun _ _ h => h.mono e) ?_ ?_
    · rintro i x H5 acc hi e5 hy hl' ha' hx
      obtain ⟨zs, hzs, hp⟩ := hz.get hx
      have hpz := hok.2.1 zs (List.mem_of_getElem? hzs)
      have lz : zs.length ≤ 5 := by have := hpz.1; omega
      have lt : (zs.take n).length ≤ 5 := by rw [List.length_take]; omega
      have ld : (zs.drop n).length ≤ 5 := by rw [List.length_drop]; omega
      refine ⟨rfl, ?_⟩
      have hpv := hp.mono e5.ex
      refine ⟨_, rfl, _, rfl, _, rfl, take_pl hpv fun H6 u6 e6 h6 => ?_⟩
      refine ⟨by show (1 : Nat) ≤ sizeLine; omega, fun t7 ht7 => ?_⟩
      obtain ⟨e7, h7⟩ := pl_of (K := K) [0] ht7
      refine ⟨_, rfl, rep0_pl h7 (by omega) fun H8 u8 e8 h8 => ?_⟩
      refine cat_pl (h6.mono (e7.trans e8)) h8 (by rw [List.length_replicate]; omega) fun H9 u9 e9 h9 => ?_
      have e69 := e6.trans ((e7.trans e8).trans e9)
      refine ⟨_, rfl, _, rfl, _, rfl, ?_⟩
      dsimp only [tNoPart]
      refine drop_pl (hpv.mono e69) fun H10 u10 e10 h10 => ?_
      refine cat_pl (h9.mono e10) h10 (by rw [List.length_append, List.length_replicate]; omega) fun H11 u11 e11 h11 => ?_
      have e611 := e69.trans (e10.trans e11)
      have hy11 := e611 _ _ hy
      refine LcP.push hD (e5.trans (Exo.of e611)) hy11 hl' (by have := hz.1; have := hok.1; omega) ?_
      rw [List.take_add_one, List.getElem?_map, hzs]
      exact (ha'.imp fun _ _ h => plv_upd (h.mono e611) hy11).app (.cons (plv_upd h11 hy11) .nil)
    rintro H5 ys e5 hy ha5
    rw [hz.1, ← List.length_map (f := j1 n m), List.take_length] at ha5
    have e5 := e5.ex
    have e05 := e03.trans (e4.trans e5)
    change Ends.nx _ _ _
    dsimp only
    refine ⟨_, rfl, b, dy, _, rfl, e05 _ _ hb, pflds_no _ _ (by decide +kernel) (by decide +kernel), b, s, m, yss, rfl, hpl2.mono e05, fun H6 g2 us2 e6 hg2 hz2 => ?_⟩
    refine ⟨g2, rfl, ⟨_, SqL.of hg2⟩, fun D2 hD2 => ?_⟩
    refine lc_acc (l := none) (wk_list (K := K) (fun z => nomatch z) (SqL.of hg2)) hD2 (fun i acc H' => All2 (PlV K H') acc ((yss.map (j2 n)).take i)) .nil (fun _ _ _ _ e h => h.imp fun _ _ h => h.mono e) ?_ ?_
    · rintro i x H7 acc hi e7 hy' hl' ha' hx
      obtain ⟨zs, hzs, hp⟩ := hz2.get hx
      have hpz := hok2.2.1 zs (List.mem_of_getElem? hzs)
      have lz : zs.length ≤ 5 := by have := hpz.1; omega
      refine ⟨rfl, ?_⟩
      have hpv := hp.mono e7.ex
      refine ⟨by show (1 : Nat) ≤ sizeLine; omega, fun t8 ht8 => ?_⟩
      obtain ⟨e8, h8⟩ := pl_of (K := K) [0] ht8
      refine ⟨_, rfl, rep0_pl h8 (by omega) fun H9 u9 e9 h9 => ?_⟩
      refine ⟨_, rfl, cat_pl h9 (hpv.mono (e8.trans e9)) (by rw [List.length_replicate]; omega) fun H11 u11 e11 h11 => ?_⟩
      have e711 := (e8.trans e9).trans e11
      have hy11 := e711 _ _ hy'
      refine LcP.push hD2 (e7.trans (Exo.of e711)) hy11 hl' (by have := hz2.1; have := hok2.1; omega) ?_
      rw [List.take_add_one, List.getElem?_map, hzs]
      exact (ha'.imp fun _ _ h => plv_upd (h.mono e711) hy11).app (.cons (plv_upd h11 hy11) .nil)
    rintro H7 ys2 e7 hy7 ha7
    rw [hz2.1, ← List.length_map (f := j2 n), List.take_length] at ha7
    have e7 := e7.ex
    have e57 := e6.trans e7
    change Ends.nx _ _ _
    dsimp only
    have l1 : ys.length = zss.length := by rw [ha5.1, List.length_map]
    have l2 : ys2.length = yss.length := by rw [ha7.1, List.length_map]
    refine ⟨_, rfl, _, rfl, _, _, rfl, rfl, ?_⟩
    refine ⟨_, rfl, _, rfl, D, D2, _, _, rfl, rfl, e57 _ _ hy, hy7, by omega, fun k hk => ?_⟩
    have e8 := Ex.new (o := .lst (ys ++ ys2)) hk
    have hk' : (upd H7 k (.lst (ys ++ ys2))) k = some (.lst (ys ++ ys2)) := upd_same
    have hzk : All2 (PlV K (upd H7 k (.lst (ys ++ ys2)))) (ys ++ ys2) (joinL n m zss yss) := (ha5.imp fun _ _ h => h.mono (e57.trans e8)).app (ha7.imp fun _ _ h => h.mono e8)
    have eA := e05.trans (e57.trans e8)
    generalize upd H7 k (.lst (ys ++ ys2)) = H11 at hk' hzk eA ⊢
    intro x dx2 hx hdx hxy
    exact make_pl (n := n + m) (by omega) (by omega) (SqL.of hk') hzk (hok.join hok2 h12) (fun H' a' r' e hr _ h => q3 h4 h12 H' a' r' (eA.trans e) (none_ex eA hr) h) hx hdx hxy
/-! ### the law's own draws -/
theorem map_int {ns : List Int} {i : Nat} {x : V} (h : (ns.map V.int)[i]? = some x) : ∃ z, x = .int z := by
  rw [List.getElem?_map] at h
  cases e : ns[i]? with
  | none =>
    rw [e] at h
    cases h
  | some z =>
    rw [e] at h
    exact ⟨z, (Option.some.inj h).symm⟩
def Dr (ds : List Int) : Prop := ∀ d ∈ ds, 0 ≤ d ∧ d < 1000
theorem Dr.app {ds es : List Int} (a : Dr ds) (b : Dr es) : Dr (ds ++ es) := fun d h => (List.mem_append.mp h).elim (a d) (b d)
theorem rest1000 (x : Int) : 0 ≤ x % 1000 ∧ x % 1000 < 1000 := by omega
/-- all that was stands; at l stand draws, at most n -/
def DrH (H0 : Hp) (l : Addr) (n : Nat) (H : Hp) : Prop := Ex H0 H ∧ H0 l = none ∧ ∃ ds : List Int, H l = some (.lst (ds.map V.int)) ∧ Dr ds ∧ ds.length ≤ n
def sp__law_number : Sp := fun vs H Q _ => ∃ c, vs = [.int c] ∧ Q (.int (c.natAbs : Int)) H
theorem ok__law_number (T : Txt K w mg ad fd) : Cal P w K mg base CX0 1 "_law_number" (ad 44) (fd 44) ["cell"] [] [] sp__law_number := by
  refine ⟨T.f__law_number.ok sc__law_number (fun vs H Q E h => ?_) (fun cdv A outer s H vs Q E hr h => ?_), T.g__law_number, T.f__law_number.kp, T.f__law_number.binds (ps := ["cell"]) fun _ _ _ _ _ _ us hl => match us, hl with | [_], _ => rfl, .nil⟩
  · obtain ⟨a, rfl, _⟩ := h
    rfl
  · obtain ⟨a, rfl, q⟩ := h
    refine ⟨_, (pss_cons (ps_if (pt_cmpR op_lt (pv 0) pe_int (nomark _)) (pss_one (ps_ret (pe_op op_sub pe_int (pv 0)))) pss_nil)
    (pss_one (ps_ret (pv 0)))), ?_⟩
    walk_at "go"
    by_cases h1 : a < 0
    · rw [if_pos h1]
      have e : (a.natAbs : Int) = 0 - a := by omega
      rw [← e]
      exact q
    · rw [if_neg h1]
      have e : (a.natAbs : Int) = a := by omega
      rw [← e]
      exact q
theorem DrH.put {H0 H H1 : Hp} {l : Addr} {n m : Nat} {zs : List Int} (h : DrH H0 l n H) (e : Ex H H1) (hz : Dr zs) (hm : n + zs.length ≤ m) :
    ∃ ds : List Int, H1 l = some (.lst (ds.map V.int)) ∧ ds.length ≤ n ∧ DrH H0 l m (upd H1 l (.lst (ds.map V.int ++ zs.map V.int))) := by
  obtain ⟨e0, nl, ds, hl, hd, hlen⟩ := h
  refine ⟨ds, e _ _ hl, hlen, (e0.trans e).mut nl, nl, ds ++ zs, ?_, hd.app hz, ?_⟩
  · rw [upd_same, List.map_append]
  · rw [List.length_append]
    omega
def sp__law_draws (K : PySem.W.Frag) : Sp := fun vs H Q _ => ∃ (a : Addr) (ns : List Int), vs = [.ref a] ∧ SqL K H a (ns.map V.int) ∧ ns.length ≤ 63 ∧ ∀ H' l, DrH H l 4000 H' → Q (.ref l) H'
theorem ok__law_draws (T : Txt K w mg ad fd) : Cal P w K mg base CX0 2 "_law_draws" (ad 45) (fd 45) ["script"] [] [] (sp__law_draws K) := by
  refine ⟨T.f__law_draws.ok sc__law_draws (fun vs H Q E h => ?_) (fun cdv A outer s H vs Q E hr h => ?_), T.g__law_draws, T.f__law_draws.kp, T.f__law_draws.binds (ps := ["script"]) fun _ _ _ _ _ _ us hl => match us, hl with | [_], _ => rfl, .nil⟩
  · obtain ⟨a, ns, rfl, _⟩ := h
    rfl
  · obtain ⟨a, ns, rfl, hS, hlen, q⟩ := h
    refine ⟨_, (pss_cons (ps_set (i := 1) sc__law_draws.nd rfl (by first | exact Or.inl rfl | exact Or.inr rfl) (pe_lst pa_nil))
    (pss_cons (ps_for (by first | exact PassesOwn.never | exact passes_of rfl) rfl (pi_list (pv 0)) (pg_name (i := 2) sc__law_draws.nd rfl (by first | exact Or.inl rfl | exact Or.inr rfl))
      (pss_cons (ps_set (i := 3) sc__law_draws.nd rfl (by first | exact Or.inl rfl | exact Or.inr rfl) (pe_cal (ok__law_number T (P := P) (w := w) (base := base)) (hr.mono (by decide)) pass0 (pa_cons (pv 2) pa_nil)))
    (pss_one (ps_if (pt_cmpR op_ge (pv 3) pe_int (nomark _)) (pss_one (ps_for (by first | exact PassesOwn.never | exact passes_of rfl) rfl (pi_range1 rfl T.m_range (pa_cons pe_int pa_nil)) (pg_name (i := 4) sc__law_draws.nd rfl (by first | exact Or.inl rfl | exact Or.inr rfl))
      (pss_cons (ps_if (pt_cmpR op_eq (pv 3) pe_int (nomark _)) (pss_one ps_break) pss_nil)
    (pss_cons (ps_expr (pe_bm PySem.F.plainAttrs_list PySem.F.slot_list_append PySem.F.type_list_append mt_append (pv 1) (pa_cons (pe_op op_mod (pe_callTy (T := "int") call_int1 (by rfl) T.m_int (by decide +kernel) (pa_cons (pv 3) pa_nil)) pe_int) pa_nil)))
    (pss_one (ps_set (i := 3) sc__law_draws.nd rfl (by first | exact Or.inl rfl | exact Or.inr rfl) (pe_op op_fdivG (pv 3) pe_int))))))) (pss_cons (ps_set (i := 5) sc__law_draws.nd rfl (by first | exact Or.inl rfl | exact Or.inr rfl) (pe_op op_mod (pe_callTy (T := "int") call_int1 (by rfl) T.m_int (by decide +kernel) (pa_cons (pe_op op_add (pe_op op_mulW (pv 3) pe_int) pe_int) pa_nil)) pe_int))
    (pss_cons (ps_set (i := 6) sc__law_draws.nd rfl (by first | exact Or.inl rfl | exact Or.inr rfl) (pe_op op_mod (pe_callTy (T := "int") call_int1 (by rfl) T.m_int (by decide +kernel) (pa_cons (pe_op op_add (pe_op op_mulW (pv 5) pe_int) (pv 3)) pa_nil)) pe_int))
    (pss_one (ps_expr (pe_bm PySem.F.plainAttrs_list PySem.F.slot_list_extend PySem.F.type_list_extend mt_extend (pv 1) (pa_cons (pe_lst (pa_cons (pe_op op_mod (pe_callTy (T := "int") call_int1 (by rfl) T.m_int (by decide +kernel) (pa_cons (pv 3) pa_nil)) pe_int) (pa_cons (pe_op op_mod (pe_callTy (T := "int") call_int1 (by rfl) T.m_int (by decide +kernel) (pa_cons (pv 5) pa_nil)) pe_int) (pa_cons (pe_op op_mod (pe_callTy (T := "int") call_int1 (by rfl) T.m_int (by decide +kernel) (pa_cons (pv 6) pa_nil)) pe_int) pa_nil)))) pa_nil))))))))))
    (pss_one (ps_ret (pv 1))))), ?_⟩
    refine ⟨Nat.zero_le _, fun l nl => ?_⟩
    have d0 : DrH H l 0 (upd H l (.lst [])) := ⟨Ex.new nl, nl, [], upd_same, (fun d h => nomatch h), Nat.le_refl _⟩
    refine ⟨.ref a, rfl, a, rfl, ⟨_, ex_l d0.1 hS⟩, for_list (K := K) (a := a) (xs := ns.map V.int)
      (fun i σ H' => ∃ c2 c3 c4 c5 c6, σ = [some (.ref a), some (.ref l), c2, c3, c4, c5, c6] ∧ DrH H l (60 * i) H') ⟨_, _, _, _, _, rfl, d0⟩ (fun i σ H' _ ⟨_, _, _, _, _, _, d⟩ => ex_l d.1 hS) ?_ ?_⟩
    · rintro i x σ H1 hi ⟨c2, c3, c4, c5, c6, rfl, d1⟩
      obtain ⟨z, rfl⟩ := map_int hi
      have hin : i < 63 := by
        have := (List.getElem?_eq_some_iff.mp hi).1
        rw [List.length_map] at this
        omega
      -- rest = _law_number(cell)
      refine ⟨.int z, rfl, z, rfl, ?_⟩
      -- rest >= 10 ** 18
      refine ⟨_, rfl, _, _, rfl, rfl, _, rfl, ite2 (fun hb => ?_) (fun hb => ?_)⟩
      · -- the long way
        refine ⟨60, rfl, by decide, by decide, for_range (lo := 0) (n := 60)
          (fun j σ H' => ∃ (r : Int) (c4 : Option V), 0 ≤ r ∧ σ = [some (.ref a), some (.ref l), some (.int z), some (.int r), c4, c5, c6] ∧ DrH H l (60 * i + j) H') ⟨_, _, by omega, rfl, d1⟩ ?_ ?_⟩
        · rintro j σ H2 hj ⟨r, c4', hr0, rfl, d2⟩
          refine ⟨_, rfl, rfl, _, rfl, ite2 (fun h0 => ?_) (fun h0 => ?_)⟩
          · exact ⟨_, _, _, _, _, rfl, d2.1, d2.2.1, let ⟨ds, h1, h2, h3⟩ := d2.2.2; ⟨ds, h1, h2, by omega⟩⟩
          · obtain ⟨ds, hl, hn, d3⟩ := d2.put (Ex.refl _) (zs := [r % 1000]) (fun d hd => (by
              cases List.mem_singleton.mp hd
              exact rest1000 r)) (Nat.le_refl _)
            refine ⟨.ref l, rfl, .inl ⟨rfl, _, .inl (.inl hl)⟩, ?_⟩
            refine ⟨_, rfl, .inl ⟨_, rfl, ?_⟩⟩
            refine ⟨_, _, rfl, rfl, (by show (0 : Int) < 1000; decide), ?_⟩
            refine ⟨l, _, _, rfl, rfl, hl, ?_, ?_⟩
            · rw [List.length_map]
              exact Nat.lt_of_le_of_lt hn (Nat.lt_of_lt_of_le (show _ < 4000 by omega) (by decide))
            · refine ⟨_, rfl, _, _, rfl, rfl, ⟨by decide, by decide⟩, ?_⟩
              refine ⟨_, _, ?_, rfl, d3⟩
              rw [Int.fdiv_eq_ediv_of_nonneg _ (by decide)]
              omega
        · rintro σ H2 ⟨r, c4', hr0, rfl, d2⟩
          exact ⟨_, _, _, _, _, rfl, d2.1, d2.2.1, let ⟨ds, h1, h2, h3⟩ := d2.2.2; ⟨ds, h1, h2, by omega⟩⟩
      · -- the short way
        have hb' : (z.natAbs : Int) < 1000000000000000000 := by
          have := of_decide_eq_false (Bool.eq_false_iff.mpr hb)
          omega
        walk_at "go"
        have k1 : ((z.natAbs : Int)).natAbs < 2 ^ 60 := by
          have : ((z.natAbs : Int)).natAbs = z.natAbs := by omega
          rw [this]
          have : (2 : Nat) ^ 60 = 1152921504606846976 := by decide
          omega
        have k2 : ((z.natAbs * 48271 + 11) % 2147483647 : Int).natAbs < 2 ^ 60 := by
          have : (2 : Nat) ^ 60 = 1152921504606846976 := by decide
          omega
        refine ⟨wide_mul (b := 17) k1 (by decide) (by decide) (by decide) (by decide), wide_mul (b := 17) k2 (by decide) (by decide) (by decide) (by decide), ?_⟩
        obtain ⟨_, _, ds0, hl, _, _⟩ := id d1
        refine ⟨.ref l, rfl, .inl ⟨rfl, _, .inl (.inl hl)⟩, ?_⟩
        walk_at "go"
        refine ⟨by decide, fun p hp => ?_⟩
        obtain ⟨ds, hl, hn, d3⟩ := d1.put (Ex.new hp) (m := 60 * (i + 1)) (zs := [(z.natAbs : Int) % 1000, ((z.natAbs : Int) * 48271 + 11) % 2147483647 % 1000, (((z.natAbs : Int) * 48271 + 11) % 2147483647 * 69621 + z.natAbs) % 2147483629 % 1000]) (fun d hd => (by
          simp only [List.mem_cons, List.not_mem_nil, or_false] at hd
          rcases hd with rfl | rfl | rfl <;> exact rest1000 _)) (by simp; omega)
        refine ⟨l, p, _, _, rfl, rfl, hl, upd_same, ?_, d3⟩
        rw [List.length_map]
        exact Nat.le_trans (show _ ≤ 4000 by simp; omega) (by decide)
    · rintro σ H1 ⟨c2, c3, c4, c5, c6, rfl, d1⟩
      refine ⟨_, rfl, q _ _ ⟨d1.1, nl, ?_⟩⟩
      obtain ⟨ds, h1, h2, h3⟩ := d1.2.2
      rw [List.length_map] at h3
      exact ⟨ds, h1, h2, by omega⟩
/-! ### draws that are used up; all else stands -/
def DrA (l : Addr) (H : Hp) : Prop := ∃ ds : List Int, H l = some (.lst (ds.map V.int)) ∧ Dr ds
def Mv (l : Addr) (H H' : Hp) : Prop := (∀ a o, a ≠ l → H a = some o → H' a = some o) ∧ DrA l H'
theorem Mv.trans {l : Addr} {H H1 H2 : Hp} (a : Mv l H H1) (b : Mv l H1 H2) : Mv l H H2 := ⟨fun x o n h => b.1 x o n (a.1 x o n h), b.2⟩
theorem Mv.of {l : Addr} {H H' : Hp} (d : DrA l H) (e : Ex H H') : Mv l H H' := ⟨fun a o _ h => e a o h, let ⟨ds, h1, h2⟩ := d; ⟨ds, e _ _ h1, h2⟩⟩
theorem Mv.refl {l : Addr} {H : Hp} (d : DrA l H) : Mv l H H := .of d (Ex.refl H)
theorem Mv.ex {l : Addr} {H H1 H2 : Hp} (a : Mv l H H1) (e : Ex H1 H2) : Mv l H H2 := a.trans (.of a.2 e)
theorem mv_t {K : PySem.W.Frag} {l p : Addr} {H H' : Hp} {xs : List V} (d : DrA l H) (m : Mv l H H') (h : SqT K H p xs) : SqT K H' p xs := by
  obtain ⟨ds, hl, _⟩ := d
  rcases h with (h | ⟨o, h⟩) | h
  · exact .inl (.inl (m.1 _ _ (ne_of h hl (fun z => nomatch z)) h))
  · exact .inl (.inr ⟨o, m.1 _ _ (ne_of h hl (fun z => nomatch z)) h⟩)
  · exact .inr h
theorem mv_num {K : PySem.W.Frag} {l : Addr} {H H' : Hp} {v : V} {a b : Int} (d : DrA l H) (m : Mv l H H') (n : Num K H v a b) : Num K H' v a b :=
  have ⟨p, h1, h2⟩ := n
  ⟨p, h1, mv_t d m h2⟩
def sp__law_next : Sp := fun vs H Q _ => ∃ l, vs = [.ref l] ∧ DrA l H ∧ ∀ H' d, 0 ≤ d → d < 1000 → Mv l H H' → Q (.int d) H'
theorem ok__law_next (T : Txt K w mg ad fd) : Cal P w K mg base CX0 1 "_law_next" (ad 46) (fd 46) ["draws"] [] [] sp__law_next := by
  refine ⟨T.f__law_next.ok sc__law_next (fun vs H Q E h => ?_) (fun cdv A outer s H vs Q E hr h => ?_), T.g__law_next, T.f__law_next.kp, T.f__law_next.binds (ps := ["draws"]) fun _ _ _ _ _ _ us hl => match us, hl with | [_], _ => rfl, .nil⟩
  · obtain ⟨l, rfl, _⟩ := h
    rfl
  · obtain ⟨l, rfl, ⟨ds, hl, hd⟩, q⟩ := h
    refine ⟨_, (pss_cons (ps_if (pt_truth (pv 0) (fun _ => rfl)) (pss_one (ps_ret (pe_bm0 PySem.F.plainAttrs_list PySem.F.slot_list_pop PySem.F.type_list_pop mt_pop (pv 0)))) pss_nil)
    (pss_one (ps_ret pe_int))), ?_⟩
    refine ⟨_, rfl, (!(ds.map V.int).isEmpty), .inl ⟨_, .inl (.inl hl), rfl⟩, ?_⟩
    by_cases hne : ds = []
    · subst hne
      exact q H 0 (by decide) (by decide) (Mv.refl ⟨[], hl, hd⟩)
    · obtain ⟨r, z, rfl⟩ : ∃ r z, ds = r ++ [z] := ⟨ds.dropLast, ds.getLast hne, (List.dropLast_concat_getLast hne).symm⟩
      have e : (!((r ++ [z]).map V.int).isEmpty) = true := by simp
      rw [e]
      refine iteT ?_
      refine ⟨_, rfl, .inl ⟨rfl, _, .inl (.inl hl)⟩, l, _, .int z, rfl, rfl, hl, ?_, ?_⟩
      · simp
      · have hz := hd z (by simp)
        refine q _ z hz.1 hz.2 ⟨fun a o n h => ?_, r, ?_, fun d h => hd d (List.mem_append_left _ h)⟩
        · rw [upd_ne n]
          exact h
        · rw [upd_same]
          simp
/-! ### the law's own divisor -/
theorem gcd_step (x y : Nat) : Nat.gcd y (x % y) = Nat.gcd x y := by
  rw [Nat.gcd_comm y, ← Nat.gcd_rec, Nat.gcd_comm]
theorem mod_half {x y : Nat} (h0 : 0 < y) (h : y ≤ x) : (x % y) * 2 ≤ x := by
  have h1 := Nat.mod_lt x h0
  have h2 := Nat.div_add_mod x y
  have h3 : 1 ≤ x / y := (Nat.one_le_div_iff h0).mpr h
  have h4 : y * 1 ≤ y * (x / y) := Nat.mul_le_mul_left y h3
  omega
/-- the pair of the turn j of Euclid's way, from a pair whose product is at most C -/
def Eu (g C j x y : Nat) : Prop := Nat.gcd x y = g ∧ (x * y) * 2 ^ (j - 1) ≤ C ∧ (1 ≤ j → y ≤ x)
theorem Eu.step {g C j x y : Nat} (e : Eu g C j x y) (h : y ≠ 0) : Eu g C (j + 1) y (x % y) := by
  obtain ⟨h1, h2, h3⟩ := e
  have h0 : 0 < y := Nat.pos_of_ne_zero h
  refine ⟨(gcd_step x y).trans h1, ?_, fun _ => Nat.le_of_lt (Nat.mod_lt x h0)⟩
  rw [Nat.add_sub_cancel]
  cases j with
  | zero =>
    have h5 : y * (x % y) ≤ y * x := Nat.mul_le_mul_left y (Nat.mod_le x y)
    rw [Nat.mul_comm y x] at h5
    simp only [Nat.pow_zero, Nat.mul_one] at *
    have h2' : x * y * 2 ^ (0 - 1) ≤ C := h2
    simp only [Nat.zero_sub, Nat.pow_zero, Nat.mul_one] at h2'
    omega
  | succ k =>
    have h5 := mod_half h0 (h3 (by omega))
    rw [Nat.add_sub_cancel] at h2
    refine Nat.le_trans ?_ h2
    rw [Nat.pow_succ, Nat.mul_comm (2 ^ k) 2, ← Nat.mul_assoc]
    refine Nat.mul_le_mul_right _ ?_
    rw [Nat.mul_assoc, Nat.mul_comm x y]
    exact Nat.mul_le_mul_left y h5
theorem Eu.ends {g j x y : Nat} {n : Nat} (e : Eu g (2 ^ n) j x y) (h : n + 1 < j) : y = 0 := by
  obtain ⟨h1, h2, h3⟩ := e
  cases y with
  | zero => rfl
  | succ y =>
    have h4 := h3 (by omega)
    have h5 : 1 ≤ x * (y + 1) := Nat.mul_le_mul (by omega : 1 ≤ x) (by omega : 1 ≤ y + 1)
    have h6 : 1 * 2 ^ (j - 1) ≤ x * (y + 1) * 2 ^ (j - 1) := Nat.mul_le_mul_right _ h5
    have h7 : 2 ^ n < 2 ^ (j - 1) := Nat.pow_lt_pow_right (by decide) (by omega)
    omega
def sp__law_divisor : Sp := fun vs H Q _ => ∃ a b : Int, vs = [.int a, .int b] ∧ a.natAbs < 2 ^ 4000 ∧ b.natAbs < 2 ^ 4000 ∧ Q (.int ((a.natAbs.gcd b.natAbs : Nat) : Int)) H
theorem ok__law_divisor (T : Txt K w mg ad fd) : Cal P w K mg base CX0 1 "_law_divisor" (ad 47) (fd 47) ["a", "b"] [] [] sp__law_divisor := by
  refine ⟨T.f__law_divisor.ok sc__law_divisor (fun vs H Q E h => ?_) (fun cdv A outer s H vs Q E hr h => ?_), T.g__law_divisor, T.f__law_divisor.kp, T.f__law_divisor.binds (ps := ["a", "b"]) fun _ _ _ _ _ _ us hl => match us, hl with | [_, _], _ => rfl, .nil⟩
  · obtain ⟨a, b, rfl, _⟩ := h
    rfl
  · obtain ⟨a, b, rfl, ha, hb, q⟩ := h
    refine ⟨_, (pss_cons (ps_set (i := 2) sc__law_divisor.nd rfl (by first | exact Or.inl rfl | exact Or.inr rfl) (pe_callB call_abs (by rfl) T.m_abs (by decide +kernel) (pa_cons (pv 0) pa_nil)))
    (pss_cons (ps_set (i := 3) sc__law_divisor.nd rfl (by first | exact Or.inl rfl | exact Or.inr rfl) (pe_callB call_abs (by rfl) T.m_abs (by decide +kernel) (pa_cons (pv 1) pa_nil)))
    (pss_cons (ps_for (by first | exact PassesOwn.never | exact passes_of rfl) rfl (pi_range1 rfl T.m_range (pa_cons (pe_op op_pow pe_int pe_int) pa_nil)) (pg_name (i := 4) sc__law_divisor.nd rfl (by first | exact Or.inl rfl | exact Or.inr rfl))
      (pss_cons (ps_if (pt_cmpR op_eq (pv 3) pe_int (nomark _)) (pss_one ps_break) pss_nil)
    (pss_one (ps_par (i := 2) (j := 3) rfl sc__law_divisor.nd rfl rfl (by decide) rfl rfl (pa_cons (pv 3) (pa_cons (pe_op op_mod (pe_callTy (T := "int") call_int1 (by rfl) T.m_int (by decide +kernel) (pa_cons (pv 2) pa_nil)) (pv 3)) pa_nil)) rfl))))
    (pss_one (ps_ret (pv 2)))))), ?_⟩
    have abs : ∀ x : Int, (if x < 0 then -x else x) = ((x.natAbs : Nat) : Int) := fun x => by split <;> omega
    refine ⟨_, rfl, a, rfl, ?_⟩
    refine ⟨_, rfl, b, rfl, ?_⟩
    rw [abs, abs]
    refine ⟨_, _, rfl, rfl, ⟨by decide, by decide, by decide⟩, ?_⟩
    refine ⟨_, rfl, by decide, by decide, for_range (lo := 0) (n := 1000000000)
      (fun j σ H' => ∃ (x y : Nat) (c4 : Option V), σ = [some (.int a), some (.int b), some (.int x), some (.int y), c4] ∧ H' = H ∧ Eu (a.natAbs.gcd b.natAbs) (2 ^ 8000) j x y) ⟨_, _, none, rfl, rfl, rfl, ?_, fun z => absurd z (by decide)⟩ ?_ ?_⟩
    · simp only [Nat.zero_sub, Nat.pow_zero, Nat.mul_one]
      rw [show (8000 : Nat) = 4000 + 4000 from rfl, Nat.pow_add]
      exact Nat.mul_le_mul (Nat.le_of_lt ha) (Nat.le_of_lt hb)
    · rintro j σ H' hj ⟨x, y, c4, rfl, rfl, e⟩
      refine ⟨_, rfl, rfl, _, rfl, ite2 (fun h0 => ?_) (fun h0 => ?_)⟩
      · have hy : y = 0 := by
          have := V.int.inj (of_decide_eq_true h0)
          omega
        refine ⟨_, rfl, ?_⟩
        rw [hy] at e
        have e1 := e.1
        rw [Nat.gcd_zero_right] at e1
        rw [e1]
        exact q
      · have hy : y ≠ 0 := fun z => h0 (by rw [z]; rfl)
        refine ⟨_, rfl, _, rfl, .inl ⟨_, rfl, _, rfl, _, _, rfl, rfl, (by omega : (0 : Int) < (y : Int)), ?_⟩⟩
        exact ⟨_, _, rfl, y, x % y, _, rfl, rfl, e.step hy⟩
    · rintro σ H' ⟨x, y, c4, rfl, rfl, e⟩
      have hy := e.ends (by decide)
      rw [hy] at e
      have e1 := e.1
      rw [Nat.gcd_zero_right] at e1
      refine ⟨_, rfl, ?_⟩
      rw [e1]
      exact q
def sp__law_lowest (K : PySem.W.Frag) : Sp := fun vs H Q _ => ∃ a b : Int, vs = [.int a, .int b] ∧ a.natAbs < 2 ^ 4000 ∧ b.natAbs < 2 ^ 4000 ∧ b ≠ 0 ∧ ∀ H' v, Ex H H' → Num K H' v (nrm a b).1 (nrm a b).2 → Q v H'
theorem ok__law_lowest (T : Txt K w mg ad fd) : Cal P w K mg base CX0 2 "_law_lowest" (ad 48) (fd 48) ["a", "b"] [] [] (sp__law_lowest K) := by
  refine ⟨T.f__law_lowest.ok sc__law_lowest (fun vs H Q E h => ?_) (fun cdv A outer s H vs Q E hr h => ?_), T.g__law_lowest, T.f__law_lowest.kp, T.f__law_lowest.binds (ps := ["a", "b"]) fun _ _ _ _ _ _ us hl => match us, hl with | [_, _], _ => rfl, .nil⟩
  · obtain ⟨a, b, rfl, _⟩ := h
    rfl
  · obtain ⟨a, b, rfl, ha, hb, h0, q⟩ := h
    refine ⟨_, (pss_cons (ps_set (i := 2) sc__law_lowest.nd rfl (by first | exact Or.inl rfl | exact Or.inr rfl) (pe_cal (ok__law_divisor T (P := P) (w := w) (base := base)) (hr.mono (by decide)) pass0 (pa_cons (pv 0) (pa_cons (pv 1) pa_nil))))
    (pss_cons (ps_if (pt_cmpR op_lt (pv 1) pe_int (nomark _)) (pss_one (ps_set (i := 2) sc__law_lowest.nd rfl (by first | exact Or.inl rfl | exact Or.inr rfl) (pe_op op_sub pe_int (pv 2)))) pss_nil)
    (pss_one (ps_ret (pe_tup (pa_cons (pe_op op_fdivG (pv 0) (pv 2)) (pa_cons (pe_op op_fdivG (pv 1) (pv 2)) pa_nil))))))), ?_⟩
    have hb8 : b.natAbs < 2 ^ 8000 := Nat.lt_of_lt_of_le hb (Nat.pow_le_pow_right (by decide) (by decide))
    walk_at "go"
    refine ⟨a, b, rfl, ha, hb, ?_⟩
    walk_at "go"
    have fin : ∀ g : Int, g = sg a b → CDivG a g ∧ CDivG b g ∧ (2 : Nat) ≤ sizeLine ∧ ∀ p, H p = none → Q (.ref p) (upd H p (.tup [.int (a.fdiv g), .int (b.fdiv g)])) := by
      rintro g rfl
      refine ⟨⟨sg_ne h0, sg_small h0 hb8⟩, ⟨sg_ne h0, sg_small h0 hb8⟩, by decide, fun p hp => ?_⟩
      exact q _ _ (Ex.new hp) ⟨p, rfl, .inl (.inl upd_same)⟩
    by_cases hlt : b < 0
    · rw [if_pos hlt]
      exact fin _ (by unfold sg; rw [if_pos hlt]; omega)
    · rw [if_neg hlt]
      exact fin _ (by unfold sg; rw [if_neg hlt])
/-! ### lowest terms -/
theorem sg_dvd (a b : Int) : sg a b ∣ a ∧ sg a b ∣ b := by
  have h1 : (sg a b).natAbs ∣ a.natAbs := by rw [sg_abs]; exact Nat.gcd_dvd_left _ _
  have h2 : (sg a b).natAbs ∣ b.natAbs := by rw [sg_abs]; exact Nat.gcd_dvd_right _ _
  exact ⟨Int.natAbs_dvd_natAbs.mp h1, Int.natAbs_dvd_natAbs.mp h2⟩
theorem gcd_pos' {a b : Int} (h : b ≠ 0) : 0 < a.natAbs.gcd b.natAbs := Nat.gcd_pos_of_pos_right _ (by omega)
theorem nrm_abs (a b : Int) (h : b ≠ 0) : (nrm a b).1.natAbs = a.natAbs / a.natAbs.gcd b.natAbs ∧ (nrm a b).2.natAbs = b.natAbs / a.natAbs.gcd b.natAbs := by
  obtain ⟨d1, d2⟩ := sg_dvd a b
  unfold nrm
  dsimp only
  rw [Int.fdiv_eq_ediv_of_dvd d1, Int.fdiv_eq_ediv_of_dvd d2, Int.natAbs_ediv_of_dvd d1, Int.natAbs_ediv_of_dvd d2, sg_abs]
  exact ⟨rfl, rfl⟩
theorem nrm_pos {a b : Int} (h : b ≠ 0) : 1 ≤ (nrm a b).2 := by
  obtain ⟨_, k, hk⟩ := sg_dvd a b
  have hg := gcd_pos' (a := a) h
  have e : (nrm a b).2 = k := by
    unfold nrm
    dsimp only
    have h0 : sg a b ≠ 0 := fun z => by
      have := sg_abs a b
      omega
    rw [Int.fdiv_eq_ediv_of_dvd ⟨k, hk⟩]
    have : b / sg a b = (sg a b * k) / sg a b := by rw [← hk]
    rw [this, Int.mul_ediv_cancel_left _ h0]
  rw [e]
  by_cases hb : b < 0
  · have hs : sg a b < 0 := by unfold sg; rw [if_pos hb]; omega
    have : 0 < k := by
      rcases Int.lt_trichotomy k 0 with z | z | z
      · have := Int.mul_pos_of_neg_of_neg hs z
        omega
      · rw [z, Int.mul_zero] at hk
        omega
      · exact z
    omega
  · have hs : 0 < sg a b := by unfold sg; rw [if_neg hb]; omega
    have : 0 < k := by
      rcases Int.lt_trichotomy k 0 with z | z | z
      · have := Int.mul_neg_of_pos_of_neg hs z
        omega
      · rw [z, Int.mul_zero] at hk
        omega
      · exact z
    omega
theorem nrm_isN {a b : Int} (h : b ≠ 0) : isN (nrm a b).1 (nrm a b).2 := by
  refine ⟨nrm_pos h, ?_⟩
  obtain ⟨h1, h2⟩ := nrm_abs a b h
  have hg := gcd_pos' (a := a) h
  unfold Int.gcd
  rw [h1, h2, Nat.gcd_div (Nat.gcd_dvd_left _ _) (Nat.gcd_dvd_right _ _)]
  exact Nat.div_self hg
theorem nrm_le {a b : Int} (h : b ≠ 0) : (nrm a b).1.natAbs ≤ a.natAbs ∧ (nrm a b).2.natAbs ≤ b.natAbs := by
  obtain ⟨h1, h2⟩ := nrm_abs a b h
  rw [h1, h2]
  exact ⟨Nat.div_le_self _ _, Nat.div_le_self _ _⟩
/-! ### the law's own numbers -/
theorem nrm_eq {p q : Int} (h : q ≠ 0) : (nrm p q).1 * q = (nrm p q).2 * p := by
  have key : ∀ g : Int, g ≠ 0 → g ∣ p → g ∣ q → p.fdiv g * q = q.fdiv g * p := by
    rintro g hg ⟨x, rfl⟩ ⟨y, rfl⟩
    rw [Int.fdiv_eq_ediv_of_dvd ⟨x, rfl⟩, Int.fdiv_eq_ediv_of_dvd ⟨y, rfl⟩, Int.mul_ediv_cancel_left x hg, Int.mul_ediv_cancel_left y hg]
    ac_rfl
  exact key _ (sg_ne h) (sg_dvd p q).1 (sg_dvd p q).2
def sp2 (K : PySem.W.Frag) (f g : Int → Int → Int → Int → Int) : Sp := fun vs H Q _ => ∃ (x y : V) (a b c d : Int), vs = [x, y] ∧ Num K H x a b ∧ Num K H y c d ∧ (a.natAbs < 2 ^ 1000 ∧ b.natAbs < 2 ^ 1000 ∧ c.natAbs < 2 ^ 1000 ∧ d.natAbs < 2 ^ 1000) ∧ b ≠ 0 ∧ d ≠ 0 ∧
  ∀ H' v, Ex H H' → Num K H' v (nrm (f a b c d) (g a b c d)).1 (nrm (f a b c d) (g a b c d)).2 → Q v H'
theorem lt2000 {x y : Int} (hx : x.natAbs < 2 ^ 1000) (hy : y.natAbs < 2 ^ 1000) : (x * y).natAbs < 2 ^ 2000 := by
  rw [Int.natAbs_mul, show (2 : Nat) ^ 2000 = 2 ^ 1000 * 2 ^ 1000 by rw [← Nat.pow_add]]
  exact Nat.mul_lt_mul'' hx hy
theorem up3000 {x : Int} (hx : x.natAbs < 2 ^ 1000) : x.natAbs < 2 ^ 3000 := pow_up hx (by decide)
theorem ok__law_plus (T : Txt K w mg ad fd) : Cal P w K mg base CX0 3 "_law_plus" (ad 49) (fd 49) ["x", "y"] [] [] (sp2 K (fun a b c d => a * d + c * b) (fun a b c d => b * d)) := by
  refine ⟨T.f__law_plus.ok sc__law_plus (fun vs H Q E h => ?_) (fun cdv A outer s H vs Q E hr h => ?_), T.g__law_plus, T.f__law_plus.kp, T.f__law_plus.binds (ps := ["x", "y"]) fun _ _ _ _ _ _ us hl => match us, hl with | [_, _], _ => rfl, .nil⟩
  · obtain ⟨x, y, a, b, c, d, rfl, _⟩ := h
    rfl
  · obtain ⟨x, y, a, b, c, d, rfl, ⟨px, rfl, hx⟩, ⟨py, rfl, hy⟩, ⟨ha, hb, hc, hd⟩, hb0, hd0, q⟩ := h
    refine ⟨_, (pss_one (ps_ret (pe_cal (ok__law_lowest T (P := P) (w := w) (base := base)) (hr.mono (by decide)) pass0 (pa_cons (pe_op op_add (pe_op op_mulW (pe_ix (ix_tupK (K := K)) (pv 0) pe_int (fun _ _ => rfl)) (pe_ix (ix_tupK (K := K)) (pv 1) pe_int (fun _ _ => rfl))) (pe_op op_mulW (pe_ix (ix_tupK (K := K)) (pv 1) pe_int (fun _ _ => rfl)) (pe_ix (ix_tupK (K := K)) (pv 0) pe_int (fun _ _ => rfl)))) (pa_cons (pe_op op_mulW (pe_ix (ix_tupK (K := K)) (pv 0) pe_int (fun _ _ => rfl)) (pe_ix (ix_tupK (K := K)) (pv 1) pe_int (fun _ _ => rfl))) pa_nil))))), ?_⟩
    have k : (2 : Nat) ^ 2000 + 2 ^ 2000 ≤ 2 ^ 4000 := by
      have : (2 : Nat) ^ 2000 + 2 ^ 2000 = 2 ^ 2001 := by rw [Nat.pow_succ]; omega
      rw [this]
      exact Nat.pow_le_pow_right (by decide) (by decide)
    refine ⟨_, rfl, px, _, 0, _, rfl, rfl, hx, rfl, _, rfl, py, _, 1, _, rfl, rfl, hy, rfl, a, d, rfl, rfl, mul_ok (up3000 ha) (up3000 hd), _, rfl, py, _, 0, _, rfl, rfl, hy, rfl, _, rfl, px, _, 1, _, rfl, rfl, hx, rfl, c, b, rfl, rfl, mul_ok (up3000 hc) (up3000 hb), _, _, rfl, rfl,
      _, rfl, px, _, 1, _, rfl, rfl, hx, rfl, _, rfl, py, _, 1, _, rfl, rfl, hy, rfl, b, d, rfl, rfl, mul_ok (up3000 hb) (up3000 hd), _, _, rfl, ?_, ?_, Int.mul_ne_zero hb0 hd0, fun H' v e n => q H' v e n⟩
    · have h1 := lt2000 ha hd
      have h2 := lt2000 hc hb
      have h3 : (a * d + c * b).natAbs ≤ (a * d).natAbs + (c * b).natAbs := Int.natAbs_add_le _ _
      omega
    · have h1 := lt2000 hb hd
      omega
theorem ok__law_times (T : Txt K w mg ad fd) : Cal P w K mg base CX0 3 "_law_times" (ad 50) (fd 50) ["x", "y"] [] [] (sp2 K (fun a b c d => a * c) (fun a b c d => b * d)) := by
  refine ⟨T.f__law_times.ok sc__law_times (fun vs H Q E h => ?_) (fun cdv A outer s H vs Q E hr h => ?_), T.g__law_times, T.f__law_times.kp, T.f__law_times.binds (ps := ["x", "y"]) fun _ _ _ _ _ _ us hl => match us, hl with | [_, _], _ => rfl, .nil⟩
  · obtain ⟨x, y, a, b, c, d, rfl, _⟩ := h
    rfl
  · obtain ⟨x, y, a, b, c, d, rfl, ⟨px, rfl, hx⟩, ⟨py, rfl, hy⟩, ⟨ha, hb, hc, hd⟩, hb0, hd0, q⟩ := h
    refine ⟨_, (pss_one (ps_ret (pe_cal (ok__law_lowest T (P := P) (w := w) (base := base)) (hr.mono (by decide)) pass0 (pa_cons (pe_op op_mulW (pe_ix (ix_tupK (K := K)) (pv 0) pe_int (fun _ _ => rfl)) (pe_ix (ix_tupK (K := K)) (pv 1) pe_int (fun _ _ => rfl))) (pa_cons (pe_op op_mulW (pe_ix (ix_tupK (K := K)) (pv 0) pe_int (fun _ _ => rfl)) (pe_ix (ix_tupK (K := K)) (pv 1) pe_int (fun _ _ => rfl))) pa_nil))))), ?_⟩
    have k : (2 : Nat) ^ 2000 ≤ 2 ^ 4000 := Nat.pow_le_pow_right (by decide) (by decide)
    refine ⟨_, rfl, px, _, 0, _, rfl, rfl, hx, rfl, _, rfl, py, _, 0, _, rfl, rfl, hy, rfl, a, c, rfl, rfl, mul_ok (up3000 ha) (up3000 hc),
      _, rfl, px, _, 1, _, rfl, rfl, hx, rfl, _, rfl, py, _, 1, _, rfl, rfl, hy, rfl, b, d, rfl, rfl, mul_ok (up3000 hb) (up3000 hd), _, _, rfl, ?_, ?_, Int.mul_ne_zero hb0 hd0, fun H' v e n => q H' v e n⟩
    · have h1 := lt2000 ha hc
      omega
    · have h1 := lt2000 hb hd
      omega
def sp__law_fraction (K : PySem.W.Frag) : Sp := fun vs H Q _ => ∃ l, vs = [.ref l] ∧ DrA l H ∧ ∀ H' v (a b : Int), Mv l H H' → Num K H' v a b → isN a b → a.natAbs ≤ 6 → b ≤ 4 → Q v H'
theorem ok__law_fraction (T : Txt K w mg ad fd) : Cal P w K mg base CX0 3 "_law_fraction" (ad 53) (fd 53) ["draws"] [] [] (sp__law_fraction K) := by
  refine ⟨T.f__law_fraction.ok sc__law_fraction (fun vs H Q E h => ?_) (fun cdv A outer s H vs Q E hr h => ?_), T.g__law_fraction, T.f__law_fraction.kp, T.f__law_fraction.binds (ps := ["draws"]) fun _ _ _ _ _ _ us hl => match us, hl with | [_], _ => rfl, .nil⟩
  · obtain ⟨l, rfl, _⟩ := h
    rfl
  · obtain ⟨l, rfl, hd, q⟩ := h
    refine ⟨_, (pss_one (ps_ret (pe_cal (ok__law_lowest T (P := P) (w := w) (base := base)) (hr.mono (by decide)) pass0 (pa_cons (pe_op op_sub (pe_op op_mod (pe_callTy (T := "int") call_int1 (by rfl) T.m_int (by decide +kernel) (pa_cons (pe_cal (ok__law_next T (P := P) (w := w) (base := base)) (hr.mono (by decide)) pass0 (pa_cons (pv 0) pa_nil)) pa_nil)) pe_int) pe_int) (pa_cons (pe_op op_add pe_int (pe_op op_mod (pe_callTy (T := "int") call_int1 (by rfl) T.m_int (by decide +kernel) (pa_cons (pe_cal (ok__law_next T (P := P) (w := w) (base := base)) (hr.mono (by decide)) pass0 (pa_cons (pv 0) pa_nil)) pa_nil)) pe_int)) pa_nil))))), ?_⟩
    refine ⟨_, rfl, l, rfl, hd, fun H1 x x0 x1 m1 => .inl ⟨_, rfl, _, _, rfl, rfl, by show (0 : Int) < 13; decide, _, _, rfl, rfl, ?_⟩⟩
    refine ⟨_, rfl, l, rfl, m1.2, fun H2 y y0 y1 m2 => .inl ⟨_, rfl, _, _, rfl, rfl, by show (0 : Int) < 4; decide, _, _, rfl, rfl, ?_⟩⟩
    have sm : (100 : Nat) < 2 ^ 4000 := Nat.lt_of_lt_of_le (by decide : (100 : Nat) < 2 ^ 7) (Nat.pow_le_pow_right (by decide) (by decide))
    have h0 : (1 + y % 4 : Int) ≠ 0 := by omega
    refine ⟨_, _, rfl, by omega, by omega, h0, fun H3 v e3 n3 => ?_⟩
    have hle := nrm_le (a := x % 13 - 6) h0
    refine q H3 v _ _ ((m1.trans m2).ex e3) n3 (nrm_isN h0) (by omega) ?_
    have := nrm_pos (a := x % 13 - 6) h0
    omega
/-! ### the law's sides -/
theorem dot_take {zs ws : List Int} {i : Nat} {z w : Int} (hz : zs[i]? = some z) (hw : ws[i]? = some w) : dot (zs.take (i + 1)) (ws.take (i + 1)) = dot (zs.take i) (ws.take i) + z * w := by
  unfold dot
  rw [← List.take_zipWith, ← List.take_zipWith, List.take_add_one, List.getElem?_zipWith, hz, hw, List.sum_append]
  show _ + ([z * w] : List Int).sum = _
  simp
theorem dot_end {zs ws : List Int} {m : Nat} {z w : Int} (h1 : zs.length = m + 1) (h2 : ws.length = m + 1) (hz : zs[m]? = some z) (hw : ws[m]? = some w) : dot zs ws = dot (zs.take m) (ws.take m) + z * w := by
  rw [← dot_take hz hw, ← h1, List.take_length, h1, ← h2, List.take_length]
def sp__law_height (K : PySem.W.Frag) : Sp := fun vs H Q _ => ∃ (n : Nat) (u v : V) (zs : List Int) (ps : List (Int × Int)), vs = [u, v] ∧ PlV K H u zs ∧ Pl n zs ∧ PtV K H v ps ∧ PtOk ps ∧ ps.length = n ∧
  ∀ H' t c d, Ex H H' → Num K H' t c d → sgC c = sideC zs ps → Q t H'
theorem bound8 {i : Nat} (h : i ≤ 4) : (12 : Int) ^ i ≤ 20736 ∧ (24 : Int) ^ i ≤ 331776 ∧ (12 : Int) ^ i ≤ 24 ^ i := by
  have : i = 0 ∨ i = 1 ∨ i = 2 ∨ i = 3 ∨ i = 4 := by omega
  rcases this with rfl | rfl | rfl | rfl | rfl <;> decide
theorem step_eq {c d u v c2 d2 S z a b k P : Int} (hb : b ≠ 0) (hd : d ≠ 0) (hv : v ≠ 0) (hbk : b * k = P) (h : P * c = d * S) (hu : u * (1 * b) = v * (z * a)) (h2 : c2 * (d * v) = d2 * (c * v + u * d)) : P * c2 = d2 * (S + z * (a * k)) := by
  have e1 : P * u = v * (z * (a * k)) := by
    have : (P * u) * b = (v * (z * (a * k))) * b := by
      rw [Int.one_mul] at hu
      calc (P * u) * b = P * (u * b) := by ac_rfl
        _ = (b * k) * (v * (z * a)) := by rw [hbk, hu]
        _ = (v * (z * (a * k))) * b := by ac_rfl
    exact Int.eq_of_mul_eq_mul_right hb this
  have hdv : d * v ≠ 0 := Int.mul_ne_zero hd hv
  refine Int.eq_of_mul_eq_mul_right hdv ?_
  calc P * c2 * (d * v) = P * (c2 * (d * v)) := by ac_rfl
    _ = P * (d2 * (c * v + u * d)) := by rw [h2]
    _ = d2 * ((P * c) * v + (P * u) * d) := by rw [Int.mul_left_comm, Int.mul_add, Int.mul_assoc, Int.mul_assoc]
    _ = d2 * ((d * S) * v + (v * (z * (a * k))) * d) := by rw [h, e1]
    _ = d2 * ((S + z * (a * k)) * (d * v)) := by
      congr 1
      rw [Int.add_mul]
      congr 1 <;> ac_rfl
    _ = d2 * (S + z * (a * k)) * (d * v) := by rw [Int.mul_assoc]
theorem ok__law_height (T : Txt K w mg ad fd) : Cal P w K mg base CX0 4 "_law_height" (ad 57) (fd 57) ["plane", "point"] [] [] (sp__law_height K) := by
  refine ⟨T.f__law_height.ok sc__law_height (fun vs H Q E h => ?_) (fun cdv A outer s H vs Q E hr h => ?_), T.g__law_height, T.f__law_height.kp, T.f__law_height.binds (ps := ["plane", "point"]) fun _ _ _ _ _ _ us hl => match us, hl with | [_, _], _ => rfl, .nil⟩
  · obtain ⟨n, u, v, zs, ps, rfl, _⟩ := h
    rfl
  · obtain ⟨n, u, v, zs, ps, rfl, ⟨p, rfl, hp⟩, hpl, ⟨t, vs, rfl, ht, hv⟩, hok, hn, q⟩ := h
    have sz : sizeLine = 16777216 := sizeLine_eq
    have bg : (1000000000 : Nat) < 2 ^ 1000 := Nat.lt_of_lt_of_le (by decide : (1000000000 : Nat) < 2 ^ 30) (Nat.pow_le_pow_right (by decide) (by decide))
    have hzl := hpl.1
    have hvl : vs.length = n := by rw [hv.1, hn]
    have hn4 : n ≤ 4 := by have := hok.1; omega
    obtain ⟨zn, hzn⟩ : ∃ zn, zs[n]? = some zn := ⟨_, List.getElem?_eq_getElem (by omega)⟩
    have hzb := hpl.2.1 zn (List.mem_of_getElem? hzn)
    have hwl : (wP ps).length = n + 1 := by unfold wP; rw [List.length_append, List.length_map, hn]; rfl
    have hw_n : (wP ps)[n]? = some (-(pr ps)) := by
      unfold wP
      rw [List.getElem?_append_right (by rw [List.length_map]; omega), List.length_map, hn]
      simp
    refine ⟨_, (pss_cons (ps_set (i := 2) sc__law_height.nd rfl (by first | exact Or.inl rfl | exact Or.inr rfl) (pe_tup (pa_cons (pe_op op_sub pe_int (pe_ix (ix_tupK (K := K)) (pv 0) (pe_callB call_len_seq (by rfl) T.m_len PySem.boot_len (pa_cons (pv 1) pa_nil)) (fun _ _ => rfl))) (pa_cons pe_int pa_nil))))
    (pss_cons (ps_for (by first | exact PassesOwn.never | exact passes_of rfl) rfl (pi_range1 rfl T.m_range (pa_cons (pe_callB call_len_seq (by rfl) T.m_len PySem.boot_len (pa_cons (pv 1) pa_nil)) pa_nil)) (pg_name (i := 3) sc__law_height.nd rfl (by first | exact Or.inl rfl | exact Or.inr rfl))
      (pss_one (ps_set (i := 2) sc__law_height.nd rfl (by first | exact Or.inl rfl | exact Or.inr rfl) (pe_cal (ok__law_plus T (P := P) (w := w) (base := base)) (hr.mono (by decide)) pass0 (pa_cons (pv 2) (pa_cons (pe_cal (ok__law_times T (P := P) (w := w) (base := base)) (hr.mono (by decide)) pass0 (pa_cons (pe_tup (pa_cons (pe_ix (ix_tupK (K := K)) (pv 0) (pv 3) (fun _ _ => rfl)) (pa_cons pe_int pa_nil))) (pa_cons (pe_ix (ix_tupK (K := K)) (pv 1) (pv 3) (fun _ _ => rfl)) pa_nil))) pa_nil))))))
    (pss_one (ps_ret (pv 2))))), ?_⟩
    have hzn' : (zs.map V.int)[vs.length]? = some (.int zn) := by rw [hvl, List.getElem?_map, hzn]; rfl
    refine ⟨_, rfl, _, rfl, t, vs, rfl, .inr ht, p, _, vs.length, .int zn, rfl, rfl, hp, atI_nat hzn', _, _, rfl, rfl, by show (2 : Nat) ≤ sizeLine; omega, fun T0 hT0 => ?_⟩
    have e0 := Ex.new (o := .tup [.int (0 - zn), .int 1]) hT0
    refine ⟨_, rfl, t, vs, rfl, .inr (ex_t e0 ht), vs.length, rfl, by omega, by omega, for_range (lo := 0) (n := vs.length) (fun i σ H' => i ≤ n ∧ ∃ (c : Option V) (v : V) (x y : Int), σ = [some (.ref p), some (.ref t), some v, c] ∧ Ex H H' ∧ Num K H' v x y ∧ 1 ≤ y ∧ y ≤ 12 ^ i ∧ (x.natAbs : Int) ≤ 10000 * 24 ^ i ∧ pr ps * x = y * (dot (zs.take i) ((wP ps).take i) + zn * (-(pr ps))))
      ⟨Nat.zero_le _, none, _, _, _, rfl, e0, ⟨T0, rfl, SqT.of upd_same⟩, by omega, by decide, by simp; omega, by simp only [dot, List.take_zero, List.zipWith_nil_left, List.sum_nil]; rw [Int.zero_add, Int.one_mul, Int.mul_neg, show (0 - zn : Int) = -zn by omega, Int.mul_neg, Int.mul_comm]⟩ ?_ ?_⟩
    · rintro i σ H1 hi ⟨hin, c, tv, x, y, rfl, e1, ⟨tp, rfl, htp⟩, y1, y4, x8, hS⟩
      obtain ⟨z, hz⟩ : ∃ z, zs[i]? = some z := ⟨_, List.getElem?_eq_getElem (by omega)⟩
      obtain ⟨⟨a, b⟩, hab⟩ : ∃ x, ps[i]? = some x := ⟨_, List.getElem?_eq_getElem (by omega)⟩
      obtain ⟨pv, hpv⟩ : ∃ u, vs[i]? = some u := ⟨_, List.getElem?_eq_getElem (by omega)⟩
      have nab := hv.2 i pv (a, b) hpv hab
      obtain ⟨hn1, ha6, hb4⟩ := hok.2 _ (List.mem_of_getElem? hab)
      have hb1 : 1 ≤ b := hn1.1
      have ha6 : a.natAbs ≤ 30 := ha6
      have hb4 : b ≤ 12 := hb4
      have hzb2 := hpl.2.1 z (List.mem_of_getElem? hz)
      have b8 := bound8 (i := i) (by omega)
      have hz' : (zs.map V.int)[i]? = some (.int z) := by rw [List.getElem?_map, hz]; rfl
      have ei : (0 + (i : Int)) = (i : Int) := by omega
      refine ⟨_, rfl, _, rfl, _, rfl, p, _, i, .int z, rfl, by rw [ei], ex_t e1 hp, atI_nat hz', by show (2 : Nat) ≤ sizeLine; omega, fun T1 hT1 => ?_⟩
      have e2 := Ex.new (o := .tup [.int z, .int 1]) hT1
      refine ⟨_, rfl, _, rfl, t, _, i, pv, rfl, by rw [ei], ex_t (e1.trans e2) ht, atI_nat hpv, .ref T1, pv, z, 1, a, b, rfl, ⟨T1, rfl, SqT.of upd_same⟩, nab.mono (e1.trans e2), ⟨by omega, by omega, by omega, by omega⟩, by omega, by omega, fun H2 v2 e3 n2 => ?_⟩
      have hb0 : (1 * b : Int) ≠ 0 := by omega
      have q2 := nrm_eq (p := z * a) hb0
      have l2 := nrm_le (a := z * a) hb0
      have p2 := nrm_pos (a := z * a) hb0
      have za : (z * a).natAbs ≤ 30000 := by
        rw [Int.natAbs_mul]
        exact Nat.mul_le_mul (by omega : z.natAbs ≤ 1000) ha6
      generalize (nrm (z * a) (1 * b)).1 = u1 at q2 l2 n2
      generalize (nrm (z * a) (1 * b)).2 = u2 at q2 l2 p2 n2
      have hu2 : u2 ≤ 12 := by omega
      have e123 := e1.trans (e2.trans e3)
      refine ⟨_, v2, x, y, u1, u2, rfl, ⟨tp, rfl, ex_t (e2.trans e3) htp⟩, n2, ⟨by omega, by omega, by omega, by omega⟩, by omega, by omega, fun H3 v3 e4 n3 => ?_⟩
      have h0 : (y * u2 : Int) ≠ 0 := Int.mul_ne_zero (by omega) (by omega)
      have q3 := nrm_eq (p := x * u2 + u1 * y) h0
      have l3 := nrm_le (a := x * u2 + u1 * y) h0
      have p3 := nrm_pos (a := x * u2 + u1 * y) h0
      have hy4 : (y * u2).natAbs ≤ y.natAbs * 12 := by rw [Int.natAbs_mul]; exact Nat.mul_le_mul_left _ (by omega)
      have hx4 : (x * u2 + u1 * y).natAbs ≤ x.natAbs * 12 + 30000 * y.natAbs := by
        refine Nat.le_trans (Int.natAbs_add_le _ _) ?_
        rw [Int.natAbs_mul, Int.natAbs_mul]
        exact Nat.add_le_add (Nat.mul_le_mul_left _ (by omega)) (Nat.mul_le_mul_right _ (by omega))
      generalize (nrm (x * u2 + u1 * y) (y * u2)).1 = c1 at q3 l3 n3
      generalize (nrm (x * u2 + u1 * y) (y * u2)).2 = c2 at q3 l3 p3 n3
      have h48 := b8.2.2
      refine ⟨by omega, _, v3, c1, c2, rfl, e123.trans e4, n3, p3, ?_, ?_, ?_⟩
      · rw [Int.pow_succ]
        omega
      · rw [Int.pow_succ]
        omega
      · have hw : (wP ps)[i]? = some (a * (pr ps / b)) := by
          unfold wP
          rw [List.getElem?_append_left (by rw [List.length_map]; omega), List.getElem?_map, hab]
          rfl
        rw [dot_take hz hw, Int.add_right_comm]
        exact step_eq (by omega) (by omega) (by omega) (pr_mul (List.mem_of_getElem? hab)) hS q2 q3
    · rintro σ H1 ⟨hin, c, tv, x, y, rfl, e1, nx, y1, y4, x8, hS⟩
      refine ⟨_, rfl, q H1 tv x y e1 nx ?_⟩
      have : dot zs (wP ps) = dot (zs.take vs.length) ((wP ps).take vs.length) + zn * (-(pr ps)) := by
        rw [hvl]
        exact dot_end hzl hwl hzn hw_n
      unfold sideC
      exact sgC_scale (by rw [this]; exact hS) hok.pos y1
def sp__law_side (K : PySem.W.Frag) : Sp := fun vs H Q _ => ∃ (n : Nat) (u v : V) (zs : List Int) (ps : List (Int × Int)), vs = [u, v] ∧ PlV K H u zs ∧ Pl n zs ∧ PtV K H v ps ∧ PtOk ps ∧ ps.length = n ∧
  ∀ H', Ex H H' → Q (.str (one (sideC zs ps))) H'
theorem ok__law_side (T : Txt K w mg ad fd) : Cal P w K mg base CX0 5 "_law_side" (ad 58) (fd 58) ["plane", "point"] [] [] (sp__law_side K) := by
  refine ⟨T.f__law_side.ok sc__law_side (fun vs H Q E h => ?_) (fun cdv A outer s H vs Q E hr h => ?_), T.g__law_side, T.f__law_side.kp, T.f__law_side.binds (ps := ["plane", "point"]) fun _ _ _ _ _ _ us hl => match us, hl with | [_, _], _ => rfl, .nil⟩
  · obtain ⟨n, u, v, zs, ps, rfl, _⟩ := h
    rfl
  · obtain ⟨n, u, v, zs, ps, rfl, hp, hpl, ht, hok, hn, q⟩ := h
    refine ⟨_, (pss_cons (ps_set (i := 2) sc__law_side.nd rfl (by first | exact Or.inl rfl | exact Or.inr rfl) (pe_ix (ix_tupK (K := K)) (pe_cal (ok__law_height T (P := P) (w := w) (base := base)) (hr.mono (by decide)) pass0 (pa_cons (pv 0) (pa_cons (pv 1) pa_nil))) pe_int (fun _ _ => rfl)))
    (pss_cons (ps_if (pt_cmpR op_eq (pv 2) pe_int (nomark _)) (pss_one (ps_ret pe_str)) pss_nil)
    (pss_one (ps_ret (pe_ifExp (pt_cmpR op_gt (pv 2) pe_int (nomark _)) pe_str pe_str))))), ?_⟩
    refine ⟨_, rfl, _, rfl, n, u, v, zs, ps, rfl, hp, hpl, ht, hok, hn, fun H1 t c d e1 ⟨tp, ht, htp⟩ hs => ?_⟩
    subst ht
    refine ⟨tp, _, 0, _, rfl, rfl, htp, rfl, ?_⟩
    have q1 := q H1 e1
    rw [← hs] at q1
    unfold sgC at q1
    refine ⟨_, rfl, rfl, _, rfl, ite2 (fun z => ?_) (fun z => ?_)⟩
    · have z' : c = 0 := V.int.inj (of_decide_eq_true z)
      rw [if_neg (by omega), if_neg (by omega)] at q1
      exact q1
    · have z' : ¬ c = 0 := fun e => z (by rw [e]; rfl)
      refine ⟨_, rfl, _, _, rfl, rfl, _, rfl, ite2 (fun y => ?_) (fun y => ?_)⟩
      · have y' : 0 < c := of_decide_eq_true y
        rw [if_pos y'] at q1
        exact q1
      · have y' : ¬ 0 < c := fun e => y (decide_eq_true e)
        rw [if_neg y', if_pos (by omega)] at q1
        exact q1
def sp__law_row (K : PySem.W.Frag) : Sp := fun vs H Q _ => ∃ (n : Nat) (r : Addr) (v : V) (us : List V) (zss : List (List Int)) (ps : List (Int × Int)), vs = [.ref r, v] ∧ SqL K H r us ∧ All2 (PlV K H) us zss ∧ PlanesOk n zss ∧ PtV K H v ps ∧ PtOk ps ∧ ps.length = n ∧
  ∀ H', Ex H H' → Q (.str (strC (rowC zss ps))) H'
theorem ok__law_row (T : Txt K w mg ad fd) : Cal P w K mg base CX0 6 "_law_row" (ad 59) (fd 59) ["planes", "point"] [] [] (sp__law_row K) := by
  refine ⟨T.f__law_row.ok sc__law_row (fun vs H Q E h => ?_) (fun cdv A outer s H vs Q E hr h => ?_), T.g__law_row, T.f__law_row.kp, T.f__law_row.binds (ps := ["planes", "point"]) fun _ _ _ _ _ _ us hl => match us, hl with | [_, _], _ => rfl, .nil⟩
  · obtain ⟨n, r, v, us, zss, ps, rfl, _⟩ := h
    rfl
  · obtain ⟨n, r, v, us, zss, ps, rfl, hL, hz, hpo, ht, hok, hn, q⟩ := h
    have sz : sizeLine = 16777216 := sizeLine_eq
    refine ⟨_, (pss_one (ps_ret (pe_join pe_str (pe_lc (own := [("plane", 2)]) rfl sc__law_row.nd (pi_list (pv 0)) (blkOk_by (N := ["planes", "point", "plane"]) (sc := defScope s__law_row) (by decide +kernel)) (fun _ _ _ _ _ => (pg_name (i := 2) sc__law_row.nd rfl (by first | exact Or.inl rfl | exact Or.inr rfl))) (fun _ _ _ _ _ => pts_nil) (fun _ _ _ _ _ => (pe_cal (ok__law_side T (P := P) (w := w) (base := base)) (hr.mono (by decide)) pass0 (pa_cons (pv 2) (pa_cons (pv 1) pa_nil)))))))), ?_⟩
    refine ⟨⟨_, rfl⟩, _, rfl, r, rfl, ⟨_, hL⟩, fun D' hD' => ?_⟩
    refine lc_acc (l := none) (wk_list (K := K) (fun z => nomatch z) hL) hD' (fun i acc _ => acc = ((rowC zss ps).take i).map fun c => V.str (one c)) rfl (fun _ _ _ _ _ h => h) ?_ ?_
    · rintro i x H5 acc hi e5 hy hl' rfl hx
      obtain ⟨zs, hzs, hp5⟩ := hz.get hx
      have hpz := hpo.2.1 zs (List.mem_of_getElem? hzs)
      refine ⟨rfl, ?_⟩
      refine ⟨_, rfl, _, rfl, n, x, v, zs, ps, rfl, hp5.mono e5.ex, hpz, ht.mono e5.ex, hok, hn, fun H6 e6 => ?_⟩
      refine LcP.push hD' (e5.trans (Exo.of e6)) (e6 _ _ hy) hl' (by have := hz.1; have := hpo.1; omega) ?_
      unfold rowC
      rw [List.take_add_one, List.getElem?_map, hzs, List.map_append]
      rfl
    · rintro H5 acc e5 hy rfl
      have hlr : us.length = (rowC zss ps).length := by rw [hz.1]; unfold rowC; rw [List.length_map]
      rw [hlr, List.take_length] at hy
      refine ⟨_, D', (rowC zss ps).map one, rfl, rfl, .inl (SqL.of ?_), ?_, ?_⟩
      · rw [List.map_map]
        exact hy
      · rw [sum_one, ← hlr, hz.1]
        have := hpo.1
        show _ + _ * 0 ≤ _
        omega
      · rw [join_one]
        exact q H5 e5.ex
/-! ### common divisors -/
def glf (c : Nat) (zs : List Int) : Nat := zs.foldl (fun g a => g.gcd a.natAbs) c
theorem glf_dvd : ∀ (zs : List Int) (c : Nat), glf c zs ∣ c ∧ ∀ z ∈ zs, (glf c zs : Int) ∣ z
  | [], c => ⟨Nat.dvd_refl _, fun z h => absurd h List.not_mem_nil⟩
  | y :: ys, c => by
    have ih := glf_dvd ys (c.gcd y.natAbs)
    refine ⟨Nat.dvd_trans ih.1 (Nat.gcd_dvd_left _ _), fun z hz => ?_⟩
    rcases List.mem_cons.mp hz with e | h
    · rw [e]
      have : glf c (y :: ys) ∣ y.natAbs := Nat.dvd_trans ih.1 (Nat.gcd_dvd_right _ _)
      exact Int.natAbs_dvd_natAbs.mp this
    · exact ih.2 z h
theorem glf_mul {g : Nat} (hg : 0 < g) : ∀ (zs : List Int) (c : Nat), (∀ z ∈ zs, (g : Int) ∣ z) → glf (g * c) zs = g * glf c (zs.map fun z => z.fdiv g)
  | [], c, _ => rfl
  | y :: ys, c, h => by
    obtain ⟨k, rfl⟩ := h y (by simp)
    have e1 : ((g : Int) * k).fdiv g = k := by rw [Int.fdiv_eq_ediv_of_dvd ⟨k, rfl⟩, Int.mul_ediv_cancel_left k (by omega)]
    have e2 : ((g : Int) * k).natAbs = g * k.natAbs := by rw [Int.natAbs_mul]; rfl
    show glf ((g * c).gcd ((g : Int) * k).natAbs) ys = g * glf (c.gcd (((g : Int) * k).fdiv g).natAbs) (ys.map fun z => z.fdiv g)
    rw [e1, e2, Nat.gcd_mul_left]
    exact glf_mul hg ys _ fun z hz => h z (List.mem_cons_of_mem _ hz)
theorem gl_quot {zs : List Int} (h : 0 < gl zs) : gl (zs.map fun z => z.fdiv (gl zs : Nat)) = 1 := by
  have e := glf_mul h zs 0 (glf_dvd zs 0).2
  rw [Nat.mul_zero] at e
  have e2 : gl zs * 1 = gl zs * glf 0 (zs.map fun z => z.fdiv (gl zs : Nat)) := by
    rw [Nat.mul_one]
    exact e
  exact (Nat.eq_of_mul_eq_mul_left h e2).symm
theorem gl_pos {zs : List Int} {z : Int} (hz : z ∈ zs) (h0 : z ≠ 0) : 0 < gl zs := by
  have h1 := (glf_dvd zs 0).2 z hz
  by_cases h : gl zs = 0
  · have h1 : ((gl zs : Nat) : Int) ∣ z := h1
    rw [h] at h1
    have := Int.zero_dvd.mp h1
    exact absurd this h0
  · omega
theorem gl_le {zs : List Int} {z : Int} (hz : z ∈ zs) (h0 : z ≠ 0) : gl zs ≤ z.natAbs := by
  have h1 : ((gl zs : Nat) : Int) ∣ z := (glf_dvd zs 0).2 z hz
  have h2 : ((gl zs : Nat) : Int).natAbs ∣ z.natAbs := Int.natAbs_dvd_natAbs.mpr h1
  exact Nat.le_of_dvd (by omega) h2
theorem quot_bd {g : Nat} (hg : 0 < g) {z : Int} (h : (g : Int) ∣ z) {B : Nat} (hz : z.natAbs ≤ B) : (z.fdiv g).natAbs ≤ B ∧ (z ≠ 0 → z.fdiv g ≠ 0) := by
  obtain ⟨k, rfl⟩ := h
  have e1 : ((g : Int) * k).fdiv g = k := by rw [Int.fdiv_eq_ediv_of_dvd ⟨k, rfl⟩, Int.mul_ediv_cancel_left k (by omega)]
  rw [e1]
  rw [Int.natAbs_mul] at hz
  refine ⟨Nat.le_trans (Nat.le_mul_of_pos_left _ (by show 0 < (g : Int).natAbs; omega)) hz, fun h hk => h (by rw [hk, Int.mul_zero])⟩
theorem sum_bd {B : Int} (hB : 0 ≤ B) : ∀ xs : List Int, (∀ z ∈ xs, -B ≤ z ∧ z ≤ B) → -(B * xs.length) ≤ xs.sum ∧ xs.sum ≤ B * xs.length
  | [], _ => by simp
  | x :: xs, h => by
    have ih := sum_bd hB xs fun z hz => h z (List.mem_cons_of_mem _ hz)
    have h0 := h x (by simp)
    rw [List.sum_cons, List.length_cons]
    have : B * ((xs.length + 1 : Nat) : Int) = B * xs.length + B := by
      rw [Int.natCast_add, Int.mul_add]
      simp
    omega
theorem plane_of {n : Nat} {zs : List Int} {last : Int} (hl : zs.length = n) (hb : ∀ z ∈ zs, -3 ≤ z ∧ z ≤ 3) (hlast : -100 ≤ last ∧ last ≤ 100) (hne : ∃ z ∈ zs, z ≠ 0) :
    0 < gl (zs ++ [last]) ∧ gl (zs ++ [last]) ≤ 3 ∧ Pl n ((zs ++ [last]).map fun z => z.fdiv (gl (zs ++ [last]) : Nat)) := by
  obtain ⟨z, hz, z0⟩ := hne
  have hm : z ∈ zs ++ [last] := List.mem_append_left _ hz
  have hp := gl_pos hm z0
  have hle := gl_le hm z0
  have hzb := hb z hz
  refine ⟨hp, by omega, by rw [List.length_map, List.length_append, hl]; rfl, fun y hy => ?_, ⟨z.fdiv (gl (zs ++ [last]) : Nat), ?_, ?_⟩, gl_quot hp⟩
  · obtain ⟨x, hx, rfl⟩ := List.mem_map.mp hy
    have hd := (glf_dvd (zs ++ [last]) 0).2 x hx
    have hxb : x.natAbs ≤ 100 := by
      rcases List.mem_append.mp hx with h | h
      · have := hb x h
        omega
      · have := List.mem_singleton.mp h
        omega
    have := (quot_bd hp hd hxb).1
    show -1000 ≤ x.fdiv (gl (zs ++ [last]) : Nat) ∧ x.fdiv (gl (zs ++ [last]) : Nat) ≤ 1000
    omega
  · rw [← List.map_take, ← hl, List.take_left]
    exact List.mem_map.mpr ⟨z, hz, rfl⟩
  · exact (quot_bd hp ((glf_dvd (zs ++ [last]) 0).2 z hm) (B := z.natAbs) (Nat.le_refl _)).2 z0
/-! ### planes that are drawn -/
theorem Mv.exo {l : Addr} {H H' : Hp} (m : Mv l H H') : Exo (some l) H H' := fun a o n h => m.1 a o (fun e => n (by rw [e])) h
theorem Mv.mk {l : Addr} {H H' : Hp} (e : Exo (some l) H H') (d : DrA l H') : Mv l H H' := ⟨fun a o n h => e a o (fun z => n (Option.some.inj z)) h, d⟩
theorem dra_ex {l : Addr} {H H' : Hp} (d : DrA l H) (e : Ex H H') : DrA l H' := (Mv.of d e).2
theorem dra_upd {l p : Addr} {H : Hp} {o : HO} (d : DrA l H) (h : p ≠ l) : DrA l (upd H p o) := by
  obtain ⟨ds, h1, h2⟩ := d
  exact ⟨ds, by rw [upd_ne (Ne.symm h)]; exact h1, h2⟩
theorem Mv.upd {l p : Addr} {H H' : Hp} {o : HO} (m : Mv l H H') (h : H p = none) (n : p ≠ l) : Mv l H (upd H' p o) := .mk (exo_upd m.exo h) (dra_upd m.2 n)
theorem dra_ne {l p : Addr} {H : Hp} (d : DrA l H) (h : H p = none) : p ≠ l := by
  obtain ⟨ds, h1, _⟩ := d
  exact (ne_of_none h1 h).symm
theorem mv_none {l p : Addr} {H H1 : Hp} (m : Mv l H H1) (h : H1 p = none) : H p = none := by
  cases z : H p with
  | none => rfl
  | some o =>
    have := m.1 p o (dra_ne m.2 h) z
    rw [h] at this
    cases this
/-- a list of ints of our own -/
structure RowAt (l : Addr) (H : Hp) (n : Nat) (B : Int) (D : Addr) (zs : List Int) (H' : Hp) : Prop where
  mv : Mv l H H'
  fr : H D = none
  ne : D ≠ l
  at_ : H' D = some (.lst (zs.map V.int))
  len : zs.length = n
  bd : ∀ z ∈ zs, -B ≤ z ∧ z ≤ B
theorem RowAt.on {l : Addr} {H : Hp} {n : Nat} {B : Int} {D : Addr} {zs : List Int} {H' H2 : Hp} (r : RowAt l H n B D zs H') (m : Mv l H' H2) : RowAt l H n B D zs H2 :=
  ⟨r.mv.trans m, r.fr, r.ne, m.1 _ _ r.ne r.at_, r.len, r.bd⟩
def AccI (l : Addr) (B : Int) (i : Nat) (ys : List V) (H : Hp) : Prop := DrA l H ∧ ∃ zs : List Int, ys = zs.map V.int ∧ zs.length = i ∧ ∀ z ∈ zs, -B ≤ z ∧ z ≤ B
theorem AccI.ex {l : Addr} {B : Int} {i : Nat} {ys : List V} {H H' : Hp} (e : Ex H H') (h : AccI l B i ys H) : AccI l B i ys H' := ⟨dra_ex h.1 e, h.2⟩
theorem AccI.push {l : Addr} {B : Int} {i : Nat} {ys : List V} {H H' : Hp} (h : AccI l B i ys H) (d : DrA l H') {z : Int} (hz : -B ≤ z ∧ z ≤ B) : AccI l B (i + 1) (ys ++ [.int z]) H' := by
  obtain ⟨_, zs, rfl, h2, h3⟩ := h
  refine ⟨d, zs ++ [z], by rw [List.map_append]; rfl, by rw [List.length_append, h2]; rfl, fun y hy => ?_⟩
  rcases List.mem_append.mp hy with h | h
  · exact h3 y h
  · rw [List.mem_singleton.mp h]
    exact hz
theorem AccI.row {l : Addr} {B : Int} {n : Nat} {ys : List V} {H H1 H2 : Hp} {D : Addr} (h : AccI l B n ys H2) (m : Mv l H H1) (hD : H1 D = none) (e : Exo (some l) H1 H2) (hy : H2 D = some (.lst ys)) : ∃ zs, RowAt l H n B D zs H2 := by
  obtain ⟨d, zs, rfl, h2, h3⟩ := h
  exact ⟨zs, ⟨.mk (m.exo.trans e) d, mv_none m hD, dra_ne m.2 hD, hy, h2, h3⟩⟩
def PvAt (H : Hp) (n : Nat) (pt : Addr) (gs : List Int) : Prop := H pt = some (.lst (gs.map V.int)) ∧ gs.length = n ∧ ∀ z ∈ gs, -2 ≤ z ∧ z ≤ 2
def sp__law_plane (K : PySem.W.Frag) : Sp := fun vs H Q _ => ∃ (l pt : Addr) (n : Nat) (gs : List Int), vs = [.ref l, .int n, .ref pt] ∧ DrA l H ∧ 1 ≤ n ∧ n ≤ 4 ∧ PvAt H n pt gs ∧ pt ≠ l ∧
  ∀ H' v zs, Mv l H H' → PlV K H' v zs → Pl n zs → Q v H'
theorem ok__law_plane (T : Txt K w mg ad fd) : Cal P w K mg base CX0 2 "_law_plane" (ad 54) (fd 54) ["draws", "n", "point"] [] [] (sp__law_plane K) := by
  refine ⟨T.f__law_plane.ok sc__law_plane (fun vs H Q E h => ?_) (fun cdv A outer s H vs Q E hr h => ?_), T.g__law_plane, T.f__law_plane.kp, T.f__law_plane.binds (ps := ["draws", "n", "point"]) fun _ _ _ _ _ _ us hl => match us, hl with | [_, _, _], _ => rfl, .nil⟩
  · obtain ⟨l, pt, n, gs, rfl, _⟩ := h
    rfl
  · obtain ⟨l, pt, n, gs, rfl, hd, n1, n4, ⟨hpt, hpl, hpb⟩, npl, q⟩ := h
    have sz : sizeLine = 16777216 := sizeLine_eq
    refine ⟨_, (pss_cons (ps_set (i := 3) sc__law_plane.nd rfl (by first | exact Or.inl rfl | exact Or.inr rfl) (pe_lc (own := [("j", 4)]) rfl sc__law_plane.nd (pi_range1 rfl T.m_range (pa_cons (pv 1) pa_nil)) (blkOk_by (N := ["draws", "n", "point", "row", "j", "place", "a", "last", "common"]) (sc := defScope s__law_plane) (by decide +kernel)) (fun _ _ _ _ _ => (pg_name (i := 4) sc__law_plane.nd rfl (by first | exact Or.inl rfl | exact Or.inr rfl))) (fun _ _ _ _ _ => pts_nil) (fun _ _ _ _ _ => (pe_op op_sub (pe_op op_mod (pe_callTy (T := "int") call_int1 (by rfl) T.m_int (by decide +kernel) (pa_cons (pe_cal (ok__law_next T (P := P) (w := w) (base := base)) (hr.mono (by decide)) pass0 (pa_cons (pv 0) pa_nil)) pa_nil)) pe_int) pe_int))))
    (pss_cons (ps_if (pt_cmpR op_eq (pe_op op_mod (pe_callTy (T := "int") call_int1 (by rfl) T.m_int (by decide +kernel) (pa_cons (pe_cal (ok__law_next T (P := P) (w := w) (base := base)) (hr.mono (by decide)) pass0 (pa_cons (pv 0) pa_nil)) pa_nil)) pe_int) pe_int (nomark _)) (pss_cons (ps_set (i := 5) sc__law_plane.nd rfl (by first | exact Or.inl rfl | exact Or.inr rfl) (pe_op op_mod (pe_callTy (T := "int") call_int1 (by rfl) T.m_int (by decide +kernel) (pa_cons (pe_cal (ok__law_next T (P := P) (w := w) (base := base)) (hr.mono (by decide)) pass0 (pa_cons (pv 0) pa_nil)) pa_nil)) (pv 1)))
    (pss_one (ps_set (i := 3) sc__law_plane.nd rfl (by first | exact Or.inl rfl | exact Or.inr rfl) (pe_lc (own := [("j", 4)]) rfl sc__law_plane.nd (pi_range1 rfl T.m_range (pa_cons (pv 1) pa_nil)) (blkOk_by (N := ["draws", "n", "point", "row", "j", "place", "a", "last", "common"]) (sc := defScope s__law_plane) (by decide +kernel)) (fun _ _ _ _ _ => (pg_name (i := 4) sc__law_plane.nd rfl (by first | exact Or.inl rfl | exact Or.inr rfl))) (fun _ _ _ _ _ => pts_nil) (fun _ _ _ _ _ => (pe_ifExp (pt_cmpR op_eq (pv 4) (pv 5) (nomark _)) (pe_ix (ix_listK (K := K)) (pv 3) (pv 4) (fun _ _ => rfl)) pe_int)))))) pss_nil)
    (pss_cons (ps_if (pt_not (pt_val (pe_callB (cr_any rfl) (by rfl) T.m_any (by decide +kernel) (pa_cons (pe_lc (own := [("a", 6)]) rfl sc__law_plane.nd (pi_list (pv 3)) (blkOk_by (N := ["draws", "n", "point", "row", "j", "place", "a", "last", "common"]) (sc := defScope s__law_plane) (by decide +kernel)) (fun _ _ _ _ _ => (pg_name (i := 6) sc__law_plane.nd rfl (by first | exact Or.inl rfl | exact Or.inr rfl))) (fun _ _ _ _ _ => pts_nil) (fun _ _ _ _ _ => (pe_cmpR op_ne (pv 6) pe_int (nomark _)))) pa_nil)))) (pss_one (ps_asg pe_int (pg_sub (pv 3) (pe_op op_mod (pe_callTy (T := "int") call_int1 (by rfl) T.m_int (by decide +kernel) (pa_cons (pe_cal (ok__law_next T (P := P) (w := w) (base := base)) (hr.mono (by decide)) pass0 (pa_cons (pv 0) pa_nil)) pa_nil)) (pv 1)) set_list))) pss_nil)
    (pss_cons (ps_set (i := 7) sc__law_plane.nd rfl (by first | exact Or.inl rfl | exact Or.inr rfl) (pe_op op_sub (pe_op op_mod (pe_callTy (T := "int") call_int1 (by rfl) T.m_int (by decide +kernel) (pa_cons (pe_cal (ok__law_next T (P := P) (w := w) (base := base)) (hr.mono (by decide)) pass0 (pa_cons (pv 0) pa_nil)) pa_nil)) pe_int) pe_int))
    (pss_cons (ps_if (pt_cmpR op_eq (pe_op op_mod (pe_callTy (T := "int") call_int1 (by rfl) T.m_int (by decide +kernel) (pa_cons (pe_cal (ok__law_next T (P := P) (w := w) (base := base)) (hr.mono (by decide)) pass0 (pa_cons (pv 0) pa_nil)) pa_nil)) pe_int) pe_int (nomark _)) (pss_one (ps_set (i := 7) sc__law_plane.nd rfl (by first | exact Or.inl rfl | exact Or.inr rfl) (pe_callB (cr_sum rfl) (by rfl) T.m_sum (by decide +kernel) (pa_cons (pe_lc (own := [("j", 4)]) rfl sc__law_plane.nd (pi_range1 rfl T.m_range (pa_cons (pv 1) pa_nil)) (blkOk_by (N := ["draws", "n", "point", "row", "j", "place", "a", "last", "common"]) (sc := defScope s__law_plane) (by decide +kernel)) (fun _ _ _ _ _ => (pg_name (i := 4) sc__law_plane.nd rfl (by first | exact Or.inl rfl | exact Or.inr rfl))) (fun _ _ _ _ _ => pts_nil) (fun _ _ _ _ _ => (pe_op op_mulW (pe_ix (ix_listK (K := K)) (pv 3) (pv 4) (fun _ _ => rfl)) (pe_ix (ix_listK (K := K)) (pv 2) (pv 4) (fun _ _ => rfl))))) pa_nil)))) pss_nil)
    (pss_cons (ps_expr (pe_bm PySem.F.plainAttrs_list PySem.F.slot_list_append PySem.F.type_list_append mt_append (pv 3) (pa_cons (pv 7) pa_nil)))
    (pss_cons (ps_set (i := 8) sc__law_plane.nd rfl (by first | exact Or.inl rfl | exact Or.inr rfl) pe_int)
    (pss_cons (ps_for (by first | exact PassesOwn.never | exact passes_of rfl) rfl (pi_list (pv 3)) (pg_name (i := 6) sc__law_plane.nd rfl (by first | exact Or.inl rfl | exact Or.inr rfl))
      (pss_one (ps_set (i := 8) sc__law_plane.nd rfl (by first | exact Or.inl rfl | exact Or.inr rfl) (pe_cal (ok__law_divisor T (P := P) (w := w) (base := base)) (hr.mono (by decide)) pass0 (pa_cons (pv 8) (pa_cons (pv 6) pa_nil))))))
    (pss_one (ps_ret (pe_callTy (T := "tuple") call_tuple_of (by rfl) T.m_tuple (by decide +kernel) (pa_cons (pe_lc (own := [("a", 6)]) rfl sc__law_plane.nd (pi_list (pv 3)) (blkOk_by (N := ["draws", "n", "point", "row", "j", "place", "a", "last", "common"]) (sc := defScope s__law_plane) (by decide +kernel)) (fun _ _ _ _ _ => (pg_name (i := 6) sc__law_plane.nd rfl (by first | exact Or.inl rfl | exact Or.inr rfl))) (fun _ _ _ _ _ => pts_nil) (fun _ _ _ _ _ => (pe_op op_fdivG (pv 6) (pv 8)))) pa_nil)))))))))))), ?_⟩
    refine ⟨_, rfl, n, rfl, by omega, by omega, fun D1 hD1 => ?_⟩
    refine lc_acc (l := some l) wk_range hD1 (AccI l 3) ⟨dra_upd hd (dra_ne hd hD1), [], rfl, rfl, fun z h => absurd h List.not_mem_nil⟩ (fun i ys H H' e h => h.ex e) ?_ ?_
    · rintro i x H1 ys hi e1 hy hl ha rfl
      have nD := dra_ne hd hD1
      refine ⟨rfl, ?_⟩
      refine ⟨_, rfl, l, rfl, ha.1, fun H2 d d0 d1 m2 => .inl ⟨_, rfl, _, _, rfl, rfl, by show (0 : Int) < 7; decide, _, _, rfl, rfl, ?_⟩⟩
      exact LcP.push hD1 (e1.trans m2.exo) (m2.1 _ _ nD hy) hl (by omega) (ha.push (dra_upd m2.2 nD) (by omega))
    rintro H1 ys e1 hy ha
    obtain ⟨zs1, r1⟩ := ha.row (Mv.refl hd) hD1 e1 hy
    clear ha hy e1
    change Ends.nx _ _ _
    dsimp only
    refine scut (fun σ' H' => ∃ D zs c, σ' = [some (.ref l), some (.int n), some (.ref pt), some (.ref D), none, c, none, none, none] ∧ RowAt l H n 3 D zs H') (fun n' q' => ?_) ?_
    · refine ⟨_, rfl, l, rfl, r1.mv.2, fun H2 d d0 d1 m2 => .inl ⟨_, rfl, _, _, rfl, rfl, by show (0 : Int) < 3; decide, rfl, _, rfl, ite2 (fun _ => ?_) (fun _ => ?_)⟩⟩
      · refine ⟨_, rfl, l, rfl, m2.2, fun H3 f f0 f1 m3 => .inl ⟨_, rfl, _, rfl, _, _, rfl, rfl, by omega, ?_⟩⟩
        have r3 := r1.on (m2.trans m3)
        refine ⟨_, rfl, n, rfl, by omega, by omega, fun D2 hD2 => ?_⟩
        refine lc_acc (l := some l) wk_range hD2 (AccI l 3) ⟨dra_upd m3.2 (dra_ne m3.2 hD2), [], rfl, rfl, fun z h => absurd h List.not_mem_nil⟩ (fun i ys H H' e h => h.ex e) ?_ ?_
        · rintro i x H4 ys hi e4 hy hl ha rfl
          have nD := dra_ne m3.2 hD2
          have ei : (0 + (i : Int)) = (i : Int) := by omega
          obtain ⟨z, hz⟩ : ∃ z, zs1[i]? = some z := ⟨_, List.getElem?_eq_getElem (by rw [r3.len]; exact hi)⟩
          have hz' : (zs1.map V.int)[i]? = some (.int z) := by rw [List.getElem?_map, hz]; rfl
          have h4 : H4 D1 = some (.lst (zs1.map V.int)) := e4 _ _ (fun e => r3.ne (Option.some.inj e)) r3.at_
          refine ⟨rfl, ?_⟩
          refine ⟨_, rfl, _, rfl, rfl, _, rfl, ite2 (fun _ => ?_) (fun _ => ?_)⟩
          · refine ⟨_, rfl, _, rfl, D1, _, i, .int z, rfl, by rw [ei], SqL.of h4, atI_nat hz', ?_⟩
            exact LcP.push hD2 e4 hy hl (by omega) (ha.push (dra_upd ha.1 nD) (r3.bd z (List.mem_of_getElem? hz)))
          · exact LcP.push hD2 e4 hy hl (by omega) (ha.push (dra_upd ha.1 nD) (by omega))
        · rintro H4 ys e4 hy ha
          obtain ⟨zs2, r2⟩ := ha.row r3.mv hD2 e4 hy
          exact q' _ _ ⟨D2, zs2, _, rfl, r2⟩
      · exact q' _ _ ⟨D1, zs1, _, rfl, r1.on m2⟩
    clear r1 hD1
    rintro σ2 H2 ⟨D, zs, c, rfl, r⟩
    refine scut (fun σ' H' => ∃ zs, σ' = [some (.ref l), some (.int n), some (.ref pt), some (.ref D), none, c, none, none, none] ∧ RowAt l H n 3 D zs H' ∧ ∃ z ∈ zs, z ≠ 0) (fun n' q' => ?_) ?_
    · refine ⟨_, rfl, D, rfl, ⟨_, SqL.of r.at_⟩, fun D3 hD3 => ?_⟩
      refine lc_acc (l := none) (wk_list (K := K) (fun z => nomatch z) (SqL.of r.at_)) hD3 (fun i acc _ => acc = ((zs.map fun z => !decide (z = 0)).take i).map V.bl) rfl (fun _ _ _ _ _ h => h) ?_ ?_
      · rintro i x H4 acc hi e4 hy4 hl4 rfl hx
        obtain ⟨z, rfl, hz'⟩ := int_at hx
        refine ⟨rfl, ?_⟩
        refine ⟨_, rfl, rfl, LcP.push hD3 e4 hy4 hl4 (by rw [List.length_map, r.len] at hi; omega) ?_⟩
        rw [List.take_add_one, List.getElem?_map, hz', List.map_append]
        have : decide (V.int z = V.int 0) = decide (z = 0) := by
          by_cases h : z = 0
          · rw [h, decide_eq_true rfl, decide_eq_true rfl]
          · rw [decide_eq_false h, decide_eq_false (fun q => h (V.int.inj q))]
        rw [this]
        rfl
      · rintro H4 acc e4 hy4 rfl
        rw [List.length_map, ← List.length_map (f := fun z : Int => !decide (z = 0)), List.take_length] at hy4
        refine ⟨D3, _, rfl, SqL.of hy4, _, rfl, ?_⟩
        have r4 := r.on (Mv.of r.mv.2 e4.ex)
        by_cases hB : ∃ z ∈ zs, z ≠ 0
        · have hb : (zs.map fun z => !decide (z = 0)).any id = true := by
            rw [List.any_map, List.any_eq_true]
            obtain ⟨z, h1, h2⟩ := hB
            exact ⟨z, h1, by show (!decide (z = 0)) = true; rw [decide_eq_false h2]; rfl⟩
          rw [hb]
          exact q' _ _ ⟨zs, rfl, r4, hB⟩
        · have hb : (zs.map fun z => !decide (z = 0)).any id = false := by
            rw [List.any_map, List.any_eq_false]
            intro z h1 h2
            have h2 : (!decide (z = 0)) = true := h2
            exact hB ⟨z, h1, fun z0 => by rw [z0] at h2; exact absurd h2 (by decide)⟩
          rw [hb]
          refine ⟨_, rfl, _, rfl, l, rfl, r4.mv.2, fun H5 d d0 d1 m5 => .inl ⟨_, rfl, _, rfl, _, _, rfl, rfl, by omega, ?_⟩⟩
          have r5 := r4.on m5
          have h0n : 0 ≤ d % (n : Int) := Int.emod_nonneg _ (by omega)
          have h1n : d % (n : Int) < n := Int.emod_lt_of_pos _ (by omega)
          have hlt : (d % (n : Int)).toNat < zs.length := by rw [r.len]; omega
          refine ⟨D, _, d % n, (d % (n : Int)).toNat, rfl, rfl, r5.at_, ?_, ?_⟩
          · unfold ixN
            rw [List.length_map]
            have h0 : 0 ≤ d % (n : Int) := Int.emod_nonneg _ (by omega)
            have h1 : d % (n : Int) < n := Int.emod_lt_of_pos _ (by omega)
            rw [if_pos h0, if_pos (by rw [r.len]; exact h1)]
          · refine q' _ _ ⟨zs.set (d % (n : Int)).toNat 1, rfl, ⟨r5.mv.upd r.fr r.ne, r.fr, r.ne, by rw [upd_same, List.map_set], by rw [List.length_set, r.len], fun z hz => ?_⟩, 1, ?_, by decide⟩
            · rcases List.mem_or_eq_of_mem_set hz with h | h
              · exact r.bd z h
              · omega
            · exact List.mem_set hlt 1
    clear r
    rintro σ3 H3 ⟨zs, rfl, r, hne⟩
    refine seqA ?_
    refine ⟨_, rfl, l, rfl, r.mv.2, fun H4 d d0 d1 m4 => .inl ⟨_, rfl, _, _, rfl, rfl, by show (0 : Int) < 9; decide, _, _, rfl, rfl, ?_⟩⟩
    have r4 := r.on m4
    refine scut (fun σ' H' => ∃ z, σ' = [some (.ref l), some (.int n), some (.ref pt), some (.ref D), none, c, none, some (.int z), none] ∧ RowAt l H n 3 D zs H' ∧ -100 ≤ z ∧ z ≤ 100) (fun n' q' => ?_) ?_
    · refine ⟨_, rfl, l, rfl, r4.mv.2, fun H5 e e0 e1 m5 => .inl ⟨_, rfl, _, _, rfl, rfl, by show (0 : Int) < 2; decide, rfl, _, rfl, ite2 (fun _ => ?_) (fun _ => ?_)⟩⟩
      · have r5 := r4.on m5
        have hp5 : H5 pt = some (.lst (gs.map V.int)) := r5.mv.1 _ _ npl hpt
        refine ⟨_, rfl, n, rfl, by omega, by omega, fun D6 hD6 => ?_⟩
        refine lc_acc (l := none) wk_range hD6 (fun i acc _ => ∃ xs : List Int, acc = xs.map V.int ∧ xs.length = i ∧ ∀ z ∈ xs, -6 ≤ z ∧ z ≤ 6) ⟨[], rfl, rfl, fun z h => absurd h List.not_mem_nil⟩ (fun _ _ _ _ _ h => h) ?_ ?_
        · rintro i x H6 acc hi e6 hy6 hl6 ⟨xs, rfl, hxl, hxb⟩ rfl
          have ei : (0 + (i : Int)) = (i : Int) := by omega
          obtain ⟨z, hz⟩ : ∃ z, zs[i]? = some z := ⟨_, List.getElem?_eq_getElem (by rw [r5.len]; exact hi)⟩
          obtain ⟨g, hg⟩ : ∃ g, gs[i]? = some g := ⟨_, List.getElem?_eq_getElem (by rw [hpl]; exact hi)⟩
          have hz' : (zs.map V.int)[i]? = some (.int z) := by rw [List.getElem?_map, hz]; rfl
          have hg' : (gs.map V.int)[i]? = some (.int g) := by rw [List.getElem?_map, hg]; rfl
          have zb := r5.bd z (List.mem_of_getElem? hz)
          have gb := hpb g (List.mem_of_getElem? hg)
          have bg : (100 : Nat) < 2 ^ 3000 := Nat.lt_of_lt_of_le (by decide : (100 : Nat) < 2 ^ 7) (Nat.pow_le_pow_right (by decide) (by decide))
          have pb : -6 ≤ z * g ∧ z * g ≤ 6 := by
            have h1 : (z * g).natAbs ≤ 3 * 2 := by rw [Int.natAbs_mul]; exact Nat.mul_le_mul (by omega) (by omega)
            omega
          refine ⟨rfl, ?_⟩
          refine ⟨_, rfl, _, rfl, D, _, i, .int z, rfl, by rw [ei], SqL.of (e6.ex _ _ r5.at_), atI_nat hz', _, rfl, _, rfl, pt, _, i, .int g, rfl, by rw [ei], SqL.of (e6.ex _ _ hp5), atI_nat hg', z, g, rfl, rfl, mul_ok (by omega) (by omega), ?_⟩
          refine LcP.push hD6 e6 hy6 hl6 (by omega) ⟨xs ++ [z * g], by rw [List.map_append]; rfl, by rw [List.length_append, hxl]; rfl, fun y hy => ?_⟩
          rcases List.mem_append.mp hy with h | h
          · exact hxb y h
          · rw [List.mem_singleton.mp h]
            exact pb
        · rintro H6 acc e6 hy6 ⟨xs, rfl, hxl, hxb⟩
          have hs := sum_bd (by decide) xs hxb
          rw [hxl] at hs
          exact ⟨D6, xs, rfl, SqL.of hy6, q' _ _ ⟨xs.sum, rfl, r5.on (Mv.of r5.mv.2 e6.ex), by omega, by omega⟩⟩
      · exact q' _ _ ⟨_, rfl, r4.on m5, by omega, by omega⟩
    clear r4 m4
    rintro σ5 H5 ⟨last, rfl, r5, hl0, hl1⟩
    obtain ⟨hg0, hg3, hpl5⟩ := plane_of r5.len r5.bd ⟨hl0, hl1⟩ hne
    refine ⟨_, rfl, .inl ⟨rfl, _, SqL.of r5.at_⟩, _, rfl, D, _, _, rfl, rfl, r5.at_, by rw [List.length_map, r5.len]; omega, ?_⟩
    have hD6 : (upd H5 D (.lst (zs.map V.int ++ [.int last]))) D = some (.lst ((zs ++ [last]).map V.int)) := by rw [upd_same, List.map_append]; rfl
    have m6 : Mv l H (upd H5 D (.lst (zs.map V.int ++ [.int last]))) := r5.mv.upd r5.fr r5.ne
    generalize upd H5 D (.lst (zs.map V.int ++ [.int last])) = H6 at hD6 m6 ⊢
    have hlenF : (zs ++ [last]).length = n + 1 := by rw [List.length_append, r5.len]; rfl
    have small : ∀ z ∈ zs ++ [last], z.natAbs ≤ 100 := fun z hz => by
      rcases List.mem_append.mp hz with h | h
      · have := r5.bd z h
        omega
      · have := List.mem_singleton.mp h
        omega
    generalize zs ++ [last] = zf at hD6 hlenF small hg0 hg3 hpl5 ⊢
    have bg : (1000 : Nat) < 2 ^ 4000 := Nat.lt_of_lt_of_le (by decide : (1000 : Nat) < 2 ^ 10) (Nat.pow_le_pow_right (by decide) (by decide))
    refine ⟨_, rfl, D, rfl, ⟨_, SqL.of hD6⟩, for_list (K := K) (a := D) (xs := zf.map V.int) (fun i σ H' => ∃ (ca : Option V), σ = [some (.ref l), some (.int n), some (.ref pt), some (.ref D), none, c, ca, some (.int last), some (.int ((gl (zf.take i) : Nat) : Int))] ∧ H' = H6 ∧ gl (zf.take i) ≤ 100) ⟨none, rfl, rfl, by show (0 : Nat) ≤ 100; decide⟩ (fun i σ H' _ ⟨_, _, e, _⟩ => by rw [e]; exact SqL.of hD6) ?_ ?_⟩
    · rintro i x σ H7 hi ⟨ca, rfl, rfl, hgb⟩
      obtain ⟨z, rfl, hz⟩ := int_at hi
      have zb := small z (List.mem_of_getElem? hz)
      have e1 : gl (zf.take (i + 1)) = (gl (zf.take i)).gcd z.natAbs := by
        unfold gl
        rw [List.take_add_one, hz, List.foldl_append]
        rfl
      refine ⟨_, rfl, _, rfl, _, _, rfl, by omega, by omega, some (.int z), ?_, rfl, ?_⟩
      · rw [e1]
        rfl
      · rw [e1]
        by_cases h0 : z.natAbs = 0
        · rw [h0, Nat.gcd_zero_right]
          exact hgb
        · exact Nat.le_trans (Nat.gcd_le_right _ (by omega)) zb
    · rintro σ H7 ⟨ca, rfl, rfl, _⟩
      rw [List.length_map, List.take_length]
      refine ⟨_, rfl, D, rfl, ⟨_, SqL.of hD6⟩, fun D8 hD8 => ?_⟩
      refine lc_acc (l := none) (wk_list (K := K) (fun z => nomatch z) (SqL.of hD6)) hD8 (fun i acc _ => acc = ((zf.map fun z => z.fdiv (gl zf : Nat)).take i).map V.int) rfl (fun _ _ _ _ _ h => h) ?_ ?_
      · rintro i x H8 acc hi e8 hy8 hl8 rfl hx
        obtain ⟨z, rfl, hz⟩ := int_at hx
        refine ⟨rfl, ?_⟩
        refine ⟨_, rfl, _, rfl, z, _, rfl, rfl, ⟨by omega, ?_⟩, LcP.push hD8 e8 hy8 hl8 (by rw [List.length_map] at hi; omega) ?_⟩
        · have : ((gl zf : Nat) : Int).natAbs.log2 ≤ 8 := PySem.W.mg_log (by show gl zf < 2 ^ 9; omega)
          omega
        · rw [List.take_add_one, List.getElem?_map, hz, List.map_append]
          rfl
      · rintro H8 acc e8 hy8 rfl
        rw [List.length_map, ← List.length_map (f := fun z : Int => z.fdiv (gl zf : Nat)), List.take_length] at hy8
        exact ⟨D8, _, rfl, .inl ⟨SqL.of hy8, fun p hp => q _ _ _ (m6.trans (.of m6.2 (e8.ex.trans (Ex.new hp)))) ⟨p, rfl, SqT.of upd_same⟩ hpl5⟩⟩
/-! ### lists of planes and points that are drawn -/
theorem mv_plv {K : PySem.W.Frag} {l : Addr} {H H' : Hp} {v : V} {zs : List Int} (d : DrA l H) (m : Mv l H H') (h : PlV K H v zs) : PlV K H' v zs :=
  have ⟨p, h1, h2⟩ := h
  ⟨p, h1, mv_t d m h2⟩
theorem PlanesOk.snoc {n : Nat} {zss : List (List Int)} {zs : List Int} (h : PlanesOk n zss) (hl : zss.length < 12) (hz : Pl n zs) (h1 : zs ∉ zss) (h2 : neg zs ∉ zss) : PlanesOk n (zss ++ [zs]) := by
  obtain ⟨a1, a2, a3⟩ := h
  refine ⟨by rw [List.length_append]; exact hl, fun y hy => ?_, fun i j a b hij ha hb => ?_⟩
  · rcases List.mem_append.mp hy with h | h
    · exact a2 y h
    · rw [List.mem_singleton.mp h]
      exact hz
  · have hj := (List.getElem?_eq_some_iff.mp hb).1
    rw [List.length_append] at hj
    have hj : j < zss.length + 1 := hj
    have hi : i < zss.length := by omega
    rw [List.getElem?_append_left hi] at ha
    by_cases hjl : j < zss.length
    · rw [List.getElem?_append_left hjl] at hb
      exact a3 i j a b hij ha hb
    · rw [List.getElem?_append_right (by omega), show j - zss.length = 0 by omega] at hb
      cases hb
      have ham := List.mem_of_getElem? ha
      exact ⟨fun e => h1 (e ▸ ham), fun e => h2 (by rw [e, neg_neg]; exact ham)⟩
def sp__law_planes (K : PySem.W.Frag) : Sp := fun vs H Q _ => ∃ (l : Addr) (n mo : Nat), vs = [.ref l, .int n, .int (mo : Nat)] ∧ DrA l H ∧ 1 ≤ n ∧ n ≤ 4 ∧ mo ≤ 11 ∧
  ∀ (H' : Hp) (v f p : Addr) (us : List V) (zss : List (List Int)) (gs : List Int), Mv l H H' → H' v = some (.lst [.ref f, .ref p]) → f ≠ l → p ≠ l → v ≠ l → H' f = some (.lst us) → All2 (PlV K H') us zss → PlanesOk n zss → zss.length ≤ mo → PvAt H' n p gs → Q (.ref v) H'
theorem ok__law_planes (T : Txt K w mg ad fd) : Cal P w K mg base CX0 3 "_law_planes" (ad 55) (fd 55) ["draws", "n", "most"] [] [] (sp__law_planes K) := by
  refine ⟨T.f__law_planes.ok sc__law_planes (fun vs H Q E h => ?_) (fun cdv A outer s H vs Q E hr h => ?_), T.g__law_planes, T.f__law_planes.kp, T.f__law_planes.binds (ps := ["draws", "n", "most"]) fun _ _ _ _ _ _ us hl => match us, hl with | [_, _, _], _ => rfl, .nil⟩
  · obtain ⟨l, n, mo, rfl, _⟩ := h
    rfl
  · obtain ⟨l, n, mo, rfl, hd, n1, n4, hmo, q⟩ := h
    have sz : sizeLine = 16777216 := sizeLine_eq
    refine ⟨_, (pss_cons (ps_setLc (i := 3) (own := [("j", 4)]) rfl sc__law_planes.nd rfl rfl (sw_true rfl rfl rfl (by decide +kernel)) (pi_range1 rfl T.m_range (pa_cons (pv 1) pa_nil)) (blkOk_by (N := ["draws", "n", "most", "point", "j", "found", "plane", "a"]) (sc := defScope s__law_planes) (by decide +kernel)) (fun _ _ _ _ _ => (pg_name (i := 4) sc__law_planes.nd rfl (by first | exact Or.inl rfl | exact Or.inr rfl))) (fun _ _ _ _ _ => pts_nil) (fun _ _ _ _ _ => (pe_op op_sub (pe_op op_mod (pe_callTy (T := "int") call_int1 (by rfl) T.m_int (by decide +kernel) (pa_cons (pe_cal (ok__law_next T (P := P) (w := w) (base := base)) (hr.mono (by decide)) pass0 (pa_cons (pv 0) pa_nil)) pa_nil)) pe_int) pe_int)))
    (pss_cons (ps_set (i := 5) sc__law_planes.nd rfl (by first | exact Or.inl rfl | exact Or.inr rfl) (pe_lst pa_nil))
    (pss_cons (ps_for (by first | exact PassesOwn.never | exact passes_of rfl) rfl (pi_range1 rfl T.m_range (pa_cons (pe_op op_mod (pe_callTy (T := "int") call_int1 (by rfl) T.m_int (by decide +kernel) (pa_cons (pe_cal (ok__law_next T (P := P) (w := w) (base := base)) (hr.mono (by decide)) pass0 (pa_cons (pv 0) pa_nil)) pa_nil)) (pe_op op_add (pv 2) pe_int)) pa_nil)) (pg_name (i := 4) sc__law_planes.nd rfl (by first | exact Or.inl rfl | exact Or.inr rfl))
      (pss_cons (ps_set (i := 6) sc__law_planes.nd rfl (by first | exact Or.inl rfl | exact Or.inr rfl) (pe_cal (ok__law_plane T (P := P) (w := w) (base := base)) (hr.mono (by decide)) pass0 (pa_cons (pv 0) (pa_cons (pv 1) (pa_cons (pv 3) pa_nil)))))
    (pss_one (ps_if (L2.PW.pt (pw_and (pt_cmpR (op_notInD (hu65 hr)) (pv 6) (pv 5) (by rfl)) (pw_and1 (pt_cmpR (op_notInD (hu65 hr)) (pe_callTy (T := "tuple") call_tuple_of (by rfl) T.m_tuple (by decide +kernel) (pa_cons (pe_lc (own := [("a", 7)]) rfl sc__law_planes.nd (pi_tup (pv 6)) (blkOk_by (N := ["draws", "n", "most", "point", "j", "found", "plane", "a"]) (sc := defScope s__law_planes) (by decide +kernel)) (fun _ _ _ _ _ => (pg_name (i := 7) sc__law_planes.nd rfl (by first | exact Or.inl rfl | exact Or.inr rfl))) (fun _ _ _ _ _ => pts_nil) (fun _ _ _ _ _ => (pe_op op_sub pe_int (pv 7)))) pa_nil)) (pv 5) (by rfl))))) (pss_one (ps_expr (pe_bm PySem.F.plainAttrs_list PySem.F.slot_list_append PySem.F.type_list_append mt_append (pv 5) (pa_cons (pv 6) pa_nil)))) pss_nil))))
    (pss_one (ps_ret (pe_lst (pa_cons (pv 5) (pa_cons (pv 3) pa_nil)))))))), ?_⟩
    refine ⟨_, rfl, n, rfl, by omega, by omega, fun p hp => ?_⟩
    refine lc_acc (l := some l) wk_range hp (AccI l 2) ⟨dra_upd hd (dra_ne hd hp), [], rfl, rfl, fun z h => absurd h List.not_mem_nil⟩ (fun i ys H H' e h => h.ex e) ?_ ?_
    · rintro i x H1 ys hi e1 hy hl ha rfl
      have nD := dra_ne hd hp
      refine ⟨rfl, ?_⟩
      refine ⟨_, rfl, l, rfl, ha.1, fun H2 d d0 d1 m2 => .inl ⟨_, rfl, _, _, rfl, rfl, by show (0 : Int) < 5; decide, _, _, rfl, rfl, ?_⟩⟩
      exact LcP.push hp (e1.trans m2.exo) (m2.1 _ _ nD hy) hl (by omega) (ha.push (dra_upd m2.2 nD) (by omega))
    rintro H1 ys e1 hy ha
    obtain ⟨gs, r1⟩ := ha.row (Mv.refl hd) hp e1 hy
    clear ha hy e1
    change Ends.nx _ _ _
    dsimp only
    refine seqA ?_
    refine ⟨by show (0 : Nat) ≤ sizeLine; omega, fun f hf => ?_⟩
    have nfl := dra_ne r1.mv.2 hf
    have hf0 := mv_none r1.mv hf
    have nfp : p ≠ f := ne_of_none r1.at_ hf
    have r2 := r1.on (Mv.of r1.mv.2 (Ex.new (o := .lst []) hf))
    have hf2 : (upd H1 f (.lst [])) f = some (.lst []) := upd_same
    generalize upd H1 f (.lst []) = H2 at r2 hf2 ⊢
    refine ⟨_, rfl, l, rfl, r2.mv.2, fun H3 d d0 d1 m3 => .inl ⟨_, rfl, _, rfl, _, _, rfl, rfl, _, _, rfl, rfl, by omega, ?_⟩⟩
    have r3 := r2.on m3
    have w0 : 0 ≤ d % ((mo : Int) + 1) := Int.emod_nonneg _ (by omega)
    have w1 : d % ((mo : Int) + 1) < mo + 1 := Int.emod_lt_of_pos _ (by omega)
    obtain ⟨W, hW⟩ : ∃ W : Nat, d % ((mo : Int) + 1) = (W : Int) := ⟨(d % ((mo : Int) + 1)).toNat, by omega⟩
    have hf3 := m3.1 _ _ nfl hf2
    refine ⟨W, by show [V.int (d % ((mo : Int) + 1))] = [V.int ((W : Nat) : Int)]; rw [hW], by omega, by omega, for_range (lo := 0) (n := W) (fun i σ H' => i ≤ mo ∧ ∃ (cj cp : Option V) (us : List V) (zss : List (List Int)), σ = [some (.ref l), some (.int n), some (.int (mo : Nat)), some (.ref p), cj, some (.ref f), cp, none] ∧ RowAt l H n 2 p gs H' ∧ H' f = some (.lst us) ∧ All2 (PlV K H') us zss ∧ PlanesOk n zss ∧ zss.length ≤ i)
      ⟨by omega, none, none, [], [], rfl, r3, hf3, .nil, ⟨by decide, fun z h => absurd h List.not_mem_nil, fun i j a b _ h => by cases h⟩, Nat.le_refl _⟩ ?_ ?_⟩
    · rintro i σ H4 hi ⟨hi7, cj, cp, us, zss, rfl, r4, hf4, hz, hok, hzl⟩
      refine ⟨_, rfl, _, rfl, _, rfl, l, p, n, gs, rfl, r4.mv.2, n1, n4, ⟨r4.at_, r4.len, r4.bd⟩, r4.ne, fun H5 v zs m5 hv hpl => ?_⟩
      have r5 := r4.on m5
      have hf5 := m5.1 _ _ nfl hf4
      have hz5 := hz.imp fun _ _ h => mv_plv r4.mv.2 m5 h
      refine ⟨_, rfl, _, rfl, tupD zs, _, dp_pl hv, .lst (SqL.of hf5) (dpAll_pls hz5), shaped_tupD zs, shaped_tups _, _, rfl, ?_⟩
      rw [any_tups]
      have skip : ∀ H6, Ex H5 H6 → (i + 1 ≤ mo ∧ ∃ (cj' cp' : Option V) (us : List V) (zss : List (List Int)), [some (.ref l), some (.int n), some (.int (mo : Nat)), some (.ref p), some (.int (0 + (i : Int))), some (.ref f), some v, none] = [some (.ref l), some (.int n), some (.int (mo : Nat)), some (.ref p), cj', some (.ref f), cp', none] ∧ RowAt l H n 2 p gs H6 ∧ H6 f = some (.lst us) ∧ All2 (PlV K H6) us zss ∧ PlanesOk n zss ∧ zss.length ≤ i + 1) := fun H6 e6 =>
        ⟨by omega, _, _, us, zss, rfl, r5.on (Mv.of r5.mv.2 e6), e6 _ _ hf5, hz5.imp (fun _ _ h => h.mono e6), hok, by omega⟩
      by_cases hin : zs ∈ zss
      · rw [decide_eq_true hin]
        exact iteF (iteF (skip H5 (Ex.refl _)))
      · rw [decide_eq_false hin]
        obtain ⟨pv', rfl, hpv⟩ := hv
        refine iteT ⟨_, rfl, pv', rfl, ⟨_, hpv⟩, fun D6 hD6 => ?_⟩
        refine lc_acc (l := none) (wk_tup (K := K) (fun z => nomatch z) hpv) hD6 (fun i acc _ => acc = ((neg zs).take i).map V.int) rfl (fun _ _ _ _ _ h => h) ?_ ?_
        · rintro j x H6 acc hj e6 hy6 hl6 rfl hx
          obtain ⟨z, rfl, hz'⟩ := int_at hx
          refine ⟨rfl, ?_⟩
          refine ⟨_, rfl, _, _, rfl, rfl, LcP.push hD6 e6 hy6 hl6 (by rw [List.length_map] at hj; have := hpl.1; omega) ?_⟩
          unfold neg
          rw [List.take_add_one, List.getElem?_map, hz', List.map_append]
          congr 1
          show [V.int (0 - z)] = [V.int (-z)]
          rw [show (0 - z) = -z by omega]
        · rintro H6 acc e6 hy6 rfl
          rw [List.length_map, show zs.length = (neg zs).length by unfold neg; rw [List.length_map], List.take_length] at hy6
          refine ⟨D6, _, rfl, .inl ⟨SqL.of hy6, fun p7 hp7 => ?_⟩⟩
          have e7 := e6.ex.trans (Ex.new (o := .tup ((neg zs).map V.int)) hp7)
          have hp7' : PlV K (upd H6 p7 (.tup ((neg zs).map V.int))) (.ref p7) (neg zs) := ⟨p7, rfl, SqT.of upd_same⟩
          generalize upd H6 p7 (.tup ((neg zs).map V.int)) = H7 at e7 hp7' ⊢
          have hf7 := e7 _ _ hf5
          have hz7 := hz5.imp fun _ _ h => h.mono e7
          refine ⟨_, rfl, tupD (neg zs), _, dp_pl hp7', .lst (SqL.of hf7) (dpAll_pls hz7), shaped_tupD _, shaped_tups _, _, rfl, ?_⟩
          rw [any_tups]
          by_cases hin2 : neg zs ∈ zss
          · rw [decide_eq_true hin2]
            exact iteF (skip H7 e7)
          · rw [decide_eq_false hin2]
            refine iteT ⟨_, rfl, .inl ⟨rfl, _, SqL.of hf7⟩, _, rfl, f, us, .ref pv', rfl, rfl, hf7, by rw [hz.1]; omega, ?_⟩
            have r7 := r5.on (Mv.of r5.mv.2 e7)
            refine ⟨by omega, _, _, _, _, rfl, ⟨r7.mv.upd hf0 nfl, r7.fr, r7.ne, by rw [upd_ne nfp]; exact r7.at_, r7.len, r7.bd⟩, upd_same, (hz7.imp (fun _ _ h => plv_upd h hf7)).app (All2.cons (plv_upd (PlV.mono e7 ⟨pv', rfl, hpv⟩) hf7) .nil), hok.snoc (by omega) hpl hin hin2, by rw [List.length_append]; show zss.length + 1 ≤ i + 1; omega⟩
    · rintro σ H4 ⟨hi7, cj, cp, us, zss, rfl, r4, hf4, hz, hok, hzl⟩
      refine ⟨_, rfl, _, rfl, by show (2 : Nat) ≤ sizeLine; omega, fun v hv => ?_⟩
      have e5 := Ex.new (o := .lst [.ref f, .ref p]) hv
      exact q _ v f p us zss gs (r4.mv.ex e5) upd_same nfl r4.ne (dra_ne r4.mv.2 hv) (e5 _ _ hf4) (hz.imp fun _ _ h => h.mono e5) hok (by omega) ⟨e5 _ _ r4.at_, r4.len, r4.bd⟩
def PtS (ps : List (Int × Int)) : Prop := ps.length ≤ 4 ∧ ∀ x ∈ ps, isN x.1 x.2 ∧ x.1.natAbs ≤ 6 ∧ x.2 ≤ 4
theorem PtS.ok {ps : List (Int × Int)} (h : PtS ps) : PtOk ps := ⟨h.1, fun x hx => ⟨(h.2 x hx).1, by have := (h.2 x hx).2.1; omega, by have := (h.2 x hx).2.2; omega⟩⟩
def AccN (K : PySem.W.Frag) (l : Addr) (i : Nat) (ys : List V) (H : Hp) : Prop := DrA l H ∧ ∃ ps : List (Int × Int), All2 (NumR K H) ys ps ∧ ps.length = i ∧ ∀ x ∈ ps, isN x.1 x.2 ∧ x.1.natAbs ≤ 6 ∧ x.2 ≤ 4
theorem AccN.ex {K : PySem.W.Frag} {l : Addr} {i : Nat} {ys : List V} {H H' : Hp} (e : Ex H H') (h : AccN K l i ys H) : AccN K l i ys H' := by
  obtain ⟨d, ps, h1, h2⟩ := h
  exact ⟨dra_ex d e, ps, h1.imp fun _ _ n => n.mono e, h2⟩
theorem num_upd {K : PySem.W.Frag} {H : Hp} {v : V} {a b : Int} {D : Addr} {ys : List V} {o : HO} (h : Num K H v a b) (hb : H D = some (.lst ys)) : Num K (upd H D o) v a b :=
  have ⟨p, h1, h2⟩ := h
  ⟨p, h1, sqt_upd h2 hb⟩
theorem AccN.push {K : PySem.W.Frag} {l : Addr} {i : Nat} {ys zs : List V} {H H' : Hp} {D : Addr} {v : V} {a b : Int} {o : HO} (h : AccN K l i ys H) (m : Mv l H H') (n : Num K H' v a b) (hn : isN a b ∧ a.natAbs ≤ 6 ∧ b ≤ 4) (hD : H' D = some (.lst zs)) (nD : D ≠ l) : AccN K l (i + 1) (ys ++ [v]) (upd H' D o) := by
  obtain ⟨d, ps, h1, h2, h3⟩ := h
  refine ⟨dra_upd m.2 nD, ps ++ [(a, b)], (h1.imp fun _ _ n => num_upd (mv_num d m n) hD).app (All2.cons (num_upd n hD) .nil), by rw [List.length_append, h2]; rfl, fun x hx => ?_⟩
  rcases List.mem_append.mp hx with h | h
  · exact h3 x h
  · rw [List.mem_singleton.mp h]
    exact hn
def sp__law_point (K : PySem.W.Frag) : Sp := fun vs H Q _ => ∃ (l pt : Addr) (n : Nat) (gs : List Int), vs = [.ref l, .int n, .ref pt] ∧ DrA l H ∧ 1 ≤ n ∧ n ≤ 4 ∧ PvAt H n pt gs ∧ pt ≠ l ∧
  ∀ H' v ps, Mv l H H' → PtV K H' v ps → PtS ps → ps.length = n → Q v H'
theorem ok__law_point (T : Txt K w mg ad fd) : Cal P w K mg base CX0 4 "_law_point" (ad 56) (fd 56) ["draws", "n", "point"] [] [] (sp__law_point K) := by
  refine ⟨T.f__law_point.ok sc__law_point (fun vs H Q E h => ?_) (fun cdv A outer s H vs Q E hr h => ?_), T.g__law_point, T.f__law_point.kp, T.f__law_point.binds (ps := ["draws", "n", "point"]) fun _ _ _ _ _ _ us hl => match us, hl with | [_, _, _], _ => rfl, .nil⟩
  · obtain ⟨l, pt, n, gs, rfl, _⟩ := h
    rfl
  · obtain ⟨l, pt, n, gs, rfl, hd, n1, n4, ⟨hpt, hpl, hpb⟩, npl, q⟩ := h
    have sz : sizeLine = 16777216 := sizeLine_eq
    have fin : ∀ (H1 H2 : Hp) (D : Addr) (ys : List V), Mv l H H1 → H1 D = none → Exo (some l) H1 H2 → H2 D = some (.lst ys) → AccN K l n ys H2 → ∀ p, H2 p = none → Q (.ref p) (upd H2 p (.tup ys)) := fun H1 H2 D ys m hD e hy ⟨d, ps, h1, h2, h3⟩ p hp =>
      q _ _ ps ((Mv.mk (m.exo.trans e) d).ex (Ex.new hp)) ⟨p, ys, rfl, SqT.of upd_same, h1.imp fun _ _ n => n.mono (Ex.new hp)⟩ ⟨by omega, h3⟩ h2
    refine ⟨_, (pss_cons (ps_set (i := 3) sc__law_point.nd rfl (by first | exact Or.inl rfl | exact Or.inr rfl) (pe_op op_mod (pe_callTy (T := "int") call_int1 (by rfl) T.m_int (by decide +kernel) (pa_cons (pe_cal (ok__law_next T (P := P) (w := w) (base := base)) (hr.mono (by decide)) pass0 (pa_cons (pv 0) pa_nil)) pa_nil)) pe_int))
    (pss_cons (ps_if (pt_cmpR op_eq (pv 3) pe_int (nomark _)) (pss_one (ps_ret (pe_callTy (T := "tuple") call_tuple_of (by rfl) T.m_tuple (by decide +kernel) (pa_cons (pe_lc (own := [("a", 4)]) rfl sc__law_point.nd (pi_list (pv 2)) (blkOk_by (N := ["draws", "n", "point", "kind", "a", "j", "near"]) (sc := defScope s__law_point) (by decide +kernel)) (fun _ _ _ _ _ => (pg_name (i := 4) sc__law_point.nd rfl (by first | exact Or.inl rfl | exact Or.inr rfl))) (fun _ _ _ _ _ => pts_nil) (fun _ _ _ _ _ => (pe_tup (pa_cons (pv 4) (pa_cons pe_int pa_nil))))) pa_nil)))) pss_nil)
    (pss_cons (ps_if (pt_cmpR op_eq (pv 3) pe_int (nomark _)) (pss_one (ps_ret (pe_callTy (T := "tuple") call_tuple_of (by rfl) T.m_tuple (by decide +kernel) (pa_cons (pe_lc (own := [("j", 5)]) rfl sc__law_point.nd (pi_range1 rfl T.m_range (pa_cons (pv 1) pa_nil)) (blkOk_by (N := ["draws", "n", "point", "kind", "a", "j", "near"]) (sc := defScope s__law_point) (by decide +kernel)) (fun _ _ _ _ _ => (pg_name (i := 5) sc__law_point.nd rfl (by first | exact Or.inl rfl | exact Or.inr rfl))) (fun _ _ _ _ _ => pts_nil) (fun _ _ _ _ _ => (pe_cal (ok__law_fraction T (P := P) (w := w) (base := base)) (hr.mono (by decide)) pass0 (pa_cons (pv 0) pa_nil)))) pa_nil)))) pss_nil)
    (pss_cons (ps_setLc (i := 6) (own := [("a", 4)]) rfl sc__law_point.nd rfl rfl (sw_true rfl rfl rfl (by decide +kernel)) (pi_list (pv 2)) (blkOk_by (N := ["draws", "n", "point", "kind", "a", "j", "near"]) (sc := defScope s__law_point) (by decide +kernel)) (fun _ _ _ _ _ => (pg_name (i := 4) sc__law_point.nd rfl (by first | exact Or.inl rfl | exact Or.inr rfl))) (fun _ _ _ _ _ => pts_nil) (fun _ _ _ _ _ => (pe_tup (pa_cons (pv 4) (pa_cons pe_int pa_nil)))))
    (pss_cons (ps_asg (pe_cal (ok__law_fraction T (P := P) (w := w) (base := base)) (hr.mono (by decide)) pass0 (pa_cons (pv 0) pa_nil)) (pg_sub (pv 6) (pe_op op_mod (pe_callTy (T := "int") call_int1 (by rfl) T.m_int (by decide +kernel) (pa_cons (pe_cal (ok__law_next T (P := P) (w := w) (base := base)) (hr.mono (by decide)) pass0 (pa_cons (pv 0) pa_nil)) pa_nil)) (pv 1)) set_list))
    (pss_one (ps_ret (pe_callTy (T := "tuple") call_tuple_of (by rfl) T.m_tuple (by decide +kernel) (pa_cons (pv 6) pa_nil))))))))), ?_⟩
    refine ⟨_, rfl, l, rfl, hd, fun H1 d d0 d1 m1 => .inl ⟨_, rfl, _, _, rfl, rfl, by show (0 : Int) < 3; decide, ?_⟩⟩
    have hp1 : H1 pt = some (.lst (gs.map V.int)) := m1.1 _ _ npl hpt
    have whole : ∀ D, H1 D = none → ∀ (i : Nat) (x : V) (H2 : Hp) (ys : List V), i < (gs.map V.int).length → Exo (some l) H1 H2 → H2 D = some (.lst ys) → ys.length ≤ i → AccN K l i ys H2 → (gs.map V.int)[i]? = some x → ∀ p, H2 p = none → ∃ acc, (upd H2 p (.tup [x, .int 1])) D = some (.lst acc) ∧ acc.length < sizeLine ∧ LcP (some l) H1 D (AccN K l) (i + 1) (upd (upd H2 p (.tup [x, .int 1])) D (.lst (acc ++ [.ref p]))) := by
      intro D hD i x H2 ys hi e2 hy hl ha hx p hp
      obtain ⟨z, rfl, hz⟩ := int_at hx
      have zb := hpb z (List.mem_of_getElem? hz)
      have e3 := Ex.new (o := .tup [.int z, .int 1]) hp
      exact LcP.push hD (e2.trans (Exo.of e3)) (e3 _ _ hy) hl (by rw [List.length_map] at hi; omega) (ha.push (Mv.of ha.1 e3) ⟨p, rfl, SqT.of upd_same⟩ ⟨⟨by omega, Int.gcd_one_right _⟩, by omega, by omega⟩ (e3 _ _ hy) (dra_ne m1.2 hD))
    refine ⟨_, rfl, rfl, _, rfl, ite2 (fun _ => ?_) (fun _ => ?_)⟩
    · refine ⟨_, rfl, pt, rfl, ⟨_, SqL.of hp1⟩, fun D hD => ?_⟩
      refine lc_acc (l := some l) (wk_list (K := K) (fun z => npl (Option.some.inj z)) (SqL.of hp1)) hD (AccN K l) ⟨dra_upd m1.2 (dra_ne m1.2 hD), [], .nil, rfl, fun z h => absurd h List.not_mem_nil⟩ (fun i ys H H' e h => h.ex e) ?_ ?_
      · rintro i x H2 ys hi e2 hy hl ha hx
        refine ⟨rfl, ?_⟩
        exact ⟨_, rfl, by show (2 : Nat) ≤ sizeLine; omega, fun p hp => whole D hD i x H2 ys hi e2 hy hl ha hx p hp⟩
      · rintro H2 ys e2 hy ha
        rw [List.length_map, hpl] at ha
        exact ⟨D, _, rfl, .inl ⟨SqL.of hy, fin H1 H2 D ys m1 hD e2 hy ha⟩⟩
    · refine ⟨_, rfl, rfl, _, rfl, ite2 (fun _ => ?_) (fun _ => ?_)⟩
      · refine ⟨_, rfl, n, rfl, by omega, by omega, fun D hD => ?_⟩
        refine lc_acc (l := some l) wk_range hD (AccN K l) ⟨dra_upd m1.2 (dra_ne m1.2 hD), [], .nil, rfl, fun z h => absurd h List.not_mem_nil⟩ (fun i ys H H' e h => h.ex e) ?_ ?_
        · rintro i x H2 ys hi e2 hy hl ha rfl
          have nD := dra_ne m1.2 hD
          refine ⟨rfl, ?_⟩
          refine ⟨_, rfl, l, rfl, ha.1, fun H3 v a b m3 nv hn ha6 hb4 => ?_⟩
          have hy3 := m3.1 _ _ nD hy
          exact LcP.push hD (e2.trans m3.exo) hy3 hl (by omega) (ha.push m3 nv ⟨hn, ha6, hb4⟩ hy3 nD)
        · rintro H2 ys e2 hy ha
          exact ⟨D, _, rfl, .inl ⟨SqL.of hy, fin H1 H2 D ys m1 hD e2 hy ha⟩⟩
      · refine ⟨_, rfl, pt, rfl, ⟨_, SqL.of hp1⟩, fun D hD => ?_⟩
        refine lc_acc (l := some l) (wk_list (K := K) (fun z => npl (Option.some.inj z)) (SqL.of hp1)) hD (AccN K l) ⟨dra_upd m1.2 (dra_ne m1.2 hD), [], .nil, rfl, fun z h => absurd h List.not_mem_nil⟩ (fun i ys H H' e h => h.ex e) ?_ ?_
        · rintro i x H2 ys hi e2 hy hl ha hx
          refine ⟨rfl, ?_⟩
          exact ⟨_, rfl, by show (2 : Nat) ≤ sizeLine; omega, fun p hp => whole D hD i x H2 ys hi e2 hy hl ha hx p hp⟩
        · rintro H2 ys e2 hy ha
          rw [List.length_map, hpl] at ha
          have nD := dra_ne m1.2 hD
          refine ⟨_, rfl, l, rfl, ha.1, fun H3 v a b m3 nv hn ha6 hb4 => ?_⟩
          have hy3 := m3.1 _ _ nD hy
          refine ⟨_, rfl, _, rfl, l, rfl, m3.2, fun H4 k k0 k1 m4 => .inl ⟨_, rfl, _, rfl, _, _, rfl, rfl, by omega, ?_⟩⟩
          have hy4 := m4.1 _ _ nD hy3
          obtain ⟨hd2, ps, h1, h2, h3⟩ := ha
          have h0n : 0 ≤ k % (n : Int) := Int.emod_nonneg _ (by omega)
          have h1n : k % (n : Int) < n := Int.emod_lt_of_pos _ (by omega)
          refine ⟨D, ys, k % n, (k % (n : Int)).toNat, rfl, rfl, hy4, ?_, ?_⟩
          · unfold ixN
            rw [h1.1, h2, if_pos h0n, if_pos h1n]
          · have m04 := m3.trans m4
            have e2' : Exo (some l) H1 (upd H4 D (.lst (ys.set (k % (n : Int)).toNat v))) := exo_upd (e2.trans m04.exo) hD
            refine ⟨_, rfl, D, _, rfl, .inl ⟨SqL.of upd_same, fin H1 _ D _ m1 hD e2' upd_same ⟨dra_upd m4.2 nD, ps.set (k % (n : Int)).toNat (a, b), All2.set (h1.imp fun _ _ z => num_upd (mv_num hd2 m04 z) hy4) (num_upd (mv_num m3.2 m4 nv) hy4), by rw [List.length_set, h2], fun x hx => ?_⟩⟩⟩
            rcases List.mem_or_eq_of_mem_set hx with h | h
            · exact h3 x h
            · rw [h]
              exact ⟨hn, ha6, hb4⟩
/-! ### rows of cones and of joined lists -/
theorem dot_app {a b c d : List Int} (h : a.length = c.length) : dot (a ++ b) (c ++ d) = dot a c + dot b d := by
  unfold dot
  rw [List.zipWith_append h, List.sum_append]
theorem dot_zero : ∀ (n : Nat) (ys : List Int), dot (List.replicate n 0) ys = 0
  | 0, ys => by simp [dot]
  | n + 1, [] => by simp [dot]
  | n + 1, y :: ys => by
    have := dot_zero n ys
    unfold dot at this ⊢
    rw [List.replicate_succ, List.zipWith_cons_cons, List.sum_cons, this]
    simp
theorem dot_rep {n : Nat} {zs us : List Int} (h : us.length = n) : dot (List.replicate n 0 ++ zs) (us ++ vs) = dot zs vs := by
  rw [dot_app (by rw [List.length_replicate, h]), dot_zero, Int.zero_add]
def w0 (D : Int) (ps : List (Int × Int)) : List Int := ps.map fun x => x.1 * (D / x.2)
theorem wP_eq (ps : List (Int × Int)) : wP ps = w0 (pr ps) ps ++ [-(pr ps)] := rfl
theorem w0_len (D : Int) (ps : List (Int × Int)) : (w0 D ps).length = ps.length := by
  unfold w0
  rw [List.length_map]
theorem dot_wP {n : Nat} {zs : List Int} {ps : List (Int × Int)} (hz : zs.length = n + 1) (hp : ps.length = n) : dot zs (wP ps) = dot (zs.take n) (w0 (pr ps) ps) - zs.getD n 0 * pr ps := by
  have e := split_last hz
  generalize zs.getD n 0 = b at e ⊢
  have hl : (zs.take n).length = n := by rw [List.length_take]; omega
  generalize zs.take n = a at e hl ⊢
  subst e
  rw [wP_eq, dot_app (by rw [w0_len]; omega)]
  have : dot [b] [-(pr ps)] = -(b * pr ps) := by
    unfold dot
    simp [Int.mul_neg]
  rw [this]
  omega
theorem pr_app (ps rs : List (Int × Int)) : pr (ps ++ rs) = pr ps * pr rs := by
  induction ps with
  | nil => show pr rs = 1 * pr rs; rw [Int.one_mul]
  | cons x ps ih =>
    show x.2 * pr (ps ++ rs) = x.2 * pr ps * pr rs
    rw [ih, Int.mul_assoc]
theorem w0_mul {D : Int} {ps : List (Int × Int)} (c : Int) (h : ∀ x ∈ ps, x.2 ∣ D ∧ x.2 ≠ 0) : w0 (D * c) ps = (w0 D ps).map fun y => c * y := by
  unfold w0
  rw [List.map_map]
  refine List.map_congr_left fun x hx => ?_
  obtain ⟨⟨k, rfl⟩, h0⟩ := h x hx
  show x.1 * (x.2 * k * c / x.2) = c * (x.1 * (x.2 * k / x.2))
  rw [Int.mul_assoc, Int.mul_ediv_cancel_left _ h0, Int.mul_ediv_cancel_left _ h0]
  ac_rfl
theorem PtOk.dv {ps : List (Int × Int)} (h : PtOk ps) : ∀ x ∈ ps, x.2 ∣ pr ps ∧ x.2 ≠ 0 := fun x hx => ⟨pr_dvd x hx, by have := (h.2 x hx).1.1; omega⟩
theorem row_j1 {n m : Nat} {zs : List Int} {ps rs : List (Int × Int)} (hz : zs.length = n + 1) (hp : ps.length = n) (hr : rs.length = m) (h1 : PtOk ps) (h2 : PtOk rs) : sideC (j1 n m zs) (ps ++ rs) = sideC zs ps := by
  unfold sideC
  refine sgC_scale (C := 1) (D := pr rs) ?_ (by decide) h2.pos
  have hl : (zs.take n).length = n := by rw [List.length_take]; omega
  have e1 : wP (ps ++ rs) = (w0 (pr ps) ps).map (fun y => pr rs * y) ++ (w0 (pr ps * pr rs) rs ++ [-(pr ps * pr rs)]) := by
    rw [wP_eq, pr_app, ← w0_mul (pr rs) h1.dv, ← List.append_assoc]
    congr 1
    unfold w0
    rw [List.map_append]
  rw [e1]
  unfold j1
  rw [List.append_assoc, dot_app (by rw [List.length_map, w0_len]; omega), dot_rep (by rw [w0_len]; exact hr), dot_smul, drop_last hz, dot_wP hz hp]
  have : dot [zs.getD n 0] [-(pr ps * pr rs)] = -(zs.getD n 0 * (pr ps * pr rs)) := by
    unfold dot
    simp [Int.mul_neg]
  rw [this, Int.one_mul, Int.mul_sub, Int.sub_eq_add_neg]
  congr 2
  ac_rfl
theorem row_j2 {n m : Nat} {zs : List Int} {ps rs : List (Int × Int)} (hz : zs.length = m + 1) (hp : ps.length = n) (hr : rs.length = m) (h1 : PtOk ps) (h2 : PtOk rs) : sideC (j2 n zs) (ps ++ rs) = sideC zs rs := by
  unfold sideC
  refine sgC_scale (C := 1) (D := pr ps) ?_ (by decide) h1.pos
  have hl : (zs.take m).length = m := by rw [List.length_take]; omega
  have e1 : wP (ps ++ rs) = w0 (pr ps * pr rs) ps ++ ((w0 (pr rs) rs).map (fun y => pr ps * y) ++ [-(pr ps * pr rs)]) := by
    rw [wP_eq, pr_app, ← w0_mul (pr ps) h2.dv, Int.mul_comm (pr rs), ← List.append_assoc]
    congr 1
    unfold w0
    rw [List.map_append]
  rw [e1]
  unfold j2
  rw [dot_rep (by rw [w0_len]; exact hp), Int.one_mul]
  have e2 := split_last hz
  rw [dot_wP hz hr]
  generalize zs.getD m 0 = b at e2 ⊢
  generalize zs.take m = a at e2 hl ⊢
  subst e2
  rw [dot_app (by rw [List.length_map, w0_len]; omega), dot_smul]
  have : dot [b] [-(pr ps * pr rs)] = -(b * (pr ps * pr rs)) := by
    unfold dot
    simp [Int.mul_neg]
  rw [this, Int.mul_sub, Int.sub_eq_add_neg]
  congr 2
  ac_rfl
theorem row_join {n m : Nat} {zss yss : List (List Int)} {ps rs : List (Int × Int)} (hz : ∀ zs ∈ zss, zs.length = n + 1) (hy : ∀ zs ∈ yss, zs.length = m + 1) (hp : ps.length = n) (hr : rs.length = m) (h1 : PtOk ps) (h2 : PtOk rs) :
    rowC (joinL n m zss yss) (ps ++ rs) = rowC zss ps ++ rowC yss rs := by
  unfold rowC joinL
  rw [List.map_append, List.map_map, List.map_map]
  congr 1
  · exact List.map_congr_left fun zs h => row_j1 (hz zs h) hp hr h1 h2
  · exact List.map_congr_left fun zs h => row_j2 (hy zs h) hp hr h1 h2
/-! ### cones -/
def tx (t x : Int × Int) : Int × Int := nrm (t.1 * x.1) (t.2 * x.2)
def cpt (t : Int × Int) (ps : List (Int × Int)) : List (Int × Int) := ps.map (tx t) ++ [t]
theorem sgC_neg (x : Int) : sgC (-x) = turnC (sgC x) := by
  unfold sgC
  by_cases h0 : 0 < x
  · rw [if_neg (by omega), if_pos (by omega), if_pos h0]
    rfl
  · by_cases h1 : x < 0
    · rw [if_pos (by omega), if_neg h0, if_pos h1]
      rfl
    · rw [if_neg (by omega), if_neg (by omega), if_neg h0, if_neg h1]
      rfl
theorem cpt_ok {t : Int × Int} {ps : List (Int × Int)} (h : PtS ps) (h3 : ps.length ≤ 3) (ht : isN t.1 t.2) (h5 : t.1.natAbs ≤ 5) (hb : t.2 ≤ 3) : PtOk (cpt t ps) := by
  unfold cpt
  refine ⟨by rw [List.length_append, List.length_map]; show _ + 1 ≤ 4; omega, fun x hx => ?_⟩
  rcases List.mem_append.mp hx with hx | hx
  · obtain ⟨y, hy, rfl⟩ := List.mem_map.mp hx
    obtain ⟨y1, y2, y3⟩ := h.2 y hy
    have t1 := ht.1
    have yb := y1.1
    have h0 : t.2 * y.2 ≠ 0 := Int.mul_ne_zero (by omega) (by omega)
    have hle := nrm_le (a := t.1 * y.1) h0
    have hpos := nrm_pos (a := t.1 * y.1) h0
    have b1 : (t.1 * y.1).natAbs ≤ 5 * 6 := by rw [Int.natAbs_mul]; exact Nat.mul_le_mul h5 y2
    have b2 : (t.2 * y.2).natAbs ≤ 3 * 4 := by rw [Int.natAbs_mul]; exact Nat.mul_le_mul (by omega) (by omega)
    refine ⟨nrm_isN h0, ?_, ?_⟩
    · show (nrm (t.1 * y.1) (t.2 * y.2)).1.natAbs ≤ 30
      omega
    · show (nrm (t.1 * y.1) (t.2 * y.2)).2 ≤ 12
      omega
  · rw [List.mem_singleton.mp hx]
    exact ⟨ht, by omega, by omega⟩
theorem cone_dot {n : Nat} {t : Int × Int} {zs : List Int} {ps : List (Int × Int)} (hz : zs.length = n + 1) (hp : ps.length = n) (h : PtS ps) (ht : isN t.1 t.2) :
    (t.2 * pr ps) * dot (cnL n zs) (wP (cpt t ps)) = (pr (cpt t ps) * t.1) * dot zs (wP ps) := by
  have t1 := ht.1
  have hl : (zs.take n).length = n := by rw [List.length_take]; omega
  have hcl : (cpt t ps).length = n + 1 := by unfold cpt; rw [List.length_append, List.length_map, hp]; rfl
  have dvt : t.2 * (pr (cpt t ps) / t.2) = pr (cpt t ps) := pr_mul (by unfold cpt; simp)
  have dvx : ∀ x ∈ ps, (tx t x).2 * (pr (cpt t ps) / (tx t x).2) = pr (cpt t ps) := fun x hx => pr_mul (by unfold cpt; exact List.mem_append_left _ (List.mem_map.mpr ⟨x, hx, rfl⟩))
  have dvp : ∀ x ∈ ps, x.2 * (pr ps / x.2) = pr ps := fun x hx => pr_mul hx
  have ew : wP (cpt t ps) = w0 (pr (cpt t ps)) (ps.map (tx t)) ++ ([t.1 * (pr (cpt t ps) / t.2), -(pr (cpt t ps))]) := by
    rw [wP_eq]
    show w0 _ (ps.map (tx t) ++ [t]) ++ _ = _
    unfold w0
    rw [List.map_append, List.append_assoc]
    rfl
  rw [ew]
  generalize pr (cpt t ps) = Q at dvt dvx ⊢
  have key : (w0 Q (ps.map (tx t))).map (fun y => (t.2 * pr ps) * y) = (w0 (pr ps) ps).map (fun y => (Q * t.1) * y) := by
    unfold w0
    rw [List.map_map, List.map_map, List.map_map]
    refine List.map_congr_left fun x hx => ?_
    show t.2 * pr ps * ((tx t x).1 * (Q / (tx t x).2)) = Q * t.1 * (x.1 * (pr ps / x.2))
    have e1 := dvx x hx
    have e2 := dvp x hx
    have hx1 := (h.2 x hx).1.1
    have e3 := nrm_eq (p := t.1 * x.1) (show t.2 * x.2 ≠ 0 from Int.mul_ne_zero (by omega) (by omega))
    have e3 : (tx t x).1 * (t.2 * x.2) = (tx t x).2 * (t.1 * x.1) := e3
    generalize Q / (tx t x).2 = q at e1 ⊢
    generalize pr ps / x.2 = k at e2 ⊢
    calc t.2 * pr ps * ((tx t x).1 * q) = t.2 * (x.2 * k) * ((tx t x).1 * q) := by rw [e2]
      _ = ((tx t x).1 * (t.2 * x.2)) * (k * q) := by ac_rfl
      _ = ((tx t x).2 * (t.1 * x.1)) * (k * q) := by rw [e3]
      _ = ((tx t x).2 * q) * t.1 * (x.1 * k) := by ac_rfl
      _ = Q * t.1 * (x.1 * k) := by rw [e1]
  unfold cnL
  rw [dot_app (by rw [w0_len, List.length_map]; omega), dot_wP hz hp, Int.mul_add, ← dot_smul, key, dot_smul, Int.mul_sub]
  have e4 : dot [-(zs.getD n 0), 0] [t.1 * (Q / t.2), -Q] = -(zs.getD n 0 * (t.1 * (Q / t.2))) := by
    unfold dot
    simp [Int.neg_mul]
  rw [e4]
  generalize Q / t.2 = q at dvt ⊢
  rw [← dvt, Int.mul_neg, Int.sub_eq_add_neg]
  congr 2
  ac_rfl
theorem coneE_dot {n : Nat} {t : Int × Int} {ps : List (Int × Int)} (hp : ps.length = n) (ht : isN t.1 t.2) : t.2 * dot (cnE n) (wP (cpt t ps)) = pr (cpt t ps) * t.1 := by
  have dvt : t.2 * (pr (cpt t ps) / t.2) = pr (cpt t ps) := pr_mul (by unfold cpt; simp)
  have ew : wP (cpt t ps) = w0 (pr (cpt t ps)) (ps.map (tx t)) ++ ([t.1 * (pr (cpt t ps) / t.2), -(pr (cpt t ps))]) := by
    rw [wP_eq]
    show w0 _ (ps.map (tx t) ++ [t]) ++ _ = _
    unfold w0
    rw [List.map_append, List.append_assoc]
    rfl
  rw [ew]
  generalize pr (cpt t ps) = Q at dvt ⊢
  unfold cnE
  rw [dot_rep (by rw [w0_len, List.length_map]; exact hp)]
  have e4 : dot [1, 0] [t.1 * (Q / t.2), -Q] = t.1 * (Q / t.2) := by
    unfold dot
    simp
  rw [e4, Int.mul_left_comm, dvt, Int.mul_comm]
theorem row_cone {n : Nat} {t : Int × Int} {zss : List (List Int)} {ps : List (Int × Int)} (hz : ∀ zs ∈ zss, zs.length = n + 1) (hp : ps.length = n) (h : PtS ps) (h3 : n ≤ 3) (ht : isN t.1 t.2) (h5 : t.1.natAbs ≤ 5) (hb : t.2 ≤ 3) (h0 : 0 < t.1) :
    rowC (coneL n zss) (cpt t ps) = rowC zss ps ++ [43] := by
  have ok := cpt_ok h (by omega) ht h5 hb
  have t1 := ht.1
  have pp := h.ok.pos
  have pq := ok.pos
  unfold rowC coneL
  rw [List.map_append, List.map_map]
  congr 1
  · refine List.map_congr_left fun zs hzs => ?_
    have e := cone_dot (hz zs hzs) hp h ht
    exact sgC_scale e (by have := Int.mul_pos (show 0 < t.2 by omega) (show 0 < pr ps by omega); omega) (by have := Int.mul_pos (show 0 < pr (cpt t ps) by omega) h0; omega)
  · have e := coneE_dot (n := n) hp ht
    show [sgC (dot (cnE n) (wP (cpt t ps)))] = [43]
    have : sgC (dot (cnE n) (wP (cpt t ps))) = sgC t.1 := sgC_scale e t1 pq
    rw [this]
    unfold sgC
    rw [if_pos h0]
theorem row_coneN {n : Nat} {t : Int × Int} {zss : List (List Int)} {ps : List (Int × Int)} (hz : ∀ zs ∈ zss, zs.length = n + 1) (hp : ps.length = n) (h : PtS ps) (h3 : n ≤ 3) (ht : isN t.1 t.2) (h5 : t.1.natAbs ≤ 5) (hb : t.2 ≤ 3) (h0 : t.1 < 0) :
    rowC (coneL n zss) (cpt t ps) = (rowC zss ps ++ [43]).map turnC := by
  have ok := cpt_ok h (by omega) ht h5 hb
  have t1 := ht.1
  have pp := h.ok.pos
  have pq := ok.pos
  unfold rowC coneL
  rw [List.map_append, List.map_append, List.map_map, List.map_map]
  congr 1
  · refine List.map_congr_left fun zs hzs => ?_
    have e := cone_dot (hz zs hzs) hp h ht
    show sgC (dot (cnL n zs) (wP (cpt t ps))) = turnC (sgC (dot zs (wP ps)))
    rw [← sgC_neg]
    refine sgC_scale (C := t.2 * pr ps) (D := pr (cpt t ps) * -t.1) ?_ (by have := Int.mul_pos (show 0 < t.2 by omega) (show 0 < pr ps by omega); omega) (by have := Int.mul_pos (show 0 < pr (cpt t ps) by omega) (show 0 < -t.1 by omega); omega)
    rw [e, Int.mul_neg, Int.mul_neg, Int.neg_mul, Int.neg_neg]
  · have e := coneE_dot (n := n) hp ht
    show [sgC (dot (cnE n) (wP (cpt t ps)))] = [45]
    have : sgC (dot (cnE n) (wP (cpt t ps))) = sgC t.1 := sgC_scale e t1 pq
    rw [this]
    unfold sgC
    rw [if_neg (by omega), if_pos h0]
/-! ### cones are central -/
theorem prim_zero {zs : List Int} {k : Nat} (h : zs.getD k 0 = 0) : (prim zs).getD k 0 = 0 := by
  unfold prim
  split
  · rw [List.getD_eq_getElem?_getD, List.getElem?_map]
    rw [List.getD_eq_getElem?_getD] at h
    cases e : zs[k]? with
    | none => rfl
    | some z =>
      rw [e] at h
      have : z = 0 := h
      subst this
      show (0 : Int).fdiv ((gl zs : Nat) : Int) = 0
      exact Int.zero_fdiv _
  · exact h
theorem strk_zero {xs ys : List Int} {p k : Nat} (hx : xs.getD k 0 = 0) (hy : ys.getD k 0 = 0) : (strk xs ys p).getD k 0 = 0 := by
  unfold strk
  split
  · exact hx
  · refine prim_zero ?_
    rw [List.getD_eq_getElem?_getD, List.getElem?_zipWith]
    rw [List.getD_eq_getElem?_getD] at hx hy
    cases e : xs[k]? with
    | none => rfl
    | some a =>
      cases e2 : ys[k]? with
      | none => rfl
      | some b =>
        rw [e] at hx
        rw [e2] at hy
        have ha : a = 0 := hx
        have hb : b = 0 := hy
        subst ha hb
        show _ * (0 : Int) - _ * (0 : Int) = 0
        rw [Int.mul_zero, Int.mul_zero]
        rfl
theorem ech_zero {w : Nat} {zss : List (List Int)} (h : ∀ zs ∈ zss, zs.getD w 0 = 0) : ∀ i, i ≤ w → (∀ x ∈ (echN zss i).1, x.1 < w ∧ x.2.getD w 0 = 0) ∧ ∀ x ∈ (echN zss i).2, x.getD w 0 = 0
  | 0, _ => ⟨fun x hx => absurd hx List.not_mem_nil, fun x hx => by
      obtain ⟨y, hy, rfl⟩ := List.mem_map.mp hx
      exact prim_zero (h y hy)⟩
  | i + 1, hi => by
    obtain ⟨h1, h2⟩ := ech_zero h i (by omega)
    show (∀ x ∈ (eStep i (echN zss i)).1, _) ∧ ∀ x ∈ (eStep i (echN zss i)).2, _
    cases hf : (echN zss i).2.findIdx? (fz i) with
    | none =>
      rw [eStep_none hf]
      exact ⟨h1, h2⟩
    | some j =>
      rw [eStep_some hf]
      have hj : j < (echN zss i).2.length := (List.findIdx?_eq_some_iff_getElem.mp hf).1
      have hm : (echN zss i).2.getD j [] ∈ (echN zss i).2 := by
        rw [List.getD_eq_getElem?_getD, List.getElem?_eq_getElem hj]
        exact List.getElem_mem hj
      have hb := h2 _ hm
      refine ⟨fun x hx => ?_, fun x hx => ?_⟩
      · rcases List.mem_append.mp hx with hx | hx
        · obtain ⟨y, hy, rfl⟩ := List.mem_map.mp hx
          exact ⟨(h1 y hy).1, strk_zero (h1 y hy).2 hb⟩
        · rw [List.mem_singleton.mp hx]
          exact ⟨by show i < w; omega, hb⟩
      · obtain ⟨y, hy, rfl⟩ := List.mem_map.mp hx
        exact strk_zero (h2 y (List.mem_of_mem_eraseIdx hy)) hb
theorem cone_central {n : Nat} {zss : List (List Int)} (h : ∀ zs ∈ zss, zs.length = n + 1) : cenL (n + 1) (coneL n zss) = true := by
  have hz : ∀ zs ∈ coneL n zss, zs.getD (n + 1) 0 = 0 := by
    intro zs hzs
    rcases List.mem_append.mp hzs with hx | hx
    · obtain ⟨y, hy, rfl⟩ := List.mem_map.mp hx
      have hl : (y.take n).length = n := by rw [List.length_take]; have := h y hy; omega
      unfold cnL
      rw [List.getD_eq_getElem?_getD, List.getElem?_append_right (by omega), hl, show n + 1 - n = 1 by omega]
      rfl
    · rw [List.mem_singleton.mp hx]
      unfold cnE
      rw [List.getD_eq_getElem?_getD, List.getElem?_append_right (by rw [List.length_replicate]; omega), List.length_replicate, show n + 1 - n = 1 by omega]
      rfl
  obtain ⟨h1, h2⟩ := ech_zero hz (n + 1) (Nat.le_refl _)
  have hn : (echN (coneL n zss) (n + 1)).2.findIdx? (fz (n + 1)) = none := by
    rw [List.findIdx?_eq_none_iff]
    intro x hx
    unfold fz
    rw [h2 x hx]
    rfl
  unfold cenL
  show (eStep (n + 1) (echN (coneL n zss) (n + 1))).1.all _ = true
  rw [eStep_none hn, List.all_eq_true]
  intro x hx
  have := (h1 x hx).1
  exact decide_eq_true (by omega)
/-! ### what is told of cones and joined lists -/
def tB : Str := "![1, 0]"
def tT : Str := "![0, 1]"
def Told0 (K : PySem.W.Frag) (C : Addr) (H : Hp) (x : V) (Q : VK) : Prop := ∃ (a r : Addr) (n : Nat) (zss : List (List Int)), x = .ref a ∧ PlsAt K C H a r n zss ∧ (n = 4 → ∀ H', Ex H H' → Q (.str tB) H') ∧ (n ≠ 4 → zss.length = 12 → ∀ H', Ex H H' → Q (.str tT) H') ∧
  (n ≠ 4 → zss.length < 12 → ∀ H' a' r', Ex H H' → H r' = none → PlsAt K C H' a' r' (n + 1) (coneL n zss) → Q (.ref a') H')
def Told1 (K : PySem.W.Frag) (C : Addr) (H : Hp) (x y : V) (Q : VK) : Prop := ∃ (a r : Addr) (n : Nat) (zss : List (List Int)) (b s : Addr) (m : Nat) (yss : List (List Int)), x = .ref a ∧ y = .ref b ∧ PlsAt K C H a r n zss ∧ PlsAt K C H b s m yss ∧ (4 < n + m → ∀ H', Ex H H' → Q (.str tB) H') ∧
  (n + m ≤ 4 → 12 < zss.length + yss.length → ∀ H', Ex H H' → Q (.str tT) H') ∧
  (n + m ≤ 4 → zss.length + yss.length ≤ 12 → ∀ H' a' r', Ex H H' → H r' = none → PlsAt K C H' a' r' (n + m) (joinL n m zss yss) → Q (.ref a') H')
def sp__law_told (K : PySem.W.Frag) (C : Addr) : Sp := fun vs H Q _ => ∃ (way : Int) (x y : V), vs = [.int way, x, y] ∧ ((way = 0 ∧ Told0 K C H x Q) ∨ (way = 1 ∧ Told1 K C H x y Q))
def tSuite (K : PySem.W.Frag) (ad : Nat → Addr) : Addr → Value → Option Addr → TS := fun a cls d =>
  tRet (tOp (fun x y H Q => ∃ i j, x = V.str i ∧ y = V.str j ∧ i.length + j.length ≤ sizeLine ∧ Q (V.str (i ++ j)) H) (tC (V.str (Str.ofString "!")))
    (tCB (fun vs H Q => ∃ a d, vs = [V.ref a] ∧ Dp K H (V.ref a) d ∧ Show1 d ∧ Q (V.str d.shown) H)
      (tCons (tLst
        (tCons (tCB (fun xs H Q => (∃ i, xs = [V.int i] ∧ Q (V.int i) H) ∨ ∃ k, xs = [V.bl k] ∧ Q (V.int (if k = true then 1 else 0)) H) (tCons (tCB (rIsX K a cls d) (tCons (tVar 3) (tCons (tC (V.ref (ad 8))) tNil))) tNil))
        (tCons (tCB (fun xs H Q => (∃ i, xs = [V.int i] ∧ Q (V.int i) H) ∨ ∃ k, xs = [V.bl k] ∧ Q (V.int (if k = true then 1 else 0)) H) (tCons (tCB (rIsX K a cls d) (tCons (tVar 3) (tCons (tC (V.ref (ad 9))) tNil))) tNil)) tNil)))
        tNil)))
def b2 (k : Bool) : Int := if k = true then 1 else 0
def errText (x y : Bool) : Str := Str.ofString "!" ++ (PyData.list [.int (b2 x), .int (b2 y)]).shown
theorem show_bb : ∀ x y : Bool, Show1 (PyData.list [.int (b2 x), .int (b2 y)]) := by
  intro x y
  cases x <;> cases y <;> exact ⟨by decide +kernel, by decide +kernel, by decide +kernel, by decide +kernel⟩
theorem err_len : ∀ x y : Bool, (Str.ofString "!").length + ((PyData.list [.int (b2 x), .int (b2 y)]).shown).length ≤ sizeLine := by
  intro x y
  cases x <;> cases y <;> decide +kernel
theorem told_suite {c0 C : Addr} {bB bN : Bool} {Q : VK} {n : L2.St → Hp → Prop} {o1 o2 o3 : Option V} {H1 : Hp} (xm : PySem.W.exmOne K (.ref C) (.ref c0) = some true) (c : ExcC K C)
    (kB : PySem.W.kitOne K (.ref C) (.ref (ad 8)) = some bB) (kN : PySem.W.kitOne K (.ref C) (.ref (ad 9)) = some bN)
    (q : ∀ H', Ex H1 H' → Q (.str (errText bB bN)) H') : wAs K (.ref c0) 3 (tSuite K ad) (fun _ _ _ _ => False) { nx := n, rt := Q } (.ref C) none [o1, o2, o3, none] H1 := by
  refine ⟨true, xm, fun _ a ha => ?_, fun z => nomatch z⟩
  refine ⟨.ref a, rfl, .inr ⟨C, rfl, rfl, c, .ref (ad 8), _, bB, rfl, fun u h => h, kB, .inr ⟨bB, rfl, ?_⟩⟩⟩
  refine ⟨.ref a, rfl, .inr ⟨C, rfl, rfl, c, .ref (ad 9), _, bN, rfl, fun u h => h, kN, .inr ⟨bN, rfl, ?_⟩⟩⟩
  refine ⟨(by show (2 : Nat) ≤ sizeLine; decide), fun p hp => ?_⟩
  refine ⟨p, _, rfl, .lst (SqL.of upd_same) (.cons (.int (b2 bB)) (.cons (.int (b2 bN)) .nil)), show_bb bB bN, _, _, rfl, rfl, err_len bB bN, q _ (Ex.new hp)⟩
theorem errT_B : errText true false = tB := by decide +kernel
theorem errT_T : errText false true = tT := by decide +kernel
theorem suite_B (T : Txt K w mg ad fd) {Q : VK} {n : L2.St → Hp → Prop} {o1 o2 o3 : Option V} {H1 : Hp} (q : ∀ H', Ex H1 H' → Q (.str tB) H') : wAs K (.ref (ad 3)) 3 (tSuite K ad) (fun _ _ _ _ => False) { nx := n, rt := Q } (.ref (ad 8)) none [o1, o2, o3, none] H1 :=
  told_suite T.e_BadNumber_PlaneError T.c_BadNumber T.i_BadNumber_BadNumber T.i_BadNumber_TooLarge (by rw [errT_B]; exact q)
theorem suite_T (T : Txt K w mg ad fd) {Q : VK} {n : L2.St → Hp → Prop} {o1 o2 o3 : Option V} {H1 : Hp} (q : ∀ H', Ex H1 H' → Q (.str tT) H') : wAs K (.ref (ad 3)) 3 (tSuite K ad) (fun _ _ _ _ => False) { nx := n, rt := Q } (.ref (ad 9)) none [o1, o2, o3, none] H1 :=
  told_suite T.e_TooLarge_PlaneError T.c_TooLarge T.i_TooLarge_BadNumber T.i_TooLarge_TooLarge (by rw [errT_T]; exact q)
theorem ok__law_told (T : Txt K w mg ad fd) : CalG P w K mg base CX0 7 "_law_told" (ad 60) (fd 60) ["way", "one", "other"] (sp__law_told K (ad 33)) := by
  refine ⟨T.f__law_told.okGn sc__law_told (fun vs H Q E h => ?_) (fun cdv A outer s H vs Q E gd hr h => ?_), T.g__law_told, T.f__law_told.kp, T.f__law_told.binds (ps := ["way", "one", "other"]) fun _ _ _ _ _ _ us hl => match us, hl with | [_, _, _], _ => rfl⟩
  · obtain ⟨way, x, y, rfl, _⟩ := h
    rfl
  · obtain ⟨way, x, y, rfl, h⟩ := h
    have hu := hr.units
    refine ⟨_, (pss_one (L2N.ps_try_as (i := 3) rfl rfl sc__law_told.nd rfl rfl ⟨rfl, by decide, Or.inl T.g_PlaneError⟩ takes0N
    (fun W pn xe tk hp => (pss_cons (ps_if (pt_cmpR op_eq (pv 0) pe_int (nomark _)) (pss_one (ps_ret (pe_calS (ok_coned T (P := P) (w := w) (base := base)) (hr.mono (by decide)) (fun σ => L2N.passAt tk σ) (pa_cons (pv 1) pa_nil)))) pss_nil)
    (pss_one (ps_ret (pe_calS (ok_joined T (P := P) (w := w) (base := base)) (hr.mono (by decide)) (fun σ => L2N.passAt tk σ) (pa_cons (pv 1) (pa_cons (pv 2) pa_nil)))))))
    (fun a oe cls d pn hz hf => by exact (pss_one (ps_ret (pe_op op_add_str pe_str (pe_strD (K := K) gd hu T.m_str (pa_cons (pe_lst (pa_cons (pe_callTy (T := "int") call_int1 (by rfl) T.m_int (by decide +kernel) (pa_cons (pe_callB (call_isX (K := K) (L2N.Zn.zc hz) hf) (by rfl) T.m_isinstance (by decide +kernel) (pa_cons (pv 3) (pa_cons (pe_globR (f := ad 8) T.g_BadNumber) pa_nil))) pa_nil)) (pa_cons (pe_callTy (T := "int") call_int1 (by rfl) T.m_int (by decide +kernel) (pa_cons (pe_callB (call_isX (K := K) (L2N.Zn.zc hz) hf) (by rfl) T.m_isinstance (by decide +kernel) (pa_cons (pv 3) (pa_cons (pe_globR (f := ad 9) T.g_TooLarge) pa_nil))) pa_nil)) pa_nil))) pa_nil)))))))), ?_⟩
    rcases h with ⟨rfl, a, r, n, zss, rfl, hpl, q1, q2, q3⟩ | ⟨rfl, a, r, n, zss, b, s', m, yss, rfl, rfl, hpl, hpl2, q1, q2, q3⟩
    · refine ⟨_, rfl, rfl, _, rfl, ?_⟩
      rw [decide_eq_true rfl]
      refine iteT ⟨_, rfl, a, r, n, zss, rfl, hpl, fun hn H1 e1 => ?_, fun hn hl H1 e1 => ?_, fun hn hl H1 a' r' e1 hr' h => q3 hn hl H1 a' r' e1 hr' h⟩
      · exact suite_B T fun H2 e2 => q1 hn H2 (e1.trans e2)
      · exact suite_T T fun H2 e2 => q2 hn hl H2 (e1.trans e2)
    · refine ⟨_, rfl, rfl, _, rfl, ?_⟩
      rw [decide_eq_false (show ¬ V.int 1 = V.int 0 from fun e => absurd (V.int.inj e) (by decide))]
      refine iteF ⟨_, rfl, _, rfl, a, r, n, zss, b, s', m, yss, rfl, hpl, hpl2, fun hn H1 e1 => ?_, fun hn hl H1 e1 => ?_, fun hn hl H1 a' r' e1 hr' h => q3 hn hl H1 a' r' e1 hr' h⟩
      · exact suite_B T fun H2 e2 => q1 hn H2 (e1.trans e2)
      · exact suite_T T fun H2 e2 => q2 hn hl H2 (e1.trans e2)
/-! ### rows as texts -/
theorem sgC_mem (a : Int) : sgC a ∈ [43, 45, 48] := by
  unfold sgC
  split
  · simp
  · split <;> simp
theorem rowC_ok (zss : List (List Int)) (ps : List (Int × Int)) : rowOk zss.length (strC (rowC zss ps)) := by
  refine ⟨?_, fun c hc => ?_⟩
  · show ((rowC zss ps).toArray).size = _
    rw [List.size_toArray]
    unfold rowC
    rw [List.length_map]
  · have hc : c ∈ ((rowC zss ps).toArray).toList := hc
    rw [List.toList_toArray] at hc
    obtain ⟨zs, _, rfl⟩ := List.mem_map.mp hc
    exact sgC_mem _
theorem app_strC (as bs : List Nat) : strC as ++ strC bs = strC (as ++ bs) := by
  show (⟨as.toArray ++ bs.toArray⟩ : Str) = ⟨(as ++ bs).toArray⟩
  congr 1
  simp
/-! ### the law's cone -/
def sp__law_cone (K : PySem.W.Frag) : Sp := fun vs H Q _ => ∃ (l f : Addr) (n : Nat) (v : V) (us : List V) (zss : List (List Int)) (ps : List (Int × Int)), vs = [.ref l, .int n, .ref f, v] ∧ DrA l H ∧ f ≠ l ∧ 1 ≤ n ∧ n ≤ 4 ∧ H f = some (.lst us) ∧ All2 (PlV K H) us zss ∧ PlanesOk n zss ∧ zss.length ≤ 11 ∧ PtV K H v ps ∧ PtS ps ∧ ps.length = n ∧
  ∀ H', Mv l H H' → Q (.bl true) H'
theorem mv_pt {K : PySem.W.Frag} {l : Addr} {H H' : Hp} {v : V} {ps : List (Int × Int)} (d : DrA l H) (m : Mv l H H') (h : PtV K H v ps) : PtV K H' v ps := by
  obtain ⟨p, vs, h1, h2, h3⟩ := h
  exact ⟨p, vs, h1, mv_t d m h2, h3.imp fun _ _ z => mv_num d m z⟩
theorem PlsAt.mv {K : PySem.W.Frag} {C l : Addr} {H H' : Hp} {a r : Addr} {n : Nat} {zss : List (List Int)} (d : DrA l H) (m : Mv l H H') (nr : r ≠ l) (h : PlsAt K C H a r n zss) : PlsAt K C H' a r n zss := by
  obtain ⟨⟨dx, h1⟩, ⟨us, h2, h3⟩, a1, a4, ok⟩ := h
  obtain ⟨ds, hl, _⟩ := id d
  exact ⟨⟨dx, m.1 _ _ (ne_of h1 hl (fun z => nomatch z)) h1⟩, ⟨us, m.1 _ _ nr h2, h3.imp fun _ _ z => mv_plv d m z⟩, a1, a4, ok⟩
theorem make_plG {K : PySem.W.Frag} {C : Addr} {H : Hp} {l : Addr} {us : List V} {n : Nat} {zss : List (List Int)} {G : Hp → Prop} {x dx : Addr} (n1 : 1 ≤ n) (n4 : n ≤ 4) (hl : SqL K H l us) (hz : All2 (PlV K H) us zss) (hok : PlanesOk n zss)
    (hx : H x = none) (hdx : H dx = none) (hxy : dx ≠ x) (q : ∀ H' r, Ex H H' → H r = none → PlsAt K C H' x r n zss → G H') :
    sp_Planes_init K C [V.ref x, V.int (n : Nat), V.ref l] (upd (upd H dx (.own x)) x (.ins C dx [])) (fun v H2 => v = .non ∧ G H2) E0 := by
  have e5 : Ex H (upd (upd H dx (.own x)) x (.ins C dx [])) := (Ex.new hdx).trans (Ex.new (by rw [upd_ne (Ne.symm hxy)]; exact hx))
  refine ⟨x, dx, n, l, us, zss, rfl, upd_same, n1, n4, ex_l e5 hl, hz.imp fun _ _ h => h.mono e5, hok, fun H6 r' k6 hr6 hp6 => ⟨rfl, q H6 r' (fun b o hb => ?_) (none_ex e5 hr6) hp6⟩⟩
  exact k6 b o (ne_of_none hb hx) (e5 _ _ hb)
theorem cat_pt {K : PySem.W.Frag} {H : Hp} {u v : V} {ps rs : List (Int × Int)} {Q : VK} (hu : PtV K H u ps) (hv : PtV K H v rs) (hl : ps.length + rs.length ≤ 2000) (q : ∀ H' z, Ex H H' → PtV K H' z (ps ++ rs) → Q z H') : rCatA K u v H Q := by
  obtain ⟨a, xs, rfl, ha, hxs⟩ := hu
  obtain ⟨b, ys, rfl, hb, hys⟩ := hv
  have sz : sizeLine = 16777216 := sizeLine_eq
  refine ⟨a, b, _, _, rfl, rfl, ha, hb, by rw [hxs.1, hys.1]; omega, fun h => ?_, fun _ h => ?_, fun _ _ p hp => ?_⟩
  · subst h
    have : ps = [] := List.eq_nil_of_length_eq_zero hxs.1.symm
    subst this
    exact q H _ (Ex.refl _) ⟨b, ys, rfl, hb, hys⟩
  · subst h
    have : rs = [] := List.eq_nil_of_length_eq_zero hys.1.symm
    subst this
    rw [List.append_nil] at q
    exact q H _ (Ex.refl _) ⟨a, xs, rfl, ha, hxs⟩
  · exact q _ _ (Ex.new hp) ⟨p, xs ++ ys, rfl, SqT.of upd_same, (hxs.imp fun _ _ n => n.mono (Ex.new hp)).app (hys.imp fun _ _ n => n.mono (Ex.new hp))⟩
theorem isN_neg {a b : Int} (h : isN a b) : isN (0 - a) b := by
  refine ⟨h.1, ?_⟩
  rw [show 0 - a = -a by omega, Int.neg_gcd]
  exact h.2
theorem eqv_tups (zss : List (List Int)) : SeqAt.shaped (.list (zss.map tupD)) = true ∧ PyData.eqv (.list (zss.map tupD)) (.list (zss.map tupD)) = true := by
  refine ⟨shaped_tups zss, SeqAt.eqv_refl _ ?_⟩
  rw [PyData.canLay0]
  exact canLay_tups zss
theorem ok__law_cone (T : Txt K w mg ad fd) : CalG P w K mg base CX0 8 "_law_cone" (ad 61) (fd 61) ["draws", "n", "rows", "point"] (sp__law_cone K) := by
  refine ⟨T.f__law_cone.okGn sc__law_cone (fun vs H Q E h => ?_) (fun cdv A outer s H vs Q E gd hr h => ?_), T.g__law_cone, T.f__law_cone.kp, T.f__law_cone.binds (ps := ["draws", "n", "rows", "point"]) fun _ _ _ _ _ _ us hl => match us, hl with | [_, _, _, _], _ => rfl⟩
  · obtain ⟨l, f, n, v, us, zss, ps, rfl, _⟩ := h
    rfl
  · obtain ⟨l, f, n, v, us, zss, ps, rfl, hd, nf, n1, n4, hf, hz, hok, hz6, hpt, hps, hpn, q⟩ := h
    have hu := hr.units
    have sz : sizeLine = 16777216 := sizeLine_eq
    have heq : ∀ i j : Nat, decide (V.int (i : Nat) = V.int (j : Nat)) = decide (i = j) := fun i j => by
      by_cases h : i = j
      · rw [h, decide_eq_true rfl, decide_eq_true rfl]
      · rw [decide_eq_false h, decide_eq_false (fun e => h (by have := V.int.inj e; omega))]
    refine ⟨_, (pss_cons (ps_set (i := 4) sc__law_cone.nd rfl (by first | exact Or.inl rfl | exact Or.inr rfl) (pe_calG (ok__law_told T (P := P) (w := w) (base := base)) gd (hr.mono (by decide)) (pa_cons pe_int (pa_cons (pe_make T.mk_Planes (ok_Planes_init T (P := P) (w := w) (base := base)).ok (hr.mono (by decide)) rfl T.g_Planes (ok_Planes_init T (P := P) (w := w) (base := base)).b .nil pass0 (pa_cons (pv 1) (pa_cons (pv 2) pa_nil))) (pa_cons pe_int pa_nil)))))
    (pss_cons (ps_if (pt_cmpR op_eq (pv 1) pe_int (nomark _)) (pss_one (ps_ret (pe_cmpR op_eq (pv 4) pe_str (nomark _)))) pss_nil)
    (pss_cons (ps_set (i := 5) sc__law_cone.nd rfl (by first | exact Or.inl rfl | exact Or.inr rfl) (pe_op op_cat (pe_lc (own := [("row", 6)]) rfl sc__law_cone.nd (pi_list (pv 2)) (blkOk_by (N := ["draws", "n", "rows", "point", "told", "due", "row", "t", "less", "here", "x", "there"]) (sc := defScope s__law_cone) (by decide +kernel)) (fun _ _ _ _ _ => (pg_name (i := 6) sc__law_cone.nd rfl (by first | exact Or.inl rfl | exact Or.inr rfl))) (fun _ _ _ _ _ => pts_nil) (fun _ _ _ _ _ => (pe_op (op_catK (K := K)) (pe_slice (sl_tupK (K := K)) (pv 6) po_none (po_some (pv 1))) (pe_tup (pa_cons (pe_op op_sub pe_int (pe_ix (ix_tupK (K := K)) (pv 6) (pv 1) (fun _ _ => rfl))) (pa_cons pe_int pa_nil)))))) (pe_lst (pa_cons (pe_op (op_catK (K := K)) (pe_op (op_repA (K := K)) (pe_tup (pa_cons pe_int pa_nil)) (pv 1)) (pe_tup (pa_cons pe_int (pa_cons pe_int pa_nil)))) pa_nil))))
    (pss_cons (ps_if (L2.PW.pt (pw_or (pt_val (pe_callB call_isi (by rfl) T.m_isinstance (by decide +kernel) (pa_cons (pv 4) (pa_cons (pe_bltn (by rfl) T.m_str (v := .ty "str") (u := .type "str") rfl rfl) pa_nil)))) (pw_or (pt_cmpR op_ne (pe_fldK (K := K) (pv 4) rfl) (pe_op op_add (pv 1) pe_int) (nomark _)) (pw_or (pt_cmpR (op_neD hu) (pe_meth0 (pv 4) T.cl_Planes T.me_Planes_planes (ok_Planes_planes T (P := P) (w := w) (base := base)).ok (hr.mono (by decide)) (ok_Planes_planes T (P := P) (w := w) (base := base)).b .nil pass0) (pv 5) (nomark _)) (pw_or1 (pt_cmpR op_notBl (pe_meth0 (pv 4) T.cl_Planes T.me_Planes_is_central (ok_Planes_is_central T (P := P) (w := w) (base := base)).ok (hr.mono (by decide)) (ok_Planes_is_central T (P := P) (w := w) (base := base)).b .nil pass0) pe_bl (nomark _))))))) (pss_one (ps_ret pe_bl)) pss_nil)
    (pss_cons (ps_set (i := 7) sc__law_cone.nd rfl (by first | exact Or.inl rfl | exact Or.inr rfl) (pe_tup (pa_cons (pe_op op_add pe_int (pe_op op_mod (pe_callTy (T := "int") call_int1 (by rfl) T.m_int (by decide +kernel) (pa_cons (pe_cal (ok__law_next T (P := P) (w := w) (base := base)) (hr.mono (by decide)) pass0 (pa_cons (pv 0) pa_nil)) pa_nil)) pe_int)) (pa_cons (pe_op op_add pe_int (pe_op op_mod (pe_callTy (T := "int") call_int1 (by rfl) T.m_int (by decide +kernel) (pa_cons (pe_cal (ok__law_next T (P := P) (w := w) (base := base)) (hr.mono (by decide)) pass0 (pa_cons (pv 0) pa_nil)) pa_nil)) pe_int)) pa_nil))))
    (pss_cons (ps_set (i := 7) sc__law_cone.nd rfl (by first | exact Or.inl rfl | exact Or.inr rfl) (pe_cal (ok__law_lowest T (P := P) (w := w) (base := base)) (hr.mono (by decide)) pass0 (pa_cons (pe_ix (ix_tupK (K := K)) (pv 7) pe_int (fun _ _ => rfl)) (pa_cons (pe_ix (ix_tupK (K := K)) (pv 7) pe_int (fun _ _ => rfl)) pa_nil))))
    (pss_cons (ps_set (i := 8) sc__law_cone.nd rfl (by first | exact Or.inl rfl | exact Or.inr rfl) (pe_tup (pa_cons (pe_op op_sub pe_int (pe_ix (ix_tupK (K := K)) (pv 7) pe_int (fun _ _ => rfl))) (pa_cons (pe_ix (ix_tupK (K := K)) (pv 7) pe_int (fun _ _ => rfl)) pa_nil))))
    (pss_cons (ps_set (i := 9) sc__law_cone.nd rfl (by first | exact Or.inl rfl | exact Or.inr rfl) (pe_cal (ok_row_of T (P := P) (w := w) (base := base)) (hr.mono (by decide)) passLN (pa_cons (pv 4) (pa_cons (pe_op (op_catK (K := K)) (pe_callTy (T := "tuple") call_tuple_of (by rfl) T.m_tuple (by decide +kernel) (pa_cons (pe_lc (own := [("x", 10)]) rfl sc__law_cone.nd (pi_tup (pv 3)) (blkOk_by (N := ["draws", "n", "rows", "point", "told", "due", "row", "t", "less", "here", "x", "there"]) (sc := defScope s__law_cone) (by decide +kernel)) (fun _ _ _ _ _ => (pg_name (i := 10) sc__law_cone.nd rfl (by first | exact Or.inl rfl | exact Or.inr rfl))) (fun _ _ _ _ _ => pts_nil) (fun _ _ _ _ _ => (pe_cal (ok__law_times T (P := P) (w := w) (base := base)) (hr.mono (by decide)) pass0 (pa_cons (pv 7) (pa_cons (pv 10) pa_nil))))) pa_nil)) (pe_tup (pa_cons (pv 7) pa_nil))) pa_nil))))
    (pss_cons (ps_set (i := 11) sc__law_cone.nd rfl (by first | exact Or.inl rfl | exact Or.inr rfl) (pe_cal (ok_row_of T (P := P) (w := w) (base := base)) (hr.mono (by decide)) passLN (pa_cons (pv 4) (pa_cons (pe_op (op_catK (K := K)) (pe_callTy (T := "tuple") call_tuple_of (by rfl) T.m_tuple (by decide +kernel) (pa_cons (pe_lc (own := [("x", 10)]) rfl sc__law_cone.nd (pi_tup (pv 3)) (blkOk_by (N := ["draws", "n", "rows", "point", "told", "due", "row", "t", "less", "here", "x", "there"]) (sc := defScope s__law_cone) (by decide +kernel)) (fun _ _ _ _ _ => (pg_name (i := 10) sc__law_cone.nd rfl (by first | exact Or.inl rfl | exact Or.inr rfl))) (fun _ _ _ _ _ => pts_nil) (fun _ _ _ _ _ => (pe_cal (ok__law_times T (P := P) (w := w) (base := base)) (hr.mono (by decide)) pass0 (pa_cons (pv 8) (pa_cons (pv 10) pa_nil))))) pa_nil)) (pe_tup (pa_cons (pv 8) pa_nil))) pa_nil))))
    (pss_one (ps_ret (pe_and (pe_cmpR op_eq (pv 9) (pe_op op_add_str (pe_cal (ok__law_row T (P := P) (w := w) (base := base)) (hr.mono (by decide)) pass0 (pa_cons (pv 2) (pa_cons (pv 3) pa_nil))) pe_str) (nomark _)) (pe_one (pe_cmpR op_eq (pv 11) (pe_cal (ok_opposite T (P := P) (w := w) (base := base)) (hr.mono (by decide)) passLN (pa_cons (pv 4) (pa_cons (pv 9) pa_nil))) (nomark _))))))))))))))), ?_⟩
    refine ⟨_, rfl, _, rfl, fun x dx hx hdx hxy => ?_⟩
    refine make_plG n1 n4 (SqL.of hf) hz hok hx hdx hxy ?_
    intro H2 r e2 hr2 hpl
    refine ⟨0, _, _, rfl, .inl ⟨rfl, x, r, n, zss, rfl, hpl, fun h4 H3 e3 => ?_, fun _ hl => absurd hl (by omega), fun h4 _ H3 a' r' e3 hr3 hpl3 => ?_⟩⟩
    · refine ⟨_, rfl, rfl, _, rfl, ?_⟩
      rw [show decide (V.int ((n : Nat) : Int) = V.int 4) = decide (n = 4) from heq n 4, decide_eq_true h4]
      refine iteT ⟨_, rfl, rfl, ?_⟩
      show Q (V.bl (decide (V.str tB = V.str (Str.ofString "![1, 0]")))) H3
      rw [show decide (V.str tB = V.str (Str.ofString "![1, 0]")) = true from decide_eq_true rfl]
      exact q _ (Mv.of hd (e2.trans e3))
    · refine ⟨_, rfl, rfl, _, rfl, ?_⟩
      rw [show decide (V.int ((n : Nat) : Int) = V.int 4) = decide (n = 4) from heq n 4, decide_eq_false h4]
      refine iteF ?_
      have e03 := e2.trans e3
      have hf3 := e03 _ _ hf
      have hz3 := hz.imp fun _ _ h => h.mono e03
      refine ⟨.ref f, rfl, f, rfl, ⟨_, SqL.of hf3⟩, fun D hD => ?_⟩
      refine lc_acc (l := none) (wk_list (K := K) (fun z => nomatch z) (SqL.of hf3)) hD (fun i acc H' => All2 (PlV K H') acc ((zss.map (cnL n)).take i)) .nil (fun _ _ _ _ e h => h.imp fun _ _ h => h.mono e) ?_ ?_
      · rintro i x H4 acc hi e4 hy hl' ha' hx
        obtain ⟨zs, hzs, p, rfl, hp⟩ := hz3.get hx
        have hpz := hok.2.1 zs (List.mem_of_getElem? hzs)
        refine ⟨rfl, ?_⟩
        have hpv : PlV K H4 (.ref p) zs := ⟨p, rfl, ex_t e4.ex hp⟩
        refine ⟨_, rfl, _, rfl, _, rfl, take_pl hpv fun H5 u5 e5 h5 => ?_⟩
        have hp5 := ex_t e5 (ex_t e4.ex hp)
        refine ⟨_, rfl, _, rfl, p, _, n, _, rfl, rfl, hp5, atI_nat (atp (by have := hpz.1; omega)), _, _, rfl, rfl, by show (2 : Nat) ≤ sizeLine; omega, fun t6 ht6 => ?_⟩
        obtain ⟨e6, h6⟩ := pl_of (K := K) [0 - zs.getD n 0, 0] ht6
        refine cat_pl (h5.mono e6) h6 (by rw [List.length_take]; show _ + 2 ≤ 2000; omega) fun H7 u7 e7 h7 => ?_
        have e47 := e5.trans (e6.trans e7)
        have hy7 := e47 _ _ hy
        refine LcP.push hD (e4.trans (Exo.of e47)) hy7 hl' (by have := hz.1; omega) ?_
        rw [List.take_add_one, List.getElem?_map, hzs]
        rw [show (0 - zs.getD n 0) = -(zs.getD n 0) by omega] at h7
        exact (ha'.imp fun _ _ h => plv_upd (h.mono e47) hy7).app (.cons (plv_upd h7 hy7) .nil)
      rintro H4 ys e4 hy ha4
      rw [hz3.1, ← List.length_map (f := cnL n), List.take_length] at ha4
      have e4 := e4.ex
      refine ⟨by show (1 : Nat) ≤ sizeLine; omega, fun t5 ht5 => ?_⟩
      obtain ⟨e5, h5⟩ := pl_of (K := K) [0] ht5
      refine ⟨_, rfl, rep0_pl h5 (by omega) fun H6 u6 e6 h6 => ⟨by show (2 : Nat) ≤ sizeLine; omega, fun t7 ht7 => ?_⟩⟩
      obtain ⟨e7, h7⟩ := pl_of (K := K) [1, 0] ht7
      refine cat_pl (h6.mono e7) h7 (by rw [List.length_replicate]; show n + 2 ≤ 2000; omega) fun H8 u8 e8 h8 => ⟨by show (1 : Nat) ≤ sizeLine; omega, fun p9 hp9 => ?_⟩
      have e38 := ((e5.trans e6).trans e7).trans e8
      have e9 := Ex.new (o := .lst [u8]) hp9
      have e39 := e38.trans e9
      have ly : ys.length = zss.length := by rw [ha4.1, List.length_map]
      refine ⟨D, p9, _, _, rfl, rfl, e39 _ _ hy, upd_same, by rw [ly]; show zss.length + 1 ≤ sizeLine; omega, fun k hk => ?_⟩
      have e10 := Ex.new (o := .lst (ys ++ [u8])) hk
      have e310 := e39.trans e10
      have hk' : (upd (upd H8 p9 (.lst [u8])) k (.lst (ys ++ [u8]))) k = some (.lst (ys ++ [u8])) := upd_same
      have hzk : All2 (PlV K (upd (upd H8 p9 (.lst [u8])) k (.lst (ys ++ [u8])))) (ys ++ [u8]) (coneL n zss) := (ha4.imp fun _ _ h => h.mono e310).app (.cons (h8.mono (e9.trans e10)) .nil)
      have eA := e03.trans (e4.trans e310)
      have eB := e4.trans e310
      generalize upd (upd H8 p9 (.lst [u8])) k (.lst (ys ++ [u8])) = H11 at hk' hzk eA eB ⊢
      have hplA := hpl3.mono eB
      obtain ⟨dx', hob⟩ := hplA.ob
      refine ⟨_, rfl, .ref a', .ty "str", .ref (ad 33), .type "str", false, rfl, .ty "str", T.o_Planes.ty T.cl_Planes hob, T.y_Planes_str, false, rfl, ?_⟩
      refine iteF ?_
      refine ⟨_, rfl, a', _, dx', _, _, rfl, hob, T.cl_Planes, T.na_Planes_n, pflds_n _ _, _, rfl, _, _, rfl, rfl, rfl, _, rfl, ?_⟩
      rw [decide_eq_true (show V.int ((n + 1 : Nat) : Int) = V.int ((n : Int) + 1) from rfl)]
      refine iteF ?_
      refine ⟨_, rfl, a', dx', _, rfl, hob, pflds_no _ _ (by decide +kernel) (by decide +kernel), a', r', n + 1, _, rfl, hplA, fun H12 g us2 e12 hg hz12 => ?_⟩
      have sh := eqv_tups (coneL n zss)
      refine ⟨_, rfl, .list ((coneL n zss).map tupD), .list ((coneL n zss).map tupD), .lst (SqL.of hg) (dpAll_pls hz12), .lst (SqL.of (e12 _ _ hk')) (dpAll_pls (hzk.imp fun _ _ h => h.mono e12)), sh.1, sh.1, _, rfl, ?_⟩
      rw [sh.2]
      refine iteF ?_
      have eA12 := eA.trans e12
      refine ⟨_, rfl, a', dx', _, rfl, e12 _ _ hob, pflds_no _ _ (by decide +kernel) (by decide +kernel), a', r', n + 1, _, rfl, hplA.mono e12, fun H13 e13 => ?_⟩
      have hcen : cenL (n + 1) (coneL n zss) = true := cone_central fun zs hzs => (hok.2.1 zs hzs).1
      rw [hcen]
      refine ⟨true, true, rfl, rfl, false, rfl, iteF ?_⟩
      have e013 := eA12.trans e13
      have dA := dra_ex hd e013
      have hpl := hplA.mono (e12.trans e13)
      have hf13 := e013 _ _ hf
      have hz13 := hz.imp fun _ _ h => h.mono e013
      have hpt13 := hpt.mono e013
      have nr : r' ≠ l := dra_ne (dra_ex hd (e2.trans (Ex.refl _))) hr3
      have m13 := Mv.of hd e013
      -- t
      refine ⟨_, rfl, l, rfl, dA, fun H14 x1 x10 x11 m14 => .inl ⟨_, rfl, _, _, rfl, rfl, by show (0 : Int) < 5; decide, _, _, rfl, rfl, ?_⟩⟩
      refine ⟨_, rfl, l, rfl, m14.2, fun H15 x2 x20 x21 m15 => .inl ⟨_, rfl, _, _, rfl, rfl, by show (0 : Int) < 3; decide, _, _, rfl, rfl, ?_⟩⟩
      refine ⟨by show (2 : Nat) ≤ sizeLine; omega, fun t1 ht1 => ?_⟩
      have e16 := Ex.new (o := .tup [.int (1 + x1 % 5), .int (1 + x2 % 3)]) ht1
      have ht1' : SqT K (upd H15 t1 (.tup [.int (1 + x1 % 5), .int (1 + x2 % 3)])) t1 [.int (1 + x1 % 5), .int (1 + x2 % 3)] := SqT.of upd_same
      have m16 := (m13.trans (m14.trans m15)).ex e16
      have m1316 := (m14.trans m15).ex e16
      generalize upd H15 t1 (.tup [.int (1 + x1 % 5), .int (1 + x2 % 3)]) = H16 at ht1' m16 m1316 ⊢
      have bA : 1 ≤ 1 + x1 % 5 ∧ 1 + x1 % 5 ≤ 5 := by omega
      have bB : 1 ≤ 1 + x2 % 3 ∧ 1 + x2 % 3 ≤ 3 := by omega
      generalize 1 + x1 % 5 = A at ht1' bA ⊢
      generalize 1 + x2 % 3 = B at ht1' bB ⊢
      have sm : (100 : Nat) < 2 ^ 4000 := Nat.lt_of_lt_of_le (by decide : (100 : Nat) < 2 ^ 7) (Nat.pow_le_pow_right (by decide) (by decide))
      have sm1 : (100 : Nat) < 2 ^ 1000 := Nat.lt_of_lt_of_le (by decide : (100 : Nat) < 2 ^ 7) (Nat.pow_le_pow_right (by decide) (by decide))
      refine ⟨_, rfl, t1, _, 0, _, rfl, rfl, ht1', rfl, _, rfl, t1, _, 1, _, rfl, rfl, ht1', rfl, A, B, rfl, by omega, by omega, by omega, fun H17 tv e17 ntv => ?_⟩
      have hB0 : B ≠ 0 := by omega
      have q1 := nrm_eq (p := A) hB0
      have q2 := nrm_pos (a := A) hB0
      have q3 := nrm_le (a := A) hB0
      have q4 := nrm_isN (a := A) hB0
      generalize nrm A B = Tt at q1 q2 q3 q4 ntv
      have tpos : 0 < Tt.1 := by
        refine Classical.byContradiction fun hn => ?_
        have h1 : 0 < Tt.2 * A := Int.mul_pos (by omega) (by omega)
        have h2 : Tt.1 * B ≤ 0 := Int.mul_nonpos_of_nonpos_of_nonneg (by omega) (by omega)
        omega
      obtain ⟨tp, rfl, htp⟩ := ntv
      -- less
      refine ⟨_, rfl, tp, _, 0, _, rfl, rfl, htp, rfl, _, _, rfl, rfl, _, rfl, tp, _, 1, _, rfl, rfl, htp, rfl, by show (2 : Nat) ≤ sizeLine; omega, fun t2 ht2 => ?_⟩
      have e18 := Ex.new (o := .tup [.int (0 - Tt.1), .int Tt.2]) ht2
      have nt2 : Num K (upd H17 t2 (.tup [.int (0 - Tt.1), .int Tt.2])) (.ref t2) (0 - Tt.1) Tt.2 := ⟨t2, rfl, SqT.of upd_same⟩
      have nt1 : Num K (upd H17 t2 (.tup [.int (0 - Tt.1), .int Tt.2])) (.ref tp) Tt.1 Tt.2 := ⟨tp, rfl, ex_t e18 htp⟩
      have m18 := m16.ex (e17.trans e18)
      have m1318 := m1316.ex (e17.trans e18)
      generalize upd H17 t2 (.tup [.int (0 - Tt.1), .int Tt.2]) = H18 at nt1 nt2 m18 m1318 ⊢
      have hpl18 := hpl.mv dA m1318 nr
      have hptA := mv_pt dA m1318 hpt13
      have hf18 := m1318.1 _ _ nf hf13
      have hz18 := hz13.imp fun _ _ h => mv_plv dA m1318 h
      -- here
      have ntA : Num K H18 (.ref tp) Tt.1 Tt.2 := nt1
      refine ⟨_, rfl, ?_⟩
      obtain ⟨pp, vs, rfl, hpp, hvs⟩ := hptA
      refine ⟨_, rfl, pp, rfl, ⟨_, hpp⟩, fun DA hDA => ?_⟩
      refine lc_acc (l := none) (wk_tup (K := K) (fun z => nomatch z) hpp) hDA (fun i acc H' => All2 (NumR K H') acc ((ps.map (tx Tt)).take i)) .nil (fun _ _ _ _ e h => h.imp fun _ _ n => n.mono e) ?_ ?_
      · rintro i x2 Ha acc hi ea hy hl' ha' hx2
        obtain ⟨⟨xa, xb⟩, hxs, nx⟩ := hvs.get hx2
        obtain ⟨s1, s2, s3⟩ := hps.2 _ (List.mem_of_getElem? hxs)
        have s1b : 1 ≤ xb := s1.1
        have s2' : xa.natAbs ≤ 6 := s2
        have s3' : xb ≤ 4 := s3
        refine ⟨rfl, ?_⟩
        refine ⟨_, rfl, _, rfl, _, x2, Tt.1, Tt.2, xa, xb, rfl, ntA.mono ea.ex, nx.mono ea.ex, ⟨by omega, by omega, by omega, by omega⟩, by omega, by omega, fun Hb vb eb nb => ?_⟩
        have hyb := eb _ _ hy
        refine LcP.push hDA (ea.trans (Exo.of eb)) hyb hl' (by have := hvs.1; omega) ?_
        rw [List.take_add_one, List.getElem?_map, hxs]
        exact (ha'.imp fun _ _ n => num_upd (n.mono eb) hyb).app (.cons (num_upd nb hyb) .nil)
      rintro Hc ysc ec hyc hac
      rw [hvs.1, ← List.length_map (f := tx Tt), List.take_length] at hac
      have ec := ec.ex
      refine ⟨DA, _, rfl, .inl ⟨SqL.of hyc, fun pd hpd => ?_⟩⟩
      have ed := Ex.new (o := .tup ysc) hpd
      have hptd : PtV K (upd Hc pd (.tup ysc)) (.ref pd) (ps.map (tx Tt)) := ⟨pd, ysc, rfl, SqT.of upd_same, hac.imp fun _ _ n => n.mono ed⟩
      refine ⟨_, rfl, by show (1 : Nat) ≤ sizeLine; omega, fun pe hpe => ?_⟩
      have ee := Ex.new (o := .tup [.ref tp]) hpe
      have ece := (ec.trans ed).trans ee
      have hpte : PtV K (upd (upd Hc pd (.tup ysc)) pe (.tup [.ref tp])) (.ref pe) [Tt] := ⟨pe, _, rfl, SqT.of upd_same, .cons (ntA.mono ece) .nil⟩
      refine cat_pt (hptd.mono ee) hpte (by rw [List.length_map]; show _ + 1 ≤ 2000; omega) fun Hf vf ef hptf => ?_

      have okA : PtOk (cpt Tt ps) := cpt_ok hps (by omega) q4 (by omega) (by omega)
      have eAf := ece.trans ef
      have vld : ((cpt Tt ps).length : Int) = ((n + 1 : Nat) : Int) ∧ ptN (cpt Tt ps) := ⟨by show (((ps.map (tx Tt) ++ [Tt]).length : Nat) : Int) = _; rw [List.length_append, List.length_map, hpn]; rfl, okA.n⟩
      refine ⟨a', r', n + 1, coneL n zss, vf, cpt Tt ps, rfl, hpl18.mono eAf, hptf, by have := okA.1; omega, fun h => absurd vld h, fun _ => ⟨okA, fun Hg eg => ?_⟩⟩
      have e18g := eAf.trans eg
      have hrow1 : rowC (coneL n zss) (cpt Tt ps) = rowC zss ps ++ [43] := row_cone (fun zs hzs => (hok.2.1 zs hzs).1) hpn hps (by omega) q4 (by omega) (by omega) tpos
      rw [hrow1]
      -- there
      obtain ⟨Ls, hLs⟩ : ∃ Ls : Int × Int, Ls = (0 - Tt.1, Tt.2) := ⟨_, rfl⟩
      have ntB : Num K Hg (.ref t2) Ls.1 Ls.2 := by
        rw [hLs]
        exact nt2.mono e18g
      have qN : isN Ls.1 Ls.2 := by
        rw [hLs]
        exact isN_neg q4
      have b1 : Ls.1 = 0 - Tt.1 := by rw [hLs]
      have b2' : Ls.2 = Tt.2 := by rw [hLs]
      have hptB : PtV K Hg (.ref pp) ps := ⟨pp, vs, rfl, ex_t e18g hpp, hvs.imp fun _ _ n => n.mono e18g⟩
      have hplg := hpl18.mono e18g
      have hfg := e18g _ _ hf18
      have hzg := hz18.imp fun _ _ h => h.mono e18g
      clear ece hptd hpte ed ee ec hyc hac hptf ef eAf eg hpe hpd hDA
      refine ⟨_, rfl, ?_⟩
      have hpp := ex_t e18g hpp
      have hvs := All2.imp hvs (fun _ _ n => Num.mono e18g n)
      refine ⟨_, rfl, pp, rfl, ⟨_, hpp⟩, fun DB hDB => ?_⟩
      refine lc_acc (l := none) (wk_tup (K := K) (fun z => nomatch z) hpp) hDB (fun i acc H' => All2 (NumR K H') acc ((ps.map (tx Ls)).take i)) .nil (fun _ _ _ _ e h => h.imp fun _ _ n => n.mono e) ?_ ?_
      · rintro i x2 Ha acc hi ea hy hl' ha' hx2
        obtain ⟨⟨xa, xb⟩, hxs, nx⟩ := hvs.get hx2
        obtain ⟨s1, s2, s3⟩ := hps.2 _ (List.mem_of_getElem? hxs)
        have s1b : 1 ≤ xb := s1.1
        have s2' : xa.natAbs ≤ 6 := s2
        have s3' : xb ≤ 4 := s3
        refine ⟨rfl, ?_⟩
        refine ⟨_, rfl, _, rfl, _, x2, Ls.1, Ls.2, xa, xb, rfl, ntB.mono ea.ex, nx.mono ea.ex, ⟨by omega, by omega, by omega, by omega⟩, by omega, by omega, fun Hb vb eb nb => ?_⟩
        have hyb := eb _ _ hy
        refine LcP.push hDB (ea.trans (Exo.of eb)) hyb hl' (by have := hvs.1; omega) ?_
        rw [List.take_add_one, List.getElem?_map, hxs]
        exact (ha'.imp fun _ _ n => num_upd (n.mono eb) hyb).app (.cons (num_upd nb hyb) .nil)
      rintro Hc ysc ec hyc hac
      rw [hvs.1, ← List.length_map (f := tx Ls), List.take_length] at hac
      have ec := ec.ex
      refine ⟨DB, _, rfl, .inl ⟨SqL.of hyc, fun pd hpd => ?_⟩⟩
      have ed := Ex.new (o := .tup ysc) hpd
      have hptd : PtV K (upd Hc pd (.tup ysc)) (.ref pd) (ps.map (tx Ls)) := ⟨pd, ysc, rfl, SqT.of upd_same, hac.imp fun _ _ n => n.mono ed⟩
      refine ⟨_, rfl, by show (1 : Nat) ≤ sizeLine; omega, fun pe hpe => ?_⟩
      have ee := Ex.new (o := .tup [.ref t2]) hpe
      have ece := (ec.trans ed).trans ee
      have hpte : PtV K (upd (upd Hc pd (.tup ysc)) pe (.tup [.ref t2])) (.ref pe) [Ls] := ⟨pe, _, rfl, SqT.of upd_same, .cons (ntB.mono ece) .nil⟩
      refine cat_pt (hptd.mono ee) hpte (by rw [List.length_map]; show _ + 1 ≤ 2000; omega) fun Hf vf ef hptf => ?_

      have okB : PtOk (cpt Ls ps) := cpt_ok hps (by omega) qN (by omega) (by omega)
      have eBf := ece.trans ef
      have vldB : ((cpt Ls ps).length : Int) = ((n + 1 : Nat) : Int) ∧ ptN (cpt Ls ps) := ⟨by show (((ps.map (tx Ls) ++ [Ls]).length : Nat) : Int) = _; rw [List.length_append, List.length_map, hpn]; rfl, okB.n⟩
      refine ⟨a', r', n + 1, coneL n zss, vf, cpt Ls ps, rfl, hplg.mono eBf, hptf, by have := okB.1; omega, fun h => absurd vldB h, fun _ => ⟨okB, fun Hh eh => ?_⟩⟩
      have egh := eBf.trans eh
      have hrow2 : rowC (coneL n zss) (cpt Ls ps) = (rowC zss ps ++ [43]).map turnC := row_coneN (fun zs hzs => (hok.2.1 zs hzs).1) hpn hps (by omega) qN (by omega) (by omega) (by omega)
      rw [hrow2]
      have m18h := m18.ex (e18g.trans egh)
      have lr : (rowC zss ps).length = zss.length := by unfold rowC; rw [List.length_map]
      have m12 := hok.1
      refine ⟨_, rfl, _, rfl, _, rfl, n, f, _, us, zss, ps, rfl, SqL.of (egh _ _ hfg), hzg.imp fun _ _ h => h.mono egh, hok, ⟨pp, vs, rfl, ex_t egh hpp, All2.imp hvs (fun _ _ n => Num.mono egh n)⟩, hps.ok, hpn, fun Hi ei => ⟨_, _, rfl, rfl, by show ((rowC zss ps).toArray).size + 1 ≤ sizeLine; rw [List.size_toArray, lr]; omega, rfl, _, rfl, ?_⟩⟩
      have es : strC (rowC zss ps) ++ (Str.ofString "+") = strC (rowC zss ps ++ [43]) := app_strC _ [43]
      rw [es, decide_eq_true rfl]
      have rok : rowOk (coneL n zss).length (strC (rowC zss ps ++ [43])) := by
        rw [← hrow1]
        exact rowC_ok _ _
      refine iteT ⟨_, rfl, _, rfl, _, rfl, a', r', n + 1, coneL n zss, _, rfl, hplg.mono (egh.trans ei), by show ((rowC zss ps ++ [43]).toArray).size ≤ 1000; rw [List.size_toArray, List.length_append, lr]; show _ + 1 ≤ 1000; omega, fun _ Hj ej => ⟨rfl, ?_⟩, fun h => absurd rok h⟩
      have et : strC ((strC (rowC zss ps ++ [43])).cps.toList.map turnC) = strC ((rowC zss ps ++ [43]).map turnC) := by
        show strC (((rowC zss ps ++ [43]).toArray).toList.map turnC) = _
        rw [List.toList_toArray]
      rw [et, decide_eq_true rfl]
      exact q _ (m18h.ex (ei.trans ej))
/-! ### the law's joined lists -/
def sp__law_joined (K : PySem.W.Frag) : Sp := fun vs H Q _ => ∃ (n m : Nat) (f g : Addr) (v u : V) (us ws : List V) (zss yss : List (List Int)) (ps rs : List (Int × Int)), vs = [.int n, .ref f, v, .int m, .ref g, u] ∧ 1 ≤ n ∧ n ≤ 4 ∧ 1 ≤ m ∧ m ≤ 4 ∧ H f = some (.lst us) ∧ H g = some (.lst ws) ∧ All2 (PlV K H) us zss ∧ All2 (PlV K H) ws yss ∧ PlanesOk n zss ∧ PlanesOk m yss ∧
  zss.length + yss.length ≤ 12 ∧ PtV K H v ps ∧ PtV K H u rs ∧ PtOk ps ∧ PtOk rs ∧ ps.length = n ∧ rs.length = m ∧ ∀ H', Ex H H' → Q (.bl true) H'
theorem ok__law_joined (T : Txt K w mg ad fd) : CalG P w K mg base CX0 8 "_law_joined" (ad 62) (fd 62) ["n", "rows", "point", "m", "others", "place"] (sp__law_joined K) := by
  refine ⟨T.f__law_joined.okGn sc__law_joined (fun vs H Q E h => ?_) (fun cdv A outer s H vs Q E gd hr h => ?_), T.g__law_joined, T.f__law_joined.kp, T.f__law_joined.binds (ps := ["n", "rows", "point", "m", "others", "place"]) fun _ _ _ _ _ _ us hl => match us, hl with | [_, _, _, _, _, _], _ => rfl⟩
  · obtain ⟨n, m, f, g, v, u, us, ws, zss, yss, ps, rs, rfl, _⟩ := h
    rfl
  · obtain ⟨n, m, f, g, v, u, us, ws, zss, yss, ps, rs, rfl, n1, n4, m1, m4, hf, hg, hz, hy, hok, hok2, h12, hpt, hrt, hps, hrs, hpn, hrm, q⟩ := h
    have hu := hr.units
    have sz : sizeLine = 16777216 := sizeLine_eq
    refine ⟨_, (pss_cons (ps_set (i := 6) sc__law_joined.nd rfl (by first | exact Or.inl rfl | exact Or.inr rfl) (pe_calG (ok__law_told T (P := P) (w := w) (base := base)) gd (hr.mono (by decide)) (pa_cons pe_int (pa_cons (pe_make T.mk_Planes (ok_Planes_init T (P := P) (w := w) (base := base)).ok (hr.mono (by decide)) rfl T.g_Planes (ok_Planes_init T (P := P) (w := w) (base := base)).b .nil pass0 (pa_cons (pv 0) (pa_cons (pv 1) pa_nil))) (pa_cons (pe_make T.mk_Planes (ok_Planes_init T (P := P) (w := w) (base := base)).ok (hr.mono (by decide)) rfl T.g_Planes (ok_Planes_init T (P := P) (w := w) (base := base)).b .nil pass0 (pa_cons (pv 3) (pa_cons (pv 4) pa_nil))) pa_nil)))))
    (pss_cons (ps_if (pt_cmpR op_gt (pe_op op_add (pv 0) (pv 3)) pe_int (nomark _)) (pss_one (ps_ret (pe_cmpR op_eq (pv 6) pe_str (nomark _)))) pss_nil)
    (pss_cons (ps_set (i := 7) sc__law_joined.nd rfl (by first | exact Or.inl rfl | exact Or.inr rfl) (pe_op op_cat (pe_lc (own := [("row", 8)]) rfl sc__law_joined.nd (pi_list (pv 1)) (blkOk_by (N := ["n", "rows", "point", "m", "others", "place", "told", "due", "row"]) (sc := defScope s__law_joined) (by decide +kernel)) (fun _ _ _ _ _ => (pg_name (i := 8) sc__law_joined.nd rfl (by first | exact Or.inl rfl | exact Or.inr rfl))) (fun _ _ _ _ _ => pts_nil) (fun _ _ _ _ _ => (pe_op (op_catK (K := K)) (pe_op (op_catK (K := K)) (pe_slice (sl_tupK (K := K)) (pv 8) po_none (po_some (pv 0))) (pe_op (op_repA (K := K)) (pe_tup (pa_cons pe_int pa_nil)) (pv 3))) (pe_slice (sl_tupK (K := K)) (pv 8) (po_some (pv 0)) po_none)))) (pe_lc (own := [("row", 8)]) rfl sc__law_joined.nd (pi_list (pv 4)) (blkOk_by (N := ["n", "rows", "point", "m", "others", "place", "told", "due", "row"]) (sc := defScope s__law_joined) (by decide +kernel)) (fun _ _ _ _ _ => (pg_name (i := 8) sc__law_joined.nd rfl (by first | exact Or.inl rfl | exact Or.inr rfl))) (fun _ _ _ _ _ => pts_nil) (fun _ _ _ _ _ => (pe_op (op_catK (K := K)) (pe_op (op_repA (K := K)) (pe_tup (pa_cons pe_int pa_nil)) (pv 0)) (pv 8))))))
    (pss_cons (ps_if (L2.PW.pt (pw_or (pt_val (pe_callB call_isi (by rfl) T.m_isinstance (by decide +kernel) (pa_cons (pv 6) (pa_cons (pe_bltn (by rfl) T.m_str (v := .ty "str") (u := .type "str") rfl rfl) pa_nil)))) (pw_or (pt_cmpR op_ne (pe_fldK (K := K) (pv 6) rfl) (pe_op op_add (pv 0) (pv 3)) (nomark _)) (pw_or1 (pt_cmpR (op_neD hu) (pe_meth0 (pv 6) T.cl_Planes T.me_Planes_planes (ok_Planes_planes T (P := P) (w := w) (base := base)).ok (hr.mono (by decide)) (ok_Planes_planes T (P := P) (w := w) (base := base)).b .nil pass0) (pv 7) (nomark _)))))) (pss_one (ps_ret pe_bl)) pss_nil)
    (pss_one (ps_ret (pe_cmpR op_eq (pe_cal (ok_row_of T (P := P) (w := w) (base := base)) (hr.mono (by decide)) passLN (pa_cons (pv 6) (pa_cons (pe_op (op_catK (K := K)) (pv 2) (pv 5)) pa_nil))) (pe_op op_add_str (pe_cal (ok__law_row T (P := P) (w := w) (base := base)) (hr.mono (by decide)) pass0 (pa_cons (pv 1) (pa_cons (pv 2) pa_nil))) (pe_cal (ok__law_row T (P := P) (w := w) (base := base)) (hr.mono (by decide)) pass0 (pa_cons (pv 4) (pa_cons (pv 5) pa_nil)))) (nomark _)))))))), ?_⟩
    refine ⟨_, rfl, _, rfl, fun x dx hx hdx hxy => ?_⟩
    refine make_plG n1 n4 (SqL.of hf) hz hok hx hdx hxy ?_
    intro H1 r1 e1 hr1 hpl1
    refine ⟨_, rfl, _, rfl, fun y dy hy' hdy hyx => ?_⟩
    refine make_plG m1 m4 (SqL.of (e1 _ _ hg)) (hy.imp fun _ _ h => h.mono e1) hok2 hy' hdy hyx ?_
    intro H2 r2 e2 hr2 hpl2
    have hb1 := hok.1
    have hb2 := hok2.1
    refine ⟨1, _, _, rfl, .inr ⟨rfl, x, r1, n, zss, y, r2, m, yss, rfl, rfl, hpl1.mono e2, hpl2, fun h4 H3 e3 => ?_, fun _ hl => absurd hl (by omega), fun h4 _ H3 a' r' e3 hr3 hpl3 => ?_⟩⟩
    · refine ⟨_, rfl, _, rfl, _, _, rfl, rfl, _, _, rfl, rfl, _, rfl, ?_⟩
      rw [decide_eq_true (show (4 : Int) < (n : Int) + m by omega)]
      refine iteT ⟨_, rfl, rfl, ?_⟩
      show Q (V.bl (decide (V.str tB = V.str (Str.ofString "![1, 0]")))) H3
      rw [show decide (V.str tB = V.str (Str.ofString "![1, 0]")) = true from decide_eq_true rfl]
      exact q _ ((e1.trans e2).trans e3)
    · refine ⟨_, rfl, _, rfl, _, _, rfl, rfl, _, _, rfl, rfl, _, rfl, ?_⟩
      rw [decide_eq_false (show ¬ (4 : Int) < (n : Int) + m by omega)]
      refine iteF ?_
      have e03 := (e1.trans e2).trans e3
      have hf3 := e03 _ _ hf
      have hg3 := e03 _ _ hg
      have hz3 := hz.imp fun _ _ h => h.mono e03
      have hy3 := hy.imp fun _ _ h => h.mono e03
      refine ⟨.ref f, rfl, f, rfl, ⟨_, SqL.of hf3⟩, fun D hD => ?_⟩
      refine lc_acc (l := none) (wk_list (K := K) (fun z => nomatch z) (SqL.of hf3)) hD (fun i acc H' => All2 (PlV K H') acc ((zss.map (j1 n m)).take i)) .nil (fun _ _ _ _ e h => h.imp fun _ _ h => h.mono e) ?_ ?_
      · rintro i x H5 acc hi e5 hyy hl' ha' hx
        obtain ⟨zs, hzs, hp⟩ := hz3.get hx
        have hpz := hok.2.1 zs (List.mem_of_getElem? hzs)
        have lz : zs.length ≤ 5 := by have := hpz.1; omega
        have lt : (zs.take n).length ≤ 5 := by rw [List.length_take]; omega
        have ld : (zs.drop n).length ≤ 5 := by rw [List.length_drop]; omega
        refine ⟨rfl, ?_⟩
        have hpv := hp.mono e5.ex
        refine ⟨_, rfl, _, rfl, _, rfl, take_pl hpv fun H6 u6 e6 h6 => ?_⟩
        refine ⟨by show (1 : Nat) ≤ sizeLine; omega, fun t7 ht7 => ?_⟩
        obtain ⟨e7, h7⟩ := pl_of (K := K) [0] ht7
        refine ⟨_, rfl, rep0_pl h7 (by omega) fun H8 u8 e8 h8 => ?_⟩
        refine cat_pl (h6.mono (e7.trans e8)) h8 (by rw [List.length_replicate]; omega) fun H9 u9 e9 h9 => ?_
        have e69 := e6.trans ((e7.trans e8).trans e9)
        refine ⟨_, rfl, _, rfl, _, rfl, ?_⟩
        dsimp only [tNoPart]
        refine drop_pl (hpv.mono e69) fun H10 u10 e10 h10 => ?_
        refine cat_pl (h9.mono e10) h10 (by rw [List.length_append, List.length_replicate]; omega) fun H11 u11 e11 h11 => ?_
        have e611 := e69.trans (e10.trans e11)
        have hy11 := e611 _ _ hyy
        refine LcP.push hD (e5.trans (Exo.of e611)) hy11 hl' (by have := hz3.1; have := hok.1; omega) ?_
        rw [List.take_add_one, List.getElem?_map, hzs]
        exact (ha'.imp fun _ _ h => plv_upd (h.mono e611) hy11).app (.cons (plv_upd h11 hy11) .nil)
      rintro H5 ys e5 hys ha5
      rw [hz3.1, ← List.length_map (f := j1 n m), List.take_length] at ha5
      have e5 := e5.ex
      have e05 := e03.trans e5
      have hg5 := e05 _ _ hg
      have hy5 := hy.imp fun _ _ h => h.mono e05
      refine ⟨.ref g, rfl, g, rfl, ⟨_, SqL.of hg5⟩, fun D2 hD2 => ?_⟩
      refine lc_acc (l := none) (wk_list (K := K) (fun z => nomatch z) (SqL.of hg5)) hD2 (fun i acc H' => All2 (PlV K H') acc ((yss.map (j2 n)).take i)) .nil (fun _ _ _ _ e h => h.imp fun _ _ h => h.mono e) ?_ ?_
      · rintro i x H7 acc hi e7 hyy hl' ha' hx
        obtain ⟨zs, hzs, hp⟩ := hy5.get hx
        have hpz := hok2.2.1 zs (List.mem_of_getElem? hzs)
        have lz : zs.length ≤ 5 := by have := hpz.1; omega
        refine ⟨rfl, ?_⟩
        have hpv := hp.mono e7.ex
        refine ⟨by show (1 : Nat) ≤ sizeLine; omega, fun t8 ht8 => ?_⟩
        obtain ⟨e8, h8⟩ := pl_of (K := K) [0] ht8
        refine ⟨_, rfl, rep0_pl h8 (by omega) fun H9 u9 e9 h9 => ?_⟩
        refine ⟨_, rfl, cat_pl h9 (hpv.mono (e8.trans e9)) (by rw [List.length_replicate]; omega) fun H11 u11 e11 h11 => ?_⟩
        have e711 := (e8.trans e9).trans e11
        have hy11 := e711 _ _ hyy
        refine LcP.push hD2 (e7.trans (Exo.of e711)) hy11 hl' (by have := hy5.1; have := hok2.1; omega) ?_
        rw [List.take_add_one, List.getElem?_map, hzs]
        exact (ha'.imp fun _ _ h => plv_upd (h.mono e711) hy11).app (.cons (plv_upd h11 hy11) .nil)
      rintro H7 ys2 e7 hy7 ha7
      rw [hy5.1, ← List.length_map (f := j2 n), List.take_length] at ha7
      have e7 := e7.ex
      have l1 : ys.length = zss.length := by rw [ha5.1, List.length_map]
      have l2 : ys2.length = yss.length := by rw [ha7.1, List.length_map]
      refine ⟨D, D2, _, _, rfl, rfl, e7 _ _ hys, hy7, by omega, fun k hk => ?_⟩
      have e8 := Ex.new (o := .lst (ys ++ ys2)) hk
      have hk' : (upd H7 k (.lst (ys ++ ys2))) k = some (.lst (ys ++ ys2)) := upd_same
      have hzk : All2 (PlV K (upd H7 k (.lst (ys ++ ys2)))) (ys ++ ys2) (joinL n m zss yss) := (ha5.imp fun _ _ h => h.mono (e7.trans e8)).app (ha7.imp fun _ _ h => h.mono e8)
      have eA := e05.trans (e7.trans e8)
      have eB := e5.trans (e7.trans e8)
      generalize upd H7 k (.lst (ys ++ ys2)) = H11 at hk' hzk eA eB ⊢
      have hplA := hpl3.mono eB
      obtain ⟨dx', hob⟩ := hplA.ob
      refine ⟨_, rfl, .ref a', .ty "str", .ref (ad 33), .type "str", false, rfl, .ty "str", T.o_Planes.ty T.cl_Planes hob, T.y_Planes_str, false, rfl, ?_⟩
      refine iteF ?_
      refine ⟨_, rfl, a', _, dx', _, _, rfl, hob, T.cl_Planes, T.na_Planes_n, pflds_n _ _, _, rfl, _, rfl, _, _, rfl, rfl, rfl, _, rfl, ?_⟩
      rw [decide_eq_true (show V.int ((n + m : Nat) : Int) = V.int ((n : Int) + m) from rfl)]
      refine iteF ?_
      refine ⟨_, rfl, a', dx', _, rfl, hob, pflds_no _ _ (by decide +kernel) (by decide +kernel), a', r', n + m, _, rfl, hplA, fun H12 gg us2 e12 hgg hz12 => ?_⟩
      have sh := eqv_tups (joinL n m zss yss)
      refine ⟨_, rfl, .list ((joinL n m zss yss).map tupD), .list ((joinL n m zss yss).map tupD), .lst (SqL.of hgg) (dpAll_pls hz12), .lst (SqL.of (e12 _ _ hk')) (dpAll_pls (hzk.imp fun _ _ h => h.mono e12)), sh.1, sh.1, _, rfl, ?_⟩
      rw [sh.2]
      refine iteF ?_
      have e012 := eA.trans e12
      refine ⟨_, rfl, _, rfl, _, rfl, ?_⟩
      refine cat_pt (hpt.mono e012) (hrt.mono e012) (by omega) fun H13 vq e13 hq => ?_
      have okQ : PtOk (ps ++ rs) := ⟨by rw [List.length_append]; omega, fun x hx => (List.mem_append.mp hx).elim (hps.2 x) (hrs.2 x)⟩
      have vld : ((ps ++ rs).length : Int) = ((n + m : Nat) : Int) ∧ ptN (ps ++ rs) := ⟨by rw [List.length_append, hpn, hrm], okQ.n⟩
      refine ⟨a', r', n + m, _, vq, ps ++ rs, rfl, hplA.mono (e12.trans e13), hq, by have := okQ.1; omega, fun h => absurd vld h, fun _ => ⟨okQ, fun H14 e14 => ?_⟩⟩
      have e014 := e012.trans (e13.trans e14)
      rw [row_join (fun zs hzs => (hok.2.1 zs hzs).1) (fun zs hzs => (hok2.2.1 zs hzs).1) hpn hrm hps hrs]
      refine ⟨_, rfl, _, rfl, n, f, v, us, zss, ps, rfl, SqL.of (e014 _ _ hf), hz.imp fun _ _ h => h.mono e014, hok, hpt.mono e014, hps, hpn, fun H15 e15 => ?_⟩
      have e015 := e014.trans e15
      refine ⟨_, rfl, _, rfl, m, g, u, ws, yss, rs, rfl, SqL.of (e015 _ _ hg), hy.imp fun _ _ h => h.mono e015, hok2, hrt.mono e015, hrs, hrm, fun H16 e16 => ?_⟩
      refine ⟨_, _, rfl, rfl, ?_, rfl, ?_⟩
      · show ((rowC zss ps).toArray).size + ((rowC yss rs).toArray).size ≤ sizeLine
        rw [List.size_toArray, List.size_toArray]
        unfold rowC
        rw [List.length_map, List.length_map]
        omega
      · rw [app_strC, decide_eq_true rfl]
        exact q _ (e015.trans e16)
/-! ### long lists -/
def lg (n : Nat) (c : Int) (i : Nat) : List Int := [1] ++ List.replicate (n - 1) 0 ++ [(i : Int) + c]
def lgs (n : Nat) (c : Int) : List (List Int) := (List.range 12).map (lg n c)
theorem lg_pl {n i : Nat} {c : Int} (n1 : 1 ≤ n) (hi : i < 12) (hc : -6 ≤ c ∧ c ≤ 0) : Pl n (lg n c i) := by
  unfold lg
  refine ⟨?_, fun y hy => ?_, ⟨1, ?_, by decide⟩, ?_⟩
  · rw [List.length_append, List.length_append, List.length_replicate]
    show 1 + (n - 1) + 1 = n + 1
    omega
  · rcases List.mem_append.mp hy with h | h
    · rcases List.mem_append.mp h with h | h
      · rw [List.mem_singleton.mp h]
        decide
      · rw [(List.mem_replicate.mp h).2]
        decide
    · rw [List.mem_singleton.mp h]
      omega
  · obtain ⟨k, rfl⟩ : ∃ k, n = k + 1 := ⟨n - 1, by omega⟩
    show (1 : Int) ∈ (1 :: (List.replicate (k + 1 - 1) 0 ++ [(i : Int) + c])).take (k + 1)
    rw [List.take_succ_cons]
    exact List.mem_cons_self ..
  · refine gl_one (k := 1) ?_
    show gl ((1 :: (List.replicate (n - 1) 0 ++ [(i : Int) + c])).take 1) = 1
    rw [List.take_succ_cons]
    rfl
theorem lgs_ok {n : Nat} {c : Int} (n1 : 1 ≤ n) (hc : -6 ≤ c ∧ c ≤ 0) : PlanesOk n (lgs n c) := by
  have at_ : ∀ {i : Nat} {a : List Int}, (lgs n c)[i]? = some a → i < 12 ∧ a = lg n c i := fun {i a} h => by
    unfold lgs at h
    rw [List.getElem?_map] at h
    by_cases hi : i < 12
    · rw [List.getElem?_range hi] at h
      cases h
      exact ⟨hi, rfl⟩
    · rw [List.getElem?_eq_none (by rw [List.length_range]; omega)] at h
      cases h
  refine ⟨by unfold lgs; rw [List.length_map, List.length_range]; decide, fun a ha => ?_, fun i j a b hij ha hb => ?_⟩
  · obtain ⟨i, hi⟩ := List.mem_iff_getElem?.mp ha
    obtain ⟨h1, rfl⟩ := at_ hi
    exact lg_pl n1 h1 hc
  · obtain ⟨_, rfl⟩ := at_ ha
    obtain ⟨_, rfl⟩ := at_ hb
    refine ⟨fun e => ?_, fun e => ?_⟩
    · have := (List.cons.inj (List.append_cancel_left e)).1
      omega
    · have e : (1 : Int) :: (List.replicate (n - 1) 0 ++ [(j : Int) + c]) = -1 :: neg (List.replicate (n - 1) 0 ++ [(i : Int) + c]) := e
      have := (List.cons.inj e).1
      omega
theorem PlanesOk.take {n k : Nat} {zss : List (List Int)} (h : PlanesOk n zss) : PlanesOk n (zss.take k) := by
  obtain ⟨h1, h2, h3⟩ := h
  have sub : ∀ {i : Nat} {a : List Int}, (zss.take k)[i]? = some a → zss[i]? = some a := fun {i a} h => by
    rw [List.getElem?_take] at h
    split at h
    · exact h
    · cases h
  exact ⟨by rw [List.length_take]; omega, fun a ha => h2 a (List.mem_of_mem_take ha), fun i j a b hij ha hb => h3 i j a b hij (sub ha) (sub hb)⟩
theorem PlanesOk.drop {n k : Nat} {zss : List (List Int)} (h : PlanesOk n zss) : PlanesOk n (zss.drop k) := by
  obtain ⟨h1, h2, h3⟩ := h
  exact ⟨by rw [List.length_drop]; omega, fun a ha => h2 a (List.mem_of_mem_drop ha), fun i j a b hij ha hb => h3 (k + i) (k + j) a b (by omega) (by rw [List.getElem?_drop] at ha; exact ha) (by rw [List.getElem?_drop] at hb; exact hb)⟩
theorem lgs_len (n : Nat) (c : Int) : (lgs n c).length = 12 := by
  unfold lgs
  rw [List.length_map, List.length_range]
theorem one_ok : PlanesOk 1 [[1, 0]] := ⟨by decide, fun a ha => by rw [List.mem_singleton.mp ha]; decide, fun i j a b hij ha hb => by
  have := (List.getElem?_eq_some_iff.mp hb).1
  simp at this
  omega⟩
theorem nil_ok (n : Nat) : PlanesOk n [] := ⟨by decide, fun a ha => absurd ha List.not_mem_nil, fun i j a b hij ha hb => by cases ha⟩
theorem cutV_to {xs : List V} {n : Nat} : cutV xs none (some (n : Int)) = xs.take n := by
  unfold cutV
  rw [HT.sIx_none, HT.sIx_nat, List.drop_zero]
  by_cases h : n ≤ xs.length
  · congr 1
    omega
  · rw [List.take_of_length_le (by omega), List.take_of_length_le (by omega)]
theorem cutV_from {xs : List V} {n : Nat} : cutV xs (some (n : Int)) none = xs.drop n := by
  unfold cutV
  rw [HT.sIx_none, HT.sIx_nat]
  by_cases h : n ≤ xs.length
  · rw [List.take_of_length_le (by rw [List.length_drop]; omega)]
    congr 1
    omega
  · rw [List.take_of_length_le (by rw [List.length_drop]; omega), List.drop_of_length_le (by omega), List.drop_of_length_le (by omega)]
theorem All2.take {α : Type} {R : V → α → Prop} {vs : List V} {xs : List α} (h : All2 R vs xs) (k : Nat) : All2 R (vs.take k) (xs.take k) := by
  refine ⟨by rw [List.length_take, List.length_take, h.1], fun i v x a b => ?_⟩
  rw [List.getElem?_take] at a b
  split at a
  · rw [if_pos (by assumption)] at b
    exact h.2 i v x a b
  · cases a
theorem All2.drop {α : Type} {R : V → α → Prop} {vs : List V} {xs : List α} (h : All2 R vs xs) (k : Nat) : All2 R (vs.drop k) (xs.drop k) := by
  refine ⟨by rw [List.length_drop, List.length_drop, h.1], fun i v x a b => ?_⟩
  rw [List.getElem?_drop] at a b
  exact h.2 _ v x a b
theorem rep0_plI {K : PySem.W.Frag} {H : Hp} {u : V} {n : Nat} {k : Int} {Q : VK} (hk : k = (n : Nat)) (hu : PlV K H u [0]) (hn : n ≤ 1000) (q : ∀ H' z, Ex H H' → PlV K H' z (List.replicate n 0) → Q z H') : rRepA K u (.int k) H Q := by
  subst hk
  exact rep0_pl hu hn q
theorem neT : (!decide (V.str tT = V.str (Str.ofString "![0, 1]"))) = false := by
  rw [decide_eq_true (show V.str tT = V.str (Str.ofString "![0, 1]") from rfl)]
  rfl
theorem neB : (!decide (V.str tB = V.str (Str.ofString "![1, 0]"))) = false := by
  rw [decide_eq_true (show V.str tB = V.str (Str.ofString "![1, 0]") from rfl)]
  rfl
def sp__law_bounds (K : PySem.W.Frag) : Sp := fun vs H Q _ => ∃ (n : Nat) (v : V), vs = [.int n, v] ∧ 1 ≤ n ∧ n ≤ 3 ∧ ∀ H', Ex H H' → Q (.bl true) H'
theorem ok__law_bounds (T : Txt K w mg ad fd) : CalG P w K mg base CX0 8 "_law_bounds" (ad 63) (fd 63) ["n", "rows"] (sp__law_bounds K) := by
  refine ⟨T.f__law_bounds.okGn sc__law_bounds (fun vs H Q E h => ?_) (fun cdv A outer s H vs Q E gd hr h => ?_), T.g__law_bounds, T.f__law_bounds.kp, T.f__law_bounds.binds (ps := ["n", "rows"]) fun _ _ _ _ _ _ us hl => match us, hl with | [_, _], _ => rfl⟩
  · obtain ⟨n, v, rfl, _⟩ := h
    rfl
  · obtain ⟨n, v, rfl, n1, n3, q⟩ := h
    have hu := hr.units
    have sz : sizeLine = 16777216 := sizeLine_eq
    refine ⟨_, (pss_cons (ps_setLc (i := 2) (own := [("at", 3)]) rfl sc__law_bounds.nd rfl rfl (sw_true rfl rfl rfl (by decide +kernel)) (pi_range1 rfl T.m_range (pa_cons pe_int pa_nil)) (blkOk_by (N := ["n", "rows", "long", "at"]) (sc := defScope s__law_bounds) (by decide +kernel)) (fun _ _ _ _ _ => (pg_name (i := 3) sc__law_bounds.nd rfl (by first | exact Or.inl rfl | exact Or.inr rfl))) (fun _ _ _ _ _ => pts_nil) (fun _ _ _ _ _ => (pe_op (op_catK (K := K)) (pe_op (op_catK (K := K)) (pe_tup (pa_cons pe_int pa_nil)) (pe_op (op_repA (K := K)) (pe_tup (pa_cons pe_int pa_nil)) (pe_op op_sub (pv 0) pe_int))) (pe_tup (pa_cons (pe_op op_sub (pv 3) pe_int) pa_nil)))))
    (pss_cons (ps_if (pt_cmpR op_ne (pe_calG (ok__law_told T (P := P) (w := w) (base := base)) gd (hr.mono (by decide)) (pa_cons pe_int (pa_cons (pe_make T.mk_Planes (ok_Planes_init T (P := P) (w := w) (base := base)).ok (hr.mono (by decide)) rfl T.g_Planes (ok_Planes_init T (P := P) (w := w) (base := base)).b .nil pass0 (pa_cons (pv 0) (pa_cons (pv 2) pa_nil))) (pa_cons pe_int pa_nil)))) pe_str (nomark _)) (pss_one (ps_ret pe_bl)) pss_nil)
    (pss_cons (ps_if (pt_cmpR op_ne (pe_callB (call_lenOwn (ok_Planes_len T (P := P) (w := w) (base := base)).ok (hr.mono (by decide)) T.me_Planes_len.at_ T.me_Planes_len.fn (ok_Planes_len T (P := P) (w := w) (base := base)).b pass0) (by rfl) T.m_len PySem.boot_len (pa_cons (pe_calG (ok__law_told T (P := P) (w := w) (base := base)) gd (hr.mono (by decide)) (pa_cons pe_int (pa_cons (pe_make T.mk_Planes (ok_Planes_init T (P := P) (w := w) (base := base)).ok (hr.mono (by decide)) rfl T.g_Planes (ok_Planes_init T (P := P) (w := w) (base := base)).b .nil pass0 (pa_cons (pv 0) (pa_cons (pe_slice sl_list (pv 2) po_none (po_some pe_int)) pa_nil))) (pa_cons pe_int pa_nil)))) pa_nil)) pe_int (nomark _)) (pss_one (ps_ret pe_bl)) pss_nil)
    (pss_cons (ps_if (pt_cmpR op_ne (pe_calG (ok__law_told T (P := P) (w := w) (base := base)) gd (hr.mono (by decide)) (pa_cons pe_int (pa_cons (pe_make T.mk_Planes (ok_Planes_init T (P := P) (w := w) (base := base)).ok (hr.mono (by decide)) rfl T.g_Planes (ok_Planes_init T (P := P) (w := w) (base := base)).b .nil pass0 (pa_cons (pv 0) (pa_cons (pv 2) pa_nil))) (pa_cons (pe_make T.mk_Planes (ok_Planes_init T (P := P) (w := w) (base := base)).ok (hr.mono (by decide)) rfl T.g_Planes (ok_Planes_init T (P := P) (w := w) (base := base)).b .nil pass0 (pa_cons pe_int (pa_cons (pe_lst (pa_cons (pe_tup (pa_cons pe_int (pa_cons pe_int pa_nil))) pa_nil)) pa_nil))) pa_nil)))) pe_str (nomark _)) (pss_one (ps_ret pe_bl)) pss_nil)
    (pss_one (ps_ret (pe_and (pe_cmpR op_eq (pe_callB (call_lenOwn (ok_Planes_len T (P := P) (w := w) (base := base)).ok (hr.mono (by decide)) T.me_Planes_len.at_ T.me_Planes_len.fn (ok_Planes_len T (P := P) (w := w) (base := base)).b pass0) (by rfl) T.m_len PySem.boot_len (pa_cons (pe_calG (ok__law_told T (P := P) (w := w) (base := base)) gd (hr.mono (by decide)) (pa_cons pe_int (pa_cons (pe_make T.mk_Planes (ok_Planes_init T (P := P) (w := w) (base := base)).ok (hr.mono (by decide)) rfl T.g_Planes (ok_Planes_init T (P := P) (w := w) (base := base)).b .nil pass0 (pa_cons (pv 0) (pa_cons (pv 2) pa_nil))) (pa_cons (pe_make T.mk_Planes (ok_Planes_init T (P := P) (w := w) (base := base)).ok (hr.mono (by decide)) rfl T.g_Planes (ok_Planes_init T (P := P) (w := w) (base := base)).b .nil pass0 (pa_cons pe_int (pa_cons (pe_lst pa_nil) pa_nil))) pa_nil)))) pa_nil)) pe_int (nomark _)) (pe_one (pe_cmpR op_eq (pe_callB (call_lenOwn (ok_Planes_len T (P := P) (w := w) (base := base)).ok (hr.mono (by decide)) T.me_Planes_len.at_ T.me_Planes_len.fn (ok_Planes_len T (P := P) (w := w) (base := base)).b pass0) (by rfl) T.m_len PySem.boot_len (pa_cons (pe_calG (ok__law_told T (P := P) (w := w) (base := base)) gd (hr.mono (by decide)) (pa_cons pe_int (pa_cons (pe_make T.mk_Planes (ok_Planes_init T (P := P) (w := w) (base := base)).ok (hr.mono (by decide)) rfl T.g_Planes (ok_Planes_init T (P := P) (w := w) (base := base)).b .nil pass0 (pa_cons pe_int (pa_cons (pe_lst (pa_cons (pe_tup (pa_cons pe_int (pa_cons pe_int pa_nil))) pa_nil)) pa_nil))) (pa_cons (pe_make T.mk_Planes (ok_Planes_init T (P := P) (w := w) (base := base)).ok (hr.mono (by decide)) rfl T.g_Planes (ok_Planes_init T (P := P) (w := w) (base := base)).b .nil pass0 (pa_cons (pv 0) (pa_cons (pe_slice sl_list (pv 2) (po_some pe_int) po_none) pa_nil))) pa_nil)))) pa_nil)) pe_int (nomark _)))))))))), ?_⟩
    refine ⟨12, rfl, by decide, by decide, fun D hD => ?_⟩
    refine lc_acc (l := none) wk_range hD (fun i acc H' => All2 (PlV K H') acc ((lgs n (-6)).take i)) .nil (fun _ _ _ _ e h => h.imp fun _ _ h => h.mono e) ?_ ?_
    · rintro i x H1 acc hi e1 hy hl' ha' rfl
      have hi : i < 12 := hi
      refine ⟨rfl, ?_⟩
      refine ⟨by show (1 : Nat) ≤ sizeLine; omega, fun t2 ht2 => ?_⟩
      obtain ⟨e2, h2⟩ := pl_of (K := K) [1] ht2
      refine ⟨by show (1 : Nat) ≤ sizeLine; omega, fun t3 ht3 => ?_⟩
      obtain ⟨e3, h3⟩ := pl_of (K := K) [0] ht3
      have en : ((n : Int) - 1) = ((n - 1 : Nat) : Int) := by omega
      refine ⟨_, rfl, _, _, rfl, rfl, ?_⟩
      refine rep0_plI en h3 (by omega) fun H4 u4 e4 h4 => ?_
      refine cat_pl (h2.mono (e3.trans e4)) h4 (by rw [List.length_replicate]; show 1 + (n - 1) ≤ 2000; omega) fun H5 u5 e5 h5 => ?_
      refine ⟨_, rfl, _, _, rfl, rfl, by show (1 : Nat) ≤ sizeLine; omega, fun t6 ht6 => ?_⟩
      obtain ⟨e6, h6⟩ := pl_of (K := K) [0 + (i : Int) - 6] ht6
      refine cat_pl (h5.mono e6) h6 (by rw [List.length_append, List.length_replicate]; show 1 + (n - 1) + 1 ≤ 2000; omega) fun H7 u7 e7 h7 => ?_
      have e27 := ((e2.trans e3).trans (e4.trans e5)).trans (e6.trans e7)
      have hy7 := e27 _ _ hy
      have hlg : (lgs n (-6))[i]? = some (lg n (-6) i) := by
        unfold lgs
        rw [List.getElem?_map, List.getElem?_range hi]
        rfl
      rw [show (0 + (i : Int) - 6) = (i : Int) + -6 by omega] at h7
      refine LcP.push hD (e1.trans (Exo.of e27)) hy7 hl' (by omega) ?_
      rw [List.take_add_one, hlg]
      exact (ha'.imp fun _ _ h => plv_upd (h.mono e27) hy7).app (.cons (plv_upd h7 hy7) .nil)
    rintro H1 ys e1 hy ha1
    have e1 := e1.ex
    have ha1 : All2 (PlV K H1) ys ((lgs n (-6)).take 12) := ha1
    rw [show (12 : Nat) = (lgs n (-6)).length from (lgs_len _ _).symm, List.take_length] at ha1
    have okL := lgs_ok (n := n) (c := -6) n1 (by decide)
    have lL := lgs_len n (-6)
    change Ends.nx _ _ _
    dsimp only
    -- twelve
    refine ⟨_, rfl, _, rfl, fun x dx hx hdx hxy => ?_⟩
    refine make_plG n1 (by omega) (SqL.of hy) ha1 okL hx hdx hxy ?_
    intro H2 r2 e2 hr2 hpl2
    refine ⟨0, _, _, rfl, .inl ⟨rfl, x, r2, n, _, rfl, hpl2, fun h4 => absurd h4 (by omega), fun _ _ H3 e3 => ?_, fun _ hl => absurd hl (by rw [lL]; decide)⟩⟩
    refine ⟨rfl, _, rfl, ?_⟩
    rw [neT]
    refine iteF ?_
    have e03 := e1.trans (e2.trans e3)
    have hy3 := (e2.trans e3) _ _ hy
    have ha3 := ha1.imp fun _ _ h => h.mono (e2.trans e3)
    clear hx hdx hxy hpl2 hr2 e2 e3 ha1 hy
    -- eleven
    refine ⟨_, rfl, _, rfl, _, rfl, D, _, rfl, SqL.of hy3, fun p hp => ?_⟩
    have e4 := Ex.new (o := .lst (cutV ys none (some (11 : Int)))) hp
    have hp4 : (upd H3 p (.lst (cutV ys none (some (11 : Int))))) p = some (.lst (ys.take 11)) := by
      rw [upd_same]
      congr 2
      exact cutV_to (n := 11)
    generalize upd H3 p (.lst (cutV ys none (some (11 : Int)))) = H4 at e4 hp4 ⊢
    intro x5 dx5 hx5 hdx5 hxy5
    refine make_plG n1 (by omega) (SqL.of hp4) ((ha3.take 11).imp fun _ _ h => h.mono e4) okL.take hx5 hdx5 hxy5 ?_
    intro H5 r5 e5 hr5 hpl5
    have l11 : ((lgs n (-6)).take 11).length = 11 := by rw [List.length_take, lL]; decide
    refine ⟨0, _, _, rfl, .inl ⟨rfl, x5, r5, n, _, rfl, hpl5, fun h4 => absurd h4 (by omega), fun _ hl => absurd hl (by rw [l11]; decide), fun _ _ H6 a6 r6 e6 hr6 hpl6 => ?_⟩⟩
    obtain ⟨d6, ho6⟩ := hpl6.ob
    have lc : (coneL n ((lgs n (-6)).take 11)).length = 12 := by unfold coneL; rw [List.length_append, List.length_map, l11]; rfl
    refine ⟨a6, d6, _, rfl, ho6, a6, r6, n + 1, _, rfl, hpl6, fun H7 e7 => ⟨_, rfl, by rw [lc]; decide, rfl, _, rfl, ?_⟩⟩
    rw [lc, show (!decide (V.int ((12 : Nat) : Int) = V.int 12)) = false from by rw [decide_eq_true (show V.int ((12 : Nat) : Int) = V.int 12 from rfl)]; rfl]
    refine iteF ?_
    have e37 := (e4.trans e5).trans (e6.trans e7)
    have e07 := e03.trans e37
    have hy7 := e37 _ _ hy3
    have ha7 := ha3.imp fun _ _ h => h.mono e37
    clear hx5 hdx5 hxy5 hpl5 hpl6 hr5 hr6 ho6 e4 e5 e6 e7 hp4 hp ha3 hy3 e37 e03
    -- joined: thirteen
    refine ⟨_, rfl, _, rfl, fun x8 dx8 hx8 hdx8 hxy8 => ?_⟩
    refine make_plG n1 (by omega) (SqL.of hy7) ha7 okL hx8 hdx8 hxy8 ?_
    intro H8 r8 e8 hr8 hpl8
    refine ⟨by show (2 : Nat) ≤ sizeLine; omega, fun t9 ht9 => ?_⟩
    obtain ⟨e9, h9⟩ := pl_of (K := K) [1, 0] ht9
    refine ⟨by show (1 : Nat) ≤ sizeLine; omega, fun p10 hp10 => ?_⟩
    have e10 := Ex.new (o := .lst [.ref t9]) hp10
    have hz10 : All2 (PlV K (upd (upd H8 t9 (.tup ([1, 0].map V.int))) p10 (.lst [.ref t9]))) [.ref t9] [[1, 0]] := .cons (h9.mono e10) .nil
    have hp10' : (upd (upd H8 t9 (.tup ([1, 0].map V.int))) p10 (.lst [.ref t9])) p10 = some (.lst [.ref t9]) := upd_same
    have e810 := e9.trans e10
    intro x11 dx11 hx11 hdx11 hxy11
    refine make_plG (n := 1) (by decide) (by decide) (SqL.of hp10') hz10 one_ok hx11 hdx11 hxy11 ?_
    intro H11 r11 e11 hr11 hpl11
    refine ⟨1, _, _, rfl, .inr ⟨rfl, x8, r8, n, _, x11, r11, 1, _, rfl, rfl, hpl8.mono (e810.trans e11), hpl11, fun h => absurd h (by omega), fun _ _ H12 e12 => ?_, fun _ hl => absurd hl (by rw [lL]; decide)⟩⟩
    refine ⟨rfl, _, rfl, ?_⟩
    rw [neT]
    refine iteF ?_
    have e712 := e8.trans (e810.trans (e11.trans e12))
    have e012 := e07.trans e712
    have hy12 := e712 _ _ hy7
    have ha12 := ha7.imp fun _ _ h => h.mono e712
    clear hx8 hdx8 hxy8 hpl8 hr8 hpl11 hr11 hx11 hdx11 hxy11 e8 e9 e10 e810 e11 e12 e712 e07 hy7 ha7 hz10 hp10' h9 ht9 hp10
    -- joined: twelve and none
    refine ⟨_, rfl, _, rfl, fun x8 dx8 hx8 hdx8 hxy8 => ?_⟩
    refine make_plG n1 (by omega) (SqL.of hy12) ha12 okL hx8 hdx8 hxy8 ?_
    intro H13 r13 e13 hr13 hpl13
    refine ⟨by show (0 : Nat) ≤ sizeLine; omega, fun p14 hp14 => ?_⟩
    have e14 := Ex.new (o := .lst []) hp14
    have hp14' : (upd H13 p14 (.lst [])) p14 = some (.lst []) := upd_same
    intro x15 dx15 hx15 hdx15 hxy15
    refine make_plG (n := 1) (zss := []) (by decide) (by decide) (SqL.of hp14') .nil (nil_ok 1) hx15 hdx15 hxy15 ?_
    intro H15 r15 e15 hr15 hpl15
    refine ⟨1, _, _, rfl, .inr ⟨rfl, x8, r13, n, _, x15, r15, 1, _, rfl, rfl, hpl13.mono (e14.trans e15), hpl15, fun h => absurd h (by omega), fun _ hl => absurd hl (by rw [lL]; decide), fun _ _ H16 a16 r16 e16 hr16 hpl16 => ?_⟩⟩
    obtain ⟨d16, ho16⟩ := hpl16.ob
    have lj : (joinL n 1 (lgs n (-6)) []).length = 12 := by unfold joinL; rw [List.length_append, List.length_map, lL]; rfl
    refine ⟨a16, d16, _, rfl, ho16, a16, r16, n + 1, _, rfl, hpl16, fun H17 e17 => ⟨_, rfl, by rw [lj]; decide, rfl, _, rfl, ?_⟩⟩
    rw [lj, decide_eq_true (show V.int ((12 : Nat) : Int) = V.int 12 from rfl)]
    refine iteT ?_
    have e1217 := (e13.trans (e14.trans e15)).trans (e16.trans e17)
    have e017 := e012.trans e1217
    have hy17 := e1217 _ _ hy12
    have ha17 := ha12.imp fun _ _ h => h.mono e1217
    clear hx8 hdx8 hxy8 hpl13 hr13 hpl15 hr15 hx15 hdx15 hxy15 hpl16 hr16 ho16 e13 e14 e15 e16 e17 e1217 e012 hy12 ha12 hp14' hp14
    -- joined: one and eleven
    refine ⟨by show (2 : Nat) ≤ sizeLine; omega, fun t9 ht9 => ?_⟩
    obtain ⟨e9, h9⟩ := pl_of (K := K) [1, 0] ht9
    refine ⟨by show (1 : Nat) ≤ sizeLine; omega, fun p10 hp10 => ?_⟩
    have e10 := Ex.new (o := .lst [.ref t9]) hp10
    have hz10 : All2 (PlV K (upd (upd H17 t9 (.tup ([1, 0].map V.int))) p10 (.lst [.ref t9]))) [.ref t9] [[1, 0]] := .cons (h9.mono e10) .nil
    have hp10' : (upd (upd H17 t9 (.tup ([1, 0].map V.int))) p10 (.lst [.ref t9])) p10 = some (.lst [.ref t9]) := upd_same
    have e810 := e9.trans e10
    intro x11 dx11 hx11 hdx11 hxy11
    refine make_plG (n := 1) (by decide) (by decide) (SqL.of hp10') hz10 one_ok hx11 hdx11 hxy11 ?_
    intro H18 r18 e18 hr18 hpl18
    have e1718 := e810.trans e18
    refine ⟨_, rfl, _, rfl, _, rfl, ?_⟩
    dsimp only [tNoPart]
    refine ⟨D, _, rfl, SqL.of (e1718 _ _ hy17), fun p19 hp19 => ?_⟩
    have e19 := Ex.new (o := .lst (cutV ys (some (1 : Int)) none)) hp19
    have hp19' : (upd H18 p19 (.lst (cutV ys (some (1 : Int)) none))) p19 = some (.lst (ys.drop 1)) := by
      rw [upd_same]
      congr 2
      exact cutV_from (n := 1)
    have ha19 := ha17.imp fun _ _ h => h.mono (e1718.trans e19)
    have hpl19 := hpl18.mono e19
    generalize upd H18 p19 (.lst (cutV ys (some (1 : Int)) none)) = H19 at e19 hp19' ha19 hpl19 ⊢
    intro x20 dx20 hx20 hdx20 hxy20
    refine make_plG n1 (by omega) (SqL.of hp19') (ha19.drop 1) okL.drop hx20 hdx20 hxy20 ?_
    intro H20 r20 e20 hr20 hpl20
    have ld : ((lgs n (-6)).drop 1).length = 11 := by rw [List.length_drop, lL]
    refine ⟨1, _, _, rfl, .inr ⟨rfl, x11, r18, 1, _, x20, r20, n, _, rfl, rfl, hpl19.mono e20, hpl20, fun h => absurd h (by omega), fun _ hl => absurd hl (by rw [ld]; decide), fun _ _ H21 a21 r21 e21 hr21 hpl21 => ?_⟩⟩
    obtain ⟨d21, ho21⟩ := hpl21.ob
    have lk : (joinL 1 n [[1, 0]] ((lgs n (-6)).drop 1)).length = 12 := by unfold joinL; rw [List.length_append, List.length_map, List.length_map, ld]; rfl
    refine ⟨a21, d21, _, rfl, ho21, a21, r21, 1 + n, _, rfl, hpl21, fun H22 e22 => ⟨_, rfl, by rw [lk]; decide, rfl, ?_⟩⟩
    rw [lk, decide_eq_true (show V.int ((12 : Nat) : Int) = V.int 12 from rfl)]
    exact q _ (e017.trans (e1718.trans (e19.trans (e20.trans (e21.trans e22)))))
/-! ### the law -/
def sp_law (K : PySem.W.Frag) : Sp := fun vs H Q _ => ∃ (a : Addr) (ns : List Int), vs = [.ref a] ∧ SqL K H a (ns.map V.int) ∧ ns.length ≤ 63 ∧ ∀ H', Q (.bl true) H'
theorem ok_law (T : Txt K w mg ad fd) : CalG P w K mg base CX0 9 "law" (ad 64) (fd 64) ["script"] (sp_law K) := by
  refine ⟨T.f_law.okGn sc_law (fun vs H Q E h => ?_) (fun cdv A outer s H vs Q E gd hr h => ?_), T.g_law, T.f_law.kp, T.f_law.binds (ps := ["script"]) fun _ _ _ _ _ _ us hl => match us, hl with | [_], _ => rfl⟩
  · obtain ⟨a, ns, rfl, _⟩ := h
    rfl
  · obtain ⟨sc, ns, rfl, hS, hlen, q⟩ := h
    have hu := hr.units
    have sz : sizeLine = 16777216 := sizeLine_eq
    refine ⟨_, (pss_cons (ps_set (i := 1) sc_law.nd rfl (by first | exact Or.inl rfl | exact Or.inr rfl) (pe_cal (ok__law_draws T (P := P) (w := w) (base := base)) (hr.mono (by decide)) pass0 (pa_cons (pv 0) pa_nil)))
    (pss_cons (ps_expr (pe_bm0 PySem.F.plainAttrs_list PySem.F.slot_list_reverse PySem.F.type_list_reverse mt_reverse (pv 1)))
    (pss_cons (ps_set (i := 2) sc_law.nd rfl (by first | exact Or.inl rfl | exact Or.inr rfl) (pe_op op_add pe_int (pe_op op_mod (pe_callTy (T := "int") call_int1 (by rfl) T.m_int (by decide +kernel) (pa_cons (pe_cal (ok__law_next T (P := P) (w := w) (base := base)) (hr.mono (by decide)) pass0 (pa_cons (pv 1) pa_nil)) pa_nil)) pe_int)))
    (pss_cons (ps_asg (pe_cal (ok__law_planes T (P := P) (w := w) (base := base)) (hr.mono (by decide)) pass0 (pa_cons (pv 1) (pa_cons (pv 2) (pa_cons pe_int pa_nil)))) (pg_lst (n := 2) rfl (pgs_cons (pg_name (i := 3) sc_law.nd rfl (by first | exact Or.inl rfl | exact Or.inr rfl)) (pgs_cons (pg_name (i := 4) sc_law.nd rfl (by first | exact Or.inl rfl | exact Or.inr rfl)) pgs_nil))))
    (pss_cons (ps_set (i := 5) sc_law.nd rfl (by first | exact Or.inl rfl | exact Or.inr rfl) (pe_cal (ok__law_point T (P := P) (w := w) (base := base)) (hr.mono (by decide)) pass0 (pa_cons (pv 1) (pa_cons (pv 2) (pa_cons (pv 4) pa_nil)))))
    (pss_cons (ps_set (i := 6) sc_law.nd rfl (by first | exact Or.inl rfl | exact Or.inr rfl) (pe_op op_add pe_int (pe_op op_mod (pe_callTy (T := "int") call_int1 (by rfl) T.m_int (by decide +kernel) (pa_cons (pe_cal (ok__law_next T (P := P) (w := w) (base := base)) (hr.mono (by decide)) pass0 (pa_cons (pv 1) pa_nil)) pa_nil)) pe_int)))
    (pss_cons (ps_asg (pe_cal (ok__law_planes T (P := P) (w := w) (base := base)) (hr.mono (by decide)) pass0 (pa_cons (pv 1) (pa_cons (pv 6) (pa_cons pe_int pa_nil)))) (pg_lst (n := 2) rfl (pgs_cons (pg_name (i := 7) sc_law.nd rfl (by first | exact Or.inl rfl | exact Or.inr rfl)) (pgs_cons (pg_name (i := 4) sc_law.nd rfl (by first | exact Or.inl rfl | exact Or.inr rfl)) pgs_nil))))
    (pss_cons (ps_set (i := 8) sc_law.nd rfl (by first | exact Or.inl rfl | exact Or.inr rfl) (pe_cal (ok__law_point T (P := P) (w := w) (base := base)) (hr.mono (by decide)) pass0 (pa_cons (pv 1) (pa_cons (pv 6) (pa_cons (pv 4) pa_nil)))))
    (pss_cons (ps_if (L2.PW.pt (pw_or (pt_not (pt_val (pe_calG (ok__law_cone T (P := P) (w := w) (base := base)) gd (hr.mono (by decide)) (pa_cons (pv 1) (pa_cons (pv 2) (pa_cons (pv 3) (pa_cons (pv 5) pa_nil))))))) (pw_or1 (pt_not (pt_val (pe_calG (ok__law_joined T (P := P) (w := w) (base := base)) gd (hr.mono (by decide)) (pa_cons (pv 2) (pa_cons (pv 3) (pa_cons (pv 5) (pa_cons (pv 6) (pa_cons (pv 7) (pa_cons (pv 8) pa_nil)))))))))))) (pss_one (ps_ret pe_bl)) pss_nil)
    (pss_cons (ps_if (pt_not (pt_val (pe_calG (ok__law_joined T (P := P) (w := w) (base := base)) gd (hr.mono (by decide)) (pa_cons (pv 6) (pa_cons (pv 7) (pa_cons (pv 8) (pa_cons (pv 2) (pa_cons (pv 3) (pa_cons (pv 5) pa_nil))))))))) (pss_one (ps_ret pe_bl)) pss_nil)
    (pss_cons (ps_setLc (i := 9) (own := [("at", 10)]) rfl sc_law.nd rfl rfl (sw_true rfl rfl rfl (by decide +kernel)) (pi_range1 rfl T.m_range (pa_cons pe_int pa_nil)) (blkOk_by (N := ["script", "draws", "n", "rows", "middle", "point", "m", "others", "place", "long", "at"]) (sc := defScope s_law) (by decide +kernel)) (fun _ _ _ _ _ => (pg_name (i := 10) sc_law.nd rfl (by first | exact Or.inl rfl | exact Or.inr rfl))) (fun _ _ _ _ _ => pts_nil) (fun _ _ _ _ _ => (pe_tup (pa_cons pe_int (pa_cons pe_int (pa_cons pe_int (pa_cons pe_int (pa_cons (pv 10) pa_nil))))))))
    (pss_cons (ps_if (L2.PW.pt (pw_or (pt_cmpR op_ne (pe_calG (ok__law_told T (P := P) (w := w) (base := base)) gd (hr.mono (by decide)) (pa_cons pe_int (pa_cons (pe_make T.mk_Planes (ok_Planes_init T (P := P) (w := w) (base := base)).ok (hr.mono (by decide)) rfl T.g_Planes (ok_Planes_init T (P := P) (w := w) (base := base)).b .nil pass0 (pa_cons pe_int (pa_cons (pv 9) pa_nil))) (pa_cons pe_int pa_nil)))) pe_str (nomark _)) (pw_or1 (pt_cmpR op_ne (pe_calG (ok__law_told T (P := P) (w := w) (base := base)) gd (hr.mono (by decide)) (pa_cons pe_int (pa_cons (pe_make T.mk_Planes (ok_Planes_init T (P := P) (w := w) (base := base)).ok (hr.mono (by decide)) rfl T.g_Planes (ok_Planes_init T (P := P) (w := w) (base := base)).b .nil pass0 (pa_cons pe_int (pa_cons (pv 9) pa_nil))) (pa_cons (pe_make T.mk_Planes (ok_Planes_init T (P := P) (w := w) (base := base)).ok (hr.mono (by decide)) rfl T.g_Planes (ok_Planes_init T (P := P) (w := w) (base := base)).b .nil pass0 (pa_cons pe_int (pa_cons (pe_lst (pa_cons (pe_tup (pa_cons pe_int (pa_cons pe_int pa_nil))) pa_nil)) pa_nil))) pa_nil)))) pe_str (nomark _))))) (pss_one (ps_ret pe_bl)) pss_nil)
    (pss_one (ps_ret (pe_or (pe_cmpR op_eq (pv 2) pe_int (nomark _)) (pe_one (pe_calG (ok__law_bounds T (P := P) (w := w) (base := base)) gd (hr.mono (by decide)) (pa_cons (pv 2) (pa_cons (pv 3) pa_nil))))))))))))))))))), ?_⟩
    -- draws
    refine ⟨.ref sc, rfl, sc, ns, rfl, hS, hlen, fun H1 l dH => ?_⟩
    obtain ⟨e1, nl, ds, hl, hd, _⟩ := dH
    refine ⟨.ref l, rfl, .inl ⟨rfl, _, .inl (.inl hl)⟩, l, _, rfl, rfl, hl, ?_⟩
    have dA : DrA l (upd H1 l (.lst (ds.map V.int).reverse)) := ⟨ds.reverse, by rw [upd_same, List.map_reverse], fun d h => hd d (List.mem_reverse.mp h)⟩
    generalize upd H1 l (.lst (ds.map V.int).reverse) = H2 at dA ⊢
    clear hl nl e1
    -- n, rows, middle
    refine ⟨_, rfl, l, rfl, dA, fun H3 d d0 d1 m3 => .inl ⟨_, rfl, _, _, rfl, rfl, by show (0 : Int) < 4; decide, _, _, rfl, rfl, ?_⟩⟩
    obtain ⟨n, hn, n1, n4⟩ : ∃ n : Nat, 1 + d % 4 = (n : Int) ∧ 1 ≤ n ∧ n ≤ 4 := ⟨(1 + d % 4).toNat, by omega, by omega, by omega⟩
    rw [show (fun i j : Int => V.int (i + j)) 1 (d % 4) = V.int (n : Int) from congrArg V.int hn]
    refine ⟨_, rfl, _, rfl, l, n, 6, rfl, m3.2, n1, n4, by decide, fun H4 v f p us zss gs m4 hv nf np nv hf hz hok hz6 hg => ?_⟩
    refine ⟨v, _, rfl, SqL.of hv, rfl, _, _, rfl, _, _, rfl, rfl, ?_⟩
    -- point
    refine ⟨_, rfl, _, rfl, _, rfl, l, p, n, gs, rfl, m4.2, n1, n4, hg, np, fun H5 pt ps m5 hpt hps hpn => ?_⟩
    have hf5 := m5.1 _ _ nf hf
    have hz5 := hz.imp fun _ _ h => mv_plv m4.2 m5 h
    clear hf hz hg hv
    -- m, others
    refine ⟨_, rfl, l, rfl, m5.2, fun H6 b b0 b1 m6 => .inl ⟨_, rfl, _, _, rfl, rfl, by show (0 : Int) < 3; decide, _, _, rfl, rfl, ?_⟩⟩
    obtain ⟨m, hm, mm1, mm3⟩ : ∃ n : Nat, 1 + b % 3 = (n : Int) ∧ 1 ≤ n ∧ n ≤ 3 := ⟨(1 + b % 3).toNat, by omega, by omega, by omega⟩
    rw [show (fun i j : Int => V.int (i + j)) 1 (b % 3) = V.int (m : Int) from congrArg V.int hm]
    refine ⟨_, rfl, _, rfl, l, m, 6, rfl, m6.2, mm1, by omega, by decide, fun H7 v2 g p2 ws yss gs2 m7 hv2 ng np2 nv2 hg7 hy hok2 hy6 hgg => ?_⟩
    refine ⟨v2, _, rfl, SqL.of hv2, rfl, _, _, rfl, _, _, rfl, rfl, ?_⟩
    have m57 := m6.trans m7
    have hf7 := m57.1 _ _ nf hf5
    have hz7 := hz5.imp fun _ _ h => mv_plv m5.2 m57 h
    have hpt7 := mv_pt m5.2 m57 hpt
    refine ⟨_, rfl, _, rfl, _, rfl, l, p2, m, gs2, rfl, m7.2, mm1, by omega, hgg, np2, fun H8 rt rs m8 hrt hrs hrm => ?_⟩
    have hf8 := m8.1 _ _ nf hf7
    have hz8 := hz7.imp fun _ _ h => mv_plv m7.2 m8 h
    have hpt8 := mv_pt m7.2 m8 hpt7
    have hg8 := m8.1 _ _ ng hg7
    have hy8 := hy.imp fun _ _ h => mv_plv m7.2 m8 h
    clear hf7 hz7 hpt7 hg7 hy hgg hv2 hf5 hz5 hpt
    -- cone
    refine ⟨_, rfl, _, rfl, _, rfl, _, rfl, l, f, n, pt, us, zss, ps, rfl, m8.2, nf, n1, n4, hf8, hz8, hok, by omega, hpt8, hps, hpn, fun H9 m9 => ?_⟩
    have hf9 := m9.1 _ _ nf hf8
    have hz9 := hz8.imp fun _ _ h => mv_plv m8.2 m9 h
    have hpt9 := mv_pt m8.2 m9 hpt8
    have hg9 := m9.1 _ _ ng hg8
    have hy9 := hy8.imp fun _ _ h => mv_plv m8.2 m9 h
    have hrt9 := mv_pt m8.2 m9 hrt
    clear hf8 hz8 hpt8 hg8 hy8 hrt
    refine ⟨_, rfl, iteF ?_⟩
    refine ⟨_, rfl, _, rfl, _, rfl, _, rfl, _, rfl, _, rfl, n, m, f, g, pt, rt, us, ws, zss, yss, ps, rs, rfl, n1, n4, mm1, by omega, hf9, hg9, hz9, hy9, hok, hok2, by omega, hpt9, hrt9, hps.ok, hrs.ok, hpn, hrm, fun H10 e10 => ?_⟩
    refine ⟨_, rfl, iteF ?_⟩
    have hf10 := e10 _ _ hf9
    have hg10 := e10 _ _ hg9
    have hz10 := hz9.imp fun _ _ h => h.mono e10
    have hy10 := hy9.imp fun _ _ h => h.mono e10
    refine ⟨_, rfl, _, rfl, _, rfl, _, rfl, _, rfl, _, rfl, m, n, g, f, rt, pt, ws, us, yss, zss, rs, ps, rfl, mm1, by omega, n1, n4, hg10, hf10, hy10, hz10, hok2, hok, by omega, hrt9.mono e10, hpt9.mono e10, hrs.ok, hps.ok, hrm, hpn, fun H11 e11 => ?_⟩
    refine ⟨_, rfl, iteF ?_⟩
    -- long
    refine ⟨12, rfl, by decide, by decide, fun D hD => ?_⟩
    refine lc_acc (l := none) wk_range hD (fun i acc H' => All2 (PlV K H') acc ((lgs 4 0).take i)) .nil (fun _ _ _ _ e h => h.imp fun _ _ h => h.mono e) ?_ ?_
    · rintro i x H1 acc hi e1 hy hl' ha' rfl
      have hi : i < 12 := hi
      refine ⟨rfl, ?_⟩
      refine ⟨_, rfl, by show (5 : Nat) ≤ sizeLine; omega, fun t2 ht2 => ?_⟩
      obtain ⟨e2, h2⟩ := pl_of (K := K) [1, 0, 0, 0, 0 + (i : Int)] ht2
      have hlg : (lgs 4 0)[i]? = some (lg 4 0 i) := by
        unfold lgs
        rw [List.getElem?_map, List.getElem?_range hi]
        rfl
      have e5 : lg 4 0 i = [1, 0, 0, 0, 0 + (i : Int)] := by
        show [1, 0, 0, 0, (i : Int) + 0] = _
        rw [show (i : Int) + 0 = 0 + i by omega]
      have hy2 := e2 _ _ hy
      refine LcP.push hD (e1.trans (Exo.of e2)) hy2 hl' (by omega) ?_
      rw [List.take_add_one, hlg, e5]
      exact (ha'.imp fun _ _ h => plv_upd (h.mono e2) hy2).app (.cons (plv_upd h2 hy2) .nil)
    rintro H12 ys e12 hyD ha12
    have e12 := e12.ex
    have ha12 : All2 (PlV K H12) ys ((lgs 4 0).take 12) := ha12
    rw [show (12 : Nat) = (lgs 4 0).length from (lgs_len _ _).symm, List.take_length] at ha12
    have okL := lgs_ok (n := 4) (c := 0) (by decide) (by decide)
    have lL := lgs_len 4 0
    change Ends.nx _ _ _
    dsimp only
    refine ⟨_, rfl, fun x dx hx hdx hxy => ?_⟩
    refine make_plG (n := 4) (by decide) (by decide) (SqL.of hyD) ha12 okL hx hdx hxy ?_
    intro H13 r13 e13 hr13 hpl13
    refine ⟨0, _, _, rfl, .inl ⟨rfl, x, r13, 4, _, rfl, hpl13, fun _ H14 e14 => ?_, fun h => absurd rfl h, fun h => absurd rfl h⟩⟩
    refine ⟨rfl, _, rfl, ?_⟩
    rw [neB]
    refine iteF ?_
    have e1214 := e13.trans e14
    have hy14 := e1214 _ _ hyD
    have ha14 := ha12.imp fun _ _ h => h.mono e1214
    refine ⟨_, rfl, fun x8 dx8 hx8 hdx8 hxy8 => ?_⟩
    refine make_plG (n := 4) (by decide) (by decide) (SqL.of hy14) ha14 okL hx8 hdx8 hxy8 ?_
    intro H15 r15 e15 hr15 hpl15
    refine ⟨by show (2 : Nat) ≤ sizeLine; omega, fun t9 ht9 => ?_⟩
    obtain ⟨e9, h9⟩ := pl_of (K := K) [1, 0] ht9
    refine ⟨by show (1 : Nat) ≤ sizeLine; omega, fun p10 hp10 => ?_⟩
    have e16 := Ex.new (o := .lst [.ref t9]) hp10
    have hz16 : All2 (PlV K (upd (upd H15 t9 (.tup ([1, 0].map V.int))) p10 (.lst [.ref t9]))) [.ref t9] [[1, 0]] := .cons (h9.mono e16) .nil
    have hp16 : (upd (upd H15 t9 (.tup ([1, 0].map V.int))) p10 (.lst [.ref t9])) p10 = some (.lst [.ref t9]) := upd_same
    have e916 := e9.trans e16
    intro x11 dx11 hx11 hdx11 hxy11
    refine make_plG (n := 1) (by decide) (by decide) (SqL.of hp16) hz16 one_ok hx11 hdx11 hxy11 ?_
    intro H17 r17 e17 hr17 hpl17
    refine ⟨1, _, _, rfl, .inr ⟨rfl, x8, r15, 4, _, x11, r17, 1, _, rfl, rfl, hpl15.mono (e916.trans e17), hpl17, fun _ H18 e18 => ?_, fun h => absurd h (by decide), fun h => absurd h (by decide)⟩⟩
    refine ⟨rfl, _, rfl, ?_⟩
    rw [neB]
    refine iteF ?_
    -- n = 4, or the bounds
    refine ⟨_, rfl, rfl, _, rfl, ?_⟩
    by_cases h4 : n = 4
    · rw [decide_eq_true (show V.int (n : Int) = V.int 4 by rw [h4]; rfl)]
      exact iteT (q _)
    · rw [decide_eq_false (show ¬ V.int (n : Int) = V.int 4 from fun e => h4 (by have := V.int.inj e; omega))]
      exact iteF ⟨_, rfl, _, rfl, n, _, rfl, n1, by omega, fun H19 _ => q _⟩
end
theorem all_mk {l : PySem.W.OpenLaw} {w : World} {K : PySem.W.Frag} {h : Heap} {mg : Str → Option Value} {fa q3 q4 q5 q7 q8 q9 q11 q12 q13 q14 q15 q16 q18 q19 q20 q21 q22 q29 q30 q31 q32 q33 q34 q35 q36 q37 q38 q39 q41 q42 q44 q45 q46 q47 q48 q49 q50 q53 q54 q55 q56 q57 q58 q59 q60 q61 q62 q63 q64 q1660 q1661 q1663 q1665 : Addr} (X : K.In h) (G : h.Ns mainGlobals mg) (hfa : mg "law" = some (.ref fa))
  {oc11 kV11 dc11 pm11 cd11 ct11 : Value} {od11 an11 : Option Addr} {sl11 : Array (Option Value)}
  {oc12 kV12 dc12 pm12 cd12 ct12 : Value} {od12 an12 : Option Addr} {sl12 : Array (Option Value)}
  {oc13 kV13 dc13 pm13 cd13 ct13 : Value} {od13 an13 : Option Addr} {sl13 : Array (Option Value)}
  {oc14 kV14 dc14 pm14 cd14 ct14 : Value} {od14 an14 : Option Addr} {sl14 : Array (Option Value)}
  {oc15 kV15 dc15 pm15 cd15 ct15 : Value} {od15 an15 : Option Addr} {sl15 : Array (Option Value)}
  {oc16 kV16 dc16 pm16 cd16 ct16 : Value} {od16 an16 : Option Addr} {sl16 : Array (Option Value)}
  {oc18 kV18 dc18 pm18 cd18 ct18 : Value} {od18 an18 : Option Addr} {sl18 : Array (Option Value)}
  {oc19 kV19 dc19 pm19 cd19 ct19 : Value} {od19 an19 : Option Addr} {sl19 : Array (Option Value)}
  {oc20 kV20 dc20 pm20 cd20 ct20 : Value} {od20 an20 : Option Addr} {sl20 : Array (Option Value)}
  {oc21 kV21 dc21 pm21 cd21 ct21 : Value} {od21 an21 : Option Addr} {sl21 : Array (Option Value)}
  {oc22 kV22 dc22 pm22 cd22 ct22 : Value} {od22 an22 : Option Addr} {sl22 : Array (Option Value)}
  {oc29 kV29 dc29 pm29 cd29 ct29 : Value} {od29 an29 : Option Addr} {sl29 : Array (Option Value)}
  {oc30 kV30 dc30 pm30 cd30 ct30 : Value} {od30 an30 : Option Addr} {sl30 : Array (Option Value)}
  {oc31 kV31 dc31 pm31 cd31 ct31 : Value} {od31 an31 : Option Addr} {sl31 : Array (Option Value)}
  {oc32 kV32 dc32 pm32 cd32 ct32 : Value} {od32 an32 : Option Addr} {sl32 : Array (Option Value)}
  {oc34 kV34 dc34 pm34 cd34 ct34 : Value} {od34 an34 : Option Addr} {sl34 : Array (Option Value)}
  {oc35 kV35 dc35 pm35 cd35 ct35 : Value} {od35 an35 : Option Addr} {sl35 : Array (Option Value)}
  {oc36 kV36 dc36 pm36 cd36 ct36 : Value} {od36 an36 : Option Addr} {sl36 : Array (Option Value)}
  {oc37 kV37 dc37 pm37 cd37 ct37 : Value} {od37 an37 : Option Addr} {sl37 : Array (Option Value)}
  {oc38 kV38 dc38 pm38 cd38 ct38 : Value} {od38 an38 : Option Addr} {sl38 : Array (Option Value)}
  {oc39 kV39 dc39 pm39 cd39 ct39 : Value} {od39 an39 : Option Addr} {sl39 : Array (Option Value)}
  {oc41 kV41 dc41 pm41 cd41 ct41 : Value} {od41 an41 : Option Addr} {sl41 : Array (Option Value)}
  {oc42 kV42 dc42 pm42 cd42 ct42 : Value} {od42 an42 : Option Addr} {sl42 : Array (Option Value)}
  {oc44 kV44 dc44 pm44 cd44 ct44 : Value} {od44 an44 : Option Addr} {sl44 : Array (Option Value)}
  {oc45 kV45 dc45 pm45 cd45 ct45 : Value} {od45 an45 : Option Addr} {sl45 : Array (Option Value)}
  {oc46 kV46 dc46 pm46 cd46 ct46 : Value} {od46 an46 : Option Addr} {sl46 : Array (Option Value)}
  {oc47 kV47 dc47 pm47 cd47 ct47 : Value} {od47 an47 : Option Addr} {sl47 : Array (Option Value)}
  {oc48 kV48 dc48 pm48 cd48 ct48 : Value} {od48 an48 : Option Addr} {sl48 : Array (Option Value)}
  {oc49 kV49 dc49 pm49 cd49 ct49 : Value} {od49 an49 : Option Addr} {sl49 : Array (Option Value)}
  {oc50 kV50 dc50 pm50 cd50 ct50 : Value} {od50 an50 : Option Addr} {sl50 : Array (Option Value)}
  {oc53 kV53 dc53 pm53 cd53 ct53 : Value} {od53 an53 : Option Addr} {sl53 : Array (Option Value)}
  {oc54 kV54 dc54 pm54 cd54 ct54 : Value} {od54 an54 : Option Addr} {sl54 : Array (Option Value)}
  {oc55 kV55 dc55 pm55 cd55 ct55 : Value} {od55 an55 : Option Addr} {sl55 : Array (Option Value)}
  {oc56 kV56 dc56 pm56 cd56 ct56 : Value} {od56 an56 : Option Addr} {sl56 : Array (Option Value)}
  {oc57 kV57 dc57 pm57 cd57 ct57 : Value} {od57 an57 : Option Addr} {sl57 : Array (Option Value)}
  {oc58 kV58 dc58 pm58 cd58 ct58 : Value} {od58 an58 : Option Addr} {sl58 : Array (Option Value)}
  {oc59 kV59 dc59 pm59 cd59 ct59 : Value} {od59 an59 : Option Addr} {sl59 : Array (Option Value)}
  {oc60 kV60 dc60 pm60 cd60 ct60 : Value} {od60 an60 : Option Addr} {sl60 : Array (Option Value)}
  {oc61 kV61 dc61 pm61 cd61 ct61 : Value} {od61 an61 : Option Addr} {sl61 : Array (Option Value)}
  {oc62 kV62 dc62 pm62 cd62 ct62 : Value} {od62 an62 : Option Addr} {sl62 : Array (Option Value)}
  {oc63 kV63 dc63 pm63 cd63 ct63 : Value} {od63 an63 : Option Addr} {sl63 : Array (Option Value)}
  {oc64 kV64 dc64 pm64 cd64 ct64 : Value} {od64 an64 : Option Addr} {sl64 : Array (Option Value)}
  {oc1660 kV1660 dc1660 pm1660 cd1660 ct1660 : Value} {od1660 an1660 : Option Addr} {sl1660 : Array (Option Value)}
  {oc1661 kV1661 dc1661 pm1661 cd1661 ct1661 : Value} {od1661 an1661 : Option Addr} {sl1661 : Array (Option Value)}
  {oc1663 kV1663 dc1663 pm1663 cd1663 ct1663 : Value} {od1663 an1663 : Option Addr} {sl1663 : Array (Option Value)}
  {oc1665 kV1665 dc1665 pm1665 cd1665 ct1665 : Value} {od1665 an1665 : Option Addr} {sl1665 : Array (Option Value)}
  {uc24 : Tok}
  {uc25 : Tok}
  {uc26 : Tok}
  {uc27 : Tok}
  {qd28 : Addr} {ud28_0 ud28_1 ud28_2 : Tok}
  (a11 : PySem.W.nsIn K mainGlobals "is_number" = some (some (.ref q11)))
  (l11 : K.lookup q11 = some ⟨oc11, od11, .func (PySem.W.fnOf "is_number" "is_number" (defArgs s_is_number) (defBody s_is_number) (defScope s_is_number) .none kV11 dc11 pm11 an11 cd11 ct11), sl11⟩)
  (c11 : PySem.W.codeIn K cd11 "is_number" = true)
  (k11 : PySem.W.keepIn K (.ref q11) = true)
  (a12 : PySem.W.nsIn K mainGlobals "check_number" = some (some (.ref q12)))
  (l12 : K.lookup q12 = some ⟨oc12, od12, .func (PySem.W.fnOf "check_number" "check_number" (defArgs s_check_number) (defBody s_check_number) (defScope s_check_number) .none kV12 dc12 pm12 an12 cd12 ct12), sl12⟩)
  (c12 : PySem.W.codeIn K cd12 "check_number" = true)
  (k12 : PySem.W.keepIn K (.ref q12) = true)
  (a13 : PySem.W.nsIn K mainGlobals "content" = some (some (.ref q13)))
  (l13 : K.lookup q13 = some ⟨oc13, od13, .func (PySem.W.fnOf "content" "content" (defArgs s_content) (defBody s_content) (defScope s_content) .none kV13 dc13 pm13 an13 cd13 ct13), sl13⟩)
  (c13 : PySem.W.codeIn K cd13 "content" = true)
  (k13 : PySem.W.keepIn K (.ref q13) = true)
  (a14 : PySem.W.nsIn K mainGlobals "primitive" = some (some (.ref q14)))
  (l14 : K.lookup q14 = some ⟨oc14, od14, .func (PySem.W.fnOf "primitive" "primitive" (defArgs s_primitive) (defBody s_primitive) (defScope s_primitive) .none kV14 dc14 pm14 an14 cd14 ct14), sl14⟩)
  (c14 : PySem.W.codeIn K cd14 "primitive" = true)
  (k14 : PySem.W.keepIn K (.ref q14) = true)
  (a15 : PySem.W.nsIn K mainGlobals "over_one_divisor" = some (some (.ref q15)))
  (l15 : K.lookup q15 = some ⟨oc15, od15, .func (PySem.W.fnOf "over_one_divisor" "over_one_divisor" (defArgs s_over_one_divisor) (defBody s_over_one_divisor) (defScope s_over_one_divisor) .none kV15 dc15 pm15 an15 cd15 ct15), sl15⟩)
  (c15 : PySem.W.codeIn K cd15 "over_one_divisor" = true)
  (k15 : PySem.W.keepIn K (.ref q15) = true)
  (a16 : PySem.W.nsIn K mainGlobals "negated" = some (some (.ref q16)))
  (l16 : K.lookup q16 = some ⟨oc16, od16, .func (PySem.W.fnOf "negated" "negated" (defArgs s_negated) (defBody s_negated) (defScope s_negated) .none kV16 dc16 pm16 an16 cd16 ct16), sl16⟩)
  (c16 : PySem.W.codeIn K cd16 "negated" = true)
  (k16 : PySem.W.keepIn K (.ref q16) = true)
  (a18 : PySem.W.nsIn K mainGlobals "is_number_row" = some (some (.ref q18)))
  (l18 : K.lookup q18 = some ⟨oc18, od18, .func (PySem.W.fnOf "is_number_row" "is_number_row" (defArgs s_is_number_row) (defBody s_is_number_row) (defScope s_is_number_row) .none kV18 dc18 pm18 an18 cd18 ct18), sl18⟩)
  (c18 : PySem.W.codeIn K cd18 "is_number_row" = true)
  (k18 : PySem.W.keepIn K (.ref q18) = true)
  (a19 : PySem.W.nsIn K mainGlobals "first_row_with" = some (some (.ref q19)))
  (l19 : K.lookup q19 = some ⟨oc19, od19, .func (PySem.W.fnOf "first_row_with" "first_row_with" (defArgs s_first_row_with) (defBody s_first_row_with) (defScope s_first_row_with) .none kV19 dc19 pm19 an19 cd19 ct19), sl19⟩)
  (c19 : PySem.W.codeIn K cd19 "first_row_with" = true)
  (k19 : PySem.W.keepIn K (.ref q19) = true)
  (a20 : PySem.W.nsIn K mainGlobals "struck" = some (some (.ref q20)))
  (l20 : K.lookup q20 = some ⟨oc20, od20, .func (PySem.W.fnOf "struck" "struck" (defArgs s_struck) (defBody s_struck) (defScope s_struck) .none kV20 dc20 pm20 an20 cd20 ct20), sl20⟩)
  (c20 : PySem.W.codeIn K cd20 "struck" = true)
  (k20 : PySem.W.keepIn K (.ref q20) = true)
  (a21 : PySem.W.nsIn K mainGlobals "whole_echelon" = some (some (.ref q21)))
  (l21 : K.lookup q21 = some ⟨oc21, od21, .func (PySem.W.fnOf "whole_echelon" "whole_echelon" (defArgs s_whole_echelon) (defBody s_whole_echelon) (defScope s_whole_echelon) .none kV21 dc21 pm21 an21 cd21 ct21), sl21⟩)
  (c21 : PySem.W.codeIn K cd21 "whole_echelon" = true)
  (k21 : PySem.W.keepIn K (.ref q21) = true)
  (a22 : PySem.W.nsIn K mainGlobals "whole_product" = some (some (.ref q22)))
  (l22 : K.lookup q22 = some ⟨oc22, od22, .func (PySem.W.fnOf "whole_product" "whole_product" (defArgs s_whole_product) (defBody s_whole_product) (defScope s_whole_product) .none kV22 dc22 pm22 an22 cd22 ct22), sl22⟩)
  (c22 : PySem.W.codeIn K cd22 "whole_product" = true)
  (k22 : PySem.W.keepIn K (.ref q22) = true)
  (a29 : PySem.W.nsIn K mainGlobals "check_letters" = some (some (.ref q29)))
  (l29 : K.lookup q29 = some ⟨oc29, od29, .func (PySem.W.fnOf "check_letters" "check_letters" (defArgs s_check_letters) (defBody s_check_letters) (defScope s_check_letters) .none kV29 dc29 pm29 an29 cd29 ct29), sl29⟩)
  (c29 : PySem.W.codeIn K cd29 "check_letters" = true)
  (k29 : PySem.W.keepIn K (.ref q29) = true)
  (a30 : PySem.W.nsIn K mainGlobals "is_plane" = some (some (.ref q30)))
  (l30 : K.lookup q30 = some ⟨oc30, od30, .func (PySem.W.fnOf "is_plane" "is_plane" (defArgs s_is_plane) (defBody s_is_plane) (defScope s_is_plane) .none kV30 dc30 pm30 an30 cd30 ct30), sl30⟩)
  (c30 : PySem.W.codeIn K cd30 "is_plane" = true)
  (k30 : PySem.W.keepIn K (.ref q30) = true)
  (a31 : PySem.W.nsIn K mainGlobals "check_point" = some (some (.ref q31)))
  (l31 : K.lookup q31 = some ⟨oc31, od31, .func (PySem.W.fnOf "check_point" "check_point" (defArgs s_check_point) (defBody s_check_point) (defScope s_check_point) .none kV31 dc31 pm31 an31 cd31 ct31), sl31⟩)
  (c31 : PySem.W.codeIn K cd31 "check_point" = true)
  (k31 : PySem.W.keepIn K (.ref q31) = true)
  (a32 : PySem.W.nsIn K mainGlobals "check_planes" = some (some (.ref q32)))
  (l32 : K.lookup q32 = some ⟨oc32, od32, .func (PySem.W.fnOf "check_planes" "check_planes" (defArgs s_check_planes) (defBody s_check_planes) (defScope s_check_planes) .none kV32 dc32 pm32 an32 cd32 ct32), sl32⟩)
  (c32 : PySem.W.codeIn K cd32 "check_planes" = true)
  (k32 : PySem.W.keepIn K (.ref q32) = true)
  (a34 : PySem.W.nsIn K mainGlobals "sign_letter" = some (some (.ref q34)))
  (l34 : K.lookup q34 = some ⟨oc34, od34, .func (PySem.W.fnOf "sign_letter" "sign_letter" (defArgs s_sign_letter) (defBody s_sign_letter) (defScope s_sign_letter) .none kV34 dc34 pm34 an34 cd34 ct34), sl34⟩)
  (c34 : PySem.W.codeIn K cd34 "sign_letter" = true)
  (k34 : PySem.W.keepIn K (.ref q34) = true)
  (a35 : PySem.W.nsIn K mainGlobals "sides_of" = some (some (.ref q35)))
  (l35 : K.lookup q35 = some ⟨oc35, od35, .func (PySem.W.fnOf "sides_of" "sides_of" (defArgs s_sides_of) (defBody s_sides_of) (defScope s_sides_of) .none kV35 dc35 pm35 an35 cd35 ct35), sl35⟩)
  (c35 : PySem.W.codeIn K cd35 "sides_of" = true)
  (k35 : PySem.W.keepIn K (.ref q35) = true)
  (a36 : PySem.W.nsIn K mainGlobals "row_of" = some (some (.ref q36)))
  (l36 : K.lookup q36 = some ⟨oc36, od36, .func (PySem.W.fnOf "row_of" "row_of" (defArgs s_row_of) (defBody s_row_of) (defScope s_row_of) .none kV36 dc36 pm36 an36 cd36 ct36), sl36⟩)
  (c36 : PySem.W.codeIn K cd36 "row_of" = true)
  (k36 : PySem.W.keepIn K (.ref q36) = true)
  (a37 : PySem.W.nsIn K mainGlobals "is_row" = some (some (.ref q37)))
  (l37 : K.lookup q37 = some ⟨oc37, od37, .func (PySem.W.fnOf "is_row" "is_row" (defArgs s_is_row) (defBody s_is_row) (defScope s_is_row) .none kV37 dc37 pm37 an37 cd37 ct37), sl37⟩)
  (c37 : PySem.W.codeIn K cd37 "is_row" = true)
  (k37 : PySem.W.keepIn K (.ref q37) = true)
  (a38 : PySem.W.nsIn K mainGlobals "check_row" = some (some (.ref q38)))
  (l38 : K.lookup q38 = some ⟨oc38, od38, .func (PySem.W.fnOf "check_row" "check_row" (defArgs s_check_row) (defBody s_check_row) (defScope s_check_row) .none kV38 dc38 pm38 an38 cd38 ct38), sl38⟩)
  (c38 : PySem.W.codeIn K cd38 "check_row" = true)
  (k38 : PySem.W.keepIn K (.ref q38) = true)
  (a39 : PySem.W.nsIn K mainGlobals "opposite" = some (some (.ref q39)))
  (l39 : K.lookup q39 = some ⟨oc39, od39, .func (PySem.W.fnOf "opposite" "opposite" (defArgs s_opposite) (defBody s_opposite) (defScope s_opposite) .none kV39 dc39 pm39 an39 cd39 ct39), sl39⟩)
  (c39 : PySem.W.codeIn K cd39 "opposite" = true)
  (k39 : PySem.W.keepIn K (.ref q39) = true)
  (a41 : PySem.W.nsIn K mainGlobals "joined" = some (some (.ref q41)))
  (l41 : K.lookup q41 = some ⟨oc41, od41, .func (PySem.W.fnOf "joined" "joined" (defArgs s_joined) (defBody s_joined) (defScope s_joined) .none kV41 dc41 pm41 an41 cd41 ct41), sl41⟩)
  (c41 : PySem.W.codeIn K cd41 "joined" = true)
  (k41 : PySem.W.keepIn K (.ref q41) = true)
  (a42 : PySem.W.nsIn K mainGlobals "coned" = some (some (.ref q42)))
  (l42 : K.lookup q42 = some ⟨oc42, od42, .func (PySem.W.fnOf "coned" "coned" (defArgs s_coned) (defBody s_coned) (defScope s_coned) .none kV42 dc42 pm42 an42 cd42 ct42), sl42⟩)
  (c42 : PySem.W.codeIn K cd42 "coned" = true)
  (k42 : PySem.W.keepIn K (.ref q42) = true)
  (a44 : PySem.W.nsIn K mainGlobals "_law_number" = some (some (.ref q44)))
  (l44 : K.lookup q44 = some ⟨oc44, od44, .func (PySem.W.fnOf "_law_number" "_law_number" (defArgs s__law_number) (defBody s__law_number) (defScope s__law_number) .none kV44 dc44 pm44 an44 cd44 ct44), sl44⟩)
  (c44 : PySem.W.codeIn K cd44 "_law_number" = true)
  (k44 : PySem.W.keepIn K (.ref q44) = true)
  (a45 : PySem.W.nsIn K mainGlobals "_law_draws" = some (some (.ref q45)))
  (l45 : K.lookup q45 = some ⟨oc45, od45, .func (PySem.W.fnOf "_law_draws" "_law_draws" (defArgs s__law_draws) (defBody s__law_draws) (defScope s__law_draws) .none kV45 dc45 pm45 an45 cd45 ct45), sl45⟩)
  (c45 : PySem.W.codeIn K cd45 "_law_draws" = true)
  (k45 : PySem.W.keepIn K (.ref q45) = true)
  (a46 : PySem.W.nsIn K mainGlobals "_law_next" = some (some (.ref q46)))
  (l46 : K.lookup q46 = some ⟨oc46, od46, .func (PySem.W.fnOf "_law_next" "_law_next" (defArgs s__law_next) (defBody s__law_next) (defScope s__law_next) .none kV46 dc46 pm46 an46 cd46 ct46), sl46⟩)
  (c46 : PySem.W.codeIn K cd46 "_law_next" = true)
  (k46 : PySem.W.keepIn K (.ref q46) = true)
  (a47 : PySem.W.nsIn K mainGlobals "_law_divisor" = some (some (.ref q47)))
  (l47 : K.lookup q47 = some ⟨oc47, od47, .func (PySem.W.fnOf "_law_divisor" "_law_divisor" (defArgs s__law_divisor) (defBody s__law_divisor) (defScope s__law_divisor) .none kV47 dc47 pm47 an47 cd47 ct47), sl47⟩)
  (c47 : PySem.W.codeIn K cd47 "_law_divisor" = true)
  (k47 : PySem.W.keepIn K (.ref q47) = true)
  (a48 : PySem.W.nsIn K mainGlobals "_law_lowest" = some (some (.ref q48)))
  (l48 : K.lookup q48 = some ⟨oc48, od48, .func (PySem.W.fnOf "_law_lowest" "_law_lowest" (defArgs s__law_lowest) (defBody s__law_lowest) (defScope s__law_lowest) .none kV48 dc48 pm48 an48 cd48 ct48), sl48⟩)
  (c48 : PySem.W.codeIn K cd48 "_law_lowest" = true)
  (k48 : PySem.W.keepIn K (.ref q48) = true)
  (a49 : PySem.W.nsIn K mainGlobals "_law_plus" = some (some (.ref q49)))
  (l49 : K.lookup q49 = some ⟨oc49, od49, .func (PySem.W.fnOf "_law_plus" "_law_plus" (defArgs s__law_plus) (defBody s__law_plus) (defScope s__law_plus) .none kV49 dc49 pm49 an49 cd49 ct49), sl49⟩)
  (c49 : PySem.W.codeIn K cd49 "_law_plus" = true)
  (k49 : PySem.W.keepIn K (.ref q49) = true)
  (a50 : PySem.W.nsIn K mainGlobals "_law_times" = some (some (.ref q50)))
  (l50 : K.lookup q50 = some ⟨oc50, od50, .func (PySem.W.fnOf "_law_times" "_law_times" (defArgs s__law_times) (defBody s__law_times) (defScope s__law_times) .none kV50 dc50 pm50 an50 cd50 ct50), sl50⟩)
  (c50 : PySem.W.codeIn K cd50 "_law_times" = true)
  (k50 : PySem.W.keepIn K (.ref q50) = true)
  (a53 : PySem.W.nsIn K mainGlobals "_law_fraction" = some (some (.ref q53)))
  (l53 : K.lookup q53 = some ⟨oc53, od53, .func (PySem.W.fnOf "_law_fraction" "_law_fraction" (defArgs s__law_fraction) (defBody s__law_fraction) (defScope s__law_fraction) .none kV53 dc53 pm53 an53 cd53 ct53), sl53⟩)
  (c53 : PySem.W.codeIn K cd53 "_law_fraction" = true)
  (k53 : PySem.W.keepIn K (.ref q53) = true)
  (a54 : PySem.W.nsIn K mainGlobals "_law_plane" = some (some (.ref q54)))
  (l54 : K.lookup q54 = some ⟨oc54, od54, .func (PySem.W.fnOf "_law_plane" "_law_plane" (defArgs s__law_plane) (defBody s__law_plane) (defScope s__law_plane) .none kV54 dc54 pm54 an54 cd54 ct54), sl54⟩)
  (c54 : PySem.W.codeIn K cd54 "_law_plane" = true)
  (k54 : PySem.W.keepIn K (.ref q54) = true)
  (a55 : PySem.W.nsIn K mainGlobals "_law_planes" = some (some (.ref q55)))
  (l55 : K.lookup q55 = some ⟨oc55, od55, .func (PySem.W.fnOf "_law_planes" "_law_planes" (defArgs s__law_planes) (defBody s__law_planes) (defScope s__law_planes) .none kV55 dc55 pm55 an55 cd55 ct55), sl55⟩)
  (c55 : PySem.W.codeIn K cd55 "_law_planes" = true)
  (k55 : PySem.W.keepIn K (.ref q55) = true)
  (a56 : PySem.W.nsIn K mainGlobals "_law_point" = some (some (.ref q56)))
  (l56 : K.lookup q56 = some ⟨oc56, od56, .func (PySem.W.fnOf "_law_point" "_law_point" (defArgs s__law_point) (defBody s__law_point) (defScope s__law_point) .none kV56 dc56 pm56 an56 cd56 ct56), sl56⟩)
  (c56 : PySem.W.codeIn K cd56 "_law_point" = true)
  (k56 : PySem.W.keepIn K (.ref q56) = true)
  (a57 : PySem.W.nsIn K mainGlobals "_law_height" = some (some (.ref q57)))
  (l57 : K.lookup q57 = some ⟨oc57, od57, .func (PySem.W.fnOf "_law_height" "_law_height" (defArgs s__law_height) (defBody s__law_height) (defScope s__law_height) .none kV57 dc57 pm57 an57 cd57 ct57), sl57⟩)
  (c57 : PySem.W.codeIn K cd57 "_law_height" = true)
  (k57 : PySem.W.keepIn K (.ref q57) = true)
  (a58 : PySem.W.nsIn K mainGlobals "_law_side" = some (some (.ref q58)))
  (l58 : K.lookup q58 = some ⟨oc58, od58, .func (PySem.W.fnOf "_law_side" "_law_side" (defArgs s__law_side) (defBody s__law_side) (defScope s__law_side) .none kV58 dc58 pm58 an58 cd58 ct58), sl58⟩)
  (c58 : PySem.W.codeIn K cd58 "_law_side" = true)
  (k58 : PySem.W.keepIn K (.ref q58) = true)
  (a59 : PySem.W.nsIn K mainGlobals "_law_row" = some (some (.ref q59)))
  (l59 : K.lookup q59 = some ⟨oc59, od59, .func (PySem.W.fnOf "_law_row" "_law_row" (defArgs s__law_row) (defBody s__law_row) (defScope s__law_row) .none kV59 dc59 pm59 an59 cd59 ct59), sl59⟩)
  (c59 : PySem.W.codeIn K cd59 "_law_row" = true)
  (k59 : PySem.W.keepIn K (.ref q59) = true)
  (a60 : PySem.W.nsIn K mainGlobals "_law_told" = some (some (.ref q60)))
  (l60 : K.lookup q60 = some ⟨oc60, od60, .func (PySem.W.fnOf "_law_told" "_law_told" (defArgs s__law_told) (defBody s__law_told) (defScope s__law_told) .none kV60 dc60 pm60 an60 cd60 ct60), sl60⟩)
  (c60 : PySem.W.codeIn K cd60 "_law_told" = true)
  (k60 : PySem.W.keepIn K (.ref q60) = true)
  (a61 : PySem.W.nsIn K mainGlobals "_law_cone" = some (some (.ref q61)))
  (l61 : K.lookup q61 = some ⟨oc61, od61, .func (PySem.W.fnOf "_law_cone" "_law_cone" (defArgs s__law_cone) (defBody s__law_cone) (defScope s__law_cone) .none kV61 dc61 pm61 an61 cd61 ct61), sl61⟩)
  (c61 : PySem.W.codeIn K cd61 "_law_cone" = true)
  (k61 : PySem.W.keepIn K (.ref q61) = true)
  (a62 : PySem.W.nsIn K mainGlobals "_law_joined" = some (some (.ref q62)))
  (l62 : K.lookup q62 = some ⟨oc62, od62, .func (PySem.W.fnOf "_law_joined" "_law_joined" (defArgs s__law_joined) (defBody s__law_joined) (defScope s__law_joined) .none kV62 dc62 pm62 an62 cd62 ct62), sl62⟩)
  (c62 : PySem.W.codeIn K cd62 "_law_joined" = true)
  (k62 : PySem.W.keepIn K (.ref q62) = true)
  (a63 : PySem.W.nsIn K mainGlobals "_law_bounds" = some (some (.ref q63)))
  (l63 : K.lookup q63 = some ⟨oc63, od63, .func (PySem.W.fnOf "_law_bounds" "_law_bounds" (defArgs s__law_bounds) (defBody s__law_bounds) (defScope s__law_bounds) .none kV63 dc63 pm63 an63 cd63 ct63), sl63⟩)
  (c63 : PySem.W.codeIn K cd63 "_law_bounds" = true)
  (k63 : PySem.W.keepIn K (.ref q63) = true)
  (a64 : PySem.W.nsIn K mainGlobals "law" = some (some (.ref q64)))
  (l64 : K.lookup q64 = some ⟨oc64, od64, .func (PySem.W.fnOf "law" "law" (defArgs s_law) (defBody s_law) (defScope s_law) .none kV64 dc64 pm64 an64 cd64 ct64), sl64⟩)
  (c64 : PySem.W.codeIn K cd64 "law" = true)
  (k64 : PySem.W.keepIn K (.ref q64) = true)
  (a33 : PySem.W.nsIn K mainGlobals "Planes" = some (some (.ref q33)))
  (a1660 : PySem.W.findIn K (.ref q33) "__init__" = some (some (.ref q1660)))
  (i1660 : PySem.W.isFn K (.ref q1660) = true)
  (l1660 : K.lookup q1660 = some ⟨oc1660, od1660, .func (PySem.W.fnOf "__init__" "Planes.__init__" (defArgs s_Planes_init) (defBody s_Planes_init) (defScope s_Planes_init) .none kV1660 dc1660 pm1660 an1660 cd1660 ct1660), sl1660⟩)
  (c1660 : PySem.W.codeIn K cd1660 "Planes.__init__" = true)
  (k1660 : PySem.W.keepIn K (.ref q1660) = true)
  (mk33 : PySem.W.makesIn K q33 = true)
  (kc33 : PySem.W.keepIn K (.ref q33) = true)
  (a1661 : PySem.W.findIn K (.ref q33) "__len__" = some (some (.ref q1661)))
  (i1661 : PySem.W.isFn K (.ref q1661) = true)
  (l1661 : K.lookup q1661 = some ⟨oc1661, od1661, .func (PySem.W.fnOf "__len__" "Planes.__len__" (defArgs s_Planes_len) (defBody s_Planes_len) (defScope s_Planes_len) .none kV1661 dc1661 pm1661 an1661 cd1661 ct1661), sl1661⟩)
  (c1661 : PySem.W.codeIn K cd1661 "Planes.__len__" = true)
  (k1661 : PySem.W.keepIn K (.ref q1661) = true)
  (a1663 : PySem.W.findIn K (.ref q33) "planes" = some (some (.ref q1663)))
  (i1663 : PySem.W.isFn K (.ref q1663) = true)
  (l1663 : K.lookup q1663 = some ⟨oc1663, od1663, .func (PySem.W.fnOf "planes" "Planes.planes" (defArgs s_Planes_planes) (defBody s_Planes_planes) (defScope s_Planes_planes) .none kV1663 dc1663 pm1663 an1663 cd1663 ct1663), sl1663⟩)
  (c1663 : PySem.W.codeIn K cd1663 "Planes.planes" = true)
  (k1663 : PySem.W.keepIn K (.ref q1663) = true)
  (a1665 : PySem.W.findIn K (.ref q33) "is_central" = some (some (.ref q1665)))
  (i1665 : PySem.W.isFn K (.ref q1665) = true)
  (l1665 : K.lookup q1665 = some ⟨oc1665, od1665, .func (PySem.W.fnOf "is_central" "Planes.is_central" (defArgs s_Planes_is_central) (defBody s_Planes_is_central) (defScope s_Planes_is_central) .none kV1665 dc1665 pm1665 an1665 cd1665 ct1665), sl1665⟩)
  (c1665 : PySem.W.codeIn K cd1665 "Planes.is_central" = true)
  (k1665 : PySem.W.keepIn K (.ref q1665) = true)
  (pg33 : PySem.W.plainGet K q33 Str.empty = true)
  (hd33 : PySem.W.hasDictIn K q33 = true)
  (po33 : PySem.W.plainOver K q33 = true)
  (sa33 : PySem.W.findIn K (.ref q33) "__setattr__" = some (some (.builtin "object.__setattr__")))
  (n33_n : PySem.W.findIn K (.ref q33) "n" = some none)
  (n33__rows : PySem.W.findIn K (.ref q33) "_rows" = some none)
  (a24 : PySem.W.nsIn K mainGlobals "MOST_LETTERS" = some (some (.int 4 uc24)))
  (a25 : PySem.W.nsIn K mainGlobals "MOST_PLANES" = some (some (.int 12 uc25)))
  (a26 : PySem.W.nsIn K mainGlobals "MOST_ENTRY" = some (some (.int 1000 uc26)))
  (a27 : PySem.W.nsIn K mainGlobals "SIGNS" = some (some (.str "+-0" uc27)))
  (a28 : PySem.W.nsIn K mainGlobals "TURNED" = some (some (.ref qd28)))
  (d28 : He.dicW K qd28 = some (He.keysIn w.params ["+", "-", "0"]))
  (e28_0 : PySem.W.nsIn K qd28 "+" = some (some (.str "-" ud28_0)))
  (e28_1 : PySem.W.nsIn K qd28 "-" = some (some (.str "+" ud28_1)))
  (e28_2 : PySem.W.nsIn K qd28 "0" = some (some (.str "0" ud28_2)))
  (m_tuple : PySem.W.nsIn K mainGlobals "tuple" = some none)
  (m_isinstance : PySem.W.nsIn K mainGlobals "isinstance" = some none)
  (m_all : PySem.W.nsIn K mainGlobals "all" = some none)
  (m_len : PySem.W.nsIn K mainGlobals "len" = some none)
  (m_enumerate : PySem.W.nsIn K mainGlobals "enumerate" = some none)
  (m_zip : PySem.W.nsIn K mainGlobals "zip" = some none)
  (m_range : PySem.W.nsIn K mainGlobals "range" = some none)
  (m_sum : PySem.W.nsIn K mainGlobals "sum" = some none)
  (m_any : PySem.W.nsIn K mainGlobals "any" = some none)
  (m_int : PySem.W.nsIn K mainGlobals "int" = some none)
  (m_abs : PySem.W.nsIn K mainGlobals "abs" = some none)
  (m_str : PySem.W.nsIn K mainGlobals "str" = some none)
  (m_list : PySem.W.nsIn K mainGlobals "list" = some none)
  (b_gcd : PySem.W.nsIn K mainGlobals "gcd" = some (some (.builtin "math.gcd")))
  (b_lcm : PySem.W.nsIn K mainGlobals "lcm" = some (some (.builtin "math.lcm")))
  (a3 : PySem.W.nsIn K mainGlobals "PlaneError" = some (some (.ref q3)))
  (a4 : PySem.W.nsIn K mainGlobals "NotNumber" = some (some (.ref q4)))
  (x4 : PySem.W.excIn K q4 [.type "ValueError", .type "Exception", .type "BaseException", .type "object"] "ValueError.__new__" = true)
  (k4 : PySem.W.keepIn K (.ref q4) = true)
  (s4 : PySem.W.subIn K (.ref q4) (.type "BaseException") = some true)
  (t4 : PySem.W.typeIn K (.ref q4) = some (.type "type"))
  (a5 : PySem.W.nsIn K mainGlobals "NotPoint" = some (some (.ref q5)))
  (x5 : PySem.W.excIn K q5 [.type "ValueError", .type "Exception", .type "BaseException", .type "object"] "ValueError.__new__" = true)
  (k5 : PySem.W.keepIn K (.ref q5) = true)
  (s5 : PySem.W.subIn K (.ref q5) (.type "BaseException") = some true)
  (t5 : PySem.W.typeIn K (.ref q5) = some (.type "type"))
  (a7 : PySem.W.nsIn K mainGlobals "NotRow" = some (some (.ref q7)))
  (x7 : PySem.W.excIn K q7 [.type "ValueError", .type "Exception", .type "BaseException", .type "object"] "ValueError.__new__" = true)
  (k7 : PySem.W.keepIn K (.ref q7) = true)
  (s7 : PySem.W.subIn K (.ref q7) (.type "BaseException") = some true)
  (t7 : PySem.W.typeIn K (.ref q7) = some (.type "type"))
  (a8 : PySem.W.nsIn K mainGlobals "BadNumber" = some (some (.ref q8)))
  (x8 : PySem.W.excIn K q8 [.type "ValueError", .type "Exception", .type "BaseException", .type "object"] "ValueError.__new__" = true)
  (k8 : PySem.W.keepIn K (.ref q8) = true)
  (s8 : PySem.W.subIn K (.ref q8) (.type "BaseException") = some true)
  (t8 : PySem.W.typeIn K (.ref q8) = some (.type "type"))
  (a9 : PySem.W.nsIn K mainGlobals "TooLarge" = some (some (.ref q9)))
  (x9 : PySem.W.excIn K q9 [.type "ValueError", .type "Exception", .type "BaseException", .type "object"] "ValueError.__new__" = true)
  (k9 : PySem.W.keepIn K (.ref q9) = true)
  (s9 : PySem.W.subIn K (.ref q9) (.type "BaseException") = some true)
  (t9 : PySem.W.typeIn K (.ref q9) = some (.type "type"))
  (s3 : PySem.W.subIn K (.ref q3) (.type "BaseException") = some true)
  (t3 : PySem.W.typeIn K (.ref q3) = some (.type "type"))
  (h3 : PySem.W.hasDictIn K q3 = true)
  (e8_3 : PySem.W.subIn K (.ref q8) (.ref q3) = some true)
  (e9_3 : PySem.W.subIn K (.ref q9) (.ref q3) = some true)
  (cn : PySem.W.specialIn K (.builtin "object.__class__") "__get__" = some (some (.builtin "getset_descriptor.__get__")))
  (ct : PySem.W.takesIn K (.builtin "object.__class__") = some true)
  (oa33 : PySem.W.findIn K (.ref q33) "__class__" = some (some (.builtin "object.__class__")))
  (om33 : PySem.W.mroIn K q33 (.type "object") = some true)
  (oy33_str : PySem.W.kitOne K (.ref q33) (.type "str") = some false)
  (cg8 : PySem.W.findIn K (.ref q8) "__getattribute__" = some (some (.builtin "BaseException.__getattribute__")))
  (ck8 : PySem.W.findIn K (.ref q8) "__getattr__" = some none)
  (cd8 : PySem.W.hasDictIn K q8 = true)
  (ca8 : PySem.W.findIn K (.ref q8) "__class__" = some (some (.builtin "object.__class__")))
  (cm8 : PySem.W.mroIn K q8 (.type "object") = some true)
  (cg9 : PySem.W.findIn K (.ref q9) "__getattribute__" = some (some (.builtin "BaseException.__getattribute__")))
  (ck9 : PySem.W.findIn K (.ref q9) "__getattr__" = some none)
  (cd9 : PySem.W.hasDictIn K q9 = true)
  (ca9 : PySem.W.findIn K (.ref q9) "__class__" = some (some (.builtin "object.__class__")))
  (cm9 : PySem.W.mroIn K q9 (.type "object") = some true)
  (i8_8 : PySem.W.kitOne K (.ref q8) (.ref q8) = some true)
  (i8_9 : PySem.W.kitOne K (.ref q8) (.ref q9) = some false)
  (i9_8 : PySem.W.kitOne K (.ref q9) (.ref q8) = some false)
  (i9_9 : PySem.W.kitOne K (.ref q9) (.ref q9) = some true) :
  ∃ fd : FuncData, (∀ (s : Shared) (v : Value), BindsTo s fd ⟨[v], []⟩ [("script", v)]) ∧ ∀ base : Heap, K.In base → base.Ns mainGlobals mg → FnG l.prog w K mg base CX0 9 fa fd ["script"] (sp_law K) := by
  have e := hfa.symm.trans (PySem.W.mg_of X G a64)
  cases e
  have T : Txt K w mg (fun i => match i with | 3 => q3 | 4 => q4 | 5 => q5 | 7 => q7 | 8 => q8 | 9 => q9 | 11 => q11 | 12 => q12 | 13 => q13 | 14 => q14 | 15 => q15 | 16 => q16 | 18 => q18 | 19 => q19 | 20 => q20 | 21 => q21 | 22 => q22 | 29 => q29 | 30 => q30 | 31 => q31 | 32 => q32 | 33 => q33 | 34 => q34 | 35 => q35 | 36 => q36 | 37 => q37 | 38 => q38 | 39 => q39 | 41 => q41 | 42 => q42 | 44 => q44 | 45 => q45 | 46 => q46 | 47 => q47 | 48 => q48 | 49 => q49 | 50 => q50 | 53 => q53 | 54 => q54 | 55 => q55 | 56 => q56 | 57 => q57 | 58 => q58 | 59 => q59 | 60 => q60 | 61 => q61 | 62 => q62 | 63 => q63 | 64 => fa | 1660 => q1660 | 1661 => q1661 | 1663 => q1663 | 1665 => q1665 | _ => 0) (fun i => match i with | 11 => (PySem.W.fnOf "is_number" "is_number" (defArgs s_is_number) (defBody s_is_number) (defScope s_is_number) .none kV11 dc11 pm11 an11 cd11 ct11) | 12 => (PySem.W.fnOf "check_number" "check_number" (defArgs s_check_number) (defBody s_check_number) (defScope s_check_number) .none kV12 dc12 pm12 an12 cd12 ct12) | 13 => (PySem.W.fnOf "content" "content" (defArgs s_content) (defBody s_content) (defScope s_content) .none kV13 dc13 pm13 an13 cd13 ct13) | 14 => (PySem.W.fnOf "primitive" "primitive" (defArgs s_primitive) (defBody s_primitive) (defScope s_primitive) .none kV14 dc14 pm14 an14 cd14 ct14) | 15 => (PySem.W.fnOf "over_one_divisor" "over_one_divisor" (defArgs s_over_one_divisor) (defBody s_over_one_divisor) (defScope s_over_one_divisor) .none kV15 dc15 pm15 an15 cd15 ct15) | 16 => (PySem.W.fnOf "negated" "negated" (defArgs s_negated) (defBody s_negated) (defScope s_negated) .none kV16 dc16 pm16 an16 cd16 ct16) | 18 => (PySem.W.fnOf "is_number_row" "is_number_row" (defArgs s_is_number_row) (defBody s_is_number_row) (defScope s_is_number_row) .none kV18 dc18 pm18 an18 cd18 ct18) | 19 => (PySem.W.fnOf "first_row_with" "first_row_with" (defArgs s_first_row_with) (defBody s_first_row_with) (defScope s_first_row_with) .none kV19 dc19 pm19 an19 cd19 ct19) | 20 => (PySem.W.fnOf "struck" "struck" (defArgs s_struck) (defBody s_struck) (defScope s_struck) .none kV20 dc20 pm20 an20 cd20 ct20) | 21 => (PySem.W.fnOf "whole_echelon" "whole_echelon" (defArgs s_whole_echelon) (defBody s_whole_echelon) (defScope s_whole_echelon) .none kV21 dc21 pm21 an21 cd21 ct21) | 22 => (PySem.W.fnOf "whole_product" "whole_product" (defArgs s_whole_product) (defBody s_whole_product) (defScope s_whole_product) .none kV22 dc22 pm22 an22 cd22 ct22) | 29 => (PySem.W.fnOf "check_letters" "check_letters" (defArgs s_check_letters) (defBody s_check_letters) (defScope s_check_letters) .none kV29 dc29 pm29 an29 cd29 ct29) | 30 => (PySem.W.fnOf "is_plane" "is_plane" (defArgs s_is_plane) (defBody s_is_plane) (defScope s_is_plane) .none kV30 dc30 pm30 an30 cd30 ct30) | 31 => (PySem.W.fnOf "check_point" "check_point" (defArgs s_check_point) (defBody s_check_point) (defScope s_check_point) .none kV31 dc31 pm31 an31 cd31 ct31) | 32 => (PySem.W.fnOf "check_planes" "check_planes" (defArgs s_check_planes) (defBody s_check_planes) (defScope s_check_planes) .none kV32 dc32 pm32 an32 cd32 ct32) | 34 => (PySem.W.fnOf "sign_letter" "sign_letter" (defArgs s_sign_letter) (defBody s_sign_letter) (defScope s_sign_letter) .none kV34 dc34 pm34 an34 cd34 ct34) | 35 => (PySem.W.fnOf "sides_of" "sides_of" (defArgs s_sides_of) (defBody s_sides_of) (defScope s_sides_of) .none kV35 dc35 pm35 an35 cd35 ct35) | 36 => (PySem.W.fnOf "row_of" "row_of" (defArgs s_row_of) (defBody s_row_of) (defScope s_row_of) .none kV36 dc36 pm36 an36 cd36 ct36) | 37 => (PySem.W.fnOf "is_row" "is_row" (defArgs s_is_row) (defBody s_is_row) (defScope s_is_row) .none kV37 dc37 pm37 an37 cd37 ct37) | 38 => (PySem.W.fnOf "check_row" "check_row" (defArgs s_check_row) (defBody s_check_row) (defScope s_check_row) .none kV38 dc38 pm38 an38 cd38 ct38) | 39 => (PySem.W.fnOf "opposite" "opposite" (defArgs s_opposite) (defBody s_opposite) (defScope s_opposite) .none kV39 dc39 pm39 an39 cd39 ct39) | 41 => (PySem.W.fnOf "joined" "joined" (defArgs s_joined) (defBody s_joined) (defScope s_joined) .none kV41 dc41 pm41 an41 cd41 ct41) | 42 => (PySem.W.fnOf "coned" "coned" (defArgs s_coned) (defBody s_coned) (defScope s_coned) .none kV42 dc42 pm42 an42 cd42 ct42) | 44 => (PySem.W.fnOf "_law_number" "_law_number" (defArgs s__law_number) (defBody s__law_number) (defScope s__law_number) .none kV44 dc44 pm44 an44 cd44 ct44) | 45 => (PySem.W.fnOf "_law_draws" "_law_draws" (defArgs s__law_draws) (defBody s__law_draws) (defScope s__law_draws) .none kV45 dc45 pm45 an45 cd45 ct45) | 46 => (PySem.W.fnOf "_law_next" "_law_next" (defArgs s__law_next) (defBody s__law_next) (defScope s__law_next) .none kV46 dc46 pm46 an46 cd46 ct46) | 47 => (PySem.W.fnOf "_law_divisor" "_law_divisor" (defArgs s__law_divisor) (defBody s__law_divisor) (defScope s__law_divisor) .none kV47 dc47 pm47 an47 cd47 ct47) | 48 => (PySem.W.fnOf "_law_lowest" "_law_lowest" (defArgs s__law_lowest) (defBody s__law_lowest) (defScope s__law_lowest) .none kV48 dc48 pm48 an48 cd48 ct48) | 49 => (PySem.W.fnOf "_law_plus" "_law_plus" (defArgs s__law_plus) (defBody s__law_plus) (defScope s__law_plus) .none kV49 dc49 pm49 an49 cd49 ct49) | 50 => (PySem.W.fnOf "_law_times" "_law_times" (defArgs s__law_times) (defBody s__law_times) (defScope s__law_times) .none kV50 dc50 pm50 an50 cd50 ct50) | 53 => (PySem.W.fnOf "_law_fraction" "_law_fraction" (defArgs s__law_fraction) (defBody s__law_fraction) (defScope s__law_fraction) .none kV53 dc53 pm53 an53 cd53 ct53) | 54 => (PySem.W.fnOf "_law_plane" "_law_plane" (defArgs s__law_plane) (defBody s__law_plane) (defScope s__law_plane) .none kV54 dc54 pm54 an54 cd54 ct54) | 55 => (PySem.W.fnOf "_law_planes" "_law_planes" (defArgs s__law_planes) (defBody s__law_planes) (defScope s__law_planes) .none kV55 dc55 pm55 an55 cd55 ct55) | 56 => (PySem.W.fnOf "_law_point" "_law_point" (defArgs s__law_point) (defBody s__law_point) (defScope s__law_point) .none kV56 dc56 pm56 an56 cd56 ct56) | 57 => (PySem.W.fnOf "_law_height" "_law_height" (defArgs s__law_height) (defBody s__law_height) (defScope s__law_height) .none kV57 dc57 pm57 an57 cd57 ct57) | 58 => (PySem.W.fnOf "_law_side" "_law_side" (defArgs s__law_side) (defBody s__law_side) (defScope s__law_side) .none kV58 dc58 pm58 an58 cd58 ct58) | 59 => (PySem.W.fnOf "_law_row" "_law_row" (defArgs s__law_row) (defBody s__law_row) (defScope s__law_row) .none kV59 dc59 pm59 an59 cd59 ct59) | 60 => (PySem.W.fnOf "_law_told" "_law_told" (defArgs s__law_told) (defBody s__law_told) (defScope s__law_told) .none kV60 dc60 pm60 an60 cd60 ct60) | 61 => (PySem.W.fnOf "_law_cone" "_law_cone" (defArgs s__law_cone) (defBody s__law_cone) (defScope s__law_cone) .none kV61 dc61 pm61 an61 cd61 ct61) | 62 => (PySem.W.fnOf "_law_joined" "_law_joined" (defArgs s__law_joined) (defBody s__law_joined) (defScope s__law_joined) .none kV62 dc62 pm62 an62 cd62 ct62) | 63 => (PySem.W.fnOf "_law_bounds" "_law_bounds" (defArgs s__law_bounds) (defBody s__law_bounds) (defScope s__law_bounds) .none kV63 dc63 pm63 an63 cd63 ct63) | 64 => (PySem.W.fnOf "law" "law" (defArgs s_law) (defBody s_law) (defScope s_law) .none kV64 dc64 pm64 an64 cd64 ct64) | 1660 => (PySem.W.fnOf "__init__" "Planes.__init__" (defArgs s_Planes_init) (defBody s_Planes_init) (defScope s_Planes_init) .none kV1660 dc1660 pm1660 an1660 cd1660 ct1660) | 1661 => (PySem.W.fnOf "__len__" "Planes.__len__" (defArgs s_Planes_len) (defBody s_Planes_len) (defScope s_Planes_len) .none kV1661 dc1661 pm1661 an1661 cd1661 ct1661) | 1663 => (PySem.W.fnOf "planes" "Planes.planes" (defArgs s_Planes_planes) (defBody s_Planes_planes) (defScope s_Planes_planes) .none kV1663 dc1663 pm1663 an1663 cd1663 ct1663) | 1665 => (PySem.W.fnOf "is_central" "Planes.is_central" (defArgs s_Planes_is_central) (defBody s_Planes_is_central) (defScope s_Planes_is_central) .none kV1665 dc1665 pm1665 an1665 cd1665 ct1665) | _ => (PySem.W.fnOf "is_number" "is_number" (defArgs s_is_number) (defBody s_is_number) (defScope s_is_number) .none kV11 dc11 pm11 an11 cd11 ct11)) :=
    { f_is_number := fun_mk (st := s_is_number) l11 c11 k11
      g_is_number := PySem.W.mg_of X G a11
      f_check_number := fun_mk (st := s_check_number) l12 c12 k12
      g_check_number := PySem.W.mg_of X G a12
      f_content := fun_mk (st := s_content) l13 c13 k13
      g_content := PySem.W.mg_of X G a13
      f_primitive := fun_mk (st := s_primitive) l14 c14 k14
      g_primitive := PySem.W.mg_of X G a14
      f_over_one_divisor := fun_mk (st := s_over_one_divisor) l15 c15 k15
      g_over_one_divisor := PySem.W.mg_of X G a15
      f_negated := fun_mk (st := s_negated) l16 c16 k16
      g_negated := PySem.W.mg_of X G a16
      f_is_number_row := fun_mk (st := s_is_number_row) l18 c18 k18
      g_is_number_row := PySem.W.mg_of X G a18
      f_first_row_with := fun_mk (st := s_first_row_with) l19 c19 k19
      g_first_row_with := PySem.W.mg_of X G a19
      f_struck := fun_mk (st := s_struck) l20 c20 k20
      g_struck := PySem.W.mg_of X G a20
      f_whole_echelon := fun_mk (st := s_whole_echelon) l21 c21 k21
      g_whole_echelon := PySem.W.mg_of X G a21
      f_whole_product := fun_mk (st := s_whole_product) l22 c22 k22
      g_whole_product := PySem.W.mg_of X G a22
      f_check_letters := fun_mk (st := s_check_letters) l29 c29 k29
      g_check_letters := PySem.W.mg_of X G a29
      f_is_plane := fun_mk (st := s_is_plane) l30 c30 k30
      g_is_plane := PySem.W.mg_of X G a30
      f_check_point := fun_mk (st := s_check_point) l31 c31 k31
      g_check_point := PySem.W.mg_of X G a31
      f_check_planes := fun_mk (st := s_check_planes) l32 c32 k32
      g_check_planes := PySem.W.mg_of X G a32
      f_sign_letter := fun_mk (st := s_sign_letter) l34 c34 k34
      g_sign_letter := PySem.W.mg_of X G a34
      f_sides_of := fun_mk (st := s_sides_of) l35 c35 k35
      g_sides_of := PySem.W.mg_of X G a35
      f_row_of := fun_mk (st := s_row_of) l36 c36 k36
      g_row_of := PySem.W.mg_of X G a36
      f_is_row := fun_mk (st := s_is_row) l37 c37 k37
      g_is_row := PySem.W.mg_of X G a37
      f_check_row := fun_mk (st := s_check_row) l38 c38 k38
      g_check_row := PySem.W.mg_of X G a38
      f_opposite := fun_mk (st := s_opposite) l39 c39 k39
      g_opposite := PySem.W.mg_of X G a39
      f_joined := fun_mk (st := s_joined) l41 c41 k41
      g_joined := PySem.W.mg_of X G a41
      f_coned := fun_mk (st := s_coned) l42 c42 k42
      g_coned := PySem.W.mg_of X G a42
      f__law_number := fun_mk (st := s__law_number) l44 c44 k44
      g__law_number := PySem.W.mg_of X G a44
      f__law_draws := fun_mk (st := s__law_draws) l45 c45 k45
      g__law_draws := PySem.W.mg_of X G a45
      f__law_next := fun_mk (st := s__law_next) l46 c46 k46
      g__law_next := PySem.W.mg_of X G a46
      f__law_divisor := fun_mk (st := s__law_divisor) l47 c47 k47
      g__law_divisor := PySem.W.mg_of X G a47
      f__law_lowest := fun_mk (st := s__law_lowest) l48 c48 k48
      g__law_lowest := PySem.W.mg_of X G a48
      f__law_plus := fun_mk (st := s__law_plus) l49 c49 k49
      g__law_plus := PySem.W.mg_of X G a49
      f__law_times := fun_mk (st := s__law_times) l50 c50 k50
      g__law_times := PySem.W.mg_of X G a50
      f__law_fraction := fun_mk (st := s__law_fraction) l53 c53 k53
      g__law_fraction := PySem.W.mg_of X G a53
      f__law_plane := fun_mk (st := s__law_plane) l54 c54 k54
      g__law_plane := PySem.W.mg_of X G a54
      f__law_planes := fun_mk (st := s__law_planes) l55 c55 k55
      g__law_planes := PySem.W.mg_of X G a55
      f__law_point := fun_mk (st := s__law_point) l56 c56 k56
      g__law_point := PySem.W.mg_of X G a56
      f__law_height := fun_mk (st := s__law_height) l57 c57 k57
      g__law_height := PySem.W.mg_of X G a57
      f__law_side := fun_mk (st := s__law_side) l58 c58 k58
      g__law_side := PySem.W.mg_of X G a58
      f__law_row := fun_mk (st := s__law_row) l59 c59 k59
      g__law_row := PySem.W.mg_of X G a59
      f__law_told := fun_mk (st := s__law_told) l60 c60 k60
      g__law_told := PySem.W.mg_of X G a60
      f__law_cone := fun_mk (st := s__law_cone) l61 c61 k61
      g__law_cone := PySem.W.mg_of X G a61
      f__law_joined := fun_mk (st := s__law_joined) l62 c62 k62
      g__law_joined := PySem.W.mg_of X G a62
      f__law_bounds := fun_mk (st := s__law_bounds) l63 c63 k63
      g__law_bounds := PySem.W.mg_of X G a63
      f_law := fun_mk (st := s_law) l64 c64 k64
      g_law := PySem.W.mg_of X G a64
      g_Planes := PySem.W.mg_of X G a33
      f_Planes_init := fun_mk (st := s_Planes_init) l1660 c1660 k1660
      me_Planes_init := ⟨a1660, i1660, k1660⟩
      mk_Planes := ⟨mk33, a1660, i1660, kc33⟩
      f_Planes_len := fun_mk (st := s_Planes_len) l1661 c1661 k1661
      me_Planes_len := ⟨a1661, i1661, k1661⟩
      f_Planes_planes := fun_mk (st := s_Planes_planes) l1663 c1663 k1663
      me_Planes_planes := ⟨a1663, i1663, k1663⟩
      f_Planes_is_central := fun_mk (st := s_Planes_is_central) l1665 c1665 k1665
      me_Planes_is_central := ⟨a1665, i1665, k1665⟩
      cl_Planes := ⟨pg33, hd33, po33, sa33⟩
      na_Planes_n := n33_n
      na_Planes__rows := n33__rows
      v_MOST_LETTERS := ⟨_, PySem.W.mg_of X G a24⟩
      v_MOST_PLANES := ⟨_, PySem.W.mg_of X G a25⟩
      v_MOST_ENTRY := ⟨_, PySem.W.mg_of X G a26⟩
      v_SIGNS := ⟨_, PySem.W.mg_of X G a27⟩
      v_TURNED := let ⟨_, _, ⟨z1, z2, z3⟩⟩ := He.dicW_ok d28; ⟨_, PySem.W.mg_of X G a28, ⟨_, _, _, z1, z2, e28_0, ⟨_, rfl⟩⟩, ⟨_, _, _, z1, z2, e28_1, ⟨_, rfl⟩⟩, ⟨_, _, _, z1, z2, e28_2, ⟨_, rfl⟩⟩⟩
      m_tuple := PySem.W.mg_none_of X G m_tuple
      m_isinstance := PySem.W.mg_none_of X G m_isinstance
      m_all := PySem.W.mg_none_of X G m_all
      m_len := PySem.W.mg_none_of X G m_len
      m_enumerate := PySem.W.mg_none_of X G m_enumerate
      m_zip := PySem.W.mg_none_of X G m_zip
      m_range := PySem.W.mg_none_of X G m_range
      m_sum := PySem.W.mg_none_of X G m_sum
      m_any := PySem.W.mg_none_of X G m_any
      m_int := PySem.W.mg_none_of X G m_int
      m_abs := PySem.W.mg_none_of X G m_abs
      m_str := PySem.W.mg_none_of X G m_str
      m_list := PySem.W.mg_none_of X G m_list
      g_gcd := PySem.W.mg_of X G b_gcd
      g_lcm := PySem.W.mg_of X G b_lcm
      g_PlaneError := PySem.W.mg_of X G a3
      g_NotNumber := PySem.W.mg_of X G a4
      x_NotNumber := x4
      k_NotNumber := k4
      s_NotNumber := s4
      t_NotNumber := t4
      g_NotPoint := PySem.W.mg_of X G a5
      x_NotPoint := x5
      k_NotPoint := k5
      s_NotPoint := s5
      t_NotPoint := t5
      g_NotRow := PySem.W.mg_of X G a7
      x_NotRow := x7
      k_NotRow := k7
      s_NotRow := s7
      t_NotRow := t7
      g_BadNumber := PySem.W.mg_of X G a8
      x_BadNumber := x8
      k_BadNumber := k8
      s_BadNumber := s8
      t_BadNumber := t8
      g_TooLarge := PySem.W.mg_of X G a9
      x_TooLarge := x9
      k_TooLarge := k9
      s_TooLarge := s9
      t_TooLarge := t9
      e_BadNumber_PlaneError := PySem.W.exm_ref s3 h3 t3 e8_3
      e_TooLarge_PlaneError := PySem.W.exm_ref s3 h3 t3 e9_3
      o_Planes := ⟨oa33, cn, ct, om33⟩
      y_Planes_str := oy33_str
      c_BadNumber := ⟨cg8, ck8, s8, cd8, ca8, cn, ct, cm8⟩
      c_TooLarge := ⟨cg9, ck9, s9, cd9, ca9, cn, ct, cm9⟩
      i_BadNumber_BadNumber := i8_8
      i_BadNumber_TooLarge := i8_9
      i_TooLarge_BadNumber := i9_8
      i_TooLarge_TooLarge := i9_9 }
  exact ⟨(PySem.W.fnOf "law" "law" (defArgs s_law) (defBody s_law) (defScope s_law) .none kV64 dc64 pm64 an64 cd64 ct64), fun s v => .of_eq rfl, fun base _ _ => (ok_law T).ok⟩
end PW
open PySem PySem.W PyProof.Rows
set_option maxHeartbeats 0 in
theorem PySem.Challenge.cw_planeworth_k09_cones_and_joined_lists_holds : PySem.Challenge.rw_planeworth_k09_cones_and_joined_lists.Holds := by
  w_on; o_law; k_head; (case hw => w_witness2)
  k_fill
  refine PW.walk_ofGK (l := PySem.Challenge.rw_planeworth_k09_cones_and_joined_lists) (n := 63) (k := 9) (x := "script") (sp := PW.sp_law) rfl (by decide) rfl ⟨rfl, by decide, by decide⟩ (fun w h Y => PySem.W.kIn_of Y) ?F ?good
  case good =>
    intro K H a ns hl hS
    exact ⟨a, ns, rfl, hS, hl, fun _ => rfl⟩
  case F =>
    intro w mg fa h KX G hmg
    refine' PW.all_mk KX G hmg ?a11 ?l11 ?c11 ?k11 ?a12 ?l12 ?c12 ?k12 ?a13 ?l13 ?c13 ?k13 ?a14 ?l14 ?c14 ?k14 ?a15 ?l15 ?c15 ?k15 ?a16 ?l16 ?c16 ?k16 ?a18 ?l18 ?c18 ?k18 ?a19 ?l19 ?c19 ?k19 ?a20 ?l20 ?c20 ?k20 ?a21 ?l21 ?c21 ?k21 ?a22 ?l22 ?c22 ?k22 ?a29 ?l29 ?c29 ?k29 ?a30 ?l30 ?c30 ?k30 ?a31 ?l31 ?c31 ?k31 ?a32 ?l32 ?c32 ?k32 ?a34 ?l34 ?c34 ?k34 ?a35 ?l35 ?c35 ?k35 ?a36 ?l36 ?c36 ?k36 ?a37 ?l37 ?c37 ?k37 ?a38 ?l38 ?c38 ?k38 ?a39 ?l39 ?c39 ?k39 ?a41 ?l41 ?c41 ?k41 ?a42 ?l42 ?c42 ?k42 ?a44 ?l44 ?c44 ?k44 ?a45 ?l45 ?c45 ?k45 ?a46 ?l46 ?c46 ?k46 ?a47 ?l47 ?c47 ?k47 ?a48 ?l48 ?c48 ?k48 ?a49 ?l49 ?c49 ?k49 ?a50 ?l50 ?c50 ?k50 ?a53 ?l53 ?c53 ?k53 ?a54 ?l54 ?c54 ?k54 ?a55 ?l55 ?c55 ?k55 ?a56 ?l56 ?c56 ?k56 ?a57 ?l57 ?c57 ?k57 ?a58 ?l58 ?c58 ?k58 ?a59 ?l59 ?c59 ?k59 ?a60 ?l60 ?c60 ?k60 ?a61 ?l61 ?c61 ?k61 ?a62 ?l62 ?c62 ?k62 ?a63 ?l63 ?c63 ?k63 ?a64 ?l64 ?c64 ?k64 ?a33 ?a1660 ?i1660 ?l1660 ?c1660 ?k1660 ?mk33 ?kc33 ?a1661 ?i1661 ?l1661 ?c1661 ?k1661 ?a1663 ?i1663 ?l1663 ?c1663 ?k1663 ?a1665 ?i1665 ?l1665 ?c1665 ?k1665 ?pg33 ?hd33 ?po33 ?sa33 ?n33_n ?n33__rows ?a24 ?a25 ?a26 ?a27 ?a28 ?d28 ?e28_0 ?e28_1 ?e28_2 ?m_tuple ?m_isinstance ?m_all ?m_len ?m_enumerate ?m_zip ?m_range ?m_sum ?m_any ?m_int ?m_abs ?m_str ?m_list ?b_gcd ?b_lcm ?a3 ?a4 ?x4 ?k4 ?s4 ?t4 ?a5 ?x5 ?k5 ?s5 ?t5 ?a7 ?x7 ?k7 ?s7 ?t7 ?a8 ?x8 ?k8 ?s8 ?t8 ?a9 ?x9 ?k9 ?s9 ?t9 ?s3 ?t3 ?h3 ?e8_3 ?e9_3 ?cn ?ct ?oa33 ?om33 ?oy33_str ?cg8 ?ck8 ?cd8 ?ca8 ?cm8 ?cg9 ?ck9 ?cd9 ?ca9 ?cm9 ?i8_8 ?i8_9 ?i9_8 ?i9_9
    (case a11 => k_is)
    (case l11 => k_is)
    (case c11 => k_is)
    (case k11 => k_is)
    (case a12 => k_is)
    (case l12 => k_is)
    (case c12 => k_is)
    (case k12 => k_is)
    (case a13 => k_is)
    (case l13 => k_is)
    (case c13 => k_is)
    (case k13 => k_is)
    (case a14 => k_is)
    (case l14 => k_is)
    (case c14 => k_is)
    (case k14 => k_is)
    (case a15 => k_is)
    (case l15 => k_is)
    (case c15 => k_is)
    (case k15 => k_is)
    (case a16 => k_is)
    (case l16 => k_is)
    (case c16 => k_is)
    (case k16 => k_is)
    (case a18 => k_is)
    (case l18 => k_is)
    (case c18 => k_is)
    (case k18 => k_is)
    (case a19 => k_is)
    (case l19 => k_is)
    (case c19 => k_is)
    (case k19 => k_is)
    (case a20 => k_is)
    (case l20 => k_is)
    (case c20 => k_is)
    (case k20 => k_is)
    (case a21 => k_is)
    (case l21 => k_is)
    (case c21 => k_is)
    (case k21 => k_is)
    (case a22 => k_is)
    (case l22 => k_is)
    (case c22 => k_is)
    (case k22 => k_is)
    (case a29 => k_is)
    (case l29 => k_is)
    (case c29 => k_is)
    (case k29 => k_is)
    (case a30 => k_is)
    (case l30 => k_is)
    (case c30 => k_is)
    (case k30 => k_is)
    (case a31 => k_is)
    (case l31 => k_is)
    (case c31 => k_is)
    (case k31 => k_is)
    (case a32 => k_is)
    (case l32 => k_is)
    (case c32 => k_is)
    (case k32 => k_is)
    (case a34 => k_is)
    (case l34 => k_is)
    (case c34 => k_is)
    (case k34 => k_is)
    (case a35 => k_is)
    (case l35 => k_is)
    (case c35 => k_is)
    (case k35 => k_is)
    (case a36 => k_is)
    (case l36 => k_is)
    (case c36 => k_is)
    (case k36 => k_is)
    (case a37 => k_is)
    (case l37 => k_is)
    (case c37 => k_is)
    (case k37 => k_is)
    (case a38 => k_is)
    (case l38 => k_is)
    (case c38 => k_is)
    (case k38 => k_is)
    (case a39 => k_is)
    (case l39 => k_is)
    (case c39 => k_is)
    (case k39 => k_is)
    (case a41 => k_is)
    (case l41 => k_is)
    (case c41 => k_is)
    (case k41 => k_is)
    (case a42 => k_is)
    (case l42 => k_is)
    (case c42 => k_is)
    (case k42 => k_is)
    (case a44 => k_is)
    (case l44 => k_is)
    (case c44 => k_is)
    (case k44 => k_is)
    (case a45 => k_is)
    (case l45 => k_is)
    (case c45 => k_is)
    (case k45 => k_is)
    (case a46 => k_is)
    (case l46 => k_is)
    (case c46 => k_is)
    (case k46 => k_is)
    (case a47 => k_is)
    (case l47 => k_is)
    (case c47 => k_is)
    (case k47 => k_is)
    (case a48 => k_is)
    (case l48 => k_is)
    (case c48 => k_is)
    (case k48 => k_is)
    (case a49 => k_is)
    (case l49 => k_is)
    (case c49 => k_is)
    (case k49 => k_is)
    (case a50 => k_is)
    (case l50 => k_is)
    (case c50 => k_is)
    (case k50 => k_is)
    (case a53 => k_is)
    (case l53 => k_is)
    (case c53 => k_is)
    (case k53 => k_is)
    (case a54 => k_is)
    (case l54 => k_is)
    (case c54 => k_is)
    (case k54 => k_is)
    (case a55 => k_is)
    (case l55 => k_is)
    (case c55 => k_is)
    (case k55 => k_is)
    (case a56 => k_is)
    (case l56 => k_is)
    (case c56 => k_is)
    (case k56 => k_is)
    (case a57 => k_is)
    (case l57 => k_is)
    (case c57 => k_is)
    (case k57 => k_is)
    (case a58 => k_is)
    (case l58 => k_is)
    (case c58 => k_is)
    (case k58 => k_is)
    (case a59 => k_is)
    (case l59 => k_is)
    (case c59 => k_is)
    (case k59 => k_is)
    (case a60 => k_is)
    (case l60 => k_is)
    (case c60 => k_is)
    (case k60 => k_is)
    (case a61 => k_is)
    (case l61 => k_is)
    (case c61 => k_is)
    (case k61 => k_is)
    (case a62 => k_is)
    (case l62 => k_is)
    (case c62 => k_is)
    (case k62 => k_is)
    (case a63 => k_is)
    (case l63 => k_is)
    (case c63 => k_is)
    (case k63 => k_is)
    (case a64 => k_is)
    (case l64 => k_is)
    (case c64 => k_is)
    (case k64 => k_is)
    (case a33 => k_is)
    (case a1660 => k_is)
    (case i1660 => k_is)
    (case l1660 => k_is)
    (case c1660 => k_is)
    (case k1660 => k_is)
    (case mk33 => k_is)
    (case kc33 => k_is)
    (case a1661 => k_is)
    (case i1661 => k_is)
    (case l1661 => k_is)
    (case c1661 => k_is)
    (case k1661 => k_is)
    (case a1663 => k_is)
    (case i1663 => k_is)
    (case l1663 => k_is)
    (case c1663 => k_is)
    (case k1663 => k_is)
    (case a1665 => k_is)
    (case i1665 => k_is)
    (case l1665 => k_is)
    (case c1665 => k_is)
    (case k1665 => k_is)
    (case pg33 => k_is)
    (case hd33 => k_is)
    (case po33 => k_is)
    (case sa33 => k_is)
    (case n33_n => k_is)
    (case n33__rows => k_is)
    (case a24 => k_is)
    (case a25 => k_is)
    (case a26 => k_is)
    (case a27 => k_is)
    (case a28 => k_is)
    (case d28 => (first | rfl | k_is | decide +kernel))
    (case e28_0 => k_is)
    (case e28_1 => k_is)
    (case e28_2 => k_is)
    (case m_tuple => k_is)
    (case m_isinstance => k_is)
    (case m_all => k_is)
    (case m_len => k_is)
    (case m_enumerate => k_is)
    (case m_zip => k_is)
    (case m_range => k_is)
    (case m_sum => k_is)
    (case m_any => k_is)
    (case m_int => k_is)
    (case m_abs => k_is)
    (case m_str => k_is)
    (case m_list => k_is)
    (case b_gcd => k_is)
    (case b_lcm => k_is)
    (case a3 => k_is)
    (case a4 => k_is)
    (case x4 => k_exc)
    (case k4 => k_is)
    (case s4 => k_is)
    (case t4 => k_is)
    (case a5 => k_is)
    (case x5 => k_exc)
    (case k5 => k_is)
    (case s5 => k_is)
    (case t5 => k_is)
    (case a7 => k_is)
    (case x7 => k_exc)
    (case k7 => k_is)
    (case s7 => k_is)
    (case t7 => k_is)
    (case a8 => k_is)
    (case x8 => k_exc)
    (case k8 => k_is)
    (case s8 => k_is)
    (case t8 => k_is)
    (case a9 => k_is)
    (case x9 => k_exc)
    (case k9 => k_is)
    (case s9 => k_is)
    (case t9 => k_is)
    (case s3 => k_is)
    (case t3 => k_is)
    (case h3 => k_is)
    (case e8_3 => (first | rfl | k_is))
    (case e9_3 => (first | rfl | k_is))
    (case cn => k_is)
    (case ct => k_is)
    (case oa33 => k_is)
    (case om33 => k_is)
    (case oy33_str => (first | kit_is | k_is | rfl | decide +kernel))
    (case cg8 => k_is)
    (case ck8 => k_is)
    (case cd8 => k_is)
    (case ca8 => k_is)
    (case cm8 => k_is)
    (case cg9 => k_is)
    (case ck9 => k_is)
    (case cd9 => k_is)
    (case ca9 => k_is)
    (case cm9 => k_is)
    (case i8_8 => (first | kit_is | k_is | decide +kernel))
    (case i8_9 => (first | kit_is | k_is | decide +kernel))
    (case i9_8 => (first | kit_is | k_is | decide +kernel))
    (case i9_9 => (first | kit_is | k_is | decide +kernel))
