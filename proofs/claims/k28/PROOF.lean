import PyProof.Rows.All
import Wide.All
import OpenK.AllK
import Wide.FinOn
import KE.KSuper
import HandS.Nested
import HandS.ClsMeth
import HandS.Star
import HandS.Ends
import HandS.Words
import HandS.List
import HandS.Exc
import HandS.ExcIs
import HandS.ExcField
import HandS.ExcInit
import HandS.WordsExc
import HandS.ExcValue
import HandS.Strs
import PyProof.Rows.SortShellAny
import HandS.ForMost
import HandS.IsInst
import HandS.Wide
import HandS.More
import HandS.Walk
import HandS.FStr
import HandS.RaiseMore
import HandS.NoneIn
import HandS.TupAny
import HandS.Style
import KE.KRevSl
import PyProof.P3In
import PyProof.TupleOfStr
import PyProof.FactsAll.dict
import PyProof.EqKinds
import HandS.TupLen
import HandS.MapObj
import PyProof.Rows.ListStrD
import HandS.StrMore
import HandS.Conv
import HandS.Dict
import HandS.WordsDict
import HandS.DictComp
import HandS.SetKeys
import HandS.DictTup
import KE.DataFind
import KE.GoesMore
import KE.GoesEnum
import KE.KDictCopyH
import PyProof.DictMoreH
import PyProof.Draws
import HandS.Property
import HandS.Rev
import HandS.Codes
import KE.IntTextText
import KE.SortData
import HandS.Deep
import PySem.Challenge.RW_stepblocks_k28_whole_enormous_diagrams
set_option Elab.async false
set_option linter.all false
set_option maxRecDepth 100000
set_option maxHeartbeats 8000000
/-! OwnA: super().__init__ of plain classes; a class held by a local, made; a def held by a local, called with a star. -/
namespace Own
open PySem PySem.Spec PyProof.Rows L2 NdefX ClX StX

/-! ### a block at its own code -/
structure PSA (X : Cx) (b0 : List Stmt) (sts : List Stmt) (t : TS) : Prop where
  run : ∀ (pins : List (Addr × Obj)) (s : Shared) (σ : L2.St) (H : Hp) (D : Ends), Inv X pins σ H s → t D σ H → _root_.PySem.wpAt (model X.prog X.w) X.A (.func b0 X.env) (execs sts X.env) (SP X pins D) X.xe s
theorem psa_of {X : Cx} {b0 sts : List Stmt} {t : TS} (h : PSs X sts t) : PSA X b0 sts t := ⟨fun pins s σ H D I q => wpAt_of_wpAny (h.run pins s σ H D I q)⟩
theorem psa_cons {X : Cx} {b0 rest : List Stmt} {st : Stmt} {t u : TS} (h1 : PS X st t) (h2 : PSA X b0 rest u) : PSA X b0 (st :: rest) (tSeq t u) := by
  refine ⟨fun pins s σ H D I q => PySem.ks_wpAt_execs_cons (wpAt_of_wpAny (thn (h1.run pins s σ H { D with nx := u D } I q) fun f s' hs => ?_))⟩
  cases f with
  | next =>
    obtain ⟨σ', H', I', q'⟩ := hs
    exact h2.run pins s' σ' H' D I' q'
  | brk => exact hs
  | cont => exact hs
  | ret u => exact hs

/-! ### super().m(e, ..) as a statement -/
/-- what the text says: the def's first parameter is slot 0; D: the class whose body holds the def; f2: the next class's method -/
structure SupK (K : PySem.W.Frag) (prog : Program) (f cda cc D : Addr) (fd : FuncData) (sf : Str) : Prop where
  fn : ∃ oc od osl, K.lookup f = some ⟨oc, od, .func fd, osl⟩
  par : ∃ ar, (fd.params.posonlyargs ++ fd.params.args).head? = some ar ∧ ar.arg = sf
  code : ∃ ccl cdd vs ccs file tf, K.lookup cda = some ⟨ccl, cdd, .fields vs, ccs⟩ ∧ vs[2]? = some (.str file tf) ∧ ((prog.main.file : Str) == file) = true
  cell : ∃ cl cld csl, K.lookup cc = some ⟨cl, cld, .cell (some (.ref D)), csl⟩
  top : (prog.main.scope.names.lookup ("super" : Str)).isSome = false
  st : PySem.W.nsIn K PySem.cStatics "thirdparty.any" = some none
/-- of an instance's class C -/
structure SupC (K : PySem.W.Frag) (C D : Addr) (m : Str) (f2 : Addr) : Prop where
  sub : PySem.W.mroIn K C (.ref D) = some true
  at_ : PySem.W.ks_superIn K C D m = some (some (.ref f2))
  ty : PySem.W.typeIn K (.ref f2) = some (.type "function")
  dcl : ∃ cdD, PySem.W.clsIn K D = some cdD
  fi : PySem.W.fnIn K f2 = true
def tSuper (K : PySem.W.Frag) (D : Addr) (m : Str) (f2 : Addr) (sp : Sp) (E : XK) (t : TA) : TS := fun D' σ H => ∃ x C dx fs, σ[0]? = some (some (.ref x)) ∧ H x = some (.ins C dx fs) ∧ SupC K C D m f2 ∧
  t σ H fun vs H1 => sp (.ref x :: vs) H1 (fun _ H2 => D'.nx σ H2) E
theorem psa_super {X : Cx} {CX : CXT} {k : Nat} {b0 rest : List Stmt} {p0 p1 apos pos spos : Pos} {m self : Str} {e : Expr} {es : List Expr} {t : TA} {u : TS} {f cda cc D f2 : Addr} {fd : FuncData} {sp : Sp} {E : XK} {pl : Sem Bool}
    (SK : SupK X.K X.prog f cda cc D fd self) (hfu : X.env.func = some f) (hco : X.env.code = .ref cda) (hcl : X.env.cells.lookup ("__class__" : Str) = some cc)
    (hks : X.env.kindOf "super" = some .globalImplicit) (hkc : X.env.kindOf "__class__" = some .free) (hN : X.N[0]? = some self) (hka : X.env.kindOf self = some .local) (hms : X.mg "super" = none)
    (F : FnR X.prog X.w X.K X.mg X.base CX k f2 sp) (hr : Room k X.A) (hx : Passes CX X E) (ha : PA X (e :: es) t) (hu : PSA X b0 rest u)
    (hm1 : (m == ("__class__" : Str)) = false := by decide +kernel)
    (hi : interactive X.env = false := by rfl) (hsw : swapsWith (.Call (.Attribute (.Call (.Name "super" p0) [] [] p1) m apos) (e :: es) [] pos) none spos.line X.env = pure false := by rfl)
    (hst : starEach (e :: es) X.env = (false, eval e X.env) :: starEach es X.env := by rfl) (hpl : (backTo pos (starEach es X.env)).any (·.1) = false := by rfl)
    (ht : eval (.Call (.Attribute (.Call (.Name "super" p0) [] [] p1) m apos) (e :: es) [] pos) X.env = (do
      let ov ← attributeBase (.Call (.Name "super" p0) [] [] p1) m X.env (eval (.Call (.Name "super" p0) [] [] p1) X.env)
      standAt apos.atName
      let (f, first) ← holding [ov] (getMethod ov m pl)
      callWith pos f first (backTo pos (starEach (e :: es) X.env)) []) := by rfl) :
    PSA X b0 (.Expr (.Call (.Attribute (.Call (.Name "super" p0) [] [] p1) m apos) (e :: es) [] pos) spos :: rest) (tSeq (tSuper X.K D m f2 sp E t) u) := by
  refine ⟨fun pins s σ H Dn I q => ?_⟩
  obtain ⟨x, C, dx, fs, hσ, hH, SC, q⟩ := q
  have KX := I.kIn
  obtain ⟨oc, od, osl, hf⟩ := SK.fn
  obtain ⟨ar, har, hself⟩ := SK.par
  obtain ⟨ccl, cdd, vs, ccs, file, tf, hcode, hvs, hfile⟩ := SK.code
  obtain ⟨cl, cld, csl, hcell⟩ := SK.cell
  obtain ⟨cdD, hD⟩ := SC.dcl
  obtain ⟨oD, hD1, hD2⟩ : ∃ oD, s.heap.get? D = some oD ∧ oD.data = .cls cdD := by
    unfold PySem.W.clsIn at hD
    split at hD
    · rename_i c d cd' sl ho
      cases hD
      exact ⟨_, KX _ _ ho, rfl⟩
    · cases hD
  obtain ⟨mA, O, rr, _, _, _⟩ := ins_get I.hok hH
  obtain ⟨odx, J, _⟩ := O.look
  obtain ⟨ml, hn, hl⟩ := id I.loc
  have hself' : ml ar.arg = some (.ref x) := by
    obtain ⟨w', rw', lk⟩ := hl 0 self (.ref x) hN hσ (.inl hka)
    rcases lk with ⟨_, e1⟩ | ⟨e1, _⟩
    · rw [hself, e1]
      exact congrArg some rw'
    · rw [hka] at e1
      rcases e1 with z | z <;> cases z
  obtain ⟨mb, hb1, hb2⟩ := I.mod.blt
  refine PySem.ks_wpAt_execs_cons (PySem.ks_wpAt_Expr_any (Q := fun f s' => match f with | .next => _root_.PySem.wpAt (model X.prog X.w) X.A (.func b0 X.env) (execs rest X.env) (SP X pins Dn) X.xe s' | f => SP X pins Dn f s') ?_ hi hsw)
  refine PySem.ks_wpAt_MethodCall (pl := pl) ?_ ht
  have e0 : s = ⟨s.heap, s.gens, s.drawn, s.toks, s.os⟩ := rfl
  refine PySem.ks_wpAt_super_base hks hkc hm1 hfu (KX _ _ hf) rfl har hco (KX _ _ hcode) rfl hvs hfile SK.top ?_
  refine PySem.W.ks_loadName_global I.ok.kind hks (Calls.loadGlobal_builtin (by rw [I.ok.glob]; exact I.mod.glob.keeps I.bk) hms (by rw [I.ok.blt]; exact hb1.keeps I.bk) ((hb2 "super" (by decide)).trans (by decide +kernel : bootBuiltins "super" = some (.type "super"))) ⟨rfl, ?_⟩)
  refine wpAny_loadName_free I.ok.kind hkc hcl ⟨_, KX _ _ hcell, rfl⟩ ?_
  refine wpAny_loadName_local I.ok.kind (by rw [hself]; exact hka) hn hself' ?_
  rw [e0]
  refine PySem.ks_wpAny_isType_cls hD1 hD2 ⟨rfl, ?_⟩
  refine PySem.ks_wpAny_call_super hD1 hD2 J.at_ J.cls (fun c e => ?_) (PySem.W.looks_mroIn KX SC.sub) (fun h' e k => ?_)
  · have z := J.no
    unfold PySem.W.notCls at z
    rw [e] at z
    exact Bool.noConfusion z
  have I1 : Inv X ((s.heap.objs.size, PySem.W.ks_superObj D x C) :: pins) σ H { s with heap := h', toks := s.toks } := pin_new I k (Nat.le_refl _) e (fun v z => nomatch z)
  have KX1 := I1.kIn
  cases hc : PySem.W.clsIn X.K C with
  | none =>
    have z := SC.at_
    unfold PySem.W.ks_superIn at z
    rw [hc] at z
    cases z
  | some cd =>
    have hm := SC.at_
    unfold PySem.W.ks_superIn at hm
    rw [hc] at hm
    obtain ⟨of, hof, hofc⟩ : ∃ of, h'.get? f2 = some of ∧ of.cls = .type "function" := by
      have ht' : (X.K.lookup f2).map (·.cls) = some (.type "function") := SC.ty
      cases z : X.K.lookup f2 with
      | none => rw [z] at ht'; cases ht'
      | some of => rw [z] at ht'; exact ⟨of, KX1 _ _ z, Option.some.inj ht'⟩
    refine PySem.ks_wpAny_getMethod_super e (PySem.W.looks_opaque KX1 SK.st) (l₀ := cd.mro) ?_ rfl KX1 hm hof hofc (PySem.W.ks_ne KX J hc) hm1 ?_
    · exact fun A Q E s k q => wpAny_bind ((PySem.W.looks_clsIn KX1 hc) A _ E s k (wpAny_pure q))
    have I2 : Inv X ((h'.objs.size, PySem.W.methodObj (.ref f2) (.ref x)) :: (s.heap.objs.size, PySem.W.ks_superObj D x C) :: pins) σ H { s with heap := h'.push (PySem.W.methodObj (.ref f2) (.ref x)), toks := s.toks + 1 } :=
      pin_new (s := { s with heap := h', toks := s.toks }) I1 (fun _ _ z => Heap.get?_push_of_some _ z) (Nat.le_refl _) (Heap.get?_push_size h' rfl) (fun v z => nomatch z)
    have hq := pin_at I2
    have hL : h'.objs.size ≠ X.env.locals := (I2.pin (h'.objs.size, PySem.W.methodObj (.ref f2) (.ref x)) (List.mem_append_right _ List.mem_cons_self)).2.2.1
    have hb0 : X.base.get? h'.objs.size = none := base_none I1 (Nat.le_refl _)
    refine PySem.W.callWith_M (K := X.K) (h₀ := X.base) (first := []) I.ok.mod.kin (news_at hL hb0 hq) List.mem_cons_self SC.fi (thn (ha.run pos _ _ σ H _ I2 q) fun us s3 ⟨vs3, H2, I3, rv, q2⟩ => ⟨⟨pin_at I3, I3.kIn⟩, ?_⟩) hst hpl
    have z := wpAny_call (PySem.W.method_call (pin_at I3) (run_fnR (us := .ref x :: us) (vs := .ref x :: vs3) F hr hx I3 (.cons rfl rv) q2))
    refine thn z fun v4 s4 ⟨v5, H5, I5, _, q5⟩ => ?_
    exact hu.run pins s4 σ H5 Dn (unpin (unpin I5)) q5

/-! ### a def with the cell __class__, by its body -/
theorem fnr_super {CX : CXT} {P : Program} {w : World} {K : PySem.W.Frag} {mg : Str → Option Value} {base : Heap} {k : Nat} {f cc D : Addr} {F : NF} {N ps : List Str} {sp : Sp} {oc doc pm ct : Value} {od an : Option Addr} {osl : Array (Option Value)}
    (lk : K.lookup f = some ⟨oc, od, .func (PySem.W.fnX F.name F.qual F.params F.body F.scope F.cl .none .none doc pm an (.ref F.c) ct), osl⟩) (hcd : PySem.W.codeIn K (.ref F.c) F.qual = true) (hcl : F.cl = [(("__class__" : Str), cc)])
    (hcell : ∃ cl cld csl, K.lookup cc = some ⟨cl, cld, .cell (some (.ref D)), csl⟩) (S : NScope N ps ["__class__"] F.scope)
    (hb : ∀ (us : List Value), us.length = ps.length → bindArgs (PySem.W.fnX F.name F.qual F.params F.body F.scope F.cl .none .none doc pm an (.ref F.c) ct) ⟨us, []⟩ = pure (ps.zip us))
    (len : ∀ vs H Q E, sp vs H Q E → vs.length = ps.length)
    (hbody : ∀ (A : Around) (outer : List Env) (s : Shared) (H : Hp) (vs : List V) (Q : VK) (E : XK), Room k (A.deeper (envF F f s.heap.objs.size)) → sp vs H Q E →
      ∃ t, PSA (ncx CX P w K mg base N F f A outer s H E) F.body F.body t ∧ t { nx := fun _ H' => Q .non H', rt := Q } (startF N vs [some (.ref D)]) H) :
    FnR P w K mg base CX (k + 1) f sp := by
  intro A outer s H us vs Q E hr e0 r hsp
  have hl := len _ _ _ _ hsp
  have KB : K.In base := e0.mod.kin
  have KX : K.In s.heap := KB.keeps fun b o e => (e0.bs b o e).1
  have lim : s.heap.NoLimit := e0.mod.nolimit.keeps fun b o e => (e0.bs b o e).1
  obtain ⟨cl, cld, csl, hc⟩ := hcell
  have hcl1 : ∀ y c, F.cl.lookup y = some c → y = "__class__" ∧ c = cc := fun y c e => by
    rw [hcl] at e
    by_cases hy : y = ("__class__" : Str)
    · subst hy
      have e2 : some cc = some c := by
        rw [← e]
        simp [List.lookup]
      exact ⟨rfl, (Option.some.inj e2).symm⟩
    · have hb0 : (y == ("__class__" : Str)) = false := beq_eq_false_iff_ne.mpr hy
      rw [List.lookup_cons, hb0] at e
      cases e
  have C : CellsAt F.cl ["__class__"] [some (.ref D)] s.heap H := by
    refine ⟨rfl, fun y c e => ?_, fun x y c e1 e2 => ?_, fun i y e => ?_⟩
    · obtain ⟨_, rfl⟩ := hcl1 y c e
      exact ⟨(e0.bs _ _ (KB _ _ hc)).2, some (.ref D), ⟨_, KX _ _ hc, rfl⟩⟩
    · exact (hcl1 x c e1).1.trans (hcl1 y c e2).1.symm
    · cases i with
      | zero =>
        cases e
        refine ⟨cc, by rw [hcl]; simp [List.lookup], fun v e2 => ?_⟩
        cases e2
        exact ⟨.ref D, rfl, ⟨_, KX _ _ hc, rfl⟩⟩
      | succ i => cases e
  refine codeAny_call_function hr.depth (KX _ _ lk) rfl S.co S.gen rfl (PySem.W.codeRec_of KX hcd) ?_
  rw [hb us (by rw [← r.length]; exact hl)]
  refine wpAny_pure (wpAny_newFunctionEnv S.nocell (fun ⟨n, _⟩ hy => S.par n (List.of_mem_zip hy).1) (fun h₁ hns hsb => ⟨lim.fresh _ hsb, ?_⟩) S.kind)
  show codeAny _ _ (.func F.body (envF F f s.heap.objs.size)) _ _
  refine PySem.ks_codeAny_funcAt ?_
  have kp : ∀ b o, s.heap.get? b = some o → h₁.get? b = some o := fun b o e => hsb.extBut b o (Nat.ne_of_lt (Heap.lt_size e)) (Heap.get?_push_of_some _ e)
  obtain ⟨t, ht, hq⟩ := hbody A outer s H vs Q E (hr.deeper _) hsp
  have I : Inv (ncx CX P w K mg base N F f A outer s H E) [] (startF N vs [some (.ref D)]) H { s with heap := h₁, toks := s.toks + (ps.zip us).length } := inv_startN S hr.hd e0 hl r C hns kp
  refine PySem.ks_wpAt_mono (ht.run [] _ (startF N vs [some (.ref D)]) H _ I hq) (fun fl s' hs => ?_) fun e s' hs => hs
  have fin : ∀ {σ' : L2.St} {H' : Hp} {v : V} {u : Value}, Inv (ncx CX P w K mg base N F f A outer s H E) [] σ' H' s' → L2.RelV v u → Q v H' → CE outer P w H s Q u s' :=
    fun {σ' H' v u} J rv q => ⟨v, H', J.os, J.bare, J.base, J.hok, rv, q⟩
  cases fl with
  | ret u =>
    obtain ⟨v, σ', H', J, rv, q⟩ := hs
    exact fin J rv q
  | next =>
    obtain ⟨σ', H', J, q⟩ := hs
    exact fin (v := V.non) (u := Value.none) J rfl q
  | brk =>
    obtain ⟨_, _, _, q⟩ := hs
    exact False.elim q
  | cont =>
    obtain ⟨_, _, _, q⟩ := hs
    exact False.elim q

/-! ### ways joined behind a statement -/
def tJoin (t u : TS) : TS := fun D σ H => ∃ Mid : L2.St → Hp → Prop, t { D with nx := Mid } σ H ∧ ∀ σ' H', Mid σ' H' → u D σ' H'
theorem pss_join {X : Cx} {st : Stmt} {rest : List Stmt} {t u : TS} (h1 : PS X st t) (h2 : PSs X rest u) : PSs X (st :: rest) (tJoin t u) := by
  refine ⟨fun pins s σ H D I h => ?_⟩
  obtain ⟨Mid, q1, q2⟩ := h
  refine wpAny_execs_cons (thn (h1.run pins s σ H _ I q1) fun f s' hs => ?_)
  cases f with
  | next =>
    obtain ⟨σ', H', I', m⟩ := hs
    exact h2.run pins s' σ' H' D I' (q2 σ' H' m)
  | brk => exact hs
  | cont => exact hs
  | ret u => exact hs

/-! ### x(e, ..), x a local that holds the class at C -/
section
variable {X : Cx} {CX : CXT} {k i : Nat} {f C : Addr} {sp : Sp} {E : XK} {x : Str} {e : Expr} {es : List Expr} {te : TE} {t : TA} {p pos sp_ : Pos}
def tMakeL (i : Nat) (C : Addr) (sp : Sp) (E : XK) (t : TA) : TE := fun σ H Q => σ[i]? = some (some (.ref C)) ∧ tMakeR C sp E t σ H Q
theorem pe_makeL (M : Mk X.K C f) (F : FnR X.prog X.w X.K X.mg X.base CX k f sp) (hr : Room (k + 1) X.A) (hN : X.N[i]? = some x) (hv : Vis X.env.scope x) (hx : Passes CX X E) (ha : PA X (e :: es) t)
    (hdb : (x == ("__debug__" : Str)) = false := by decide) (hcd : (x == ("__classdict__" : Str)) = false := by decide)
    (he : starEach (e :: es) X.env = (false, eval e X.env) :: starEach es X.env := by rfl) (hpl : (backTo pos (starEach es X.env)).any (·.1) = false := by rfl) : PE X (.Call (.Name x p) (e :: es) [] pos) (tMakeL i C sp E t) := by
  refine ⟨fun pins s σ H Q I h => ?_⟩
  obtain ⟨hs, h⟩ := h
  refine wpAny_Call_Name_kw (thn ((pe_var (pos := p) hN hv hdb hcd).run pins s σ H (fun v H1 => v = .ref C ∧ H1 = H) I ⟨.ref C, hs, rfl, rfl⟩) fun u s1 ⟨v, H1, I1, r1, q1⟩ => ?_)
  obtain ⟨rfl, rfl⟩ := q1
  cases r1
  refine PySem.W.callWith_K (h₀ := X.base) I.ok.mod.kin M.kp (thn (ha.run pos pins s1 σ _ _ I1 h) fun us s2 ⟨vs, H2, I2, r, q⟩ => ⟨I2.kIn, ?_⟩) he hpl
  exact run_makeR M F hr hx I2 r q
/-- x(*y), x a local that holds one of several defs -/
def tCallLS (X : Cx) (CX : CXT) (k i : Nat) (E : XK) (te : TE) : TE := fun σ H Q => ∃ f sp, σ[i]? = some (some (.ref f)) ∧ FnR X.prog X.w X.K X.mg X.base CX k f sp ∧ PySem.W.keepIn X.K (.ref f) = true ∧
  te σ H fun y H1 => ∃ a xs, y = V.ref a ∧ (SqT X.K H1 a xs ∨ SqL X.K H1 a xs) ∧ sp xs H1 Q E
theorem pe_callLS (hr : Room k X.A) (hN : X.N[i]? = some x) (hv : Vis X.env.scope x) (hx : Passes CX X E) (he : PE X e te) (hdb : (x == ("__debug__" : Str)) = false := by decide) (hcd : (x == ("__classdict__" : Str)) = false := by decide)
    (hst : starEach [.Starred e sp_] X.env = [(true, eval e X.env)] := by rfl) : PE X (.Call (.Name x p) [.Starred e sp_] [] pos) (tCallLS X CX k i E te) := by
  refine ⟨fun pins s σ H Q I h => ?_⟩
  obtain ⟨f, sp, hs, F, hk, h⟩ := h
  refine wpAny_Call_Name_kw (thn ((pe_var (pos := p) hN hv hdb hcd).run pins s σ H (fun v H1 => v = .ref f ∧ H1 = H) I ⟨.ref f, hs, rfl, rfl⟩) fun u s1 ⟨v, H1, I1, r1, q1⟩ => ?_)
  obtain ⟨rfl, rfl⟩ := q1
  cases r1
  refine PySem.W.callWith_S (h₀ := X.base) I.ok.mod.kin hk (thn (he.run pins s1 σ _ _ I1 h) fun v s2 ⟨y, H2, I2, ry, a, xs, ey, hxs, q⟩ => ?_) hst
  subst ey
  obtain rfl : v = Value.ref a := ry
  exact star_any I2 hxs fun us s3 I3 rv => ⟨I3.kIn, wpAny_call (run_fnR F hr hx I3 rv q)⟩
end
end Own
/-! OwnB: defs that ask that no repr runs around them; repr of data; str of an own instance. -/
namespace Own
open PySem PySem.Spec PyProof.Rows L2
/-! ### repr of data: where no repr runs around -/
theorem call_reprD {X : Cx} (hg : X.A.guards = some []) (hu : X.A.units + 64 < cLine) : CallR X (.builtin "repr") (fun xs H Q => ∃ (a : Addr) (d : PyData), xs = [.ref a] ∧ Dp X.K H (.ref a) d ∧ d.showable = true ∧ d.hasDict = false ∧ d.depth ≤ 60 ∧ d.shown.length ≤ sizeLine ∧ Q (.str d.shown) H) := by
  intro pins s σ H xs us Q I r h
  obtain ⟨a, d, rfl, hd, hs, hn, h60, hz, q⟩ := h
  obtain ⟨u, rfl, ru⟩ := vals1 r
  have hu' : u = .ref a := ru
  subst hu'
  obtain ⟨as, rd⟩ := Dp.reads I d _ _ hd rfl
  exact repr_of_reads' rd hs (PyData.noDict_hsm hn) hg (by omega) (fun _ _ e => e) (fun h' u tk hk => ⟨.str d.shown, H, I.kept hk, ⟨u, rfl⟩, q⟩) hz
/-! ### str(o) by the class's own __str__ -/
theorem call_strO {X : Cx} {C f : Addr} {k : Nat} {sp : Sp} (F : FnR X.prog X.w X.K X.mg X.base CX0 k f sp) (hr : Room (k + 2) X.A) (hs : PySem.W.findIn X.K (.ref C) "__str__" = some (some (.ref f))) (hf : PySem.W.isFn X.K (.ref f) = true) :
    CallR X (.type "str") (fun xs H Q => ∃ (x dx : Addr) (fs : List (Str × V)), xs = [.ref x] ∧ H x = some (.ins C dx fs) ∧ sp [.ref x] H (fun v H' => ∃ y, v = .str y ∧ Q v H') E0) := by
  intro pins s σ H xs us Q I r h
  obtain ⟨x, dx, fs, rfl, hx, q⟩ := h
  obtain ⟨u, rfl, ru⟩ := vals1 r
  have hu' : u = .ref x := ru
  subst hu'
  obtain ⟨mA, O, _⟩ := ins_get I.hok hx
  obtain ⟨od, J, _⟩ := O.look
  refine PySem.W.kso_call (hr.in1.in1.units0) I.kIn J hs hf (wpAny_call (codeAny_mono (F X.A.in1.in1 X.stack s H [.ref x] [.ref x] _ E0 hr.in1.in1 I.env0.in1.in1 (.cons rfl .nil) q) fun r s' hq => ?_))
  cases r with
  | error e => exact False.elim hq
  | ok fl =>
    cases fl with
    | ret u =>
      obtain ⟨v, H', I', rv, ⟨y, rfl, q'⟩⟩ := I.after hq
      obtain ⟨t, rfl⟩ := rv
      exact ⟨.str y, H', I', ⟨t, rfl⟩, q'⟩
    | next => exact False.elim hq
    | brk => exact False.elim hq
    | cont => exact False.elim hq
/-! ### a def that is called where no repr runs -/
structure FnG (P : Program) (w : World) (K : PySem.W.Frag) (mg : Str → Option Value) (base : Heap) (CX : CXT) (k : Nat) (f : Addr) (fd : FuncData) (ps : List Str) (sp : Sp) : Prop where
  len : ∀ vs H Q E, sp vs H Q E → vs.length = ps.length
  run : ∀ (A : Around) (outer : List Env) (s : Shared) (H : Hp) (args : Args) (us : List Value) (vs : List V) (Q : VK) (E : XK), A.guards = some [] → Room k A → Env0 P w K mg base A outer s H → BindsTo s fd args (ps.zip us) → Vals vs us → sp vs H Q E →
    codeAny (model P w) A (.call (.ref f) args) (CR CX outer P w H s Q E) s
theorem fng_of {CX : CXT} {P : Program} {w : World} {K : PySem.W.Frag} {mg : Str → Option Value} {base : Heap} {k : Nat} {f : Addr} {name qual : Str} {params : Arguments} {body : List Stmt} {scope : Scope} {dV kV doc pm cdv ct oc : Value} {an od : Option Addr}
    {osl : Array (Option Value)} {N ps : List Str} {sp : Sp} (lk : K.lookup f = some ⟨oc, od, .func (PySem.W.fnOf name qual params body scope dV kV doc pm an cdv ct), osl⟩) (hcd : PySem.W.codeIn K cdv qual = true) (S : FnScope N ps scope)
    (len : ∀ vs H Q E, sp vs H Q E → vs.length = ps.length)
    (hbody : ∀ (A : Around) (outer : List Env) (s : Shared) (H : Hp) (vs : List V) (Q : VK) (E : XK), (A.deeper (envOfC qual scope s.heap.objs.size f cdv)).guards = some [] → Room k (A.deeper (envOfC qual scope s.heap.objs.size f cdv)) → sp vs H Q E →
      ∃ t, PSs (cxOf CX P w K mg base N qual scope f cdv A outer s H E) body t ∧ t { nx := fun _ H' => Q .non H', rt := Q } (start N vs) H) :
    FnG P w K mg base CX (k + 1) f (PySem.W.fnOf name qual params body scope dV kV doc pm an cdv ct) ps sp := by
  refine ⟨len, fun A outer s H args us vs Q E hg hr e0 hb r hsp => ?_⟩
  have hl := len _ _ _ _ hsp
  have KX : K.In s.heap := e0.mod.kin.keeps fun b o e => (e0.bs b o e).1
  have lim : s.heap.NoLimit := e0.mod.nolimit.keeps fun b o e => (e0.bs b o e).1
  have hkind : ∀ y ∈ ps.zip us, scope.names.lookup y.1 = some .local ∨ (scope.names.lookup y.1 = some .cell ∧ ((cellsFrom (s.heap.objs.size + 1) scope.names []).lookup y.1).isSome = true) := fun ⟨n, v⟩ hy => by
    rcases S.par n (List.of_mem_zip hy).1 with q | q
    · exact .inl q
    · exact .inr ⟨q, PySem.W.cellsFrom_some _ _ _ (.inl q)⟩
  refine codeAny_call_function hr.depth (KX _ _ lk) rfl S.co S.gen rfl (PySem.W.codeRec_of KX hcd) (hb _ _ _ _ ?_)
  refine wpAny_newFunctionEnv_cells S.kind hkind fun env he s1 x => ?_
  subst he
  refine ⟨lim.keeps x.toInCall.keep, codeAny_func ?_⟩
  obtain ⟨t, ht, hq⟩ := hbody A outer s H vs Q E hg (hr.deeper _) hsp
  have I : Inv (cxOf CX P w K mg base N qual scope f cdv A outer s H E) [] (start N vs) H s1 := inv_start S hr.hd e0 hl r x
  refine wpAny_mono (ht.run [] s1 (start N vs) H _ I hq) (fun fl s' hs => ?_) fun e s' hs => hs
  have fin : ∀ {σ' : L2.St} {H' : Hp} {v : V} {u : Value}, Inv (cxOf CX P w K mg base N qual scope f cdv A outer s H E) [] σ' H' s' → RelV v u → Q v H' → CE outer P w H s Q u s' :=
    fun {σ' H' v u} J rv q => ⟨v, H', J.os, J.bare, J.base, J.hok, rv, q⟩
  cases fl with
  | ret u =>
    obtain ⟨v, σ', H', J, rv, q⟩ := hs
    exact fin J rv q
  | next =>
    obtain ⟨σ', H', J, q⟩ := hs
    exact fin (v := V.non) (u := Value.none) J rfl q
  | brk =>
    obtain ⟨_, _, _, q⟩ := hs
    exact False.elim q
  | cont =>
    obtain ⟨_, _, _, q⟩ := hs
    exact False.elim q
theorem fun_okG {P : Program} {w : World} {K : PySem.W.Frag} {mg : Str → Option Value} {base : Heap} {x qual : Str} {st : Stmt} {f : Addr} {fd : FuncData} {N ps : List Str} {k : Nat} {sp : Sp} (F : Fun K x qual st f fd) (S : FnScope N ps (defScope st)) (len : ∀ vs H Q E, sp vs H Q E → vs.length = ps.length)
    (hbody : ∀ (cdv : Value) (A : Around) (outer : List Env) (s : Shared) (H : Hp) (vs : List V) (Q : VK) (E : XK), (A.deeper (envOfC qual (defScope st) s.heap.objs.size f cdv)).guards = some [] → Room k (A.deeper (envOfC qual (defScope st) s.heap.objs.size f cdv)) → sp vs H Q E →
      ∃ t, PSs (cxOf CX0 P w K mg base N qual (defScope st) f cdv A outer s H E).nox (defBody st) t ∧ t { nx := fun _ H' => Q .non H', rt := Q } (start N vs) H) : FnG P w K mg base CX0 (k + 1) f fd ps sp := by
  obtain ⟨oc, od, kV, doc, pm, an, cdv, ct, osl, rfl, lk, hcd⟩ := F.ex
  refine fng_of lk hcd S len fun A outer s H vs Q E hg hr hsp => ?_
  obtain ⟨t, h, q⟩ := hbody cdv A outer s H vs Q E hg hr hsp
  exact ⟨t, h.nox, q⟩
/-! ### the law's end for such a def -/
theorem law_callG {P : Program} {w : World} {K : PySem.W.Frag} {mg mb : Str → Option Value} {CX : CXT} {k : Nat} {fa a : Addr} {fd : FuncData} {x : Str} {sp : Sp} {s₁ : Shared} {vs : List Value} {ns : List Int}
    (KX : K.In s₁.heap) (hns : s₁.heap.Ns mainGlobals mg) (hb : s₁.heap.Ns builtinsNs mb) (hbb : ∀ x : Str, x ≠ "__name__" → mb x = bootBuiltins x) (hlim : s₁.heap.NoLimit) (hg : s₁.gens = #[])
    (ha : s₁.heap.get? a = some { cls := .type "list", data := .seq vs.toArray }) (hi : IntsAre vs ns) (hl : ns.length ≤ sizeLine) (hr : Room k callerA)
    (F : ∀ base : Heap, K.In base → base.Ns mainGlobals mg → FnG P w K mg base CX k fa fd [x] sp) (hbind : ∀ (s : Shared) (u : Value), BindsTo s fd ⟨[u], []⟩ [(x, u)])
    (hsp : ∀ H : Hp, Only H → SqL K H a (ns.map V.int) → sp [.ref a] H (fun v _ => v = .bl true) fun _ _ _ => False)
    (hCX : ∀ H e s', CX [] H s₁ (fun _ _ _ => False) e s' → False) :
    codeAny (model P w) callerA (.call (.ref fa) ⟨[.ref a], []⟩) (fun r s' => r = .ok (.ret (.bool true)) ∧ OldK s₁.heap s'.heap ∧ s'.os = s₁.os ∧ AllBare s'.gens) s₁ := by
  have rv := vals_ints hi
  have lenV := hi.length
  have core : ∀ H : Hp, Only H → SqL K H a (ns.map V.int) → HOk P w H s₁.heap → (∀ b, H b ≠ none → b = a) → (H a ≠ none → K.lookup a = none) →
      codeAny (model P w) callerA (.call (.ref fa) ⟨[.ref a], []⟩) (fun r s' => r = .ok (.ret (.bool true)) ∧ OldK s₁.heap s'.heap ∧ s'.os = s₁.os ∧ AllBare s'.gens) s₁ := by
    intro H hO hS hok hA hK
    have base_of : ∀ {b : Addr} {o : Obj}, s₁.heap.get? b = some o → H b = none → (hidT s₁.heap H).get? b = some o := fun e n => hidT_get e n
    have noA : ∀ {b : Addr} {o : Obj} {es : Array DictEntry} {ep : Nat}, s₁.heap.get? b = some o → o.data = .dict es ep → H b = none := fun {b o es ep} e d => by
      cases q : H b with
      | none => rfl
      | some u =>
        have e' : b = a := hA b (by rw [q]; simp)
        subst e'
        rw [ha] at e; cases e
        have d' : Data.seq vs.toArray _ = Data.dict es ep := d
        cases d'
    have nsK : ∀ {b : Addr} {m : Str → Option Value}, s₁.heap.Ns b m → (hidT s₁.heap H).Ns b m := fun {b m} ⟨o, es, ep, e, d, r⟩ => ⟨o, es, ep, base_of e (noA e d), d, r⟩
    have hKb : K.In (hidT s₁.heap H) := fun b o e => base_of (KX b o e) (by
      cases q : H b with
      | none => rfl
      | some u =>
        have e' : b = a := hA b (by rw [q]; simp)
        subst e'
        rw [hK (by rw [q]; simp)] at e; cases e)
    have hM : Mod K mg (hidT s₁.heap H) := ⟨hKb, nsK hns, ⟨mb, nsK hb, hbb⟩, let ⟨mc, h1, h2⟩ := hlim; ⟨mc, nsK h1, h2⟩⟩
    have e0 : Env0 P w K mg (hidT s₁.heap H) callerA [] s₁ H := ⟨rfl, hM, fun b o e => of_hidT e, Nat.le_of_eq (hidT_size _ _), trivial, fun b hb => absurd (show b ∈ ([] : List Addr) from hb) (by simp), hok, .of_eq hg⟩
    refine codeAny_mono ((F _ hKb (nsK hns)).run callerA [] s₁ H ⟨[.ref a], []⟩ [.ref a] [.ref a] _ _ rfl hr e0 (hbind s₁ (.ref a)) (.cons rfl .nil) (hsp H hO hS)) fun r s' h => ?_
    cases r with
    | error e => exact (hCX H e s' h).elim
    | ok fl =>
      cases fl with
      | next => exact False.elim h
      | brk => exact False.elim h
      | cont => exact False.elim h
      | ret u =>
        obtain ⟨v, H', os, bare, un, hok', r', q⟩ := h
        have q' : v = .bl true := q
        subst q'
        obtain rfl : u = Value.bool true := r'
        refine ⟨rfl, OldK.of_keep fun b o e => ?_, os, bare⟩
        cases q : H b with
        | none => exact un.keep b o e q (by intro z; exact absurd (show b ∈ ([] : List Addr) from z) (by simp)) (by simp)
        | some u =>
          rcases hO b with z | ⟨ob, xs, z⟩
          · rw [q] at z; cases z
          · have z2 := un.frzs b ob _ z
            obtain ⟨e1, _⟩ := hok b _ z
            obtain ⟨e2, _⟩ := hok' b _ z2
            rw [e] at e1; cases e1
            exact e2
  cases hk : K.lookup a with
  | some o =>
    have e := KX a o hk
    rw [ha] at e
    cases e
    refine core (fun _ => none) (fun _ => .inl rfl) (.inr ⟨_, vs.toArray, _, hk, rfl, rfl, rfl, by rw [List.size_toArray, lenV]; exact hl, by simpa using rv⟩) (fun b u z => by have z' : (none : Option HO) = some u := z; cases z') (fun b z => absurd rfl z) fun z => absurd rfl z
  | none =>
    refine core (fun b => if b = a then some (.frz { cls := .type "list", data := .seq vs.toArray } (.lst (ns.map V.int))) else none) (fun b => ?_) (.inl (.inr ⟨{ cls := .type "list", data := .seq vs.toArray }, if_pos rfl⟩)) (fun b u z => ?_) (fun b z => ?_) fun _ => hk
    · by_cases hb : b = a
      · exact .inr ⟨_, _, if_pos hb⟩
      · exact .inl (if_neg hb)
    · by_cases hb : b = a
      · have z' := (if_pos hb).symm.trans z
        cases z'
        subst hb
        exact ⟨ha, by rw [List.length_map]; exact hl, vs, _, rv, ha⟩
      · have z' := (if_neg hb).symm.trans z
        cases z'
    · by_cases hb : b = a
      · exact hb
      · exact absurd (if_neg hb) z
theorem walk_ofG {l : PySem.W.OpenLaw} {n k : Nat} {q : Program} {loose : List Str} {XP : (Str → Option Value) → Heap → Prop} {YP : World → Heap → Prop} {d : DefRec} {K : Params → PySem.W.Frag} {sp : World → Sp} {x : Str}
    (hn : l.most = some n) (hn2 : n ≤ sizeLine) (hdf : d.params.defaults = []) (hr : Room k callerA)
    (hY : ∀ (w : World) (h : Heap), YP w h → (K w.params).In h)
    (F : ∀ (w : World) (mg : Str → Option Value) (fa : Addr) (h : Heap), (K w.params).In h → h.Ns mainGlobals mg → mg d.name = some (.ref fa) →
      ∃ fd : FuncData, (∀ (s : Shared) (u : Value), BindsTo s fd ⟨[u], []⟩ [(x, u)]) ∧
        ∀ base : Heap, (K w.params).In base → base.Ns mainGlobals mg → FnG l.prog w (K w.params) mg base CX0 k fa fd [x] (sp w))
    (hsp : ∀ (w : World) (H : Hp) (a : Addr) (ns : List Int), ns.length ≤ n → Only H → SqL (K w.params) H a (ns.map V.int) → sp w [.ref a] H (fun v _ => v = .bl true) fun _ _ _ => False) :
    PySem.W.WalkO q loose XP YP l.row.toRowW d [] (fun f vs => PySem.call f vs) := by
  refine Att.attach_call hn hdf fun w s₀ s₁ mg mb fa o pm cd doc a vs ns G Y ho hd hcd hmg hobj hints hlen hg => ?_
  have KX := hY w _ Y
  obtain ⟨fd, hb, hF⟩ := F w mg fa _ KX G.T.g hmg
  exact law_callG KX G.T.g G.T.b G.T.builtins G.T.nolimit hg hobj hints (Nat.le_trans hlen hn2) hr hF hb (fun H hO hS => hsp w H a ns hlen hO hS) fun H e s' z => z
/-! ### a written dict has no other key -/
theorem miss_of {K : PySem.W.Frag} {d : Addr} {es : Array DictEntry} {n : Nat} (l : K.lookup d = some ⟨.type "dict", none, .dict es n, #[]⟩) {ks : List Str} (hk : ∀ e ∈ es.toList, ∃ x t, e.key = .str x t ∧ x ∈ ks) {z : Str} (hz : ¬ z ∈ ks) : PySem.W.nsIn K d z = some none := by
  unfold PySem.W.nsIn
  rw [l]
  dsimp only
  have h1 : es.toList.find? (·.key.isStr z) = none := by
    rw [List.find?_eq_none]
    intro e he
    obtain ⟨x, t, e1, e2⟩ := hk e he
    rw [e1, PySem.W.isStr_of]
    intro q
    obtain ⟨t', e3⟩ := Value.isStrOf_shape q
    cases e3
    exact hz e2
  have h2 : es.toList.any (·.refKey) = false := by
    rw [List.any_eq_false]
    intro e he
    obtain ⟨x, t, e1, e2⟩ := hk e he
    simp [DictEntry.refKey, e1]
  rw [h1, h2]
  rfl
end Own
/-! OwnC: a caught exception that is kept behind its except suite. -/
namespace Own
open PySem PySem.Spec PyProof.Rows L2
/-- a caught exception of the class cls, its dict at d, kept at a -/
def XO (cls : Value) (d : Option Addr) (a : Addr) : HO := .ext fun h => ∃ (oe : Obj) (vs : Array Value), h.get? a = some oe ∧ Zc cls d oe ∧ oe.data = .fields vs
theorem xo_ok {P : Program} {w : World} {H : Hp} {h : Heap} {a : Addr} {cls : Value} {d : Option Addr} {oe : Obj} {vs : Array Value} (e : h.get? a = some oe) (z : Zc cls d oe) (q : oe.data = .fields vs) : ObjOk P w H h a (XO cls d a) :=
  ⟨⟨oe, vs, e, z, q⟩, ⟨oe, e⟩, fun _ _ ⟨o, v, q, r⟩ k => ⟨o, v, k o q, r⟩⟩
theorem xo_at {P : Program} {w : World} {H : Hp} {h : Heap} {a : Addr} {cls : Value} {d : Option Addr} (x : HOk P w H h) (e : H a = some (XO cls d a)) : ∃ (oe : Obj) (vs : Array Value), h.get? a = some oe ∧ Zc cls d oe ∧ oe.data = .fields vs := by
  have z : ObjOk P w H h a (.ext fun h => ∃ (oe : Obj) (vs : Array Value), h.get? a = some oe ∧ Zc cls d oe ∧ oe.data = .fields vs) := x a _ e
  exact z.1
section
variable {X : Cx} {pins : List (Addr × Obj)} {σ : L2.St} {H : Hp} {s : Shared}
/-- an object of the heap that was not there at the entry and is not tracked yet is tracked now -/
theorem keepX (I : Inv X pins σ H s) {a : Addr} {oe : Obj} {vs : Array Value} {cls : Value} {d : Option Addr} (n0 : X.s_0.heap.get? a = none) (he : s.heap.get? a = some oe) (hz : Zc cls d oe) (hd : oe.data = .fields vs) (na : H a = none) (nL : a ≠ X.env.locals)
    (np : ∀ p ∈ X.pn ++ pins, p.1 ≠ a) : Inv X pins σ (upd H a (XO cls d a)) s := by
  refine ⟨I.ok, I.os, I.bare, ⟨I.base.keep, I.base.slot, fun b o e n hx => ?_, I.base.there, fun b xs e => ?_, fun b o u e => ?_, fun b ps e => ?_⟩, I.loc, I.cell, ?_, fun x c e => ?_, fun p hp => ?_, I.hok.laidN (fun _ _ z => z) na (xo_ok he hz hd), I.len⟩
  · have hb : b ≠ a := fun z => by rw [z, n0] at e; cases e
    rw [upd_ne hb]
    exact I.base.free b o e n hx
  · have z := I.base.tups b xs e
    rw [upd_ne (ne_of_none z na)]
    exact z
  · have z := I.base.frzs b o u e
    rw [upd_ne (ne_of_none z na)]
    exact z
  · obtain ⟨m, z⟩ := I.base.tbls b ps e
    exact ⟨m, by rw [upd_ne (ne_of_none z na)]; exact z⟩
  · rw [upd_ne nL.symm]
    exact I.free
  · obtain ⟨v, o, ho, hv⟩ := I.cell x c e
    have hc : c ≠ a := fun z => by
      rw [z, he] at ho
      cases ho
      rw [hd] at hv
      cases hv
    rw [upd_ne hc]
    exact I.freeC x c e
  · obtain ⟨e, n, ne, nf, q⟩ := I.pin p hp
    exact ⟨e, by rw [upd_ne (np p hp)]; exact n, ne, nf, q⟩
end
end Own
namespace Own
open PySem PySem.Spec PySem.Calls PyProof.Rows PySem.W
/-- an attribute that is asked for (getAttr?) of an exception of an own class and comes from a descriptor of the class: the descriptor's call decides -/
theorem exc_ask {prog : Program} {w : World} {A : Around} {E : Value → Shared → Prop} {s : Shared} {K : Frag} {x D : Addr} {ox : Obj} {od : Option Obj} {name : Str} {g u : Value} {Q : Option Value → Shared → Prop} (C : L2.ExcC K D)
    (hf : findObj K D od name = some (.bind g u)) (X : K.In s.heap) (I : InstAt s.heap x ox D od)
    (call_ : ∀ (B : Around) (E' : Value → Shared → Prop) (Q' : Value → Shared → Prop), (∀ v, v = Value.ref D → Q' v { s with toks := s.toks + 1 }) → wpAny (model prog w) B (call g [u, .ref x, .ref D]) Q' E' { s with toks := s.toks + 1 })
    (h : Q (some (.ref D)) { s with toks := s.toks + 1 }) : wpAny (model prog w) A (getAttr? (.ref x) name) Q E s := by
  have nob : (Value.builtin "BaseException.__getattribute__" == Value.builtin "object.__getattribute__") = false := by decide +kernel
  obtain ⟨hp, gs, d, t, os⟩ := s
  have cls := I.type (M := model prog w)
  have below : Looks (model prog w) hp (isInstance (.ref x) (.type "BaseException")) true := cls.andThen (looks_subIn X C.hs)
  unfold getAttr? getAttrBy? getAttrBy
  refine wpAny_bind (wpAny_mkText (wpAny_bind (wpAny_attempt (wpAny_holding (wpAny_bind (cls.at (wpAny_bind ((looks_findIn (M := model prog w) X C.hg).at ?_))))))))
  dsimp only
  rw [nob, Bool.and_false, if_neg Bool.false_ne_true]
  unfold getAttrByItsOwn hookBefore
  refine wpAny_bind ?_
  rw [if_pos (show onTheHeap (Value.ref D) = true from rfl)]
  refine (looks_findIn (M := model prog w) X C.hk).at (wpAny_bind (wpAny_attempt (wpAny_holding ?_)))
  unfold callGetattribute
  rw [Bool.false_and, if_neg Bool.false_ne_true]
  unfold boundAndCalled
  rw [PySem.F.excAttr_ValueError.ga.bind (.ref x)]
  refine wpAny_bind (wpAny_pure (wpAny_call (codeAny_call_builtin PySem.F.excAttr_ValueError.ga.plain PySem.F.entry_bexc_ga ?_)))
  refine @check_slot (model prog w) _ _ ⟨hp, gs, d, t + 1, os⟩ "BaseException.__getattribute__" "BaseException" "__getattribute__" (.ref x) [.str name t] [] _ (by decide +kernel) (by decide +kernel) below (PySem.F.args_bexc_ga (.ref x) (.str name t)) ?_
  unfold Builtin.«object.__getattribute__»
  refine wpAny_bind (wpAny_of_eq (a := ((Value.ref x : Value), [Value.str name t])) (by first | rfl | (simp only [slotArgs]; rfl)) ?_)
  refine wpAny_bind (wpAny_pure (wpAny_bind (cls.at (wpAny_bind ((looks_find (M := model prog w) X I hf).at (wpAny_bind (wpAny_holding (call_ _ _ _ fun v hv => ?_))))))))
  subst hv
  refine wpAny_pure ?_
  show wpAny _ _ (handedOut (.ref D)) _ _ _
  rw [handedOut_of (v := .ref D) rfl]
  first
    | exact wpAny_pure (wpAny_pure h)
    | exact wpAny_pure h
    | exact wpAny_pure (wpAny_bind (wpAny_pure (wpAny_pure h)))
theorem kitx_excD {K : Frag} {x D : Addr} {ox : Obj} {od : Obj} (C : L2.ExcC K D) : KitX K (.ref x) (.ref D) (fun h => InstAt h x ox D (some od)) := by
  have Z := handS_kitx_exc (x := x) (ox := ox) C.hg C.hk C.hs C.hd C.ha C.hn C.ht C.hm
  refine ⟨fun _ _ _ I => I.type, fun _ _ X I => ?_, fun h tp dd its n sl X htp => Z.ne h tp dd its n sl X htp, fun X I k => exc_ask C (findObj_data ?_ C.ha C.hn C.ht) X I (fun B E' Q' hq => wpAny_call (class_get X I C.hm (hq _ rfl))) k⟩
  · obtain ⟨cdD, hcD, _⟩ := any_some C.hd
    unfold clsIn at hcD
    split at hcD
    · rename_i c' d' cd' sl' ho
      intro A' Q' E' s' k q
      unfold isType loadHead
      exact wpAny_bind (wpAny_loadPart (k _ _ (X _ _ ho)) (wpAny_pure q))
    · cases hcD
  · obtain ⟨cd, hc, _⟩ := any_some C.hd
    rw [hc]
    rfl
end Own
namespace Own
open PySem PySem.Spec PyProof.Rows L2
/-- isinstance(x, c), x a kept exception with a dict -/
def rIsX (K : PySem.W.Frag) : List V → Hp → VK → Prop := fun xs H Q => ∃ (a D dd : Addr) (fs : List (Str × V)) (c : V) (cv : Value) (b : Bool), xs = [.ref a, c] ∧ H a = some (XO (.ref D) (some dd) a) ∧ H dd = some (.xd fs) ∧ ExcC K D ∧ (∀ u, RelV c u → u = cv) ∧ PySem.W.kitOne K (.ref D) cv = some b ∧ Q (.bl b) H
theorem xo_inst {X : Cx} {pins : List (Addr × Obj)} {σ : L2.St} {H : Hp} {s : Shared} {a D dd : Addr} {fs : List (Str × V)} (I : Inv X pins σ H s) (ha : H a = some (XO (.ref D) (some dd) a)) (hd : H dd = some (.xd fs)) :
    ∃ (oe od : Obj), PySem.W.InstAt s.heap a oe D (some od) ∧ ∃ mA : Str → Option Value, (∀ f, PySem.W.lookIn f od = some (mA f)) ∧ ∀ f, RelO (fs.lookup f) (mA f) := by
  obtain ⟨oe, vs, he, hz, hv⟩ := xo_at I.hok ha
  have hx : ObjOk X.prog X.w H s.heap dd (.xd fs) := I.hok dd _ hd
  obtain ⟨mA, hns, hr⟩ := hx
  obtain ⟨od, ho, hl⟩ := lookIn_ns hns
  exact ⟨oe, od, ⟨he, hz.1, by unfold PySem.W.notCls; rw [hv] <;> rfl, by rw [hz.2]; exact ho⟩, mA, hl, hr⟩
theorem call_isX {X : Cx} : CallR X (.builtin "isinstance") (rIsX X.K) := by
  intro pins s σ H xs us Q I r h
  obtain ⟨a, D, dd, fs, c, cv, b, rfl, ha, hd, C, hcv, e, q⟩ := h
  obtain ⟨u1, u2, rfl, r1, r2⟩ := vals2 r
  obtain rfl : u1 = Value.ref a := r1
  obtain rfl := hcv _ r2
  obtain ⟨oe, od, J, _⟩ := xo_inst I ha hd
  exact PySem.W.kia_one (kitx_excD C) I.kIn J e (fun z => nomatch z) fun tk => ⟨.bl b, H, I.kept (t' := tk) fun _ _ z => z, rfl, q⟩
/-- x.f, x a kept exception -/
def tXk (K : PySem.W.Frag) (f : Str) (te : TE) : TE := fun σ H Q => te σ H fun x H1 => ∃ (a D dd : Addr) (fs : List (Str × V)) (v : V), x = .ref a ∧ H1 a = some (XO (.ref D) (some dd) a) ∧ H1 dd = some (.xd fs) ∧ XfC K D ∧ PySem.W.findIn K (.ref D) f = some none ∧ fs.lookup f = some v ∧ Q v H1
theorem pe_xk {X : Cx} {e : Expr} {te : TE} {pos : Pos} {n : Str} (he : PE X e te) (hb : attributeBase e n X.env (eval e X.env) = eval e X.env := by rfl) : PE X (.Attribute e n pos) (tXk X.K n te) := by
  refine ⟨fun pins s σ H Q I h => ?_⟩
  refine attr_of hb (thn (he.run pins s σ H _ I h) fun u s1 hh => ?_)
  obtain ⟨x, H1, I1, rx, a, D, dd, fs, v, ex, ha, hd, T, hno, l, q⟩ := hh
  subst ex
  obtain rfl : u = Value.ref a := rx
  obtain ⟨oe, od, J, mA, hl, hr⟩ := xo_inst I1 ha hd
  obtain ⟨u, hu, ru⟩ := RelO.some_of (v := v) (o := mA n) (by rw [← l]; exact hr n)
  exact PySem.HandSPX.exc_get I1.kIn J T.ga T.gg T.exC (PySem.W.findObj_own T.hdC hno rfl (by rw [hl, hu])) (handed_of ru) ⟨v, H1, I1.tok _, ru, q⟩
end Own
namespace Own
open PySem PySem.Spec PyProof.Rows L2
/-- the ends of an except suite whose exception is kept at a: the clause's name (slot i) goes, the exception stands -/
def keptE (i : Nat) (a : Addr) (cls : Value) (d : Option Addr) (D : Ends) : Ends where
  nx := fun σ' H' => H' a = none → D.nx (σ'.set i none) (upd H' a (XO cls d a))
  rt := fun v H' => H' a = none → D.rt v (upd H' a (XO cls d a))
  bk := fun σ' H' => H' a = none → D.bk (σ'.set i none) (upd H' a (XO cls d a))
  ct := fun σ' H' => H' a = none → D.ct (σ'.set i none) (upd H' a (XO cls d a))
/-- what a clause 'except x as n' (slot i is n's) that keeps its exception wishes of an exception of the body -/
def wAsK (K : PySem.W.Frag) (c : Value) (i : Nat) (ts : Addr → Value → Option Addr → TS) (Wout : WX) (D : Ends) : WX := fun cls d σ H =>
  ∃ b, PySem.W.exmOne K cls c = some b ∧ (b = true → ∀ a, H a = none → ts a cls d (keptE i a cls d D) (σ.set i (some (.ref a))) H) ∧ (b = false → Wout cls d σ H)
section
variable {X : Cx} {x n : Str} {c : Value} {i : Nat} {body suite : List Stmt} {b₀ : Stmt} {np pos pos' : Pos} {tb : WX → TS} {ts : Addr → Value → Option Addr → TS} {Wout : WX}
/-- an end of the body of a try is one of the try -/
theorem sp_try {pins : List (Addr × Obj)} {xe : Value → Shared → Prop} {D : Ends} {s : Shared} (ok : X.Ok) : ∀ f : Flow, SP (X.tr (X.pn ++ pins) xe) [] D f s → SP X pins D f s
  | .next, ⟨_, _, J, q⟩ => ⟨_, _, J.ofTry ok, q⟩
  | .brk, ⟨_, _, J, q⟩ => ⟨_, _, J.ofTry ok, q⟩
  | .cont, ⟨_, _, J, q⟩ => ⟨_, _, J.ofTry ok, q⟩
  | .ret _, ⟨_, _, _, J, r, q⟩ => ⟨_, _, _, J.ofTry ok, r, q⟩
/-- an end of the suite, the name let go, is one of the try; the exception is tracked from here on -/
theorem sp_kept {pins : List (Addr × Obj)} {D : Ends} {a : Addr} {oe : Obj} {vs : Array Value} {cls : Value} {d : Option Addr} {s : Shared} {E : Value → Shared → Prop} (ok : X.Ok) (hN : X.N.Nodup) (hi : X.N[i]? = some n) (hl : X.env.kindOf n = some .local)
    (z : Zc cls d oe) (hd : oe.data = .fields vs) (n0 : X.s_0.heap.get? a = none) (nL : a ≠ X.env.locals) (np : ∀ p ∈ X.pn ++ pins, p.1 ≠ a) (f : Flow) (h : SP (X.suite a ((a, oe) :: (X.pn ++ pins))) [] (keptE i a cls d D) f s) :
    wpAny (model X.prog X.w) X.A (do bindName X.env n .none; unbindBehindTheSuite X.env n pos') (fun _ s7 => SP X pins D f s7) E s := by
  have go : ∀ {σ : L2.St} {H : Hp}, Inv (X.suite a ((a, oe) :: (X.pn ++ pins))) [] σ H s → (∀ s7, H a = none → Inv X pins (σ.set i none) (upd H a (XO cls d a)) s7 → SP X pins D f s7) →
      wpAny (model X.prog X.w) X.A (do bindName X.env n .none; unbindBehindTheSuite X.env n pos') (fun _ s7 => SP X pins D f s7) E s := fun {σ H} S q => by
    refine gone_ok (X := X.suite a ((a, oe) :: (X.pn ++ pins))) S hN hi hl fun s7 S7 => ?_
    have p7 := S7.pin (a, oe) (List.mem_append_left _ List.mem_cons_self)
    exact q s7 p7.2.1 (keepX (S7.unsuite ok) n0 p7.1 z hd p7.2.1 nL np)
  revert go
  revert h
  cases f with
  | next => exact fun ⟨σ, H, S, q⟩ go => go S fun s7 e J => ⟨_, _, J, q e⟩
  | brk => exact fun ⟨σ, H, S, q⟩ go => go S fun s7 e J => ⟨_, _, J, q e⟩
  | cont => exact fun ⟨σ, H, S, q⟩ go => go S fun s7 e J => ⟨_, _, J, q e⟩
  | ret u => exact fun ⟨v, σ, H, S, r, q⟩ go => go S fun s7 e J => ⟨_, _, _, J, r, q e⟩
/-- a caught exception is a new object -/
theorem caught_new {pins : List (Addr × Obj)} {σ : L2.St} {H : Hp} {sI : Shared} {B : Heap} {a : Addr} (J : Inv X pins σ H sI) (hex : X.ex = []) (nb : ∀ b o, sI.heap.get? b = some o → b ∉ frs X.stack → B.get? b = some o) (Ba : B.get? a = none) (nfr : a ∉ frs X.stack) :
    X.s_0.heap.get? a = none ∧ ∀ p ∈ X.pn ++ pins, p.1 ≠ a := by
  have nI : ∀ o, sI.heap.get? a ≠ some o := fun o e => by
    have z := nb a o e nfr
    rw [Ba] at z
    cases z
  refine ⟨?_, fun p hp z => nI p.2 (by rw [← z]; exact (J.pin p hp).1)⟩
  cases e : X.s_0.heap.get? a with
  | none => rfl
  | some o =>
    obtain ⟨o', z⟩ := J.base.there a o e (by rw [hex]; exact fun z => nomatch z)
    exact absurd z (nI o')
/-- try: body / except x as n: suite, where the suite lets its exception out into a name or a list: it is kept -/
theorem ps_try_keep (hs : X.stack = X.env :: X.outer) (hf : X.env.frame = some X.env.locals) (hex : X.ex = []) (hN : X.N.Nodup) (hi : X.N[i]? = some n) (hln : X.env.kindOf n = some .local) (hc : Names X x c) (tk : Takes X Wout)
    (hb : ∀ (W : WX) (pn : List (Addr × Obj)) (xe : Value → Shared → Prop), Takes (X.tr pn xe) W → PassesOwn (model X.prog X.w) X.A X.env xe → PSs (X.tr pn xe) body (tb W))
    (hsu : ∀ (a : Addr) (oe : Obj) (cls : Value) (d : Option Addr) (pn : List (Addr × Obj)), Zc cls d oe → (∃ vs, oe.data = .fields vs) → PSs (X.suite a ((a, oe) :: pn)) (b₀ :: suite) (ts a cls d)) :
    PS X (.Try body [.ExceptHandler (some (.Name x np)) (some n) (b₀ :: suite) pos'] [] [] pos) (fun D σ H => tb (wAsK X.K c i ts Wout D) D σ H) := by
  refine ⟨fun pins s σ H D I h => wpAny_Try_except ?_⟩
  have ok := I.ok
  refine wpAny_mono ((hb (wAsK X.K c i ts Wout D) (X.pn ++ pins) (fun e s₁ => wpAny (model X.prog X.w) X.A (noteFrame e X.env) (fun _ s₂ => wpAny (model X.prog X.w) X.A (setFlight e none) (fun _ s₃ =>
    wpAny (model X.prog X.w) X.A (handleBy e X.env [.ExceptHandler (some (.Name x np)) (some n) (b₀ :: suite) pos']) (SP X pins D) X.xe s₃) X.xe s₂) X.xe s₁) (fun u s' air => ?_) PassesOwn.looking).run [] s σ H D (I.toTry _) h) (fun f s1 e => ?_) (fun e s1 he => he)
  case refine_2 =>
    have e := sp_try ok f e
    cases f with
    | next => exact wpAny_execs_nil e
    | brk => exact e
    | cont => exact e
    | ret u => exact e
  obtain ⟨a, B, sI, ps, τ, G, cls, d, rfl, JT, nb, up, sky, na, os, ag, b, hmatch, yes, no⟩ := air
  have J : Inv X pins τ G sI := JT.ofTry ok
  show wpAny (model X.prog X.w) X.A (noteFrame (.ref a) X.env) _ _ _
  refine Sky.land (outer := X.outer) Zc.steady (by rw [ok.frames, hs]) hf (by rw [← hs]; exact sky) fun h3 fl3 up3 => ?_
  have nfr : a ∉ frs (X.env :: X.outer) := fun hm => by
    obtain ⟨o3, v3, e3, _, d3⟩ := fl3.there
    obtain ⟨_, o', e', hnf⟩ := fl3.2.2.1.mem hm
    cases e3.symm.trans e'
    exact hnf _ d3
  obtain ⟨n0, apart⟩ := caught_new J hex nb fl3.2.1 (by rw [hs]; exact nfr)
  have nL : a ≠ X.env.locals := fun z => nfr (List.mem_filterMap.mpr ⟨X.env, List.mem_cons_self, by rw [hf, z]⟩)
  have nF : a ∉ X.fs := fun hm => by
    obtain ⟨e, he, q⟩ := List.mem_filterMap.mp hm
    exact nfr (List.mem_filterMap.mpr ⟨e, List.mem_cons_of_mem _ he, q⟩)
  have J3 : Inv X pins τ G { s' with heap := h3 } := J.landed nb fl3.1 (up.trans up3) os ag
  obtain ⟨o3, v3, e3, z3, d3⟩ := fl3.there
  have S3 := J3.suite e3 d3 na nL nF
  have hcls : ∀ {Q : Value → Shared → Prop} {E : Value → Shared → Prop}, Q c { s' with heap := h3 } → wpAny (model X.prog X.w) (X.A.mark (some (.ref a))) (eval (.Name x np) X.env) Q E { s' with heap := h3 } := fun {Q E} q => by
    obtain ⟨hg, hdb, hm | ⟨hm, hv, hnn⟩⟩ := hc
    · exact ld_glob (X := X.suite a ((a, o3) :: (X.pn ++ pins))) S3 hg hm q hdb
    · exact ld_blt (X := X.suite a ((a, o3) :: (X.pn ++ pins))) S3 hg hm hv q hnn hdb
  refine wpAny_handleBy_cons (codeAny_handlers_test (hcls ((PySem.W.exm_one (M := model X.prog X.w) J3.kIn (fun A Q E s k q => wpAny_typeOf_ref (k _ _ e3) (by rw [z3.1]; exact q)) hmatch).here ?_))) (by intro q; cases q)
  cases b with
  | true =>
    refine codeAny_handlers_suite_as (HandSPX.lands_againZ fl3 fun h4 fl4 up4 => ?_)
    obtain ⟨o4, v4, e4, z4, d4⟩ := fl4.there
    have S4 := Inv.suite (J.landed (s' := { s' with heap := h4 }) nb fl4.1 ((up.trans up3).trans up4) os ag) e4 d4 na nL nF
    refine store_ok (X := X.suite a ((a, o4) :: (X.pn ++ pins))) (v := .ref a) S4 hN hi (.inl hln) rfl (fun s5 S5 => ?_) (.inr hln)
    exact wpAny_mono ((hsu a o4 cls d (X.pn ++ pins) z4 ⟨_, d4⟩).run [] s5 _ G _ S5 (yes rfl a na)) (fun f s6 q => sp_kept ok hN hi hln z4 d4 n0 nL apart f q) fun _ _ z => False.elim z
  | false =>
    show wpAny _ X.A (handleBy (.ref a) X.env []) _ _ _
    refine wpAny_handleBy_nil ?_
    obtain ⟨_, _, _, oe, vs, T, oT, _, he, hz, hd, h1, _⟩ := id fl3
    unfold PySem.passOn
    refine wpAny_bind (wpAny_field he hd h1 ?_)
    rw [if_neg (show ¬ ((Value.ref T == Value.none) = true) from by simp)]
    have out : wpAny (model X.prog X.w) X.A (setFlight (.ref a) X.env.frame) (fun _ s4 => wpAny (model X.prog X.w) X.A (throw (.ref a) : Sem Flow) (SP X pins D) X.xe s4) X.xe { s' with heap := h3 } := by
      rw [hf]
      exact HandSPX.setFlight_upZ fl3 fun h4 held up4 => wpAny_throw (tk _ _ ⟨a, B, sI, pins, τ, G, cls, d, rfl, J, nb, (up.trans up3).trans up4, .inr (.inr (by rw [hs]; exact held)), na, os, ag, no rfl⟩)
    first
      | exact wpAny_bind (wpAny_pure (wpAny_bind out))
      | exact wpAny_bind out
end
end Own
namespace Own
open PySem PySem.Spec PyProof.Rows L2 ClX
/-- a classmethod called off its class, which may raise (what it lets out may speak of the slots) -/
def tCMethS (C : Addr) (sp : Sp) (E : L2.St → XK) (ta : TE) (t : TA) : TE := fun σ H Q => ta σ H fun x H1 => x = .ref C ∧ t σ H1 fun vs H2 => sp (.ref C :: vs) H2 Q (E σ)
theorem pe_cmethS {X : Cx} {CX : CXT} {k : Nat} {C p g : Addr} {mc : Value} {sp : Sp} {E : L2.St → XK} {o e : Expr} {es : List Expr} {m : Str} {pos apos : Pos} {ta : TE} {t : TA} {pl : Sem Bool} (he : PE X o ta) (r : CRead X.K C mc) (c : CMet X.K C mc m p g)
    (F : FnR X.prog X.w X.K X.mg X.base CX k g sp) (hr : Room k X.A) (hx : ∀ σ, PassesAt CX X σ (E σ)) (ha : PA X (e :: es) t)
    (hst : starEach (e :: es) X.env = (false, eval e X.env) :: starEach es X.env := by rfl) (hpl : (backTo pos (starEach es X.env)).any (·.1) = false := by rfl)
    (ht : eval (.Call (.Attribute o m apos) (e :: es) [] pos) X.env = (do
      let ov ← eval o X.env
      standAt apos.atName
      let (f, first) ← holding [ov] (getMethod ov m pl)
      callWith pos f first (backTo pos (starEach (e :: es) X.env)) (backToKw pos (keywordEach [] X.env))) := by rfl) :
    PE X (.Call (.Attribute o m apos) (e :: es) [] pos) (tCMethS C sp E ta t) := by
  refine ⟨fun pins s σ H Q I h => ?_⟩
  refine PySem.W.methodCall_KW (pl := pl) (thn (he.run pins s σ H _ I h) fun u s1 ⟨x, H1, I1, rx, ex, q⟩ => ?_) ht
  subst ex
  obtain rfl : u = Value.ref C := rx
  refine getmethcm_ok I1 r c fun s2 I2 => ?_
  refine callwith_cm I2 (base_none I1 (Nat.le_refl _)) c.fi (thn (ha.run pos _ s2 σ H1 _ I2 q) fun us s3 ⟨vs, H2, I3, rv, q2⟩ => ⟨⟨pin_at I3, I3.kIn⟩, ?_⟩) hst hpl
  have z : wpAny (model X.prog X.w) X.A (call (.ref s1.heap.objs.size) us) (EP X ((s1.heap.objs.size, PySem.W.methodObj (.ref g) (.ref C)) :: pins) σ Q) X.xe s3 := by
    refine wpAny_call (PySem.W.method_call (pin_at I3) (codeAny_mono (F X.A X.stack s3 H2 (.ref C :: us) (.ref C :: vs) Q (E σ) hr I3.env0 (.cons rfl rv) q2) fun r s' hq => ?_))
    cases r with
    | error e => exact hx σ _ H2 s3 e s' I3 hq
    | ok fl =>
      cases fl with
      | ret u => exact I3.after hq
      | next => exact False.elim hq
      | brk => exact False.elim hq
      | cont => exact False.elim hq
  exact thn z fun _ _ y => unpinE y
end Own
/-! OwnD: sets of texts, made of a tuple or a list of any length. -/
namespace Own
open PySem PySem.Spec PySem.Calls PyProof.Rows
/-- a set that holds exactly the texts of xs; c tells by its size whether they differ -/
def SetT (prog : Program) (w : World) (h : Heap) (S : Addr) (xs : List Str) : Prop := ∃ c, h.SetOf (strKind prog w) S (fun k => decide (k ∈ xs)) c ∧ c ≤ xs.length ∧ (c = xs.length ↔ xs.Nodup)
theorem SetT.move {prog : Program} {w : World} {h h' : Heap} {S : Addr} {xs : List Str} (T : SetT prog w h S xs) (k : ∀ o, h.get? S = some o → h'.get? S = some o) : SetT prog w h' S xs := by
  obtain ⟨c, ⟨o, es, ep, t, ho, rest⟩, r⟩ := T
  exact ⟨c, ⟨o, es, ep, t, k o ho, rest⟩, r⟩
theorem SetT.more {prog : Program} {w : World} {h' : Heap} {S : Addr} {xs : List Str} {x : Str} {c : Nat} (hc : c ≤ xs.length) (hn : c = xs.length ↔ xs.Nodup)
    (T : h'.SetOf (strKind prog w) S (fun k => decide (k ∈ xs) || decide (k = x)) (if decide (x ∈ xs) then c else c + 1)) : SetT prog w h' S (xs ++ [x]) := by
  refine ⟨if decide (x ∈ xs) then c else c + 1, SetOf_congr T (fun k => by simp [List.mem_append]) rfl, ?_, ?_⟩
  · rw [List.length_append]
    split
    · exact Nat.le_trans hc (Nat.le_add_right _ _)
    · exact Nat.succ_le_succ hc
  · rw [List.length_append, List.length_singleton, List.nodup_append]
    by_cases hx : x ∈ xs
    · rw [decide_eq_true hx, if_pos rfl]
      refine ⟨fun e => by omega, fun e => ?_⟩
      exact absurd rfl (e.2.2 x hx x List.mem_cons_self)
    · rw [decide_eq_false hx, if_neg Bool.false_ne_true]
      refine ⟨fun e => ⟨hn.mp (by omega), by simp, fun a ha b hb => ?_⟩, fun e => by rw [hn.mpr e.1]⟩
      rw [List.mem_singleton] at hb
      subst hb
      exact fun z => hx (z ▸ ha)
section
variable {prog : Program} {w : World} {A : Around} {R : Result → Shared → Prop} {I : Addr} {fp wr : List Addr} {G : Array GenState → Array GenState → Prop} {n : Nat} {P : Nat → Value → Prop} {St : Nat → Shared → Prop}
/-- the loop that fills it -/
theorem fill_texts (W : WalksS prog w A.in1 I fp wr G n P St) (S : Addr) (hS : S ∉ fp) (xs : List Str) (hl : xs.length = n) (hb : n + 1 < scanBound) (hv : ∀ i v, P i v → ∃ x t, xs[i]? = some x ∧ v = .str x t) :
    ∀ (left i : Nat) (s : Shared), i + left = n → St i s → SetT prog w s.heap S (xs.take i) → (∀ s', Moved (S :: wr) G s s' → SetT prog w s'.heap S xs → R (.ok (.ret .none)) s') →
      codeAny (model prog w) A (.builtin "set.update.loop" ⟨[.ref S, .ref I], []⟩) R s := by
  have nw : S ∉ wr := fun h => hS (W.sub _ h)
  have up : ∀ b ∈ wr, b ∈ S :: wr := fun b hb => List.mem_cons_of_mem _ hb
  intro left
  induction left with
  | zero =>
    intro i s e hst T k
    have e : i = n := e
    subst e
    refine codeAny_builtin F.entry_set_update_loop ?_
    rw [Around.under_plainId F.plain_set_update_loop _]
    show wpAny _ A.in1 (pyNext (.ref I) >>= _) _ _ s
    refine wpAny_bind (W.done s _ _ hst fun s' m => wpAny_pure (k s' (m.mono up) ?_))
    rw [List.take_of_length_le (Nat.le_of_eq hl)] at T
    exact T.move fun o e => m.heap S o nw e
  | succ left ih =>
    intro i s e hst T k
    refine codeAny_builtin F.entry_set_update_loop ?_
    rw [Around.under_plainId F.plain_set_update_loop _]
    show wpAny _ A.in1 (pyNext (.ref I) >>= _) _ _ s
    refine wpAny_bind (W.item i s _ _ (by omega) hst fun v s' pv hst' m => ?_)
    obtain ⟨x, t, hx, rfl⟩ := hv i v pv
    obtain ⟨c, T1, hc, hn⟩ := T.move (h' := s'.heap) fun o e => m.heap S o nw e
    have lt : (xs.take i).length = i := by rw [List.length_take]; omega
    show wpAny _ A.in1 (holding [Value.str x t] (setAdd S (.str x t)) >>= _) _ _ s'
    refine wpAny_bind (wpAny_holding ?_)
    unfold setAdd
    refine wpAny_holding (wpAny_bind ((strKind prog w).pyHash (k := x) (strKind_is _ _ _ _) ?_))
    refine wpAny_setAddHashed_of (knd := strKind prog w) (s := { s' with toks := s'.toks + 1 }) (strKind_is _ _ _ _) rfl T1 (by rw [lt] at hc; omega) fun h' sb T2 => ?_
    have T3 : SetT prog w h' S (xs.take (i + 1)) := by
      rw [List.take_add_one, hx]
      exact SetT.more hc hn T2
    refine wpAny_pure ⟨plainId_quiet F.plain_set_update_loop _, ih (i + 1) _ (by omega) (W.frame _ s' _ _ hst' (Nat.le_succ _) fun b hb o e => ?_) T3 fun s2 m2 T4 => k s2 (Moved.trans W.gtrans ((m.mono up).then_heap (Nat.le_succ _) fun b o nb e => ?_) m2) T4⟩
    · rw [sb.2 b fun z => hS (z ▸ hb)]
      exact e
    · rw [sb.2 b fun z => nb (z ▸ List.mem_cons_self)]
      exact e
end
end Own
namespace Own
open PySem PySem.Spec PySem.Calls PyProof.Rows L2 SS
section
variable {prog : Program} {w : World} {A : Around} {E : Value → Shared → Prop} {s : Shared}
abbrev freshSet (led : Bool) : Obj := { cls := .type "set", dict := none, data := .set #[] 0 (.fresh 0 0 led) }
/-- set(x): what __init__ does at the fresh set decides -/
theorem call_set_by {x : Value} {Q : Value → Shared → Prop}
    (fill : ∀ led : Bool, wpAny (model prog w) A.in1.in1 (Builtin.«set.__init__» ⟨[.ref s.heap.objs.size, x], []⟩)
        (fun fin s' => match fin with | .done f => wants (fun r s₂ => r = .none ∧ Q (.ref s.heap.objs.size) s₂) E (.ok f) s' | .again c' => c'.quiet = true ∧ codeAny (model prog w) A.in1 c' (wants (fun r s₂ => r = .none ∧ Q (.ref s.heap.objs.size) s₂) E) s')
        (fun e s' => wants (fun r s₂ => r = .none ∧ Q (.ref s.heap.objs.size) s₂) E (.error e) s') { s with heap := s.heap.push (freshSet led) }) :
    wpAny (model prog w) A (call (.type "set") [x]) Q E s := by
  obtain ⟨c, tl, hmro⟩ := PySem.F.called_set.mro
  have hmade := PySem.F.called_set.made
  have hsub := PySem.F.called_set.sub
  have h1 := PySem.F.called_set.notType
  have h2 := PySem.F.called_set.canCreate
  have hct := PySem.F.typeCall_set_1 x
  refine wpAny_call (codeAny_of_tree ?_)
  show wpAny _ _ (callAny (.type "set") _) _ _ _
  refine wpAny_pure ⟨Code.quiet_builtin _ (by decide +kernel), codeAny_builtin PySem.F.entry_type_call ?_⟩
  rw [Around.under_plain (weight_type_call_type "set" [x] []) rfl]
  repeat (any_goals (first | assumption | wp_step))

  refine codeAny_mono (code_set_new_1 x (E := E) (Q₁ := fun obj s₁ => ∃ led : Bool, obj = .ref s.heap.objs.size ∧ s₁ = { s with heap := s.heap.push (freshSet led) }) fun led => ⟨led, rfl, rfl⟩) fun r s₁ hr => ?_
  cases r with
  | error e => exact hr
  | ok fl =>
    cases fl with
    | ret obj =>
      obtain ⟨led, rfl, rfl⟩ := hr
      have hT : Shared.TypeIs { s with heap := s.heap.push (freshSet led) } (.ref s.heap.objs.size) "set" := ⟨_, Heap.get?_push_size _ rfl, rfl⟩
      have hli := PySem.F.called_set.init.lookup
      have hbi := PySem.F.called_set.init.bind (.ref s.heap.objs.size)
      repeat (any_goals (first | assumption | wp_step))

      refine codeAny_mono (codeAny_call_builtin PySem.F.called_set.init.plain PySem.F.entry_set_init (check_set_init_1 hT (fill led))) fun r₂ s₂ hr₂ => ?_
      cases r₂ with
      | error e => exact hr₂
      | ok fl₂ =>
        cases fl₂ with
        | ret r =>
          obtain ⟨rfl, hq⟩ := hr₂
          repeat (any_goals (first | assumption | wp_step))
        | _ => exact hr₂.elim
    | _ => exact hr.elim
/-- set(l), l a tuple of texts -/
theorem call_set_texts {l : Addr} {items : Array Value} {xs : List Str} {Q : Value → Shared → Prop} (hh : A.handled = none) (hl : s.heap.IsTuple l items) (hi : StrsAre items.toList xs) (hb : xs.length + 1 < scanBound)
    (h : ∀ (h' : Heap) (tk : Nat), SetT prog w h' s.heap.objs.size xs → (∀ b o, b < s.heap.objs.size → s.heap.get? b = some o → h'.get? b = some o) → Q (.ref s.heap.objs.size) { s with heap := h', toks := tk }) :
    wpAny (model prog w) A (call (.type "set") [.ref l]) Q E s := by
  refine call_set_by fun led => ?_
  obtain ⟨hp, g, d, tk, os⟩ := s
  dsimp only at hl h ⊢
  have hS : (hp.push { cls := .type "set", dict := none, data := .set #[] 0 (.fresh 0 0 led) }).get? hp.objs.size = some { cls := .type "set", dict := none, data := .set #[] 0 (.fresh 0 0 led) } := Heap.get?_push_size _ rfl
  have hT : Shared.TypeIs ⟨hp.push { cls := .type "set", dict := none, data := .set #[] 0 (.fresh 0 0 led) }, g, d, tk, os⟩ (.ref hp.objs.size) "set" := ⟨_, hS, rfl⟩
  have hl1 : (hp.push { cls := .type "set", dict := none, data := .set #[] 0 (.fresh 0 0 led) }).IsTuple l items := hl.push _
  obtain ⟨⟨ocls, odict, odata, oslots⟩, hol, hcl, nl, hdl⟩ := id hl1
  simp only at hcl hdl
  subst hcl
  subst hdl
  have hsls := PySem.F.sub_tuple_set
  have hslf := PySem.F.sub_tuple_frozenset
  have hne : (Value.type "tuple" == Value.type "dict") = false := by decide
  unfold Builtin.«set.__init__» noKeywords Builtin.Frozenset.updateFrom
  generalize hPI : pyIter = PI
  wp_walk
  subst hPI
  refine wpAny_pyIter_tuple hl1 (wpAny_bind (wpAny_runValue ?_))
  have lS : l < hp.objs.size := let ⟨_, e, _⟩ := hl; Heap.lt_size e
  have zI : (hp.push (freshSet led)).objs.size = hp.objs.size + 1 := Heap.size_push ..
  have len : xs.length = items.size := by rw [← StrsAre.len_eq hi, Array.length_toList]
  refine fill_texts ((Walks.tuple (A := A.in1.in1.in1) (by simp [hh]) _ l (by rw [zI]; exact Nat.ne_of_lt (Nat.lt_succ_of_lt lS)) items).toS) hp.objs.size (by
      rw [zI]
      simp only [List.mem_cons, List.not_mem_nil, or_false, not_or]
      exact ⟨Nat.ne_of_lt (Nat.lt_succ_self _), Nat.ne_of_gt lS⟩) xs len (by rw [← len]; exact hb) (fun i v e => ?_) items.size 0 _ (by omega) ⟨⟨_, Heap.get?_push_size _ rfl, rfl, rfl⟩, hl1.push _⟩ ?_ fun s' m T => ?_
  · obtain ⟨t, e2⟩ := strs_at hi i v (by rw [Array.getElem?_toList]; exact e)
    have hi' : i < xs.length := by rw [len]; exact (Array.getElem?_eq_some_iff.mp e).1
    refine ⟨xs[i], t, List.getElem?_eq_getElem hi', ?_⟩
    rw [e2, List.getD_eq_getElem?_getD, List.getElem?_eq_getElem hi'] <;> rfl
  · refine ⟨0, SetOf_congr ((setObjOf_fresh (knd := strKind prog w) led).setOf (Heap.get?_push_of_some _ hS) (by unfold scanBound; omega)) (fun k => by simp) rfl, Nat.zero_le _, by simp⟩
  · obtain ⟨h', g', d', tk', os'⟩ := s'
    obtain rfl : g' = g := m.gens
    obtain rfl : d' = d := m.drawn
    obtain rfl : os' = os := m.os
    refine wpAny_pure ?_
    show wpAny _ _ (ret Value.none) _ _ _
    refine wpAny_pure ⟨rfl, h h' tk' T fun b o hb e => ?_⟩
    refine m.heap b o ?_ (Heap.get?_push_of_some _ (Heap.get?_push_of_some _ e))
    rw [zI]
    simp only [List.mem_cons, List.not_mem_nil, or_false, not_or]
    exact ⟨Nat.ne_of_lt hb, Nat.ne_of_lt (Nat.lt_succ_of_lt hb)⟩
end
end Own
namespace Own
open PySem PySem.Spec PyProof.Rows L2
/-- len(set(a)), a a tuple of texts: the number is told by whether they differ -/
def tLenSetT (K : PySem.W.Frag) (ta : TE) : TE := fun σ H Q => ta σ H fun x H1 => ∃ (l : Addr) (xs : List Str), x = .ref l ∧ SqT K H1 l (xs.map V.str) ∧ xs.length ≤ 1000 ∧
  ∀ c : Nat, c ≤ xs.length → (c = xs.length ↔ xs.Nodup) → Q (.int (c : Nat)) H1
theorem pe_lenSetT {X : Cx} {a : Expr} {ta : TE} {p p2 q pos : Pos} (hc : X.calm = true) (hg : Gl X "len") (hm : X.mg "len" = none) (hg2 : Gl X "set") (hm2 : X.mg "set" = none) (ha : PE X a ta)
    (na : starEach [a] X.env = (false, eval a X.env) :: starEach [] X.env := by rfl) : PE X (.Call (.Name "len" p) [.Call (.Name "set" p2) [a] [] q] [] pos) (tLenSetT X.K ta) := by
  refine ⟨fun pins s σ H Q I h => Call_ (ld_blt I hg hm boot_len ?_)⟩
  refine PyProof.Rows.callWith_builtin1 (PyProof.Rows.args_cons ?_ rfl) rfl rfl
  refine Call_ (ld_blt I hg2 hm2 boot_set ?_)
  refine PyProof.Rows.callWith_type1 (PyProof.Rows.args_cons (thn (ha.run pins s σ H _ I h) fun v s1 ⟨x, H1, I1, r1, l, xs, ex, ht, hl, k⟩ => PyProof.Rows.args_nil ?_) na) na rfl
  subst ex
  obtain rfl : v = Value.ref l := r1
  obtain ⟨its, r, pl, _⟩ := I1.tuple ht
  refine call_set_texts (I1.ok.hd hc) pl (by simpa using strsAre_of r) (by unfold scanBound; omega) fun h' tk T keep => PyProof.Rows.args_nil ?_
  obtain ⟨c, ⟨o, es, ep, t, ho, hex, hd, _, _, _, hf, hn⟩, hc1, hc2⟩ := T
  have I2 : Inv X pins σ H1 { s1 with heap := h', toks := tk } := I1.kept fun b o e => keep b o (Heap.lt_size e) e
  exact call_len_set ho hex hd hf (by rw [hn]; omega) ⟨.int (c : Nat), H1, I2.tok _, ⟨_, by rw [hn]⟩, k c hc1 hc2⟩
end Own
/-! OwnE: sorted(t), t a tuple of texts. -/
namespace Own
open PySem PySem.Spec PySem.Calls PyProof.Rows L2
section
variable {prog : Program} {w : World} {A : Around} {E : Value → Shared → Prop} {s : Shared}
/-- the items of a tuple, collected -/
theorem collect_tuple {l : Addr} {vs : List Value} {Q : List Value → Shared → Prop} (hl : s.heap.IsTuple l vs.toArray) (hz : vs.length ≤ sizeLine)
    (h : Q vs { s with heap := (s.heap.push (seqObj "list" #[] 0)).update s.heap.objs.size (Obj.mapSeq (· ++ vs.toArray)) }) : wpAny (model prog w) A (collect (.ref l)) Q E s := by
  obtain ⟨o, ho, hc, n, hd⟩ := hl
  have fresh : (s.heap.push (seqObj "list" #[] 0)).get? s.heap.objs.size = some (seqObj "list" #[] 0) := Heap.get?_push_size _ rfl
  have there : (s.heap.push (seqObj "list" #[] 0)).get? l = some o := Heap.get?_push_of_some _ ho
  have size : ((#[] : Array Value) ++ vs.toArray).size ≤ sizeLine + 1 := by simp only [Array.size_append, List.size_toArray, List.length_nil]; omega
  unfold collect
  refine wpAny_bind (wpAny_runValue (codeAny_builtin entry_proto_collect' ?_))
  show wpAny _ _ (do again (.builtin "list.__iadd__" ⟨[← newList [], .ref l], []⟩)) _ _ s
  refine wpAny_bind (wpAny_newList (wpAny_pure ⟨Code.quiet_builtin _ (by decide +kernel), codeAny_builtin entry_list_iadd' ?_⟩))
  show wpAny _ _ (Builtin.List.listExtendWith (.ref s.heap.objs.size) (.ref l) (.ref s.heap.objs.size)) _ _ { s with heap := s.heap.push (seqObj "list" #[] 0) }
  unfold Builtin.List.listExtendWith
  refine wpAny_bind (wpAny_typeOf (T := "tuple") ⟨o, there, hc⟩ ?_)
  rw [if_pos (show _ = true by rw [show (Value.type "tuple" == Value.type "tuple") = true from rfl]; simp)]
  refine wpAny_bind (listItems_at there hd (wpAny_bind (listItems_at (xs := #[]) (n := 0) fresh rfl ?_)))
  rw [if_neg (by simp)]
  refine wpAny_bind (listUpdate_at (xs := #[]) (n := 0) fresh rfl (wpAny_pure ?_) (Nat.zero_le _) size)
  show wpAny (model prog w) A (do
      let o ← load s.heap.objs.size
      match o.data with
      | .seq xs _ => pure xs.toList
      | _ => unsupported "internal:collect") Q E { s with heap := (s.heap.push (seqObj "list" #[] 0)).update s.heap.objs.size (Obj.mapSeq (· ++ vs.toArray)) }
  refine wpAny_bind (wpAny_load (get?_update_seq fresh _) ?_)
  show wpAny _ _ (pure ((#[] : Array Value) ++ vs.toArray).toList) Q E _
  rw [show ((#[] : Array Value) ++ vs.toArray).toList = vs by simp]
  exact wpAny_pure h
theorem sorted_texts {l : Addr} {vs : List Value} {xs : List Str} {Q : Value → Shared → Prop} (hl : s.heap.IsTuple l vs.toArray) (hS : StrsAre vs xs) (hz : vs.length ≤ sizeLine)
    (h : ∀ (out : Array Value) (ys : List Str), StrsAre out.toList ys → ys.Perm xs → sortedS ys = true → Q (.ref (s.heap.objs.size + 1)) { s with heap := sortedAll s.heap vs out }) :
    wpAny (model prog w) A (call (.builtin "sorted") [.ref l]) Q E s := by
  refine Calls.call_function_entry kind_sorted plain_sorted entry_sorted (args_sorted1 _) ?_
  unfold Builtin.«sorted»
  refine wpAny_bind (m := checkCount "sorted" 1 1 _) (wpAny_pure (wpAny_bind (collect_tuple hl hz (wpAny_bind (wpAny_newList ?_)))))
  have size : ((s.heap.push (seqObj "list" #[] 0)).update s.heap.objs.size (Obj.mapSeq (· ++ vs.toArray))).objs.size = s.heap.objs.size + 1 := by rw [Heap.size_update, size_push']
  have new : (((s.heap.push (seqObj "list" #[] 0)).update s.heap.objs.size (Obj.mapSeq (· ++ vs.toArray))).push (seqObj "list" vs.toArray 0)).get? (s.heap.objs.size + 1) = some (seqObj "list" vs.toArray 0) := by
    rw [← size]
    exact Heap.get?_push_size _ rfl
  show wpAny _ _ _ _ _ { s with heap := ((s.heap.push (seqObj "list" #[] 0)).update s.heap.objs.size (Obj.mapSeq (· ++ vs.toArray))).push (seqObj "list" vs.toArray 0) }
  rw [size]
  refine wpAny_bind (wpAny_holding (wpAny_call_entry slot_list_sort ⟨_, new, rfl⟩ entry_list_sort (list_sort_treeKAny strKind_oneLt new hS.keysOf (fun v₁ v₂ rest e => keyKind_strs (by rw [← e]; exact hS)) hz fun st' hp hs => ⟨_, rfl, ?_⟩) (args_list_sort _)))
  obtain ⟨ys, h1, h2, h3⟩ := sorted_out_str hS hp hs
  exact wpAny_pure ⟨_, rfl, h _ ys h1 h2 h3⟩
end
def rSortedT (K : PySem.W.Frag) : List V → Hp → VK → Prop := fun vs H Q => ∃ (a : Addr) (xs : List Str), vs = [V.ref a] ∧ SqT K H a (xs.map V.str) ∧
  ∀ (ys : List Str) (p : Addr), ys.Perm xs → sortedS ys = true → H p = none → Q (.ref p) (upd H p (.lst (ys.map V.str)))
theorem cr_sortedTup {X : Cx} : CallR X (.builtin "sorted") (rSortedT X.K) := by
  intro pins s σ H vs us Q I r h
  obtain ⟨a, xs, rfl, ht, q⟩ := h
  obtain ⟨its, rv, hl, hz⟩ := I.tuple ht
  rw [Vals.ref1 r]
  refine sorted_texts hl rv.strs (by rw [← rv.length]; exact hz) fun out ys h1 h2 h3 => ?_
  obtain ⟨ep, he⟩ := PyProof.Rows.sortedAll_at s.heap its out
  have len : (ys.map V.str).length ≤ sizeLine := by
    rw [List.length_map] at hz
    rw [List.length_map, h2.length_eq]
    exact hz
  exact ⟨.ref _, upd H (s.heap.objs.size + 1) (.lst (ys.map V.str)), I.laid (t' := s.toks) (fun _ _ => PyProof.Rows.sortedAll_old) (Nat.le_succ _) ⟨len, out.toList, ep, vals_of_strs h1, he⟩, rfl, q ys _ h2 h3 (I.hok.fresh (Nat.le_succ _))⟩
/-- sorted of a list of texts, of any length -/
def rSortedL (K : PySem.W.Frag) : List V → Hp → VK → Prop := fun vs H Q => ∃ (a : Addr) (xs : List Str), vs = [V.ref a] ∧ SqL K H a (xs.map V.str) ∧
  ∀ (ys : List Str) (p : Addr), ys.Perm xs → sortedS ys = true → H p = none → Q (.ref p) (upd H p (.lst (ys.map V.str)))
theorem cr_sortedLst {X : Cx} : CallR X (.builtin "sorted") (rSortedL X.K) := by
  intro pins s σ H vs us Q I r h
  obtain ⟨a, xs, rfl, ht, q⟩ := h
  obtain ⟨its, rv, hl, hz⟩ := I.list ht
  rw [Vals.ref1 r]
  refine PyProof.Rows.sorted_strsAny hl.isList rv.strs (by rw [← rv.length]; exact hz) fun out ys h1 h2 h3 => ?_
  obtain ⟨ep, he⟩ := PyProof.Rows.sortedAll_at s.heap its out
  have len : (ys.map V.str).length ≤ sizeLine := by
    rw [List.length_map] at hz
    rw [List.length_map, h2.length_eq]
    exact hz
  exact ⟨.ref _, upd H (s.heap.objs.size + 1) (.lst (ys.map V.str)), I.laid (t' := s.toks) (fun _ _ => PyProof.Rows.sortedAll_old) (Nat.le_succ _) ⟨len, out.toList, ep, vals_of_strs h1, he⟩, rfl, q ys _ h2 h3 (I.hok.fresh (Nat.le_succ _))⟩
/-- .. of ints -/
def rSortedN (K : PySem.W.Frag) : List V → Hp → VK → Prop := fun vs H Q => ∃ (a : Addr) (ns : List Int), vs = [V.ref a] ∧ SqL K H a (ns.map V.int) ∧
  ∀ (ms : List Int) (p : Addr), ms.Perm ns → ms.Pairwise (· ≤ ·) → H p = none → Q (.ref p) (upd H p (.lst (ms.map V.int)))
theorem cr_sortedInt {X : Cx} : CallR X (.builtin "sorted") (rSortedN X.K) := by
  intro pins s σ H vs us Q I r h
  obtain ⟨a, ns, rfl, ht, q⟩ := h
  obtain ⟨its, rv, hl, hz⟩ := I.list ht
  rw [Vals.ref1 r]
  have hi := rv.ints
  refine PyProof.Rows.sorted_intsAny hl.isList hi (by rw [← rv.length]; exact hz) fun out ms h1 h2 h3 => ?_
  obtain ⟨ep, he⟩ := PyProof.Rows.sortedAll_at s.heap its out
  have len : (ms.map V.int).length ≤ sizeLine := by
    rw [List.length_map] at hz
    rw [List.length_map, h2.length_eq]
    exact hz
  exact ⟨.ref _, upd H (s.heap.objs.size + 1) (.lst (ms.map V.int)), I.laid (t' := s.toks) (fun _ _ => PyProof.Rows.sortedAll_old) (Nat.le_succ _) ⟨len, out.toList, ep, vals_of_ints h1, he⟩, rfl, q ms _ h2 h3 (I.hok.fresh (Nat.le_succ _))⟩
end Own
namespace K28
open PySem L2 Own StX ClX NdefX
/-! ### the text by places -/
def top (i : Nat) : Stmt := PySem.Challenge.pw_stepblocks_k28_whole_enormous_diagrams.main.body.getD i (.Pass ⟨0, 0, 0, 0⟩)
abbrev sName : Stmt := top 17
abbrev sDN : Stmt := top (18 + 1)
abbrev sRV : Stmt := top (18 + 2)
abbrev sRP : Stmt := top (18 + 3)
abbrev sIP : Stmt := top (18 + 4)
abbrev sHead : Stmt := top (18 + 5)
abbrev sPort : Stmt := top (18 + 6)
abbrev sRows : Stmt := top (18 + 7)
abbrev sReadHead : Stmt := top (18 + 8)
abbrev sOrder : Stmt := top (18 + 9)
theorem small1 {n : Nat} (h : n ≤ 8) : n ≤ sizeLine := Nat.le_trans h (by decide)
theorem upd_new {H : Hp} {p : Addr} {o : HO} (h : H p = none) : Same H (upd H p o) := fun b u e => by
  rw [upd_ne (ne_of_none e h)]
  exact e
theorem same_put {H H1 : Hp} {p : Addr} {o : HO} (s : Same H H1) (h : H p = none) : Same H (upd H1 p o) := fun b u e => by
  rw [upd_ne (ne_of_none e h)]
  exact s b u e
/-! ### what the texts say -/
def optV : Option Int → V
  | some v => .int v
  | none => .non
def isD (c : Nat) : Bool := decide (48 ≤ c) && decide (c ≤ 57)
def dig10 (x : Str) : Bool := decide (1 ≤ x.length) && decide (x.length ≤ 10) && x.cps.toList.all isD
def readV (x : Str) : Option Int :=
  if dig10 x = true then
    if (⟨#[x.cps.toList.headD 0]⟩ : Str) = "0" ∧ ¬ x = "0" then none
    else if ((NumText.digitsVal x.cps.toList : Nat) : Int) < 4294967296 then some ((NumText.digitsVal x.cps.toList : Nat) : Int) else none
  else none
def words9 : List Str := ["const", "add", "sub", "mul", "less", "equal", "pick", "divide", "delay"]
def readP (x : Str) : Option (Str × Option Int) :=
  if (Txt.partition x " ").1 ∈ words9 then
    if (Txt.partition x " ").1 = "const" ∨ (Txt.partition x " ").1 = "delay" then (readV (Txt.partition x " ").2.2).map fun c => ((Txt.partition x " ").1, some c)
    else if (Txt.partition x " ").2.1.length = 0 then some ((Txt.partition x " ").1, none) else none
  else none
theorem isD_in (c : Nat) : decide (c ∈ (("0123456789" : Str)).cps.toList) = isD c := by
  have e : (("0123456789" : Str)).cps.toList = [48, 49, 50, 51, 52, 53, 54, 55, 56, 57] := by decide +kernel
  rw [e]
  unfold isD
  rw [Bool.eq_iff_iff]
  simp only [Bool.and_eq_true, decide_eq_true_eq, List.mem_cons, List.not_mem_nil, or_false]
  omega
theorem par_len {S : List Nat} : ∀ (l acc : List Nat) {p q : List Nat}, TL.par S acc l = some (p, q) → q.length ≤ l.length
  | [], acc, p, q, h => by cases h
  | c :: r, acc, p, q, h => by
    have h : (if TL.pre S (c :: r) = true then some (acc, (c :: r).drop S.length) else TL.par S (acc ++ [c]) r) = some (p, q) := h
    split at h
    · cases h
      rw [List.length_drop]
      omega
    · have := par_len r _ h
      rw [List.length_cons]
      omega
theorem part_rest (x : Str) : (Txt.partition x " ").2.2.length ≤ x.length := by
  rw [TL.partition_par x " " (by decide +kernel)]
  split
  · rename_i a b e
    have := par_len _ _ e
    simp only [Str.length] at *
    simpa using this
  · exact Nat.zero_le _
/-! ### an instance of Primitive -/
/-! ### names -/
def reserved : List Str := ["block", "part", "end", "self"]
def isL (c : Nat) : Bool := decide (97 ≤ c) && decide (c ≤ 122)
def isNm (x : Str) : Bool := decide (1 ≤ x.length) && decide (x.length ≤ 8) && !decide (x ∈ reserved) && x.cps.toList.all isL
def isDN (x : Str) : Bool := isNm x && !decide (x ∈ words9)
/-- what the texts module has -/
structure Txt (K : PySem.W.Frag) (w : World) (mg : Str → Option Value) : Prop where
  pp : ∃ d es n, mg "PRIMITIVE_PORTS" = some (.ref d) ∧ KDict K w d es n ∧ (∀ z ∈ words9, ∃ u, PySem.W.nsIn K d z = some (some u)) ∧ ∀ z, ¬ z ∈ words9 → PySem.W.nsIn K d z = some none
  ww : ∃ d, mg "WORDS_WITH_VALUE" = some (.ref d) ∧ ∀ H, SqT K H d [.str "const", .str "delay"]
  dg : ∃ t, mg "DIGITS" = some (.str "0123456789" t)
  md : ∃ t, mg "MOST_DIGITS" = some (.int 10 t)
  mo : ∃ t, mg "MODULUS" = some (.int 4294967296 t)
  le : ∃ t, mg "LETTERS" = some (.str "abcdefghijklmnopqrstuvwxyz" t)
  ml : ∃ t, mg "MOST_LETTERS" = some (.int 8 t)
  re : ∃ a, mg "RESERVED_WORDS" = some (.ref a) ∧ ∀ H, SqT K H a (reserved.map V.str)
  is_ : mg "isinstance" = none
  zl : mg "len" = none
  za : mg "all" = none
  zi : mg "int" = none
  zs : mg "str" = none
  zt : mg "tuple" = none
theorem isL_in (c : Nat) : decide (c ∈ (("abcdefghijklmnopqrstuvwxyz" : Str)).cps.toList) = isL c := by
  have e : (("abcdefghijklmnopqrstuvwxyz" : Str)).cps.toList = (List.range 26).map (· + 97) := by decide +kernel
  rw [e]
  unfold isL
  by_cases h : 97 ≤ c ∧ c ≤ 122
  · rw [decide_eq_true h.1, decide_eq_true h.2]
    exact decide_eq_true (List.mem_map.mpr ⟨c - 97, List.mem_range.mpr (by omega), by omega⟩)
  · have : ¬ c ∈ (List.range 26).map (· + 97) := fun hm => by
      obtain ⟨k, hk, rfl⟩ := List.mem_map.mp hm
      have := List.mem_range.mp hk
      omega
    rw [decide_eq_false this]
    by_cases h1 : 97 ≤ c
    · rw [decide_eq_true h1, decide_eq_false (fun h2 => h ⟨h1, h2⟩)]
      rfl
    · rw [decide_eq_false h1]
      rfl
theorem inV_strs (z : Str) (l : List Str) : inV (.str z) (l.map V.str) = decide (z ∈ l) := by
  induction l with
  | nil => rfl
  | cons a r ih =>
    show (eqV (.str a) (.str z) || inV (.str z) (r.map V.str)) = _
    rw [ih]
    have e : eqV (.str a) (.str z) = decide (z = a) := by
      show (a == z) = _
      by_cases h : z = a
      · rw [decide_eq_true h, h]
        exact beq_self_eq_true _
      · rw [decide_eq_false h]
        exact beq_eq_false_iff_ne.mpr fun q => h q.symm
    rw [e]
    by_cases h : z = a
    · simp [h]
    · simp [h]
theorem sl (a b : Str) : (a ++ b).length = a.length + b.length := by rw [TL.len_tl, TL.len_tl a, TL.len_tl b, TL.tl_append, List.length_append]
theorem readP_word {x z : Str} {c : Option Int} (h : readP x = some (z, c)) : z ∈ words9 := by
  unfold readP at h
  split at h
  · rename_i hw
    split at h
    · cases e : readV (Txt.partition x " ").2.2 with
      | none => rw [e] at h; cases h
      | some v => rw [e] at h; cases h; exact hw
    · split at h
      · cases h; exact hw
      · cases h
  · cases h
theorem ww9 (z : Str) (h : z ∈ words9) : inV (.str z) [.str "const", .str "delay"] = decide (z = "const" ∨ z = "delay") := by
  simp only [words9, List.mem_cons, List.not_mem_nil, or_false] at h
  rcases h with rfl | rfl | rfl | rfl | rfl | rfl | rfl | rfl | rfl <;> decide +kernel
def spRV : Sp := fun vs H Q _ => ∃ x : Str, vs = [.str x] ∧ x.length ≤ sizeLine ∧ ∀ H', Same H H' → Q (optV (readV x)) H'
def spRP : Sp := fun vs H Q _ => ∃ x : Str, vs = [.str x] ∧ x.length ≤ sizeLine ∧ (readP x = none → ∀ H', Same H H' → Q .non H') ∧
  (∀ z c, readP x = some (z, c) → ∀ t H', Same H H' → H t = none → H' t = some (.tup [.str z, optV c]) → Q (.ref t) H')
def spName : Sp := fun vs H Q _ => ∃ x : Str, vs = [.str x] ∧ x.length ≤ sizeLine ∧ ∀ H', Same H H' → Q (.bl (isNm x)) H'
def spDN : Sp := fun vs H Q _ => ∃ x : Str, vs = [.str x] ∧ x.length ≤ sizeLine ∧ ∀ H', Same H H' → Q (.bl (isDN x)) H'
def spIP : Sp := fun vs H Q _ => ∃ x : Str, vs = [.str x] ∧ x.length ≤ sizeLine ∧ ∀ H', Same H H' → Q (.bl (readP x).isSome) H'
section
variable {P : Program} {w : World} {K : PySem.W.Frag} {mg : Str → Option Value} {base : Heap}
theorem scRV : FnScope ["text", "value", "sign"] ["text"] (defScope sRV) := ⟨rfl, rfl, rfl, by decide +kernel, rfl, by decide +kernel, by decide +kernel⟩
theorem ok_rv {f : Addr} {fd : FuncData} (F : Fun K "read_value" "read_value" sRV f fd) (T : Txt K w mg) : FnOk P w K mg base CX0 1 f fd ["text"] spRV := by
  refine F.ok scRV (fun vs H Q E h => ?_) (fun cdv A outer s H vs Q E hr h => ?_)
  · obtain ⟨x, rfl, _⟩ := h
    rfl
  obtain ⟨x, rfl, hx, k⟩ := h
  obtain ⟨tD, mD⟩ := T.dg
  obtain ⟨tM, mM⟩ := T.md
  obtain ⟨tO, mO⟩ := T.mo
  refine ⟨_, pss_cons (ps_if (PW.pt (pw_or (pt_not (pt_chain op_le op_le pe_int (pe_callB call_len_str (by rfl) T.zl PySem.boot_len (pa_cons (pv 0) pa_nil)) (pe_glob (v := .int 10) rfl mM ⟨_, rfl⟩)))
      (pw_or1 (pt_not (pt_val (pe_callB (cr_all rfl) (by rfl) T.za (by decide +kernel) (pa_cons (pe_lc (own := [("sign", 2)]) (g := gName 2) rfl scRV.nd (pi_str (pv 0)) (blkOk_by (own := [("sign", 2)]) (N := ["text", "value", "sign"]) (sc := defScope sRV) (by decide +kernel)) (fun _ _ _ _ _ => pg_name (i := 2) scRV.nd rfl (Or.inl rfl)) (fun _ _ _ _ _ => pts_nil)
        (fun _ _ _ _ _ => pe_cmpR op_in_sign (pv 2) (pe_glob (v := .str "0123456789") rfl mD ⟨_, rfl⟩) (by rfl))) pa_nil))))))) (pss_one (ps_ret pe_non)) pss_nil)
    (pss_cons (ps_if (PW.pt (pw_and (pt_cmpR op_eq (pe_ix ix_str (pv 0) pe_int (fun _ _ => rfl)) pe_str (nomark _)) (pw_and1 (pt_cmpR op_ne (pv 0) pe_str (nomark _))))) (pss_one (ps_ret pe_non)) pss_nil)
    (pss_cons (ps_set (i := 1) scRV.nd rfl (.inl rfl) (pe_callTy call_int_str (by rfl) T.zi (by decide +kernel) (pa_cons (pv 0) pa_nil)))
    (pss_one (ps_ret (pe_ifExp (pt_cmpR op_lt (pv 1) (pe_glob (v := .int 4294967296) rfl mO ⟨_, rfl⟩) (nomark _)) (pv 1) pe_non))))), ?_⟩
  have hsz : x.cps.toList.length = x.length := by simp [Str.length]
  have back : ∀ H', Same H H' → readV x = none → Q .non H' := fun H' s' e => by
    have z := k H' s'
    rw [e] at z
    exact z
  refine ⟨_, rfl, _, rfl, hx, _, _, rfl, rfl, _, rfl, ?_⟩
  by_cases h1 : (1 : Int) ≤ (x.length : Int)
  case neg =>
    rw [decide_eq_false h1]
    refine iteF ⟨_, rfl, iteT (back H (Same.refl H) ?_)⟩
    unfold readV dig10
    rw [if_neg]
    rw [decide_eq_false (show ¬ 1 ≤ x.length by omega)]
    simp
  rw [decide_eq_true h1]
  refine iteT ⟨_, _, rfl, rfl, _, rfl, ?_⟩
  by_cases h2 : (x.length : Int) ≤ 10
  case neg =>
    rw [decide_eq_false h2]
    refine iteT (back H (Same.refl H) ?_)
    unfold readV dig10
    rw [if_neg]
    rw [decide_eq_false (show ¬ x.length ≤ 10 by omega)]
    simp
  rw [decide_eq_true h2]
  refine iteF ⟨_, rfl, x, rfl, fun D hD => ?_⟩
  refine lc_it walk_str (fun i H' => Same H H' ∧ H' D = some (.lst ((x.cps.toList.take i).map fun c => V.bl (isD c)))) ⟨upd_new hD, upd_same⟩ (fun _ _ _ _ => True.intro) ?_ ?_
  · rintro i v H1 H2 hi ⟨s1, a1⟩ ⟨rfl, c, hc, rfl⟩
    have hc' : x.cps.toList[i]? = some c := by simpa using hc
    refine ⟨rfl, ?_⟩
    refine ⟨_, rfl, c, _, rfl, rfl, ?_⟩
    rw [isD_in]
    have hl : ((x.cps.toList.take i).map fun c => V.bl (isD c)).length < sizeLine := by
      rw [List.length_map, List.length_take]
      have : i < x.length := hi
      exact Nat.lt_of_le_of_lt (Nat.min_le_left _ _) (by have := small1000 (n := i) (by omega); exact this)
    refine ⟨_, a1, hl, same_put s1 hD, ?_⟩
    rw [upd_same, List.take_succ, hc']
    simp
  rintro H1 ⟨s1, a1⟩
  rw [List.take_of_length_le (show x.cps.toList.length ≤ x.cps.size by simp)] at a1
  refine ⟨D, x.cps.toList.map isD, rfl, .of (by rw [a1, List.map_map]; rfl), true && (x.cps.toList.map isD).all id, by simp, ?_⟩
  have hall : (x.cps.toList.map isD).all id = x.cps.toList.all isD := by rw [List.all_map]; rfl
  rw [hall, Bool.true_and]
  cases h3 : x.cps.toList.all isD with
  | false =>
    refine iteT (back H1 s1 ?_)
    unfold readV dig10
    rw [if_neg]
    rw [h3]
    simp
  | true =>
    have hd : dig10 x = true := by
      unfold dig10
      rw [h3, decide_eq_true (show 1 ≤ x.length by omega), decide_eq_true (show x.length ≤ 10 by omega)]
      rfl
    have hne : x.cps.toList ≠ [] := fun e => by rw [e] at hsz; simp at hsz; omega
    obtain ⟨c0, r0, he⟩ := List.exists_cons_of_ne_nil hne
    have hA : NumText.AllDigits x.cps.toList := fun c hc => by
      have z := List.all_eq_true.mp h3 c hc
      unfold isD at z
      simp only [Bool.and_eq_true, decide_eq_true_eq] at z
      exact z
    have hI : intText? x = some ((NumText.digitsVal x.cps.toList : Nat) : Int) := intText_digits hA hne (by omega)
    refine iteF ⟨_, rfl, x, 0, c0, rfl, rfl, hx, (by rw [he]; exact atI_nat (j := 0) rfl), rfl, _, rfl, ?_⟩
    have hh : x.cps.toList.headD 0 = c0 := by rw [he]; rfl
    have tail : ¬ ((⟨#[x.cps.toList.headD 0]⟩ : Str) = "0" ∧ ¬ x = "0") →
        tSeq (tAsg (tCB (fun xs H Q => ∃ a n, xs = [V.str a] ∧ intText? a = some n ∧ a.length ≤ 640 ∧ Q (.int n) H) (tCons (tVar 0) tNil)) (gName 1))
          (tRet (tIf (tTest (tOp (rI0 fun i j => .bl (decide (i < j))) (tVar 1) (tC (.int 4294967296)))) (tVar 1) (tC .non))) { nx := fun _ H' => Q .non H', rt := Q } [some (.str x), none, none] H1 := by
      intro hn
      have hv : readV x = if ((NumText.digitsVal x.cps.toList : Nat) : Int) < 4294967296 then some ((NumText.digitsVal x.cps.toList : Nat) : Int) else none := by
        unfold readV
        rw [if_pos hd, if_neg hn]
      refine ⟨_, rfl, x, _, rfl, hI, by omega, ?_⟩
      generalize ((NumText.digitsVal x.cps.toList : Nat) : Int) = v at hv
      refine ⟨_, rfl, v, 4294967296, rfl, rfl, _, rfl, ?_⟩
      by_cases h6 : v < 4294967296
      · rw [decide_eq_true h6]
        refine iteT ⟨_, rfl, ?_⟩
        have z := k H1 s1
        rw [hv, if_pos h6] at z
        exact z
      · rw [decide_eq_false h6]
        rw [if_neg h6] at hv
        exact iteF (back H1 s1 hv)
    by_cases h4 : (⟨#[c0]⟩ : Str) = "0"
    · rw [decide_eq_true (show V.str (⟨#[c0]⟩ : Str) = V.str "0" from congrArg V.str h4)]
      refine iteT ⟨_, rfl, rfl, _, rfl, ?_⟩
      by_cases h5 : x = "0"
      · rw [decide_eq_true (show V.str x = V.str "0" from congrArg V.str h5)]
        refine iteF ?_
        exact tail (fun z => z.2 h5)
      · rw [decide_eq_false (show ¬ V.str x = V.str "0" from fun e => h5 (V.str.inj e))]
        refine iteT (back H1 s1 ?_)
        unfold readV
        rw [if_pos hd, if_pos ⟨by rw [hh]; exact h4, h5⟩]
    · rw [decide_eq_false (show ¬ V.str (⟨#[c0]⟩ : Str) = V.str "0" from fun e => h4 (V.str.inj e))]
      refine iteF (iteF ?_)
      exact tail (fun z => h4 (by rw [hh] at z; exact z.1))
theorem scRP : FnScope ["text", "word", "space", "rest", "constant"] ["text"] (defScope sRP) := ⟨rfl, rfl, rfl, by decide +kernel, rfl, by decide +kernel, by decide +kernel⟩
theorem ok_rp {f fV : Addr} {fd fdV : FuncData} (F : Fun K "read_primitive" "read_primitive" sRP f fd) (T : Txt K w mg) (GV : FnOk P w K mg base CX0 1 fV fdV ["text"] spRV) (mV : mg "read_value" = some (.ref fV)) (kV : PySem.W.keepIn K (.ref fV) = true) (bV : Binds K fdV ["text"] []) :
    FnOk P w K mg base CX0 2 f fd ["text"] spRP := by
  refine F.ok scRP (fun vs H Q E h => ?_) (fun cdv A outer s H vs Q E hr h => ?_)
  · obtain ⟨x, rfl, _⟩ := h
    rfl
  obtain ⟨x, rfl, hx, kn, ks⟩ := h
  obtain ⟨d, es, n, hd, D, hP, hM⟩ := T.pp
  obtain ⟨dW, hW, hWs⟩ := T.ww
  refine ⟨_, pss_cons (ps_asg (pe_partition (pv 0) pe_str) (pg_tup (by rfl) (pgs_cons (pg_name (i := 1) scRP.nd rfl (.inl rfl)) (pgs_cons (pg_name (i := 2) scRP.nd rfl (.inl rfl)) (pgs_cons (pg_name (i := 3) scRP.nd rfl (.inl rfl)) pgs_nil)))))
    (pss_cons (ps_if (pt_cmpR (op_notIn_kd D) (pv 1) (pe_glob (v := .ref d) rfl hd rfl) (by rfl)) (pss_one (ps_ret pe_non)) pss_nil)
    (pss_cons (ps_if (pt_cmpR op_notIn_seq (pv 1) (pe_glob (v := .ref dW) rfl hW rfl) (by rfl)) (pss_one (ps_ret (pe_ifExp (pt_truth (pv 2) (by intro _; rfl)) pe_non (pe_tup (pa_cons (pv 1) (pa_cons pe_non pa_nil)))))) pss_nil)
    (pss_cons (ps_set (i := 4) scRP.nd rfl (.inl rfl) (pe_call GV hr rfl mV kV bV .nil pass0 (pa_cons (pv 3) pa_nil)))
    (pss_one (ps_ret (pe_ifExp (pt_cmpR op_isN (pv 4) pe_non (nomark _)) pe_non (pe_tup (pa_cons (pv 1) (pa_cons (pv 4) pa_nil))))))))), ?_⟩
  refine ⟨_, rfl, ⟨_, rfl⟩, _, _, rfl, rfl, by decide +kernel, hx, fun p hp => ?_⟩
  have hrest := part_rest x
  obtain ⟨R, er⟩ : ∃ R, readP x = R := ⟨_, rfl⟩
  rw [er] at kn ks
  unfold readP at er
  have hsp : (Txt.partition x " ").2.1.length ≤ 1 := by
    rw [TL.partition_par x " " (by decide +kernel)]
    split
    · exact (by decide +kernel : (" " : Str).length ≤ 1)
    · exact Nat.zero_le _
  generalize (Txt.partition x " ").1 = z at er
  generalize (Txt.partition x " ").2.1 = sp at er hsp
  generalize (Txt.partition x " ").2.2 = rs at er hrest
  refine ⟨p, _, rfl, .of upd_same, rfl, _, _, rfl, _, _, rfl, _, _, rfl, rfl, ?_⟩
  have s1 := upd_new (o := .tup [V.str z, V.str sp, V.str rs]) hp
  by_cases hz : z ∈ words9
  case neg =>
    rw [if_neg hz] at er
    exact ⟨_, rfl, z, none, rfl, rfl, hM z hz, _, rfl, iteT (kn er.symm _ s1)⟩
  rw [if_pos hz] at er
  obtain ⟨u, h1⟩ := hP z hz
  refine ⟨_, rfl, z, some u, rfl, rfl, h1, _, rfl, iteF ⟨_, rfl, dW, _, rfl, .inr (hWs _), rfl, rfl, _, rfl, ?_⟩⟩
  rw [ww9 z hz]
  by_cases hcd : z = "const" ∨ z = "delay"
  · rw [decide_eq_true hcd]
    rw [if_pos hcd] at er
    refine iteF ⟨_, rfl, rs, rfl, by omega, fun H1 s2 => ?_⟩
    have s3 := s1.trans s2
    cases ev : readV rs with
    | none =>
      rw [ev] at er
      exact ⟨_, rfl, rfl, _, rfl, iteT (kn er.symm _ s3)⟩
    | some v =>
      rw [ev] at er
      refine ⟨_, rfl, rfl, _, rfl, iteF ⟨_, rfl, _, rfl, small1 (by show 2 ≤ 8; decide), fun t ht => ?_⟩⟩
      exact ks z (some v) er.symm t _ (s3.trans (upd_new ht)) (s3.free ht) upd_same
  · rw [decide_eq_false hcd]
    rw [if_neg hcd] at er
    refine iteT ⟨_, rfl, _, ⟨Nat.le_trans hsp (by decide), rfl⟩, ?_⟩
    by_cases hs0 : sp.length = 0
    · rw [if_pos hs0] at er
      rw [show ((sp.length : Int) != 0) = false by simp [hs0]]
      refine iteF ⟨_, rfl, small1 (by show 2 ≤ 8; decide), fun t ht => ?_⟩
      exact ks z none er.symm t _ (s1.trans (upd_new ht)) (s1.free ht) upd_same
    · rw [if_neg hs0] at er
      rw [show ((sp.length : Int) != 0) = true by simp [hs0]]
      exact iteT (kn er.symm _ s1)
abbrev nN : List Str := ["value", "letter"]
theorem scN : FnScope nN ["value"] (defScope sName) := ⟨rfl, rfl, rfl, by decide +kernel, rfl, by decide +kernel, by decide +kernel⟩
theorem ok_name {f : Addr} {fd : FuncData} (F : Fun K "is_name" "is_name" sName f fd) (T : Txt K w mg) : FnOk P w K mg base CX0 1 f fd ["value"] spName := by
  refine F.ok scN (fun vs H Q E h => ?_) (fun cdv A outer s H vs Q E hr h => ?_)
  · obtain ⟨x, rfl, _⟩ := h
    rfl
  obtain ⟨x, rfl, hx, k⟩ := h
  obtain ⟨tL, mL⟩ := T.le
  obtain ⟨tM, mM⟩ := T.ml
  obtain ⟨aR, mR, hR⟩ := T.re
  refine ⟨_, pss_cons (ps_if (PW.pt (pw_or (pt_not (pt_val (pe_callB (id := "isinstance") call_isi (by rfl) T.is_ (by decide +kernel) (pa_cons (pv 0) (pa_cons (pe_bltn (v := .ty "str") rfl T.zs PyProof.Rows.Boot.«str» rfl) pa_nil)))))
        (pw_or1 (pt_not (pt_chain op_le op_le pe_int (pe_callB call_len_str (by rfl) T.zl PySem.boot_len (pa_cons (pv 0) pa_nil)) (pe_glob (v := .int 8) rfl mM ⟨_, rfl⟩)))))) (pss_one (ps_ret pe_bl)) pss_nil)
    (pss_one (ps_ret (pe_and (pe_cmpR op_notIn_seq (pv 0) (pe_glob (v := .ref aR) rfl mR rfl) (by rfl)) (pe_one (pe_callB (cr_all rfl) (by rfl) T.za (by decide +kernel) (pa_cons (pe_lc (own := [("letter", 1)]) (g := gName 1) rfl scN.nd (pi_str (pv 0)) (blkOk_by (own := [("letter", 1)]) (N := nN) (sc := defScope sName) (by decide +kernel)) (fun _ _ _ _ _ => pg_name (i := 1) scN.nd rfl (Or.inl rfl)) (fun _ _ _ _ _ => pts_nil)
        (fun _ _ _ _ _ => pe_cmpR op_in_sign (pv 1) (pe_glob (v := .str "abcdefghijklmnopqrstuvwxyz") rfl mL ⟨_, rfl⟩) (by rfl))) pa_nil)))))), ?_⟩
  refine ⟨_, rfl, .str x, _, _, _, true, rfl, .ty "str", .base (.str x), rfl, _, rfl, ?_⟩
  have hsz : x.cps.toList.length = x.length := by simp [Str.length]
  refine iteF ⟨_, rfl, _, rfl, hx, _, _, rfl, rfl, _, rfl, ?_⟩
  have back : ∀ H', Same H H' → isNm x = false → Q (.bl false) H' := fun H' s' e => by
    have z := k H' s'
    rw [e] at z
    exact z
  by_cases h1 : (1 : Int) ≤ (x.length : Int)
  case neg =>
    rw [decide_eq_false h1]
    refine iteF ⟨_, rfl, iteT (back H (Same.refl H) ?_)⟩
    unfold isNm
    rw [decide_eq_false (show ¬ 1 ≤ x.length by omega)]
    rfl
  rw [decide_eq_true h1]
  refine iteT ⟨_, _, rfl, rfl, _, rfl, ?_⟩
  by_cases h2 : (x.length : Int) ≤ 8
  case neg =>
    rw [decide_eq_false h2]
    refine iteT (back H (Same.refl H) ?_)
    unfold isNm
    rw [decide_eq_false (show ¬ x.length ≤ 8 by omega), Bool.and_false]
    rfl
  rw [decide_eq_true h2]
  refine iteF ⟨_, rfl, aR, _, rfl, .inr (hR H), rfl, rfl, _, rfl, ?_⟩
  show if (!inV (.str x) (reserved.map V.str)) = true then _ else _
  rw [inV_strs]
  by_cases h3 : x ∈ reserved
  · rw [decide_eq_true h3]
    refine iteF (back H (Same.refl H) ?_)
    unfold isNm
    rw [decide_eq_true h3, Bool.not_true, Bool.and_false, Bool.false_and]
  rw [decide_eq_false h3]
  refine iteT ⟨_, rfl, x, rfl, fun D hD => ?_⟩
  refine lc_it walk_str (fun i H' => Same H H' ∧ H' D = some (.lst ((x.cps.toList.take i).map fun c => V.bl (isL c)))) ⟨upd_new hD, upd_same⟩ (fun _ _ _ _ => True.intro) ?_ ?_
  · rintro i v H1 H2 hi ⟨s1, a1⟩ ⟨rfl, c, hc, rfl⟩
    have hc' : x.cps.toList[i]? = some c := by simpa using hc
    refine ⟨rfl, ?_⟩
    refine ⟨_, rfl, c, _, rfl, rfl, ?_⟩
    rw [isL_in]
    have hl : ((x.cps.toList.take i).map fun c => V.bl (isL c)).length < sizeLine := by
      rw [List.length_map, List.length_take]
      have : i < x.length := hi
      exact Nat.lt_of_le_of_lt (Nat.min_le_left _ _) (by have := small1000 (n := i) (by omega); exact this)
    refine ⟨_, a1, hl, same_put s1 hD, ?_⟩
    rw [upd_same, List.take_succ, hc']
    simp
  rintro H1 ⟨s1, a1⟩
  rw [List.take_of_length_le (show x.cps.toList.length ≤ x.cps.size by simp)] at a1
  refine ⟨D, x.cps.toList.map isL, rfl, .of (by rw [a1, List.map_map]; rfl), ?_⟩
  have hall : (x.cps.toList.map isL).all id = x.cps.toList.all isL := by rw [List.all_map]; rfl
  rw [hall]
  have z := k H1 s1
  have e : isNm x = x.cps.toList.all isL := by
    unfold isNm
    rw [decide_eq_true (show 1 ≤ x.length by omega), decide_eq_true (show x.length ≤ 8 by omega), decide_eq_false h3]
    simp
  rw [e] at z
  exact z
end
end K28
namespace K28
open PySem L2 Own StX ClX NdefX
theorem emp (a : Str) : Str.empty ++ a = a := TL.ext_tl (by rw [TL.tl_append]; rfl)
/-- a port's text -/
def portT (a b : Str) : Str := if a.length = 0 then b else a ++ "." ++ b
def total (l : List Str) : Nat := (l.map fun x => x.length + 1).sum
/-- a head's row -/
def headT (name : Str) (ins outs : List Str) : Str := ("block " : Str) ++ name ++ "(" ++ Txt.join " " ins ++ ";" ++ Txt.join "" (outs.map fun o => (" " : Str) ++ o) ++ ")"
def spPort (K : PySem.W.Frag) : Sp := fun vs H Q _ => ∃ (p : Addr) (a b : Str), vs = [.ref p] ∧ SqT K H p [.str a, .str b] ∧ a.length ≤ 200000 ∧ b.length ≤ 200000 ∧ Q (.str (portT a b)) H
def spHead (K : PySem.W.Frag) : Sp := fun vs H Q _ => ∃ (name : Str) (a b : Addr) (ins outs : List Str), vs = [.str name, .ref a, .ref b] ∧ SqT K H a (ins.map V.str) ∧ SqT K H b (outs.map V.str) ∧ name.length ≤ 200000 ∧ total ins ≤ 200000 ∧ total outs ≤ 200000 ∧ outs.length ≤ 200000 ∧
  ∀ H', Same H H' → Q (.str (headT name ins outs)) H'
section
variable {P : Program} {w : World} {K : PySem.W.Frag} {mg : Str → Option Value} {base : Heap}
theorem scDN : FnScope ["text"] ["text"] (defScope sDN) := ⟨rfl, rfl, rfl, by decide +kernel, rfl, by decide +kernel, by decide +kernel⟩
theorem ok_dn {f fN : Addr} {fd fdN : FuncData} (F : Fun K "is_diagram_name" "is_diagram_name" sDN f fd) (T : Txt K w mg) (GN : FnOk P w K mg base CX0 1 fN fdN ["value"] spName) (mN : mg "is_name" = some (.ref fN)) (kN : PySem.W.keepIn K (.ref fN) = true) (bN : Binds K fdN ["value"] []) :
    FnOk P w K mg base CX0 2 f fd ["text"] spDN := by
  refine F.ok scDN (fun vs H Q E h => ?_) (fun cdv A outer s H vs Q E hr h => ?_)
  · obtain ⟨x, rfl, _⟩ := h
    rfl
  obtain ⟨x, rfl, hx, k⟩ := h
  obtain ⟨d, es, n, hd, D, hP, hM⟩ := T.pp
  refine ⟨_, pss_one (ps_ret (pe_and (pe_call GN hr rfl mN kN bN .nil pass0 (pa_cons (pv 0) pa_nil)) (pe_one (pe_cmpR (op_notIn_kd D) (pv 0) (pe_glob (v := .ref d) rfl hd rfl) (by rfl))))), ?_⟩
  refine ⟨_, rfl, x, rfl, hx, fun H1 s1 => ⟨_, rfl, ?_⟩⟩
  have z := k H1 s1
  unfold isDN at z
  cases hn : isNm x with
  | false =>
    rw [hn] at z
    exact iteF z
  | true =>
    rw [hn, Bool.true_and] at z
    by_cases hw : x ∈ words9
    · obtain ⟨u, hu⟩ := hP x hw
      rw [decide_eq_true hw] at z
      exact iteT ⟨_, rfl, x, some u, rfl, rfl, hu, z⟩
    · rw [decide_eq_false hw] at z
      exact iteT ⟨_, rfl, x, none, rfl, rfl, hM x hw, z⟩
theorem scIP : FnScope ["text"] ["text"] (defScope sIP) := ⟨rfl, rfl, rfl, by decide +kernel, rfl, by decide +kernel, by decide +kernel⟩
theorem ok_ip {f fR : Addr} {fd fdR : FuncData} (F : Fun K "is_primitive" "is_primitive" sIP f fd) (GR : FnOk P w K mg base CX0 2 fR fdR ["text"] spRP) (mR : mg "read_primitive" = some (.ref fR)) (kR : PySem.W.keepIn K (.ref fR) = true) (bR : Binds K fdR ["text"] []) :
    FnOk P w K mg base CX0 3 f fd ["text"] spIP := by
  refine F.ok scIP (fun vs H Q E h => ?_) (fun cdv A outer s H vs Q E hr h => ?_)
  · obtain ⟨x, rfl, _⟩ := h
    rfl
  obtain ⟨x, rfl, hx, k⟩ := h
  refine ⟨_, pss_one (ps_ret (pe_cmpR op_notN (pe_call GR hr rfl mR kR bR .nil pass0 (pa_cons (pv 0) pa_nil)) pe_non (nomark _))), ?_⟩
  refine ⟨_, rfl, x, rfl, hx, fun e H1 s1 => ⟨rfl, ?_⟩, fun z c e t H1 s1 ht ht1 => ⟨rfl, ?_⟩⟩
  · have z := k H1 s1
    rw [e] at z
    exact z
  · have q := k H1 s1
    rw [e] at q
    exact q
theorem scPt : FnScope ["port", "part", "name"] ["port"] (defScope sPort) := ⟨rfl, rfl, rfl, by decide +kernel, rfl, by decide +kernel, by decide +kernel⟩
theorem ok_port {f : Addr} {fd : FuncData} (F : Fun K "port_text" "port_text" sPort f fd) : FnOk P w K mg base CX0 1 f fd ["port"] (spPort K) := by
  refine F.ok scPt (fun vs H Q E h => ?_) (fun cdv A outer s H vs Q E hr h => ?_)
  · obtain ⟨p, a, b, rfl, _⟩ := h
    rfl
  obtain ⟨p, a, b, rfl, hp, ha, hb, k⟩ := h
  have sz : ∀ {n : Nat}, n ≤ 1000000 → n ≤ sizeLine := fun h => by rw [sizeLine_eq]; omega
  refine ⟨_, pss_cons (ps_asg (pv 0) (pg_tup (by rfl) (pgs_cons (pg_name (i := 1) scPt.nd rfl (.inl rfl)) (pgs_cons (pg_name (i := 2) scPt.nd rfl (.inl rfl)) pgs_nil))))
    (pss_one (ps_ret (pe_ifExp (pt_truth (pv 1) (by intro _; rfl)) (pe_joined (.cons (pe_fmt (pv 1)) (.cons pe_str (.cons (pe_fmt (pv 2)) .nil)))) (pv 2)))), ?_⟩
  refine ⟨_, rfl, p, _, rfl, hp, rfl, _, _, rfl, _, _, rfl, rfl, ?_⟩
  unfold portT at k
  refine ⟨_, rfl, _, ⟨sz (by omega), rfl⟩, ?_⟩
  by_cases h0 : a.length = 0
  · rw [if_pos h0] at k
    rw [show ((a.length : Int) != 0) = false by simp [h0]]
    exact iteF ⟨_, rfl, k⟩
  · rw [if_neg h0] at k
    rw [show ((a.length : Int) != 0) = true by simp [h0]]
    refine iteT ⟨_, rfl, .inl ⟨a, rfl, sz (by omega), a, rfl, ?_, ".", rfl, ?_, _, rfl, .inl ⟨b, rfl, sz (by omega), b, rfl, ?_, ?_⟩⟩⟩
    · rw [emp]; exact sz (by omega)
    · rw [emp, sl, show ((".": Str)).length = 1 by decide +kernel]; exact sz (by omega)
    · rw [emp, sl, sl, show ((".": Str)).length = 1 by decide +kernel]; exact sz (by omega)
    · rw [emp]; exact k
end
end K28
namespace K28
open PySem L2 Own StX ClX NdefX
theorem join_len (y : Str) : ∀ ts : List Str, (Txt.join y ts).length ≤ (ts.map fun t => t.length + y.length).sum := by
  have h : ∀ ts : List Str, (Str.join y ts).length ≤ (ts.map fun t => t.length + y.length).sum := by
    intro ts
    induction ts with
    | nil => exact Nat.zero_le _
    | cons x r ih =>
      cases r with
      | nil => simp [Str.join]
      | cons z r =>
        show (x ++ y ++ Str.join y (z :: r)).length ≤ _
        rw [sl, sl, List.map_cons, List.sum_cons]
        omega
  intro ts
  rw [TL.join_eq]
  exact h ts
theorem mem_total {x : Str} : ∀ {l : List Str}, x ∈ l → x.length + 1 ≤ total l
  | a :: r, h => by
    have e : total (a :: r) = (a.length + 1) + total r := rfl
    rcases List.mem_cons.mp h with rfl | h
    · omega
    · have := mem_total h
      omega
theorem sum_lens (l : List Str) : (l.map (·.length)).sum + l.length = total l := by
  unfold total
  induction l with
  | nil => rfl
  | cons a r ih =>
    simp only [List.map_cons, List.sum_cons, List.length_cons]
    omega
theorem sum_more (l : List Str) : ((l.map fun o => (" " : Str) ++ o).map fun t => t.length + ("" : Str).length).sum = total l := by
  unfold total
  induction l with
  | nil => rfl
  | cons a r ih =>
    simp only [List.map_cons, List.sum_cons, ih, sl]
    have e1 : ((" " : Str)).length = 1 := by decide +kernel
    have e2 : (("" : Str)).length = 0 := by decide +kernel
    omega
section
variable {P : Program} {w : World} {K : PySem.W.Frag} {mg : Str → Option Value} {base : Heap}
abbrev nH : List Str := ["name", "inputs", "outputs", "before", "behind", "output"]
theorem scHd : FnScope nH ["name", "inputs", "outputs"] (defScope sHead) := ⟨rfl, rfl, rfl, by decide +kernel, rfl, by decide +kernel, by decide +kernel⟩
theorem ok_head {f : Addr} {fd : FuncData} (F : Fun K "head_row" "head_row" sHead f fd) : FnOk P w K mg base CX0 1 f fd ["name", "inputs", "outputs"] (spHead K) := by
  refine F.ok scHd (fun vs H Q E h => ?_) (fun cdv A outer s H vs Q E hr h => ?_)
  · obtain ⟨n, a, b, i, o, rfl, _⟩ := h
    rfl
  obtain ⟨name, a, b, ins, outs, rfl, ha, hb, hn, hi, ho, hol, k⟩ := h
  refine ⟨_, pss_cons (ps_set (i := 3) scHd.nd rfl (.inl rfl) (pe_join pe_str (pv 1)))
    (pss_cons (ps_set (i := 4) scHd.nd rfl (.inl rfl) (pe_join pe_str (pe_lc (own := [("output", 5)]) (g := gName 5) rfl scHd.nd (pi_tup (pv 2)) (blkOk_by (own := [("output", 5)]) (N := nH) (sc := defScope sHead) (by decide +kernel)) (fun _ _ _ _ _ => pg_name (i := 5) scHd.nd rfl (Or.inl rfl)) (fun _ _ _ _ _ => pts_nil)
      (fun _ _ _ _ _ => pe_joined (.cons pe_str (.cons (pe_fmt (pv 5)) .nil))))))
    (pss_one (ps_ret (pe_joined (.cons pe_str (.cons (pe_fmt (pv 0)) (.cons pe_str (.cons (pe_fmt (pv 3)) (.cons pe_str (.cons (pe_fmt (pv 4)) (.cons pe_str .nil))))))))))), ?_⟩
  have sz : ∀ {n : Nat}, n ≤ 2000000 → n ≤ sizeLine := fun h => by rw [sizeLine_eq]; omega
  have e1 : ((" " : Str)).length = 1 := by decide +kernel
  have hsum := sum_lens ins
  refine ⟨⟨_, rfl⟩, _, rfl, _, a, ins, rfl, rfl, .inr ha, by rw [e1]; omega, ?_⟩
  refine ⟨⟨_, rfl⟩, _, rfl, b, rfl, ⟨_, hb⟩, fun D hD => ?_⟩
  refine lc_tup (K := K) (a := b) (xs := outs.map V.str) (te := fun σ H Q => tJs [tC (V.str " "), tFmt (tVar 5)] Str.empty σ H fun out H1 => Q (V.str out) H1) (fun i H' => Same H H' ∧ H' D = some (.lst (((outs.take i).map fun o => (" " : Str) ++ o).map V.str))) ⟨upd_new hD, upd_same⟩ (fun i H' _ p => ?_) ?_ ?_
  · rcases hb with (hb | ⟨o, hb⟩) | hb
    · exact .inl (.inl (p.1 _ _ hb))
    · exact .inl (.inr ⟨o, p.1 _ _ hb⟩)
    · exact .inr hb
  · rintro i v H1 hi' ⟨s1, a1⟩
    rw [List.getElem?_map] at hi'
    obtain ⟨x, hx, rfl⟩ := Option.map_eq_some_iff.mp hi'
    have hxl : x.length + 1 ≤ total outs := mem_total (List.mem_of_getElem? hx)
    have tk : outs.take (i + 1) = outs.take i ++ [x] := by rw [List.take_add_one, hx]; rfl
    refine ⟨rfl, " ", rfl, by rw [emp, e1]; exact sz (by omega), _, rfl, .inl ⟨x, rfl, sz (by omega), x, rfl, by rw [emp, sl, e1]; exact sz (by omega), ?_⟩⟩
    refine ⟨_, a1, by rw [List.length_map, List.length_map, List.length_take]; exact Nat.lt_of_le_of_lt (Nat.le_trans (Nat.min_le_right _ _) hol) (by rw [sizeLine_eq]; omega), same_put s1 hD, ?_⟩
    rw [upd_same, tk, emp]
    simp
  rintro H1 ⟨s1, a1⟩
  rw [List.take_of_length_le (by rw [List.length_map]; exact Nat.le_refl _)] at a1
  have z0 : (("" : Str)).length = 0 := by decide +kernel
  have hj1 := join_len " " ins
  have hj2 := join_len "" (outs.map fun o => (" " : Str) ++ o)
  rw [sum_more] at hj2
  rw [e1] at hj1
  have hj1 : (Txt.join " " ins).length ≤ total ins := hj1
  have hs : ((outs.map fun o => (" " : Str) ++ o).map (·.length)).sum = total outs := by
    have z := sum_more outs
    simp only [z0, Nat.add_zero] at z
    exact z
  refine ⟨"", D, outs.map fun o => (" " : Str) ++ o, rfl, rfl, .inl (.of a1), by rw [hs, z0]; omega, ?_⟩
  have l1 : (("block " : Str)).length = 6 := by decide +kernel
  have l2 : (("(" : Str)).length = 1 := by decide +kernel
  have l3 : ((";" : Str)).length = 1 := by decide +kernel
  have l4 : ((")" : Str)).length = 1 := by decide +kernel
  have kk := k H1 s1
  unfold headT at kk
  generalize Txt.join " " ins = before at hj1 kk ⊢
  generalize Txt.join "" (outs.map fun o => (" " : Str) ++ o) = behind at hj2 kk ⊢
  refine ⟨"block ", rfl, by rw [emp, l1]; exact sz (by omega), _, rfl, .inl ⟨name, rfl, sz (by omega), name, rfl, by rw [emp, sl, l1]; exact sz (by omega), "(", rfl, by rw [emp, sl, sl, l1, l2]; exact sz (by omega), _, rfl, .inl ⟨before, rfl, sz (by omega), before, rfl, by rw [emp, sl, sl, sl, l1, l2]; exact sz (by omega), ";", rfl, by rw [emp, sl, sl, sl, sl, l1, l2, l3]; exact sz (by omega), _, rfl,
    .inl ⟨behind, rfl, sz (by omega), behind, rfl, by rw [emp, sl, sl, sl, sl, sl, l1, l2, l3]; exact sz (by omega), ")", rfl, by rw [emp, sl, sl, sl, sl, sl, sl, l1, l2, l3, l4]; exact sz (by omega), ?_⟩⟩⟩⟩
  rw [emp]
  exact kk
end
end K28
/-! tuples whose objects are known to have no dict: tuple(l) makes them, their methods can be called -/
namespace Own
open PySem PySem.Spec PyProof.Rows L2
def IxT (H : Hp) (a : Addr) (xs : List V) : Prop := ∃ o : Obj, H a = some (.frz o (.tup xs)) ∧ o.cls = .type "tuple" ∧ o.dict = none
theorem IxT.sq {K : PySem.W.Frag} {H : Hp} {a : Addr} {xs : List V} (h : IxT H a xs) : SqT K H a xs := by
  obtain ⟨o, h, _⟩ := h
  exact .inl (.inr ⟨o, h⟩)
section
variable {X : Cx}
/-- tuple(l), l a list -/
def rTupIx (K : PySem.W.Frag) : List V → Hp → VK → Prop := fun xs H Q => ∃ p ys, xs = [.ref p] ∧ SqL K H p ys ∧ ∀ l o, H l = none → o.cls = .type "tuple" → o.dict = none → Q (.ref l) (upd H l (.frz o (.tup ys)))
theorem call_tuple_ix : CallR X (.type "tuple") (rTupIx X.K) := by
  intro pins s σ H xs us Q I r h
  obtain ⟨p, ys, rfl, hq, q⟩ := h
  obtain ⟨u, rfl, rx⟩ := vals1 r
  cases rx
  obtain ⟨its, r', pl, hz⟩ := I.list hq
  have hlen := r'.length
  refine call_tuple_list pl.isList (fun h' kp => ?_) (by simp only [List.size_toArray] <;> omega)
  have I1 : Inv X pins σ H { s with heap := h' } := I.kept (t' := s.toks) kp
  have I2 : Inv X pins σ (upd H h'.objs.size (.frz { cls := .type "tuple", data := .seq its.toArray } (.tup ys))) { s with heap := h'.push { cls := .type "tuple", data := .seq its.toArray } } :=
    I1.laid (t' := s.toks) (fun b o e => Heap.get?_push_of_some _ e) (Nat.le_refl _) (show ObjOk X.prog X.w _ _ _ (.frz _ (.tup ys)) from ⟨Heap.get?_push_size _ rfl, hz, its, r', IsTup.new _ _⟩)
  exact ⟨.ref h'.objs.size, _, I2, rfl, q _ _ (I1.hok.fresh (Nat.le_refl _)) rfl rfl⟩
theorem ix_ty {pins : List (Addr × Obj)} {σ : L2.St} {H : Hp} {s : Shared} {x : V} {v : Value} (I : Inv X pins σ H s) (r : RelV x v) (ty : ∃ a xs, x = .ref a ∧ IxT H a xs) :
    s.TypeIs v "tuple" ∧ ∀ a, v = .ref a → ∃ ob, s.heap.get? a = some ob ∧ ob.dict = none := by
  obtain ⟨a, xs, rfl, o, h, hc, hd⟩ := ty
  cases (show v = Value.ref a from r)
  obtain ⟨g, _⟩ := (show ObjOk X.prog X.w H s.heap a (.frz o (.tup xs)) from I.hok a _ h)
  exact ⟨⟨o, g, hc⟩, fun b e => by cases e; exact ⟨o, g, hd⟩⟩
def rTIx (K : PySem.W.Frag) : V → List V → Hp → VK → Prop := fun x xs H Q => ∃ p, ∃ ys : List Str, ∃ z j, x = .ref p ∧ xs = [.str z] ∧ SqT K H p (ys.map V.str) ∧ ys[j]? = some z ∧ (∀ m, m < j → ys[m]? ≠ some z) ∧ Q (.int (j : Nat)) H
theorem mt_tix : MtR X "tuple.index" (rTIx X.K) := mt_tup_index
def tTM (r : V → List V → Hp → VK → Prop) (to : TE) (t : TA) : TE := fun σ H Q => to σ H fun x H1 => (∃ a xs, x = .ref a ∧ IxT H1 a xs) ∧ t σ H1 fun xs H2 => r x xs H2 Q
theorem pe_tm {o e : Expr} {es : List Expr} {to : TE} {t : TA} {name : Str} {apos cpos : Pos} {id : String} {r : V → List V → Hp → VK → Prop} (slot : Slot "tuple" name id) (hty : typeOf (.builtin id) = pure (.type "method_descriptor")) (hm : MtR X id r) (ho : PE X o to) (ha : PA X (e :: es) t)
    (hbase : attributeBase o name X.env (eval o X.env) = eval o X.env := by rfl)
    (hfew : ((backTo cpos (starEach (e :: es) X.env)).all (fun x => !x.1) && (backToKw cpos (keywordEach [] X.env)).all (fun x => x.1.isSome)
      && decide ((e :: es).length + ([] : List Keyword).length + (if ([] : List Keyword).isEmpty then 0 else 1) < 30)) = true := by rfl)
    (hline : (apos.endLine == cpos.line) = true := by rfl) (hs : starEach (e :: es) X.env = (false, eval e X.env) :: starEach es X.env := by rfl) (hplain : (backTo cpos (starEach es X.env)).any (·.1) = false := by rfl) :
    PE X (.Call (.Attribute o name apos) (e :: es) [] cpos) (tTM r to t) := by
  refine ⟨fun pins s σ H Q I h => ?_⟩
  refine wpAny_Call_method_late hbase hfew hline rfl (thn (ho.run pins s σ H _ I h) fun v s1 ⟨x, H1, I1, r1, ty, q1⟩ => ?_)
  obtain ⟨h1, h2⟩ := ix_ty I1 r1 ty
  refine ⟨"tuple", id, PySem.F.plainAttrs_tuple, slot, hty, h1, h2, ?_⟩
  have hA := ha.run cpos pins s1 σ H1 _ I1 q1
  rw [hs] at hA ⊢
  refine Calls.callWith_builtin (by show (false || (backTo cpos (starEach es X.env)).any (·.1)) = false; rw [hplain] <;> rfl) (Calls.evalArgs_plain ?_)
  exact thn hA fun us s2 ⟨vs, H2, I2, r2, q2⟩ => hm pins s2 σ H2 x vs v us Q I2 r1 r2 q2
end
end Own
/-! tuples without a dict, made by displays, slices, sums, of a list, of a text; a dict against a text -/
namespace PySem.SeqAt
open AutoSeq1 (wpAny_loadPart')
open MeetsSeq
theorem dict_eq_declines_str (l : Addr) (es : Array DictEntry) (n : Nat) (dd : Option Addr) (sl : Array (Option Value)) (b : Str) (u : Tok) :
    Meets (Builtin.«dict.__eq__» ⟨[.ref l, .str b u], []⟩) (fun _ R s => s.heap.get? l = some { cls := .type "dict", dict := dd, data := .dict es n, slots := sl } ∧ R (.ok (.ret .notImplemented)) s) :=
  .of_wp fun prog w A R s h => by obtain ⟨hp, g, d, tk, os⟩ := s; obtain ⟨hl, h⟩ := h; have f1 := F.sub_str_dict; wp_walk using wpAny_loadPart' hl, wpAny_load hl; exact ⟨_, rfl, h⟩
theorem str_eq_declines_dict_str (b : Str) (u : Tok) (l : Addr) (es : Array DictEntry) (n : Nat) (dd : Option Addr) (sl : Array (Option Value)) :
    Meets (Builtin.«str.__eq__» ⟨[.str b u, .ref l], []⟩) (fun _ R s => s.heap.get? l = some { cls := .type "dict", dict := dd, data := .dict es n, slots := sl } ∧ R (.ok (.ret .notImplemented)) s) :=
  .of_wp fun prog w A R s h => by obtain ⟨hp, g, d, tk, os⟩ := s; obtain ⟨hl, h⟩ := h; wp_walk using wpAny_loadPart' hl, wpAny_load hl; exact ⟨_, rfl, h⟩
section
variable {A : Around} {s : Shared}
theorem RcAt.dict_str {l : Addr} {o : Obj} {es : Array DictEntry} {n : Nat} (b : Str) (u : Tok) (hl : s.heap.get? l = some o) (hc : o.cls = .type "dict") (hd : o.data = .dict es n) (hu : A.units < cLine) : RcAt A s (.ref l) (.str b u) false := fun prog w E Q h => by
  obtain ⟨cls, dd, data, sl⟩ := o
  simp only at hc hd
  subst hc hd
  exact rc_eq_decline_or (k := false) ⟨_, hl, rfl⟩ (typeIs_str s b u) (by decide) F.sub_str_dict F.slot_dict_eq F.slot_str_eq_refl
    (fun _ hq => call_meets F.slot_dict_eq ⟨_, hl, rfl⟩ F.entry_dict_eq (F.args_dict_eq_2 _ _) (dict_eq_declines_str l es n dd sl b u) ⟨hl, hq⟩)
    (fun _ hq => call_meets F.slot_str_eq_refl (typeIs_str s b u) F.entry_str_eq (F.args_str_eq_2 _ _) (str_eq_declines_dict_str b u l es n dd sl) ⟨hl, hq⟩)
    (fun _ hq => wpAny_of_eq (rfl : isSame (.ref l) (.str b u) = pure false) hq) (.inr hu) h
theorem EqAt.dict_str {l : Addr} {o : Obj} {es : Array DictEntry} {n : Nat} (b : Str) (u : Tok) (hl : s.heap.get? l = some o) (hc : o.cls = .type "dict") (hd : o.data = .dict es n) (hu : A.units < cLine) : EqAt A s (.ref l) (.str b u) false := fun prog w E Q h => by
  unfold eqBool
  refine wpAny_holding ?_
  refine wpAny_ite_split (fun hab => absurd (eq_of_beq hab) nofun) (fun _ => ?_)
  exact wpAny_bind (RcAt.dict_str b u hl hc hd hu prog w E _ (wpAny_truthy_bool h))
end
end PySem.SeqAt
namespace Own
open PySem PySem.Spec PyProof.Rows L2
/-! ### t[::-1] -/
section
open HT
variable {prog : Program} {w : World} {A : Around} {E : Value → Shared → Prop} {s : Shared}
theorem sliceApplied_back {sl : Addr} {t : Tok} {n : Nat} {Q : Int × Int × Nat → Shared → Prop} (hs : s.heap.IsSliceOf sl .none .none (.int (-1) t))
    (h : Q ((n : Int) - 1, -1, n) s) : wpAny (model prog w) A (Builtin.Slice.sliceApplied (.ref sl) (pure (n : Int))) Q E s := by
  obtain ⟨os, hos, hcs, hds⟩ := id hs
  unfold Builtin.Slice.sliceApplied Builtin.Slice.sliceFields
  refine wpAny_bind (wpAny_bind (wpAny_field hos hds (x := .none) rfl (wpAny_bind (wpAny_field hos hds (x := .none) rfl (wpAny_bind (wpAny_field hos hds (x := .int (-1) t) rfl (wpAny_pure ?_)))))))
  refine wpAny_bind (slicePart_int ?_)
  show wpAny _ _ (if ((-1 : Int) == 0) = true then _ else _) _ _ s
  rw [if_neg (by decide)]
  refine wpAny_bind (slicePart_none (wpAny_bind (slicePart_none (wpAny_bind (wpAny_pure ?_)))))
  show wpAny _ _ (pure ((n : Int) - 1, (-1 : Int), Builtin.Slice.slicePlaces ((n : Int) - 1) (-1) (-1))) _ _ s
  have e : Builtin.Slice.slicePlaces ((n : Int) - 1) (-1) (-1) = n := by
    unfold Builtin.Slice.slicePlaces
    have h1 : ¬ ((-1 : Int) > 0) := by decide
    simp only [h1, if_false]
    rw [show (- -1 : Int) = 1 by decide, Int.ediv_one]
    split <;> omega
  rw [e]
  exact wpAny_pure h
theorem pick_back (xs : Array Value) : ((List.range xs.size).filterMap fun (m : Nat) => xs[((xs.size : Int) - 1 + (m : Int) * -1).toNat]?).toArray = xs.toList.reverse.toArray := by
  have e : ((List.range xs.size).filterMap fun (m : Nat) => xs[((xs.size : Int) - 1 + (m : Int) * -1).toNat]?) = ((List.range xs.size).map fun k => xs.size - 1 - k).filterMap (xs[·]?) := by
    rw [List.filterMap_map]
    have z : ∀ l : List Nat, (∀ m ∈ l, m < xs.size) → (l.filterMap fun (m : Nat) => xs[((xs.size : Int) - 1 + (m : Int) * -1).toNat]?) = l.filterMap ((fun x => xs[x]?) ∘ fun k => xs.size - 1 - k) := by
      intro l
      induction l with
      | nil => exact fun _ => rfl
      | cons m r ih =>
        intro h
        have hm := h m List.mem_cons_self
        have e : ((xs.size : Int) - 1 + (m : Int) * -1).toNat = xs.size - 1 - m := by omega
        rw [List.filterMap_cons, List.filterMap_cons, e, ih fun k hk => h k (List.mem_cons_of_mem _ hk)]
        rfl
    exact z _ fun m hm => List.mem_range.mp hm
  rw [e, PySem.W.krv_range, List.filterMap_reverse, PySem.W.krv_all]
theorem getItem_tuple_back {t sl : Addr} {items : Array Value} {tk : Tok} {Q : Value → Shared → Prop} (ht : IsTup s.heap t items) (hs : s.heap.IsSliceOf sl .none .none (.int (-1) tk))
    (h : Q (.ref s.heap.objs.size) { s with heap := s.heap.push { cls := .type "tuple", data := .seq items.toList.reverse.toArray } })
    (hsz : items.size ≤ sizeLine) : wpAny (model prog w) A (getItem (.ref t) (.ref sl)) Q E s := by
  have htake : sizeOk (.seq items.toList.reverse.toArray) := by
    show items.toList.reverse.toArray.size ≤ sizeLine
    rw [List.size_toArray, List.length_reverse, Array.length_toList]
    omega
  obtain ⟨os, hos, hcs, hds⟩ := id hs
  have hTs : s.TypeIs (.ref sl) "slice" := ⟨os, hos, hcs⟩
  unfold getItem
  try with_reducible refine wpAny_holding ?_
  first | refine wpAny_bind (wpAny_pure ?_) | skip
  refine wpAny_bind (wpAny_sequenceKey ht.typeIs (by decide) ?_)
  refine wpAny_bind (wpAny_callSpecial?_slot (name := Str.ofString "__getitem__") ht.typeIs PyProof.Rows.slot_tuple_getitem
    (wpAny_call_entry PyProof.Rows.slot_tuple_getitem ht.typeIs entry_tuple_getitem ?_ (args_tuple_getitem _ _)))
  show wpAny _ _ (Builtin.Tuple.tupleItemsOf (.ref t) >>= _) _ _ s
  refine wpAny_bind (tupleItemsOf_ ht ?_)
  refine wpAny_bind (wpAny_typeOf hTs ?_)
  rw [if_pos (by decide)]
  refine wpAny_bind (sliceApplied_back hs ?_)
  have hno : ¬ ((((items.size : Int) - 1) == 0 && (-1 : Int) == 1 && items.size == items.size) = true) := by
    intro q
    rw [Bool.and_eq_true, Bool.and_eq_true] at q
    exact absurd q.1.2 (by decide)
  show wpAny _ _ (if ((((items.size : Int) - 1) == 0 && (-1 : Int) == 1 && items.size == items.size) = true) then _ else _) _ _ s
  rw [if_neg hno, pick_back]
  first
    | exact wpAny_bind (m := Builtin.Tuple.tupleExact _) (wpAny_newObj_type (wpAny_pure ⟨_, rfl, wpAny_pure h⟩) htake)
    | exact wpAny_bind (m := Builtin.Tuple.tupleExact _) (wpAny_newObj_type (wpAny_bind (wpAny_pure (wpAny_pure ⟨_, rfl, wpAny_pure h⟩))) htake)
    | exact wpAny_bind (wpAny_bind (m := Builtin.Tuple.tupleExact _) (wpAny_newObj_type (wpAny_pure (wpAny_pure ⟨_, rfl, wpAny_pure h⟩)) htake))
    | exact wpAny_bind (wpAny_bind (m := Builtin.Tuple.tupleExact _) (wpAny_newObj_type (wpAny_pure ⟨_, rfl, wpAny_pure h⟩) htake))
end
/-! ### the rules -/
/-- a tuple ys stands at some p, all else as before -/
def Got (H : Hp) (ys : List V) (Q : VK) : Prop := ∀ p H', Same H H' → IxT H' p ys → Q (.ref p) H'
theorem Got.here {H : Hp} {a : Addr} {ys : List V} {Q : VK} (g : Got H ys Q) (h : IxT H a ys) : Q (.ref a) H := g a H (Same.refl H) h
theorem Got.new {H : Hp} {p : Addr} {ys : List V} {o : Obj} {Q : VK} (g : Got H ys Q) (h : H p = none) (hc : o.cls = .type "tuple") (hd : o.dict = none) : Q (.ref p) (upd H p (.frz o (.tup ys))) :=
  g p _ (fun b u e => by rw [upd_ne (ne_of_none e h)]; exact e) ⟨o, upd_same, hc, hd⟩
section
variable {X : Cx} {es : List Expr} {t : TA} {pos : Pos}
theorem laidF {pins : List (Addr × Obj)} {σ : L2.St} {H : Hp} {s : Shared} {ys : List V} {us : List Value} {Q : VK} (I : Inv X pins σ H s) (r : Vals ys us) (hz : ys.length ≤ sizeLine) (q : Got H ys Q) :
    EP X pins σ Q (.ref s.heap.objs.size) { s with heap := s.heap.push { cls := .type "tuple", data := .seq us.toArray } } := by
  have I2 : Inv X pins σ (upd H s.heap.objs.size (.frz { cls := .type "tuple", data := .seq us.toArray } (.tup ys))) { s with heap := s.heap.push { cls := .type "tuple", data := .seq us.toArray } } :=
    I.laid (t' := s.toks) (fun b o e => Heap.get?_push_of_some _ e) (Nat.le_refl _) (show ObjOk X.prog X.w _ _ _ (.frz _ (.tup ys)) from ⟨Heap.get?_push_size _ rfl, hz, us, r, IsTup.new _ _⟩)
  exact ⟨.ref s.heap.objs.size, _, I2, rfl, q.new (I.hok.fresh (Nat.le_refl _)) rfl rfl⟩
def tTupF (t : TA) : TE := fun σ H Q => t σ H fun xs H1 => xs.length ≤ sizeLine ∧ Got H1 xs Q
theorem pe_tupF {x1} (h : PA X es t) : PE X (.Tuple es x1 pos) (tTupF t) := by
  refine ⟨fun pins s σ H Q I hq => ?_⟩
  refine wpAny_Tuple_spliced (thn (h.run pos pins s σ H _ I hq) fun us s1 ⟨xs, H1, I1, r, z, q⟩ => ⟨by rw [← r.length]; exact z, ?_⟩)
  exact laidF I1 r z q
/-- t[lo:hi] -/
def rSlF (K : PySem.W.Frag) : V → Option Int → Option Int → Hp → VK → Prop := fun x lo hi H Q => ∃ a xs, x = .ref a ∧ IxT H a xs ∧ Got H (cutV xs lo hi) Q
theorem cutV_whole {xs : List V} {lo hi : Option Int} (h : HT.sIx xs.length 0 lo = 0 ∧ HT.sIx xs.length xs.length hi = xs.length) : cutV xs lo hi = xs := by
  unfold cutV
  rw [h.1, h.2, List.drop_zero, Nat.sub_zero, List.take_length]
theorem sl_tupF : SlR X (rSlF X.K) := by
  intro pins s σ H x v vl vu lo hi sl Q I rx hs pl pu h
  obtain ⟨a, xs, rfl, hx, q⟩ := h
  cases rx
  obtain ⟨its, r, ht, hz⟩ := I.tuple hx.sq
  have hlen : its.toArray.size = xs.length := by rw [List.size_toArray]; exact r.length.symm
  refine ⟨"tuple", _, PyProof.Rows.slot_tuple_getitem.lookup, ht.typeIs, ?_⟩
  by_cases hw : HT.sIx xs.length 0 lo = 0 ∧ HT.sIx xs.length xs.length hi = xs.length
  · rw [cutV_whole hw] at q
    exact getItem_tuple_whole ht hs pl pu (by rw [hlen]; exact hw) ⟨.ref a, H, I, rfl, q.here hx⟩
  · refine HT.getItem_tuple_cut ht hs pl pu (by rw [hlen]; exact hw) ?_ (by rw [hlen]; exact hz)
    rw [hlen]
    exact laidF I ((r.drop (HT.sIx xs.length 0 lo)).take (HT.sIx xs.length xs.length hi - HT.sIx xs.length 0 lo)) (Nat.le_trans (cutV_length xs lo hi) hz) q
/-- t[::-1] -/
def tBackF (te : TE) : TE := fun σ H Q => te σ H fun x H1 => ∃ a xs, x = .ref a ∧ IxT H1 a xs ∧ Got H1 xs.reverse Q
theorem pe_backF {e : Expr} {te : TE} {p1 p2 p3 pos : Pos} {j : Nat} (he : PE X e te) : PE X (.Subscript e (.Slice none none (some (.UnaryOp .USub (.Constant (.int 1) j p1) p2)) p3) pos) (tBackF te) := by
  refine ⟨fun pins s σ H Q I h => ?_⟩
  refine Subscript_ (thn (he.run pins s σ H _ I h) fun v s1 ⟨x, H1, I1, r1, a, xs, ex, hx, q1⟩ => ?_)
  subst ex
  cases r1
  refine wpAny_Slice (thn (po_none.run pins s1 σ H1 (fun o H2 => o = none ∧ H2 = H1) I1 ⟨rfl, rfl⟩) fun vl s2 ⟨l, H2, I2, pl, el, e2⟩ => ?_)
  subst el e2
  refine thn (po_none.run pins s2 σ H2 (fun o H3 => o = none ∧ H3 = H2) I2 ⟨rfl, rfl⟩) fun vu s3 ⟨u, H3, I3, pu, eu, e3⟩ => ?_
  subst eu e3
  have hst : PO X (some (.UnaryOp .USub (.Constant (.int 1) j p1) p2)) (tPart (tUn (rU fun i => .int (-i)) (tC (.int 1)))) := po_some (pe_un un_neg pe_int)
  refine thn (hst.run pins s3 σ H3 (fun o H4 => o = some (-1) ∧ H4 = H3) I3 ⟨1, rfl, -1, rfl, rfl, rfl⟩) fun vs s4 ⟨o, H4, I4, ps, eo, e4⟩ => ?_
  subst eo e4
  cases pl
  cases pu
  obtain ⟨tk, rfl⟩ : ∃ tk, vs = Value.int (-1) tk := by cases ps; exact ⟨_, rfl⟩
  have I5 : Inv X pins σ H4 { s4 with heap := s4.heap.push { cls := .type "slice", data := .fields #[.none, .none, .int (-1) tk] } } := I4.kept (t' := s4.toks) fun b ob q => Heap.get?_push_of_some _ q
  obtain ⟨its, r, ht, hz⟩ := I5.tuple hx.sq
  have hlen := r.length
  show wpAny (model X.prog X.w) X.A (subscriptTail e (.Slice none none (some (.UnaryOp .USub (.Constant (.int 1) j p1) p2)) p3) (.ref a) (.ref s4.heap.objs.size)) (EP X pins σ Q) X.xe { s4 with heap := s4.heap.push { cls := .type "slice", data := .fields #[.none, .none, .int (-1) tk] } }
  refine tail_any (ops := [.ref a, .ref s4.heap.objs.size]) ht.typeIs (PyProof.Rows.slot_tuple_getitem.lookup) ?_ (by with_unfolding_all rfl)
  refine getItem_tuple_back ht (Heap.IsSliceOf.new _ .none .none (.int (-1) tk)) ?_ (by rw [List.size_toArray]; omega)
  exact laidF I5 r.reverse (by rw [List.length_reverse]; exact hz) q1
/-- t + u -/
def rCatF (K : PySem.W.Frag) : R2 := fun x y H Q => ∃ a b xs ys, x = .ref a ∧ y = .ref b ∧ IxT H a xs ∧ IxT H b ys ∧ xs.length + ys.length ≤ sizeLine ∧ Got H (xs ++ ys) Q
theorem op_catF : OpR X (binaryOp .Add) (rCatF X.K) := by
  intro pins s σ H x y v u Q I rx ry h
  obtain ⟨a, b, xs, ys, rfl, rfl, ha, hb, hz, q⟩ := h
  by_cases hx : xs = []
  · exact op_catA pins s σ H _ _ v u Q I rx ry ⟨a, b, xs, ys, rfl, rfl, ha.sq, hb.sq, hz, fun e => q.here (by rw [e]; exact hb), fun n => absurd hx n, fun n => absurd hx n⟩
  by_cases hy : ys = []
  · exact op_catA pins s σ H _ _ v u Q I rx ry ⟨a, b, xs, ys, rfl, rfl, ha.sq, hb.sq, hz, fun e => absurd e hx, fun _ e => q.here (by rw [e, List.append_nil]; exact ha), fun _ n => absurd hy n⟩
  cases rx
  cases ry
  obtain ⟨its, r1, p1, _⟩ := I.tuple ha.sq
  obtain ⟨its2, r2, p2, _⟩ := I.tuple hb.sq
  refine HT.cat_tup p1 p2 (fun z => hx (r1.nil_iff.mp z)) (fun z => absurd (r2.nil_iff.mp z) hy) (fun z => ?_) (by rw [← r1.length, ← r2.length]; exact hz)
  exact laidF I (r1.append r2) (by rw [List.length_append]; exact hz) q
/-- tuple(l), tuple(text) -/
def rTupL (K : PySem.W.Frag) : List V → Hp → VK → Prop := fun xs H Q => ∃ p ys, xs = [.ref p] ∧ SqL K H p ys ∧ Got H ys Q
theorem call_tupL : CallR X (.type "tuple") (rTupL X.K) := by
  intro pins s σ H xs us Q I r h
  obtain ⟨p, ys, rfl, hq, q⟩ := h
  exact call_tuple_ix pins s σ H _ us Q I r ⟨p, ys, rfl, hq, fun l o hl hc hd => q.new hl hc hd⟩
end
end Own
/-! OwnF: a field as a target (a.f, b.g = ..). -/
namespace Own
open PySem PySem.Spec PyProof.Rows L2
/-- o.f = .. as a target -/
def gFld (K : PySem.W.Frag) (f : Str) (ta : TE) : TG := fun v σ H Q => ta σ H fun x H1 => ∃ a C dx fs, x = .ref a ∧ H1 a = some (.ins C dx fs) ∧ Cls K C ∧ NoAttr K C f ∧ fs.length < 1000 ∧ Q σ (upd H1 a (.ins C dx (putF f v fs)))
theorem pg_fld {X : Cx} {o : Expr} {ta : TE} {f : Str} {pos : Pos} (ha : PE X o ta) : PG X (.Attribute o f pos) (gFld X.K f ta) := by
  refine ⟨fun pins s σ H v u Q I r h => ?_⟩
  rw [PySem.assign_Attribute]
  refine wpAny_bind (wpAny_holding (thn (ha.run pins s σ H _ I h) fun ov s1 ⟨x, H1, I1, rx, a, C, dx, fs, ex, ea, c, n, l, q⟩ => ?_))
  subst ex
  obtain rfl : ov = Value.ref a := rx
  exact wpAny_bind (wpAny_standAt (wpAny_bind (wpAny_holding (setattr_ok I1 ea c n l r fun s2 I2 => wpAny_release ⟨σ, _, I2, q⟩))))
end Own
/-! OwnG: the truth of a dict with tuple keys. -/
namespace Own
open PySem PySem.Spec PyProof.Rows L2
section
variable {prog : Program} {w : World} {K : Type} [DecidableEq K] {knd : HeapKind prog w K} {A : Around} {E : Value → Shared → Prop} {s : Shared}
theorem truth_dictH {d : Addr} {xs : List (K × Addr × Value)} {Q : Bool → Shared → Prop} (hd : (d == sysModules) = false) (dd : s.heap.DictOfH knd d xs) (fit : (xs.length : Int) < 2 ^ 63) (q : ∀ s', s' = { s with toks := s.toks + 1 + 1 } → Q (!xs.isEmpty) s') :
    wpAny (model prog w) A (truthy (.ref d)) Q E s := by
  have q := q _ rfl
  have ne : ((xs.length : Int) != 0) = !xs.isEmpty := by cases xs <;> simp <;> omega
  have tl : wpAny (model prog w) A (runValue (.builtin "len" ⟨[.ref d], []⟩)) (fun r t => r = .int xs.length (s.toks + 1) ∧ Q (!xs.isEmpty) t) E s := by
    refine wpAny_runValue (codeAny_builtin entry_len (by
      rw [Around.under_plainId plain_len _]
      refine wpAny_mono (wpAny_len_body_dictH (Q := fun r t => r = .int xs.length (s.toks + 1) ∧ Q (!xs.isEmpty) t) hd dd fit ⟨rfl, q⟩) (fun fin t z => ?_) fun _ _ e => e
      obtain ⟨r, rfl, z⟩ := z
      exact z))
  have ty := dd.typeIs
  unfold truthy
  first
    | refine wpAny_bind (wpAny_callSpecial?_none (name := Str.ofString "__bool__") ty noBool_dict ?_)
    | refine wpAny_bind (wpAny_pure (wpAny_bind (wpAny_callSpecial?_none (name := Str.ofString "__bool__") ty noBool_dict ?_)))
  first
    | refine wpAny_bind (wpAny_specialOf (name := Str.ofString "__len__") ty F.slot_dict_len.lookup ?_)
    | refine wpAny_bind (wpAny_pure (wpAny_bind (wpAny_specialOf (name := Str.ofString "__len__") ty F.slot_dict_len.lookup ?_)))
  first
    | exact wpAny_bind (wpAny_mono tl (fun r t z => by obtain ⟨rfl, z⟩ := z; exact wpAny_pure (ne ▸ z)) fun _ _ e => e)
    | exact wpAny_bind (wpAny_pure (wpAny_bind (wpAny_mono tl (fun r t z => by obtain ⟨rfl, z⟩ := z; exact wpAny_pure (ne ▸ z)) fun _ _ e => e)))
end
/-- not e, e a dict with tuple keys -/
def tNotW (ta : TE) : TE := fun σ H Q => ta σ H fun x H1 => ∃ (a : Addr) (kvs : List (List Key × V)), x = .ref a ∧ H1 a = some (.dT kvs) ∧ Q (.bl kvs.isEmpty) H1
theorem pe_notW {X : Cx} {a : Expr} {ta : TE} {pos : Pos} (ha : PE X a ta) : PE X (.UnaryOp .Not a pos) (tNotW ta) := by
  refine ⟨fun pins s σ H Q I h => ?_⟩
  refine UnaryOp_ (thn (ha.run pins s σ H _ I h) fun v s1 ⟨x, H1, I1, r1, p, kvs, ex, hp, q⟩ => ?_)
  subst ex
  obtain rfl : v = .ref p := r1
  obtain ⟨z, hd, ys, rel, dd⟩ := dt_of I1.hok hp
  have hl : kvs.length = ys.length := Paired.length rel
  have he : (!ys.isEmpty) = !kvs.isEmpty := by
    cases kvs <;> cases ys <;> first | rfl | (simp at hl)
  refine not_of (truth_dictH hd dd (by rw [← hl]; rw [sizeLine_eq] at z; omega) fun t et => ?_)
  rw [et, he]
  exact ⟨.bl (!(!kvs.isEmpty)), H1, I1.tok _, rfl, by rw [Bool.not_not]; exact q⟩
end Own
/-! OwnH: a walk whose turn is any statement of the heap; the second source of a comprehension. -/
namespace Own
open PySem PySem.Spec PyProof.Rows L2
theorem out_it {J : It} {n : Nat} {G : Hp → Prop} {Y : Nat → Hp → V → Hp → Prop} (w : Walk J n G Y) {S : Hp} {Qd : Hp → Prop} {B : (Hp → Prop) → V → Hp → Prop} (Pv : Nat → Hp → Prop) (h0 : Pv 0 S) (hG : ∀ i H, i ≤ n → Pv i H → G H)
    (hs : ∀ i x H H', i < n → Pv i H → Y i H x H' → B (Pv (i + 1)) x H') (hd : ∀ H, Pv n H → Qd H) :
    ∃ W : Nat → Nat → Hp → Prop, (∃ m, W 0 m S) ∧ ∀ i m H, W i m H → (J.stop i H ∧ Qd H) ∨ (J.go i H ∧ ∃ Nx : Hp → Prop, (∀ H', Nx H' → ∃ m', m' < m ∧ W (i + 1) m' H') ∧ ∀ x H', J.yld i H x H' → B Nx x H') := by
  refine ⟨fun i m H => m + i = n ∧ Pv i H, ⟨n, rfl, h0⟩, fun i m H hw => ?_⟩
  obtain ⟨hm, p⟩ := hw
  have hi : i ≤ n := by omega
  have q := hG i H hi p
  by_cases hlt : i < n
  · refine .inr ⟨w.goes i H hlt q, Pv (i + 1), fun H' p' => ⟨n - (i + 1), by omega, by omega, p'⟩, fun x H' y => ?_⟩
    exact hs i x H H' hlt p (w.yields i H x H' hlt q y)
  · have e : i = n := by omega
    subst e
    exact .inl ⟨w.stops H q, hd H p⟩
end Own
/-! OwnI: a def with the cell __class__ and cells of its own (parameters that a comprehension reads). -/
namespace Own
open PySem PySem.Spec PyProof.Rows L2 NdefX ClX StX
theorem cells_acc : ∀ (names : List (Str × NameKind)) (n : Nat) (acc : List (Str × Addr)), cellsFrom n names acc = cellsFrom n names [] ++ acc
  | [], _, _ => rfl
  | (x, k) :: r, n, acc => by
    unfold cellsFrom
    split
    · rw [cells_acc r (n + 1) ((x, n) :: acc), cells_acc r (n + 1) [(x, n)], List.append_assoc]
      rfl
    · exact cells_acc r n acc
section
variable {M : Model} {A : Around} {E : Value → Shared → Prop} {s₀ s : Shared} {m cm : Str → Option Value} {env : Env} {cs : List (Str × Addr)}
theorem put_local {n : Str} {v : Value} {Q : Unit → Shared → Prop} (x : InCallC s₀ env.locals m cs cm s) (hk : env.scope.kind = .function) (hl : env.kindOf n = some .local) (q : ∀ t, InCallC s₀ env.locals (fun y => if y = n then some v else m y) cs cm t → Q () t) :
    wpAny M A (storeName env n v) Q E s := by
  have old := x.toInCall.fresh
  obtain ⟨g, tk, es⟩ := x.toInCall.same
  refine wpAny_storeName_local hl x.toInCall.ns (fun h' hn sb => q _ ⟨⟨?_, hn, ?_, old⟩, ?_, x.apart, x.above⟩) (by rw [hk]; rfl)
  · rw [es]
    exact ⟨h', _, rfl⟩
  · intro b o e
    have lt := Nat.lt_of_lt_of_le (Heap.lt_size e) old
    exact sb.extBut b o (Nat.ne_of_lt lt) (x.toInCall.keep b o e)
  · intro k c e
    have ab := x.above k c (mem_of_lookup e)
    exact (x.cell k c e).sameBut sb (Nat.ne_of_gt ab)
theorem put_cell {n : Str} {c : Addr} {v : Value} {Q : Unit → Shared → Prop} (x : InCallC s₀ env.locals m cs cm s) (hk : env.scope.kind = .function) (hl : env.kindOf n = some .cell) (hc : env.cells.lookup n = some c) (hc' : cs.lookup n = some c)
    (q : ∀ t, InCallC s₀ env.locals m cs (fun y => if y = n then some v else cm y) t → Q () t) : wpAny M A (storeName env n v) Q E s := by
  have ab := x.above n c (mem_of_lookup hc')
  obtain ⟨g, tk, es⟩ := x.toInCall.same
  refine wpAny_storeName_cell hk hl hc (x.cell n c hc') fun h' hn sb => q _ ⟨⟨?_, ?_, ?_, x.toInCall.fresh⟩, ?_, x.apart, x.above⟩
  · rw [es]
    exact ⟨h', _, rfl⟩
  · exact x.toInCall.ns.sameBut sb (Nat.ne_of_lt ab)
  · intro b o e
    have lt := Nat.lt_trans (Nat.lt_of_lt_of_le (Heap.lt_size e) x.toInCall.fresh) ab
    exact sb.extBut b o (Nat.ne_of_lt lt) (x.toInCall.keep b o e)
  · intro k d e
    by_cases hkn : k = n
    · subst hkn
      rw [hc'] at e
      cases e
      rw [if_pos rfl]
      exact hn
    · rw [if_neg hkn]
      refine (x.cell k d e).sameBut sb fun z => ?_
      rw [z] at e
      exact hkn (name_of_addr x.apart (mem_of_lookup e) (mem_of_lookup hc'))
theorem put_all (f : Str × Value → PUnit → Sem (ForInStep PUnit)) (hf : ∀ n v u, f (n, v) u = (do storeName env n v; pure (.yield ⟨⟩))) (hk : env.scope.kind = .function) (sub : ∀ n c, cs.lookup n = some c → env.cells.lookup n = some c) :
    ∀ (bs : List (Str × Value)) (m cm : Str → Option Value) (s : Shared) (Q : PUnit → Shared → Prop), InCallC s₀ env.locals m cs cm s → (∀ x ∈ bs, env.kindOf x.1 = some .local ∨ (env.kindOf x.1 = some .cell ∧ ∃ c, cs.lookup x.1 = some c)) →
      (∀ t, InCallC s₀ env.locals (bindL env.kindOf bs m) cs (bindC env.kindOf bs cm) t → Q ⟨⟩ t) → wpAny M A (forIn bs ⟨⟩ f) Q E s
  | [], m, cm, s, Q, x, _, q => by
    rw [List.forIn_nil]
    exact wpAny_pure (q s x)
  | (n, v) :: r, m, cm, s, Q, x, kinds, q => by
    have tl : ∀ y ∈ r, env.kindOf y.1 = some .local ∨ (env.kindOf y.1 = some .cell ∧ ∃ c, cs.lookup y.1 = some c) := fun y hy => kinds y (List.mem_cons_of_mem _ hy)
    rw [List.forIn_cons, hf]
    rcases kinds (n, v) List.mem_cons_self with hl | ⟨hl, c, hc⟩
    · refine wpAny_bind (wpAny_bind (put_local x hk hl fun t y => wpAny_pure (put_all f hf hk sub r _ _ t Q y tl fun u z => q u ?_)))
      rw [show bindL env.kindOf ((n, v) :: r) m = _ from rfl, show bindC env.kindOf ((n, v) :: r) cm = _ from rfl]
      unfold bindL bindC
      rw [if_pos hl, if_pos hl]
      exact z
    · have nl : ¬ env.kindOf n = some .local := by rw [hl]; decide
      refine wpAny_bind (wpAny_bind (put_cell x hk hl (sub n c hc) hc fun t y => wpAny_pure (put_all f hf hk sub r _ _ t Q y tl fun u z => q u ?_)))
      unfold bindL bindC
      rw [if_neg nl, if_neg nl]
      exact z
end
theorem look_app {α : Type} : ∀ {l r : List (Str × α)} {n : Str} {c : α}, l.lookup n = some c → (l ++ r).lookup n = some c
  | (k, v) :: l, r, n, c, h => by
    rw [List.lookup_cons] at h
    rw [List.cons_append, List.lookup_cons]
    cases hb : n == k with
    | true => rw [hb] at h; exact h
    | false =>
      rw [hb] at h
      exact look_app h
/-- its names: the parameters, then __class__, then its locals; parameters may be cells -/
structure DScope (N ps : List Str) (sc : Scope) : Prop where
  kind : sc.kind = .function
  co : sc.isCoroutine = false
  gen : sc.isGenerator = false
  nd : N.Nodup
  pre : N.take (ps.length + 1) = ps ++ (["__class__"] : List Str)
  par : ∀ x ∈ ps, sc.names.lookup x = some .local ∨ sc.names.lookup x = some .cell
  free : ∀ y ∈ sc.names, y.2 = .free → y.1 = "__class__"
  frk : sc.names.lookup ("__class__" : Str) = some .free
  noc : ∀ y ∈ sc.names, y.2 = .cell → y.1 ≠ "__class__"
def dscB (N ps : List Str) (sc : Scope) : Bool :=
  decide (sc.kind = .function) && !sc.isCoroutine && !sc.isGenerator && decide N.Nodup && decide (N.take (ps.length + 1) = ps ++ (["__class__"] : List Str)) && ps.all (fun x => decide (sc.names.lookup x = some .local) || decide (sc.names.lookup x = some .cell)) && sc.names.all (fun y => !decide (y.2 = .free) || decide (y.1 = "__class__")) && decide (sc.names.lookup ("__class__" : Str) = some .free) && sc.names.all (fun y => !decide (y.2 = .cell) || decide (y.1 ≠ "__class__"))
theorem dscope_by {N ps : List Str} {sc : Scope} (h : dscB N ps sc = true) : DScope N ps sc := by
  unfold dscB at h
  simp only [Bool.and_eq_true, Bool.not_eq_true', decide_eq_true_eq, List.all_eq_true, Bool.or_eq_true, decide_eq_false_iff_not] at h
  obtain ⟨⟨⟨⟨⟨⟨⟨⟨h1, h2⟩, h3⟩, h4⟩, h5⟩, h6⟩, h7⟩, h8⟩, h9⟩ := h
  exact ⟨h1, h2, h3, h4, h5, h6, fun y hy e => (h7 y hy).elim (fun z => absurd e z) id, h8, fun y hy e => (h9 y hy).elim (fun z => absurd e z) id⟩
abbrev envD (F : NF) (f L : Addr) : Env := PySem.W.envX F.qual F.scope L f (.ref F.c) (cellsFrom (L + 1) F.scope.names [] ++ F.cl)
def dcx (CX : CXT) (P : Program) (w : World) (K : PySem.W.Frag) (mg : Str → Option Value) (base : Heap) (N : List Str) (F : NF) (f : Addr) (A : Around) (outer : List Env) (s : Shared) (H : Hp) (E : XK) : Cx :=
  { ncx CX P w K mg base N F f A outer s H E with A := A.deeper (envD F f s.heap.objs.size), env := envD F f s.heap.objs.size, stack := envD F f s.heap.objs.size :: outer, xe := fun e s' => wpAny (model P w) (A.deeper (envD F f s.heap.objs.size)) (leaving (envD F f s.heap.objs.size) e) (fun _ s'' => CX outer H s E e s'') (fun e' s'' => CX outer H s E e' s'') s' }
section
variable {CX : CXT} {P : Program} {w : World} {K : PySem.W.Frag} {mg : Str → Option Value} {base : Heap} {N ps : List Str} {F : NF} {f cc D : Addr} {A : Around} {outer : List Env} {s s1 : Shared} {H : Hp} {E : XK} {us : List Value} {vs : List V}
theorem inv_startD (S : DScope N ps F.scope) (hd : A.handled = none) (e0 : Env0 P w K mg base A outer s H) (hl : vs.length = ps.length) (r : Vals vs us) (hcl : F.cl = [(("__class__" : Str), cc)]) (hc0 : H cc = none) (hc1 : s.heap.IsCell cc (some (.ref D)))
    (x : InCallC s s.heap.objs.size (bindL (envD F f s.heap.objs.size).kindOf (ps.zip us) fun _ => none) (cellsFrom (s.heap.objs.size + 1) F.scope.names []) (bindC (envD F f s.heap.objs.size).kindOf (ps.zip us) fun _ => none) s1) :
    Inv (dcx CX P w K mg base N F f A outer s H E) [] (startF N vs [some (.ref D)]) H s1 := by
  have hpl : ps.length + 1 ≤ N.length := by
    have q := congrArg List.length S.pre
    rw [List.length_take, List.length_append] at q
    have : (["__class__"] : List Str).length = 1 := rfl
    omega
  obtain ⟨h1, tk, rfl, hk⟩ := x.done
  have noA : ∀ b : Addr, b ∉ (dcx CX P w K mg base N F f A outer s H E).ex := fun b z => absurd (show b ∈ ([] : List Addr) from z) (by simp)
  have ccell : h1.IsCell cc (some (.ref D)) := by
    obtain ⟨o, ho, hd⟩ := hc1
    exact ⟨o, hk _ _ ho, hd⟩
  have cclt : cc < s.heap.objs.size := by
    obtain ⟨o, ho, _⟩ := hc1
    exact Heap.lt_size ho
  -- the two kinds of cells
  have split : ∀ y c, (cellsFrom (s.heap.objs.size + 1) F.scope.names [] ++ F.cl).lookup y = some c → (cellsFrom (s.heap.objs.size + 1) F.scope.names []).lookup y = some c ∨ (y = "__class__" ∧ c = cc) := fun y c e => by
    rw [List.lookup_append] at e
    cases q : (cellsFrom (s.heap.objs.size + 1) F.scope.names []).lookup y with
    | some d =>
      rw [q] at e
      exact .inl e
    | none =>
      rw [q, hcl] at e
      have e : ([(("__class__" : Str), cc)] : List (Str × Addr)).lookup y = some c := e
      rw [List.lookup_cons] at e
      cases hb : y == ("__class__" : Str) with
      | true =>
        rw [hb] at e
        cases e
        exact .inr ⟨beq_iff_eq.mp hb, rfl⟩
      | false =>
        rw [hb] at e
        cases e
  have noown : (cellsFrom (s.heap.objs.size + 1) F.scope.names []).lookup ("__class__" : Str) = none := by
    cases q : (cellsFrom (s.heap.objs.size + 1) F.scope.names []).lookup ("__class__" : Str) with
    | none => rfl
    | some d =>
      exfalso
      have z : ∀ (names : List (Str × NameKind)) (n : Nat) (acc : List (Str × Addr)) (y : Str) (d : Addr), (y, d) ∈ cellsFrom n names acc → (y, d) ∈ acc ∨ (y, NameKind.cell) ∈ names := by
        intro names
        induction names with
        | nil => exact fun n acc y d h => .inl h
        | cons p r ih =>
          obtain ⟨a, k⟩ := p
          intro n acc y d h
          unfold cellsFrom at h
          split at h
          · rename_i hkc
            rcases ih _ _ _ _ h with q | q
            · rcases List.mem_cons.mp q with q | q
              · cases q
                exact .inr (by rw [eq_of_beq hkc]; exact List.mem_cons_self)
              · exact .inl q
            · exact .inr (List.mem_cons_of_mem _ q)
          · rcases ih _ _ _ _ h with q | q
            · exact .inl q
            · exact .inr (List.mem_cons_of_mem _ q)
      rcases z _ _ _ _ _ (mem_of_lookup q) with q | q
      · cases q
      · exact S.noc _ q rfl rfl
  have mine : (cellsFrom (s.heap.objs.size + 1) F.scope.names [] ++ F.cl).lookup ("__class__" : Str) = some cc := by
    rw [List.lookup_append, noown, hcl]
    simp [List.lookup]
  have ab : ∀ y c, (cellsFrom (s.heap.objs.size + 1) F.scope.names []).lookup y = some c → s.heap.objs.size < c := fun y c e => x.above y c (mem_of_lookup e)
  refine ⟨⟨e0.mod, S.kind, rfl, rfl, Nat.le_refl _, fun y z c e1 e2 => ?_, fun y hy => ?_, fun y c z _ => ?_, fun _ => hd, Around.frames_deeper e0.frames, .inr ⟨rfl, rfl⟩, fun b z => absurd z (noA b), e0.bs, e0.bsz, fun b _ _ => noA b, fun b z => absurd z (noA b), e0.funs, e0.frf⟩,
    rfl, e0.bare, Un.kept hk, ⟨_, x.toInCall.ns, fun i y v e1 e2 e3 => ?_⟩, fun y c e => ?_, e0.hok.fresh (Nat.le_refl _), fun y c e => ?_, fun p hp => absurd (show p ∈ ([] : List (Addr × Obj)) from hp) (by simp), e0.hok.kept hk, ?_⟩
  · rcases split y c e1 with q1 | ⟨q1, q2⟩ <;> rcases split z c e2 with p1 | ⟨p1, p2⟩
    · exact name_of_addr x.apart (mem_of_lookup q1) (mem_of_lookup p1)
    · have := ab _ _ q1
      rw [p2] at this
      exact absurd (Nat.lt_trans cclt this) (Nat.lt_irrefl _)
    · have := ab _ _ p1
      rw [q2] at this
      exact absurd (Nat.lt_trans cclt this) (Nat.lt_irrefl _)
    · rw [q1, p1]
  · have hy : F.scope.names.lookup y = some .cell ∨ F.scope.names.lookup y = some .free := hy
    rcases hy with hy | hy
    · obtain ⟨c, e⟩ := cell_has (n := s.heap.objs.size + 1) hy
      exact ⟨c, look_app e⟩
    · have e : y = "__class__" := S.free _ (mem_of_lookup hy) rfl
      exact ⟨cc, by rw [e]; exact mine⟩
  · have z : false = true := z
    cases z
  · have e1 : N[i]? = some y := e1
    unfold startF at e2
    by_cases h1 : i < ps.length
    · have hq : (ps ++ (["__class__"] : List Str))[i]? = some y := by
        rw [← S.pre, List.getElem?_take_of_lt (by omega)]
        exact e1
      rw [List.getElem?_append_left h1] at hq
      rw [List.getElem?_append_left (by rw [List.length_map]; omega), List.getElem?_map] at e2
      obtain ⟨a, ha, ea⟩ := Option.map_eq_some_iff.mp e2
      cases ea
      obtain ⟨u, hu, rv⟩ := r.get ha
      have ndP : ps.Nodup := by
        have q := S.nd.sublist (List.take_sublist (ps.length + 1) N)
        rw [S.pre] at q
        exact (List.nodup_append.mp q).1
      refine ⟨u, rv, ?_⟩
      rcases S.par y (List.mem_of_getElem? hq) with k | k
      · exact .inl ⟨k, bindL_get ndP hq hu k⟩
      · obtain ⟨c, e⟩ := cell_has (n := s.heap.objs.size + 1) k
        refine .inr ⟨.inl k, c, look_app e, ?_⟩
        have q := x.cell y c e
        rw [bindC_get ndP hq hu (by show F.scope.names.lookup y ≠ _; rw [k]; decide)] at q
        exact q
    · rw [List.getElem?_append_right (by rw [List.length_map]; omega), List.length_map, hl] at e2
      by_cases h2 : i = ps.length
      · have hq : (ps ++ (["__class__"] : List Str))[i]? = some y := by
          rw [← S.pre, List.getElem?_take_of_lt (by omega)]
          exact e1
        rw [h2, List.getElem?_append_right (Nat.le_refl _), Nat.sub_self] at hq
        rw [h2, Nat.sub_self] at e2
        cases hq
        cases e2
        exact ⟨.ref D, rfl, .inr ⟨.inr S.frk, cc, mine, ccell⟩⟩
      · obtain ⟨j, hj⟩ : ∃ j, i - ps.length = j + 1 := ⟨i - ps.length - 1, by omega⟩
        rw [hj, List.singleton_append, List.getElem?_cons_succ, List.getElem?_replicate] at e2
        split at e2 <;> cases e2
  · rcases split y c e with q | ⟨q1, q2⟩
    · exact ⟨_, x.cell y c q⟩
    · exact ⟨_, by rw [q2]; exact ccell⟩
  · rcases split y c e with q | ⟨q1, q2⟩
    · exact e0.hok.fresh (Nat.le_of_lt (ab y c q))
    · rw [q2]
      exact hc0
  · unfold startF
    show _ = N.length
    rw [List.length_append, List.length_append, List.length_map, List.length_replicate]
    have : ([some (.ref D)] : List (Option V)).length = 1 := rfl
    omega
theorem env_clo {M : Model} {B : Around} {E' : Value → Shared → Prop} {binds : List (Str × Value)} {Q : Env → Shared → Prop} (S : DScope N ps F.scope) (hkind : ∀ x ∈ binds, F.scope.names.lookup x.1 = some .local ∨ F.scope.names.lookup x.1 = some .cell)
    (q : ∀ t, InCallC s s.heap.objs.size (bindL (envD F f s.heap.objs.size).kindOf binds fun _ => none) (cellsFrom (s.heap.objs.size + 1) F.scope.names []) (bindC (envD F f s.heap.objs.size).kindOf binds fun _ => none) t → Q (envD F f s.heap.objs.size) t) :
    wpAny M B (newFunctionEnv F.scope mainGlobals F.cl binds (F.qual ++ ".<locals>.") (some f) (.ref F.c) none builtinsNs) Q E' s := by
  simp only [newFunctionEnv, Option.isSome_none, Bool.false_eq_true, if_false]
  refine wpAny_bind (wpAny_alloc (wpAny_bind (wpAny_layCells _ (fun name kind cells => by cases z : kind == NameKind.cell <;> simp [z]) _ _ _ _ ?_)))
  have cok := cellsFrom_ok F.scope.names (s.heap.push { cls := .type "frame", data := .dict #[] }) (s.heap.objs.size + 1) [] ⟨fun _ _ z => (nomatch z), List.Pairwise.nil⟩ (by rw [Heap.size_push]; exact Nat.le_refl _)
  have size : (s.heap.push { cls := .type "frame", data := .dict #[] }).objs.size = s.heap.objs.size + 1 := Heap.size_push ..
  rw [size] at cok
  rw [show ({ s with heap := s.heap.push { cls := .type "frame", data := .dict #[] } } : Shared).heap.objs.size = s.heap.objs.size + 1 from size, cells_acc]
  have start : InCallC s s.heap.objs.size (fun _ => none) (cellsFrom (s.heap.objs.size + 1) F.scope.names []) (fun _ => none) { s with heap := pushCells (s.heap.push { cls := .type "frame", data := .dict #[] }) F.scope.names } :=
    ⟨⟨⟨_, _, rfl⟩, (Heap.Ns.new s.heap (.type "frame")).keeps (pushCells_keeps _ _), fun b o e => pushCells_keeps _ _ b o (Heap.get?_push_of_some _ e), Nat.le_refl _⟩, fun n c e => (cok.empty n c (mem_of_lookup e)).1, cok.apart, fun n c e => (cok.empty n c e).2⟩
  refine wpAny_bind (put_all (s₀ := s) (env := envD F f s.heap.objs.size) (cs := cellsFrom (s.heap.objs.size + 1) F.scope.names []) _ (fun _ _ _ => rfl) S.kind (fun n c e => look_app e) binds (fun _ => none) (fun _ => none) _ _ start (fun y hy => ?_) fun t x => wpAny_pure (q t x))
  rcases hkind y hy with z | z
  · exact .inl z
  · exact .inr ⟨z, cell_has z⟩
theorem fnr_superC {k : Nat} {sp : Sp} {oc doc pm ct : Value} {od an : Option Addr} {osl : Array (Option Value)}
    (lk : K.lookup f = some ⟨oc, od, .func (PySem.W.fnX F.name F.qual F.params F.body F.scope F.cl .none .none doc pm an (.ref F.c) ct), osl⟩) (hcd : PySem.W.codeIn K (.ref F.c) F.qual = true) (hcl : F.cl = [(("__class__" : Str), cc)])
    (hcell : ∃ cl cld csl, K.lookup cc = some ⟨cl, cld, .cell (some (.ref D)), csl⟩) (S : DScope N ps F.scope)
    (hb : ∀ (us : List Value), us.length = ps.length → bindArgs (PySem.W.fnX F.name F.qual F.params F.body F.scope F.cl .none .none doc pm an (.ref F.c) ct) ⟨us, []⟩ = pure (ps.zip us))
    (len : ∀ vs H Q E, sp vs H Q E → vs.length = ps.length)
    (hbody : ∀ (A : Around) (outer : List Env) (s : Shared) (H : Hp) (vs : List V) (Q : VK) (E : XK), Room k (A.deeper (envD F f s.heap.objs.size)) → sp vs H Q E →
      ∃ t, PSA (dcx CX P w K mg base N F f A outer s H E) F.body F.body t ∧ t { nx := fun _ H' => Q .non H', rt := Q } (startF N vs [some (.ref D)]) H) :
    FnR P w K mg base CX (k + 1) f sp := by
  intro A outer s H us vs Q E hr e0 r hsp
  have hl := len _ _ _ _ hsp
  have KB : K.In base := e0.mod.kin
  have KX : K.In s.heap := KB.keeps fun b o e => (e0.bs b o e).1
  have lim : s.heap.NoLimit := e0.mod.nolimit.keeps fun b o e => (e0.bs b o e).1
  obtain ⟨cl, cld, csl, hc⟩ := hcell
  refine codeAny_call_function hr.depth (KX _ _ lk) rfl S.co S.gen rfl (PySem.W.codeRec_of KX hcd) ?_
  rw [hb us (by rw [← r.length]; exact hl)]
  refine wpAny_pure (env_clo (f := f) S (fun ⟨n, _⟩ hy => S.par n (List.of_mem_zip hy).1) fun s1 x => ⟨lim.keeps x.toInCall.keep, ?_⟩)
  show codeAny _ _ (.func F.body (envD F f s.heap.objs.size)) _ _
  refine PySem.ks_codeAny_funcAt ?_
  obtain ⟨t, ht, hq⟩ := hbody A outer s H vs Q E (hr.deeper _) hsp
  have I : Inv (dcx CX P w K mg base N F f A outer s H E) [] (startF N vs [some (.ref D)]) H s1 := inv_startD S hr.hd e0 hl r hcl (e0.bs _ _ (KB _ _ hc)).2 ⟨_, KX _ _ hc, rfl⟩ x
  refine PySem.ks_wpAt_mono (ht.run [] _ (startF N vs [some (.ref D)]) H _ I hq) (fun fl t hs => ?_) fun e t hs => hs
  have fin : ∀ {σ' : L2.St} {H' : Hp} {v : V} {u : Value}, Inv (dcx CX P w K mg base N F f A outer s H E) [] σ' H' t → L2.RelV v u → Q v H' → CE outer P w H s Q u t :=
    fun {σ' H' v u} J rv q => ⟨v, H', J.os, J.bare, J.base, J.hok, rv, q⟩
  cases fl with
  | next =>
    obtain ⟨σ', H', J, q⟩ := hs
    exact fin (v := V.non) (u := Value.none) J rfl q
  | ret u =>
    obtain ⟨v, σ', H', J, rv, q⟩ := hs
    exact fin J rv q
  | cont =>
    obtain ⟨_, _, _, q⟩ := hs
    exact False.elim q
  | brk =>
    obtain ⟨_, _, _, q⟩ := hs
    exact False.elim q
end
end Own
/-! OwnJ: sep.join(a text). -/
namespace Own
open PySem PySem.Spec PyProof.Rows L2
theorem strs_by : ∀ (vs : List Value) (ys : List Str), vs.length = ys.length → (∀ (i : Nat) (v : Value), vs[i]? = some v → ∃ (y : Str) (t : Tok), ys[i]? = some y ∧ v = .str y t) → StrsAre vs ys
  | [], [], _, _ => .nil
  | [], _ :: _, h, _ => by cases h
  | _ :: _, [], h, _ => by cases h
  | v :: vs, y :: ys, h, k => by
    obtain ⟨z, t, e1, e2⟩ := k 0 v rfl
    cases e1
    subst e2
    exact .cons y t (strs_by vs ys (Nat.succ.inj h) fun i v e => k (i + 1) v e)
def signsOf (y : Str) : List Str := y.cps.toList.map fun c => ⟨#[c]⟩
section
variable {prog : Program} {w : World} {A : Around} {E : Value → Shared → Prop} {s : Shared}
theorem join_signs {x y : Str} {t u : Tok} {Q : Value → Shared → Prop} (hh : A.handled = none) (hy : y.cps.size ≤ sizeLine) (hok : ((signsOf y).map (·.length)).sum + (signsOf y).length * x.length ≤ 16777216)
    (hq : ∀ s' : Shared, (∀ b o, s.heap.get? b = some o → s'.heap.get? b = some o) → s'.gens = s.gens → s'.drawn = s.drawn → s'.os = s.os → ∀ t' k, Q (.str (Txt.join x (signsOf y)) t') { s' with toks := k }) :
    wpAny (model prog w) A (call (.builtin "str.join") [.str x t, .str y u]) Q E s := by
  refine wpAny_call (codeAny_call_builtin F.slot_str_join.plain F.entry_str_join (F.slot_str_join.check _ _ _ _ _ _ _ _ (typeIs_str _ _ _) (F.args_str_join_2 _ _) ?_))
  show wpAny _ A.in1 (typeOf (.str y u) >>= fun ty => _) _ _ s
  refine wpAny_bind (wpAny_typeOf (T := "str") (v := .str y u) rfl ?_)
  show wpAny _ A.in1 ((pyIter (.str y u)).tryCatch _ >>= fun it => collect it >>= fun items => joinTail x items) _ _ s
  refine wpAny_bind (wpAny_tryCatch (wpAny_pyIter_strU ?_))
  have hI : ({ s with heap := s.heap.push { cls := .type (strIterType y), data := .fields #[.str y u, .int 0 0] } } : Shared).heap.IsStrIter s.heap.objs.size (strIterType y) y u 0 := ⟨_, Heap.get?_push_size _ rfl, rfl, rfl⟩
  have hT : strIterType y = "str_ascii_iterator" ∨ strIterType y = "str_iterator" := by
    unfold strIterType
    split
    · exact .inl rfl
    · exact .inr rfl
  refine wpAny_bind (wpAny_collect_strIter hh hT hI (fun s' acc k1 k2 k3 k4 items => ?_) hy)
  have hS : StrsAre acc.toList (signsOf y) := by
    refine strs_by _ _ ?_ fun i v e => ?_
    · unfold signsOf
      rw [List.length_map, Array.length_toList, Array.length_toList, items.1]
    · obtain ⟨c, q, e1, e2⟩ := items.2 i v (by rw [← Array.getElem?_toList]; exact e)
      refine ⟨⟨#[c]⟩, q, ?_, e2⟩
      unfold signsOf
      rw [List.getElem?_map, Array.getElem?_toList, e1]
      rfl
  obtain ⟨l, hl, ht⟩ := strsAre_values hS
  rw [hl]
  rw [← ht] at hok hq
  have ok := joinOk_of hok
  unfold JoinOk at ok
  rw [Bool.not_eq_true'] at ok
  have g : Gives (joinTail x (strValues l)) (joinMade x l) := by
    have z := gives_joinTail x l ok
    cases l with
    | nil => exact z
    | cons p r =>
      cases r with
      | nil => exact z
      | cons q r => exact z
  refine g prog w A (wants Q E) s' (post_join l ⟨joinFit_length ok, hq s' (fun b o e => k1 b o (Nat.ne_of_lt (Heap.lt_size e)) (Heap.get?_push_of_some _ e)) k2 k3 k4⟩)
end
/-- sep.join(y), y a text -/
theorem mt_joinS {X : Cx} (hh : X.A.handled = none) : MtR X "str.join" (fun x xs H Q => ∃ a y : Str, x = .str a ∧ xs = [.str y] ∧ y.cps.size ≤ 1000 ∧ a.length ≤ 1000 ∧ Q (.str (Txt.join a (signsOf y))) H) := by
  intro pins s σ H x xs v us Q I rx rs h
  obtain ⟨a, y, rfl, rfl, hy, ha, q⟩ := h
  obtain ⟨t, rfl⟩ := rx
  cases rs with
  | cons r1 rs =>
    cases rs
    obtain ⟨u, rfl⟩ := r1
    have hl : (signsOf y).length = y.cps.size := by unfold signsOf; rw [List.length_map, Array.length_toList]
    have hs : ((signsOf y).map (·.length)).sum ≤ (signsOf y).length * 1 := by
      unfold signsOf
      generalize y.cps.toList = l
      induction l with
      | nil => exact Nat.zero_le _
      | cons c r ih =>
        simp only [List.map_cons, List.sum_cons, List.length_cons]
        have : ((⟨#[c]⟩ : Str)).length = 1 := rfl
        omega
    refine join_signs hh (by rw [sizeLine_eq]; omega) ?_ fun s' k1 k2 k3 k4 t' k => ?_
    · have := Nat.mul_le_mul (show (signsOf y).length ≤ 1000 by omega) ha
      omega
    · obtain ⟨h', g', d', n', o'⟩ := s'
      have e2 : g' = s.gens := k2
      have e3 : d' = s.drawn := k3
      have e4 : o' = s.os := k4
      subst e2
      subst e3
      subst e4
      exact ⟨.str _, H, I.kept (t' := k) k1, ⟨t', rfl⟩, q⟩
theorem pe_joinS {X : Cx} {o e : Expr} {to te : TE} {apos pos : Pos} (hh : X.A.handled = none) (ho : PE X o to) (he : PE X e te) (hs : starEach [e] X.env = [(false, eval e X.env)] := by rfl) (hbase : attributeBase o "join" X.env (eval o X.env) = eval o X.env := by rfl) (hline : (apos.endLine == pos.line) = true := by rfl) :
    PE X (.Call (.Attribute o "join" apos) [e] [] pos) (tM1 (fun x xs H Q => ∃ a y : Str, x = .str a ∧ xs = [.str y] ∧ y.cps.size ≤ 1000 ∧ a.length ≤ 1000 ∧ Q (.str (Txt.join a (signsOf y))) H) to te) :=
  pe_m1 F.slot_str_join F.type_str_join (mt_joinS hh) ho he hs hbase hline
end Own
/-! OwnO: list(a text). -/
namespace Own
open PySem PySem.Spec PyProof.Rows L2
theorem call_list_text {X : Cx} (hc : X.calm = true) : CallR X (.type "list") (fun xs H Q => ∃ x : Str, xs = [.str x] ∧ x.length ≤ 1000 ∧ ∀ p, H p = none → Q (.ref p) (upd H p (.lst ((signsOf x).map V.str)))) := by
  intro pins s σ H xs us Q I r h
  obtain ⟨x, rfl, hx, q⟩ := h
  obtain ⟨u, rfl, ru⟩ := vals1 r
  obtain ⟨t, rfl⟩ := ru
  have hx2 : x.cps.size ≤ 1000 := hx
  refine call_list_str (I.ok.hd hc) x t (hn := by rw [sizeLine_eq]; omega) fun h' tk acc c k hS hacc => ?_
  have hA : StrsAre acc.toList (signsOf x) := by
    refine strs_by _ _ ?_ fun i v e => ?_
    · unfold signsOf
      rw [List.length_map, Array.length_toList, Array.length_toList, hacc.1]
    · obtain ⟨c, u, e1, e2⟩ := hacc.2 i v (by rw [← Array.getElem?_toList]; exact e)
      refine ⟨⟨#[c]⟩, u, ?_, e2⟩
      unfold signsOf
      rw [List.getElem?_map, Array.getElem?_toList, e1]
      rfl
  have len : ((signsOf x).map V.str).length ≤ sizeLine := by
    rw [List.length_map]
    unfold signsOf
    rw [List.length_map, Array.length_toList, sizeLine_eq]
    omega
  exact ⟨.ref _, upd H s.heap.objs.size (.lst ((signsOf x).map V.str)), I.laid (t' := tk) k (Nat.le_refl _) ⟨len, acc.toList, c, vals_of_strs hA, by rw [Array.toArray_toList]; exact hS⟩, rfl, q _ (I.hok.fresh (Nat.le_refl _))⟩
end Own
/-! any value: tuples without dicts, lists, dicts of texts and ints; reads of it, repr, in, == with texts -/
namespace Own
open PySem PySem.Spec PyProof.Rows L2
def SameX (a : Addr) (H H' : Hp) : Prop := ∀ b u, b ≠ a → H b = some u → H' b = some u
theorem SameX.of {a : Addr} {H1 H2 : Hp} (h : Same H1 H2) : SameX a H1 H2 := fun b u _ e => h b u e
theorem SameX.put {a : Addr} {H : Hp} {o : HO} : SameX a H (upd H a o) := fun b u n e => by rw [upd_ne n]; exact e
theorem SameX.trans {a : Addr} {H1 H2 H3 : Hp} (h : SameX a H1 H2) (k : SameX a H2 H3) : SameX a H1 H3 := fun b u n e => k b u n (h b u n e)
theorem SameX.new {a p : Addr} {o : HO} {H H1 : Hp} (h : SameX a H H1) (hn : H p = none) : SameX a H (upd H1 p o) := fun b u n e => by
  rw [upd_ne (ne_of_none e hn)]
  exact h b u n e
theorem SameX.refl (a : Addr) (H : Hp) : SameX a H H := fun _ _ _ e => e
theorem ixT_same {H H' : Hp} {a : Addr} {xs : List V} (e : Same H H') (h : IxT H a xs) : IxT H' a xs := by
  obtain ⟨o, h1, h2⟩ := h
  exact ⟨o, e _ _ h1, h2⟩
theorem ixT_sameX {N : Addr} {H H' : Hp} {a : Addr} {xs : List V} (e : SameX N H H') (n : a ≠ N) (h : IxT H a xs) : IxT H' a xs := by
  obtain ⟨o, h1, h2⟩ := h
  exact ⟨o, e _ _ n h1, h2⟩
theorem ixT_ne {N : Addr} {H : Hp} {a : Addr} {xs l : List V} (h : IxT H a xs) (e : H N = some (.lst l)) : a ≠ N := fun z => by
  obtain ⟨o, h1, _⟩ := h
  rw [z, e] at h1
  cases h1
/-- what stays, but at N -/
def SameN (N : List Addr) (H H' : Hp) : Prop := ∀ b u, b ∉ N → H b = some u → H' b = some u
theorem SameN.of {N : List Addr} {H1 H2 : Hp} (h : Same H1 H2) : SameN N H1 H2 := fun b u _ e => h b u e
theorem SameN.X {N : List Addr} {a : Addr} {H1 H2 : Hp} (m : a ∈ N) (h : SameX a H1 H2) : SameN N H1 H2 := fun b u n e => h b u (fun z => n (z ▸ m)) e
theorem ixT_sameN {N : List Addr} {H H' : Hp} {a : Addr} {xs : List V} (e : SameN N H H') (n : a ∉ N) (h : IxT H a xs) : IxT H' a xs := by
  obtain ⟨o, h1, h2⟩ := h
  exact ⟨o, e _ _ n h1, h2⟩
def kvH (kvs : List (Str × Int)) : HO := .dK (kvs.map fun p => (Sum.inr p.1, V.int p.2))
def kvD (kvs : List (Str × Int)) : PyData := .dict (kvs.map fun p => (PyData.str p.1, PyData.int p.2))
mutual
inductive Dq (N : List Addr) (H : Hp) : V → PyData → Prop where
  | non : Dq N H .non .none
  | bl (b : Bool) : Dq N H (.bl b) (.bool b)
  | int (i : Int) : Dq N H (.int i) (.int i)
  | str (x : Str) : Dq N H (.str x) (.str x)
  | lst {a : Addr} {xs : List V} {ds : List PyData} (n : a ∉ N) (m : a ≠ sysModules) (h : H a = some (.lst xs)) (t : DqAll N H xs ds) : Dq N H (.ref a) (.list ds)
  | tup {a : Addr} {xs : List V} {ds : List PyData} (n : a ∉ N) (h : IxT H a xs) (t : DqAll N H xs ds) : Dq N H (.ref a) (.tuple ds)
  | dic {a : Addr} {kvs : List (Str × Int)} {ds : List (PyData × PyData)} (n : a ∉ N) (h : H a = some (kvH kvs)) (e : PyData.dict ds = kvD kvs) : Dq N H (.ref a) (.dict ds)
inductive DqAll (N : List Addr) (H : Hp) : List V → List PyData → Prop where
  | nil : DqAll N H [] []
  | cons {x : V} {xs : List V} {d : PyData} {ds : List PyData} (h : Dq N H x d) (t : DqAll N H xs ds) : DqAll N H (x :: xs) (d :: ds)
end
mutual
theorem dq_X {N : List Addr} {H H' : Hp} (e : SameN N H H') : ∀ (d : PyData) (v : V), Dq N H v d → Dq N H' v d
  | .none, _, h => by cases h; exact .non
  | .bool b, _, h => by cases h; exact .bl b
  | .int i, _, h => by cases h; exact .int i
  | .str x, _, h => by cases h; exact .str x
  | .list ds, _, h => by
    cases h with
    | lst n m h1 h2 => exact .lst n m (e _ _ n h1) (dq_Xs e ds _ h2)
  | .tuple ds, _, h => by
    cases h with
    | tup n h1 h2 => exact .tup n (ixT_sameN e n h1) (dq_Xs e ds _ h2)
  | .dict kvs, _, h => by
    cases h with
    | dic n h1 h2 => exact .dic n (e _ _ n h1) h2
theorem dq_Xs {N : List Addr} {H H' : Hp} (e : SameN N H H') : ∀ (ds : List PyData) (vs : List V), DqAll N H vs ds → DqAll N H' vs ds
  | [], _, h => by cases h; exact .nil
  | d :: ds, _, h => by
    cases h with
    | cons h1 h2 => exact .cons (dq_X e d _ h1) (dq_Xs e ds _ h2)
end
theorem dq_same {N : List Addr} {H H' : Hp} (e : Same H H') {d : PyData} {v : V} (h : Dq N H v d) : Dq N H' v d := dq_X (.of e) d v h
theorem dq_sames {N : List Addr} {H H' : Hp} (e : Same H H') {d : List PyData} {v : List V} (h : DqAll N H v d) : DqAll N H' v d := dq_Xs (.of e) d v h
theorem DqAll.len {N : List Addr} {H : Hp} : ∀ {vs : List V} {ds : List PyData}, DqAll N H vs ds → vs.length = ds.length
  | _, _, .nil => rfl
  | _, _, .cons _ t => congrArg (· + 1) t.len
theorem DqAll.get {N : List Addr} {H : Hp} : ∀ {vs : List V} {ds : List PyData}, DqAll N H vs ds → ∀ (i : Nat) (v : V), vs[i]? = some v → ∃ d, ds[i]? = some d ∧ Dq N H v d
  | _, _, .nil, i, v, h => by simp at h
  | _, _, .cons h _, 0, v, e => by cases e; exact ⟨_, rfl, h⟩
  | _, _, .cons _ t, i + 1, v, e => by
    obtain ⟨d, h1, h2⟩ := t.get i v (by simpa using e)
    exact ⟨d, by simpa using h1, h2⟩
theorem DqAll.app {N : List Addr} {H : Hp} : ∀ {vs ws : List V} {ds es : List PyData}, DqAll N H vs ds → DqAll N H ws es → DqAll N H (vs ++ ws) (ds ++ es)
  | _, _, _, _, .nil, k => k
  | _, _, _, _, .cons h t, k => .cons h (t.app k)
theorem DqAll.tk {N : List Addr} {H : Hp} : ∀ {vs : List V} {ds : List PyData} (n : Nat), DqAll N H vs ds → DqAll N H (vs.take n) (ds.take n)
  | _, _, 0, _ => .nil
  | _, _, _ + 1, .nil => .nil
  | _, _, n + 1, .cons h t => .cons h (t.tk n)
theorem DqAll.dr {N : List Addr} {H : Hp} : ∀ {vs : List V} {ds : List PyData} (n : Nat), DqAll N H vs ds → DqAll N H (vs.drop n) (ds.drop n)
  | _, _, 0, k => k
  | _, _, _ + 1, .nil => .nil
  | _, _, n + 1, .cons h t => t.dr n
theorem DqAll.rv {N : List Addr} {H : Hp} : ∀ {vs : List V} {ds : List PyData}, DqAll N H vs ds → DqAll N H vs.reverse ds.reverse
  | _, _, .nil => .nil
  | _, _, .cons h t => by
    rw [List.reverse_cons, List.reverse_cons]
    exact t.rv.app (.cons h .nil)
theorem DqAll.st {N : List Addr} {H : Hp} {v : V} {d : PyData} (k : Dq N H v d) : ∀ {vs : List V} {ds : List PyData} (n : Nat), DqAll N H vs ds → DqAll N H (vs.set n v) (ds.set n d)
  | _, _, _, .nil => .nil
  | _, _, 0, .cons h t => .cons k t
  | _, _, n + 1, .cons h t => .cons h (t.st k n)
theorem dq_strs {N : List Addr} {H : Hp} : ∀ l : List Str, DqAll N H (l.map V.str) (l.map PyData.str)
  | [] => .nil
  | x :: r => .cons (.str x) (dq_strs r)
theorem strs_dq {N : List Addr} {H : Hp} : ∀ (l : List Str) (vs : List V), DqAll N H vs (l.map PyData.str) → vs = l.map V.str
  | [], _, h => by cases h; rfl
  | x :: r, _, h => by
    cases h with
    | cons h t =>
      cases h
      rw [strs_dq r _ t]
      rfl
def isStr : PyData → Bool
  | .str _ => true
  | _ => false
def isTup : PyData → Bool
  | .tuple _ => true
  | _ => false
/-- isinstance with str and tuple -/
theorem dq_ty {N : List Addr} {K : PySem.W.Frag} {H : Hp} {v : V} {d : PyData} (h : Dq N H v d) : ∃ t, TyX K H v t ∧ PySem.W.kitOne K t (.type "str") = some (isStr d) ∧ PySem.W.kitOne K t (.type "tuple") = some (isTup d) := by
  cases h with
  | non => exact ⟨_, .base .non, rfl, rfl⟩
  | bl b => exact ⟨_, .base (.bl b), rfl, rfl⟩
  | int i => exact ⟨_, .base (.int i), rfl, rfl⟩
  | str x => exact ⟨_, .base (.str x), rfl, rfl⟩
  | lst _ _ h1 _ => exact ⟨_, .base (.lst h1), rfl, rfl⟩
  | tup _ h1 _ =>
    obtain ⟨o, h1, _⟩ := h1
    exact ⟨_, .fTuple h1, rfl, rfl⟩
  | dic _ h1 _ => exact ⟨_, .base (.dK h1), rfl, rfl⟩
section
variable {X : Cx} {pins : List (Addr × Obj)} {σ : L2.St} {H : Hp} {s : Shared} {N : List Addr}
theorem kv_reads {P : Program} {w : World} (h : Heap) : ∀ (kvs : List (Str × Int)) (vs : List (Key × Value)) (es : List DictEntry), KV (kvs.map fun p => ((Sum.inr p.1 : Key), V.int p.2)) vs → Pairs (mixKind P w) es vs →
    ReadsAll h (es.map (·.key)) ((kvs.map fun p => (PyData.str p.1, PyData.int p.2)).map (·.1)) [] ∧ ReadsAll h (es.map (·.val)) ((kvs.map fun p => (PyData.str p.1, PyData.int p.2)).map (·.2)) []
  | [], _, _, r, p => by
    cases r
    cases p
    exact ⟨.nil, .nil⟩
  | (x, i) :: kvs, _, _, r, p => by
    cases r with
    | cons r1 rt =>
      cases p with
      | cons k1 v1 pt =>
        obtain ⟨a, b⟩ := kv_reads h kvs _ _ rt pt
        obtain ⟨e1, t, e2⟩ := r1
        rw [← e1] at k1
        have k2 : keyIs (Sum.inr x) _ = true := k1
        rcases keyIs_shape k2 with ⟨_, _, z, _⟩ | ⟨y, u, z, e3⟩
        · exact nomatch z
        · have z := Sum.inr.inj z
          subst z
          refine ⟨?_, ?_⟩
          · have q := ReadsAll.cons (Reads.str (h := h) x u) a
            rw [← e3] at q
            exact q
          · have q := ReadsAll.cons (Reads.int (h := h) i t) b
            rw [← e2, ← v1] at q
            exact q
mutual
theorem Dq.reads (I : Inv X pins σ H s) : ∀ (d : PyData) (v : V) (u : Value), Dq N H v d → RelV v u → ∃ as, Reads s.heap u d as ∧ sysModules ∉ as
  | .none, _, _, h, r => by
    cases h
    cases r
    exact ⟨_, Reads.none, List.not_mem_nil⟩
  | .bool b, _, _, h, r => by
    cases h
    cases r
    exact ⟨_, Reads.bool b, List.not_mem_nil⟩
  | .int i, _, _, h, r => by
    cases h
    obtain ⟨t, rfl⟩ := r
    exact ⟨_, Reads.int i t, List.not_mem_nil⟩
  | .str x, _, _, h, r => by
    cases h
    obtain ⟨t, rfl⟩ := r
    exact ⟨_, Reads.str x t, List.not_mem_nil⟩
  | .list ds, _, _, h, r => by
    cases h with
    | lst _ m hs ha =>
      cases r
      obtain ⟨its, rv, ⟨o, n, ho, hc, _, hd⟩, _⟩ := I.list (.of hs)
      obtain ⟨as, hr, hn⟩ := Dq.readsAll I ds _ its ha rv
      exact ⟨_, Reads.list ho hc hd hr, fun z => (List.mem_cons.mp z).elim (fun e => m e.symm) hn⟩
  | .tuple ds, _, _, h, r => by
    cases h with
    | tup _ hs ha =>
      cases r
      obtain ⟨its, rv, ⟨o, ho, hc, n, hd⟩, _⟩ := I.tuple hs.sq
      obtain ⟨as, hr, hn⟩ := Dq.readsAll I ds _ its ha rv
      exact ⟨_, Reads.tuple ho hc hd hr, hn⟩
  | .dict _, _, _, h, r => by
    cases h with
    | @dic a kvs _ _ hs e =>
      cases r
      obtain ⟨_, hm, vs, kv, o, es, ep, ho, hx, hd, _, hp, _⟩ := dk_of I.hok hs
      obtain ⟨q1, q2⟩ := kv_reads s.heap kvs vs es.toList kv hp
      rw [show PyData.dict _ = kvD kvs from e]
      refine ⟨_, Reads.dict ho hx.1 hd q1 q2, ?_⟩
      intro z
      have z : sysModules = a := by simpa using z
      rw [z] at hm
      exact absurd hm (by simp)
theorem Dq.readsAll (I : Inv X pins σ H s) : ∀ (ds : List PyData) (vs : List V) (us : List Value), DqAll N H vs ds → Vals vs us → ∃ as, ReadsAll s.heap us ds as ∧ sysModules ∉ as
  | [], _, _, h, r => by
    cases h
    cases r
    exact ⟨_, ReadsAll.nil, List.not_mem_nil⟩
  | d :: ds, _, _, h, r => by
    cases h with
    | cons h1 h2 =>
      cases r with
      | cons r1 r2 =>
        obtain ⟨as, q1, n1⟩ := Dq.reads I d _ _ h1 r1
        obtain ⟨bs, q2, n2⟩ := Dq.readsAll I ds _ _ h2 r2
        exact ⟨_, ReadsAll.cons q1 q2, fun z => (List.mem_append.mp z).elim n1 n2⟩
end
end
section
variable {X : Cx}
/-- repr -/
theorem call_reprQ (hg : X.A.guards = some []) (hu : X.A.units + 64 < cLine) : CallR X (.builtin "repr") (fun xs H Q => ∃ (N : List Addr) (a : Addr) (d : PyData), xs = [.ref a] ∧ Dq N H (.ref a) d ∧ d.showable = true ∧ d.depth ≤ 60 ∧ d.shown.length ≤ sizeLine ∧ Q (.str d.shown) H) := by
  intro pins s σ H xs us Q I r h
  obtain ⟨N, a, d, rfl, hd, hs, h60, hz, q⟩ := h
  obtain ⟨u, rfl, ru⟩ := vals1 r
  have hu' : u = .ref a := ru
  subst hu'
  obtain ⟨as, rd, hn⟩ := Dq.reads I d _ _ hd rfl
  exact repr_of_reads' rd hs (fun _ => hn) hg (by omega) (fun _ _ e => e) (fun h' u tk hk => ⟨.str d.shown, H, I.kept hk, ⟨u, rfl⟩, q⟩) hz
/-- an element against a text -/
def isS (z : Str) : PyData → Bool
  | .str x => x == z
  | _ => false
def isSv (z : Str) : Value → Bool
  | .str x _ => x == z
  | _ => false
theorem dq_eqS {N : List Addr} {pins : List (Addr × Obj)} {σ : L2.St} {H : Hp} {s : Shared} (I : Inv X pins σ H s) {A : Around} (hu : A.units < cLine) {v : V} {u : Value} {d : PyData} (z : Str) (t : Tok) (h : Dq N H v d) (r : RelV v u) :
    SeqAt.EqAt A s u (.str z t) (isS z d) ∧ isSv z u = isS z d := by
  cases h with
  | non => cases r; exact ⟨SeqAt.EqAt.none_str z t, rfl⟩
  | bl b => cases r; exact ⟨SeqAt.EqAt.bool_str b z t, rfl⟩
  | int i => obtain ⟨t', rfl⟩ := r; exact ⟨SeqAt.EqAt.int_str i t' z t, rfl⟩
  | str x => obtain ⟨t', rfl⟩ := r; exact ⟨SeqAt.EqAt.str_str x t' z t, rfl⟩
  | lst _ _ h1 _ =>
    cases r
    obtain ⟨its, rv, pl, _⟩ := I.list (.of h1)
    exact ⟨SeqAt.EqAt.list_str z t pl.isList hu, rfl⟩
  | tup _ h1 _ =>
    cases r
    obtain ⟨its, rv, pl, _⟩ := I.tuple h1.sq
    exact ⟨SeqAt.EqAt.tuple_str z t pl hu, rfl⟩
  | @dic a kvs _ _ h1 _ =>
    cases r
    obtain ⟨_, hm, vs, kv, o, es, ep, ho, hx, hd, _, hp, _⟩ := dk_of I.hok h1
    exact ⟨SeqAt.EqAt.dict_str z t ho hx.1 hd hu, rfl⟩
theorem dq_anyS {N : List Addr} {pins : List (Addr × Obj)} {σ : L2.St} {H : Hp} {s : Shared} (I : Inv X pins σ H s) {A : Around} (hu : A.units < cLine) (z : Str) (t : Tok) : ∀ {vs : List V} {us : List Value} {ds : List PyData}, DqAll N H vs ds → Vals vs us →
    (∀ u ∈ us, SeqAt.EqAt A s u (.str z t) (isSv z u)) ∧ us.any (isSv z) = ds.any (isS z)
  | _, _, _, .nil, r => by
    cases r
    exact ⟨fun _ h => (by cases h), rfl⟩
  | _, _, _, .cons h ht, r => by
    cases r with
    | cons r1 r2 =>
      obtain ⟨a, b⟩ := dq_anyS I hu z t ht r2
      obtain ⟨c, d⟩ := dq_eqS I hu z t h r1
      refine ⟨fun u hm => ?_, by rw [List.any_cons, List.any_cons, b, d]⟩
      rcases List.mem_cons.mp hm with rfl | hm
      · rw [d]; exact c
      · exact a u hm
def rInD (K : PySem.W.Frag) : R2 := fun x y H Q => ∃ N z a xs ds, x = .str z ∧ y = .ref a ∧ IxT H a xs ∧ DqAll N H xs ds ∧ Q (.bl (ds.any (isS z))) H
theorem op_inD (hu : X.A.units + 1 < cLine) : OpR X (compareOp .In) (rInD X.K) := by
  intro pins s σ H x y v u Q I rx ry h
  obtain ⟨N, z, a, xs, ds, rfl, rfl, hx, hd, q⟩ := h
  cases ry
  obtain ⟨t, rfl⟩ := rx
  obtain ⟨its, r, pl, hz⟩ := I.tuple hx.sq
  obtain ⟨q1, q2⟩ := dq_anyS (A := X.A.in1) I hu z t hd r
  refine SeqAt.in_tupleAt (isSv z) pl (fun w hw => q1 w (by simpa using hw)) ⟨.bl _, H, I, rfl, ?_⟩
  rw [show its.toArray.any (isSv z) = its.any (isSv z) by simp, q2]
  exact q
def eqSs : List PyData → List Str → Bool
  | [], [] => true
  | d :: ds, n :: ns => isS n d && eqSs ds ns
  | _, _ => false
theorem isS_iff {n : Str} {d : PyData} : isS n d = true ↔ d = .str n := by
  cases d with
  | str x =>
    show (x == n) = true ↔ _
    rw [beq_iff_eq]
    exact ⟨fun e => by rw [e], fun e => PyData.str.inj e⟩
  | _ => exact ⟨fun z => (by cases z), fun z => (by cases z)⟩
theorem eqSs_iff : ∀ {ds : List PyData} {ns : List Str}, eqSs ds ns = true ↔ ds = ns.map PyData.str
  | [], [] => ⟨fun _ => rfl, fun _ => rfl⟩
  | [], _ :: _ => ⟨fun z => (by cases z), fun z => (by cases z)⟩
  | _ :: _, [] => ⟨fun z => (by cases z), fun z => (by cases z)⟩
  | d :: ds, n :: ns => by
    show (isS n d && eqSs ds ns) = true ↔ d :: ds = .str n :: ns.map PyData.str
    rw [Bool.and_eq_true, isS_iff, eqSs_iff, List.cons.injEq]
theorem eqSs_len : ∀ {ds : List PyData} {ns : List Str}, ds.length ≠ ns.length → eqSs ds ns = false := fun {ds ns} h => by
  cases e : eqSs ds ns with
  | false => rfl
  | true => exact absurd (by rw [eqSs_iff.mp e, List.length_map]) h
/-- a list of any values == a list of texts -/
def rEqLS (K : PySem.W.Frag) : R2 := fun x y H Q => ∃ N a b xs ds, ∃ ns : List Str, x = .ref a ∧ y = .ref b ∧ H a = some (.lst xs) ∧ DqAll N H xs ds ∧ H b = some (.lst (ns.map V.str)) ∧ Q (.bl (eqSs ds ns)) H
theorem strsOf {ns : List Str} : ∀ {us : List Value}, Vals (ns.map V.str) us → us.length = ns.length ∧ ∀ (j : Nat) (x : Str), ns[j]? = some x → ∃ t, us[j]? = some (.str x t) := by
  intro us r
  refine ⟨by have := r.length; rw [List.length_map] at this; exact this.symm, fun j x h => ?_⟩
  obtain ⟨u, h1, t, e⟩ := Vals.get (i := j) (x := V.str x) r (by rw [List.getElem?_map, h]; rfl)
  subst e
  exact ⟨t, h1⟩
theorem all_eqS : ∀ (ds : List PyData) (ns : List Str), ds.length = ns.length → (List.range ds.length).all (fun j => isS (ns.getD j Str.empty) (ds.getD j .none)) = eqSs ds ns
  | [], [], _ => rfl
  | [], _ :: _, h => nomatch h
  | _ :: _, [], h => nomatch h
  | d :: ds, n :: ns, h => by
    have ih := all_eqS ds ns (Nat.succ.inj h)
    rw [List.length_cons, List.range_succ_eq_map, List.all_cons, List.all_map]
    have e : ((fun j => isS ((n :: ns).getD j Str.empty) ((d :: ds).getD j .none)) ∘ Nat.succ) = fun j => isS (ns.getD j Str.empty) (ds.getD j .none) := by
      funext j
      rfl
    rw [e, ih]
    rfl
theorem op_eqLS (hu : X.A.units + 1 < cLine) : OpR X (compareOp .Eq) (rEqLS X.K) := by
  intro pins s σ H x y v u Q I rx ry h
  obtain ⟨N, a, b, xs, ds, ns, rfl, rfl, ha, hd, hb, q⟩ := h
  cases rx
  cases ry
  obtain ⟨its, r1, p1, _⟩ := I.list (.of ha)
  obtain ⟨its2, r2, p2, _⟩ := I.list (.of hb)
  have l1 : its.length = ds.length := by rw [← r1.length, hd.len]
  obtain ⟨l2, g2⟩ := strsOf r2
  have hu0 : X.A.units < cLine := by omega
  by_cases hl : ds.length = ns.length
  · have hsz : its.toArray.size = its2.toArray.size := by rw [List.size_toArray, List.size_toArray, l1, l2, hl]
    have rc : SeqAt.RcAt X.A s (.ref a) (.ref b) ((List.range its.toArray.size).all (fun j => isS (ns.getD j Str.empty) (ds.getD j .none))) := SeqAt.RcAt.lists p1.isList p2.isList hsz hu0 fun j j1 j2 => by
      have k1 : j < its.length := by simpa using j1
      have k2 : j < its2.length := by simpa using j2
      have kn : j < ns.length := by omega
      have kx : j < xs.length := by rw [hd.len]; omega
      obtain ⟨t, e2⟩ := g2 j _ (List.getElem?_eq_getElem kn)
      obtain ⟨d, e3, dq⟩ := hd.get j _ (List.getElem?_eq_getElem kx)
      obtain ⟨u1, e1, rr⟩ := Vals.get (i := j) r1 (List.getElem?_eq_getElem kx)
      have z1 : its.toArray[j] = u1 := by
        have : its[j]? = some its[j] := List.getElem?_eq_getElem k1
        rw [e1] at this
        simpa using (Option.some.inj this).symm
      have z2 : its2.toArray[j] = .str ns[j] t := by
        have : its2[j]? = some its2[j] := List.getElem?_eq_getElem k2
        rw [e2] at this
        simpa using (Option.some.inj this).symm
      rw [z1, z2, List.getD_eq_getElem?_getD, List.getElem?_eq_getElem kn, List.getD_eq_getElem?_getD, e3]
      exact (dq_eqS (A := X.A.in1) I hu ns[j] t dq rr).1
    refine rc X.prog X.w X.xe _ ⟨.bl _, H, I, rfl, ?_⟩
    rw [List.size_toArray, l1, all_eqS ds ns hl]
    exact q
  · have rc : SeqAt.RcAt X.A s (.ref a) (.ref b) false := SeqAt.RcAt.lists_lengths p1.isList p2.isList (by
      rw [List.size_toArray, List.size_toArray, l1, l2]
      exact bne_iff_ne.mpr hl) hu0
    refine rc X.prog X.w X.xe _ ⟨.bl _, H, I, rfl, ?_⟩
    rw [eqSs_len hl] at q
    exact q
/-! ### new lists that are no sys.modules -/
def tLstN (t : TA) : TE := fun σ H Q => t σ H fun xs H1 => xs.length ≤ sizeLine ∧ ∀ p, H1 p = none → p ≠ sysModules → Q (.ref p) (upd H1 p (.lst xs))
theorem pe_lstN {es : List Expr} {t : TA} {pos : Pos} (h : PA X es t) : PE X (.List es pos) (tLstN t) := by
  refine ⟨fun pins s σ H Q I hq => ?_⟩
  refine wpAny_List_spliced (thn (h.run pos pins s σ H _ I hq) fun us s1 ⟨xs, H1, I1, r, z, q⟩ => ⟨by rw [← r.length]; exact z, ?_⟩)
  have hf : H1 s1.heap.objs.size = none := I1.hok.fresh (Nat.le_refl _)
  refine ⟨.ref s1.heap.objs.size, upd H1 s1.heap.objs.size (.lst xs), I1.laid (t' := s1.toks) (fun b u e => Heap.get?_push_of_some _ e) (Nat.le_refl _) ?_, rfl, q _ hf (Nat.ne_of_gt I1.big)⟩
  exact ⟨z, us, 0, r, Heap.get?_push_size _ rfl⟩
def rListN (K : PySem.W.Frag) : List V → Hp → VK → Prop := fun xs H Q => ∃ p ys, xs = [.ref p] ∧ SqT K H p ys ∧ ∀ l, H l = none → l ≠ sysModules → Q (.ref l) (upd H l (.lst ys))
theorem call_listN : CallR X (.type "list") (rListN X.K) := by
  intro pins s σ H xs us Q I r h
  obtain ⟨p, ys, rfl, hq, q⟩ := h
  obtain ⟨u, rfl, rx⟩ := vals1 r
  cases rx
  obtain ⟨its, r', pl, hz⟩ := I.tuple hq
  have hlen := r'.length
  obtain ⟨o, ho, hc, n, hd⟩ := pl
  exact call_list_seq p (.inr rfl) ho hc hd (fun h' c' kp e => 
    ⟨.ref s.heap.objs.size, _, I.laid (t' := s.toks) kp (Nat.le_refl _) (show ObjOk X.prog X.w _ h' _ (.lst ys) from ⟨hz, its, c', r', e⟩), rfl, q _ (I.hok.fresh (Nat.le_refl _)) (Nat.ne_of_gt I.big)⟩) (by simp only [List.size_toArray] <;> omega)
/-- tuple(text) -/
def rTupS : List V → Hp → VK → Prop := fun xs H Q => ∃ x : Str, xs = [.str x] ∧ x.length ≤ 1000 ∧ Got H ((signsOf x).map V.str) Q
theorem call_tupS (hc : X.calm = true) : CallR X (.type "tuple") rTupS := by
  intro pins s σ H xs us Q I r h
  obtain ⟨x, rfl, hx, q⟩ := h
  obtain ⟨u, rfl, ru⟩ := vals1 r
  obtain ⟨t, rfl⟩ := ru
  have hx2 : x.cps.size ≤ 1000 := hx
  refine call_tuple_str (I.ok.hd hc) x t (hsz := by rw [sizeLine_eq]; omega) fun h' tk acc k hacc => ?_
  have hA : StrsAre acc.toList (signsOf x) := by
    refine strs_by _ _ ?_ fun i v e => ?_
    · unfold signsOf
      rw [List.length_map, Array.length_toList, Array.length_toList, hacc.1]
    · obtain ⟨c, u, e1, e2⟩ := hacc.2 i v (by rw [← Array.getElem?_toList]; exact e)
      refine ⟨⟨#[c]⟩, u, ?_, e2⟩
      unfold signsOf
      rw [List.getElem?_map, Array.getElem?_toList, e1]
      rfl
  have len : ((signsOf x).map V.str).length ≤ sizeLine := by
    rw [List.length_map]
    unfold signsOf
    rw [List.length_map, Array.length_toList, sizeLine_eq]
    omega
  have z := laidF (Q := Q) (I.kept (h' := h') (t' := tk) k) (vals_of_strs hA) len q
  rw [Array.toArray_toList] at z
  exact z
end
end Own
namespace K28
open PySem L2 Own StX ClX NdefX
/-- what a head's row says -/
def headName (row : Str) : Str := (Txt.partition (Txt.removeprefix row "block ") "(").1
def headPorts (row : Str) : Str := Txt.removesuffix (Txt.partition (Txt.removeprefix row "block ") "(").2.2 ")"
def headIns (row : Str) : List Str := Txt.words (Txt.partition (headPorts row) ";").1
def headOuts (row : Str) : List Str := Txt.words (Txt.partition (headPorts row) ";").2.2
def isHead (row : Str) : Bool := decide (headT (headName row) (headIns row) (headOuts row) = row)
def spReadHead (K : PySem.W.Frag) : Sp := fun vs H Q _ => ∃ row : Str, vs = [.str row] ∧ row.length ≤ 190000 ∧ (isHead row = false → ∀ H', Same H H' → Q .non H') ∧
  (isHead row = true → ∀ t a b H', Same H H' → H t = none → H' t = some (.tup [.str (headName row), .ref a, .ref b]) → IxT H' a ((headIns row).map V.str) → IxT H' b ((headOuts row).map V.str) → Q (.ref t) H')
theorem par_len1 {S : List Nat} : ∀ (l acc : List Nat) {p q : List Nat}, TL.par S acc l = some (p, q) → p.length ≤ acc.length + l.length
  | [], acc, p, q, h => by cases h
  | c :: r, acc, p, q, h => by
    have h : (if TL.pre S (c :: r) = true then some (acc, (c :: r).drop S.length) else TL.par S (acc ++ [c]) r) = some (p, q) := h
    split at h
    · cases h
      omega
    · have := par_len1 r _ h
      rw [List.length_append, List.length_cons, List.length_nil] at this
      rw [List.length_cons]
      omega
theorem part_le (x y : Str) (hy : TL.tl y ≠ []) : (Txt.partition x y).1.length ≤ x.length ∧ (Txt.partition x y).2.2.length ≤ x.length := by
  rw [TL.partition_par x y hy]
  split
  · rename_i a b e
    have h1 := par_len1 _ _ e
    have h2 := par_len _ _ e
    simp only [Str.length] at *
    exact ⟨by simpa using h1, by simpa using h2⟩
  · exact ⟨Nat.le_refl _, Nat.zero_le _⟩
theorem words_total (x : Str) : total (Txt.words x) ≤ x.length + 1 := by
  rw [← sum_lens]
  exact StrLaws.words_weight x
section
variable {P : Program} {w : World} {K : PySem.W.Frag} {mg : Str → Option Value} {base : Heap}
abbrev nR : List Str := ["row", "name", "_", "ports", "before", "behind", "inputs", "outputs"]
theorem scRh : FnScope nR ["row"] (defScope sReadHead) := ⟨rfl, rfl, rfl, by decide +kernel, rfl, by decide +kernel, by decide +kernel⟩
theorem ok_readhead {f fH : Addr} {fd fdH : FuncData} (F : Fun K "read_head" "read_head" sReadHead f fd) (T : Txt K w mg) (GH : FnOk P w K mg base CX0 1 fH fdH ["name", "inputs", "outputs"] (spHead K)) (mH : mg "head_row" = some (.ref fH)) (kH : PySem.W.keepIn K (.ref fH) = true) (bH : Binds K fdH ["name", "inputs", "outputs"] []) :
    FnOk P w K mg base CX0 2 f fd ["row"] (spReadHead K) := by
  refine F.ok scRh (fun vs H Q E h => ?_) (fun cdv A outer s H vs Q E hr h => ?_)
  · obtain ⟨row, rfl, _⟩ := h
    rfl
  obtain ⟨row, rfl, hrow, kN, kS⟩ := h
  refine ⟨_, pss_cons (ps_asg (pe_partition (pe_m1 PySem.F.slot_str_removeprefix PySem.F.type_str_removeprefix mt_removeprefix (pv 0) pe_str) pe_str) (pg_tup (by rfl) (pgs_cons (pg_name (i := 1) scRh.nd rfl (.inl rfl)) (pgs_cons (pg_name (i := 2) scRh.nd rfl (.inl rfl)) (pgs_cons (pg_name (i := 3) scRh.nd rfl (.inl rfl)) pgs_nil)))))
    (pss_cons (ps_asg (pe_partition (pe_m1 PySem.F.slot_str_removesuffix PySem.F.type_str_removesuffix mt_removesuffix (pv 3) pe_str) pe_str) (pg_tup (by rfl) (pgs_cons (pg_name (i := 4) scRh.nd rfl (.inl rfl)) (pgs_cons (pg_name (i := 2) scRh.nd rfl (.inl rfl)) (pgs_cons (pg_name (i := 5) scRh.nd rfl (.inl rfl)) pgs_nil)))))
    (pss_cons (ps_par (i := 6) (j := 7) rfl scRh.nd rfl rfl (by decide) rfl rfl (pa_cons (pe_callTy (show CallR _ (.type "tuple") (rTupL K) from call_tupL) (by rfl) T.zt (by decide +kernel) (pa_cons (pe_words (pv 4)) pa_nil)) (pa_cons (pe_callTy (show CallR _ (.type "tuple") (rTupL K) from call_tupL) (by rfl) T.zt (by decide +kernel) (pa_cons (pe_words (pv 5)) pa_nil)) pa_nil)) (by rfl))
    (pss_cons (ps_if (pt_cmpR op_ne (pe_call GH hr rfl mH kH bH .nil pass0 (pa_cons (pv 1) (pa_cons (pv 6) (pa_cons (pv 7) pa_nil)))) (pv 0) (nomark _)) (pss_one (ps_ret pe_non)) pss_nil)
    (pss_one (ps_ret (pe_tup (pa_cons (pv 1) (pa_cons (pv 6) (pa_cons (pv 7) pa_nil))))))))), ?_⟩
  have sz : ∀ {n : Nat}, n ≤ 2000000 → n ≤ sizeLine := fun h => by rw [sizeLine_eq]; omega
  have l0 := PyProof.Rows.len_removeprefix row "block "
  have p1 := part_le (Txt.removeprefix row "block ") "(" (by decide +kernel)
  have l1 := PyProof.Rows.len_removesuffix (Txt.partition (Txt.removeprefix row "block ") "(").2.2 ")"
  have p2 := part_le (headPorts row) ";" (by decide +kernel)
  have hname : (headName row).length ≤ 190000 := Nat.le_trans p1.1 (Nat.le_trans l0 hrow)
  have hports : (headPorts row).length ≤ 190000 := Nat.le_trans l1 (Nat.le_trans p1.2 (Nat.le_trans l0 hrow))
  have w1 := words_total (Txt.partition (headPorts row) ";").1
  have w2 := words_total (Txt.partition (headPorts row) ";").2.2
  refine ⟨_, rfl, ⟨_, rfl⟩, _, _, rfl, rfl, sz (by omega), ⟨_, rfl⟩, _, _, rfl, rfl, by decide +kernel, sz (by omega), fun q1 hq1 => ?_⟩
  refine ⟨q1, _, rfl, .of upd_same, rfl, _, _, rfl, _, _, rfl, _, _, rfl, rfl, ?_⟩
  refine ⟨_, rfl, ⟨_, rfl⟩, _, _, rfl, rfl, sz (by omega), ⟨_, rfl⟩, _, _, rfl, rfl, by decide +kernel, sz (by omega), fun q2 hq2 => ?_⟩
  refine ⟨q2, _, rfl, .of upd_same, rfl, _, _, rfl, _, _, rfl, _, _, rfl, rfl, ?_⟩
  have z1 : (Txt.partition (headPorts row) ";").1.length + 2 ≤ sizeLine := sz (by omega)
  have z2 : (Txt.partition (headPorts row) ";").2.2.length + 2 ≤ sizeLine := sz (by omega)
  refine ⟨_, rfl, ⟨_, rfl⟩, _, rfl, rfl, z1, fun q3 hq3 => ⟨q3, _, rfl, .of upd_same, fun a Ha sa ia => ?_⟩⟩
  refine ⟨_, rfl, ⟨_, rfl⟩, _, rfl, rfl, z2, fun q4 hq4 => ⟨q4, _, rfl, .of upd_same, fun b H6 sb ib => ⟨_, _, rfl, ?_⟩⟩⟩
  have s1 := upd_new (o := HO.tup [V.str (headName row), .str (Txt.partition (Txt.removeprefix row "block ") "(").2.1, .str (Txt.partition (Txt.removeprefix row "block ") "(").2.2]) hq1
  have s2 := upd_new (o := HO.tup [V.str (Txt.partition (headPorts row) ";").1, .str (Txt.partition (headPorts row) ";").2.1, .str (Txt.partition (headPorts row) ";").2.2]) hq2
  have s3 := upd_new (o := HO.lst ((headIns row).map V.str)) hq3
  have s5 := upd_new (o := HO.lst ((headOuts row).map V.str)) hq4
  have sA : Same H H6 := s1.trans (s2.trans (s3.trans (sa.trans (s5.trans sb))))
  have ga : IxT H6 a ((headIns row).map V.str) := ixT_same (s5.trans sb) ia
  have gb : IxT H6 b ((headOuts row).map V.str) := ib
  have w3 : total (headIns row) ≤ 200000 := by
    have e : total (headIns row) = total (Txt.words (Txt.partition (headPorts row) ";").1) := rfl
    omega
  have w4 : total (headOuts row) ≤ 200000 := by
    have e : total (headOuts row) = total (Txt.words (Txt.partition (headPorts row) ";").2.2) := rfl
    omega
  have w5 : (headOuts row).length ≤ 200000 := by
    have e := sum_lens (headOuts row)
    omega
  refine ⟨_, rfl, _, rfl, _, rfl, headName row, a, b, headIns row, headOuts row, rfl, ga.sq, gb.sq, by omega, w3, w4, w5, fun H7 s7 => ⟨_, rfl, rfl, _, rfl, ?_⟩⟩
  have s8 := sA.trans s7
  by_cases hh : headT (headName row) (headIns row) (headOuts row) = row
  · have e : isHead row = true := decide_eq_true hh
    rw [decide_eq_true (congrArg V.str hh)]
    refine iteF ⟨_, rfl, _, rfl, _, rfl, small1 (by show 3 ≤ 8; decide), fun t ht => ?_⟩
    have s9 := upd_new (o := HO.tup [V.str (headName row), .ref a, .ref b]) ht
    exact kS e t a b _ (s8.trans s9) (s8.free ht) upd_same (ixT_same s9 (ixT_same s7 ga)) (ixT_same s9 (ixT_same s7 gb))
  · have e : isHead row = false := decide_eq_false hh
    rw [decide_eq_false (fun z => hh (V.str.inj z))]
    exact iteT (kN e _ s8)
end
end K28
namespace K28
open PySem L2 Own StX ClX NdefX
abbrev sReadPort : Stmt := inClass (top 29) 5
/-- a port as it is read: the part and the name -/
def readPort (parts own : List Str) (x : Str) : Option (Str × Str) :=
  if (Txt.partition x ".").2.1.length = 0 then (if x ∈ own then some (Str.empty, x) else none)
  else if (Txt.partition x ".").1 ∈ parts ∧ isNm (Txt.partition x ".").2.2 = true then some ((Txt.partition x ".").1, (Txt.partition x ".").2.2) else none
/-- the reader's parts: a dict at d -/
def PartsAt (H : Hp) (d : Addr) (ps : List (Str × Str)) : Prop := H d = some (.dK (ps.map fun p => (Sum.inr p.1, V.str p.2)))
theorem val_parts (z : Str) : ∀ ps : List (Str × Str), (valV (ps.map fun p => ((Sum.inr p.1 : Key), V.str p.2)) (Sum.inr z)).isSome = decide (z ∈ ps.map (·.1))
  | [] => rfl
  | p :: r => by
    have ih := val_parts z r
    unfold valV at *
    rw [List.map_cons, List.map_cons, List.find?_cons]
    by_cases h : z = p.1
    · have e : decide ((Sum.inr p.1 : Key) = Sum.inr z) = true := decide_eq_true (by rw [h])
      rw [e, decide_eq_true (by rw [h]; exact List.mem_cons_self)]
      rfl
    · have e : decide ((Sum.inr p.1 : Key) = Sum.inr z) = false := decide_eq_false fun e => h (Sum.inr.inj e).symm
      rw [e]
      show (Option.map _ (List.find? _ _)).isSome = _
      rw [ih]
      refine decide_eq_decide.mpr ⟨fun q => List.mem_cons_of_mem _ q, fun q => ?_⟩
      rcases List.mem_cons.mp q with q | q
      · exact absurd q h
      · exact q
def spReadPort (K : PySem.W.Frag) (C : Addr) : Sp := fun vs H Q _ => ∃ (p dx d o : Addr) (fs : List (Str × V)) (x : Str) (ps : List (Str × Str)) (own : List Str), vs = [.ref p, .str x, .ref o] ∧ H p = some (.ins C dx fs) ∧ fs.lookup ("parts" : Str) = some (.ref d) ∧ PartsAt H d ps ∧
  SqT K H o (own.map V.str) ∧ x.length ≤ 190000 ∧ (readPort (ps.map (·.1)) own x = none → ∀ H', Same H H' → Q .non H') ∧
  (∀ a b, readPort (ps.map (·.1)) own x = some (a, b) → ∀ t H', Same H H' → H t = none → H' t = some (.tup [.str a, .str b]) → Q (.ref t) H')
section
variable {P : Program} {w : World} {K : PySem.W.Frag} {mg : Str → Option Value} {base : Heap} {C : Addr}
abbrev nRP : List Str := ["self", "text", "own_names", "part", "dot", "name"]
theorem scRdP : FnScope nRP ["self", "text", "own_names"] (defScope sReadPort) := ⟨rfl, rfl, rfl, by decide +kernel, rfl, by decide +kernel, by decide +kernel⟩
theorem ok_readport {f fN : Addr} {fd fdN : FuncData} (F : Fun K "_read_port" "DiagramReader._read_port" sReadPort f fd) (cl : Cls K C) (nP : NoAttr K C "parts") (GN : FnOk P w K mg base CX0 1 fN fdN ["value"] spName) (mN : mg "is_name" = some (.ref fN)) (kN : PySem.W.keepIn K (.ref fN) = true) (bN : Binds K fdN ["value"] []) :
    FnOk P w K mg base CX0 2 f fd ["self", "text", "own_names"] (spReadPort K C) := by
  refine F.ok scRdP (fun vs H Q E h => ?_) (fun cdv A outer s H vs Q E hr h => ?_)
  · obtain ⟨p, dx, d, o, fs, x, ps, own, rfl, _⟩ := h
    rfl
  obtain ⟨p, dx, d, o, fs, x, ps, own, rfl, hp, hf, hd, ho, hx, kN', kS⟩ := h
  have hu1 := Nat.lt_of_le_of_lt (Nat.add_le_add_left (show 1 ≤ 64 by decide) _) hr.units
  refine ⟨_, pss_cons (ps_asg (pe_partition (pv 1) pe_str) (pg_tup (by rfl) (pgs_cons (pg_name (i := 3) scRdP.nd rfl (.inl rfl)) (pgs_cons (pg_name (i := 4) scRdP.nd rfl (.inl rfl)) (pgs_cons (pg_name (i := 5) scRdP.nd rfl (.inl rfl)) pgs_nil)))))
    (pss_cons (ps_if (pt_not (pt_truth (pv 4) (by intro _; rfl))) (pss_one (ps_ret (pe_ifExp (pt_cmpR op_in_seq (pv 1) (pv 2) (by rfl)) (pe_tup (pa_cons pe_str (pa_cons (pv 1) pa_nil))) pe_non))) pss_nil)
    (pss_one (ps_ret (pe_ifExp (PW.pt (pw_and (pt_cmp (pc_din hu1 (pv 3) (pe_fld (pv 0) rfl)) (by rfl)) (pw_and1 (pt_val (pe_call GN (hr.mono (by decide)) rfl mN kN bN .nil pass0 (pa_cons (pv 5) pa_nil)))))) (pe_tup (pa_cons (pv 3) (pa_cons (pv 5) pa_nil))) pe_non)))), ?_⟩
  have sz : ∀ {n : Nat}, n ≤ 2000000 → n ≤ sizeLine := fun h => by rw [sizeLine_eq]; omega
  have pl := part_le x "." (by decide +kernel)
  have hsp : (Txt.partition x ".").2.1.length ≤ 1 := by
    rw [TL.partition_par x "." (by decide +kernel)]
    split
    · exact (by decide +kernel : (("." : Str)).length ≤ 1)
    · exact Nat.zero_le _
  obtain ⟨R, eR⟩ : ∃ R, readPort (ps.map (·.1)) own x = R := ⟨_, rfl⟩
  rw [eR] at kN' kS
  unfold readPort at eR
  refine ⟨_, rfl, ⟨_, rfl⟩, _, _, rfl, rfl, by decide +kernel, sz (by omega), fun q hq => ?_⟩
  have s1 := upd_new (o := HO.tup [V.str (Txt.partition x ".").1, .str (Txt.partition x ".").2.1, .str (Txt.partition x ".").2.2]) hq
  have hp1 := s1 _ _ hp
  have hd1 : PartsAt (upd H q (HO.tup [V.str (Txt.partition x ".").1, .str (Txt.partition x ".").2.1, .str (Txt.partition x ".").2.2])) d ps := s1 _ _ hd
  refine ⟨q, _, rfl, .of upd_same, rfl, _, _, rfl, _, _, rfl, _, _, rfl, rfl, ?_⟩
  generalize (Txt.partition x ".").1 = z at *
  generalize (Txt.partition x ".").2.1 = dt at *
  generalize (Txt.partition x ".").2.2 = n at *
  refine ⟨_, rfl, _, ⟨sz (by omega), rfl⟩, ?_⟩
  by_cases h0 : dt.length = 0
  · rw [if_pos h0] at eR
    rw [show ((dt.length : Int) != 0) = false by simp [h0]]
    have flat : (own.map V.str).all flatV = true := List.all_eq_true.mpr fun y hy => by
      obtain ⟨u, _, rfl⟩ := List.mem_map.mp hy
      rfl
    have ho1 : SqT K (upd H q (HO.tup [V.str z, .str dt, .str n])) o (own.map V.str) := by
      rcases ho with (ho | ⟨u, ho⟩) | ho
      · exact .inl (.inl (s1 _ _ ho))
      · exact .inl (.inr ⟨u, s1 _ _ ho⟩)
      · exact .inr ho
    refine iteT ⟨_, rfl, _, rfl, o, _, rfl, .inr ho1, rfl, flat, _, rfl, ?_⟩
    show if inV (.str x) (own.map V.str) = true then _ else _
    rw [inV_strs]
    by_cases hm : x ∈ own
    · rw [if_pos hm] at eR
      rw [decide_eq_true hm]
      refine iteT ⟨_, rfl, small1 (by show 2 ≤ 8; decide), fun t ht => ?_⟩
      exact kS Str.empty x eR.symm t _ (s1.trans (upd_new ht)) (s1.free ht) upd_same
    · rw [if_neg hm] at eR
      rw [decide_eq_false hm]
      exact iteF (kN' eR.symm _ s1)
  · rw [if_neg h0] at eR
    rw [show ((dt.length : Int) != 0) = true by simp [h0]]
    refine iteF ⟨_, rfl, _, rfl, p, C, dx, _, _, rfl, hp1, cl, nP, hf, d, _, rfl, DGet.k (k := Sum.inr z) hd1, _, rfl, ?_⟩
    rw [val_parts]
    by_cases hz : z ∈ ps.map (·.1)
    · rw [decide_eq_true hz]
      refine iteT ⟨_, rfl, n, rfl, sz (by omega), fun H2 s2 => ⟨_, rfl, ?_⟩⟩
      cases hn : isNm n with
      | true =>
        rw [if_pos ⟨hz, hn⟩] at eR
        refine iteT ⟨_, rfl, _, rfl, small1 (by show 2 ≤ 8; decide), fun t ht => ?_⟩
        exact kS z n eR.symm t _ ((s1.trans s2).trans (upd_new ht)) ((s1.trans s2).free ht) upd_same
      | false =>
        rw [if_neg (fun q => by rw [q.2] at hn; cases hn)] at eR
        exact iteF (kN' eR.symm _ (s1.trans s2))
    · rw [if_neg (fun q => hz q.1)] at eR
      rw [decide_eq_false hz]
      exact iteF (kN' eR.symm _ s1)
end
end K28
namespace K28
open PySem L2 Own StX ClX NdefX
abbrev sTakePart : Stmt := inClass (top 29) 3
/-- all but what stands at a is as it was -/
def SameX (a : Addr) (H H' : Hp) : Prop := ∀ b u, b ≠ a → H b = some u → H' b = some u
theorem SameX.of {a : Addr} {H1 H2 : Hp} (h : Same H1 H2) : SameX a H1 H2 := fun b u _ e => h b u e
theorem SameX.put {a : Addr} {H : Hp} {o : HO} : SameX a H (upd H a o) := fun b u n e => by rw [upd_ne n]; exact e
theorem SameX.trans {a : Addr} {H1 H2 H3 : Hp} (h : SameX a H1 H2) (k : SameX a H2 H3) : SameX a H1 H3 := fun b u n e => k b u n (h b u n e)
def partName (row : Str) : Str := (Txt.partition (Txt.removeprefix row "  part ") " = ").1
def partBlock (row : Str) : Str := (Txt.partition (Txt.removeprefix row "  part ") " = ").2.2
def takePart (ps : List (Str × Str)) (row : Str) : Option (List (Str × Str)) :=
  if ps.length < 16 ∧ isNm (partName row) = true ∧ ¬ partName row ∈ ps.map (·.1) ∧ ((readP (partBlock row)).isSome = true ∨ isDN (partBlock row) = true) then some (ps ++ [(partName row, partBlock row)]) else none
def spTakePart (C : Addr) : Sp := fun vs H Q _ => ∃ (p dx d : Addr) (fs : List (Str × V)) (row : Str) (ps : List (Str × Str)), vs = [.ref p, .str row] ∧ H p = some (.ins C dx fs) ∧ fs.lookup ("parts" : Str) = some (.ref d) ∧ fs.lookup ("_max_parts" : Str) = some (.int 16) ∧ PartsAt H d ps ∧ ps.length ≤ 16 ∧ row.length ≤ 190000 ∧
  (takePart ps row = none → ∀ H', Same H H' → Q (.bl false) H') ∧ (∀ ps', takePart ps row = some ps' → ∀ H', SameX d H H' → PartsAt H' d ps' → Q (.bl true) H')
section
variable {P : Program} {w : World} {K : PySem.W.Frag} {mg : Str → Option Value} {base : Heap} {C : Addr}
abbrev nTP : List Str := ["self", "row", "name", "_", "block"]
theorem scTP : FnScope nTP ["self", "row"] (defScope sTakePart) := ⟨rfl, rfl, rfl, by decide +kernel, rfl, by decide +kernel, by decide +kernel⟩
theorem ok_takepart {f fN fI fD : Addr} {fd fdN fdI fdD : FuncData} (F : Fun K "_take_part" "DiagramReader._take_part" sTakePart f fd) (T : Txt K w mg) (cl : Cls K C) (nP : NoAttr K C "parts") (nM : NoAttr K C "_max_parts")
    (GN : FnOk P w K mg base CX0 1 fN fdN ["value"] spName) (mN : mg "is_name" = some (.ref fN)) (kN : PySem.W.keepIn K (.ref fN) = true) (bN : Binds K fdN ["value"] [])
    (GI : FnOk P w K mg base CX0 3 fI fdI ["text"] spIP) (mI : mg "is_primitive" = some (.ref fI)) (kI : PySem.W.keepIn K (.ref fI) = true) (bI : Binds K fdI ["text"] [])
    (GD : FnOk P w K mg base CX0 2 fD fdD ["text"] spDN) (mD : mg "is_diagram_name" = some (.ref fD)) (kD : PySem.W.keepIn K (.ref fD) = true) (bD : Binds K fdD ["text"] []) :
    FnOk P w K mg base CX0 4 f fd ["self", "row"] (spTakePart C) := by
  refine F.ok scTP (fun vs H Q E h => ?_) (fun cdv A outer s H vs Q E hr h => ?_)
  · obtain ⟨p, dx, d, fs, row, ps, rfl, _⟩ := h
    rfl
  obtain ⟨p, dx, d, fs, row, ps, rfl, hp, hf, hm, hd, hpl, hrow, kF, kT⟩ := h
  have hu1 := Nat.lt_of_le_of_lt (Nat.add_le_add_left (show 1 ≤ 64 by decide) _) hr.units
  refine ⟨_, pss_cons (ps_asg (pe_partition (pe_m1 PySem.F.slot_str_removeprefix PySem.F.type_str_removeprefix mt_removeprefix (pv 1) pe_str) pe_str) (pg_tup (by rfl) (pgs_cons (pg_name (i := 2) scTP.nd rfl (.inl rfl)) (pgs_cons (pg_name (i := 3) scTP.nd rfl (.inl rfl)) (pgs_cons (pg_name (i := 4) scTP.nd rfl (.inl rfl)) pgs_nil)))))
    (pss_cons (ps_if (PW.pt (pw_or (pt_cmpR op_ge (pe_callB call_lenD (by rfl) T.zl PySem.boot_len (pa_cons (pe_fld (pv 0) rfl) pa_nil)) (pe_fld (pv 0) rfl) (nomark _)) (pw_or (pt_not (pt_val (pe_call GN (hr.mono (by decide)) rfl mN kN bN .nil pass0 (pa_cons (pv 2) pa_nil)))) (pw_or1 (pt_cmp (pc_din hu1 (pv 2) (pe_fld (pv 0) rfl)) (by rfl)))))) (pss_one (ps_ret pe_bl)) pss_nil)
    (pss_cons (ps_if (PW.pt (pw_and (pt_not (pt_val (pe_call GI hr rfl mI kI bI .nil pass0 (pa_cons (pv 4) pa_nil)))) (pw_and1 (pt_not (pt_val (pe_call GD (hr.mono (by decide)) rfl mD kD bD .nil pass0 (pa_cons (pv 4) pa_nil))))))) (pss_one (ps_ret pe_bl)) pss_nil)
    (pss_cons (ps_dput hu1 (pe_fld (pv 0) rfl) (pv 2) (pv 4) rfl)
    (pss_one (ps_ret pe_bl))))), ?_⟩
  have sz : ∀ {n : Nat}, n ≤ 2000000 → n ≤ sizeLine := fun h => by rw [sizeLine_eq]; omega
  have l0 := PyProof.Rows.len_removeprefix row "  part "
  have pl := part_le (Txt.removeprefix row "  part ") " = " (by decide +kernel)
  obtain ⟨R, eR⟩ : ∃ R, takePart ps row = R := ⟨_, rfl⟩
  rw [eR] at kF kT
  unfold takePart partName partBlock at eR
  refine ⟨_, rfl, ⟨_, rfl⟩, _, _, rfl, rfl, sz (by omega), ⟨_, rfl⟩, _, _, rfl, rfl, by decide +kernel, sz (by omega), fun q hq => ?_⟩
  have s1 := upd_new (o := HO.tup [V.str (Txt.partition (Txt.removeprefix row "  part ") " = ").1, .str (Txt.partition (Txt.removeprefix row "  part ") " = ").2.1, .str (Txt.partition (Txt.removeprefix row "  part ") " = ").2.2]) hq
  have hp1 := s1 _ _ hp
  have hd1 := s1 _ _ hd
  refine ⟨q, _, rfl, .of upd_same, rfl, _, _, rfl, _, _, rfl, _, _, rfl, rfl, ?_⟩
  generalize (Txt.partition (Txt.removeprefix row "  part ") " = ").1 = z at *
  generalize (Txt.partition (Txt.removeprefix row "  part ") " = ").2.1 = dt at *
  generalize (Txt.partition (Txt.removeprefix row "  part ") " = ").2.2 = n at *
  generalize upd H q (HO.tup [V.str z, .str dt, .str n]) = H1 at s1 hp1 hd1 ⊢
  refine ⟨_, rfl, p, C, dx, _, _, rfl, hp1, cl, nP, hf, d, _, rfl, hd1, _, rfl, p, C, dx, _, _, rfl, hp1, cl, nM, hm, _, _, rfl, rfl, _, rfl, ?_⟩
  have hlen : (ps.map fun p => ((Sum.inr p.1 : Key), V.str p.2)).length = ps.length := List.length_map _
  by_cases hl : ps.length < 16
  case neg =>
    rw [if_neg (fun q => hl q.1)] at eR
    rw [decide_eq_true (show ((((ps.map fun p => ((Sum.inr p.1 : Key), V.str p.2)).length : Nat) : Int)) ≥ 16 by rw [hlen]; omega)]
    exact iteT (kF eR.symm _ s1)
  rw [decide_eq_false (show ¬ ((((ps.map fun p => ((Sum.inr p.1 : Key), V.str p.2)).length : Nat) : Int)) ≥ 16 by rw [hlen]; omega)]
  refine iteF ⟨_, rfl, z, rfl, sz (by omega), fun H2 s2 => ⟨_, rfl, ?_⟩⟩
  cases hn : isNm z with
  | false =>
    rw [if_neg (fun q => by rw [q.2.1] at hn; cases hn)] at eR
    exact iteT (kF eR.symm _ (s1.trans s2))
  | true =>
  refine iteF ⟨_, rfl, _, rfl, p, C, dx, _, _, rfl, s2 _ _ hp1, cl, nP, hf, d, _, rfl, DGet.k (k := Sum.inr z) (s2 _ _ hd1), _, rfl, ?_⟩
  rw [val_parts]
  by_cases hz : z ∈ ps.map (·.1)
  · rw [if_neg (fun q => q.2.2.1 hz)] at eR
    rw [decide_eq_true hz]
    exact iteT (kF eR.symm _ (s1.trans s2))
  rw [decide_eq_false hz]
  refine iteF ⟨_, rfl, n, rfl, sz (by omega), fun H3 s3 => ⟨_, rfl, ?_⟩⟩
  have s13 := s1.trans (s2.trans s3)
  have fin : ∀ H4, Same H1 H4 → ((readP n).isSome = true ∨ isDN n = true) → Q (.bl true) (upd H4 d (.dK (putK (ps.map fun p => ((Sum.inr p.1 : Key), V.str p.2)) (Sum.inr z) (.str n)))) := fun H4 s4 hb => by
    rw [if_pos ⟨hl, hn, hz, hb⟩] at eR
    refine kT _ eR.symm _ ((SameX.of (s1.trans s4)).trans SameX.put) ?_
    have e : putK (ps.map fun p => ((Sum.inr p.1 : Key), V.str p.2)) (Sum.inr z) (.str n) = (ps ++ [(z, n)]).map fun p => ((Sum.inr p.1 : Key), V.str p.2) := by
      unfold putK
      rw [if_neg, List.map_append]
      · rfl
      · intro q
        obtain ⟨kv, hkv, e⟩ := List.any_eq_true.mp q
        obtain ⟨p, hp, rfl⟩ := List.mem_map.mp hkv
        exact hz (List.mem_map.mpr ⟨p, hp, Sum.inr.inj (of_decide_eq_true e)⟩)
    rw [e]
    exact upd_same
  have put : ∀ H4, Same H1 H4 → ((readP n).isSome = true ∨ isDN n = true) → sDPut (tFld K (tVar 0) "parts") (tVar 2) (tVar 4) { nx := tRet (tC (.bl true)) { nx := fun _ H' => Q .non H', rt := Q }, rt := Q } [some (.ref p), some (.str row), some (.str z), some (.str dt), some (.str n)] H4 := fun H4 s4 hb => by
    refine ⟨_, rfl, _, rfl, p, C, dx, _, _, rfl, s4 _ _ hp1, cl, nP, hf, _, rfl, d, _, rfl, DPut.k (k := Sum.inr z) (s4 _ _ hd1) (by rw [hlen, sizeLine_eq]; omega), ?_⟩
    exact fin H4 s4 hb
  cases hr1 : (readP n).isSome with
  | true => exact iteF (put H3 (s2.trans s3) (.inl hr1))
  | false =>
    refine iteT ⟨_, rfl, n, rfl, sz (by omega), fun H4 s4 => ⟨_, rfl, ?_⟩⟩
    cases hd2 : isDN n with
    | true => exact iteF (put H4 (s2.trans (s3.trans s4)) (.inr hd2))
    | false =>
      rw [if_neg (fun q => by rcases q.2.2.2 with q | q <;> simp_all)] at eR
      exact iteT (kF eR.symm _ (s13.trans s4))
end
end K28
namespace K28
open PySem L2 Own StX ClX NdefX
abbrev sTakeWire : Stmt := inClass (top 29) 4
abbrev Port := Str × Str
def keyOf (p : Port) : List Key := [Sum.inr p.1, Sum.inr p.2]
/-- the reader's wires: a dict at d from targets to tuples, the sources -/
def WiresAt (H : Hp) (d : Addr) (ws : List (Port × Port)) : Prop := ∃ as : List Addr, as.length = ws.length ∧ H d = some (.dT ((ws.zip as).map fun q => (keyOf q.1.1, V.ref q.2))) ∧ ∀ (i : Nat) (w : Port × Port) (a : Addr), ws[i]? = some w → as[i]? = some a → H a = some (.tup [.str w.2.1, .str w.2.2])
def wireTarget (parts outs : List Str) (row : Str) : Option Port := readPort parts outs (Txt.partition (Txt.removeprefix row "  ") " <- ").1
def wireSource (parts ins : List Str) (row : Str) : Option Port := readPort parts ins (Txt.partition (Txt.removeprefix row "  ") " <- ").2.2
def takeWire (parts ins outs : List Str) (ws : List (Port × Port)) (row : Str) : Option (List (Port × Port)) :=
  if Txt.startswith row "  " = true then
    match wireTarget parts outs row, wireSource parts ins row with
    | some t, some s => if t ∈ ws.map (·.1) then none else some (ws ++ [(t, s)])
    | _, _ => none
  else none
def spTakeWire (K : PySem.W.Frag) (C : Addr) : Sp := fun vs H Q _ => ∃ (p dx d dw o i : Addr) (fs : List (Str × V)) (row : Str) (ps : List (Str × Str)) (ins outs : List Str) (ws : List (Port × Port)), vs = [.ref p, .str row] ∧ H p = some (.ins C dx fs) ∧ fs.lookup ("parts" : Str) = some (.ref d) ∧ fs.lookup ("wires" : Str) = some (.ref dw) ∧ fs.lookup ("_read_port" : Str) = none ∧
  fs.lookup ("inputs" : Str) = some (.ref i) ∧ fs.lookup ("outputs" : Str) = some (.ref o) ∧ PartsAt H d ps ∧ WiresAt H dw ws ∧ SqT K H i (ins.map V.str) ∧ SqT K H o (outs.map V.str) ∧ ws.length ≤ 1000000 ∧ row.length ≤ 190000 ∧
  (takeWire (ps.map (·.1)) ins outs ws row = none → ∀ H', Same H H' → Q (.bl false) H') ∧ (∀ ws', takeWire (ps.map (·.1)) ins outs ws row = some ws' → ∀ H', SameX dw H H' → WiresAt H' dw ws' → Q (.bl true) H')
/-- a port or None -/
def PV (H : Hp) (v : V) (r : Option Port) : Prop := (r = none ∧ v = .non) ∨ ∃ t a b, r = some (a, b) ∧ v = .ref t ∧ H t = some (.tup [.str a, .str b])
theorem PV.same {H H' : Hp} {v : V} {r : Option Port} (h : PV H v r) (s : Same H H') : PV H' v r := by
  rcases h with h | ⟨t, a, b, h1, h2, h3⟩
  · exact .inl h
  · exact .inr ⟨t, a, b, h1, h2, s _ _ h3⟩
theorem sqT_same {K : PySem.W.Frag} {H H' : Hp} {a : Addr} {xs : List V} (e : Same H H') (h : SqT K H a xs) : SqT K H' a xs := by
  rcases h with (h | ⟨o, h⟩) | h
  · exact .inl (.inl (e _ _ h))
  · exact .inl (.inr ⟨o, e _ _ h⟩)
  · exact .inr h
theorem keyOf_inj {a b : Port} (h : keyOf a = keyOf b) : a = b := by
  obtain ⟨a1, a2⟩ := a
  obtain ⟨b1, b2⟩ := b
  unfold keyOf at h
  simp only [List.cons.injEq, Sum.inr.injEq, and_true] at h
  exact Prod.ext h.1 h.2
theorem any_wires (t : Port) : ∀ (ws : List (Port × Port)) (as : List Addr), as.length = ws.length → (((ws.zip as).map fun q => (keyOf q.1.1, V.ref q.2)).any fun kv => decide (kv.1 = keyOf t)) = decide (t ∈ ws.map (·.1))
  | [], _, _ => rfl
  | _ :: _, [], h => by cases h
  | w :: ws, a :: as, h => by
    rw [List.zip_cons_cons, List.map_cons, List.any_cons, any_wires t ws as (Nat.succ.inj h)]
    by_cases e : t = w.1
    · rw [decide_eq_true (congrArg keyOf e.symm : (keyOf w.1) = keyOf t), decide_eq_true (show t ∈ (w :: ws).map (·.1) by rw [e]; exact List.mem_cons_self)]
      rfl
    · rw [decide_eq_false (fun q => e (keyOf_inj q).symm), Bool.false_or]
      refine decide_eq_decide.mpr ⟨fun q => List.mem_cons_of_mem _ q, fun q => ?_⟩
      rcases List.mem_cons.mp q with q | q
      · exact absurd q e
      · exact q
theorem val_any {κ : Type} [DecidableEq κ] (k : κ) : ∀ l : List (κ × V), (valV l k).isSome = l.any fun kv => decide (kv.1 = k)
  | [] => rfl
  | a :: r => by
    have ih := val_any k r
    unfold valV at *
    rw [List.find?_cons, List.any_cons]
    cases h : decide (a.1 = k) with
    | true => rfl
    | false => exact ih
theorem WiresAt.same {H H' : Hp} {d : Addr} {ws : List (Port × Port)} (h : WiresAt H d ws) (s : Same H H') : WiresAt H' d ws := by
  obtain ⟨as, h1, h2, h3⟩ := h
  exact ⟨as, h1, s _ _ h2, fun i w a e1 e2 => s _ _ (h3 i w a e1 e2)⟩
section
variable {P : Program} {w : World} {K : PySem.W.Frag} {mg : Str → Option Value} {base : Heap} {C : Addr}
abbrev nTW : List Str := ["self", "row", "before", "_", "behind", "target", "source"]
theorem scTW : FnScope nTW ["self", "row"] (defScope sTakeWire) := ⟨rfl, rfl, rfl, by decide +kernel, rfl, by decide +kernel, by decide +kernel⟩
theorem ok_takewire {f fR : Addr} {fd fdR : FuncData} (F : Fun K "_take_wire" "DiagramReader._take_wire" sTakeWire f fd) (T : Txt K w mg) (cl : Cls K C) (nW : NoAttr K C "wires") (nI : NoAttr K C "inputs") (nO : NoAttr K C "outputs")
    (me : Meth K C "_read_port" fR) (GR : FnOk P w K mg base CX0 2 fR fdR ["self", "text", "own_names"] (spReadPort K C)) (bR : Binds K fdR ["self", "text", "own_names"] []) :
    FnOk P w K mg base CX0 3 f fd ["self", "row"] (spTakeWire K C) := by
  refine F.ok scTW (fun vs H Q E h => ?_) (fun cdv A outer s H vs Q E hr h => ?_)
  · obtain ⟨p, dx, d, dw, o, i, fs, row, ps, ins, outs, ws, rfl, _⟩ := h
    rfl
  obtain ⟨p, dx, d, dw, o, i, fs, row, ps, ins, outs, ws, rfl, hp, hf, hw, hm, hi, ho, hd, hW, hI, hO, hwl, hrow, kF, kT⟩ := h
  have hu1 := Nat.lt_of_le_of_lt (Nat.add_le_add_left (show 1 ≤ 64 by decide) _) hr.units
  refine ⟨_, pss_cons (ps_if (pt_not (pt_val (pe_m1 PySem.F.slot_str_startswith PySem.F.type_str_startswith mt_startswith (pv 1) pe_str))) (pss_one (ps_ret pe_bl)) pss_nil)
    (pss_cons (ps_asg (pe_partition (pe_m1 PySem.F.slot_str_removeprefix PySem.F.type_str_removeprefix mt_removeprefix (pv 1) pe_str) pe_str) (pg_tup (by rfl) (pgs_cons (pg_name (i := 2) scTW.nd rfl (.inl rfl)) (pgs_cons (pg_name (i := 3) scTW.nd rfl (.inl rfl)) (pgs_cons (pg_name (i := 4) scTW.nd rfl (.inl rfl)) pgs_nil)))))
    (pss_cons (ps_set (i := 5) scTW.nd rfl (.inl rfl) (pe_meth (pv 0) cl me GR hr bR .nil pass0 (pa_cons (pv 2) (pa_cons (pe_fld (pv 0) rfl) pa_nil))))
    (pss_cons (ps_set (i := 6) scTW.nd rfl (.inl rfl) (pe_meth (pv 0) cl me GR hr bR .nil pass0 (pa_cons (pv 4) (pa_cons (pe_fld (pv 0) rfl) pa_nil))))
    (pss_cons (ps_if (PW.pt (pw_or (pt_cmpR op_isN (pv 5) pe_non (nomark _)) (pw_or (pt_cmpR op_isN (pv 6) pe_non (nomark _)) (pw_or1 (pt_cmp (pc_din hu1 (pv 5) (pe_fld (pv 0) rfl)) (by rfl)))))) (pss_one (ps_ret pe_bl)) pss_nil)
    (pss_cons (ps_dput hu1 (pe_fld (pv 0) rfl) (pv 5) (pv 6) rfl)
    (pss_one (ps_ret pe_bl))))))), ?_⟩
  have sz : ∀ {n : Nat}, n ≤ 2000000 → n ≤ sizeLine := fun h => by rw [sizeLine_eq]; omega
  have l0 := PyProof.Rows.len_removeprefix row "  "
  have pl := part_le (Txt.removeprefix row "  ") " <- " (by decide +kernel)
  obtain ⟨R, eR⟩ : ∃ R, takeWire (ps.map (·.1)) ins outs ws row = R := ⟨_, rfl⟩
  rw [eR] at kF kT
  unfold takeWire wireTarget wireSource at eR
  refine ⟨_, rfl, ⟨_, rfl⟩, _, _, rfl, rfl, _, rfl, ?_⟩
  cases hst : Txt.startswith row "  " with
  | false =>
    rw [if_neg (by rw [hst]; exact Bool.false_ne_true)] at eR
    exact iteT (kF eR.symm _ (Same.refl H))
  | true =>
  rw [if_pos hst] at eR
  refine iteF ⟨_, rfl, ⟨_, rfl⟩, _, _, rfl, rfl, sz (by omega), ⟨_, rfl⟩, _, _, rfl, rfl, by decide +kernel, sz (by omega), fun q hq => ?_⟩
  have s1 := upd_new (o := HO.tup [V.str (Txt.partition (Txt.removeprefix row "  ") " <- ").1, .str (Txt.partition (Txt.removeprefix row "  ") " <- ").2.1, .str (Txt.partition (Txt.removeprefix row "  ") " <- ").2.2]) hq
  refine ⟨q, _, rfl, .of upd_same, rfl, _, _, rfl, _, _, rfl, _, _, rfl, rfl, ?_⟩
  generalize (Txt.partition (Txt.removeprefix row "  ") " <- ").1 = z at *
  generalize (Txt.partition (Txt.removeprefix row "  ") " <- ").2.1 = dt at *
  generalize (Txt.partition (Txt.removeprefix row "  ") " <- ").2.2 = n at *
  generalize upd H q (HO.tup [V.str z, .str dt, .str n]) = H1 at s1 ⊢
  refine ⟨_, rfl, p, dx, _, rfl, s1 _ _ hp, hm, _, rfl, _, rfl, p, C, dx, _, _, rfl, s1 _ _ hp, cl, nO, ho, ?_⟩
  have go : ∀ (x : Str) (o : Addr) (own : List Str) (H2 : Hp) (Q2 : VK) (E2 : XK), Same H H2 → SqT K H o (own.map V.str) → x.length ≤ 190000 → (∀ v H3, Same H2 H3 → PV H3 v (readPort (ps.map (·.1)) own x) → Q2 v H3) → spReadPort K C [.ref p, .str x, .ref o] H2 Q2 E2 := fun x o own H2 Q2 E2 s2 hO hx k =>
    ⟨p, dx, d, o, fs, x, ps, own, rfl, s2 _ _ hp, hf, s2 _ _ hd, sqT_same s2 hO, hx, fun e H3 s3 => k _ _ s3 (.inl ⟨e, rfl⟩), fun a b e t H3 s3 _ ht => k _ _ s3 (.inr ⟨t, a, b, e, rfl, ht⟩)⟩
  dsimp only [tNil, List.append_nil]
  refine go z o outs H1 _ _ s1 hO (by omega) fun tv H2 s2 pv1 => ?_
  refine ⟨_, rfl, p, dx, _, rfl, s2 _ _ (s1 _ _ hp), hm, _, rfl, _, rfl, p, C, dx, _, _, rfl, s2 _ _ (s1 _ _ hp), cl, nI, hi, ?_⟩
  dsimp only [tNil, List.append_nil]
  refine go n i ins H2 _ _ (s1.trans s2) hI (by omega) fun sv H3 s3 pv2 => ?_
  have s13 := s1.trans (s2.trans s3)
  rcases pv1 with ⟨er1, rfl⟩ | ⟨t1, a1, b1, er1, rfl, g1⟩
  · rw [er1] at eR
    exact ⟨_, rfl, rfl, _, rfl, iteT (kF eR.symm _ s13)⟩
  refine ⟨_, rfl, rfl, _, rfl, iteF ?_⟩
  rcases pv2 with ⟨er2, rfl⟩ | ⟨t2, a2, b2, er2, rfl, g2⟩
  · rw [er1, er2] at eR
    exact ⟨_, rfl, rfl, _, rfl, iteT (kF eR.symm _ s13)⟩
  rw [er1, er2] at eR
  obtain ⟨as, hal, hwd, hat⟩ := hW.same s13
  refine ⟨_, rfl, rfl, _, rfl, iteF ⟨_, rfl, _, rfl, p, C, dx, _, _, rfl, s13 _ _ hp, cl, nW, hw, dw, _, rfl, DGet.t (k := [Sum.inr a1, Sum.inr b1]) hwd (s3 _ _ g1), _, rfl, ?_⟩⟩
  rw [val_any]
  show if (((ws.zip as).map fun q => (keyOf q.1.1, V.ref q.2)).any fun kv => decide (kv.1 = keyOf (a1, b1))) = true then _ else _
  have han := any_wires (a1, b1) ws as hal
  rw [han]
  by_cases hm : (a1, b1) ∈ ws.map (·.1)
  · rw [decide_eq_true hm]
    dsimp only at eR
    rw [if_pos hm] at eR
    exact iteT (kF eR.symm _ s13)
  rw [decide_eq_false hm]
  dsimp only at eR
  rw [if_neg hm] at eR
  have hzl : ((ws.zip as).map fun q => (keyOf q.1.1, V.ref q.2)).length < sizeLine := by
    rw [List.length_map, List.length_zip, hal, Nat.min_self, sizeLine_eq]
    omega
  refine iteF ⟨_, rfl, _, rfl, p, C, dx, _, _, rfl, s13 _ _ hp, cl, nW, hw, _, rfl, dw, _, rfl, DPut.t (k := keyOf (a1, b1)) hwd (s3 _ _ g1) hzl, ?_⟩
  have hput : putK ((ws.zip as).map fun q => (keyOf q.1.1, V.ref q.2)) (keyOf (a1, b1)) (V.ref t2) = (((ws ++ [((a1, b1), (a2, b2))]).zip (as ++ [t2])).map fun q => (keyOf q.1.1, V.ref q.2)) := by
    unfold putK
    rw [han, decide_eq_false hm, if_neg Bool.false_ne_true, List.zip_append hal.symm, List.map_append]
    rfl
  refine kT _ eR.symm _ ((SameX.of s13).trans SameX.put) ⟨as ++ [t2], by rw [List.length_append, List.length_append, hal]; rfl, by rw [hput]; exact upd_same, fun j v a e1 e2 => ?_⟩
  have hne : ∀ (b : Addr) (xs : List V), H3 b = some (.tup xs) → b ≠ dw := fun b xs hb e => by
    rw [e, hwd] at hb
    cases hb
  by_cases hj : j < ws.length
  · rw [List.getElem?_append_left hj] at e1
    rw [List.getElem?_append_left (by rw [hal]; exact hj)] at e2
    have g := hat j v a e1 e2
    rw [upd_ne (hne a _ g)]
    exact g
  · rw [List.getElem?_append_right (by omega)] at e1
    rw [List.getElem?_append_right (by rw [hal]; omega), hal] at e2
    cases hk : j - ws.length with
    | zero =>
      rw [hk] at e1 e2
      cases e1
      cases e2
      rw [upd_ne (hne t2 _ g2)]
      exact g2
    | succ k =>
      rw [hk] at e1
      cases e1
end
end K28
namespace K28
open PySem L2 Own StX ClX NdefX
abbrev sTakeHead : Stmt := inClass (top 29) 2
def okHead (row : Str) : Prop := isHead row = true ∧ (headIns row).length ≤ 8 ∧ (headOuts row).length ≤ 8 ∧ isDN (headName row) = true ∧ ((headIns row ++ headOuts row).all isNm) = true ∧ (headIns row ++ headOuts row).Nodup
def spTakeHead (C : Addr) : Sp := fun vs H Q _ => ∃ (p dx : Addr) (fs : List (Str × V)) (row : Str), vs = [.ref p, .str row] ∧ H p = some (.ins C dx fs) ∧ fs.lookup ("_max_ports" : Str) = some (.int 8) ∧ fs.length ≤ 20 ∧ row.length ≤ 190000 ∧
  (¬ okHead row → ∀ H', Same H H' → Q (.bl false) H') ∧
  (okHead row → ∀ a b H', SameX p H H' → H' p = some (.ins C dx (putF "outputs" (.ref b) (putF "inputs" (.ref a) (putF "name" (.str (headName row)) fs)))) → IxT H' a ((headIns row).map V.str) → IxT H' b ((headOuts row).map V.str) → Q (.bl true) H')
theorem putF_len {f : Str} {v : V} : ∀ fs : List (Str × V), (putF f v fs).length ≤ fs.length + 1
  | [] => Nat.le_refl _
  | (g, u) :: r => by
    have := putF_len (f := f) (v := v) r
    unfold putF
    split
    · simp
    · simp only [List.length_cons]
      omega
section
variable {P : Program} {w : World} {K : PySem.W.Frag} {mg : Str → Option Value} {base : Heap} {C : Addr}
abbrev nTH : List Str := ["self", "row", "head", "name", "inputs", "outputs", "ports", "port"]
theorem scTH : FnScope nTH ["self", "row"] (defScope sTakeHead) := ⟨rfl, rfl, rfl, by decide +kernel, rfl, by decide +kernel, by decide +kernel⟩
theorem ok_takehead {f fH fN fD : Addr} {fd fdH fdN fdD : FuncData} (F : Fun K "_take_head" "DiagramReader._take_head" sTakeHead f fd) (T : Txt K w mg) (mset : mg "set" = none) (cl : Cls K C) (nM : NoAttr K C "_max_ports") (nN : NoAttr K C "name") (nI : NoAttr K C "inputs") (nO : NoAttr K C "outputs")
    (GH : FnOk P w K mg base CX0 2 fH fdH ["row"] (spReadHead K)) (mH : mg "read_head" = some (.ref fH)) (kH : PySem.W.keepIn K (.ref fH) = true) (bH : Binds K fdH ["row"] [])
    (GN : FnOk P w K mg base CX0 1 fN fdN ["value"] spName) (mN : mg "is_name" = some (.ref fN)) (kN : PySem.W.keepIn K (.ref fN) = true) (bN : Binds K fdN ["value"] [])
    (GD : FnOk P w K mg base CX0 2 fD fdD ["text"] spDN) (mD : mg "is_diagram_name" = some (.ref fD)) (kD : PySem.W.keepIn K (.ref fD) = true) (bD : Binds K fdD ["text"] []) :
    FnOk P w K mg base CX0 3 f fd ["self", "row"] (spTakeHead C) := by
  refine F.ok scTH (fun vs H Q E h => ?_) (fun cdv A outer s H vs Q E hr h => ?_)
  · obtain ⟨p, dx, fs, row, rfl, _⟩ := h
    rfl
  obtain ⟨p, dx, fs, row, rfl, hp, hm, hfl, hrow, kF, kT⟩ := h
  refine ⟨_, pss_cons (ps_set (i := 2) scTH.nd rfl (.inl rfl) (pe_call GH hr rfl mH kH bH .nil pass0 (pa_cons (pv 1) pa_nil)))
    (pss_cons (ps_if (pt_cmpR op_isN (pv 2) pe_non (nomark _)) (pss_one (ps_ret pe_bl)) pss_nil)
    (pss_cons (ps_asg (pv 2) (pg_tup (by rfl) (pgs_cons (pg_name (i := 3) scTH.nd rfl (.inl rfl)) (pgs_cons (pg_name (i := 4) scTH.nd rfl (.inl rfl)) (pgs_cons (pg_name (i := 5) scTH.nd rfl (.inl rfl)) pgs_nil)))))
    (pss_join (ps_set (i := 6) scTH.nd rfl (.inl rfl) (pe_op op_catA (pv 4) (pv 5)))
    (pss_cons (ps_if (PW.pt (pw_or (pt_cmpR op_gt (pe_callB call_len_seq (by rfl) T.zl PySem.boot_len (pa_cons (pv 4) pa_nil)) (pe_fld (pv 0) rfl) (nomark _)) (pw_or1 (pt_cmpR op_gt (pe_callB call_len_seq (by rfl) T.zl PySem.boot_len (pa_cons (pv 5) pa_nil)) (pe_fld (pv 0) rfl) (nomark _))))) (pss_one (ps_ret pe_bl)) pss_nil)
    (pss_cons (ps_if (PW.pt (pw_or (pt_not (pt_val (pe_call GD hr rfl mD kD bD .nil pass0 (pa_cons (pv 3) pa_nil)))) (pw_or1 (pt_not (pt_val (pe_callB (cr_all rfl) (by rfl) T.za (by decide +kernel) (pa_cons (pe_lc (own := [("port", 7)]) (g := gName 7) rfl scTH.nd (pi_tup (pv 6)) (blkOk_by (own := [("port", 7)]) (N := nTH) (sc := defScope sTakeHead) (by decide +kernel)) (fun _ _ _ _ _ => pg_name (i := 7) scTH.nd rfl (Or.inl rfl)) (fun _ _ _ _ _ => pts_nil)
        (fun _ _ _ _ _ => pe_call GN (hr.mono (by decide)) rfl mN kN bN .nil pass0 (pa_cons (pv 7) pa_nil))) pa_nil))))))) (pss_one (ps_ret pe_bl)) pss_nil)
    (pss_cons (ps_if (pt_cmpR op_ne (pe_lenSetT rfl rfl T.zl rfl mset (pv 6)) (pe_callB call_len_seq (by rfl) T.zl PySem.boot_len (pa_cons (pv 6) pa_nil)) (nomark _)) (pss_one (ps_ret pe_bl)) pss_nil)
    (pss_cons (ps_asg (pe_tup (pa_cons (pv 3) (pa_cons (pv 4) (pa_cons (pv 5) pa_nil)))) (pg_tup (by rfl) (pgs_cons (pg_fld (pv 0)) (pgs_cons (pg_fld (pv 0)) (pgs_cons (pg_fld (pv 0)) pgs_nil)))))
    (pss_one (ps_ret pe_bl))))))))), ?_⟩
  have sz : ∀ {n : Nat}, n ≤ 2000000 → n ≤ sizeLine := fun h => by rw [sizeLine_eq]; omega
  have l0 := PyProof.Rows.len_removeprefix row "block "
  have p1 := part_le (Txt.removeprefix row "block ") "(" (by decide +kernel)
  have l1 := PyProof.Rows.len_removesuffix (Txt.partition (Txt.removeprefix row "block ") "(").2.2 ")"
  have p2 := part_le (headPorts row) ";" (by decide +kernel)
  have hname : (headName row).length ≤ 190000 := Nat.le_trans p1.1 (Nat.le_trans l0 hrow)
  have hports : (headPorts row).length ≤ 190000 := Nat.le_trans l1 (Nat.le_trans p1.2 (Nat.le_trans l0 hrow))
  have w1 : total (headIns row) ≤ 190001 := Nat.le_trans (words_total _) (by omega)
  have w2 : total (headOuts row) ≤ 190001 := Nat.le_trans (words_total _) (by omega)
  have n1 := sum_lens (headIns row)
  have n2 := sum_lens (headOuts row)
  refine ⟨_, rfl, row, rfl, hrow, fun e H1 s1 => ?_, fun e t a b H1 s1 ht ht1 ga gb => ?_⟩
  · exact ⟨_, rfl, rfl, _, rfl, iteT (kF (fun q => by have z := q.1; rw [e] at z; cases z) _ s1)⟩
  refine ⟨_, rfl, rfl, _, rfl, iteF ?_⟩
  refine ⟨_, rfl, t, _, rfl, .of ht1, rfl, _, _, rfl, _, _, rfl, _, _, rfl, rfl, ?_⟩
  refine ⟨fun σ H2 => ∃ pp, σ = [some (.ref p), some (.str row), some (.ref t), some (.str (headName row)), some (.ref a), some (.ref b), some (.ref pp), none] ∧ Same H1 H2 ∧ SqT K H2 pp ((headIns row ++ headOuts row).map V.str), ?_, ?_⟩
  · refine ⟨_, rfl, _, rfl, a, b, _, _, rfl, rfl, ga.sq, gb.sq, by rw [List.length_map, List.length_map]; exact sz (by omega), fun e0 => ⟨b, rfl, Same.refl _, ?_⟩, fun e1 e2 => ⟨a, rfl, Same.refl _, ?_⟩, fun e1 e2 pp hpp => ⟨pp, rfl, upd_new hpp, ?_⟩⟩
    · rw [List.map_append, e0]
      exact gb.sq
    · rw [List.map_append, e2, List.append_nil]
      exact ga.sq
    · rw [List.map_append]
      exact .of upd_same
  rintro σ H2 ⟨pp, rfl, s2, hS⟩
  have hp2 := s2 _ _ (s1 _ _ hp)
  have ga2 := ixT_same s2 ga
  have gb2 := ixT_same s2 gb
  have s12 := s1.trans s2
  refine ⟨_, rfl, a, _, rfl, .inr ga2.sq, _, rfl, p, C, dx, _, _, rfl, hp2, cl, nM, hm, _, _, rfl, rfl, _, rfl, ?_⟩
  by_cases h8 : (headIns row).length ≤ 8
  case neg =>
    rw [decide_eq_true (show (8 : Int) < ((((headIns row).map V.str).length : Nat) : Int) by rw [List.length_map]; omega)]
    exact iteT (kF (fun q => h8 q.2.1) _ s12)
  rw [decide_eq_false (show ¬ (8 : Int) < ((((headIns row).map V.str).length : Nat) : Int) by rw [List.length_map]; omega)]
  refine iteF ⟨_, rfl, b, _, rfl, .inr gb2.sq, _, rfl, p, C, dx, _, _, rfl, hp2, cl, nM, hm, _, _, rfl, rfl, _, rfl, ?_⟩
  by_cases h9 : (headOuts row).length ≤ 8
  case neg =>
    rw [decide_eq_true (show (8 : Int) < ((((headOuts row).map V.str).length : Nat) : Int) by rw [List.length_map]; omega)]
    exact iteT (kF (fun q => h9 q.2.2.1) _ s12)
  rw [decide_eq_false (show ¬ (8 : Int) < ((((headOuts row).map V.str).length : Nat) : Int) by rw [List.length_map]; omega)]
  refine iteF ⟨_, rfl, headName row, rfl, sz (by omega), fun H3 s3 => ⟨_, rfl, ?_⟩⟩
  have s13 := s12.trans s3
  cases hdn : isDN (headName row) with
  | false => exact iteT (kF (fun q => by have z := q.2.2.2.1; rw [hdn] at z; cases z) _ s13)
  | true =>
  have hS3 := sqT_same s3 hS
  refine iteF ⟨_, rfl, pp, rfl, ⟨_, hS3⟩, fun D hD => ?_⟩
  refine lc_tup (K := K) (a := pp) (xs := (headIns row ++ headOuts row).map V.str) (fun i H' => Same H3 H' ∧ H' D = some (.lst (((headIns row ++ headOuts row).take i).map fun x => V.bl (isNm x)))) ⟨upd_new hD, upd_same⟩ (fun i H' _ q => sqT_same q.1 hS3) ?_ ?_
  · rintro i v H4 hi ⟨s4, a4⟩
    rw [List.getElem?_map] at hi
    obtain ⟨x, hx, rfl⟩ := Option.map_eq_some_iff.mp hi
    have hxl : x.length ≤ 400000 := by
      rcases List.mem_append.mp (List.mem_of_getElem? hx) with z | z
      · have := mem_total z
        omega
      · have := mem_total z
        omega
    have tk : (headIns row ++ headOuts row).take (i + 1) = (headIns row ++ headOuts row).take i ++ [x] := by rw [List.take_add_one, hx]; rfl
    refine ⟨rfl, _, rfl, x, rfl, sz (by omega), fun H5 s5 => ⟨_, s5 _ _ a4, ?_, same_put (s4.trans s5) hD, ?_⟩⟩
    · rw [List.length_map, List.length_take]
      exact Nat.lt_of_le_of_lt (Nat.min_le_right _ _) (by rw [List.length_append, sizeLine_eq]; omega)
    · rw [upd_same, tk]
      simp
  rintro H4 ⟨s4, a4⟩
  rw [List.take_of_length_le (by rw [List.length_map]; exact Nat.le_refl _)] at a4
  refine ⟨D, (headIns row ++ headOuts row).map isNm, rfl, .of (by rw [a4, List.map_map]; rfl), _, rfl, ?_⟩
  have hall : ((headIns row ++ headOuts row).map isNm).all id = (headIns row ++ headOuts row).all isNm := by rw [List.all_map]; rfl
  rw [hall]
  have s14 := s13.trans s4
  cases hnm : (headIns row ++ headOuts row).all isNm with
  | false => exact iteT (kF (fun q => by have z := q.2.2.2.2.1; rw [hnm] at z; cases z) _ s14)
  | true =>
  have hS4 := sqT_same s4 hS3
  have h16 : (headIns row ++ headOuts row).length ≤ 16 := by rw [List.length_append]; omega
  refine iteF ⟨_, rfl, pp, headIns row ++ headOuts row, rfl, hS4, by omega, fun c hc hcn => ⟨_, rfl, pp, _, rfl, .inr hS4, rfl, _, rfl, ?_⟩⟩
  by_cases hnd : (headIns row ++ headOuts row).Nodup
  case neg =>
    rw [decide_eq_false (show ¬ V.int ((c : Nat) : Int) = V.int (((((headIns row ++ headOuts row).map V.str).length : Nat)) : Int) from fun z => hnd (hcn.mp (by
      have z := V.int.inj z
      rw [List.length_map] at z
      omega)))]
    exact iteT (kF (fun q => hnd q.2.2.2.2.2) _ s14)
  rw [decide_eq_true (show V.int ((c : Nat) : Int) = V.int (((((headIns row ++ headOuts row).map V.str).length : Nat)) : Int) by rw [List.length_map, hcn.mpr hnd])]
  have hp4 := s4 _ _ (s3 _ _ hp2)
  refine iteF ⟨_, rfl, _, rfl, _, rfl, small1 (by show 3 ≤ 8; decide), fun t2 ht2 => ?_⟩
  have s5 := upd_new (o := HO.tup [V.str (headName row), .ref a, .ref b]) ht2
  have hp5 := s5 _ _ hp4
  have L1 := putF_len (f := "name") (v := V.str (headName row)) fs
  have L2 := putF_len (f := "inputs") (v := V.ref a) (putF "name" (V.str (headName row)) fs)
  refine ⟨t2, _, rfl, .of upd_same, rfl, _, _, rfl, _, rfl, p, C, dx, _, rfl, hp5, cl, nN, by omega, _, _, rfl, _, rfl, p, C, dx, _, rfl, upd_same, cl, nI, by omega, _, _, rfl, _, rfl, p, C, dx, _, rfl, upd_same, cl, nO, by omega, rfl, ?_⟩
  have hpa : a ≠ p := fun z => by
    obtain ⟨o, q, _⟩ := ga
    rw [z, s1 _ _ hp] at q
    cases q
  have hpb : b ≠ p := fun z => by
    obtain ⟨o, q, _⟩ := gb
    rw [z, s1 _ _ hp] at q
    cases q
  have ixp : ∀ {H1 : Hp} {c : Addr} {xs : List V} {u1 u2 u3 : HO}, c ≠ p → IxT H1 c xs → IxT (upd (upd (upd H1 p u1) p u2) p u3) c xs := fun n ⟨o, q, r⟩ => ⟨o, by rw [upd_ne n, upd_ne n, upd_ne n]; exact q, r⟩
  have s15 := s14.trans s5
  refine kT ⟨e, h8, h9, hdn, hnm, hnd⟩ a b _ ((SameX.of s15).trans (SameX.put.trans (SameX.put.trans SameX.put))) upd_same ?_ ?_
  · exact ixp hpa (ixT_same s5 (ixT_same s4 (ixT_same s3 ga2)))
  · exact ixp hpb (ixT_same s5 (ixT_same s4 (ixT_same s3 gb2)))
end
end K28
namespace K28
open PySem L2 Own StX ClX NdefX
abbrev sTake : Stmt := inClass (top 29) 1
/-- a reader's state -/
structure RS where
  head : Option (Str × List Str × List Str)
  parts : List (Str × Str)
  wires : List (Port × Port)
  done : Bool
instance (row : Str) : Decidable (okHead row) := by unfold okHead; infer_instance
def step (st : RS) (row : Str) : Option RS :=
  match st.head with
  | none => if okHead row then some { st with head := some (headName row, headIns row, headOuts row) } else none
  | some (_, ins, outs) =>
    if st.done = true then none
    else if row = "end" then some { st with done := true }
    else if Txt.startswith row "  part " = true then (if st.wires.isEmpty = true then (takePart st.parts row).map fun ps => { st with parts := ps } else none)
    else (takeWire (st.parts.map (·.1)) ins outs st.wires row).map fun ws => { st with wires := ws }
def fsR (nm i o : V) (d dw : Addr) (dn : Bool) : List (Str × V) := [("name", nm), ("inputs", i), ("outputs", o), ("parts", .ref d), ("wires", .ref dw), ("is_done", .bl dn), ("_max_ports", .int 8), ("_max_parts", .int 16)]
def HeadAt (K : PySem.W.Frag) (H : Hp) (nm : V) (i o : Addr) : Option (Str × List Str × List Str) → Prop
  | none => nm = .non
  | some (n, ins, outs) => nm = .str n ∧ IxT H i (ins.map V.str) ∧ IxT H o (outs.map V.str)
def RdAt (K : PySem.W.Frag) (C : Addr) (H : Hp) (p d dw : Addr) (st : RS) : Prop := ∃ (dx : Addr) (nm : V) (i o : Addr), H p = some (.ins C dx (fsR nm (.ref i) (.ref o) d dw st.done)) ∧ PartsAt H d st.parts ∧ WiresAt H dw st.wires ∧ HeadAt K H nm i o st.head ∧ st.parts.length ≤ 16
/-- all but the reader's own three objects is as it was -/
def SameR (p d dw : Addr) (H H' : Hp) : Prop := ∀ b u, b ≠ p → b ≠ d → b ≠ dw → H b = some u → H' b = some u
theorem SameR.of {p d dw : Addr} {H H' : Hp} (h : Same H H') : SameR p d dw H H' := fun b u _ _ _ e => h b u e
theorem SameR.of_p {p d dw : Addr} {H H' : Hp} (h : SameX p H H') : SameR p d dw H H' := fun b u n _ _ e => h b u n e
theorem SameR.of_d {p d dw : Addr} {H H' : Hp} (h : SameX d H H') : SameR p d dw H H' := fun b u _ n _ e => h b u n e
theorem SameR.of_w {p d dw : Addr} {H H' : Hp} (h : SameX dw H H') : SameR p d dw H H' := fun b u _ _ n e => h b u n e
theorem SameR.trans {p d dw : Addr} {H H1 H2 : Hp} (h : SameR p d dw H H1) (k : SameR p d dw H1 H2) : SameR p d dw H H2 := fun b u n1 n2 n3 e => k b u n1 n2 n3 (h b u n1 n2 n3 e)
/-- what stands at a is no tuple -/
def NoTup (H : Hp) (a : Addr) : Prop := ∀ xs, H a ≠ some (.tup xs) ∧ ∀ o, H a ≠ some (.frz o (.tup xs))
theorem sqT_X {K : PySem.W.Frag} {H H' : Hp} {a b : Addr} {xs : List V} (e : SameX a H H') (n : NoTup H a) (h : SqT K H b xs) : SqT K H' b xs := by
  rcases h with (h | ⟨o, h⟩) | h
  · exact .inl (.inl (e _ _ (fun z => (n xs).1 (by rw [← z]; exact h)) h))
  · exact .inl (.inr ⟨o, e _ _ (fun z => (n xs).2 o (by rw [← z]; exact h)) h⟩)
  · exact .inr h
theorem ixT_X {H H' : Hp} {a b : Addr} {xs : List V} (e : SameX a H H') (n : NoTup H a) (h : IxT H b xs) : IxT H' b xs := by
  obtain ⟨o, h, r⟩ := h
  exact ⟨o, e _ _ (fun z => (n xs).2 o (by rw [← z]; exact h)) h, r⟩
theorem WiresAt.X {H H' : Hp} {a d : Addr} {ws : List (Port × Port)} (h : WiresAt H d ws) (e : SameX a H H') (n : NoTup H a) (nd : d ≠ a) : WiresAt H' d ws := by
  obtain ⟨as, h1, h2, h3⟩ := h
  exact ⟨as, h1, e _ _ nd h2, fun i w b e1 e2 => e _ _ (fun z => (n _).1 (by rw [← z]; exact h3 i w b e1 e2)) (h3 i w b e1 e2)⟩
theorem HeadAt.X {K : PySem.W.Frag} {H H' : Hp} {a i o : Addr} {nm : V} {r : Option (Str × List Str × List Str)} (h : HeadAt K H nm i o r) (e : SameX a H H') (n : NoTup H a) : HeadAt K H' nm i o r := by
  cases r with
  | none => exact h
  | some r =>
    obtain ⟨n1, ins, outs⟩ := r
    exact ⟨h.1, ixT_X e n h.2.1, ixT_X e n h.2.2⟩
theorem takePart_len {ps ps' : List (Str × Str)} {row : Str} (h : takePart ps row = some ps') : ps'.length ≤ 16 := by
  unfold takePart at h
  split at h
  · rename_i q
    cases h
    rw [List.length_append]
    have := q.1
    show ps.length + 1 ≤ 16
    omega
  · cases h
def spTake (K : PySem.W.Frag) (C : Addr) : Sp := fun vs H Q _ => ∃ (p d dw : Addr) (row : Str) (st : RS), vs = [.ref p, .str row] ∧ RdAt K C H p d dw st ∧ st.wires.length ≤ 1000000 ∧ row.length ≤ 190000 ∧
  (step st row = none → ∀ H', Same H H' → Q (.bl false) H') ∧ (∀ st', step st row = some st' → ∀ H', SameR p d dw H H' → RdAt K C H' p d dw st' → Q (.bl true) H')
/-- what the reader's class tells -/
structure RdC (P : Program) (w : World) (K : PySem.W.Frag) (mg : Str → Option Value) (base : Heap) (C : Addr) : Prop where
  cl : Cls K C
  nN : NoAttr K C "name"
  nI : NoAttr K C "inputs"
  nO : NoAttr K C "outputs"
  nP : NoAttr K C "parts"
  nW : NoAttr K C "wires"
  nD : NoAttr K C "is_done"
  nA : NoAttr K C "_max_ports"
  nB : NoAttr K C "_max_parts"
section
variable {P : Program} {w : World} {K : PySem.W.Frag} {mg : Str → Option Value} {base : Heap} {C : Addr}
theorem scTk : FnScope ["self", "row"] ["self", "row"] (defScope sTake) := ⟨rfl, rfl, rfl, by decide +kernel, rfl, by decide +kernel, by decide +kernel⟩
theorem ok_take {f fH fP fW : Addr} {fd fdH fdP fdW : FuncData} (F : Fun K "take" "DiagramReader.take" sTake f fd) (R : RdC P w K mg base C)
    (mH : Meth K C "_take_head" fH) (GH : FnOk P w K mg base CX0 3 fH fdH ["self", "row"] (spTakeHead C)) (bH : Binds K fdH ["self", "row"] [])
    (mP : Meth K C "_take_part" fP) (GP : FnOk P w K mg base CX0 4 fP fdP ["self", "row"] (spTakePart C)) (bP : Binds K fdP ["self", "row"] [])
    (mW : Meth K C "_take_wire" fW) (GW : FnOk P w K mg base CX0 3 fW fdW ["self", "row"] (spTakeWire K C)) (bW : Binds K fdW ["self", "row"] []) :
    FnOk P w K mg base CX0 5 f fd ["self", "row"] (spTake K C) := by
  refine F.ok scTk (fun vs H Q E h => ?_) (fun cdv A outer s H vs Q E hr h => ?_)
  · obtain ⟨p, d, dw, row, st, rfl, _⟩ := h
    rfl
  obtain ⟨p, d, dw, row, st, rfl, hR, hwl, hrow, kF, kT⟩ := h
  refine ⟨_, pss_cons (ps_if (pt_cmpR op_isN (pe_fld (pv 0) rfl) pe_non (nomark _)) (pss_one (ps_ret (pe_meth (pv 0) R.cl mH GH (hr.mono (by decide)) bH .nil pass0 (pa_cons (pv 1) pa_nil)))) pss_nil)
    (pss_cons (ps_if (pt_val (pe_fld (pv 0) rfl)) (pss_one (ps_ret pe_bl)) pss_nil)
    (pss_cons (ps_if (pt_cmpR op_eq (pv 1) pe_str (nomark _)) (pss_cons (ps_fld (pv 0) pe_bl rfl) (pss_one (ps_ret pe_bl))) pss_nil)
    (pss_cons (ps_if (pt_val (pe_m1 PySem.F.slot_str_startswith PySem.F.type_str_startswith mt_startswith (pv 1) pe_str)) (pss_one (ps_ret (pe_and (pe_notW (pe_fld (pv 0) rfl)) (pe_one (pe_meth (pv 0) R.cl mP GP hr bP .nil pass0 (pa_cons (pv 1) pa_nil)))))) pss_nil)
    (pss_one (ps_ret (pe_meth (pv 0) R.cl mW GW (hr.mono (by decide)) bW .nil pass0 (pa_cons (pv 1) pa_nil))))))), ?_⟩
  obtain ⟨dx, nm, i, o, hp, hP, hW, hH, h16⟩ := hR
  obtain ⟨hd0, ps, ws, dn⟩ := st
  dsimp only at hp hP hW hH h16 hwl
  have hP' : H d = some (.dK (ps.map fun p => (Sum.inr p.1, V.str p.2))) := hP
  obtain ⟨wd, hwd⟩ : ∃ kvs, H dw = some (.dT kvs) := ⟨_, hW.choose_spec.2.1⟩
  have npd : d ≠ p := fun z => by rw [z, hp] at hP'; cases hP'
  have npw : dw ≠ p := fun z => by rw [z, hp] at hwd; cases hwd
  have ndw : dw ≠ d := fun z => by rw [z, hP'] at hwd; cases hwd
  have tp : NoTup H p := fun xs => ⟨fun z => by (rw [hp] at z; cases z), fun o z => by (rw [hp] at z; cases z)⟩
  have td : NoTup H d := fun xs => ⟨fun z => by (rw [hP'] at z; cases z), fun o z => by (rw [hP'] at z; cases z)⟩
  have tw : NoTup H dw := fun xs => ⟨fun z => by (rw [hwd] at z; cases z), fun o z => by (rw [hwd] at z; cases z)⟩
  cases hd0 with
  | none =>
    have e : nm = .non := hH
    subst e
    refine ⟨_, rfl, p, C, dx, _, _, rfl, hp, R.cl, R.nN, rfl, rfl, _, rfl, iteT ?_⟩
    refine ⟨_, rfl, p, dx, _, rfl, hp, rfl, _, rfl, ?_⟩
    dsimp only [tNil, List.append_nil]
    refine ⟨p, dx, _, row, rfl, hp, rfl, by show 8 ≤ 20; decide, hrow, fun hk H' s' => ?_, fun hk a b H' s' hp' ha hb => ?_⟩
    · exact kF (by show (if okHead row then _ else none) = none; rw [if_neg hk]) H' s'
    · refine kT ⟨some (headName row, headIns row, headOuts row), ps, ws, dn⟩ (by show (if okHead row then _ else none) = _; rw [if_pos hk]) H' (.of_p s') ⟨dx, .str (headName row), a, b, hp', s' _ _ npd hP, hW.X s' tp npw, ⟨rfl, ha, hb⟩, h16⟩
  | some r =>
  obtain ⟨n, ins, outs⟩ := r
  obtain ⟨rfl, hi, ho⟩ := hH
  refine ⟨_, rfl, p, C, dx, _, _, rfl, hp, R.cl, R.nN, rfl, rfl, _, rfl, iteF ?_⟩
  refine ⟨_, rfl, p, C, dx, _, _, rfl, hp, R.cl, R.nD, rfl, _, rfl, ?_⟩
  cases dn with
  | true => exact iteT (kF rfl H (Same.refl H))
  | false =>
  refine iteF ⟨_, rfl, rfl, _, rfl, ?_⟩
  by_cases he : row = "end"
  · rw [decide_eq_true (congrArg V.str he)]
    refine iteT ⟨_, rfl, p, C, dx, _, rfl, hp, R.cl, R.nD, by show 8 < 1000; decide, ?_⟩
    refine kT ⟨some (n, ins, outs), ps, ws, true⟩ (by show (if false = true then none else if row = "end" then _ else _) = _; rw [if_neg Bool.false_ne_true, if_pos he]) _ (.of_p SameX.put) ⟨dx, .str n, i, o, upd_same, ?_, hW.X SameX.put tp npw, ⟨rfl, ixT_X SameX.put tp hi, ixT_X SameX.put tp ho⟩, h16⟩
    exact (upd_ne npd).trans hP'
  rw [decide_eq_false (fun z => he (V.str.inj z))]
  have estep : step ⟨some (n, ins, outs), ps, ws, false⟩ row = if Txt.startswith row "  part " = true then (if ws.isEmpty = true then (takePart ps row).map fun ps => (⟨some (n, ins, outs), ps, ws, false⟩ : RS) else none) else (takeWire (ps.map (·.1)) ins outs ws row).map fun ws => (⟨some (n, ins, outs), ps, ws, false⟩ : RS) := by
    show (if false = true then none else if row = "end" then _ else _) = _
    rw [if_neg Bool.false_ne_true, if_neg he]
  rw [estep] at kF kT
  refine iteF ⟨_, rfl, ⟨_, rfl⟩, _, _, rfl, rfl, _, rfl, ?_⟩
  cases hst : Txt.startswith row "  part " with
  | true =>
    rw [if_pos hst] at kF kT
    refine iteT ⟨_, rfl, p, C, dx, _, _, rfl, hp, R.cl, R.nW, rfl, dw, _, rfl, hW.choose_spec.2.1, _, rfl, ?_⟩
    have hem : ((ws.zip hW.choose).map fun q => (keyOf q.1.1, V.ref q.2)).isEmpty = ws.isEmpty := by
      have hl := hW.choose_spec.1
      generalize hW.choose = as at hl
      cases ws <;> cases as <;> first | rfl | cases hl
    rw [hem]
    cases hwe : ws.isEmpty with
    | false =>
      rw [if_neg (by rw [hwe]; exact Bool.false_ne_true)] at kF
      exact iteF (kF rfl H (Same.refl H))
    | true =>
    rw [if_pos hwe] at kF kT
    refine iteT ⟨_, rfl, p, dx, _, rfl, hp, rfl, _, rfl, ?_⟩
    dsimp only [tNil, List.append_nil]
    refine ⟨p, dx, d, _, row, ps, rfl, hp, rfl, rfl, hP, h16, hrow, fun e H' s' => kF (by rw [e]; rfl) H' s', fun ps' e H' s' hP1 => ?_⟩
    refine kT ⟨some (n, ins, outs), ps', ws, false⟩ (by rw [e]; rfl) H' (.of_d s') ⟨dx, .str n, i, o, s' _ _ npd.symm hp, hP1, hW.X s' td ndw, ⟨rfl, ixT_X s' td hi, ixT_X s' td ho⟩, takePart_len e⟩
  | false =>
    rw [if_neg (by rw [hst]; exact Bool.false_ne_true)] at kF kT
    refine iteF ⟨_, rfl, p, dx, _, rfl, hp, rfl, _, rfl, ?_⟩
    dsimp only [tNil, List.append_nil]
    refine ⟨p, dx, d, dw, o, i, _, row, ps, ins, outs, ws, rfl, hp, rfl, rfl, rfl, rfl, rfl, hP, hW, hi.sq, ho.sq, hwl, hrow, fun e H' s' => kF (by rw [e]; rfl) H' s', fun ws' e H' s' hW1 => ?_⟩
    refine kT ⟨some (n, ins, outs), ps, ws', false⟩ (by rw [e]; rfl) H' (.of_w s') ⟨dx, .str n, i, o, s' _ _ npw.symm hp, s' _ _ ndw.symm hP, hW1, ⟨rfl, ixT_X s' tw hi, ixT_X s' tw ho⟩, h16⟩
end
end K28
namespace K28
open PySem L2 Own StX ClX NdefX
/-! ### texts in order -/
def leS (x y : Str) : Prop := x.cps.toList ≤ y.cps.toList
theorem leS_iff {x y : Str} : leS x y ↔ PySem.Spec.ltCps y.cps.toList x.cps.toList = false := by
  rw [PyProof.Rows.ltCps_eq]
  unfold leS
  rw [decide_eq_false_iff_not, List.not_lt]
theorem leS_anti {x y : Str} (h : leS x y) (g : leS y x) : x = y := TL.ext_tl (List.le_antisymm h g)
theorem leS_trans {x y z : Str} (h : leS x y) (g : leS y z) : leS x z := List.le_trans h g
theorem rising_pw : ∀ (l : List Str) (p : Str), PyProof.Rows.risingS p l = true → (p :: l).Pairwise leS
  | [], p, _ => List.pairwise_singleton _ _
  | x :: r, p, h => by
    simp only [PyProof.Rows.risingS, Bool.and_eq_true, Bool.not_eq_true'] at h
    have ih := rising_pw r x h.2
    have hpx : leS p x := leS_iff.mpr h.1
    refine List.pairwise_cons.mpr ⟨fun y hy => ?_, ih⟩
    rcases List.mem_cons.mp hy with rfl | hy
    · exact hpx
    · exact leS_trans hpx ((List.pairwise_cons.mp ih).1 y hy)
theorem sorted_pw {l : List Str} (h : PyProof.Rows.sortedS l = true) : l.Pairwise leS := by
  cases l with
  | nil => exact List.Pairwise.nil
  | cons p r => exact rising_pw r p h
/-- a text put into a rising list -/
def putS (x : Str) : List Str → List Str
  | [] => [x]
  | y :: r => if PySem.Spec.ltCps y.cps.toList x.cps.toList = true then y :: putS x r else x :: y :: r
def sortS : List Str → List Str
  | [] => []
  | x :: r => putS x (sortS r)
theorem putS_perm (x : Str) : ∀ l, (putS x l).Perm (x :: l)
  | [] => List.Perm.refl _
  | y :: r => by
    unfold putS
    split
    · exact ((putS_perm x r).cons y).trans (List.Perm.swap x y r)
    · exact List.Perm.refl _
theorem sortS_perm : ∀ l, (sortS l).Perm l
  | [] => List.Perm.refl _
  | x :: r => (putS_perm x (sortS r)).trans ((sortS_perm r).cons x)
theorem putS_pw (x : Str) : ∀ l, l.Pairwise leS → (putS x l).Pairwise leS
  | [], _ => List.pairwise_singleton _ _
  | y :: r, h => by
    unfold putS
    obtain ⟨h1, h2⟩ := List.pairwise_cons.mp h
    split
    · rename_i q
      refine List.pairwise_cons.mpr ⟨fun z hz => ?_, putS_pw x r h2⟩
      rcases List.mem_cons.mp ((putS_perm x r).mem_iff.mp hz) with rfl | hz
      · have q2 : y.cps.toList < z.cps.toList := by
          rw [PyProof.Rows.ltCps_eq] at q
          exact of_decide_eq_true q
        exact List.le_of_lt q2
      · exact h1 z hz
    · rename_i q
      have hxy : leS x y := leS_iff.mpr (Bool.not_eq_true _ ▸ q)
      refine List.pairwise_cons.mpr ⟨fun z hz => ?_, h⟩
      rcases List.mem_cons.mp hz with rfl | hz
      · exact hxy
      · exact leS_trans hxy (h1 z hz)
theorem sortS_pw : ∀ l, (sortS l).Pairwise leS
  | [] => List.Pairwise.nil
  | x :: r => putS_pw x _ (sortS_pw r)
theorem sortS_eq {l m : List Str} (hl : PyProof.Rows.sortedS l = true) (h : l.Perm m) : l = sortS m :=
  List.Perm.eq_of_pairwise (fun _ _ _ _ => leS_anti) (sorted_pw hl) (sortS_pw m) (h.trans (sortS_perm m).symm)
/-! ### the targets in order -/
def gOf (ws : List (Port × Port)) (p : Str) : List Str := (ws.filter fun w => decide (w.1.1 = p)).map fun w => w.1.2
def orderT (ps : List (Str × Str)) (outs : List Str) (ws : List (Port × Port)) : List Port :=
  (ps.flatMap fun p => (sortS (gOf ws p.1)).map fun n => (p.1, n)) ++ (outs.filter fun o => decide (((Str.empty, o) : Port) ∈ ws.map (·.1))).map fun o => (Str.empty, o)
/-- pairs of texts: tuples at as -/
def PairsAt (H : Hp) (as : List Addr) (ps : List (Str × Str)) : Prop := as.length = ps.length ∧ ∀ (i : Nat) (a : Addr) (p : Str × Str), as[i]? = some a → ps[i]? = some p → H a = some (.tup [.str p.1, .str p.2])
theorem PairsAt.same {H H' : Hp} {as : List Addr} {ps : List (Str × Str)} (h : PairsAt H as ps) (s : Same H H') : PairsAt H' as ps := ⟨h.1, fun i a p e1 e2 => s _ _ (h.2 i a p e1 e2)⟩
theorem PairsAt.keep {H H' : Hp} {as : List Addr} {ps : List (Str × Str)} (h : PairsAt H as ps) (s : ∀ b xs, H b = some (.tup xs) → H' b = some (.tup xs)) : PairsAt H' as ps := ⟨h.1, fun i a p e1 e2 => s _ _ (h.2 i a p e1 e2)⟩
theorem PairsAt.snoc {H : Hp} {as : List Addr} {ps : List (Str × Str)} {t : Addr} {p : Str × Str} (h : PairsAt H as ps) (e : H t = some (.tup [.str p.1, .str p.2])) : PairsAt H (as ++ [t]) (ps ++ [p]) := by
  refine ⟨by rw [List.length_append, List.length_append, h.1]; rfl, fun i a q e1 e2 => ?_⟩
  by_cases hi : i < as.length
  · rw [List.getElem?_append_left hi] at e1
    rw [List.getElem?_append_left (by rw [← h.1]; exact hi)] at e2
    exact h.2 i a q e1 e2
  · rw [List.getElem?_append_right (by omega)] at e1
    rw [List.getElem?_append_right (by rw [← h.1]; omega), ← h.1] at e2
    cases hk : i - as.length with
    | zero =>
      rw [hk] at e1 e2
      cases e1
      cases e2
      exact e
    | succ k =>
      rw [hk] at e1
      cases e1
/-- the dict from parts to lists -/
def nmK (ps : List (Str × Str)) (ls : List Addr) : List (Key × V) := (ps.zip ls).map fun q => (Sum.inr q.1.1, V.ref q.2)
def ListsAt (H0 H : Hp) (ps : List (Str × Str)) (ls : List Addr) (g : Str → List Str) : Prop := ∀ (i : Nat) (p : Str × Str) (l : Addr), ps[i]? = some p → ls[i]? = some l → H0 l = none ∧ H l = some (.lst ((g p.1).map V.str))
theorem nm_snoc {ps : List (Str × Str)} {ls : List Addr} {p : Str × Str} {l : Addr} (h : ls.length = ps.length) : nmK (ps ++ [p]) (ls ++ [l]) = nmK ps ls ++ [(Sum.inr p.1, V.ref l)] := by
  unfold nmK
  rw [List.zip_append h.symm, List.map_append]
  rfl
theorem nm_put {ps : List (Str × Str)} {ls : List Addr} {p : Str × Str} {l : Addr} (h : ls.length = ps.length) (n : ¬ p.1 ∈ ps.map (·.1)) : putK (nmK ps ls) (Sum.inr p.1) (V.ref l) = nmK (ps ++ [p]) (ls ++ [l]) := by
  rw [nm_snoc h]
  unfold putK
  rw [if_neg]
  intro q
  obtain ⟨kv, hkv, e⟩ := List.any_eq_true.mp q
  obtain ⟨⟨r, b⟩, hr, rfl⟩ := List.mem_map.mp hkv
  have e2 : r.1 = p.1 := Sum.inr.inj (of_decide_eq_true e)
  exact n (List.mem_map.mpr ⟨r, (List.of_mem_zip hr).1, e2⟩)
theorem nm_val : ∀ (ps : List (Str × Str)) (ls : List Addr), ls.length = ps.length → (ps.map (·.1)).Nodup → ∀ (i : Nat) (p : Str × Str) (l : Addr), ps[i]? = some p → ls[i]? = some l → valV (nmK ps ls) (Sum.inr p.1) = some (V.ref l)
  | [], _, _, _, i, p, l, e, _ => by cases e
  | _ :: _, [], h, _, _, _, _, _, _ => by cases h
  | q :: ps, m :: ls, h, nd, 0, p, l, e1, e2 => by
    cases e1
    cases e2
    unfold valV nmK
    rw [List.zip_cons_cons, List.map_cons, List.find?_cons, decide_eq_true rfl]
    rfl
  | q :: ps, m :: ls, h, nd, i + 1, p, l, e1, e2 => by
    have ih := nm_val ps ls (Nat.succ.inj h) (List.nodup_cons.mp nd).2 i p l e1 e2
    have hne : ¬ ((Sum.inr q.1 : Key) = Sum.inr p.1) := fun z => (List.nodup_cons.mp nd).1 (by
      have e : q.1 = p.1 := Sum.inr.inj z
      show q.1 ∈ _
      rw [e]
      exact List.mem_map.mpr ⟨p, List.mem_of_getElem? e1, rfl⟩)
    unfold valV nmK at *
    rw [List.zip_cons_cons, List.map_cons, List.find?_cons, decide_eq_false hne]
    exact ih
theorem gOf_snoc {ws : List (Port × Port)} {w : Port × Port} {p : Str} : gOf (ws ++ [w]) p = if w.1.1 = p then gOf ws p ++ [w.1.2] else gOf ws p := by
  unfold gOf
  rw [List.filter_append, List.map_append]
  by_cases h : w.1.1 = p
  · rw [if_pos h]
    simp [h]
  · rw [if_neg h]
    simp [h]
theorem gOf_len (ws : List (Port × Port)) (p : Str) : (gOf ws p).length ≤ ws.length := by
  unfold gOf
  rw [List.length_map]
  exact List.length_filter_le _ _
theorem flat_len {ps : List (Str × Str)} {ws : List (Port × Port)} : (ps.flatMap fun p => (sortS (gOf ws p.1)).map fun n => (p.1, n)).length ≤ ps.length * ws.length := by
  induction ps with
  | nil => exact Nat.zero_le _
  | cons p r ih =>
    rw [List.flatMap_cons, List.length_append, List.length_cons, List.length_map, (sortS_perm _).length_eq, Nat.succ_mul]
    have := gOf_len ws p.1
    omega
end K28
namespace K28
open PySem L2 Own StX ClX NdefX
def spOrder (K : PySem.W.Frag) : Sp := fun vs H Q _ => ∃ (pa o dw : Addr) (as : List Addr) (ps : List (Str × Str)) (outs : List Str) (ws : List (Port × Port)), vs = [.ref pa, .ref o, .ref dw] ∧ SqT K H pa (as.map V.ref) ∧ PairsAt H as ps ∧ SqT K H o (outs.map V.str) ∧ WiresAt H dw ws ∧
  ps.length ≤ 16 ∧ outs.length ≤ 8 ∧ ws.length ≤ 1000000 ∧ (ps.map (·.1)).Nodup ∧ (∀ p ∈ ps, p.1.length ≠ 0) ∧ (∀ w ∈ ws, (w.1.1.length = 0 ∨ w.1.1 ∈ ps.map (·.1)) ∧ w.1.1.length ≤ 200000) ∧
  ∀ L bs H', Same H H' → H' L = some (.lst (bs.map V.ref)) → PairsAt H' bs (orderT ps outs ws) → Q (.ref L) H'
theorem kv_at {ws : List (Port × Port)} {was : List Addr} {i : Nat} {k : List Key} {v : V} (h : ((ws.zip was).map fun q => (keyOf q.1.1, V.ref q.2))[i]? = some (k, v)) : ∃ w, ws[i]? = some w ∧ k = keyOf w.1 := by
  rw [List.getElem?_map] at h
  obtain ⟨⟨w, a⟩, e, h⟩ := Option.map_eq_some_iff.mp h
  have e := (List.getElem?_zip_eq_some.mp e).1
  cases h
  exact ⟨w, e, rfl⟩
theorem tk1 {α : Type} {l : List α} {i : Nat} {x : α} (h : l[i]? = some x) : l.take (i + 1) = l.take i ++ [x] := by rw [List.take_add_one, h]; rfl
section
variable {P : Program} {w : World} {K : PySem.W.Frag} {mg : Str → Option Value} {base : Heap}
abbrev nO : List Str := ["parts", "outputs", "targets", "part", "names", "name", "ordered", "_", "output"]
theorem scO : FnScope nO ["parts", "outputs", "targets"] (defScope sOrder) := ⟨rfl, rfl, rfl, by decide +kernel, rfl, by decide +kernel, by decide +kernel⟩
theorem ok_order {f : Addr} {fd : FuncData} (F : Fun K "order_targets" "order_targets" sOrder f fd) (zso : mg "sorted" = none) : FnOk P w K mg base CX0 1 f fd ["parts", "outputs", "targets"] (spOrder K) := by
  refine F.ok scO (fun vs H Q E h => ?_) (fun cdv A outer s H vs Q E hr h => ?_)
  · obtain ⟨pa, o, dw, as, ps, outs, ws, rfl, _⟩ := h
    rfl
  obtain ⟨pa, o, dw, as, ps, outs, ws, rfl, hpa, hps, ho, hW, h16, ho8, hwl, hnd, hpl, hwk, kk⟩ := h
  have hu1 := Nat.lt_of_le_of_lt (Nat.add_le_add_left (show 1 ≤ 64 by decide) _) hr.units
  refine ⟨_, pss_cons (ps_set (i := 4) scO.nd rfl (.inr rfl) (by exact (pe_dc (own := [("part", 3), ("_", 7)]) (g := gTup K 2 (gCons (gName 3) (gCons (gName 7) gNil))) rfl scO.nd (pi_tup (pv 0)) (blkOk_by (own := [("part", 3), ("_", 7)]) (N := nO) (sc := defScope sOrder) (by decide +kernel)) (fun _ _ _ _ _ => by exact (pg_tup rfl (pgs_cons (pg_name (i := 3) scO.nd rfl (Or.inl rfl)) (pgs_cons (pg_name (i := 7) scO.nd rfl (Or.inl rfl)) pgs_nil)))) (fun _ _ _ _ _ => pts_nil) (fun _ _ _ _ _ => pv 3) (fun _ _ _ _ _ => pe_lst pa_nil))))
    (pss_cons (ps_lock (ps_for PassesOwn.never rfl (pi_keys (pv 2)) (pg_tup (by rfl) (pgs_cons (pg_name (i := 3) scO.nd rfl (.inl rfl)) (pgs_cons (pg_name (i := 5) scO.nd rfl (.inl rfl)) pgs_nil)))
      (pss_one (ps_if (pt_truth (pv 3) (by intro _; rfl)) (pss_one (ps_expr (pe_bm PySem.F.plainAttrs_list PySem.F.slot_list_append PySem.F.type_list_append mt_append (pe_dget hu1 (pv 4) (pv 3) (fun _ _ => rfl)) (pa_cons (pv 5) pa_nil)))) pss_nil))))
    (pss_cons (ps_lock (by exact (ps_setLc2 (i := 6) (own := [("part", 3), ("name", 5)]) (g := gName 3) (g1 := gName 5) (wi1 := iList K (tCB (rSortedL K) (tCons (tDGet (tVar 4) (tVar 3)) tNil))) (vs1 := [5]) rfl scO.nd rfl rfl (sw_true rfl rfl rfl (by decide +kernel)) (pi_keys (pv 4)) (blkOk_by (own := [("part", 3), ("name", 5)]) (N := nO) (sc := defScope sOrder) (by decide +kernel)) (by decide) (fun _ _ _ _ _ => pg_name (i := 3) scO.nd rfl (Or.inl rfl)) (fun _ _ _ _ _ => pts_nil)
      (fun _ _ _ _ _ => by exact (pi_list (pe_callB (id := "sorted") cr_sortedLst (by rfl) zso (by decide +kernel) (pa_cons (pe_dget hu1 (pv 4) (pv 3) (fun _ _ => rfl)) pa_nil)))) (fun _ _ _ _ _ => pg_name (i := 5) scO.nd rfl (Or.inl rfl)) (fun _ _ _ _ _ => pts_nil) (fun _ _ _ _ _ => by exact (pe_tup (pa_cons (pv 3) (pa_cons (pv 5) pa_nil)))))))
    (pss_one (ps_ret (pe_op op_cat (pv 6) (pe_lc (own := [("output", 8)]) (g := gName 8) rfl scO.nd (pi_tup (pv 1)) (blkOk_by (own := [("output", 8)]) (N := nO) (sc := defScope sOrder) (by decide +kernel)) (fun _ _ _ _ _ => pg_name (i := 8) scO.nd rfl (Or.inl rfl)) (fun _ _ _ _ _ => by exact (pts_one (pt_cmp (pc_din hu1 (pe_tup (pa_cons pe_str (pa_cons (pv 8) pa_nil))) (pv 2)) (by rfl))))
      (fun _ _ _ _ _ => by exact (pe_tup (pa_cons pe_str (pa_cons (pv 8) pa_nil)))))))))), ?_⟩
  have sz : ∀ {n : Nat}, n ≤ 16000100 → n ≤ sizeLine := fun h => by rw [sizeLine_eq]; omega
  have hal := hps.1
  -- names = {part: [] for part, _ in parts}
  refine ⟨_, rfl, pa, rfl, ⟨_, hpa⟩, fun dn hdn => ?_⟩
  refine dc_tup (K := K) (a := pa) (xs := as.map V.ref) (fun i H' => Same H H' ∧ ∃ ls : List Addr, ls.length = (ps.take i).length ∧ ls.Nodup ∧ H' dn = some (.dK (nmK (ps.take i) ls)) ∧ ListsAt H H' (ps.take i) ls (fun _ => []))
    ⟨upd_new hdn, [], rfl, List.nodup_nil, upd_same, fun i p l e _ => by cases e⟩ (fun i H' _ q => sqT_same q.1 hpa) ?_ ?_
  · rintro i v H1 hi ⟨s1, ls, hl, hln, hd1, hls⟩
    rw [List.getElem?_map] at hi
    obtain ⟨a, ha, rfl⟩ := Option.map_eq_some_iff.mp hi
    have hilt : i < ps.length := by
      have := (List.getElem?_eq_some_iff.mp ha).1
      omega
    obtain ⟨p, hp⟩ : ∃ p, ps[i]? = some p := ⟨_, List.getElem?_eq_getElem hilt⟩
    have g := s1 _ _ (hps.2 i a p ha hp)
    refine ⟨a, _, rfl, .of g, rfl, _, _, rfl, _, _, rfl, rfl, rfl, ?_⟩
    refine ⟨_, rfl, small1 (by show 0 ≤ 8; decide), fun l hl1 => ⟨_, Sum.inr p.1, rfl, (upd_ne (ne_of_none hd1 hl1)).trans hd1, ?_, same_put (s1.trans (upd_new hl1)) hdn, ls ++ [l], ?_, ?_, ?_, ?_⟩⟩
    · unfold nmK
      rw [List.length_map, List.length_zip, hl, Nat.min_self, List.length_take, sizeLine_eq]
      omega
    · rw [tk1 hp, List.length_append, List.length_append, hl]
      rfl
    · refine List.nodup_append.mpr ⟨hln, List.nodup_cons.mpr ⟨List.not_mem_nil, List.nodup_nil⟩, fun x hx y hy e => ?_⟩
      rw [List.mem_singleton.mp hy] at e
      obtain ⟨j, hj, rfl⟩ := List.getElem_of_mem hx
      have z := (hls j (ps.take i)[j] ls[j] (List.getElem?_eq_getElem (by omega)) (List.getElem?_eq_getElem hj)).2
      rw [e, hl1] at z
      cases z
    · rw [upd_same, tk1 hp, nm_put hl]
      intro hm
      have nd2 : ((ps.take (i + 1)).map (·.1)).Nodup := List.Nodup.sublist ((List.take_sublist _ _).map _) hnd
      rw [tk1 hp, List.map_append] at nd2
      exact (List.nodup_append.mp nd2).2.2 _ hm _ (List.mem_singleton.mpr rfl) rfl
    · intro j q m e1 e2
      rw [tk1 hp] at e1
      have ne1 : m ≠ dn → m ≠ l → upd (upd H1 l (.lst [])) dn (.dK (putK (nmK (ps.take i) ls) (Sum.inr p.1) (V.ref l))) m = H1 m := fun n1 n2 => by rw [upd_ne n1, upd_ne n2]
      by_cases hj : j < ls.length
      · rw [List.getElem?_append_left (by omega)] at e1
        rw [List.getElem?_append_left hj] at e2
        obtain ⟨z1, z2⟩ := hls j q m e1 e2
        refine ⟨z1, (ne1 (fun e => ?_) (ne_of_none z2 hl1)).trans z2⟩
        rw [e, hd1] at z2
        cases z2
      · rw [List.getElem?_append_right (by omega), hl] at e2
        rw [List.getElem?_append_right (by omega)] at e1
        cases hk : j - (ps.take i).length with
        | zero =>
          rw [hk] at e1 e2
          cases e1
          cases e2
          have nld : l ≠ dn := (ne_of_none hd1 hl1).symm
          exact ⟨s1.free hl1, (upd_ne nld).trans upd_same⟩
        | succ k =>
          rw [hk] at e1
          cases e1
  rintro H1 ⟨s1, ls, hl, hln, hd1, hls⟩
  rw [List.take_of_length_le (by rw [List.length_map]; omega)] at hl hd1 hls
  -- for part, name in targets
  obtain ⟨was, hwa, hwd, hwt⟩ := hW
  have hkl : ((ws.zip was).map fun q => (keyOf q.1.1, V.ref q.2)).length = ws.length := by rw [List.length_map, List.length_zip, hwa, Nat.min_self]
  generalize hkvs : ((ws.zip was).map fun q => (keyOf q.1.1, V.ref q.2)) = kvs at hwd hkl
  have ndw : dn ≠ dw := (ne_of_none hwd hdn).symm
  refine ⟨dw, _, s1 _ _ hwd, trivial, fun od => ⟨_, rfl, dw, od, rfl, .inr ⟨kvs, upd_same, ?_⟩⟩⟩
  refine for_it walk_keysT (fun i σ H' => ∃ u v : Option V, σ = [some (.ref pa), some (.ref o), some (.ref dw), u, some (.ref dn), v, none, none, none] ∧ (∀ b z, b ≠ dw → H b = some z → H' b = some z) ∧ H' dw = some (.frz od (.dT kvs)) ∧ H' dn = some (.dK (nmK ps ls)) ∧ ListsAt H H' ps ls (gOf (ws.take i)))
    ⟨none, none, rfl, fun b z n e => (upd_ne n).trans (s1 _ _ e), upd_same, (upd_ne ndw).trans hd1, fun i p l e1 e2 => ?_⟩ (fun i σ H' _ q => ?_) ?turn ?done
  · obtain ⟨z1, z2⟩ := hls i p l e1 e2
    refine ⟨z1, (upd_ne fun e => ?_).trans z2⟩
    rw [e, hwd] at z1
    cases z1
  · obtain ⟨u, v, _, _, z, _⟩ := q
    exact z
  case turn =>
    rintro i x σ H2 H3 hi ⟨u, v, rfl, s2, hf2, hd2, hls2⟩ ⟨rfl, k, vv, q, hk, rfl, hq⟩
    rw [← hkvs] at hk
    obtain ⟨w1, hw1, rfl⟩ := kv_at hk
    have hwm := hwk w1 (List.mem_of_getElem? hw1)
    refine ⟨q, _, rfl, .of hq, rfl, _, _, rfl, _, _, rfl, rfl, ?_⟩
    refine ⟨_, rfl, _, ⟨sz (by have := hwm.2; omega), rfl⟩, ?_⟩
    by_cases h0 : w1.1.1.length = 0
    · rw [show ((w1.1.1.length : Int) != 0) = false by simp [h0]]
      refine iteF ⟨_, _, rfl, s2, hf2, hd2, fun j p l e1 e2 => ?_⟩
      obtain ⟨z1, z2⟩ := hls2 j p l e1 e2
      refine ⟨z1, ?_⟩
      rw [tk1 hw1, gOf_snoc, if_neg (fun e => hpl p (List.mem_of_getElem? e1) (by rw [← e]; exact h0))]
      exact z2
    · rw [show ((w1.1.1.length : Int) != 0) = true by simp [h0]]
      obtain ⟨p1, hp1m, hp1⟩ := List.mem_map.mp (hwm.1.resolve_left h0)
      obtain ⟨j, hj, rfl⟩ := List.getElem_of_mem hp1m
      have hjl : j < ls.length := by omega
      have ej : ps[j]? = some ps[j] := List.getElem?_eq_getElem hj
      have el : ls[j]? = some ls[j] := List.getElem?_eq_getElem hjl
      obtain ⟨z1, z2⟩ := hls2 j _ _ ej el
      have gl : (gOf (ws.take i) ps[j].1).length ≤ 1000000 := Nat.le_trans (gOf_len _ _) (by rw [List.length_take]; omega)
      refine iteT ⟨_, rfl, _, rfl, dn, .ref ls[j], rfl, .inl ⟨_, Sum.inr w1.1.1, .inl hd2, rfl, ?_⟩, .inl ⟨rfl, _, .of z2⟩, _, rfl, ls[j], _, _, rfl, rfl, z2, by rw [List.length_map]; exact Nat.lt_of_le_of_lt gl (by rw [sizeLine_eq]; decide), _, _, rfl, fun b z n e => ?_, ?_, ?_, fun m p l e1 e2 => ?_⟩
      · rw [← hp1, nm_val ps ls hl hnd j _ _ ej el]
      · have nb : b ≠ ls[j] := fun e2 => by rw [e2, z1] at e; cases e
        exact (upd_ne nb).trans (s2 b z n e)
      · have nb : dw ≠ ls[j] := fun e2 => by rw [← e2, hwd] at z1; cases z1
        exact (upd_ne nb).trans hf2
      · have nb : dn ≠ ls[j] := fun e2 => by rw [← e2, hd2] at z2; cases z2
        exact (upd_ne nb).trans hd2
      · obtain ⟨y1, y2⟩ := hls2 m p l e1 e2
        refine ⟨y1, ?_⟩
        rw [tk1 hw1, gOf_snoc]
        by_cases hmj : m = j
        · subst hmj
          rw [ej] at e1
          rw [el] at e2
          cases e1
          cases e2
          rw [if_pos hp1.symm, upd_same, List.map_append]
          rfl
        · have nl : l ≠ ls[j] := fun e => hmj ((List.getElem_inj (h₀ := (List.getElem?_eq_some_iff.mp e2).1) (h₁ := hjl) hln).mp ((List.getElem?_eq_some_iff.mp e2).2.trans e))
          have np : ¬ w1.1.1 = p.1 := fun e => hmj (by
            have e3 : (ps.map (·.1))[m]? = some p.1 := by rw [List.getElem?_map, e1]; rfl
            have e4 : (ps.map (·.1))[j]? = some p.1 := by rw [List.getElem?_map, ej, ← e, ← hp1]; rfl
            have l3 := (List.getElem?_eq_some_iff.mp e3).1
            have l4 := (List.getElem?_eq_some_iff.mp e4).1
            exact (List.getElem_inj (h₀ := l3) (h₁ := l4) hnd).mp ((List.getElem?_eq_some_iff.mp e3).2.trans (List.getElem?_eq_some_iff.mp e4).2.symm))
          rw [if_neg np]
          exact (upd_ne nl).trans y2
  rintro σ H2 ⟨u, v, rfl, s2, hf2, hd2, hls2⟩
  rw [hkl, List.take_length] at hls2
  refine ⟨hf2, ?_⟩
  -- the dict as it was
  have S2 : Same H (upd H2 dw (.dT kvs)) := fun b z e => by
    by_cases hb : b = dw
    · rw [hb] at e ⊢
      rw [upd_same, ← e, hwd]
    · exact (upd_ne hb).trans (s2 b z hb e)
  have hd3 : (upd H2 dw (.dT kvs)) dn = some (.dK (nmK ps ls)) := (upd_ne ndw).trans hd2
  have hls3 : ListsAt H (upd H2 dw (.dT kvs)) ps ls (gOf ws) := fun i p l e1 e2 => by
    obtain ⟨z1, z2⟩ := hls2 i p l e1 e2
    refine ⟨z1, (upd_ne fun e => ?_).trans z2⟩
    rw [e, hwd] at z1
    cases z1
  generalize upd H2 dw (.dT kvs) = H3 at S2 hd3 hls3 ⊢
  -- ordered = [..]
  have hF : ∀ i, ((ps.take i).flatMap fun p => (sortS (gOf ws p.1)).map fun n => (p.1, n)).length ≤ 16000000 := fun i => by
    have h1 := flat_len (ps := ps.take i) (ws := ws)
    have h2 : (ps.take i).length ≤ 16 := Nat.le_trans (by rw [List.length_take]; exact Nat.min_le_right _ _) h16
    have h3 := Nat.mul_le_mul h2 hwl
    exact Nat.le_trans h1 h3
  have hfl : ∀ {a : Addr} {us : List V}, H3 a = some (.tup us) → a ≠ dn := fun {a us} e z => by
    rw [z, hd3] at e
    cases e
  refine ⟨dn, _, hd3, trivial, fun oe => ⟨_, rfl, dn, oe, rfl, .inl ⟨nmK ps ls, upd_same, fun D hD => ?_⟩⟩⟩
  have hDd : D ≠ dn := fun z => by rw [z, upd_same] at hD; cases hD
  have hD3 : H3 D = none := by
    rw [upd_ne hDd] at hD
    exact hD
  have hkn : (nmK ps ls).length = ps.length := by
    unfold nmK
    rw [List.length_map, List.length_zip, hl, Nat.min_self]
  refine out_it walk_keys (fun i H' => (∀ b z, b ≠ dn → H3 b = some z → H' b = some z) ∧ H' dn = some (.frz oe (.dK (nmK ps ls))) ∧ ∃ bs : List Addr, H' D = some (.lst (bs.map V.ref)) ∧ PairsAt H' bs ((ps.take i).flatMap fun p => (sortS (gOf ws p.1)).map fun n => (p.1, n)))
    ⟨fun b z n e => (upd_ne (ne_of_none e hD3)).trans ((upd_ne n).trans e), (upd_ne hDd.symm).trans upd_same, [], upd_same, rfl, fun i a p e _ => by cases e⟩ (fun i H' _ q => q.2.1) ?_ ?_
  · rintro i x H4 H5 hi ⟨s4, hf4, bs, hD4, hb4⟩ ⟨rfl, k, v, hk, rfl⟩
    unfold nmK at hk
    rw [List.getElem?_map] at hk
    obtain ⟨⟨p, l⟩, hz, hk⟩ := Option.map_eq_some_iff.mp hk
    cases hk
    obtain ⟨e1, e2⟩ := List.getElem?_zip_eq_some.mp hz
    have e1 : ps[i]? = some p := e1
    have e2 : ls[i]? = some l := e2
    obtain ⟨z1, z2⟩ := hls3 i p l e1 e2
    have nl : l ≠ dn := fun z => by rw [z, hd3] at z2; cases z2
    have hl4 := s4 _ _ nl z2
    refine ⟨rfl, _, rfl, _, rfl, dn, .ref l, rfl, .inl ⟨_, Sum.inr p.1, .inr ⟨oe, hf4⟩, rfl, (nm_val ps ls hl hnd i p l e1 e2).symm⟩, l, _, rfl, .of hl4, fun ys q hperm hsort hq => ⟨q, rfl, ⟨_, .of upd_same⟩, ?_⟩⟩
    obtain rfl := sortS_eq hsort hperm
    have hqD : q ≠ D := fun z => by rw [z, hD4] at hq; cases hq
    have hqn : q ≠ dn := fun z => by rw [z, hf4] at hq; cases hq
    refine out_it (walk_list (xs := (sortS (gOf ws p.1)).map V.str)) (fun j H' => (∀ b z, b ≠ dn → H3 b = some z → H' b = some z) ∧ H' dn = some (.frz oe (.dK (nmK ps ls))) ∧ H' q = some (.lst ((sortS (gOf ws p.1)).map V.str)) ∧ ∃ bs : List Addr, H' D = some (.lst (bs.map V.ref)) ∧ PairsAt H' bs (((ps.take i).flatMap fun p => (sortS (gOf ws p.1)).map fun n => (p.1, n)) ++ ((sortS (gOf ws p.1)).take j).map fun n => (p.1, n)))
      ⟨fun b z n e => (upd_ne (ne_of_none (s4 b z n e) hq)).trans (s4 b z n e), (upd_ne hqn.symm).trans hf4, upd_same, bs, (upd_ne hqD.symm).trans hD4, ?_⟩ (fun j H' _ z => .of z.2.2.1) ?_ ?_
    · rw [List.take_zero, List.map_nil, List.append_nil]
      exact hb4.same (upd_new hq)
    · rintro j y H6 H7 hj ⟨s6, hf6, hq6, cs, hD6, hc6⟩ ⟨rfl, hy⟩
      rw [List.getElem?_map] at hy
      obtain ⟨n, hn, rfl⟩ := Option.map_eq_some_iff.mp hy
      refine ⟨rfl, _, rfl, _, rfl, small1 (by show 2 ≤ 8; decide), fun t ht => ⟨_, (upd_ne (ne_of_none hD6 ht)).trans hD6, ?_, ?_, ?_, ?_, cs ++ [t], ?_, ?_⟩⟩
      · rw [List.length_map, hc6.1, List.length_append, List.length_map, List.length_take]
        have g1 := hF (i + 1)
        rw [tk1 e1, List.flatMap_append, List.length_append] at g1
        have g2 : ([p].flatMap fun p => (sortS (gOf ws p.1)).map fun n => (p.1, n)).length = (sortS (gOf ws p.1)).length := by simp
        rw [g2] at g1
        exact Nat.lt_of_le_of_lt (show _ ≤ 16000000 by omega) (by rw [sizeLine_eq]; decide)
      · exact fun b z n e => (upd_ne (ne_of_none e hD3)).trans ((upd_ne (ne_of_none (s6 b z n e) ht)).trans (s6 b z n e))
      · exact (upd_ne hDd.symm).trans ((upd_ne (ne_of_none hf6 ht)).trans hf6)
      · exact (upd_ne hqD).trans ((upd_ne (ne_of_none hq6 ht)).trans hq6)
      · rw [upd_same, List.map_append]
        rfl
      · rw [tk1 hn, List.map_append, ← List.append_assoc]
        refine PairsAt.snoc (hc6.keep fun b us e => ?_) ?_
        · have nb : b ≠ D := fun z => by rw [z, hD6] at e; cases e
          exact (upd_ne nb).trans ((upd_ne (ne_of_none e ht)).trans e)
        · exact (upd_ne (ne_of_none hD6 ht).symm).trans upd_same
    · rintro H6 ⟨s6, hf6, hq6, cs, hD6, hc6⟩
      refine ⟨s6, hf6, cs, hD6, ?_⟩
      rw [List.length_map, List.take_length] at hc6
      rw [tk1 e1, List.flatMap_append]
      simpa using hc6
  rintro H4 ⟨s4, hf4, bs, hD4, hb4⟩
  rw [hkn, List.take_length] at hb4
  refine ⟨hf4, ?_⟩
  have S4 : Same H (upd H4 dn (.dK (nmK ps ls))) := fun b z e => by
    have nb := ne_of_none e hdn
    exact (upd_ne nb).trans (s4 b z nb (S2 b z e))
  have hD5 : (upd H4 dn (.dK (nmK ps ls))) D = some (.lst (bs.map V.ref)) := (upd_ne hDd).trans hD4
  have hb5 : PairsAt (upd H4 dn (.dK (nmK ps ls))) bs (ps.flatMap fun p => (sortS (gOf ws p.1)).map fun n => (p.1, n)) := hb4.keep fun b us e => by
    have nb : b ≠ dn := fun z => by rw [z, hf4] at e; cases e
    exact (upd_ne nb).trans e
  generalize upd H4 dn (.dK (nmK ps ls)) = H5 at S4 hD5 hb5 ⊢
  -- .. + [('', output) for output in outputs if ('', output) in targets]
  have hF1 := hF ps.length
  rw [List.take_length] at hF1
  refine ⟨_, rfl, _, rfl, o, rfl, ⟨_, sqT_same S4 ho⟩, fun D2 hD2 => ?_⟩
  refine lc_tup (K := K) (a := o) (xs := outs.map V.str) (fun i H' => Same H5 H' ∧ ∃ cs : List Addr, H' D2 = some (.lst (cs.map V.ref)) ∧ PairsAt H' cs (((outs.take i).filter fun o => decide (((Str.empty, o) : Port) ∈ ws.map (·.1))).map fun o => (Str.empty, o))) ⟨upd_new hD2, [], upd_same, rfl, fun i a p e _ => by cases e⟩ (fun i H' _ q => sqT_same (S4.trans q.1) ho) ?_ ?_
  · rintro i v H6 hi ⟨s6, cs, hD6, hc6⟩
    rw [List.getElem?_map] at hi
    obtain ⟨y, hy, rfl⟩ := Option.map_eq_some_iff.mp hi
    refine ⟨rfl, _, rfl, small1 (by show 2 ≤ 8; decide), fun t ht => ⟨_, rfl, dw, _, rfl, DGet.t (k := keyOf (Str.empty, y)) (((S4.trans s6).trans (upd_new ht)) _ _ hwd) upd_same, _, rfl, ?_⟩⟩
    rw [val_any, ← hkvs, any_wires (Str.empty, y) ws was hwa]
    have cl : cs.length ≤ 8 := by
      rw [hc6.1, List.length_map]
      exact Nat.le_trans (List.length_filter_le _ _) (Nat.le_trans (by rw [List.length_take]; exact Nat.min_le_right _ _) ho8)
    by_cases hm : (((Str.empty, y) : Port) ∈ ws.map (·.1))
    · rw [decide_eq_true hm]
      refine iteT ⟨_, rfl, small1 (by show 2 ≤ 8; decide), fun t2 ht2 => ⟨_, (upd_ne ?_).trans ((upd_ne ?_).trans hD6), by rw [List.length_map]; exact Nat.lt_of_le_of_lt cl (by rw [sizeLine_eq]; decide), ?_, cs ++ [t2], ?_, ?_⟩⟩
      · exact ne_of_none ((upd_ne (ne_of_none hD6 ht)).trans hD6) ht2
      · exact ne_of_none hD6 ht
      · exact same_put (s6.trans ((upd_new ht).trans (upd_new ht2))) hD2
      · rw [upd_same, List.map_append]
        rfl
      · rw [tk1 hy, List.filter_append, List.map_append]
        have ef : ([y].filter fun o => decide (((Str.empty, o) : Port) ∈ ws.map (·.1))) = [y] := by simp [hm]
        rw [ef]
        have hD7 : upd (upd H6 t (.tup [V.str "", .str y])) t2 (.tup [V.str "", .str y]) D2 = some (.lst (cs.map V.ref)) := (upd_ne (ne_of_none ((upd_ne (ne_of_none hD6 ht)).trans hD6) ht2)).trans ((upd_ne (ne_of_none hD6 ht)).trans hD6)
        refine PairsAt.snoc ((hc6.same ((upd_new ht).trans (upd_new (o := HO.tup [V.str "", .str y]) ht2))).keep fun b us e => ?_) ?_
        · have nb : b ≠ D2 := fun z => by rw [z, hD7] at e; cases e
          exact (upd_ne nb).trans e
        · refine (upd_ne fun z => ?_).trans upd_same
          rw [← z, upd_same] at hD7
          cases hD7
    · rw [decide_eq_false hm]
      refine iteF ⟨s6.trans (upd_new ht), cs, (upd_ne (ne_of_none hD6 ht)).trans hD6, ?_⟩
      rw [tk1 hy, List.filter_append]
      have ef : ([y].filter fun o => decide (((Str.empty, o) : Port) ∈ ws.map (·.1))) = [] := by simp [hm]
      rw [ef, List.append_nil]
      exact hc6.same (upd_new ht)
  rintro H6 ⟨s6, cs, hD6, hc6⟩
  rw [List.length_map, List.take_length] at hc6
  refine ⟨D, D2, _, _, rfl, rfl, s6 _ _ hD5, hD6, ?_, fun L hL => ?_⟩
  · have hcl : cs.length ≤ 8 := by
      rw [hc6.1, List.length_map]
      exact Nat.le_trans (List.length_filter_le _ _) ho8
    rw [List.length_map, List.length_map, hb5.1]
    exact sz (by omega)
  refine kk L (bs ++ cs) _ ((S4.trans s6).trans (upd_new hL)) (by rw [upd_same, List.map_append]) ?_
  have hb7 := (hb5.same s6).same (upd_new (o := HO.lst (bs.map V.ref ++ cs.map V.ref)) hL)
  have hc7 := hc6.same (upd_new (o := HO.lst (bs.map V.ref ++ cs.map V.ref)) hL)
  unfold orderT
  refine ⟨by rw [List.length_append, List.length_append, hb7.1, hc7.1], fun i a p e1 e2 => ?_⟩
  by_cases hi : i < bs.length
  · rw [List.getElem?_append_left hi] at e1
    rw [List.getElem?_append_left (by rw [← hb7.1]; exact hi)] at e2
    exact hb7.2 i a p e1 e2
  · rw [List.getElem?_append_right (by omega)] at e1
    rw [List.getElem?_append_right (by rw [← hb7.1]; omega), ← hb7.1] at e2
    exact hc7.2 _ a p e1 e2
end
end K28
namespace K28
open PySem L2 Own StX ClX NdefX
def partT (p : Str × Str) : Str := (("  part " : Str) ++ p.1) ++ " = " ++ p.2
def wireT (w : Port × Port) : Str := (("  " : Str) ++ portT w.1.1 w.1.2) ++ " <- " ++ portT w.2.1 w.2.2
def rowsT (name : Str) (ins outs : List Str) (ps : List (Str × Str)) (ws : List (Port × Port)) : List Str := headT name ins outs :: (ps.map partT ++ (ws.map wireT ++ (["end"] : List Str)))
/-- a diagram's texts are short -/
structure DSm (name : Str) (ins outs : List Str) (ps : List (Str × Str)) (ws : List (Port × Port)) : Prop where
  n : name.length ≤ 8
  il : ins.length ≤ 8
  ol : outs.length ≤ 8
  i : ∀ x ∈ ins, x.length ≤ 8
  o : ∀ x ∈ outs, x.length ≤ 8
  pl : ps.length ≤ 16
  p : ∀ p ∈ ps, p.1.length ≤ 8 ∧ p.2.length ≤ 190000
  wl : ws.length ≤ 170000
  w : ∀ w ∈ ws, (w.1.1.length ≤ 8 ∧ w.1.2.length ≤ 8) ∧ w.2.1.length ≤ 8 ∧ w.2.2.length ≤ 8
theorem total_le {c : Nat} : ∀ {l : List Str}, (∀ x ∈ l, x.length ≤ c) → total l ≤ l.length * (c + 1)
  | [], _ => Nat.zero_le _
  | a :: r, h => by
    have e : total (a :: r) = (a.length + 1) + total r := rfl
    have := total_le (l := r) fun x hx => h x (List.mem_cons_of_mem _ hx)
    have := h a List.mem_cons_self
    rw [List.length_cons, Nat.succ_mul]
    omega
theorem portT_len (a b : Str) : (portT a b).length ≤ a.length + b.length + 1 := by
  unfold portT
  split
  · omega
  · rw [sl, sl, show ((".": Str)).length = 1 by decide +kernel]
    omega
theorem partT_len (p : Str × Str) : (partT p).length = p.1.length + p.2.length + 10 := by
  unfold partT
  rw [sl, sl, sl, show (("  part " : Str)).length = 7 by decide +kernel, show ((" = " : Str)).length = 3 by decide +kernel]
  omega
theorem wireT_len (w : Port × Port) : (wireT w).length ≤ w.1.1.length + w.1.2.length + w.2.1.length + w.2.2.length + 8 := by
  unfold wireT
  have h1 := portT_len w.1.1 w.1.2
  have h2 := portT_len w.2.1 w.2.2
  rw [sl, sl, sl, show (("  " : Str)).length = 2 by decide +kernel, show ((" <- " : Str)).length = 4 by decide +kernel]
  omega
theorem sum_le {c : Nat} : ∀ {l : List Str}, (∀ x ∈ l, x.length ≤ c) → (l.map (·.length)).sum ≤ l.length * c
  | [], _ => Nat.zero_le _
  | a :: r, h => by
    have := sum_le (l := r) fun x hx => h x (List.mem_cons_of_mem _ hx)
    have := h a List.mem_cons_self
    rw [List.map_cons, List.sum_cons, List.length_cons, Nat.succ_mul]
    omega
theorem headT_len {name : Str} {ins outs : List Str} : (headT name ins outs).length ≤ name.length + total ins + total outs + 9 := by
  have hj1 := join_len " " ins
  have hj2 := join_len "" (outs.map fun o => (" " : Str) ++ o)
  rw [sum_more] at hj2
  rw [show ((" " : Str)).length = 1 by decide +kernel] at hj1
  have hj1 : (Txt.join " " ins).length ≤ total ins := hj1
  unfold headT
  rw [sl, sl, sl, sl, sl, sl, show (("block " : Str)).length = 6 by decide +kernel, show (("(" : Str)).length = 1 by decide +kernel, show ((";" : Str)).length = 1 by decide +kernel, show ((")" : Str)).length = 1 by decide +kernel]
  omega
theorem rowsT_len {name : Str} {ins outs : List Str} {ps : List (Str × Str)} {ws : List (Port × Port)} (h : DSm name ins outs ps ws) : ((rowsT name ins outs ps ws).map (·.length)).sum + (rowsT name ins outs ps ws).length ≤ 12000000 := by
  unfold rowsT
  have t1 := total_le h.i
  have t2 := total_le h.o
  have hh := headT_len (name := name) (ins := ins) (outs := outs)
  have p1 := sum_le (c := 190018) (l := ps.map partT) fun x hx => by
    obtain ⟨p, hp, rfl⟩ := List.mem_map.mp hx
    have := h.p p hp
    rw [partT_len]
    omega
  have w1 := sum_le (c := 40) (l := ws.map wireT) fun x hx => by
    obtain ⟨w, hw, rfl⟩ := List.mem_map.mp hx
    have := h.w w hw
    have := wireT_len w
    omega
  have e3 : (("end" : Str)).length = 3 := by decide +kernel
  rw [List.length_map] at p1 w1
  simp only [List.map_cons, List.map_append, List.sum_cons, List.sum_append, List.length_cons, List.length_append, List.map_nil, List.sum_nil, List.length_nil, e3] at *
  have := h.pl
  have := h.wl
  have := h.il
  have := h.ol
  have := h.n
  have a1 := Nat.mul_le_mul_right 190018 h.pl
  have a2 := Nat.mul_le_mul_right 40 h.wl
  have a3 := Nat.mul_le_mul_right (8 + 1) h.il
  have a4 := Nat.mul_le_mul_right (8 + 1) h.ol
  rw [List.length_map, List.length_map]
  omega
/-- pairs of ports: tuples of tuples -/
def WPairsAt (H : Hp) (bs : List Addr) (ws : List (Port × Port)) : Prop := bs.length = ws.length ∧ ∀ (i : Nat) (b : Addr) (w : Port × Port), bs[i]? = some b → ws[i]? = some w → ∃ t s, H b = some (.tup [.ref t, .ref s]) ∧ H t = some (.tup [.str w.1.1, .str w.1.2]) ∧ H s = some (.tup [.str w.2.1, .str w.2.2])
theorem WPairsAt.same {H H' : Hp} {bs : List Addr} {ws : List (Port × Port)} (h : WPairsAt H bs ws) (s : Same H H') : WPairsAt H' bs ws := ⟨h.1, fun i a p e1 e2 => by
  obtain ⟨t, q, z1, z2, z3⟩ := h.2 i a p e1 e2
  exact ⟨t, q, s _ _ z1, s _ _ z2, s _ _ z3⟩⟩
def spRows (K : PySem.W.Frag) : Sp := fun vs H Q _ => ∃ (name : Str) (i o pa wa : Addr) (ins outs : List Str) (as bs : List Addr) (ps : List (Str × Str)) (ws : List (Port × Port)), vs = [.str name, .ref i, .ref o, .ref pa, .ref wa] ∧ SqT K H i (ins.map V.str) ∧ SqT K H o (outs.map V.str) ∧
  SqT K H pa (as.map V.ref) ∧ PairsAt H as ps ∧ SqT K H wa (bs.map V.ref) ∧ WPairsAt H bs ws ∧ DSm name ins outs ps ws ∧ ∀ L H', Same H H' → H' L = some (.lst ((rowsT name ins outs ps ws).map V.str)) → Q (.ref L) H'
section
variable {P : Program} {w : World} {K : PySem.W.Frag} {mg : Str → Option Value} {base : Heap}
abbrev nRw : List Str := ["name", "inputs", "outputs", "parts", "wires", "part_rows", "wire_rows", "part", "block", "target", "source"]
theorem scRw : FnScope nRw ["name", "inputs", "outputs", "parts", "wires"] (defScope sRows) := ⟨rfl, rfl, rfl, by decide +kernel, rfl, by decide +kernel, by decide +kernel⟩
theorem ok_rows {f fH fP : Addr} {fd fdH fdP : FuncData} (F : Fun K "diagram_rows" "diagram_rows" sRows f fd) (GH : FnOk P w K mg base CX0 1 fH fdH ["name", "inputs", "outputs"] (spHead K)) (mH : mg "head_row" = some (.ref fH)) (kH : PySem.W.keepIn K (.ref fH) = true) (bH : Binds K fdH ["name", "inputs", "outputs"] [])
    (GP : FnOk P w K mg base CX0 1 fP fdP ["port"] (spPort K)) (mP : mg "port_text" = some (.ref fP)) (kP : PySem.W.keepIn K (.ref fP) = true) (bP : Binds K fdP ["port"] []) : FnOk P w K mg base CX0 2 f fd ["name", "inputs", "outputs", "parts", "wires"] (spRows K) := by
  refine F.ok scRw (fun vs H Q E h => ?_) (fun cdv A outer s H vs Q E hr h => ?_)
  · obtain ⟨name, i, o, pa, wa, ins, outs, as, bs, ps, ws, rfl, _⟩ := h
    rfl
  obtain ⟨name, i, o, pa, wa, ins, outs, as, bs, ps, ws, rfl, hi, ho, hpa, hps, hwa, hws, hd, k⟩ := h
  refine ⟨_, pss_cons (ps_setLc (i := 5) (own := [("part", 7), ("block", 8)]) (g := gTup K 2 (gCons (gName 7) (gCons (gName 8) gNil))) rfl scRw.nd rfl rfl (sw_true rfl rfl rfl (by decide +kernel)) (pi_tup (pv 3)) (blkOk_by (own := [("part", 7), ("block", 8)]) (N := nRw) (sc := defScope sRows) (by decide +kernel)) (fun _ _ _ _ _ => by exact (pg_tup rfl (pgs_cons (pg_name (i := 7) scRw.nd rfl (Or.inl rfl)) (pgs_cons (pg_name (i := 8) scRw.nd rfl (Or.inl rfl)) pgs_nil)))) (fun _ _ _ _ _ => pts_nil)
      (fun _ _ _ _ _ => by exact (pe_joined (.cons pe_str (.cons (pe_fmt (pv 7)) (.cons pe_str (.cons (pe_fmt (pv 8)) .nil)))))))
    (pss_cons (ps_setLc (i := 6) (own := [("target", 9), ("source", 10)]) (g := gTup K 2 (gCons (gName 9) (gCons (gName 10) gNil))) rfl scRw.nd rfl rfl (sw_true rfl rfl rfl (by decide +kernel)) (pi_tup (pv 4)) (blkOk_by (own := [("target", 9), ("source", 10)]) (N := nRw) (sc := defScope sRows) (by decide +kernel)) (fun _ _ _ _ _ => by exact (pg_tup rfl (pgs_cons (pg_name (i := 9) scRw.nd rfl (Or.inl rfl)) (pgs_cons (pg_name (i := 10) scRw.nd rfl (Or.inl rfl)) pgs_nil)))) (fun _ _ _ _ _ => pts_nil)
      (fun _ _ _ _ _ => by exact (pe_joined (.cons pe_str (.cons (pe_fmt (pe_call GP hr rfl mP kP bP .nil pass0 (pa_cons (pv 9) pa_nil))) (.cons pe_str (.cons (pe_fmt (pe_call GP hr rfl mP kP bP .nil pass0 (pa_cons (pv 10) pa_nil))) .nil)))))))
    (pss_one (ps_ret (pe_lst (pa_cons (pe_call GH hr rfl mH kH bH .nil pass0 (pa_cons (pv 0) (pa_cons (pv 1) (pa_cons (pv 2) pa_nil)))) (pa_star (pv 5) (pa_star (pv 6) (pa_cons pe_str pa_nil)))))))), ?_⟩
  have sz : ∀ {n : Nat}, n ≤ 16000100 → n ≤ sizeLine := fun h => by rw [sizeLine_eq]; omega
  have lp : (("  part " : Str)).length = 7 := by decide +kernel
  have lq : ((" = " : Str)).length = 3 := by decide +kernel
  have lb : (("  " : Str)).length = 2 := by decide +kernel
  have la : ((" <- " : Str)).length = 4 := by decide +kernel
  refine ⟨_, rfl, pa, rfl, ⟨_, hpa⟩, fun D hD => ?_⟩
  refine out_it (walk_tup (xs := as.map V.ref)) (fun j H' => Same H H' ∧ H' D = some (.lst (((ps.take j).map partT).map V.str))) ⟨upd_new hD, upd_same⟩ (fun j H' _ q => sqT_same q.1 hpa) ?_ ?_
  · rintro j x H1 H2 hj ⟨s1, hD1⟩ ⟨rfl, hx⟩
    rw [List.getElem?_map] at hx
    obtain ⟨a, ha, rfl⟩ := Option.map_eq_some_iff.mp hx
    obtain ⟨p, hp⟩ : ∃ p, ps[j]? = some p := ⟨_, List.getElem?_eq_getElem (by have := (List.getElem?_eq_some_iff.mp ha).1; have := hps.1; omega)⟩
    have hm := hd.p p (List.mem_of_getElem? hp)
    refine ⟨a, _, rfl, .of (s1 _ _ (hps.2 j a p ha hp)), rfl, _, _, rfl, _, _, rfl, rfl, rfl, ?_⟩
    refine ⟨"  part ", rfl, by rw [emp, lp]; exact sz (by omega), _, rfl, .inl ⟨p.1, rfl, sz (by omega), p.1, rfl, by rw [emp, sl, lp]; exact sz (by omega), " = ", rfl, by rw [emp, sl, sl, lp, lq]; exact sz (by omega), _, rfl, .inl ⟨p.2, rfl, sz (by omega), p.2, rfl, by rw [emp, sl, sl, sl, lp, lq]; exact sz (by omega), ?_⟩⟩⟩
    refine ⟨_, hD1, by rw [List.length_map, List.length_map, List.length_take]; exact Nat.lt_of_le_of_lt (Nat.le_trans (Nat.min_le_right _ _) hd.pl) (by rw [sizeLine_eq]; decide), same_put s1 hD, ?_⟩
    rw [upd_same, tk1 hp, emp, List.map_append, List.map_append]
    rfl
  rintro H1 ⟨s1, hD1⟩
  rw [List.length_map, hps.1, List.take_length] at hD1
  refine ⟨_, rfl, wa, rfl, ⟨_, sqT_same s1 hwa⟩, fun D2 hD2 => ?_⟩
  refine out_it (walk_tup (xs := bs.map V.ref)) (fun j H' => Same H1 H' ∧ H' D2 = some (.lst (((ws.take j).map wireT).map V.str))) ⟨upd_new hD2, upd_same⟩ (fun j H' _ q => sqT_same (s1.trans q.1) hwa) ?_ ?_
  · rintro j x H2 H3 hj ⟨s2, hD3⟩ ⟨rfl, hx⟩
    rw [List.getElem?_map] at hx
    obtain ⟨b, hb, rfl⟩ := Option.map_eq_some_iff.mp hx
    obtain ⟨w1, hw1⟩ : ∃ w, ws[j]? = some w := ⟨_, List.getElem?_eq_getElem (by have := (List.getElem?_eq_some_iff.mp hb).1; have := hws.1; omega)⟩
    have hm := hd.w w1 (List.mem_of_getElem? hw1)
    obtain ⟨t, sr, z1, z2, z3⟩ := (hws.same (s1.trans s2)).2 j b w1 hb hw1
    have p1 := portT_len w1.1.1 w1.1.2
    have p2 := portT_len w1.2.1 w1.2.2
    refine ⟨b, _, rfl, .of z1, rfl, _, _, rfl, _, _, rfl, rfl, rfl, ?_⟩
    refine ⟨"  ", rfl, by rw [emp, lb]; exact sz (by omega), _, rfl, t, w1.1.1, w1.1.2, rfl, .of z2, by omega, by omega, .inl ⟨_, rfl, sz (by omega), _, rfl, by rw [emp, sl, lb]; exact sz (by omega), " <- ", rfl, by rw [emp, sl, sl, lb, la]; exact sz (by omega), _, rfl, sr, w1.2.1, w1.2.2, rfl, .of z3, by omega, by omega, .inl ⟨_, rfl, sz (by omega), _, rfl, by rw [emp, sl, sl, sl, lb, la]; exact sz (by omega), ?_⟩⟩⟩
    refine ⟨_, hD3, by rw [List.length_map, List.length_map, List.length_take]; exact Nat.lt_of_le_of_lt (Nat.le_trans (Nat.min_le_right _ _) hd.wl) (by rw [sizeLine_eq]; decide), same_put s2 hD2, ?_⟩
    rw [upd_same, tk1 hw1, emp, List.map_append, List.map_append]
    rfl
  rintro H2 ⟨s2, hD3⟩
  rw [List.length_map, hws.1, List.take_length] at hD3
  have t1 := total_le hd.i
  have t2 := total_le hd.o
  have a3 := Nat.mul_le_mul_right (8 + 1) hd.il
  have a4 := Nat.mul_le_mul_right (8 + 1) hd.ol
  have s12 := s1.trans s2
  refine ⟨_, rfl, _, rfl, _, rfl, name, i, o, ins, outs, rfl, sqT_same s12 hi, sqT_same s12 ho, by have := hd.n; omega, by omega, by omega, by have := hd.ol; omega, fun H3 s3 => ?_⟩
  refine ⟨_, rfl, D, _, rfl, .inr (.of (s3 _ _ (s2 _ _ hD1))), _, rfl, D2, _, rfl, .inr (.of (s3 _ _ hD3)), ?_, fun L hL => ?_⟩
  · have := hd.pl
    have := hd.wl
    simp only [List.length_cons, List.length_append, List.length_map, List.length_nil]
    exact sz (by omega)
  · refine k L _ (s12.trans (s3.trans (upd_new hL))) ?_
    rw [upd_same]
    unfold rowsT
    simp only [List.map_cons, List.map_append, List.map_nil]
end
end K28
namespace K28
open PySem L2 Own StX ClX NdefX
abbrev sBI : Stmt := inClass (top 31) 0
abbrev sDI : Stmt := inClass (top 33) 2
def spBI (K : PySem.W.Frag) : Sp := fun vs H Q _ => ∃ (p C dx : Addr) (n i o : V), vs = [.ref p, n, i, o] ∧ H p = some (.ins C dx []) ∧ Cls K C ∧ NoAttr K C "name" ∧ NoAttr K C "inputs" ∧ NoAttr K C "outputs" ∧ Q .non (upd H p (.ins C dx [("name", n), ("inputs", i), ("outputs", o)]))
def fsD (n i o : V) (pa wa : Addr) : List (Str × V) := [("name", n), ("inputs", i), ("outputs", o), ("parts", .ref pa), ("wires", .ref wa)]
def srcOf (ws : List (Port × Port)) (t : Port) : Port := ((ws.find? fun w => decide (w.1 = t)).map (·.2)).getD (Str.empty, Str.empty)
def wiresOf (ps : List (Str × Str)) (outs : List Str) (ws : List (Port × Port)) : List (Port × Port) := (orderT ps outs ws).map fun t => (t, srcOf ws t)
theorem val_wire (t : Port) : ∀ (ws : List (Port × Port)) (was : List Addr), was.length = ws.length → t ∈ ws.map (·.1) → ∃ (j : Nat) (w : Port × Port) (a : Addr), ws[j]? = some w ∧ was[j]? = some a ∧ srcOf ws t = w.2 ∧ valV ((ws.zip was).map fun q => (keyOf q.1.1, V.ref q.2)) (keyOf t) = some (V.ref a)
  | [], _, _, h => by cases h
  | _ :: _, [], h, _ => by cases h
  | w :: ws, a :: was, h, hm => by
    by_cases e : w.1 = t
    · refine ⟨0, w, a, rfl, rfl, ?_, ?_⟩
      · unfold srcOf
        rw [List.find?_cons, decide_eq_true e]
        rfl
      · unfold valV
        rw [List.zip_cons_cons, List.map_cons, List.find?_cons, decide_eq_true (congrArg keyOf e)]
        rfl
    · have hm : t ∈ ws.map (·.1) := (List.mem_cons.mp hm).resolve_left fun z => e z.symm
      obtain ⟨j, w1, b, h1, h2, h3, h4⟩ := val_wire t ws was (Nat.succ.inj h) hm
      refine ⟨j + 1, w1, b, h1, h2, ?_, ?_⟩
      · unfold srcOf at *
        rw [List.find?_cons, decide_eq_false e]
        exact h3
      · unfold valV at *
        rw [List.zip_cons_cons, List.map_cons, List.find?_cons, decide_eq_false fun z => e (keyOf_inj z)]
        exact h4
theorem order_mem {ps : List (Str × Str)} {outs : List Str} {ws : List (Port × Port)} {t : Port} (h : t ∈ orderT ps outs ws) : t ∈ ws.map (·.1) := by
  unfold orderT at h
  rcases List.mem_append.mp h with h | h
  · obtain ⟨p, _, h⟩ := List.mem_flatMap.mp h
    obtain ⟨n, hn, rfl⟩ := List.mem_map.mp h
    have hn := (sortS_perm _).mem_iff.mp hn
    unfold gOf at hn
    obtain ⟨w, hw, rfl⟩ := List.mem_map.mp hn
    obtain ⟨hw, e⟩ := List.mem_filter.mp hw
    have e := of_decide_eq_true e
    exact List.mem_map.mpr ⟨w, hw, Prod.ext e rfl⟩
  · obtain ⟨o, ho, rfl⟩ := List.mem_map.mp h
    exact of_decide_eq_true (List.mem_filter.mp ho).2
theorem order_len (ps : List (Str × Str)) (outs : List Str) (ws : List (Port × Port)) : (orderT ps outs ws).length ≤ ps.length * ws.length + outs.length := by
  unfold orderT
  rw [List.length_append, List.length_map]
  have := flat_len (ps := ps) (ws := ws)
  have := List.length_filter_le (fun o => decide (((Str.empty, o) : Port) ∈ ws.map (·.1))) outs
  omega
theorem WPairsAt.keep {H H' : Hp} {bs : List Addr} {ws : List (Port × Port)} (h : WPairsAt H bs ws) (s : ∀ b us, H b = some (.tup us) → H' b = some (.tup us)) : WPairsAt H' bs ws := ⟨h.1, fun i a p e1 e2 => by
  obtain ⟨t, q, z1, z2, z3⟩ := h.2 i a p e1 e2
  exact ⟨t, q, s _ _ z1, s _ _ z2, s _ _ z3⟩⟩
theorem WPairsAt.snoc {H : Hp} {bs : List Addr} {ws : List (Port × Port)} {b t s : Addr} {w : Port × Port} (h : WPairsAt H bs ws) (e1 : H b = some (.tup [.ref t, .ref s])) (e2 : H t = some (.tup [.str w.1.1, .str w.1.2])) (e3 : H s = some (.tup [.str w.2.1, .str w.2.2])) : WPairsAt H (bs ++ [b]) (ws ++ [w]) := by
  refine ⟨by rw [List.length_append, List.length_append, h.1]; rfl, fun i a q z1 z2 => ?_⟩
  by_cases hi : i < bs.length
  · rw [List.getElem?_append_left hi] at z1
    rw [List.getElem?_append_left (by rw [← h.1]; exact hi)] at z2
    exact h.2 i a q z1 z2
  · rw [List.getElem?_append_right (by omega)] at z1
    rw [List.getElem?_append_right (by rw [← h.1]; omega), ← h.1] at z2
    cases hk : i - bs.length with
    | zero =>
      rw [hk] at z1 z2
      cases z1
      cases z2
      exact ⟨t, s, e1, e2, e3⟩
    | succ k =>
      rw [hk] at z1
      cases z1
/-- what a diagram's class tells -/
structure DgC (K : PySem.W.Frag) (mg : Str → Option Value) (C : Addr) : Prop where
  cl : Cls K C
  nN : NoAttr K C "name"
  nI : NoAttr K C "inputs"
  nO : NoAttr K C "outputs"
  nP : NoAttr K C "parts"
  nW : NoAttr K C "wires"
  sup : mg "super" = none
  zt : mg "tuple" = none
/-- what parts and wires must be for the making of a diagram -/
structure DgOk (outs : List Str) (ps : List (Str × Str)) (ws : List (Port × Port)) : Prop where
  pl : ps.length ≤ 16
  ol : outs.length ≤ 8
  wl : ws.length ≤ 10100
  nd : (ps.map (·.1)).Nodup
  ne : ∀ p ∈ ps, p.1.length ≠ 0
  wk : ∀ w ∈ ws, (w.1.1.length = 0 ∨ w.1.1 ∈ ps.map (·.1)) ∧ w.1.1.length ≤ 200000
def spDI (K : PySem.W.Frag) (C : Addr) : Sp := fun vs H Q _ => ∃ (p dx i o pl dw : Addr) (name : Str) (outs : List Str) (as : List Addr) (ps : List (Str × Str)) (ws : List (Port × Port)), vs = [.ref p, .str name, .ref i, .ref o, .ref pl, .ref dw] ∧ H p = some (.ins C dx []) ∧ SqT K H o (outs.map V.str) ∧
  SqL K H pl (as.map V.ref) ∧ PairsAt H as ps ∧ WiresAt H dw ws ∧ DgOk outs ps ws ∧
  ∀ (pa wa : Addr) (bs : List Addr) H', SameX p H H' → H' p = some (.ins C dx (fsD (.str name) (.ref i) (.ref o) pa wa)) → H' pa = some (.tup (as.map V.ref)) → PairsAt H' as ps → H' wa = some (.tup (bs.map V.ref)) → WPairsAt H' bs (wiresOf ps outs ws) → Q .non H'
def nfDI (cc cda : Addr) : NF := ⟨"__init__", "Diagram.__init__", defArgs sDI, defBody sDI, defScope sDI, [("__class__", cc)], cda⟩
abbrev nDI : List Str := ["self", "name", "inputs", "outputs", "parts", "wires", "__class__", "ordered", "target"]
theorem nsDI : DScope nDI ["self", "name", "inputs", "outputs", "parts", "wires"] (defScope sDI) := dscope_by (by decide +kernel)
theorem ndDI : (nDI : List Str).Nodup := by decide +kernel
structure DIn (K : PySem.W.Frag) (P : Program) (C f cc cda fB : Addr) : Prop where
  ex : ∃ oc od osl doc pm an ct, K.lookup f = some ⟨oc, od, .func (PySem.W.fnX "__init__" "Diagram.__init__" (defArgs sDI) (defBody sDI) (defScope sDI) [(("__class__" : Str), cc)] .none .none doc pm an (.ref cda) ct), osl⟩ ∧
    SupK K P f cda cc C (PySem.W.fnX "__init__" "Diagram.__init__" (defArgs sDI) (defBody sDI) (defScope sDI) [(("__class__" : Str), cc)] .none .none doc pm an (.ref cda) ct) "self"
  code : PySem.W.codeIn K (.ref cda) "Diagram.__init__" = true
  sc : SupC K C C "__init__" fB
section
variable {P : Program} {w : World} {K : PySem.W.Frag} {mg : Str → Option Value} {base : Heap} {C : Addr}
theorem scBI : FnScope ["self", "name", "inputs", "outputs"] ["self", "name", "inputs", "outputs"] (defScope sBI) := ⟨rfl, rfl, rfl, by decide +kernel, rfl, by decide +kernel, by decide +kernel⟩
theorem ok_bi {f : Addr} {fd : FuncData} (F : Fun K "__init__" "Block.__init__" sBI f fd) : FnOk P w K mg base CX0 1 f fd ["self", "name", "inputs", "outputs"] (spBI K) := by
  refine F.ok scBI (fun vs H Q E h => ?_) (fun cdv A outer s H vs Q E hr h => ?_)
  · obtain ⟨p, C, dx, n, i, o, rfl, _⟩ := h
    rfl
  obtain ⟨p, C, dx, n, i, o, rfl, hp, c, n1, n2, n3, k⟩ := h
  refine ⟨_, pss_cons (ps_fld (pv 0) (pv 1) rfl) (pss_cons (ps_fld (pv 0) (pv 2) rfl) (pss_one (ps_fld (pv 0) (pv 3) rfl))), ?_⟩
  refine ⟨_, rfl, _, rfl, p, C, dx, [], rfl, hp, c, n1, (by show 0 < 1000; decide), ?_⟩
  refine ⟨_, rfl, _, rfl, p, C, dx, _, rfl, upd_same, c, n2, (by show 1 < 1000; decide), ?_⟩
  refine ⟨_, rfl, _, rfl, p, C, dx, _, rfl, upd_same, c, n3, (by show 2 < 1000; decide), ?_⟩
  rw [upd_upd, upd_upd]
  exact k
theorem ok_di {f cc cda fB fO : Addr} {fdB fdO : FuncData} (Z : DIn K P C f cc cda fB) (T : DgC K mg C) (GB : FnOk P w K mg base CX0 1 fB fdB ["self", "name", "inputs", "outputs"] (spBI K)) (bB : Binds K fdB ["self", "name", "inputs", "outputs"] [])
    (GO : FnOk P w K mg base CX0 1 fO fdO ["parts", "outputs", "targets"] (spOrder K)) (mO : mg "order_targets" = some (.ref fO)) (kO : PySem.W.keepIn K (.ref fO) = true) (bO : Binds K fdO ["parts", "outputs", "targets"] []) : FnR P w K mg base CX0 2 f (spDI K C) := by
  obtain ⟨oc, od, osl, doc, pm, an, ct, lk, SK⟩ := Z.ex
  have GR : FnR P w K mg base CX0 1 fB (spBI K) := by
    have z := GB.raw bB .nil
    simpa only [List.append_nil] using z
  refine fnr_superC (F := nfDI cc cda) (cc := cc) (D := C) lk Z.code rfl SK.cell nsDI (fun us hl => match us, hl with | [_, _, _, _, _, _], _ => rfl) (fun vs H Q E h => ?_) (fun A outer s H vs Q E hr h => ?_)
  · obtain ⟨p, dx, i, o, pl, dw, name, outs, as, ps, ws, rfl, _⟩ := h
    rfl
  obtain ⟨p, dx, i, o, pl, dw, name, outs, as, ps, ws, rfl, hp, ho, hpl, hps, hW, hd, k⟩ := h
  have hu1 := Nat.lt_of_le_of_lt (Nat.add_le_add_left (show 1 ≤ 64 by decide) _) hr.units
  refine ⟨_, psa_super (self := "self") SK rfl rfl rfl rfl rfl rfl rfl T.sup GR hr pass0 (pa_cons (pv 1) (pa_cons (pv 2) (pa_cons (pv 3) pa_nil))) (psa_of
    (pss_cons (ps_fld (pv 0) (pe_callTy call_tuple_of (by rfl) T.zt (by decide +kernel) (pa_cons (pv 4) pa_nil)) rfl)
    (pss_cons (ps_set (i := 7) ndDI rfl (.inl rfl) (pe_call GO hr rfl mO kO bO .nil pass0 (pa_cons (pe_fld (pv 0) rfl) (pa_cons (pv 3) (pa_cons (pv 5) pa_nil)))))
    (pss_one (ps_fld (pv 0) (pe_callTy call_tuple_of (by rfl) T.zt (by decide +kernel) (pa_cons (pe_lc (own := [("target", 8)]) (g := gName 8) rfl ndDI (pi_list (pv 7)) (blkOk_by (own := [("target", 8)]) (N := nDI) (sc := defScope sDI) (by decide +kernel)) (fun _ _ _ _ _ => pg_name (i := 8) ndDI rfl (Or.inl rfl)) (fun _ _ _ _ _ => pts_nil)
      (fun _ _ _ _ _ => by exact (pe_tup (pa_cons (pv 8) (pa_cons (pe_dget hu1 (pv 5) (pv 8) (fun _ _ => rfl)) pa_nil))))) pa_nil)) rfl))))), ?_⟩
  refine ⟨p, C, dx, [], rfl, hp, Z.sc, _, rfl, _, rfl, _, rfl, p, C, dx, _, _, _, rfl, hp, T.cl, T.nN, T.nI, T.nO, ?_⟩
  have tp : NoTup H p := fun xs => ⟨fun z => by (rw [hp] at z; cases z), fun o z => by (rw [hp] at z; cases z)⟩
  have npw : dw ≠ p := fun z => by
    obtain ⟨was, _, hwd, _⟩ := hW
    rw [z, hp] at hwd
    cases hwd
  have npl : pl ≠ p ∨ True := .inr trivial
  have hpl1 : SqL K (upd H p (.ins C dx [("name", .str name), ("inputs", .ref i), ("outputs", .ref o)])) pl (as.map V.ref) := by
    rcases hpl with (z | ⟨q, z⟩) | z
    · exact .inl (.inl ((upd_ne fun e => by rw [e, hp] at z; cases z).trans z))
    · exact .inl (.inr ⟨q, (upd_ne fun e => by rw [e, hp] at z; cases z).trans z⟩)
    · exact .inr z
  refine ⟨_, rfl, pl, _, rfl, .inl ⟨hpl1, fun pa hpa => ⟨_, rfl, p, C, dx, _, rfl, (upd_ne (ne_of_none upd_same hpa)).trans upd_same, T.cl, T.nP, by show 3 < 1000; decide, ?_⟩⟩⟩
  have nap : pa ≠ p := (ne_of_none upd_same hpa).symm
  have X3 : SameX p H (upd (upd (upd H p (.ins C dx [("name", .str name), ("inputs", .ref i), ("outputs", .ref o)])) pa (.tup (as.map V.ref))) p (.ins C dx (putF "parts" (.ref pa) [("name", .str name), ("inputs", .ref i), ("outputs", .ref o)]))) := SameX.put.trans ((SameX.of (upd_new hpa)).trans SameX.put)
  have hp3 : (upd (upd (upd H p (.ins C dx [("name", .str name), ("inputs", .ref i), ("outputs", .ref o)])) pa (.tup (as.map V.ref))) p (.ins C dx (putF "parts" (.ref pa) [("name", .str name), ("inputs", .ref i), ("outputs", .ref o)]))) p = some (.ins C dx [("name", .str name), ("inputs", .ref i), ("outputs", .ref o), ("parts", .ref pa)]) := upd_same
  have ha3 : (upd (upd (upd H p (.ins C dx [("name", .str name), ("inputs", .ref i), ("outputs", .ref o)])) pa (.tup (as.map V.ref))) p (.ins C dx (putF "parts" (.ref pa) [("name", .str name), ("inputs", .ref i), ("outputs", .ref o)]))) pa = some (.tup (as.map V.ref)) := (upd_ne nap).trans upd_same
  generalize (upd (upd (upd H p (.ins C dx [("name", .str name), ("inputs", .ref i), ("outputs", .ref o)])) pa (.tup (as.map V.ref))) p (.ins C dx (putF "parts" (.ref pa) [("name", .str name), ("inputs", .ref i), ("outputs", .ref o)]))) = H3 at X3 hp3 ha3 ⊢
  have hps3 : PairsAt H3 as ps := hps.keep fun b xs e => X3 _ _ (fun z => by rw [z, hp] at e; cases e) e
  have hW3 : WiresAt H3 dw ws := hW.X X3 tp npw
  have ho3 : SqT K H3 o (outs.map V.str) := sqT_X X3 tp ho
  refine ⟨_, rfl, p, C, dx, _, _, rfl, hp3, T.cl, T.nP, rfl, _, rfl, _, rfl, pa, o, dw, as, ps, outs, ws, rfl, .of ha3, hps3, ho3, hW3, hd.pl, hd.ol, by have := hd.wl; omega, hd.nd, hd.ne, hd.wk, fun L bs H4 s4 hL hb => ?_⟩
  obtain ⟨was, hwa, hwd, hwt⟩ := hW3.same s4
  refine ⟨_, rfl, L, rfl, ⟨_, .of hL⟩, fun D hD => ?_⟩
  refine out_it (walk_list (xs := bs.map V.ref)) (fun j H' => Same H4 H' ∧ ∃ cs : List Addr, H' D = some (.lst (cs.map V.ref)) ∧ WPairsAt H' cs (((orderT ps outs ws).take j).map fun t => (t, srcOf ws t)))
    ⟨upd_new hD, [], upd_same, rfl, fun i a p e _ => by cases e⟩ (fun j H' _ q => .of (q.1 _ _ hL)) ?_ ?_
  · rintro j x H5 H6 hj ⟨s5, cs, hD5, hc5⟩ ⟨rfl, hx⟩
    rw [List.getElem?_map] at hx
    obtain ⟨b, hbj, rfl⟩ := Option.map_eq_some_iff.mp hx
    obtain ⟨t, ht⟩ : ∃ t, (orderT ps outs ws)[j]? = some t := ⟨_, List.getElem?_eq_getElem (by have := (List.getElem?_eq_some_iff.mp hbj).1; have := hb.1; omega)⟩
    have gb := s5 _ _ (hb.2 j b t hbj ht)
    obtain ⟨m, w1, a, e1, e2, e3, e4⟩ := val_wire t ws was hwa (order_mem (List.mem_of_getElem? ht))
    have ga := s5 _ _ (hwt m w1 a e1 e2)
    refine ⟨rfl, _, rfl, _, rfl, _, rfl, dw, .ref a, rfl, by rw [← e4]; exact DGet.t (k := keyOf t) (s5 _ _ hwd) gb, small1 (by show 2 ≤ 8; decide), fun q hq => ⟨_, (upd_ne (ne_of_none hD5 hq)).trans hD5, ?_, same_put (s5.trans (upd_new hq)) hD, cs ++ [q], ?_, ?_⟩⟩
    · rw [List.length_map, hc5.1, List.length_map, List.length_take]
      have g1 := order_len ps outs ws
      have g2 := Nat.mul_le_mul hd.pl hd.wl
      have := hd.ol
      exact Nat.lt_of_le_of_lt (Nat.le_trans (Nat.min_le_right _ _) (show _ ≤ 200000 by omega)) (by rw [sizeLine_eq]; decide)
    · rw [upd_same, List.map_append]
      rfl
    · rw [tk1 ht, List.map_append]
      have keep : ∀ c us, H6 c = some (.tup us) → upd (upd H6 q (.tup [.ref b, .ref a])) D (.lst (cs.map V.ref ++ [.ref q])) c = some (.tup us) := fun c us e => by
        have nb : c ≠ D := fun z => by rw [z, hD5] at e; cases e
        exact (upd_ne nb).trans ((upd_ne (ne_of_none e hq)).trans e)
      refine WPairsAt.snoc (w := (t, srcOf ws t)) (t := b) (s := a) (hc5.keep keep) ?_ (keep _ _ gb) ?_
      · exact (upd_ne (ne_of_none hD5 hq).symm).trans upd_same
      · rw [e3]
        exact keep _ _ ga
  rintro H5 ⟨s5, cs, hD5, hc5⟩
  rw [List.length_map, hb.1, List.take_length] at hc5
  have hp5 := s5 _ _ (s4 _ _ hp3)
  refine ⟨D, _, rfl, .inl ⟨.of hD5, fun wa hwa2 => ⟨_, rfl, p, C, dx, _, rfl, (upd_ne (ne_of_none hp5 hwa2)).trans hp5, T.cl, T.nW, by show 4 < 1000; decide, ?_⟩⟩⟩
  have X6 := X3.trans ((SameX.of ((s4.trans s5).trans (upd_new (o := HO.tup (cs.map V.ref)) hwa2))).trans (SameX.put (o := .ins C dx (fsD (.str name) (.ref i) (.ref o) pa wa))))
  have nq : ∀ b us, H5 b = some (.tup us) → upd (upd H5 wa (.tup (cs.map V.ref))) p (.ins C dx (fsD (.str name) (.ref i) (.ref o) pa wa)) b = some (.tup us) := fun b us e => by
    have nb : b ≠ p := fun z => by rw [z, hp5] at e; cases e
    exact (upd_ne nb).trans ((upd_ne (ne_of_none e hwa2)).trans e)
  refine k pa wa cs _ X6 upd_same (nq _ _ (s5 _ _ (s4 _ _ ha3))) (((hps3.same s4).same s5).keep nq) ?_ (hc5.keep nq)
  exact (upd_ne (ne_of_none hp5 hwa2).symm).trans upd_same
end
end K28
namespace K28
open PySem L2 Own StX ClX NdefX
abbrev sRI : Stmt := inClass (top 29) 0
abbrev sOfR : Stmt := inClass (top 33) 4
/-! ### a reader's states -/
def st0 : RS := ⟨none, [], [], false⟩
structure RInv (st : RS) : Prop where
  h0 : st.head = none → st.parts = [] ∧ st.wires = [] ∧ st.done = false
  h1 : ∀ n ins outs, st.head = some (n, ins, outs) → n.length ≤ 8 ∧ ins.length ≤ 8 ∧ outs.length ≤ 8 ∧ (∀ x ∈ ins, x.length ≤ 8) ∧ ∀ x ∈ outs, x.length ≤ 8
  nd : (st.parts.map (·.1)).Nodup
  p : ∀ p ∈ st.parts, p.1.length ≠ 0 ∧ p.1.length ≤ 8 ∧ p.2.length ≤ 190000
  w : ∀ w ∈ st.wires, (w.1.1.length = 0 ∨ w.1.1 ∈ st.parts.map (·.1)) ∧ (w.1.1.length ≤ 8 ∧ w.1.2.length ≤ 8) ∧ w.2.1.length ≤ 8 ∧ w.2.2.length ≤ 8
theorem isNm_len {x : Str} (h : isNm x = true) : 1 ≤ x.length ∧ x.length ≤ 8 := by
  unfold isNm at h
  simp only [Bool.and_eq_true, decide_eq_true_eq] at h
  exact ⟨h.1.1.1, h.1.1.2⟩
theorem rinv0 : RInv st0 := ⟨fun _ => ⟨rfl, rfl, rfl⟩, fun _ _ _ h => by (cases h), List.nodup_nil, fun p h => by (cases h), fun w h => by (cases h)⟩
theorem readPort_ok {parts own : List Str} {x : Str} {p : Port} (h : readPort parts own x = some p) (ho : ∀ y ∈ own, y.length ≤ 8) (hp : ∀ y ∈ parts, y.length ≤ 8) : (p.1.length = 0 ∨ p.1 ∈ parts) ∧ p.1.length ≤ 8 ∧ p.2.length ≤ 8 := by
  unfold readPort at h
  split at h
  · split at h
    · rename_i hm
      cases h
      exact ⟨.inl rfl, Nat.zero_le _, ho _ hm⟩
    · cases h
  · split at h
    · rename_i hm
      cases h
      exact ⟨.inr hm.1, hp _ hm.1, (isNm_len hm.2).2⟩
    · cases h
theorem step_inv {st st' : RS} {row : Str} (h : RInv st) (hr : row.length ≤ 190000) (e : step st row = some st') : RInv st' ∧ st'.wires.length ≤ st.wires.length + 1 := by
  obtain ⟨hd, ps, ws, dn⟩ := st
  unfold step at e
  cases hd with
  | none =>
    dsimp only at e
    split at e
    · rename_i ok
      cases e
      obtain ⟨z1, z2, z3⟩ := h.h0 rfl
      refine ⟨⟨fun q => by (cases q), fun n ins outs q => ?_, h.nd, h.p, h.w⟩, Nat.le_succ _⟩
      cases q
      have hn : isNm (headName row) = true := by
        have := ok.2.2.2.1
        unfold isDN at this
        rw [Bool.and_eq_true] at this
        exact this.1
      have hall := List.all_eq_true.mp ok.2.2.2.2.1
      exact ⟨(isNm_len hn).2, ok.2.1, ok.2.2.1, fun x hx => (isNm_len (hall x (List.mem_append_left _ hx))).2, fun x hx => (isNm_len (hall x (List.mem_append_right _ hx))).2⟩
    · cases e
  | some r =>
    obtain ⟨n, ins, outs⟩ := r
    dsimp only at e
    obtain ⟨q1, q2, q3, q4, q5⟩ := h.h1 n ins outs rfl
    split at e
    · cases e
    split at e
    · cases e
      exact ⟨⟨fun q => by (cases q), h.h1, h.nd, h.p, h.w⟩, Nat.le_succ _⟩
    split at e
    · split at e
      · cases et : takePart ps row with
        | none => rw [et] at e; cases e
        | some ps' =>
          rw [et] at e
          cases e
          unfold takePart at et
          split at et
          · rename_i ok
            cases et
            have l0 := PyProof.Rows.len_removeprefix row "  part "
            have pl := part_le (Txt.removeprefix row "  part ") " = " (by decide +kernel)
            refine ⟨⟨fun q => by (cases q), h.h1, ?_, fun p hp => ?_, fun w hw => ?_⟩, Nat.le_succ _⟩
            · rw [List.map_append]
              refine List.nodup_append.mpr ⟨h.nd, List.nodup_cons.mpr ⟨List.not_mem_nil, List.nodup_nil⟩, fun a ha b hb z => ?_⟩
              rw [List.mem_singleton.mp hb] at z
              rw [z] at ha
              exact ok.2.2.1 ha
            · rcases List.mem_append.mp hp with hp | hp
              · exact h.p p hp
              · rw [List.mem_singleton.mp hp]
                have := isNm_len ok.2.1
                exact ⟨by show (partName row).length ≠ 0; omega, this.2, Nat.le_trans pl.2 (Nat.le_trans l0 hr)⟩
            · obtain ⟨z1, z2⟩ := h.w w hw
              refine ⟨z1.imp id fun z => ?_, z2⟩
              rw [List.map_append]
              exact List.mem_append_left _ z
          · cases et
      · cases e
    · cases et : takeWire (ps.map (·.1)) ins outs ws row with
      | none => rw [et] at e; cases e
      | some ws' =>
        rw [et] at e
        cases e
        unfold takeWire at et
        split at et
        · split at et
          · rename_i t s e1 e2
            split at et
            · cases et
            · cases et
              have hp8 : ∀ y ∈ ps.map (·.1), y.length ≤ 8 := fun y hy => by
                obtain ⟨p, hp, rfl⟩ := List.mem_map.mp hy
                exact (h.p p hp).2.1
              have k1 := readPort_ok e1 q5 hp8
              have k2 := readPort_ok e2 q4 hp8
              refine ⟨⟨fun q => by (cases q), h.h1, h.nd, h.p, fun w hw => ?_⟩, by rw [List.length_append]; exact Nat.le_refl _⟩
              rcases List.mem_append.mp hw with hw | hw
              · exact h.w w hw
              · rw [List.mem_singleton.mp hw]
                exact ⟨k1.1, k1.2, k2.2⟩
          · cases et
        · cases et
theorem rinv_ok {st : RS} {n : Str} {ins outs : List Str} (h : RInv st) (hh : st.head = some (n, ins, outs)) (h16 : st.parts.length ≤ 16) (hw : st.wires.length ≤ 10100) : DgOk outs st.parts st.wires := by
  obtain ⟨q1, q2, q3, q4, q5⟩ := h.h1 n ins outs hh
  exact ⟨h16, q3, hw, h.nd, fun p hp => (h.p p hp).1, fun w hm => ⟨(h.w w hm).1, by have := (h.w w hm).2.1.1; omega⟩⟩
theorem srcOf_mem {ws : List (Port × Port)} {t : Port} (h : t ∈ ws.map (·.1)) : ∃ w ∈ ws, w.1 = t ∧ srcOf ws t = w.2 := by
  obtain ⟨j, w, a, e1, _, e3, _⟩ := val_wire t ws (ws.map fun _ => (0 : Nat)) (List.length_map _) h
  obtain ⟨w0, hw0, e⟩ := List.mem_map.mp h
  cases hf : ws.find? (fun w => decide (w.1 = t)) with
  | none => exact absurd (decide_eq_true e) (Bool.not_eq_true _ ▸ List.find?_eq_none.mp hf w0 hw0)
  | some w1 =>
    have hf2 := List.find?_some hf
    refine ⟨w1, List.mem_of_find?_eq_some hf, of_decide_eq_true hf2, ?_⟩
    unfold srcOf
    rw [hf]
    rfl
theorem rinv_sm {st : RS} {n : Str} {ins outs : List Str} (h : RInv st) (hh : st.head = some (n, ins, outs)) (h16 : st.parts.length ≤ 16) (hw : st.wires.length ≤ 10100) : DSm n ins outs st.parts (wiresOf st.parts outs st.wires) := by
  obtain ⟨q1, q2, q3, q4, q5⟩ := h.h1 n ins outs hh
  refine ⟨q1, q2, q3, q4, q5, h16, fun p hp => (h.p p hp).2, ?_, fun w hm => ?_⟩
  · unfold wiresOf
    rw [List.length_map]
    have g1 := order_len st.parts outs st.wires
    have g2 := Nat.mul_le_mul h16 hw
    omega
  · unfold wiresOf at hm
    obtain ⟨t, ht, rfl⟩ := List.mem_map.mp hm
    obtain ⟨w, hw, rfl, e⟩ := srcOf_mem (order_mem ht)
    have z := (h.w w hw).2
    exact ⟨z.1, by rw [e]; exact z.2⟩
theorem val_part : ∀ (ps : List (Str × Str)), (ps.map (·.1)).Nodup → ∀ (j : Nat) (p : Str × Str), ps[j]? = some p → valV (ps.map fun p => ((Sum.inr p.1 : Key), V.str p.2)) (Sum.inr p.1) = some (V.str p.2)
  | [], _, _, _, e => by cases e
  | q :: ps, nd, 0, p, e => by
    cases e
    unfold valV
    rw [List.map_cons, List.find?_cons, decide_eq_true rfl]
    rfl
  | q :: ps, nd, j + 1, p, e => by
    have ih := val_part ps (List.nodup_cons.mp nd).2 j p e
    have hne : ¬ ((Sum.inr q.1 : Key) = Sum.inr p.1) := fun z => (List.nodup_cons.mp nd).1 (by
      have e2 : q.1 = p.1 := Sum.inr.inj z
      show q.1 ∈ _
      rw [e2]
      exact List.mem_map.mpr ⟨p, List.mem_of_getElem? e, rfl⟩)
    unfold valV at *
    rw [List.map_cons, List.find?_cons, decide_eq_false hne]
    exact ih
/-- a diagram at y -/
def DgAt (K : PySem.W.Frag) (C : Addr) (H : Hp) (y : Addr) (name : Str) (ins outs : List Str) (ps : List (Str × Str)) (ws : List (Port × Port)) : Prop := ∃ (dx i o pa wa : Addr) (as bs : List Addr), H y = some (.ins C dx (fsD (.str name) (.ref i) (.ref o) pa wa)) ∧ IxT H i (ins.map V.str) ∧ IxT H o (outs.map V.str) ∧
  H pa = some (.tup (as.map V.ref)) ∧ PairsAt H as ps ∧ H wa = some (.tup (bs.map V.ref)) ∧ WPairsAt H bs ws
theorem DgAt.same {K : PySem.W.Frag} {C : Addr} {H H' : Hp} {y : Addr} {name : Str} {ins outs : List Str} {ps : List (Str × Str)} {ws : List (Port × Port)} (h : DgAt K C H y name ins outs ps ws) (s : Same H H') : DgAt K C H' y name ins outs ps ws := by
  obtain ⟨dx, i, o, pa, wa, as, bs, h1, h2, h3, h4, h5, h6, h7⟩ := h
  exact ⟨dx, i, o, pa, wa, as, bs, s _ _ h1, ixT_same s h2, ixT_same s h3, s _ _ h4, h5.same s, s _ _ h6, h7.same s⟩
def spRI (K : PySem.W.Frag) (C : Addr) : Sp := fun vs H Q _ => ∃ (p dx : Addr), vs = [.ref p, .int 8, .int 16] ∧ H p = some (.ins C dx []) ∧ ∀ d dw H', SameX p H H' → RdAt K C H' p d dw st0 → H d = none → H dw = none → Q .non H'
def spOf (K : PySem.W.Frag) (CR C : Addr) : Sp := fun vs H Q _ => ∃ (p d dw : Addr) (st : RS) (n : Str) (ins outs : List Str), vs = [.ref C, .ref p] ∧ RdAt K CR H p d dw st ∧ RInv st ∧ st.head = some (n, ins, outs) ∧ st.wires.length ≤ 10100 ∧
  ∀ y H', Same H H' → H y = none → DgAt K C H' y n ins outs st.parts (wiresOf st.parts outs st.wires) → Q (.ref y) H'
section
variable {P : Program} {w : World} {K : PySem.W.Frag} {mg : Str → Option Value} {base : Heap} {C CR : Addr}
theorem scRI : FnScope ["self", "max_ports", "max_parts"] ["self", "max_ports", "max_parts"] (defScope sRI) := ⟨rfl, rfl, rfl, by decide +kernel, rfl, by decide +kernel, by decide +kernel⟩
theorem ok_ri {f : Addr} {fd : FuncData} (F : Fun K "__init__" "DiagramReader.__init__" sRI f fd) (R : RdC P w K mg base C) : FnOk P w K mg base CX0 1 f fd ["self", "max_ports", "max_parts"] (spRI K C) := by
  refine F.ok scRI (fun vs H Q E h => ?_) (fun cdv A outer s H vs Q E hr h => ?_)
  · obtain ⟨p, dx, rfl, _⟩ := h
    rfl
  obtain ⟨p, dx, rfl, hp, k⟩ := h
  refine ⟨_, pss_cons (ps_fld (pv 0) pe_non rfl) (pss_cons (ps_fld (pv 0) (pe_tup pa_nil) rfl) (pss_cons (ps_fld (pv 0) (pe_tup pa_nil) rfl) (pss_cons (ps_fld (pv 0) pe_dnewK rfl) (pss_cons (ps_fld (pv 0) pe_dnewT rfl) (pss_cons (ps_fld (pv 0) pe_bl rfl) (pss_cons (ps_fld (pv 0) (pv 1) rfl) (pss_one (ps_fld (pv 0) (pv 2) rfl)))))))), ?_⟩
  refine ⟨_, rfl, p, C, dx, _, rfl, hp, R.cl, R.nN, by show 0 < 1000; decide, ?_⟩
  refine ⟨small1 (by show 0 ≤ 8; decide), fun i hi => ⟨_, rfl, p, C, dx, _, rfl, (upd_ne (ne_of_none upd_same hi)).trans upd_same, R.cl, R.nI, by show 1 < 1000; decide, ?_⟩⟩
  refine ⟨small1 (by show 0 ≤ 8; decide), fun o ho => ⟨_, rfl, p, C, dx, _, rfl, (upd_ne (ne_of_none upd_same ho)).trans upd_same, R.cl, R.nO, by show 2 < 1000; decide, ?_⟩⟩
  refine fun d hd => ⟨_, rfl, p, C, dx, _, rfl, (upd_ne (ne_of_none upd_same hd)).trans upd_same, R.cl, R.nP, by show 3 < 1000; decide, ?_⟩
  refine fun dw hw => ⟨_, rfl, p, C, dx, _, rfl, (upd_ne (ne_of_none upd_same hw)).trans upd_same, R.cl, R.nW, by show 4 < 1000; decide, ?_⟩
  refine ⟨_, rfl, p, C, dx, _, rfl, upd_same, R.cl, R.nD, by show 5 < 1000; decide, ?_⟩
  refine ⟨_, rfl, _, rfl, p, C, dx, _, rfl, upd_same, R.cl, R.nA, by show 6 < 1000; decide, ?_⟩
  refine ⟨_, rfl, _, rfl, p, C, dx, _, rfl, upd_same, R.cl, R.nB, by show 7 < 1000; decide, ?_⟩
  have npd : d ≠ p := (ne_of_none upd_same hd).symm
  have npw : dw ≠ p := (ne_of_none upd_same hw).symm
  have X1 := SameX.put (a := p) (H := H) (o := .ins C dx [("name", .non)])
  have X2 := X1.trans ((SameX.of (upd_new (o := HO.tup []) hi)).trans (SameX.put (o := .ins C dx [("name", .non), ("inputs", .ref i)])))
  have X3 := X2.trans ((SameX.of (upd_new (o := HO.tup []) ho)).trans (SameX.put (o := .ins C dx [("name", .non), ("inputs", .ref i), ("outputs", .ref o)])))
  have X4 := X3.trans ((SameX.of (upd_new (o := HO.dK []) hd)).trans (SameX.put (o := .ins C dx [("name", .non), ("inputs", .ref i), ("outputs", .ref o), ("parts", .ref d)])))
  have X5 := X4.trans (SameX.of (upd_new (o := HO.dT []) hw))
  have free : ∀ {H1 H2 : Hp} {b : Addr}, SameX p H1 H2 → b ≠ p → H2 b = none → H1 b = none := fun {H1 H2 b} x n e => by
    cases z : H1 b with
    | none => rfl
    | some u => rw [x b u n z] at e; cases e
  refine k d dw _ (X5.trans (SameX.put.trans (SameX.put.trans (SameX.put.trans SameX.put)))) ⟨dx, .non, i, o, upd_same, ?_, ?_, rfl, Nat.zero_le _⟩ (free X3 npd hd) (free X4 npw hw)
  · show (upd _ _ _) d = _
    have nd : d ≠ dw := ne_of_none ((upd_ne npd).trans upd_same) hw
    rw [upd_ne npd, upd_ne npd, upd_ne npd, upd_ne npd, upd_ne nd, upd_ne npd, upd_same]
    rfl
  · refine ⟨[], rfl, ?_, fun j w a e _ => by cases e⟩
    rw [upd_ne npw, upd_ne npw, upd_ne npw, upd_ne npw, upd_same]
    rfl
end
end K28
namespace K28
open PySem L2 Own StX ClX NdefX
abbrev sErr : Stmt := inClass (top 3) 0
abbrev sStr : Stmt := inClass (top 33) 6
/-- InvalidText: its class at CI, its __init__ at fI -/
structure ErrC (K : PySem.W.Frag) (mg : Str → Option Value) (CI fI : Addr) : Prop where
  ox : OexC K CI
  ini : PySem.W.findIn K (.ref CI) "__init__" = some (some (.ref fI))
  ty : PySem.W.typeIn K (.ref fI) = some (.type "function")
  row : PySem.W.findIn K (.ref CI) "row" = some none
  m : mg "InvalidText" = some (.ref CI)
def spErr (K : PySem.W.Frag) (CI : Addr) : Sp := fun vs H Q _ => ∃ (a : Addr) (r : Int), vs = [.ref a, .int r] ∧ H a = some (exo a CI none) ∧ ∀ dx, H dx = none → dx ≠ a → Q .non (upd (upd H dx (exd dx [("row", .int r)])) a (exo a CI (some dx)))
def spStr (K : PySem.W.Frag) (C : Addr) : Sp := fun vs H Q _ => ∃ (y : Addr) (n : Str) (ins outs : List Str) (ps : List (Str × Str)) (ws : List (Port × Port)), vs = [.ref y] ∧ DgAt K C H y n ins outs ps ws ∧ DSm n ins outs ps ws ∧ ∀ H', Same H H' → Q (.str (Txt.join "\n" (rowsT n ins outs ps ws))) H'
section
variable {P : Program} {w : World} {K : PySem.W.Frag} {mg : Str → Option Value} {base : Heap} {C CR CI : Addr}
theorem scEr : FnScope ["self", "row"] ["self", "row"] (defScope sErr) := ⟨rfl, rfl, rfl, by decide +kernel, rfl, by decide +kernel, by decide +kernel⟩
theorem ok_err {f fI : Addr} {fd : FuncData} (F : Fun K "__init__" "InvalidText.__init__" sErr f fd) (T : ErrC K mg CI fI) : FnOk P w K mg base CX0 1 f fd ["self", "row"] (spErr K CI) := by
  refine F.ok scEr (fun vs H Q E h => ?_) (fun cdv A outer s H vs Q E hr h => ?_)
  · obtain ⟨a, r, rfl, _⟩ := h
    rfl
  obtain ⟨a, r, rfl, ha, k⟩ := h
  refine ⟨_, pss_one (ps_ost (pv 0) (pv 1)), ?_⟩
  exact ⟨_, rfl, _, rfl, a, CI, rfl, T.ox, T.row, .inl ⟨ha, fun dx h1 h2 => k dx h1 h2⟩⟩
theorem scSt : FnScope ["self"] ["self"] (defScope sStr) := ⟨rfl, rfl, rfl, by decide +kernel, rfl, by decide +kernel, by decide +kernel⟩
theorem ok_str {f fR : Addr} {fd fdR : FuncData} (F : Fun K "__str__" "Diagram.__str__" sStr f fd) (T : DgC K mg C) (GR : FnOk P w K mg base CX0 2 fR fdR ["name", "inputs", "outputs", "parts", "wires"] (spRows K)) (mR : mg "diagram_rows" = some (.ref fR)) (kR : PySem.W.keepIn K (.ref fR) = true) (bR : Binds K fdR ["name", "inputs", "outputs", "parts", "wires"] []) :
    FnOk P w K mg base CX0 3 f fd ["self"] (spStr K C) := by
  refine F.ok scSt (fun vs H Q E h => ?_) (fun cdv A outer s H vs Q E hr h => ?_)
  · obtain ⟨y, n, ins, outs, ps, ws, rfl, _⟩ := h
    rfl
  obtain ⟨y, n, ins, outs, ps, ws, rfl, hy, hd, k⟩ := h
  obtain ⟨dx, i, o, pa, wa, as, bs, h1, h2, h3, h4, h5, h6, h7⟩ := hy
  refine ⟨_, pss_one (ps_ret (pe_join pe_str (pe_call GR hr rfl mR kR bR .nil pass0 (pa_cons (pe_fld (pv 0) rfl) (pa_cons (pe_fld (pv 0) rfl) (pa_cons (pe_fld (pv 0) rfl) (pa_cons (pe_fld (pv 0) rfl) (pa_cons (pe_fld (pv 0) rfl) pa_nil)))))))), ?_⟩
  refine ⟨⟨_, rfl⟩, _, rfl, y, C, dx, _, _, rfl, h1, T.cl, T.nN, rfl, _, rfl, y, C, dx, _, _, rfl, h1, T.cl, T.nI, rfl, _, rfl, y, C, dx, _, _, rfl, h1, T.cl, T.nO, rfl, _, rfl, y, C, dx, _, _, rfl, h1, T.cl, T.nP, rfl, _, rfl, y, C, dx, _, _, rfl, h1, T.cl, T.nW, rfl, ?_⟩
  refine ⟨n, i, o, pa, wa, ins, outs, as, bs, ps, ws, rfl, h2.sq, h3.sq, .of h4, h5, .of h6, h7, hd, fun L H1 s1 hL => ⟨"\n", L, _, rfl, rfl, .inl (.of hL), ?_, k H1 s1⟩⟩
  have := rowsT_len hd
  rw [show (("\n" : Str)).length = 1 by decide +kernel]
  omega
abbrev nOf : List Str := ["cls", "reader", "parts", "part"]
theorem scOf : FnScope nOf ["cls", "reader"] (defScope sOfR) := ⟨rfl, rfl, rfl, by decide +kernel, rfl, by decide +kernel, by decide +kernel⟩
theorem ok_of {f fI : Addr} {fd : FuncData} (F : Fun K "of_reader" "Diagram.of_reader" sOfR f fd) (R : RdC P w K mg base CR) (M : Mk K C fI) (GI : FnR P w K mg base CX0 2 fI (spDI K C)) : FnOk P w K mg base CX0 4 f fd ["cls", "reader"] (spOf K CR C) := by
  refine F.ok scOf (fun vs H Q E h => ?_) (fun cdv A outer s H vs Q E hr h => ?_)
  · obtain ⟨p, d, dw, st, n, ins, outs, rfl, _⟩ := h
    rfl
  obtain ⟨p, d, dw, st, n, ins, outs, rfl, hR, hI, hh, hwl, k⟩ := h
  have hu1 := Nat.lt_of_le_of_lt (Nat.add_le_add_left (show 1 ≤ 64 by decide) _) hr.units
  refine ⟨_, pss_cons (ps_lock (by exact (ps_setLc (i := 2) (own := [("part", 3)]) (g := gName 3) (te := tTup (tCons (tVar 3) (tCons (tDGet (tFld K (tVar 1) "parts") (tVar 3)) tNil))) rfl scOf.nd rfl rfl (sw_true rfl rfl rfl (by decide +kernel)) (pi_keys (pe_fld (pv 1) rfl)) (blkOk_by (own := [("part", 3)]) (N := nOf) (sc := defScope sOfR) (by decide +kernel)) (fun _ _ _ _ _ => pg_name (i := 3) scOf.nd rfl (Or.inl rfl)) (fun _ _ _ _ _ => pts_nil)
      (fun _ _ _ _ _ => by exact (pe_tup (pa_cons (pv 3) (pa_cons (pe_dget hu1 (pe_fld (pv 1) rfl) (pv 3) (fun _ _ => rfl)) pa_nil)))))))
    (pss_one (ps_ret (pe_makeL (i := 0) M GI hr rfl (.inl rfl) pass0 (pa_cons (pe_fld (pv 1) rfl) (pa_cons (pe_fld (pv 1) rfl) (pa_cons (pe_fld (pv 1) rfl) (pa_cons (pv 2) (pa_cons (pe_fld (pv 1) rfl) pa_nil)))))))), ?_⟩
  obtain ⟨dx, nm, i, o, hp, hP, hW, hH, h16⟩ := hR
  obtain ⟨hd0, ps, ws, dn⟩ := st
  dsimp only at hp hP hW hH h16 hwl hh k
  subst hh
  obtain ⟨rfl, hi, ho⟩ := hH
  have hok := rinv_ok hI rfl h16 hwl
  have hP' : H d = some (.dK (ps.map fun p => (Sum.inr p.1, V.str p.2))) := hP
  have npd : p ≠ d := fun z => by rw [z, hP'] at hp; cases hp
  have hkl : (ps.map fun p => ((Sum.inr p.1 : Key), V.str p.2)).length = ps.length := List.length_map _
  refine ⟨d, _, hP', trivial, fun oe => ⟨_, rfl, p, CR, dx, _, _, rfl, (upd_ne npd).trans hp, R.cl, R.nP, rfl, d, oe, rfl, .inl ⟨_, upd_same, fun D hD => ?_⟩⟩⟩
  have nDd : D ≠ d := fun z => by rw [z, upd_same] at hD; cases hD
  have hD0 : H D = none := by
    rw [upd_ne nDd] at hD
    exact hD
  refine out_it walk_keys (fun j H' => (∀ b z, b ≠ d → H b = some z → H' b = some z) ∧ H' d = some (.frz oe (.dK (ps.map fun p => (Sum.inr p.1, V.str p.2)))) ∧ ∃ bs : List Addr, H' D = some (.lst (bs.map V.ref)) ∧ PairsAt H' bs (ps.take j))
    ⟨fun b z n e => (upd_ne (ne_of_none e hD0)).trans ((upd_ne n).trans e), (upd_ne nDd.symm).trans upd_same, [], upd_same, rfl, fun i a p e _ => by cases e⟩ (fun j H' _ q => q.2.1) ?_ ?_
  · rintro j x H1 H2 hj ⟨s1, hf1, bs, hD1, hb1⟩ ⟨rfl, kk, v, hk, rfl⟩
    rw [List.getElem?_map] at hk
    obtain ⟨q, hq, hk⟩ := Option.map_eq_some_iff.mp hk
    cases hk
    refine ⟨rfl, _, rfl, _, rfl, p, CR, dx, _, _, rfl, s1 _ _ npd hp, R.cl, R.nP, rfl, _, rfl, d, .str q.2, rfl, .inl ⟨_, Sum.inr q.1, .inr ⟨oe, hf1⟩, rfl, (val_part ps hI.nd j q hq).symm⟩, small1 (by show 2 ≤ 8; decide), fun t ht => ⟨_, (upd_ne (ne_of_none hD1 ht)).trans hD1, ?_, ?_, ?_, bs ++ [t], ?_, ?_⟩⟩
    · rw [List.length_map, hb1.1, List.length_take]
      exact Nat.lt_of_le_of_lt (Nat.le_trans (Nat.min_le_right _ _) h16) (by rw [sizeLine_eq]; decide)
    · exact fun b z n e => (upd_ne (ne_of_none e hD0)).trans ((upd_ne (ne_of_none (s1 b z n e) ht)).trans (s1 b z n e))
    · exact (upd_ne nDd.symm).trans ((upd_ne (ne_of_none hf1 ht)).trans hf1)
    · rw [upd_same, List.map_append]
      rfl
    · rw [tk1 hq]
      refine PairsAt.snoc (hb1.keep fun b us e => ?_) ?_
      · have nb : b ≠ D := fun z => by rw [z, hD1] at e; cases e
        exact (upd_ne nb).trans ((upd_ne (ne_of_none e ht)).trans e)
      · exact (upd_ne (ne_of_none hD1 ht).symm).trans upd_same
  rintro H1 ⟨s1, hf1, bs, hD1, hb1⟩
  rw [hkl, List.take_length] at hb1
  refine ⟨hf1, ?_⟩
  have S2 : Same H (upd H1 d (.dK (ps.map fun p => (Sum.inr p.1, V.str p.2)))) := fun b z e => by
    by_cases hb : b = d
    · rw [hb] at e ⊢
      rw [upd_same, ← e, hP']
    · exact (upd_ne hb).trans (s1 b z hb e)
  have hD2 : (upd H1 d (.dK (ps.map fun p => (Sum.inr p.1, V.str p.2)))) D = some (.lst (bs.map V.ref)) := (upd_ne nDd).trans hD1
  have hb2 : PairsAt (upd H1 d (.dK (ps.map fun p => (Sum.inr p.1, V.str p.2)))) bs ps := hb1.keep fun b us e => by
    have nb : b ≠ d := fun z => by rw [z, hf1] at e; cases e
    exact (upd_ne nb).trans e
  generalize upd H1 d (.dK (ps.map fun p => (Sum.inr p.1, V.str p.2))) = H2 at S2 hD2 hb2 ⊢
  have hp2 := S2 _ _ hp
  refine ⟨rfl, _, rfl, p, CR, dx, _, _, rfl, hp2, R.cl, R.nN, rfl, _, rfl, p, CR, dx, _, _, rfl, hp2, R.cl, R.nI, rfl, _, rfl, p, CR, dx, _, _, rfl, hp2, R.cl, R.nO, rfl, _, rfl, _, rfl, p, CR, dx, _, _, rfl, hp2, R.cl, R.nW, rfl, fun y dy hy hdy hne => ?_⟩
  have S3 : Same H2 (upd (upd H2 dy (.own y)) y (.ins C dy [])) := same_put (upd_new hdy) hy
  refine ⟨y, dy, i, o, D, dw, n, outs, bs, ps, ws, rfl, upd_same, sqT_same (S2.trans S3) ho.sq, .of (S3 _ _ hD2), hb2.same S3, (hW.same S2).same S3, hok, fun pa wa cs H' X hy' hpa hps' hwa hws => ⟨rfl, ?_⟩⟩
  have S4 : Same H2 H' := fun b z e => X _ _ (ne_of_none e hy) (S3 _ _ e)
  exact k y H' (S2.trans S4) (S2.free hy) ⟨dy, i, o, pa, wa, bs, cs, hy', ixT_same (S2.trans S4) hi, ixT_same (S2.trans S4) ho, hpa, hps', hwa, hws⟩
end
end K28
namespace K28
open PySem L2 Own StX ClX NdefX
abbrev sParse : Stmt := inClass (top 33) 3
/-- a reader over rows: the number of the first wrong one, or the state at the end -/
def run (st : RS) (k : Nat) : List Str → Nat ⊕ RS
  | [] => if st.done = true then .inr st else .inl k
  | r :: rs => match step st r with
    | none => .inl k
    | some st' => run st' (k + 1) rs
def spParse (K : PySem.W.Frag) (CR C CI : Addr) : Sp := fun vs H Q E => ∃ (x : Str), vs = [.ref C, .str x] ∧ x.length ≤ 16000000 ∧ (Txt.split x "\n").length ≤ 10100 ∧ (∀ r ∈ Txt.split x "\n", r.length ≤ 190000) ∧
  (∀ k, run st0 0 (Txt.split x "\n") = .inl k → ∀ d H', Same H H' → H d = none → H' d = some (.xd [("row", .int (k : Nat))]) → E (.ref CI) (some d) H') ∧
  (∀ st n ins outs, run st0 0 (Txt.split x "\n") = .inr st → st.head = some (n, ins, outs) → DSm n ins outs st.parts (wiresOf st.parts outs st.wires) → ∀ y H', Same H H' → H y = none → DgAt K C H' y n ins outs st.parts (wiresOf st.parts outs st.wires) → Q (.ref y) H')
section
variable {P : Program} {w : World} {K : PySem.W.Frag} {mg : Str → Option Value} {base : Heap} {C CR CI : Addr}
abbrev nPa : List Str := ["cls", "text", "rows", "reader", "number", "row"]
theorem scPa : FnScope nPa ["cls", "text"] (defScope sParse) := ⟨rfl, rfl, rfl, by decide +kernel, rfl, by decide +kernel, by decide +kernel⟩
theorem ok_parse {f fT fI fE gO pO : Addr} {fd fdT fdI fdE : FuncData} {mc : Value} (F : Fun K "parse" "Diagram.parse" sParse f fd) (zl : mg "len" = none) (ze : mg "enumerate" = none) (R : RdC P w K mg base CR)
    (mT : Meth K CR "take" fT) (GT : FnOk P w K mg base CX0 5 fT fdT ["self", "row"] (spTake K CR)) (bT : Binds K fdT ["self", "row"] [])
    (M : Mk K CR fI) (GI : FnOk P w K mg base CX0 1 fI fdI ["self", "max_ports", "max_parts"] (spRI K CR)) (mR : mg "DiagramReader" = some (.ref CR)) (bI : Binds K fdI ["self", "max_ports", "max_parts"] [])
    (cr : CRead K C mc) (v8 : ∃ u, CVal K C mc "MAX_PORTS" (.int 8) u) (v16 : ∃ u, CVal K C mc "MAX_PARTS" (.int 16) u) (cm : CMet K C mc "of_reader" pO gO) (GO : FnR P w K mg base CX0 4 gO (spOf K CR C))
    (Er : ErrC K mg CI fE) (GE : FnOk P w K mg base CX0 1 fE fdE ["self", "row"] (spErr K CI)) (bE : Binds K fdE ["self", "row"] []) : FnOk P w K mg base (L2.CX P w) 6 f fd ["cls", "text"] (spParse K CR C CI) := by
  refine F.okX scPa (fun vs H Q E h => ?_) (fun cdv A outer s H vs Q E hr h => ?_)
  · obtain ⟨x, rfl, _⟩ := h
    rfl
  obtain ⟨x, rfl, hx, hrl, hrr, kE, kS⟩ := h
  obtain ⟨u8, v8⟩ := v8
  obtain ⟨u16, v16⟩ := v16
  refine ⟨_, pss_cons (ps_set (i := 2) scPa.nd rfl (.inl rfl) (pe_split (pv 1) pe_str))
    (pss_cons (ps_set (i := 3) scPa.nd rfl (.inl rfl) (pe_make M GI (hr.mono (by decide)) rfl mR bI .nil pass0 (pa_cons (pe_cval (pv 0)) (pa_cons (pe_cval (pv 0)) pa_nil))))
    (pss_cons (ps_for (passes_of rfl) rfl (pi_enum (by rfl) ze (pa_cons (pv 2) pa_nil)) (pg_tup (by rfl) (pgs_cons (pg_name (i := 4) scPa.nd rfl (.inl rfl)) (pgs_cons (pg_name (i := 5) scPa.nd rfl (.inl rfl)) pgs_nil)))
      (pss_one (ps_if (pt_not (pt_val (pe_meth (pv 3) R.cl mT GT hr bT .nil pass0 (pa_cons (pv 5) pa_nil)))) (pss_one (ps_raise rfl (takes_of rfl rfl rfl rfl) (pmk_oex Er.ox Er.ini Er.ty GE (hr.mono (by decide)) bE .nil pass0 rfl Er.m (pa_cons (pv 4) pa_nil)))) pss_nil)))
    (pss_cons (ps_if (pt_not (pt_val (pe_fld (pv 3) rfl))) (pss_one (ps_raise rfl (takes_of rfl rfl rfl rfl) (pmk_oex Er.ox Er.ini Er.ty GE (hr.mono (by decide)) bE .nil pass0 rfl Er.m (pa_cons (pe_callB call_len_seq (by rfl) zl PySem.boot_len (pa_cons (pv 2) pa_nil)) pa_nil)))) pss_nil)
    (pss_one (ps_ret (pe_cmeth (pv 0) cr cm GO (hr.mono (by decide)) pass0 (pa_cons (pv 3) pa_nil))))))), ?_⟩
  have sz : ∀ {n : Nat}, n ≤ 16000100 → n ≤ sizeLine := fun h => by rw [sizeLine_eq]; omega
  refine ⟨_, rfl, ⟨_, rfl⟩, _, _, rfl, rfl, by decide +kernel, sz (by omega), fun rl hrl0 => ?_⟩
  have s1 := upd_new (o := HO.lst ((Txt.split x "\n").map V.str)) hrl0
  have hl1 : upd H rl (HO.lst ((Txt.split x "\n").map V.str)) rl = some (.lst ((Txt.split x "\n").map V.str)) := upd_same
  generalize upd H rl (HO.lst ((Txt.split x "\n").map V.str)) = H1 at s1 hl1 ⊢
  generalize Txt.split x "\n" = rows at *
  refine ⟨_, rfl, C, mc, .int 8, u8, rfl, cr, v8, _, rfl, C, mc, .int 16, u16, rfl, cr, v16, fun p dx hp hdx hne => ?_⟩
  have S2 : Same H1 (upd (upd H1 dx (.own p)) p (.ins CR dx [])) := same_put (upd_new hdx) hp
  refine ⟨p, dx, rfl, upd_same, fun d dw H2 X2 hR hd0 hw0 => ⟨rfl, ?_⟩⟩
  have s2 : Same H1 H2 := fun b z e => X2 _ _ (ne_of_none e hp) (S2 _ _ e)
  have fd0 : H1 d = none := S2.free hd0
  have fw0 : H1 dw = none := S2.free hw0
  -- the rows
  refine ⟨_, rfl, rl, rows.map V.str, rfl, .of (s2 _ _ hl1), ?_⟩
  refine for_it (walk_enum (xs := rows.map V.str)) (fun i σ H' => ∃ (u v : Option V) (st : RS), σ = [some (.ref C), some (.str x), some (.ref rl), some (.ref p), u, v] ∧ Same H1 H' ∧ RdAt K CR H' p d dw st ∧ RInv st ∧ st.wires.length ≤ i ∧ run st0 0 rows = run st i (rows.drop i))
    ⟨none, none, st0, rfl, s2, hR, rinv0, Nat.le_refl _, rfl⟩ (fun i σ H' _ q => ?_) ?turn1 ?done1
  · obtain ⟨_, _, _, _, z, _⟩ := q
    exact .of (z _ _ hl1)
  case turn1 =>
    rintro i z σ H3 H4 hi ⟨u, v, st, rfl, s3, hR3, hI3, hw3, hrun⟩ ⟨T, a, b, rfl, hT, rfl, ea, eb⟩
    cases ea
    have eb : (rows.map V.str)[i]? = some b := eb
    rw [List.getElem?_map] at eb
    obtain ⟨row, hrow, rfl⟩ := Option.map_eq_some_iff.mp eb
    have hdrop : rows.drop i = row :: rows.drop (i + 1) := by
      obtain ⟨hlt, hget⟩ := List.getElem?_eq_some_iff.mp hrow
      rw [← hget]
      exact List.drop_eq_getElem_cons hlt
    have hrow8 := hrr row (List.mem_of_getElem? hrow)
    have hilt : i < rows.length := (List.getElem?_eq_some_iff.mp hrow).1
    have st4 := upd_new (o := HO.tup [V.int (i : Nat), .str row]) hT
    refine ⟨T, _, rfl, .of upd_same, rfl, _, _, rfl, _, _, rfl, rfl, ?_⟩
    generalize upd H3 T (HO.tup [V.int (i : Nat), .str row]) = H4 at st4 ⊢
    have hR4 : RdAt K CR H4 p d dw st := by
      obtain ⟨dx, nm, i, o, h1, h2, h3, h4, h5⟩ := hR3
      refine ⟨dx, nm, i, o, st4 _ _ h1, st4 _ _ h2, h3.same st4, ?_, h5⟩
      cases hh : st.head with
      | none => rw [hh] at h4; exact h4
      | some r =>
        rw [hh] at h4
        obtain ⟨n, ins, outs⟩ := r
        exact ⟨h4.1, ixT_same st4 h4.2.1, ixT_same st4 h4.2.2⟩
    have hpi := hR4
    obtain ⟨dx3, nm3, i3, o3, hp4, _⟩ := hpi
    refine ⟨_, rfl, p, dx3, _, rfl, hp4, rfl, _, rfl, ?_⟩
    dsimp only [tNil, List.append_nil]
    refine ⟨p, d, dw, row, st, rfl, hR4, by omega, hrow8, fun e H5 s5 => ⟨_, rfl, ?_⟩, fun st' e H5 s5 hR5 => ⟨_, rfl, ?_⟩⟩
    · refine iteT ⟨_, rfl, by show 1 ≤ 1000; decide, fun a ha => ⟨a, (i : Nat), rfl, upd_same, fun dx h1 h2 => ?_⟩⟩
      have hdx : H5 dx = none := by rw [← h1, upd_ne h2]
      have s15 := s1.trans (s3.trans (st4.trans s5))
      refine ⟨rfl, dx, _, upd_same, by rw [upd_ne h2]; exact upd_same, hdx, kE i (by rw [hrun, hdrop]; unfold run; rw [e]) dx _ (fun b u q => ?_) (s15.free hdx) upd_same⟩
      have e1 := s15 b u q
      have hb := ne_of_none e1 ha
      have hd := ne_of_none e1 hdx
      rw [upd_ne hd, del_ne hb, upd_ne hb, upd_ne hd, upd_ne hb]
      exact e1
    · obtain ⟨hI5, hw5⟩ := step_inv hI3 hrow8 e
      refine iteF ⟨_, _, st', rfl, fun b u q => ?_, hR5, hI5, by omega, by rw [hrun, hdrop]; show (match step st row with | none => _ | some st' => _) = _; rw [e]⟩
      have e4 := st4 _ _ (s3 b u q)
      exact s5 b u (ne_of_none q hp) (ne_of_none q fd0) (ne_of_none q fw0) e4
  rintro σ H3 ⟨u, v, st, rfl, s3, hR3, hI3, hw3, hrun⟩
  rw [List.length_map] at hw3 hrun
  rw [List.drop_length] at hrun
  have hpi := hR3
  obtain ⟨dx3, nm3, i3, o3, hp3, _, _, _, h16⟩ := hpi
  refine ⟨_, rfl, p, CR, dx3, _, _, rfl, hp3, R.cl, R.nD, rfl, _, rfl, ?_⟩
  cases hdn : st.done with
  | false =>
    refine iteT ⟨_, rfl, rl, _, rfl, .inl (.of (s3 _ _ hl1)), by show 1 ≤ 1000; decide, fun a ha => ⟨a, (rows.length : Nat), by rw [List.length_map]; rfl, upd_same, fun dx h1 h2 => ?_⟩⟩
    have hdx : H3 dx = none := by rw [← h1, upd_ne h2]
    have s13 := s1.trans s3
    refine ⟨rfl, dx, _, upd_same, by rw [upd_ne h2]; exact upd_same, hdx, kE rows.length (by rw [hrun]; unfold run; rw [hdn]; rfl) dx _ (fun b u q => ?_) (s13.free hdx) upd_same⟩
    have e1 := s13 b u q
    have hb := ne_of_none e1 ha
    have hd := ne_of_none e1 hdx
    rw [upd_ne hd, del_ne hb, upd_ne hb, upd_ne hd, upd_ne hb]
    exact e1
  | true =>
    obtain ⟨⟨n, ins, outs⟩, hh⟩ : ∃ r, st.head = some r := by
      cases hh : st.head with
      | none =>
        have := (hI3.h0 hh).2.2
        rw [hdn] at this
        cases this
      | some r => exact ⟨r, rfl⟩
    refine iteF ⟨_, rfl, rfl, _, rfl, p, d, dw, st, n, ins, outs, rfl, hR3, hI3, hh, by omega, fun y H4 s4 hy hD => ?_⟩
    exact kS st n ins outs (by rw [hrun]; unfold run; rw [hdn]; rfl) hh (rinv_sm hI3 hh h16 (by omega)) y H4 ((s1.trans s3).trans s4) ((s1.trans s3).free hy) hD
end
end K28
/-! dict comprehensions whose keys are ints, texts or tuples of them, with one source or two -/
namespace Own
open PySem PySem.Spec PyProof.Rows L2
/-- what a comprehension stores -/
theorem c_dictSet {X : Cx} {pins : List (Addr × Obj)} {σ : L2.St} {H H' : Hp} {s : Shared} {E : Value → Shared → Prop} {D : Addr} {y v : V} {u r : Value} {Q : Unit → Shared → Prop} (hu : X.A.units < cLine) (I : Inv X pins σ H s) (g : DPut H D y v H')
    (ry : RelV y u) (rv : RelV v r) (h : ∀ s', Inv X pins σ H' s' → Q () s') : wpAny (model X.prog X.w) X.A (dictSet D u r) Q E s := by
  rcases g with ⟨kvs, k, e, ey, l, eH⟩ | ⟨kvs, k, b, e, ey, eb, l, eH⟩
  · subst ey eH
    exact d_dictSet I e l ry rv h
  · subst ey eH
    cases (show u = Value.ref b from ry)
    obtain ⟨z, hd, xs, rel, dd⟩ := dt_of I.hok e
    have hz : xs.length ≤ sizeLine := by rw [← Paired.length rel]; exact z
    have hl : (putK kvs k v).length ≤ sizeLine := by have := length_putK kvs k v; omega
    refine wpAny_dictSet_heap (hsz := hz) (show (tupleKind (mixKind X.prog X.w)).room X.A from hu) (key_of I.hok eb) dd fun h' dd' hs => h _ ?_
    obtain ⟨q, es, ep, hq, h2, h3, h4, _, h5⟩ := dd'
    refine d_write I (by rw [e]; exact True.intro) hs ⟨q, hq⟩ ⟨hl, hd, _, (rel.put k eb rv).keeps fun c ys ec => ?_, q, es, ep, hq, h2, h3, h4, h5⟩
    rw [upd_ne (ne_of ec e (fun z => nomatch z))]
    exact ec

/-! ### the start and the end of such a comprehension, whatever its sources -/
section
variable {X : Cx}
/-- behind the first source's value: the new dict stands at D -/
def tDcG (o : HO) (wi : TI) (Go : It → Addr → L2.St → Hp → (Hp → Prop) → Prop) : TE := fun σ H Q => wi σ H fun J H1 => ∀ D, H1 D = none → Go J D σ (upd H1 D o) fun H' => Q (.ref D) H'
def LoopH (X : Cx) (kx vx tg iter : Expr) (ifs : List Expr) (rest : List Comprehension) (scope : Scope) (own : List (Str × Nat)) (pos : Pos) (Go : It → Addr → L2.St → Hp → (Hp → Prop) → Prop) : Prop :=
  ∀ (s3 : Shared) (H3 : Hp) (C : Addr) (cl : List (Str × Addr)) (fp : List Addr) (ce : Env) (it D : Addr) (tn : Nat → Heap → Prop) (J : It) (σ : L2.St) (Qd : Hp → Prop) (s4 : Shared) (R : Result → Shared → Prop), ce = compEnvC scope cl C X.env → Turn X.prog X.w X.K tg J fp it tn → Go J D σ H3 Qd →
      Inv (X.blk s3 H3 scope ce fp) [] (wipe σ (own.map (·.2))) H3 s4 → tn 0 s4.heap → (∀ b ∈ fp, H3 b = none) → (∀ s6 H6, Inv (X.blk s3 H3 scope ce fp) [] (wipe σ (own.map (·.2))) H6 s6 → Qd H6 → R (.ok .next) s6) →
      codeAny (model X.prog X.w) X.A (.compLoop (.DictComp kx vx (⟨tg, iter, ifs, 0⟩ :: rest) scope pos) 0 (.ref it) (.ref D) ce) R s4
theorem dcG_core {pins : List (Addr × Obj)} {s : Shared} {σ : L2.St} {H : Hp} {Q : VK} {pos' : Pos} {use : Option (Value → Sem Unit)} {Qf : Value → Shared → Prop} {kx vx tg iter : Expr} {ifs : List Expr} {rest : List Comprehension} {scope : Scope} {own : List (Str × Nat)} {pos : Pos} {wi : TI} {Go : It → Addr → L2.St → Hp → (Hp → Prop) → Prop}
    {o : HO} (ho : o = .dT [] ∨ o = .dK []) (hN : X.N.Nodup) (I : Inv X pins σ H s) (hi : PI X tg iter wi) (ok : BlkOk X.N X.env.scope scope own) (hs : ∀ x, foldedSetIterable iter X.env x = pure x) (loop : LoopH X kx vx tg iter ifs rest scope own pos Go) (h : tDcG o wi Go σ H Q)
    (hRR : ∀ D C s' m H', Inv X pins σ H' s' → Q (.ref D) H' → s'.heap.Ns C m → FpOk X pins H' C → compPost (model X.prog X.w) X.A X.xe use Qf (.ref D) C (.ok .next) s') :
    wpAny (model X.prog X.w) X.A (comprehension (.DictComp kx vx (⟨tg, iter, ifs, 0⟩ :: rest) scope pos) scope X.env pos' newDict false (eval iter X.env) use) Qf X.xe s := by
  refine wpAny_comprehension_free (use := use) rfl hs (closure_ok fun y hy e => ?_) ok.kind (fun y hy e => by rw [ok.uniq y hy, e]) (thn (hi.run pins s σ H _ I h) fun xv s1 hx => thn hx fun itv s2 h2 => ?_)
  · rcases ok.free y hy e with k | k
    · exact I.ok.has _ (.inl k)
    · exact I.ok.has _ (.inr k)
  obtain ⟨it, fp, tn, J, H2, e, I2, T, st2, f2, q⟩ := h2
  subst e
  refine wpAny_newObj_type (newEnv_comp ?_)
  have q := q _ (I2.hok.fresh (Nat.le_refl _))
  have hlt : ∀ b ∈ fp, b < s2.heap.objs.size := fun b hb => by
    obtain ⟨o, e, _⟩ := T.obj _ _ st2 b hb
    exact Heap.lt_size e
  have kp : ∀ b o, s2.heap.get? b = some o → (s2.heap.push { cls := .type "dict", data := .dict #[] }).get? b = some o := fun b o e => Heap.get?_push_of_some _ e
  have I3 : Inv X pins σ (upd H2 s2.heap.objs.size o) { s2 with heap := s2.heap.push { cls := .type "dict", data := .dict #[] } } := I2.laid (t' := s2.toks) kp (Nat.le_refl _) (by rcases ho with rfl | rfl; exact dt_empty s2.heap I2.big; exact dk_empty s2.heap I2.big)
  have hsz : ({ s2 with heap := s2.heap.push { cls := .type "dict", data := .dict #[] } } : Shared).heap.objs.size = s2.heap.objs.size + 1 := Heap.size_push _ _
  have f3 : ∀ b ∈ fp, FpOk X pins (upd H2 s2.heap.objs.size o) b ∧ b < ({ s2 with heap := s2.heap.push { cls := .type "dict", data := .dict #[] } } : Shared).heap.objs.size := fun b hb =>
    ⟨⟨by rw [upd_ne (Nat.ne_of_lt (hlt b hb))]; exact (f2 b hb).1, (f2 b hb).2⟩, by rw [hsz]; exact Nat.lt_succ_of_lt (hlt b hb)⟩
  have st3 : tn 0 ({ s2 with heap := s2.heap.push { cls := .type "dict", data := .dict #[] } } : Shared).heap := T.keep _ _ _ st2 fun b _ o e => kp b o e
  generalize ({ s2 with heap := s2.heap.push { cls := .type "dict", data := .dict #[] } } : Shared) = s3 at I3 f3 hsz st3
  generalize hD : s2.heap.objs.size = D at *
  have I4 := block_start I3 ok hN f3
  show codeAny _ _ (.compStart (.DictComp kx vx (⟨tg, iter, ifs, 0⟩ :: rest) scope pos) 0 (.ref it) (.ref D) (compEnvC scope (cellsFrom (s3.heap.objs.size + 1) scope.names (cloFrom X.env.cells scope.names [])) s3.heap.objs.size X.env)) (compPost (model X.prog X.w) X.A X.xe use Qf (.ref D) s3.heap.objs.size) { s3 with heap := pushCells (s3.heap.push { cls := .type "dict", data := .dict #[] }) scope.names }
  have nfp : ∀ b ∈ fp, (upd H2 D o) b = none := fun b hb => (f3 b hb).1.1
  have lp := fun (s4 : Shared) R => loop s3 (upd H2 D o) s3.heap.objs.size (cellsFrom (s3.heap.objs.size + 1) scope.names (cloFrom X.env.cells scope.names [])) fp _ it D tn J σ _ s4 R rfl T q
  have hloc : (compEnvC scope (cellsFrom (s3.heap.objs.size + 1) scope.names (cloFrom X.env.cells scope.names [])) s3.heap.objs.size X.env).locals = s3.heap.objs.size := rfl
  generalize compEnvC scope (cellsFrom (s3.heap.objs.size + 1) scope.names (cloFrom X.env.cells scope.names [])) s3.heap.objs.size X.env = ce at I4 lp hloc ⊢
  generalize upd H2 D o = H3 at I3 I4 lp nfp f3
  generalize hs4 : ({ s3 with heap := pushCells (s3.heap.push { cls := .type "dict", data := .dict #[] }) scope.names } : Shared) = s4 at I4 ⊢
  have st4 : tn 0 s4.heap := T.keep _ _ _ st3 fun b _ o e => by rw [← hs4]; exact pushCells_keeps _ _ _ _ (Heap.get?_push_of_some _ e)
  have fin : codeAny (model X.prog X.w) X.A (.compLoop (.DictComp kx vx (⟨tg, iter, ifs, 0⟩ :: rest) scope pos) 0 (.ref it) (.ref D) ce) (compPost (model X.prog X.w) X.A X.xe use Qf (.ref D) s3.heap.objs.size) s4 := by
    refine lp s4 _ I4 st4 nfp fun s6 H6 I6 q6 => ?_
    have I7 : Inv X pins σ H6 s6 := I3.call' (ch := fp) I6.os I6.base I6.hok I6.bare fun b hb => ⟨(f3 b hb).1.2.2.2.1, (f3 b hb).1.2.1, (f3 b hb).1.2.2.2.2.1, (f3 b hb).1.2.2.2.2.2⟩
    have nC : H6 s3.heap.objs.size = none := by
      have z : H6 ce.locals = none := I6.free
      rw [hloc] at z
      exact z
    obtain ⟨m, hn, _⟩ := I6.loc
    have hn : s6.heap.Ns ce.locals m := hn
    rw [hloc] at hn
    exact hRR D s3.heap.objs.size s6 m H6 I7 q6 hn (I3.fpOk (Nat.le_refl _) nC)
  exact codeAny_compStart_dict fin (T.self X.A 0 _ _ _ st4 fin)
theorem pe_dcG {kx vx tg iter : Expr} {ifs : List Expr} {rest : List Comprehension} {scope : Scope} {own : List (Str × Nat)} {pos : Pos} {wi : TI} {Go : It → Addr → L2.St → Hp → (Hp → Prop) → Prop}
    {o : HO} (ho : o = .dT [] ∨ o = .dK []) (hN : X.N.Nodup) (hi : PI X tg iter wi) (ok : BlkOk X.N X.env.scope scope own) (hs : ∀ x, foldedSetIterable iter X.env x = pure x) (loop : LoopH X kx vx tg iter ifs rest scope own pos Go) :
    PE X (.DictComp kx vx (⟨tg, iter, ifs, 0⟩ :: rest) scope pos) (tDcG o wi Go) := by
  refine ⟨fun pins s σ H Q I h => ?_⟩
  rw [arm_eval_DictComp]
  show wpAny _ _ (comprehension (.DictComp kx vx (⟨tg, iter, ifs, 0⟩ :: rest) scope pos) scope X.env iter.pos newDict false (eval iter X.env)) _ _ s
  refine dcG_core ho hN I hi ok hs loop h fun D C s' m H' I' q hn f => ⟨m, hn, fun h'' sb => ?_⟩
  obtain ⟨f0, f1, f2, f3, f4, f5⟩ := f
  exact ⟨.ref D, H', I'.turned (t' := s'.toks) (fun b o hb e => (sb.2 b hb).trans e) f0 f1 f3 f4 f5, rfl, q⟩
theorem sw_trueD {kx vx : Expr} {gs : List Comprehension} {scope : Scope} {pos py : Pos} {y : Str} {l : Nat} {env : Env} (hk : env.scope.kind = .function) (hy : env.scope.names.lookup y = some .local) (hl : (py.line == pos.line) = true)
    (ha : (scope.names.any fun (n, k) => n == y && (k == .local || k == .cell)) = false) : swapsWith (.DictComp kx vx gs scope pos) (some (.Name y py)) l env = pure true := by
  have ky : env.kindOf y = some .local := hy
  have hb : env.blockKind = .function := by unfold Env.blockKind; rw [hk]; rfl
  unfold swapsWith
  simp only [hb, ky, ha, Expr.pos, hl]
  rfl
/-- y = {..} -/
theorem ps_setDcG {i : Nat} {y : Str} {py spos : Pos} {kx vx tg iter : Expr} {ifs : List Expr} {rest : List Comprehension} {scope : Scope} {own : List (Str × Nat)} {pos : Pos} {wi : TI} {Go : It → Addr → L2.St → Hp → (Hp → Prop) → Prop}
    {o : HO} (ho : o = .dT [] ∨ o = .dK []) (hN : X.N.Nodup) (hy : X.N[i]? = some y) (hyl : X.env.scope.names.lookup y = some .local) (hsw : swapsWith (.DictComp kx vx (⟨tg, iter, ifs, 0⟩ :: rest) scope pos) (some (.Name y py)) spos.line X.env = pure true)
    (hi : PI X tg iter wi) (ok : BlkOk X.N X.env.scope scope own) (hs : ∀ x, foldedSetIterable iter X.env x = pure x) (loop : LoopH X kx vx tg iter ifs rest scope own pos Go) :
    PS X (.Assign [.Name y py] (.DictComp kx vx (⟨tg, iter, ifs, 0⟩ :: rest) scope pos) spos) (tAsg (tDcG o wi Go) (gName i)) := by
  refine ⟨fun pins s σ H D I h => ?_⟩
  rw [exec_Assign_Name_used _ _ _ _ hsw]
  refine wpAny_bind (wpAny_standAt (wpAny_bind ?_))
  show wpAny _ X.A (do let _ ← comprehension (.DictComp kx vx (⟨tg, iter, ifs, 0⟩ :: rest) scope pos) scope X.env (firstIterPos (⟨tg, iter, ifs, 0⟩ :: rest) pos) newDict false (eval iter X.env) (some (assign (.Name y py) X.env))) _ _ s
  have h : tDcG o wi Go σ H (fun x H1 => gName i x σ H1 D.nx) := h
  refine wpAny_bind (thn (dcG_core (Qf := fun _ s' => SP X pins D .next s') ho hN I hi ok hs loop h fun L C s' m H' I' q hn f => ?_) fun _ s' hq => wpAny_pure (wpAny_pure hq))
  show wpAny _ _ (assign (.Name y py) X.env (.ref L)) _ _ _
  refine wpAny_assign_Name (store_ok2 (v := V.ref L) I' hN hy (.inl hyl) rfl (fun s2 I2 ⟨a, sb, ha⟩ => ?_) (.inr hyl))
  obtain ⟨f0, f1, f2, f3, f4, f5⟩ := f
  have haC : C ≠ a := by
    rcases ha with z | z
    · rw [z]; exact f1
    · exact fun e => f4 y a z e.symm
  refine ⟨m, hn.sameBut sb haC, fun h3 sb3 => ?_⟩
  exact ⟨_, H', I2.turned (t' := s2.toks) (fun b o hb e => (sb3.2 b hb).trans e) f0 f1 f3 f4 f5, q⟩
end

/-- a turn is over: the iterator stands where the next one begins -/
theorem turn_end {B : Cx} {P : Program} {w : World} {K : PySem.W.Frag} {pins : List (Addr × Obj)} {fp : List Addr} {h7 : Heap} {σ9 σ0 : L2.St} {H' : Hp} {s' : Shared} {tg : Expr} {J : It} {it : Addr} {tn : Nat → Heap → Prop} {i : Nat} (T : Turn P w K tg J fp it tn) (st : tn i h7)
    (I : Inv B (pins ++ pinsAt fp h7) σ9 H' s') (hl : σ0.length = σ9.length) (hk : ∀ (j : Nat) v, σ0[j]? = some (some v) → σ9[j]? = some (some v)) : Inv B pins σ0 H' s' ∧ tn i s'.heap ∧ ∀ b ∈ fp, H' b = none := by
  have pin : ∀ b ∈ fp, ∀ o, h7.get? b = some o → s'.heap.get? b = some o ∧ H' b = none := fun b hb o e =>
    let z := I.pin (b, o) (List.mem_append_right _ (List.mem_append_right _ (mem_pinsAt hb e)))
    ⟨z.1, z.2.1⟩
  refine ⟨I.unpinned.weak hl hk, T.keep _ _ _ st fun b hb o e => (pin b hb o e).1, fun b hb => ?_⟩
  obtain ⟨o, e, _⟩ := T.obj _ _ st b hb
  exact (pin b hb o e).2
/-- in the block of a comprehension its iterator's objects stand apart -/
theorem blk_fp {X : Cx} {s3 : Shared} {H3 H' : Hp} {scope : Scope} {ce : Env} {fp : List Addr} {σ : L2.St} {s : Shared} (I : Inv (X.blk s3 H3 scope ce fp) [] σ H' s) (hn : ∀ b ∈ fp, H' b = none) : ∀ b ∈ fp, FpOk (X.blk s3 H3 scope ce fp) [] H' b := fun b hb =>
  ⟨hn b hb, (I.ok.exf b hb).1, I.ok.exfs b hb, .inl hb, fun x c e => (I.ok.exf b hb).2 x c e, fun p hp => absurd (show p ∈ ([] : List (Addr × Obj)) ++ [] from hp) (by simp)⟩
theorem wipe_up {σ σ8 : L2.St} {vs : List Nat} (h : wipe σ8 vs = wipe σ vs) : (wipe σ vs).length = σ8.length ∧ ∀ (j : Nat) v, (wipe σ vs)[j]? = some (some v) → σ8[j]? = some (some v) :=
  ⟨by rw [← h, wipe_length], fun j v e => by rw [← h] at e; exact (wipe_some e).1⟩
section
variable {X : Cx}
/-- one source -/
def GoT (g : TG) (tt : TT) (tk tv : TE) (vs : List Nat) : It → Addr → L2.St → Hp → (Hp → Prop) → Prop := fun J D σ H Qd => ∃ W : Nat → Nat → Hp → Prop, (∃ m, W 0 m H) ∧ ∀ i m H, W i m H →
  (J.stop i H ∧ Qd H) ∨ (J.go i H ∧ ∃ Nx : Hp → Prop, (∀ H', Nx H' → ∃ m', m' < m ∧ W (i + 1) m' H') ∧ ∀ x H', J.yld i H x H' → g x (wipe σ vs) H' fun σ2 H2 => wipe σ2 vs = wipe σ vs ∧ tt σ2 H2 fun b H3 =>
    if b = true then tk σ2 H3 fun y H4 => tv σ2 H4 fun z H5 => ∃ H6, DPut H5 D y z H6 ∧ Nx H6 else Nx H3)
theorem loop_one {kx vx tg iter : Expr} {ifs : List Expr} {scope : Scope} {own : List (Str × Nat)} {pos : Pos} {g : TG} {tt : TT} {tk tv : TE} (hu : X.A.units < cLine) (hc : X.calm = true)
    (hg : ∀ (s : Shared) (H : Hp) (C : Addr) (cl : List (Str × Addr)) (fp : List Addr), PG (X.blk s H scope (compEnvC scope cl C X.env) fp) tg g) (ht : ∀ (s : Shared) (H : Hp) (C : Addr) (cl : List (Str × Addr)) (fp : List Addr), PTs (X.blk s H scope (compEnvC scope cl C X.env) fp) ifs tt)
    (hk : ∀ (s : Shared) (H : Hp) (C : Addr) (cl : List (Str × Addr)) (fp : List Addr), PE (X.blk s H scope (compEnvC scope cl C X.env) fp) kx tk)
    (he : ∀ (s : Shared) (H : Hp) (C : Addr) (cl : List (Str × Addr)) (fp : List Addr), PE (X.blk s H scope (compEnvC scope cl C X.env) fp) vx tv) : LoopH X kx vx tg iter ifs [] scope own pos (GoT g tt tk tv (own.map (·.2))) := by
  refine fun s3 H3 C cl fp ce it D tn J σ Qd s4 R hce T q I4 st4 n4 fin => ?_
  obtain ⟨W, ⟨m0, w0⟩, turn⟩ := q
  have pg := hg s3 H3 C cl fp
  have pt := ht s3 H3 C cl fp
  have pk := hk s3 H3 C cl fp
  have pe := he s3 H3 C cl fp
  rw [← hce] at pg pt pk pe
  refine compLoop_anyD (fun n s' => ∃ i H', Inv (X.blk s3 H3 scope ce fp) [] (wipe σ (own.map (·.2))) H' s' ∧ tn i s'.heap ∧ (∀ b ∈ fp, H' b = none) ∧ W i n H') ?_ m0 ⟨0, H3, I4, st4, n4, w0⟩
  rintro n s5 ⟨i, H5, I5, st5, n5, w5⟩
  rcases turn i n H5 w5 with ⟨stop, qq⟩ | ⟨go, Nx, hNx, step⟩
  · refine thnF (T.done (X.blk s3 H3 scope ce fp) rfl rfl rfl hc i [] s5 _ H5 (fun _ _ => False) I5 (blk_fp I5 n5) st5 stop) fun r s6 ⟨hr, I6⟩ => ?_
    subst hr
    exact fin s6 H5 I6 qq
  · refine thnF (T.item (X.blk s3 H3 scope ce fp) rfl rfl rfl hc i [] s5 _ H5 (fun _ _ => False) I5 (blk_fp I5 n5) st5 go) fun r s6 ⟨u, hr, h6⟩ => ?_
    subst hr
    refine thnF h6 fun _ s7 ⟨x, H7, I7, r7, y7, st7, n7⟩ => ?_
    have I7' := I7.pinned (blk_fp I7 n7) (T.obj _ _ st7)
    refine thnF (pg.run _ s7 _ H7 x u _ I7' r7 (step x H7 y7)) fun _ s8 ⟨σ8, H8, I8, hw8, q8⟩ => ?_
    obtain ⟨hl8, hk8⟩ := wipe_up hw8
    have next : ∀ {s' : Shared} {H' : Hp}, Inv (X.blk s3 H3 scope ce fp) ([] ++ pinsAt fp s7.heap) σ8 H' s' → Nx H' → ∃ m, m < n ∧ ∃ i H', Inv (X.blk s3 H3 scope ce fp) [] (wipe σ (own.map (·.2))) H' s' ∧ tn i s'.heap ∧ (∀ b ∈ fp, H' b = none) ∧ W i m H' := fun {s' H'} I' nx => by
      obtain ⟨m', hm, w'⟩ := hNx H' nx
      obtain ⟨z1, z2, z3⟩ := turn_end T st7 I' hl8 hk8
      exact ⟨m', hm, i + 1, H', z1, z2, z3, w'⟩
    refine thnF (pt.run _ s8 σ8 H8 _ I8 q8) fun b s9 ⟨H9, I9, q9⟩ => ?_
    cases b with
    | false =>
      simp only [Bool.false_eq_true, if_false] at q9 ⊢
      exact next I9 q9
    | true =>
      simp only [if_true] at q9 ⊢
      refine thnF (pk.run _ s9 σ8 H9 _ I9 q9) fun z s10 ⟨yk, H10, I10, r10, q10⟩ => ?_
      refine thnF (pe.run _ s10 σ8 H10 _ I10 q10) fun z2 s11 ⟨yv, H11, I11, r11, H12, dp, nx⟩ => ?_
      exact c_dictSet (X := X.blk s3 H3 scope ce fp) hu I11 dp r10 r11 fun s12 I12 => next I12 nx
theorem pe_dcT {kx vx tg iter : Expr} {ifs : List Expr} {scope : Scope} {own : List (Str × Nat)} {pos : Pos} {wi : TI} {g : TG} {tt : TT} {tk tv : TE} (o : HO) (ho : o = .dT [] ∨ o = .dK []) (hu : X.A.units < cLine) (hc : X.calm = true) (hN : X.N.Nodup) (hi : PI X tg iter wi) (ok : BlkOk X.N X.env.scope scope own)
    (hg : ∀ (s : Shared) (H : Hp) (C : Addr) (cl : List (Str × Addr)) (fp : List Addr), PG (X.blk s H scope (compEnvC scope cl C X.env) fp) tg g) (ht : ∀ (s : Shared) (H : Hp) (C : Addr) (cl : List (Str × Addr)) (fp : List Addr), PTs (X.blk s H scope (compEnvC scope cl C X.env) fp) ifs tt)
    (hk : ∀ (s : Shared) (H : Hp) (C : Addr) (cl : List (Str × Addr)) (fp : List Addr), PE (X.blk s H scope (compEnvC scope cl C X.env) fp) kx tk)
    (he : ∀ (s : Shared) (H : Hp) (C : Addr) (cl : List (Str × Addr)) (fp : List Addr), PE (X.blk s H scope (compEnvC scope cl C X.env) fp) vx tv) (hs : ∀ x, foldedSetIterable iter X.env x = pure x := by intro _; rfl) :
    PE X (.DictComp kx vx [⟨tg, iter, ifs, 0⟩] scope pos) (tDcG o wi (GoT g tt tk tv (own.map (·.2)))) := pe_dcG ho hN hi ok hs (loop_one hu hc hg ht hk he)
theorem ps_setdcT {i : Nat} {y : Str} {py spos : Pos} {kx vx tg iter : Expr} {ifs : List Expr} {scope : Scope} {own : List (Str × Nat)} {pos : Pos} {wi : TI} {g : TG} {tt : TT} {tk tv : TE} (o : HO) (ho : o = .dT [] ∨ o = .dK []) (hu : X.A.units < cLine) (hc : X.calm = true) (hN : X.N.Nodup) (hy : X.N[i]? = some y) (hyl : X.env.scope.names.lookup y = some .local) (hsw : swapsWith (.DictComp kx vx (⟨tg, iter, ifs, 0⟩ :: []) scope pos) (some (.Name y py)) spos.line X.env = pure true) (hi : PI X tg iter wi) (ok : BlkOk X.N X.env.scope scope own)
    (hg : ∀ (s : Shared) (H : Hp) (C : Addr) (cl : List (Str × Addr)) (fp : List Addr), PG (X.blk s H scope (compEnvC scope cl C X.env) fp) tg g) (ht : ∀ (s : Shared) (H : Hp) (C : Addr) (cl : List (Str × Addr)) (fp : List Addr), PTs (X.blk s H scope (compEnvC scope cl C X.env) fp) ifs tt)
    (hk : ∀ (s : Shared) (H : Hp) (C : Addr) (cl : List (Str × Addr)) (fp : List Addr), PE (X.blk s H scope (compEnvC scope cl C X.env) fp) kx tk)
    (he : ∀ (s : Shared) (H : Hp) (C : Addr) (cl : List (Str × Addr)) (fp : List Addr), PE (X.blk s H scope (compEnvC scope cl C X.env) fp) vx tv) (hs : ∀ x, foldedSetIterable iter X.env x = pure x := by intro _; rfl) :
    PS X (.Assign [.Name y py] (.DictComp kx vx (⟨tg, iter, ifs, 0⟩ :: []) scope pos) spos) (tAsg (tDcG o wi (GoT g tt tk tv (own.map (·.2)))) (gName i)) := ps_setDcG ho hN hy hyl hsw hi ok hs (loop_one hu hc hg ht hk he)
end
end Own
/-! nested tuples of texts and ints (==, !=, remove); d.update(e), d.setdefault(t, v) by tuples; enumerate(tuple); statements that are not reached -/
namespace Own
open PySem PySem.Spec PyProof.Rows L2
/-! ### values of texts, ints and tuples -/
mutual
inductive Tq (K : PySem.W.Frag) (H : Hp) : V → PyData → Prop where
  | int (i : Int) : Tq K H (.int i) (.int i)
  | str (x : Str) : Tq K H (.str x) (.str x)
  | tup {a : Addr} {xs : List V} {ds : List PyData} (h : SqT K H a xs) (t : TqAll K H xs ds) : Tq K H (.ref a) (.tuple ds)
inductive TqAll (K : PySem.W.Frag) (H : Hp) : List V → List PyData → Prop where
  | nil : TqAll K H [] []
  | cons {x : V} {xs : List V} {d : PyData} {ds : List PyData} (h : Tq K H x d) (t : TqAll K H xs ds) : TqAll K H (x :: xs) (d :: ds)
end
mutual
theorem tq_same {K : PySem.W.Frag} {H H' : Hp} (e : ∀ a xs, SqT K H a xs → SqT K H' a xs) : ∀ (d : PyData) (v : V), Tq K H v d → Tq K H' v d
  | .none, _, h => by cases h
  | .bool b, _, h => by cases h
  | .int i, _, h => by cases h; exact .int i
  | .str x, _, h => by cases h; exact .str x
  | .list ds, _, h => by cases h
  | .tuple ds, _, h => by
    cases h with
    | tup h1 h2 => exact .tup (e _ _ h1) (tq_sames e ds _ h2)
  | .dict kvs, _, h => by cases h
theorem tq_sames {K : PySem.W.Frag} {H H' : Hp} (e : ∀ a xs, SqT K H a xs → SqT K H' a xs) : ∀ (ds : List PyData) (vs : List V), TqAll K H vs ds → TqAll K H' vs ds
  | [], _, h => by cases h; exact .nil
  | d :: ds, _, h => by
    cases h with
    | cons h1 h2 => exact .cons (tq_same e d _ h1) (tq_sames e ds _ h2)
end
mutual
theorem tq_plain {K : PySem.W.Frag} {H : Hp} : ∀ (d : PyData) (v : V), Tq K H v d → d.plain = true
  | .none, _, h => by cases h
  | .bool b, _, h => by cases h
  | .int i, _, h => rfl
  | .str x, _, h => rfl
  | .list ds, _, h => by cases h
  | .tuple ds, _, h => by
    cases h with
    | tup h1 h2 => exact tq_plains ds _ h2
  | .dict kvs, _, h => by cases h
theorem tq_plains {K : PySem.W.Frag} {H : Hp} : ∀ (ds : List PyData) (vs : List V), TqAll K H vs ds → PyData.plainAll ds = true
  | [], _, h => rfl
  | d :: ds, _, h => by
    cases h with
    | cons h1 h2 =>
      show (d.plain && PyData.plainAll ds) = true
      rw [tq_plain d _ h1, tq_plains ds _ h2]
      rfl
end
section
variable {X : Cx} {pins : List (Addr × Obj)} {σ : L2.St} {H : Hp} {s : Shared}
mutual
theorem Tq.reads (I : Inv X pins σ H s) : ∀ (d : PyData) (v : V) (u : Value), Tq X.K H v d → RelV v u → ∃ as, Reads s.heap u d as
  | .none, _, _, h, r => by cases h
  | .bool b, _, _, h, r => by cases h
  | .int i, _, _, h, r => by
    cases h
    obtain ⟨t, rfl⟩ := r
    exact ⟨_, Reads.int i t⟩
  | .str x, _, _, h, r => by
    cases h
    obtain ⟨t, rfl⟩ := r
    exact ⟨_, Reads.str x t⟩
  | .list ds, _, _, h, r => by cases h
  | .tuple ds, _, _, h, r => by
    cases h with
    | tup hs ha =>
      cases r
      obtain ⟨its, rv, ⟨o, ho, hc, n, hd⟩, _⟩ := I.tuple hs
      obtain ⟨as, hr⟩ := Tq.readsAll I ds _ its ha rv
      exact ⟨_, Reads.tuple ho hc hd hr⟩
  | .dict _, _, _, h, r => by cases h
theorem Tq.readsAll (I : Inv X pins σ H s) : ∀ (ds : List PyData) (vs : List V) (us : List Value), TqAll X.K H vs ds → Vals vs us → ∃ as, ReadsAll s.heap us ds as
  | [], _, _, h, r => by
    cases h
    cases r
    exact ⟨_, ReadsAll.nil⟩
  | d :: ds, _, _, h, r => by
    cases h with
    | cons h1 h2 =>
      cases r with
      | cons r1 r2 =>
        obtain ⟨as, q1⟩ := Tq.reads I d _ _ h1 r1
        obtain ⟨bs, q2⟩ := Tq.readsAll I ds _ _ h2 r2
        exact ⟨_, ReadsAll.cons q1 q2⟩
end
end
section
variable {X : Cx}
/-- == and != of such values -/
def rEqTq (K : PySem.W.Frag) (neg : Bool) : R2 := fun x y H Q => ∃ d e, Tq K H x d ∧ Tq K H y e ∧ d.depth ≤ 16 ∧ Q (.bl (neg != PyData.eqv d e)) H
theorem op_eqTq (hu : X.A.units + 16 < cLine) : OpR X (compareOp .Eq) (rEqTq X.K false) := by
  intro pins s σ H x y v u Q I rx ry h
  obtain ⟨d, e, hd, he, hz, q⟩ := h
  obtain ⟨as, r1⟩ := Tq.reads I d _ _ hd rx
  obtain ⟨bs, r2⟩ := Tq.reads I e _ _ he ry
  refine SeqAt.eq_plain r1 r2 (tq_plain d _ hd) (tq_plain e _ he) (Nat.lt_of_le_of_lt (Nat.add_le_add_left (Nat.le_trans (Nat.min_le_left _ _) hz) _) hu) ⟨.bl _, H, I, rfl, ?_⟩
  rw [show PyData.eqv d e = (false != PyData.eqv d e) by cases PyData.eqv d e <;> rfl]
  exact q
theorem op_neTq (hu : X.A.units + 16 < cLine) : OpR X (compareOp .NotEq) (rEqTq X.K true) := by
  intro pins s σ H x y v u Q I rx ry h
  obtain ⟨d, e, hd, he, hz, q⟩ := h
  obtain ⟨as, r1⟩ := Tq.reads I d _ _ hd rx
  obtain ⟨bs, r2⟩ := Tq.reads I e _ _ he ry
  refine SeqAt.ne_plain r1 r2 (tq_plain d _ hd) (tq_plain e _ he) (Nat.lt_of_le_of_lt (Nat.add_le_add_left (Nat.le_trans (Nat.min_le_left _ _) hz) _) hu) ⟨.bl _, H, I, rfl, ?_⟩
  rw [show (!PyData.eqv d e) = (true != PyData.eqv d e) by cases PyData.eqv d e <;> rfl]
  exact q
/-- l.remove(t), t the j-th one -/
def rRemT (K : PySem.W.Frag) : V → List V → Hp → VK → Prop := fun x ys H Q => ∃ l xs ds y d j, x = .ref l ∧ ys = [y] ∧ H l = some (.lst xs) ∧ TqAll K H xs ds ∧ Tq K H y d ∧ d.depth ≤ 16 ∧ SeqAt.dataPlace ds d = some j ∧ Q .non (upd H l (.lst (xs.eraseIdx j)))
theorem mt_remT (hu : X.A.units + 17 < cLine) : MtR X "list.remove" (rRemT X.K) := by
  intro pins s σ H x ys v us Q I rx rys h
  obtain ⟨l, xs, ds, y, d, j, rfl, rfl, hH, hds, hd, hz, hp, q⟩ := h
  obtain ⟨u, rfl, ru⟩ := vals1 rys
  cases rx
  obtain ⟨z, its, n, r, e0⟩ := (show ObjOk X.prog X.w H s.heap l (.lst xs) from I.hok l _ hH)
  obtain ⟨as, r1⟩ := Tq.readsAll I ds _ its hds r
  obtain ⟨bs, r2⟩ := Tq.reads I d _ _ hd ru
  have hl : its.toArray.size ≤ sizeLine := by rw [List.size_toArray, ← r.length]; exact z
  refine SeqAt.remove_list_data (vs := its.toArray) ⟨_, e0, rfl, n, rfl⟩ (by simpa using r1) r2 (tq_plains ds _ hds) (tq_plain d _ hd) (by have := Nat.min_le_right (PyData.depthAll ds) d.depth; omega) hp hl ?_
  refine ⟨.non, _, I.lset (its' := its.eraseIdx j) hH e0 ?_ (r.eraseIdx j) ?_, rfl, q⟩
  · show its.toArray.eraseIdxIfInBounds j = (its.eraseIdx j).toArray
    rw [List.eraseIdxIfInBounds_toArray]
  · have := List.length_eraseIdx_le (l := xs) (i := j)
    omega
/-! ### d.update(e), d not empty, tuples as keys -/
def mergeT (kvs more : List (List L2.Key × V)) : List (List L2.Key × V) := more.foldl (fun acc kv => putK acc kv.1 kv.2) kvs
theorem mergeT_length : ∀ (more kvs : List (List L2.Key × V)), (mergeT kvs more).length ≤ kvs.length + more.length
  | [], kvs => by show kvs.length ≤ kvs.length + 0; omega
  | p :: r, kvs => by
    have h1 := mergeT_length r (putK kvs p.1 p.2)
    have h2 := length_putK kvs p.1 p.2
    show (mergeT (putK kvs p.1 p.2) r).length ≤ _
    rw [List.length_cons]; omega
theorem KT_merge {H : Hp} : ∀ {more : List (List L2.Key × V)} {ys : List (List L2.Key × Addr × Value)} {kvs : List (List L2.Key × V)} {xs : List (List L2.Key × Addr × Value)}, KT H more ys → KT H kvs xs → KT H (mergeT kvs more) (storedAllH xs ys) := by
  intro more ys kvs xs r
  induction r generalizing kvs xs with
  | nil => intro q; exact q
  | @cons p q ps qs h t ih =>
    intro r0
    have e : KT H (putK kvs p.1 p.2) (storedH xs q.1 q.2.1 q.2.2) := by
      have := r0.put p.1 h.2.1 h.2.2
      rw [← h.1]
      exact this
    exact ih e
def rUpdT : V → List V → Hp → VK → Prop := fun x ys H Q => ∃ a b kvs more, x = .ref a ∧ ys = [.ref b] ∧ a ≠ b ∧ H a = some (.dT kvs) ∧ H b = some (.dT more) ∧ kvs ≠ [] ∧ kvs.length + more.length ≤ sizeLine ∧ Q .non (upd H a (.dT (mergeT kvs more)))
theorem mt_updT (hu : X.A.units + 1 < cLine) : MtR X "dict.update" rUpdT := by
  intro pins s σ H x ys v us Q I rx rys h
  obtain ⟨a, b, kvs, more, rfl, rfl, hab, ha, hb, hne, hz, q⟩ := h
  obtain ⟨u, rfl, ru⟩ := vals1 rys
  cases rx
  cases ru
  obtain ⟨_, hda, xs, ra, da⟩ := dt_of I.hok ha
  obtain ⟨_, hdb, ys, rb, db⟩ := dt_of I.hok hb
  have l1 := Paired.length ra
  have l2 := Paired.length rb
  refine call_update_dictH (tupleKind_room_in1 hu) hab hdb da db (.inl fun e => hne (by rw [e] at l1; exact List.eq_nil_of_length_eq_zero l1)) (by omega) fun h' dd' _ hs => ?_
  obtain ⟨o, es, ep, hq, h2, h3, h4, _, h5⟩ := dd'
  refine ⟨.non, _, d_write (t' := s.toks) (ob := .dT (mergeT kvs more)) I (by rw [ha]; exact True.intro) hs ⟨o, hq⟩ ⟨Nat.le_trans (mergeT_length _ _) hz, hda, _, (KT_merge rb ra).keeps fun c ys ec => ?_, o, es, ep, hq, h2, h3, h4, h5⟩, rfl, q⟩
  rw [upd_ne (ne_of ec ha (fun z => nomatch z))]
  exact ec
/-! ### d.setdefault(t, v) -/
def rSetdT : V → List V → Hp → VK → Prop := fun x ys H Q => ∃ a b kvs k z, x = .ref a ∧ ys = [.ref b, z] ∧ H a = some (.dT kvs) ∧ H b = some (.tup (k.map kV)) ∧ kvs.length < sizeLine ∧ (∀ v, valV kvs k = some v → Q v H) ∧ (valV kvs k = none → Q z (upd H a (.dT (putK kvs k z))))
theorem mt_setdT (hu : X.A.units + 1 < cLine) : MtR X "dict.setdefault" rSetdT := by
  intro pins s σ H x ys v us Q I rx rys h
  obtain ⟨a, b, kvs, k, z, rfl, rfl, ha, hb, hz, q1, q2⟩ := h
  cases rx
  cases rys with
  | cons r1 rt =>
    cases rt with
    | cons r2 rt =>
      cases rt
      cases r1
      obtain ⟨_, hd, xs, rel, dd⟩ := dt_of I.hok ha
      have l1 := Paired.length rel
      have rv := rel.val k
      refine call_setdefault_heap (hsz := by omega) (tupleKind_room_in1 hu) (key_of I.hok hb) hd dd (fun p hp => ?_) fun hn h' dd' hs => ?_
      · rw [hp] at rv
        cases e : valV kvs k with
        | none => rw [e] at rv; exact rv.elim
        | some v =>
          rw [e] at rv
          exact ⟨v, H, I.tok _, rv, q1 v e⟩
      · rw [hn] at rv
        cases e : valV kvs k with
        | some v => rw [e] at rv; exact rv.elim
        | none =>
          obtain ⟨o, es, ep, hq, h2, h3, h4, _, h5⟩ := dd'
          refine ⟨z, _, d_write (t' := s.toks + (tupleKind (mixKind X.prog X.w)).draws k) (ob := .dT (putK kvs k z)) I (by rw [ha]; exact True.intro) hs ⟨o, hq⟩ ⟨by have := length_putK kvs k z; omega, hd, _, (rel.put k hb r2).keeps fun c ys ec => ?_, o, es, ep, hq, h2, h3, h4, h5⟩, r2, q2 e⟩
          rw [upd_ne (ne_of ec ha (fun z => nomatch z))]
          exact ec
/-! ### enumerate(t) -/
theorem meets_enumB {v : Value} {o : Obj} {G : Heap → Prop} (B : Begins v o G) :
    Meets (Builtin.«enumerate.__new__» ⟨[.type "enumerate", v], []⟩) (fun _ R s => G s.heap ∧
      R (.ok (.ret (.ref (s.heap.push o).objs.size))) { s with heap := (s.heap.push o).push { cls := .type "enumerate", data := .fields #[.none, .bool false, .ref s.heap.objs.size, rawInt 0, .none, .none] } }) :=
  .of_wp fun prog w A R s h => by
    obtain ⟨hp, g, d, tk, os⟩ := s; obtain ⟨h1, h⟩ := h
    have hsub := sub_enumerate
    have q1 : ∀ {A' : Around} {E : Value → Shared → Prop} {Q : Value → Shared → Prop}, Q (.ref hp.objs.size) ⟨hp.push o, g, d, tk, os⟩ → wpAny (model prog w) A' (pyIter v) Q E ⟨hp, g, d, tk, os⟩ :=
      fun q => B.iter prog w _ _ ⟨hp, g, d, tk, os⟩ _ h1 q
    wp_walk using q1
    refine wpAny_stack_any fun st => wpAny_pure ?_
    split
    · rename_i c _ _ _ _ _
      cases (c == Value.type "enumerate")
      · wp_walk using q1
        exact ⟨_, rfl, h⟩
      · wp_walk using q1
        exact ⟨_, rfl, h⟩
    · wp_walk using q1
      exact ⟨_, rfl, h⟩
theorem call_enumT {prog : Program} {w : World} {A : Around} {E : Value → Shared → Prop} {s : Shared} {t : Addr} {items : Array Value} {Q : Value → Shared → Prop} (ht : s.heap.IsTuple t items)
    (h : ∀ h', IsEnum h' (s.heap.objs.size + 1) s.heap.objs.size 0 .none → h'.IsTupleIter s.heap.objs.size t 0 → (∀ b o, s.heap.get? b = some o → h'.get? b = some o) → Q (.ref (s.heap.objs.size + 1)) { s with heap := h' }) :
    wpAny (model prog w) A (call (.type "enumerate") [.ref t]) Q E s := by
  refine callType_new F.called_enumerate (by decide) (F.typeCall_enumerate_1 _) (F.newCall_enumerate_1 _) (fun obj => F.args_object_init_2 obj _) F.entry_enumerate_new (meets_enumB (begins_tuple t items)) ⟨ht, ?_⟩
  have hz : (s.heap.push { cls := .type "tuple_iterator", data := .fields #[.ref t, .int 0 0] }).objs.size = s.heap.objs.size + 1 := Heap.size_push ..
  show _ ∧ _
  rw [hz]
  have he : IsEnum ((s.heap.push { cls := .type "tuple_iterator", data := .fields #[.ref t, .int 0 0] }).push { cls := .type "enumerate", data := .fields #[.none, .bool false, .ref s.heap.objs.size, rawInt 0, .none, .none] }) (s.heap.objs.size + 1) s.heap.objs.size 0 .none := by
    have := Heap.get?_push_size (s.heap.push { cls := .type "tuple_iterator", data := .fields #[.ref t, .int 0 0] }) (o := { cls := .type "enumerate", data := .fields #[.none, .bool false, .ref s.heap.objs.size, rawInt 0, .none, .none] }) rfl
    rw [hz] at this; exact this
  exact ⟨⟨_, he, rfl⟩, h _ he ⟨_, Heap.get?_push_of_some _ (Heap.get?_push_size _ rfl), rfl, rfl⟩ fun b o x => Heap.get?_push_of_some _ (Heap.get?_push_of_some _ x)⟩
/-- the tuple at a, each item in a new pair with its place -/
def IteT (K : PySem.W.Frag) (a : Addr) : It :=
  ⟨fun i H => ∃ (xs : List V) (x : V), SqT K H a xs ∧ xs[i]? = some x, fun i H v H' => ∃ T x, v = .ref T ∧ H T = none ∧ H' = upd H T (.tup [.int (i : Nat), x]) ∧ ∀ xs, SqT K H a xs → xs[i]? = some x, fun i H => ∃ xs : List V, SqT K H a xs ∧ xs.length ≤ i⟩
theorem turn_enumT {P : Program} {w : World} {K : PySem.W.Frag} {elts : List Expr} {kk : Nat} {tpos : Pos} (a e it : Addr) :
    Turn P w K (.Tuple elts kk tpos) (IteT K a) [e, it] e (fun i h => (∃ old, IsEnum h e it ((i : Nat) : Int) old) ∧ h.IsTupleIter it a i ∧ e ≠ it) where
  mem := by simp
  obj := fun i h st b hb => by
    obtain ⟨⟨old, he⟩, ⟨o, ho, hc, hd⟩, _⟩ := st
    have e' : b = e ∨ b = it := by simpa using hb
    rcases e' with z | z
    · rw [z]; exact ⟨_, he, fun v q => nomatch q⟩
    · rw [z]; exact ⟨o, ho, fun v q => by rw [hd] at q; cases q⟩
  keep := fun i h h' st k => let ⟨⟨old, he⟩, hi, hne⟩ := st; ⟨⟨old, k e (by simp) _ he⟩, hi.at fun o q => k it (by simp) o q, hne⟩
  item := by
    intro X hP hw hK hc i pins s σ H E I hf st hg
    subst hP hw hK
    obtain ⟨⟨old, he⟩, hit, hne⟩ := st
    obtain ⟨xs, x, hq, hx⟩ := hg
    obtain ⟨its, rv, p, hz⟩ := I.tuple hq
    obtain ⟨u, hu, ru⟩ := rv.get hx
    have hel : e < s.heap.objs.size := Heap.lt_size he
    have hil : it < s.heap.objs.size := by obtain ⟨_, q, _⟩ := hit; exact Heap.lt_size q
    have hta : a ≠ it := fun z => by
      obtain ⟨_, q, c, _⟩ := hit
      obtain ⟨_, q2, c2, _⟩ := p
      rw [z, q] at q2
      cases q2
      rw [c] at c2
      exact absurd (Value.type.inj c2) (by decide)
    have hea : e ≠ a := fun z => by
      obtain ⟨_, q2, c2, _⟩ := p
      rw [← z, he] at q2
      cases q2
      exact absurd (Value.type.inj c2) (by decide)
    have hi : i < its.toArray.size := by
      have := (List.getElem?_eq_some_iff.mp hu).1
      simpa using this
    have D := Draws.tuple (prog := X.prog) (w := X.w) (A := X.A.in1) (I.ok.hd hc) it a hta its.toArray
    refine wpAny_pyNext_enum_itemD D he ⟨hit, p⟩ hi hne (by simp [hne, hea]) fun x0 h' tk hP ho hit' hT hsz hk => ?_
    have hx0 : x0 = u := by
      have hP : its.toArray[i]? = some x0 := hP
      rw [show its.toArray[i]? = its[i]? by simp, hu] at hP
      exact (Option.some.inj hP).symm
    subst hx0
    refine ⟨_, rfl, wpAny_letOwnedTupleGo_enum (s := { s with heap := h', toks := tk + 1 }) ho fun h'' he' sb => ?_⟩
    have hT2 : h''.get? s.heap.objs.size = some { cls := .type "tuple", data := .seq #[.int i tk, x0] } := (sb.2 _ (Nat.ne_of_gt hel)).trans hT
    have new : ObjOk X.prog X.w (upd H s.heap.objs.size (.tup [.int (i : Nat), x])) h'' s.heap.objs.size (.tup [.int (i : Nat), x]) :=
      ⟨by show 2 ≤ sizeLine; decide, [.int i tk, x0], .cons ⟨_, rfl⟩ (.cons ru .nil), ⟨_, hT2, rfl, _, rfl⟩⟩
    have I1 : Inv X pins σ (upd H s.heap.objs.size (.tup [.int (i : Nat), x])) { s with heap := h'', toks := tk + 1 } :=
      I.turnedNew (ch := [e, it]) (fun b ob hb q => (sb.2 b (fun z => hb (by simp [z]))).trans (hk b ob (fun z => hb (by simp [z])) (fun z => hb (by simp [z])) q)) hf (Nat.le_refl _) new
    refine ⟨.ref s.heap.objs.size, _, I1, rfl, ⟨_, x, rfl, I.hok.fresh (Nat.le_refl _), rfl, fun ys hy => by rw [I.tuple_inj hy hq]; exact hx⟩, ⟨⟨x0, ?_⟩, hit'.1.at fun o q => (sb.2 it (Ne.symm hne)).trans q, hne⟩, fun b hb => ?_⟩
    · have e1 : ((i + 1 : Nat) : Int) = (i : Int) + 1 := by omega
      rw [e1]; exact he'
    · have hb' : b < s.heap.objs.size := by
        have e' : b = e ∨ b = it := by simpa using hb
        rcases e' with z | z
        · rw [z]; exact hel
        · rw [z]; exact hil
      rw [upd_ne (Nat.ne_of_lt hb')]
      exact (hf b hb).1
  done := by
    intro X hP hw hK hc i pins s σ H E I hf st hg
    subst hP hw hK
    obtain ⟨⟨old, he⟩, hit, hne⟩ := st
    obtain ⟨xs, hq, hx⟩ := hg
    obtain ⟨its, rv, p, hz⟩ := I.tuple hq
    obtain ⟨f0, f1, f2, f3, f4, f5⟩ := hf it (by simp)
    have hl := rv.length
    have D : Draws X.prog X.w X.A.in1 it [it, a] i (fun _ _ => True) (fun j h => j = i ∧ h.IsTupleIter it a i ∧ h.IsTuple a its.toArray) :=
      { live := fun j h q => let ⟨o, ho, _⟩ := q.2.1; ⟨o, ho⟩
        frame := fun j h h' q hk => ⟨q.1, q.2.1.at fun o e => hk it (by simp) o e, q.2.2.at fun o e => hk a (by simp) o e⟩
        item := fun j s Q E hj q _ => absurd q.1 (Nat.ne_of_lt hj)
        done := fun s Q E q hE => wpAny_nextOf_tuple_end (I.ok.hd hc) q.2.1 q.2.2 (by simp; omega) hE }
    exact wpAny_pyNext_enum_endD D he ⟨rfl, hit, p⟩ fun h' eb => ⟨rfl, I.turned (t' := s.toks) (fun b o hb q => eb b o hb q) f0 f1 f3 f4 f5⟩
  self := fun A i s Q E st h => let ⟨⟨_, he⟩, _⟩ := st; wpAny_pyIter_enum he h
def iEnumT (K : PySem.W.Frag) (ta : TA) : TI := fun σ H R => ta σ H fun vs H1 => ∃ a xs, vs = [.ref a] ∧ SqT K H1 a xs ∧ R (IteT K a) H1
theorem pi_enumT {e : Expr} {ta : TA} {p pos tpos : Pos} {elts : List Expr} {kk : Nat} (hg : Gl X "enumerate") (hm : X.mg "enumerate" = none) (ha : PA X [e] ta) (hs : starEach [e] X.env = [(false, eval e X.env)] := by rfl) :
    PI X (.Tuple elts kk tpos) (.Call (.Name "enumerate" p) [e] [] pos) (iEnumT X.K ta) := by
  refine ⟨fun pins s σ H R I h => ?_⟩
  refine Call_ (ld_blt I hg hm boot_enumerate (PyProof.Rows.callWith_type1 (thn (ha.run pos pins s σ H _ I h) fun us s1 ⟨vs, H1, I1, r1, q1⟩ => ?_) hs rfl))
  obtain ⟨a, xs, rfl, hq, q⟩ := q1
  obtain ⟨u, rfl, ru⟩ := vals1 r1
  cases ru
  obtain ⟨its, rv, p', hz⟩ := I1.tuple hq
  refine call_enumT p' fun h' he hit hk => wpAny_pyIter_enum he ?_
  have I2 : Inv X pins σ H1 { s1 with heap := h' } := I1.kept (t' := s1.toks) hk
  refine ⟨s1.heap.objs.size + 1, [s1.heap.objs.size + 1, s1.heap.objs.size], _, _, H1, rfl, I2, turn_enumT a (s1.heap.objs.size + 1) s1.heap.objs.size, ⟨⟨.none, he⟩, hit, Nat.succ_ne_self _⟩, fun b hb => ?_, q⟩
  have e' : b = s1.heap.objs.size + 1 ∨ b = s1.heap.objs.size := by simpa using hb
  have hle : s1.heap.objs.size ≤ b := by
    rcases e' with z | z
    · rw [z]; exact Nat.le_add_right _ _
    · rw [z]; exact Nat.le_refl _
  exact I1.fpOk hle (I1.hok.fresh hle)
theorem walk_enumT {K : PySem.W.Frag} {a : Addr} {xs : List V} : Walk (IteT K a) xs.length (fun H => SqT K H a xs) (YPair (fun i => some (.int (i : Nat))) (fun i => xs[i]?)) := by
  refine ⟨fun i _ hi q => ⟨xs, xs[i], q, by simp [hi]⟩, fun _ q => ⟨xs, q, Nat.le_refl _⟩, fun i H v H' _ q y => ?_⟩
  obtain ⟨T, x, h1, h2, h3, h4⟩ := y
  exact ⟨T, .int (i : Nat), x, h1, h2, h3, rfl, h4 xs q⟩
/-! ### a statement that is not reached -/
def sNever : TS := fun _ _ _ => False
theorem ps_never {st : Stmt} : PS X st sNever := ⟨fun _ _ _ _ _ _ h => h.elim⟩
end
end Own
namespace K28
open PySem L2 Own StX ClX NdefX
abbrev sPIp : Stmt := inClass (top 32) 0
abbrev sPPa : Stmt := inClass (top 32) 1
abbrev sPIf : Stmt := inClass (top 32) 2
/-! ### interfaces as tuples -/
abbrev Fnc : Type := List Str × List Str
structure Fc where
  ins : List Str
  outs : List Str
  prof : List Fnc
deriving DecidableEq
def FncAt (K : PySem.W.Frag) (H : Hp) (a : Addr) (s : Fnc) : Prop := ∃ x y, SqT K H a [.ref x, .ref y] ∧ SqT K H x (s.1.map V.str) ∧ SqT K H y (s.2.map V.str)
theorem FncAt.same {K : PySem.W.Frag} {H H' : Hp} {a : Addr} {s : Fnc} (e : Same H H') (h : FncAt K H a s) : FncAt K H' a s := by
  obtain ⟨x, y, h1, h2, h3⟩ := h
  exact ⟨x, y, sqT_same e h1, sqT_same e h2, sqT_same e h3⟩
def FncsAt (K : PySem.W.Frag) (H : Hp) (as : List Addr) (ps : List Fnc) : Prop := as.length = ps.length ∧ ∀ (i : Nat) (a : Addr) (s : Fnc), as[i]? = some a → ps[i]? = some s → FncAt K H a s
theorem FncsAt.same {K : PySem.W.Frag} {H H' : Hp} {as : List Addr} {ps : List Fnc} (e : Same H H') (h : FncsAt K H as ps) : FncsAt K H' as ps := ⟨h.1, fun i a s h1 h2 => (h.2 i a s h1 h2).same e⟩
theorem FncsAt.at {K : PySem.W.Frag} {H : Hp} {as : List Addr} {ps : List Fnc} (h : FncsAt K H as ps) {i : Nat} {a : Addr} (ha : as[i]? = some a) : ∃ s, ps[i]? = some s ∧ FncAt K H a s := by
  have hi : i < ps.length := by rw [← h.1]; exact (List.getElem?_eq_some_iff.mp ha).1
  exact ⟨ps[i], List.getElem?_eq_getElem hi, h.2 i a _ ha (List.getElem?_eq_getElem hi)⟩
/-- an interface at v -/
def FaceAt (K : PySem.W.Frag) (H : Hp) (v : Addr) (f : Fc) : Prop := ∃ (i o p : Addr) (as : List Addr), SqT K H v [.ref i, .ref o, .ref p] ∧ SqT K H i (f.ins.map V.str) ∧ SqT K H o (f.outs.map V.str) ∧ SqT K H p (as.map V.ref) ∧ FncsAt K H as f.prof
theorem FaceAt.same {K : PySem.W.Frag} {H H' : Hp} {v : Addr} {f : Fc} (e : Same H H') (h : FaceAt K H v f) : FaceAt K H' v f := by
  obtain ⟨i, o, p, as, h1, h2, h3, h4, h5⟩ := h
  exact ⟨i, o, p, as, sqT_same e h1, sqT_same e h2, sqT_same e h3, sqT_same e h4, h5.same e⟩
/-! ### primitives -/
def insOf (z : Str) : List Str := if z = "const" then [] else if z = "delay" then ["in"] else if z = "pick" then ["c", "a", "b"] else ["a", "b"]
def outsOf (z : Str) : List Str := if z = "divide" then ["quotient", "rest"] else ["out"]
def needsOf (z : Str) : List Str := if z = "delay" then [] else insOf z
def faceP (z : Str) : Fc := ⟨insOf z, outsOf z, [(outsOf z, needsOf z)]⟩
def PortsOk (K : PySem.W.Frag) (z : Str) (i o : V) : Prop := ∃ a b, i = .ref a ∧ o = .ref b ∧ (∀ H, SqT K H a ((insOf z).map V.str)) ∧ (∀ H, SqT K H b ((outsOf z).map V.str))
structure PrC (K : PySem.W.Frag) (w : World) (mg : Str → Option Value) (C : Addr) : Prop where
  cl : Cls K C
  nN : NoAttr K C "name"
  nI : NoAttr K C "inputs"
  nO : NoAttr K C "outputs"
  nC : NoAttr K C "constant"
  mC : mg "Primitive" = some (.ref C)
  sup : mg "super" = none
  pp : ∃ d es n, mg "PRIMITIVE_PORTS" = some (.ref d) ∧ KDict K w d es n ∧ ∀ z ∈ words9, ∃ u tp x y, PySem.W.nsIn K d z = some (some u) ∧ RelV (.ref tp) u ∧ (∀ H, SqT K H tp [x, y]) ∧ PortsOk K z x y
def fsP (n i o c : V) : List (Str × V) := [("name", n), ("inputs", i), ("outputs", o), ("constant", c)]
def spPIp (K : PySem.W.Frag) (C : Addr) : Sp := fun vs H Q _ => ∃ (p dx : Addr) (z : Str) (c : V), vs = [.ref p, .str z, c] ∧ z ∈ words9 ∧ H p = some (.ins C dx []) ∧ ∀ i o, PortsOk K z i o → Q .non (upd H p (.ins C dx (fsP (.str z) i o c)))
def spPPa (K : PySem.W.Frag) (C : Addr) : Sp := fun vs H Q _ => ∃ (x z : Str) (c : Option Int), vs = [.ref C, .str x] ∧ x.length ≤ sizeLine ∧ readP x = some (z, c) ∧ ∀ y dx i o H', Same H H' → H y = none → H' y = some (.ins C dx (fsP (.str z) i o (optV c))) → PortsOk K z i o → Q (.ref y) H'
def spPIf (K : PySem.W.Frag) (C : Addr) : Sp := fun vs H Q _ => ∃ (p dx : Addr) (z : Str) (i o c : V), vs = [.ref p] ∧ H p = some (.ins C dx (fsP (.str z) i o c)) ∧ PortsOk K z i o ∧ ∀ r H', Same H H' → FaceAt K H' r (faceP z) → Q (.ref r) H'
section
variable {P : Program} {w : World} {K : PySem.W.Frag} {mg : Str → Option Value} {base : Heap} {C : Addr}
def nfPIp (cc cda : Addr) : NF := ⟨"__init__", "Primitive.__init__", defArgs sPIp, defBody sPIp, defScope sPIp, [("__class__", cc)], cda⟩
theorem nsPIp : NScope ["self", "name", "constant", "__class__", "inputs", "outputs"] ["self", "name", "constant"] ["__class__"] (defScope sPIp) := nscope_by (by decide +kernel)
theorem ndPIp : (["self", "name", "constant", "__class__", "inputs", "outputs"] : List Str).Nodup := by decide +kernel
structure PInP (K : PySem.W.Frag) (P : Program) (C f cc cda fB : Addr) : Prop where
  ex : ∃ oc od osl doc pm an ct, K.lookup f = some ⟨oc, od, .func (PySem.W.fnX "__init__" "Primitive.__init__" (defArgs sPIp) (defBody sPIp) (defScope sPIp) [(("__class__" : Str), cc)] .none .none doc pm an (.ref cda) ct), osl⟩ ∧
    SupK K P f cda cc C (PySem.W.fnX "__init__" "Primitive.__init__" (defArgs sPIp) (defBody sPIp) (defScope sPIp) [(("__class__" : Str), cc)] .none .none doc pm an (.ref cda) ct) "self"
  code : PySem.W.codeIn K (.ref cda) "Primitive.__init__" = true
  sc : SupC K C C "__init__" fB
theorem ok_pip {f cc cda fB : Addr} {fdB : FuncData} (Z : PInP K P C f cc cda fB) (T : PrC K w mg C) (GB : FnOk P w K mg base CX0 1 fB fdB ["self", "name", "inputs", "outputs"] (spBI K)) (bB : Binds K fdB ["self", "name", "inputs", "outputs"] []) :
    FnR P w K mg base CX0 2 f (spPIp K C) := by
  obtain ⟨oc, od, osl, doc, pm, an, ct, lk, SK⟩ := Z.ex
  have GR : FnR P w K mg base CX0 1 fB (spBI K) := by
    have z := GB.raw bB .nil
    simpa only [List.append_nil] using z
  refine fnr_super (F := nfPIp cc cda) (cc := cc) (D := C) lk Z.code rfl SK.cell nsPIp (fun us hl => match us, hl with | [_, _, _], _ => rfl) (fun vs H Q E h => ?_) (fun A outer s H vs Q E hr h => ?_)
  · obtain ⟨p, dx, z, c, rfl, _⟩ := h
    rfl
  obtain ⟨p, dx, z, c, rfl, hz, hp, k⟩ := h
  obtain ⟨d, es, n, hd, D, hP⟩ := T.pp
  refine ⟨_, psa_cons (ps_asg (pe_ix ix_kdict (pe_glob (v := .ref d) rfl hd rfl) (pv 1) (fun _ _ => rfl)) (pg_tup (by rfl) (pgs_cons (pg_name (i := 4) ndPIp rfl (.inl rfl)) (pgs_cons (pg_name (i := 5) ndPIp rfl (.inl rfl)) pgs_nil))))
    (psa_super (self := "self") SK rfl rfl rfl rfl rfl rfl rfl T.sup GR hr pass0 (pa_cons (pv 1) (pa_cons (pv 4) (pa_cons (pv 5) pa_nil))) (psa_of (pss_one (ps_fld (pv 0) (pv 2) rfl)))), ?_⟩
  obtain ⟨u, tp, x, y, h1, h2, h3, h4⟩ := hP z hz
  refine ⟨_, rfl, d, z, .ref tp, rfl, rfl, ⟨es, n, u, D.at_, D.lit, h1, h2⟩, tp, _, rfl, h3 _, rfl, _, _, rfl, _, _, rfl, rfl, ?_⟩
  refine ⟨p, C, dx, [], rfl, hp, Z.sc, _, rfl, _, rfl, _, rfl, p, C, dx, _, _, _, rfl, hp, T.cl, T.nN, T.nI, T.nO, ?_⟩
  refine ⟨_, rfl, _, rfl, p, C, dx, _, rfl, upd_same, T.cl, T.nC, by show 3 < 1000; decide, ?_⟩
  rw [upd_upd]
  exact k x y h4
theorem scPp : FnScope ["cls", "text", "found", "name", "constant"] ["cls", "text"] (defScope sPPa) := ⟨rfl, rfl, rfl, by decide +kernel, rfl, by decide +kernel, by decide +kernel⟩
theorem ok_ppa {f fR fI : Addr} {fd fdR : FuncData} (F : Fun K "parse" "Primitive.parse" sPPa f fd) (GR : FnOk P w K mg base CX0 2 fR fdR ["text"] spRP) (mR : mg "read_primitive" = some (.ref fR)) (kR : PySem.W.keepIn K (.ref fR) = true) (bR : Binds K fdR ["text"] [])
    (M : Mk K C fI) (GI : FnR P w K mg base CX0 2 fI (spPIp K C)) : FnOk P w K mg base CX0 4 f fd ["cls", "text"] (spPPa K C) := by
  refine F.ok scPp (fun vs H Q E h => ?_) (fun cdv A outer s H vs Q E hr h => ?_)
  · obtain ⟨x, z, c, rfl, _⟩ := h
    rfl
  obtain ⟨x, z, c, rfl, hx, hR, k⟩ := h
  refine ⟨_, pss_cons (ps_set (i := 2) scPp.nd rfl (.inl rfl) (pe_call GR (hr.mono (by decide)) rfl mR kR bR .nil pass0 (pa_cons (pv 1) pa_nil)))
    (pss_cons (ps_if (pt_cmpR op_isN (pv 2) pe_non (nomark _)) pss_never pss_nil)
    (pss_cons (ps_asg (pv 2) (pg_tup (by rfl) (pgs_cons (pg_name (i := 3) scPp.nd rfl (.inl rfl)) (pgs_cons (pg_name (i := 4) scPp.nd rfl (.inl rfl)) pgs_nil))))
    (pss_one (ps_ret (pe_makeL (i := 0) M GI hr rfl (.inl rfl) pass0 (pa_cons (pv 3) (pa_cons (pv 4) pa_nil))))))), ?_⟩
  refine ⟨_, rfl, x, rfl, hx, fun e => (by rw [hR] at e; cases e), fun z' c' e t H' s1 ht ht' => ?_⟩
  rw [hR] at e
  cases e
  refine ⟨_, rfl, rfl, _, rfl, iteF ?_⟩
  refine ⟨_, rfl, t, _, rfl, .of ht', rfl, _, _, rfl, _, _, rfl, rfl, ?_⟩
  refine ⟨rfl, _, rfl, _, rfl, fun y dx hy hdx hne => ⟨y, dx, z, optV c, rfl, readP_word hR, upd_same, fun i o hio => ⟨rfl, ?_⟩⟩⟩
  refine k y dx i o _ (fun b u e => ?_) (s1.free hy) upd_same hio
  have e1 := s1 b u e
  rw [upd_ne (ne_of_none e1 hy), upd_ne (ne_of_none e1 hy), upd_ne (ne_of_none e1 hdx)]
  exact e1
theorem scPi : FnScope ["self", "needs"] ["self"] (defScope sPIf) := ⟨rfl, rfl, rfl, by decide +kernel, rfl, by decide +kernel, by decide +kernel⟩
theorem ok_pif {f : Addr} {fd : FuncData} (F : Fun K "interface" "Primitive.interface" sPIf f fd) (T : PrC K w mg C) : FnOk P w K mg base CX0 1 f fd ["self"] (spPIf K C) := by
  refine F.ok scPi (fun vs H Q E h => ?_) (fun cdv A outer s H vs Q E hr h => ?_)
  · obtain ⟨p, dx, z, i, o, c, rfl, _⟩ := h
    rfl
  obtain ⟨p, dx, z, i, o, c, rfl, hp, hio, k⟩ := h
  obtain ⟨a, b, rfl, rfl, ha, hb⟩ := hio
  refine ⟨_, pss_join (ps_set (i := 1) scPi.nd rfl (.inl rfl) (pe_ifExp (pt_cmpR op_eq (pe_fld (pv 0) rfl) pe_str (nomark _)) (pe_tup pa_nil) (pe_fld (pv 0) rfl)))
    (pss_one (ps_ret (pe_tup (pa_cons (pe_fld (pv 0) rfl) (pa_cons (pe_fld (pv 0) rfl) (pa_cons (pe_tup (pa_cons (pe_tup (pa_cons (pe_fld (pv 0) rfl) (pa_cons (pv 1) pa_nil))) pa_nil)) pa_nil)))))), ?_⟩
  refine ⟨fun σ H1 => ∃ v, σ = [some (.ref p), some (.ref v)] ∧ Same H H1 ∧ SqT K H1 v ((needsOf z).map V.str), ?_, ?_⟩
  · refine ⟨_, rfl, p, C, dx, _, _, rfl, hp, T.cl, T.nN, rfl, rfl, _, rfl, ?_⟩
    by_cases hd : z = "delay"
    · rw [decide_eq_true (congrArg V.str hd)]
      refine iteT ⟨small1 (by show 0 ≤ 8; decide), fun t ht => ⟨_, rfl, upd_new ht, ?_⟩⟩
      rw [show needsOf z = [] from if_pos hd]
      exact .of upd_same
    · rw [decide_eq_false (fun e => hd (V.str.inj e))]
      refine iteF ⟨_, rfl, p, C, dx, _, _, rfl, hp, T.cl, T.nI, rfl, _, rfl, Same.refl _, ?_⟩
      rw [show needsOf z = insOf z from if_neg hd]
      exact ha _
  rintro σ H1 ⟨v, rfl, s1, hv⟩
  have hp1 := s1 _ _ hp
  refine ⟨_, rfl, p, C, dx, _, _, rfl, hp1, T.cl, T.nI, rfl, _, rfl, p, C, dx, _, _, rfl, hp1, T.cl, T.nO, rfl, _, rfl, p, C, dx, _, _, rfl, hp1, T.cl, T.nO, rfl, _, rfl, small1 (by show 2 ≤ 8; decide), fun t1 ht1 => ⟨small1 (by show 1 ≤ 8; decide), fun t2 ht2 => ⟨small1 (by show 3 ≤ 8; decide), fun t3 ht3 => ?_⟩⟩⟩
  have sA := upd_new (o := HO.tup [V.ref b, V.ref v]) ht1
  have sB := upd_new (o := HO.tup [V.ref t1]) ht2
  have sC := upd_new (o := HO.tup [V.ref a, V.ref b, V.ref t2]) ht3
  refine k t3 _ (s1.trans (sA.trans (sB.trans sC))) ⟨a, b, t2, [t1], .of upd_same, ha _, hb _, .of (sC _ _ upd_same), rfl, fun j q s e1 e2 => ?_⟩
  cases j with
  | succ j => cases e1
  | zero =>
    cases e1
    cases e2
    exact ⟨b, v, .of (sC _ _ (sB _ _ upd_same)), hb _, sqT_same (sA.trans (sB.trans sC)) hv⟩
end
end K28
namespace K28
open PySem L2 Own StX ClX NdefX
abbrev sPorts : Stmt := top 18
abbrev sIface : Stmt := top 37
abbrev sStep : Stmt := top 38
abbrev sSel : Stmt := top 39
theorem eqv_strs : ∀ l m : List Str, PyData.eqvAll (l.map PyData.str) (m.map PyData.str) = decide (l = m)
  | [], [] => rfl
  | [], _ :: _ => rfl
  | _ :: _, [] => rfl
  | x :: l, y :: m => by
    simp only [List.map_cons, PyData.eqvAll, PyData.eqv, eqv_strs l m]
    by_cases h : x = y
    · subst h
      simp
    · rw [show (x == y) = false from beq_eq_false_iff_ne.mpr h, decide_eq_false (fun e => h (List.cons.inj e).1)]
      rfl
theorem nm_ok {x : Str} (h : isNm x = true) : PyData.canLay0 (.str x) = true := by
  unfold isNm at h
  rw [Bool.and_eq_true] at h
  show (x.cps.all (· < 0x110000)) = true
  rw [← Array.all_toList]
  refine List.all_eq_true.mpr fun c hc => ?_
  have z := List.all_eq_true.mp h.2 c hc
  unfold isL at z
  simp only [Bool.and_eq_true, decide_eq_true_eq] at z
  exact decide_eq_true (by omega)
theorem strs_shaped (l : List Str) (h : ∀ x ∈ l, isNm x = true) : SeqAt.shaped (.list (l.map PyData.str)) = true := by
  have h1 : ∀ l : List Str, (∀ c ∈ l, isNm c = true) → PyData.canLayAll0 (l.map PyData.str) = true ∧ PyData.depthAll (l.map PyData.str) ≤ 1 := by
    intro l
    induction l with
    | nil => exact fun _ => ⟨rfl, Nat.zero_le _⟩
    | cons c r ih =>
      intro h
      obtain ⟨a, b⟩ := ih fun d hd => h d (List.mem_cons_of_mem _ hd)
      refine ⟨?_, ?_⟩
      · simp only [List.map_cons, PyData.canLayAll0, a, nm_ok (h c List.mem_cons_self), Bool.and_self]
      · simp only [List.map_cons, PyData.depthAll, PyData.depth]
        omega
  obtain ⟨a, b⟩ := h1 l h
  unfold SeqAt.shaped
  rw [Bool.and_eq_true]
  refine ⟨by simpa only [PyData.canLay0] using a, decide_eq_true ?_⟩
  simp only [PyData.depth]
  omega
theorem dp_strs {K : PySem.W.Frag} {H : Hp} : ∀ l : List Str, DpAll K H (l.map V.str) (l.map PyData.str)
  | [] => .nil
  | x :: r => .cons (.str x) (dp_strs r)
theorem strs_flat (l : List Str) : (l.map V.str).all flatV = true := List.all_eq_true.mpr fun y hy => by
  obtain ⟨z, _, rfl⟩ := List.mem_map.mp hy
  rfl
theorem ty_sq {K : PySem.W.Frag} {H : Hp} {a : Addr} {xs : List V} (h : SqT K H a xs) : TyX K H (.ref a) (.type "tuple") := by
  rcases h with (h | ⟨o, h⟩) | ⟨o, _, _, h1, h2, _⟩
  · exact .base (.tup h)
  · exact .fTuple h
  · exact .kTuple h1 h2
/-! ### interfaces -/
structure OkI (f : Fc) : Prop where
  ni : ∀ x ∈ f.ins, isNm x = true
  no : ∀ x ∈ f.outs, isNm x = true
  nd : (f.ins ++ f.outs).Nodup
  il : f.ins.length ≤ 8
  ol : f.outs.length ≤ 8
  pl : f.prof.length ≤ 8
  ne : ∀ s ∈ f.prof, s.1 ≠ []
  so : ∀ s ∈ f.prof, s.1 = f.outs.filter fun x => decide (x ∈ s.1)
  sn : ∀ s ∈ f.prof, s.2 = f.ins.filter fun x => decide (x ∈ s.2)
  fi : (f.prof.map fun s => f.outs.idxOf (s.1.headD Str.empty)).Pairwise (· ≤ ·)
  pm : (f.prof.flatMap (·.1)).Perm f.outs
/-- it stands at v; its profile at p -/
def IfAt (K : PySem.W.Frag) (H : Hp) (v : Addr) (f : Fc) : Prop := ∃ (i o p : Addr) (as : List Addr), SqT K H v [.ref i, .ref o, .ref p] ∧ SqT K H i (f.ins.map V.str) ∧ IxT H o (f.outs.map V.str) ∧ SqT K H p (as.map V.ref) ∧ FncsAt K H as f.prof
theorem IfAt.same {K : PySem.W.Frag} {H H' : Hp} {v : Addr} {f : Fc} (e : Same H H') (h : IfAt K H v f) : IfAt K H' v f := by
  obtain ⟨i, o, p, as, h1, h2, h3, h4, h5⟩ := h
  exact ⟨i, o, p, as, sqT_same e h1, sqT_same e h2, ixT_same e h3, sqT_same e h4, h5.same e⟩
/-! ### _is_selection, _is_step_function -/
def spSel (K : PySem.W.Frag) : Sp := fun vs H Q _ => ∃ (a b : Addr) (xs ns : List Str), vs = [.ref a, .ref b] ∧ SqT K H a (xs.map V.str) ∧ SqT K H b (ns.map V.str) ∧ ns.length ≤ 1000 ∧ (∀ x ∈ ns, isNm x = true) ∧ (xs = ns.filter fun x => decide (x ∈ xs)) ∧ ∀ H', Same H H' → Q (.bl true) H'
def spStep (K : PySem.W.Frag) : Sp := fun vs H Q _ => ∃ (a i o : Addr) (s : Fnc) (ins outs : List Str), vs = [.ref a, .ref i, .ref o] ∧ FncAt K H a s ∧ SqT K H i (ins.map V.str) ∧ SqT K H o (outs.map V.str) ∧ ins.length ≤ 1000 ∧ outs.length ≤ 1000 ∧ (∀ x ∈ ins, isNm x = true) ∧ (∀ x ∈ outs, isNm x = true) ∧
  s.1 ≠ [] ∧ (s.1 = outs.filter fun x => decide (x ∈ s.1)) ∧ (s.2 = ins.filter fun x => decide (x ∈ s.2)) ∧ ∀ H', Same H H' → Q (.bl true) H'
section
variable {P : Program} {w : World} {K : PySem.W.Frag} {mg : Str → Option Value} {base : Heap}
theorem scSel : FnScope ["value", "names", "name"] ["value", "names"] (defScope sSel) := ⟨rfl, rfl, rfl, by decide +kernel, rfl, by decide +kernel, by decide +kernel⟩
theorem ok_sel {f : Addr} {fd : FuncData} (F : Fun K "_is_selection" "_is_selection" sSel f fd) (T : Txt K w mg) (ml : mg "list" = none) : FnOk P w K mg base CX0 1 f fd ["value", "names"] (spSel K) := by
  refine F.ok scSel (fun vs H Q E h => ?_) (fun cdv A outer s H vs Q E hr h => ?_)
  · obtain ⟨a, b, xs, ns, rfl, _⟩ := h
    rfl
  obtain ⟨a, b, xs, ns, rfl, ha, hb, hbl, hnm, hsel, k⟩ := h
  have hu := hr.units
  refine ⟨_, pss_one (ps_ret (pe_and (pe_callB (id := "isinstance") call_isi (by rfl) T.is_ (by decide +kernel) (pa_cons (pv 0) (pa_cons (pe_bltn (v := .ty "tuple") rfl T.zt PyProof.Rows.Boot.«tuple» rfl) pa_nil))) (pe_one (pe_cmpR (op_eqD hu) (pe_callTy call_list_of (by rfl) ml (by decide +kernel) (pa_cons (pv 0) pa_nil))
      (pe_lc (own := [("name", 2)]) (g := gName 2) rfl scSel.nd (pi_tup (pv 1)) (blkOk_by (own := [("name", 2)]) (N := ["value", "names", "name"]) (sc := defScope sSel) (by decide +kernel)) (fun _ _ _ _ _ => pg_name (i := 2) scSel.nd rfl (Or.inl rfl)) (fun _ _ _ _ _ => pts_one (pt_cmpR (show OpR _ (compareOp .In) (rIn K false) from op_in_seq) (pv 2) (pv 0) (by rfl)))
        (fun _ _ _ _ _ => pv 2)) (nomark _))))), ?_⟩
  have hxn : ∀ x ∈ xs, isNm x = true := fun x hx => by
    rw [hsel] at hx
    exact hnm x (List.mem_filter.mp hx).1
  refine ⟨_, rfl, .ref a, _, _, _, true, rfl, .ty "tuple", ty_sq ha, rfl, _, rfl, ?_⟩
  refine iteT ⟨_, rfl, a, _, rfl, .inr ha, fun l hl => ?_⟩
  have s2 := upd_new (o := HO.lst (xs.map V.str)) hl
  have gl : (upd H l (.lst (xs.map V.str))) l = some (.lst (xs.map V.str)) := upd_same
  show tLc _ _ _ _ _ _ (upd H l (.lst (xs.map V.str))) _
  generalize upd H l (.lst (xs.map V.str)) = H2 at s2 gl ⊢
  refine ⟨_, rfl, b, rfl, ⟨_, sqT_same s2 hb⟩, fun D hD => ?_⟩
  refine lc_tup (K := K) (a := b) (xs := ns.map V.str) (fun i H' => Same H2 H' ∧ H' D = some (.lst (((ns.take i).filter fun n => decide (n ∈ xs)).map V.str))) ⟨upd_new hD, upd_same⟩ (fun i H' _ p => sqT_same p.1 (sqT_same s2 hb)) ?_ ?_
  · rintro i v H3 hi ⟨s3, a3⟩
    rw [List.getElem?_map] at hi
    obtain ⟨x, hx, rfl⟩ := Option.map_eq_some_iff.mp hi
    have tk : ns.take (i + 1) = ns.take i ++ [x] := by rw [List.take_add_one, hx]; rfl
    refine ⟨rfl, _, rfl, _, rfl, a, xs.map V.str, rfl, .inr (sqT_same s3 (sqT_same s2 ha)), rfl, strs_flat xs, _, rfl, ?_⟩
    show if inV (.str x) (xs.map V.str) = true then _ else _
    rw [inV_strs]
    by_cases hm : x ∈ xs
    · rw [decide_eq_true hm]
      refine iteT ⟨_, rfl, _, a3, ?_, same_put s3 hD, ?_⟩
      · rw [List.length_map]
        refine Nat.lt_of_le_of_lt (Nat.le_trans (List.length_filter_le _ _) (by rw [List.length_take]; exact Nat.le_trans (Nat.min_le_right _ _) hbl)) (by rw [sizeLine_eq]; omega)
      · rw [upd_same, tk, List.filter_append]
        simp [hm]
    · rw [decide_eq_false hm]
      refine iteF ⟨s3, ?_⟩
      rw [a3, tk, List.filter_append]
      simp [hm]
  rintro H3 ⟨s3, a3⟩
  rw [List.take_of_length_le (by rw [List.length_map]; exact Nat.le_refl _), ← hsel] at a3
  refine ⟨.list (xs.map PyData.str), .list (xs.map PyData.str), .lst (.of (s3 _ _ gl)) (dp_strs _), .lst (.of a3) (dp_strs _), strs_shaped _ hxn, strs_shaped _ hxn, ?_⟩
  have z := k H3 (s2.trans s3)
  show Q (.bl (PyData.eqvAll _ _)) H3
  rw [eqv_strs, decide_eq_true rfl]
  exact z
abbrev nS : List Str := ["value", "inputs", "outputs", "names", "needs"]
theorem scStf : FnScope nS ["value", "inputs", "outputs"] (defScope sStep) := ⟨rfl, rfl, rfl, by decide +kernel, rfl, by decide +kernel, by decide +kernel⟩
theorem ok_step {f fS : Addr} {fd fdS : FuncData} (F : Fun K "_is_step_function" "_is_step_function" sStep f fd) (T : Txt K w mg) (GS : FnOk P w K mg base CX0 1 fS fdS ["value", "names"] (spSel K)) (mS : mg "_is_selection" = some (.ref fS)) (kS : PySem.W.keepIn K (.ref fS) = true) (bS : Binds K fdS ["value", "names"] []) :
    FnOk P w K mg base CX0 2 f fd ["value", "inputs", "outputs"] (spStep K) := by
  refine F.ok scStf (fun vs H Q E h => ?_) (fun cdv A outer s H vs Q E hr h => ?_)
  · obtain ⟨a, i, o, s, ins, outs, rfl, _⟩ := h
    rfl
  obtain ⟨a, i, o, st, ins, outs, rfl, ⟨x, y, h1, h2, h3⟩, hi, ho, hil, hol, hin, hon, hne, hso, hsn, k⟩ := h
  refine ⟨_, pss_cons (ps_if (PW.pt (pw_or (pt_not (pt_val (pe_callB (id := "isinstance") call_isi (by rfl) T.is_ (by decide +kernel) (pa_cons (pv 0) (pa_cons (pe_bltn (v := .ty "tuple") rfl T.zt PyProof.Rows.Boot.«tuple» rfl) pa_nil)))))
        (pw_or1 (pt_cmpR op_ne (pe_callB call_len_seq (by rfl) T.zl PySem.boot_len (pa_cons (pv 0) pa_nil)) pe_int (nomark _))))) (pss_one (ps_ret pe_bl)) pss_nil)
    (pss_cons (ps_asg (pv 0) (pg_tup (by rfl) (pgs_cons (pg_name (i := 3) scStf.nd rfl (.inl rfl)) (pgs_cons (pg_name (i := 4) scStf.nd rfl (.inl rfl)) pgs_nil))))
    (pss_one (ps_ret (pe_and (pe_call GS hr rfl mS kS bS .nil pass0 (pa_cons (pv 3) (pa_cons (pv 2) pa_nil))) (pe_and (pe_cmpR op_gt (pe_callB call_len_seq (by rfl) T.zl PySem.boot_len (pa_cons (pv 3) pa_nil)) pe_int (nomark _)) (pe_one (pe_call GS hr rfl mS kS bS .nil pass0 (pa_cons (pv 4) (pa_cons (pv 1) pa_nil))))))))), ?_⟩
  refine ⟨_, rfl, .ref a, _, _, _, true, rfl, .ty "tuple", ty_sq h1, rfl, _, rfl, iteF ?_⟩
  refine ⟨_, rfl, a, _, rfl, .inr h1, rfl, _, rfl, iteF ?_⟩
  refine ⟨_, rfl, a, _, rfl, h1, rfl, _, _, rfl, _, _, rfl, rfl, ?_⟩
  refine ⟨_, rfl, _, rfl, x, o, _, _, rfl, h2, ho, hol, hon, hso, fun H1 s1 => ⟨_, rfl, iteT ?_⟩⟩
  refine ⟨_, rfl, x, _, rfl, .inr (sqT_same s1 h2), _, _, rfl, rfl, _, rfl, ?_⟩
  have e : decide ((((st.1.map V.str).length : Nat) : Int) > 0) = true := decide_eq_true (by
    rw [List.length_map]
    have : 0 < st.1.length := List.length_pos_iff.mpr hne
    omega)
  rw [e]
  refine iteT ⟨_, rfl, _, rfl, y, i, _, _, rfl, sqT_same s1 h3, sqT_same s1 hi, hil, hin, hsn, fun H2 s2 => ?_⟩
  exact k H2 (s1.trans s2)
end

def spPorts (K : PySem.W.Frag) : Sp := fun vs H Q _ => ∃ (i o : Addr) (ins outs : List Str), vs = [.ref i, .ref o, .int 8] ∧ SqT K H i (ins.map V.str) ∧ SqT K H o (outs.map V.str) ∧ ins.length ≤ 8 ∧ outs.length ≤ 8 ∧ (∀ x ∈ ins, isNm x = true) ∧ (∀ x ∈ outs, isNm x = true) ∧ (ins ++ outs).Nodup ∧ ∀ H', Same H H' → Q (.bl true) H'
section
variable {P : Program} {w : World} {K : PySem.W.Frag} {mg : Str → Option Value} {base : Heap}
abbrev nPo : List Str := ["inputs", "outputs", "most", "value", "name"]
theorem scPo : FnScope nPo ["inputs", "outputs", "most"] (defScope sPorts) := ⟨rfl, rfl, rfl, by decide +kernel, rfl, by decide +kernel, by decide +kernel⟩
theorem ok_ports {f fN : Addr} {fd fdN : FuncData} (F : Fun K "are_port_names" "are_port_names" sPorts f fd) (T : Txt K w mg) (zse : mg "set" = none) (GN : FnOk P w K mg base CX0 1 fN fdN ["value"] spName) (mN : mg "is_name" = some (.ref fN)) (kN : PySem.W.keepIn K (.ref fN) = true) (bN : Binds K fdN ["value"] []) :
    FnOk P w K mg base CX0 2 f fd ["inputs", "outputs", "most"] (spPorts K) := by
  refine F.ok scPo (fun vs H Q E h => ?_) (fun cdv A outer s H vs Q E hr h => ?_)
  · obtain ⟨i, o, ins, outs, rfl, _⟩ := h
    rfl
  obtain ⟨i, o, ins, outs, rfl, hi, ho, hil, hol, hni, hno, hnd, k⟩ := h
  refine ⟨_, pss_cons (ps_for PassesOwn.never rfl (pi_tup (pe_tup (pa_cons (pv 0) (pa_cons (pv 1) pa_nil)))) (pg_name (i := 3) scPo.nd rfl (.inl rfl))
      (pss_one (ps_if (PW.pt (pw_or (pt_not (pt_val (pe_callB (id := "isinstance") call_isi (by rfl) T.is_ (by decide +kernel) (pa_cons (pv 3) (pa_cons (pe_bltn (v := .ty "tuple") rfl T.zt PyProof.Rows.Boot.«tuple» rfl) pa_nil)))))
        (pw_or (pt_cmpR op_gt (pe_callB call_len_seq (by rfl) T.zl PySem.boot_len (pa_cons (pv 3) pa_nil)) (pv 2) (nomark _))
        (pw_or1 (pt_not (pt_val (pe_callB (cr_all rfl) (by rfl) T.za (by decide +kernel) (pa_cons (pe_lc (own := [("name", 4)]) (g := gName 4) rfl scPo.nd (pi_tup (pv 3)) (blkOk_by (own := [("name", 4)]) (N := nPo) (sc := defScope sPorts) (by decide +kernel)) (fun _ _ _ _ _ => pg_name (i := 4) scPo.nd rfl (Or.inl rfl)) (fun _ _ _ _ _ => pts_nil)
          (fun _ _ _ _ _ => pe_call GN hr rfl mN kN bN .nil pass0 (pa_cons (pv 4) pa_nil))) pa_nil)))))))) (pss_one (ps_ret pe_bl)) pss_nil)))
    (pss_one (ps_ret (pe_cmpR op_eq (pe_lenSetT rfl rfl T.zl rfl zse (pe_op op_catA (pv 0) (pv 1))) (pe_op op_add (pe_callB call_len_seq (by rfl) T.zl PySem.boot_len (pa_cons (pv 0) pa_nil)) (pe_callB call_len_seq (by rfl) T.zl PySem.boot_len (pa_cons (pv 1) pa_nil))) (nomark _)))), ?_⟩
  have big : ∀ {n : Nat}, n ≤ 100000 → n ≤ sizeLine := fun h => by rw [sizeLine_eq]; omega
  have lt : ∀ {n : Nat}, n ≤ 100000 → n < sizeLine := fun h => by rw [sizeLine_eq]; omega
  refine ⟨_, rfl, _, rfl, small1 (by show 2 ≤ 8; decide), fun t ht => ?_⟩
  have s1 := upd_new (o := HO.tup [V.ref i, V.ref o]) ht
  have g1 := upd_same (H := H) (a := t) (o := HO.tup [V.ref i, V.ref o])
  generalize upd H t (HO.tup [V.ref i, V.ref o]) = H1 at s1 g1 ⊢
  refine ⟨t, rfl, ⟨_, .of g1⟩, for_tup (K := K) (a := t) (xs := [V.ref i, V.ref o]) (fun j σ H2 => ∃ u3, σ = [some (.ref i), some (.ref o), some (.int 8), u3, none] ∧ Same H1 H2) ⟨_, rfl, Same.refl _⟩ (fun j σ H2 _ q => by
      obtain ⟨_, _, s⟩ := q
      exact .of (s _ _ g1)) ?turn ?done⟩
  case turn =>
    rintro j x σ H2 hx ⟨u3, rfl, s2⟩
    obtain ⟨b, xs, rfl, hb, hxl, hxn⟩ : ∃ (b : Addr) (xs : List Str), x = .ref b ∧ SqT K H2 b (xs.map V.str) ∧ xs.length ≤ 8 ∧ ∀ y ∈ xs, isNm y = true := by
      have hm := List.mem_of_getElem? hx
      simp only [List.mem_cons, List.not_mem_nil, or_false] at hm
      rcases hm with rfl | rfl
      · exact ⟨_, _, rfl, sqT_same s2 (sqT_same s1 hi), hil, hni⟩
      · exact ⟨_, _, rfl, sqT_same s2 (sqT_same s1 ho), hol, hno⟩
    refine ⟨_, rfl, .ref b, _, _, _, true, rfl, .ty "tuple", ty_sq hb, rfl, _, rfl, iteF ?_⟩
    refine ⟨_, rfl, b, _, rfl, .inr hb, _, rfl, _, _, rfl, rfl, _, rfl, ?_⟩
    have e : decide ((((xs.map V.str).length : Nat) : Int) > 8) = false := decide_eq_false (by rw [List.length_map]; omega)
    rw [e]
    refine iteF ⟨_, rfl, b, rfl, ⟨_, hb⟩, fun D hD => ?_⟩
    refine lc_tup (K := K) (a := b) (xs := xs.map V.str) (fun m H' => Same H2 H' ∧ H' D = some (.lst (((xs.take m).map fun x => V.bl (isNm x))))) ⟨upd_new hD, upd_same⟩ (fun m H' _ p => sqT_same p.1 hb) ?_ ?_
    · rintro m v H3 hm ⟨s3, a3⟩
      rw [List.getElem?_map] at hm
      obtain ⟨y, hy, rfl⟩ := Option.map_eq_some_iff.mp hm
      have hyn := hxn y (List.mem_of_getElem? hy)
      refine ⟨rfl, _, rfl, y, rfl, small1 (isNm_len hyn).2, fun H4 s4 => ⟨_, s4 _ _ a3, lt ?_, same_put (s3.trans s4) hD, ?_⟩⟩
      · rw [List.length_map, List.length_take]
        omega
      · rw [upd_same, List.take_add_one, hy]
        simp
    rintro H3 ⟨s3, a3⟩
    rw [List.take_of_length_le (by rw [List.length_map]; exact Nat.le_refl _)] at a3
    refine ⟨D, xs.map isNm, rfl, .of (by rw [a3, List.map_map]; rfl), _, rfl, ?_⟩
    have e2 : (xs.map isNm).all id = true := by
      rw [List.all_map]
      exact List.all_eq_true.mpr fun y hy => hxn y hy
    rw [e2]
    exact iteF ⟨_, rfl, s2.trans s3⟩
  rintro σ H2 ⟨u3, rfl, s2⟩
  have s3 := s1.trans s2
  have last : ∀ (c : Nat) (H3 : Hp), c = (ins ++ outs).length → Same H H3 → Q (V.bl (decide (V.int ((c : Nat) : Int) = V.int ((((ins.map V.str).length : Nat) : Int) + (((outs.map V.str).length : Nat) : Int))))) H3 := fun c H3 e s => by
    rw [e, List.length_map, List.length_map, List.length_append, decide_eq_true (congrArg V.int (by omega))]
    exact k H3 s
  have l1000 : (ins ++ outs).length ≤ 1000 := by rw [List.length_append]; omega
  have hi3 := sqT_same s3 hi
  have ho3 := sqT_same s3 ho
  refine ⟨_, rfl, _, rfl, i, o, _, _, rfl, rfl, hi3, ho3, by rw [List.length_map, List.length_map]; exact big (by omega), fun e => ?_, fun _ e => ?_, fun _ _ p hp => ?_⟩
  · have hl : SqT K H2 o ((ins ++ outs).map V.str) := by
      rw [List.map_append, e]
      exact ho3
    exact ⟨o, ins ++ outs, rfl, hl, l1000, fun c _ hc => ⟨_, rfl, i, _, rfl, .inr hi3, _, rfl, o, _, rfl, .inr ho3, _, _, rfl, rfl, rfl, last c H2 (hc.mpr hnd) s3⟩⟩
  · have hl : SqT K H2 i ((ins ++ outs).map V.str) := by
      rw [List.map_append, e, List.append_nil]
      exact hi3
    exact ⟨i, ins ++ outs, rfl, hl, l1000, fun c _ hc => ⟨_, rfl, i, _, rfl, .inr hi3, _, rfl, o, _, rfl, .inr ho3, _, _, rfl, rfl, rfl, last c H2 (hc.mpr hnd) s3⟩⟩
  · have s4 := upd_new (o := HO.tup (ins.map V.str ++ outs.map V.str)) hp
    have hl : SqT K (upd H2 p (HO.tup (ins.map V.str ++ outs.map V.str))) p ((ins ++ outs).map V.str) := by
      rw [List.map_append]
      exact .of upd_same
    exact ⟨p, ins ++ outs, rfl, hl, l1000, fun c _ hc => ⟨_, rfl, i, _, rfl, .inr (sqT_same s4 hi3), _, rfl, o, _, rfl, .inr (sqT_same s4 ho3), _, _, rfl, rfl, rfl, last c _ (hc.mpr hnd) (s3.trans s4)⟩⟩
end

/-! ### texts in order -/
theorem sorted_same {l m n o : List Str} (hl : PyProof.Rows.sortedS l = true) (hm : PyProof.Rows.sortedS m = true) (h1 : l.Perm n) (h2 : m.Perm o) (h : n.Perm o) : l = m :=
  List.Perm.eq_of_pairwise (fun _ _ _ _ => leS_anti) (sorted_pw hl) (sorted_pw hm) (h1.trans (h.trans h2.symm))
theorem ints_shaped (l : List Int) : SeqAt.shaped (.list (l.map PyData.int)) = true := by
  have h1 : ∀ l : List Int, PyData.canLayAll0 (l.map PyData.int) = true ∧ PyData.depthAll (l.map PyData.int) ≤ 1 := by
    intro l
    induction l with
    | nil => exact ⟨rfl, Nat.zero_le _⟩
    | cons c r ih =>
      obtain ⟨a, b⟩ := ih
      refine ⟨?_, ?_⟩
      · simp only [List.map_cons, PyData.canLayAll0, a, PyData.canLay0, Bool.and_self]
      · simp only [List.map_cons, PyData.depthAll, PyData.depth]
        omega
  obtain ⟨a, b⟩ := h1 l
  unfold SeqAt.shaped
  rw [Bool.and_eq_true]
  refine ⟨by simpa only [PyData.canLay0] using a, decide_eq_true ?_⟩
  simp only [PyData.depth]
  omega
theorem dp_ints {K : PySem.W.Frag} {H : Hp} : ∀ l : List Int, DpAll K H (l.map V.int) (l.map PyData.int)
  | [] => .nil
  | x :: r => .cons (.int x) (dp_ints r)
theorem eqv_shaped {d : PyData} (h : SeqAt.shaped d = true) : PyData.eqv d d = true := by
  unfold SeqAt.shaped at h
  rw [Bool.and_eq_true] at h
  exact PySem.SeqAt.eqv_refl d h.1
theorem idx_at : ∀ (l : List Str) (x : Str), x ∈ l → l[l.idxOf x]? = some x ∧ ∀ m, m < l.idxOf x → l[m]? ≠ some x
  | [], x, h => by cases h
  | a :: l, x, h => by
    by_cases e : a = x
    · subst e
      rw [List.idxOf_cons_self]
      exact ⟨rfl, fun m hm => by cases hm⟩
    · have hx : x ∈ l := (List.mem_cons.mp h).resolve_left fun z => e z.symm
      obtain ⟨h1, h2⟩ := idx_at l x hx
      have hi : (a :: l).idxOf x = l.idxOf x + 1 := by
        rw [List.idxOf_cons, show (a == x) = false from beq_eq_false_iff_ne.mpr e]
        rfl
      rw [hi]
      refine ⟨h1, fun m hm => ?_⟩
      cases m with
      | zero => exact fun z => e (Option.some.inj z)
      | succ m => exact h2 m (by omega)
theorem at0 {l : List Str} (h : l ≠ []) : atI (l.map V.str) 0 = some (.str (l.headD Str.empty)) := by
  cases l with
  | nil => exact absurd rfl h
  | cons a r => simp [atI, ixN]
theorem head_mem {l : List Str} (h : l ≠ []) : l.headD Str.empty ∈ l := by
  cases l with
  | nil => exact absurd rfl h
  | cons a r => exact List.mem_cons_self
def firstOf (outs : List Str) (s : Fnc) : Int := ((outs.idxOf (s.1.headD Str.empty) : Nat) : Int)
/-- Diagram.MAX_PORTS -/
structure Dia (K : PySem.W.Frag) (mg : Str → Option Value) : Prop where
  ex : ∃ C mc u, mg "Diagram" = some (.ref C) ∧ CRead K C mc ∧ CVal K C mc "MAX_PORTS" (.int 8) u
def spIface (K : PySem.W.Frag) : Sp := fun vs H Q _ => ∃ (v : Addr) (f : Fc), vs = [.ref v] ∧ IfAt K H v f ∧ OkI f ∧ ∀ H', Same H H' → Q (.bl true) H'
section
variable {P : Program} {w : World} {K : PySem.W.Frag} {mg : Str → Option Value} {base : Heap}
abbrev nIf : List Str := ["value", "inputs", "outputs", "profile", "step", "names", "_", "firsts", "name", "named"]
theorem scIfc : FnScope nIf ["value"] (defScope sIface) := ⟨rfl, rfl, rfl, by decide +kernel, rfl, by decide +kernel, by decide +kernel⟩
theorem ok_iface {f fP fS : Addr} {fd fdP fdS : FuncData} (F : Fun K "is_interface" "is_interface" sIface f fd) (T : Txt K w mg) (Di : Dia K mg) (zso : mg "sorted" = none)
    (GP : FnOk P w K mg base CX0 2 fP fdP ["inputs", "outputs", "most"] (spPorts K)) (mP : mg "are_port_names" = some (.ref fP)) (kP : PySem.W.keepIn K (.ref fP) = true) (bP : Binds K fdP ["inputs", "outputs", "most"] [])
    (GS : FnOk P w K mg base CX0 2 fS fdS ["value", "inputs", "outputs"] (spStep K)) (mS : mg "_is_step_function" = some (.ref fS)) (kS : PySem.W.keepIn K (.ref fS) = true) (bS : Binds K fdS ["value", "inputs", "outputs"] []) :
    FnOk P w K mg base CX0 3 f fd ["value"] (spIface K) := by
  refine F.ok scIfc (fun vs H Q E h => ?_) (fun cdv A outer s H vs Q E hr h => ?_)
  · obtain ⟨v, g, rfl, _⟩ := h
    rfl
  obtain ⟨v, g, rfl, ⟨i, o, p, as, hv, hi, ho, hp, hst⟩, ok, k⟩ := h
  have hu := hr.units
  obtain ⟨C, mc, uC, mC, rC, vC⟩ := Di.ex
  refine ⟨_, pss_cons (ps_if (PW.pt (pw_or (pt_not (pt_val (pe_callB (id := "isinstance") call_isi (by rfl) T.is_ (by decide +kernel) (pa_cons (pv 0) (pa_cons (pe_bltn (v := .ty "tuple") rfl T.zt PyProof.Rows.Boot.«tuple» rfl) pa_nil)))))
        (pw_or1 (pt_cmpR op_ne (pe_callB call_len_seq (by rfl) T.zl PySem.boot_len (pa_cons (pv 0) pa_nil)) pe_int (nomark _))))) (pss_one (ps_ret pe_bl)) pss_nil)
    (pss_cons (ps_asg (pv 0) (pg_tup (by rfl) (pgs_cons (pg_name (i := 1) scIfc.nd rfl (.inr rfl)) (pgs_cons (pg_name (i := 2) scIfc.nd rfl (.inr rfl)) (pgs_cons (pg_name (i := 3) scIfc.nd rfl (.inl rfl)) pgs_nil)))))
    (pss_cons (ps_if (PW.pt (pw_or (pt_not (pt_val (pe_call GP hr rfl mP kP bP .nil pass0 (pa_cons (pv 1) (pa_cons (pv 2) (pa_cons (pe_cval (pe_glob (v := .ref C) rfl mC rfl)) pa_nil))))))
        (pw_or1 (pt_not (pt_val (pe_callB (id := "isinstance") call_isi (by rfl) T.is_ (by decide +kernel) (pa_cons (pv 3) (pa_cons (pe_bltn (v := .ty "tuple") rfl T.zt PyProof.Rows.Boot.«tuple» rfl) pa_nil)))))))) (pss_one (ps_ret pe_bl)) pss_nil)
    (pss_cons (ps_if (pt_not (pt_val (pe_callB (cr_all rfl) (by rfl) T.za (by decide +kernel) (pa_cons (pe_lc (own := [("step", 4)]) (g := gName 4) rfl scIfc.nd (pi_tup (pv 3)) (blkOk_by (own := [("step", 4)]) (N := nIf) (sc := defScope sIface) (by decide +kernel)) (fun _ _ _ _ _ => pg_name (i := 4) scIfc.nd rfl (Or.inl rfl)) (fun _ _ _ _ _ => pts_nil)
          (fun _ _ _ _ _ => pe_call GS hr rfl mS kS bS .nil pass0 (pa_cons (pv 4) (pa_cons (pv 1) (pa_cons (pv 2) pa_nil))))) pa_nil)))) (pss_one (ps_ret pe_bl)) pss_nil)
    (pss_cons (ps_setLc (i := 7) (own := [("names", 5), ("_", 6)]) (g := gTup K 2 (gCons (gName 5) (gCons (gName 6) gNil))) rfl scIfc.nd rfl rfl (sw_true rfl rfl rfl (by decide +kernel)) (pi_tup (pv 3)) (blkOk_by (own := [("names", 5), ("_", 6)]) (N := nIf) (sc := defScope sIface) (by decide +kernel)) (fun _ _ _ _ _ => by exact (pg_tup rfl (pgs_cons (pg_name (i := 5) scIfc.nd rfl (Or.inl rfl)) (pgs_cons (pg_name (i := 6) scIfc.nd rfl (Or.inl rfl)) pgs_nil)))) (fun _ _ _ _ _ => pts_nil)
      (fun _ _ _ _ _ => by exact (pe_tm PySem.F.slot_tuple_index PySem.F.type_tuple_index (show MtR _ "tuple.index" (rTIx K) from mt_tix) (pv 2) (pa_cons (pe_ix (show IxR _ (rIxT K) from ix_tup) (pv 5) pe_int (fun _ _ => rfl)) pa_nil))))
    (pss_cons (ps_setLc2 (i := 9) (own := [("names", 5), ("_", 6), ("name", 8)]) (g := gTup K 2 (gCons (gName 5) (gCons (gName 6) gNil))) (g1 := gName 8) (wi1 := iTup K (tVar 5)) (vs1 := [8]) rfl scIfc.nd rfl rfl (sw_true rfl rfl rfl (by decide +kernel)) (pi_tup (pv 3)) (blkOk_by (own := [("names", 5), ("_", 6), ("name", 8)]) (N := nIf) (sc := defScope sIface) (by decide +kernel)) (by decide) (fun _ _ _ _ _ => by exact (pg_tup rfl (pgs_cons (pg_name (i := 5) scIfc.nd rfl (Or.inl rfl)) (pgs_cons (pg_name (i := 6) scIfc.nd rfl (Or.inl rfl)) pgs_nil)))) (fun _ _ _ _ _ => pts_nil)
      (fun _ _ _ _ _ => by exact (pi_tup (pv 5))) (fun _ _ _ _ _ => pg_name (i := 8) scIfc.nd rfl (Or.inl rfl)) (fun _ _ _ _ _ => pts_nil) (fun _ _ _ _ _ => pv 8))
    (pss_one (ps_ret (pe_and (pe_cmpR (op_eqD hu) (pv 7) (pe_callB (id := "sorted") cr_sortedInt (by rfl) zso (by decide +kernel) (pa_cons (pv 7) pa_nil)) (nomark _)) (pe_one (pe_cmpR (op_eqD hu) (pe_callB (id := "sorted") cr_sortedLst (by rfl) zso (by decide +kernel) (pa_cons (pv 9) pa_nil)) (pe_callB (id := "sorted") cr_sortedTup (by rfl) zso (by decide +kernel) (pa_cons (pv 2) pa_nil)) (nomark _))))))))))), ?_⟩
  have lt : ∀ {n : Nat}, n ≤ 100000 → n < sizeLine := fun h => by rw [sizeLine_eq]; omega
  have hal : as.length = g.prof.length := hst.1
  have hpl := ok.pl
  have hil := ok.il
  have hol := ok.ol
  refine ⟨_, rfl, .ref v, _, _, _, true, rfl, .ty "tuple", ty_sq hv, rfl, _, rfl, iteF ?_⟩
  refine ⟨_, rfl, v, _, rfl, .inr hv, rfl, _, rfl, iteF ?_⟩
  refine ⟨_, rfl, v, _, rfl, hv, rfl, _, _, rfl, _, _, rfl, _, _, rfl, rfl, ?_⟩
  refine ⟨_, rfl, _, rfl, C, mc, .int 8, uC, rfl, rC, vC, i, o, _, _, rfl, hi, ho.sq, by omega, by omega, ok.ni, ok.no, ok.nd, fun H1 s1 => ⟨_, rfl, iteF ?_⟩⟩
  have hp1 := sqT_same s1 hp
  refine ⟨_, rfl, .ref p, _, _, _, true, rfl, .ty "tuple", ty_sq hp1, rfl, _, rfl, iteF ?_⟩
  -- the step functions
  refine ⟨_, rfl, p, rfl, ⟨_, hp1⟩, fun D hD => ?_⟩
  refine lc_tup (K := K) (a := p) (xs := as.map V.ref) (fun m H' => Same H1 H' ∧ H' D = some (.lst ((as.take m).map fun _ => V.bl true))) ⟨upd_new hD, upd_same⟩ (fun m H' _ q => sqT_same q.1 hp1) ?_ ?_
  · rintro m x H3 hm ⟨s3, a3⟩
    rw [List.getElem?_map] at hm
    obtain ⟨a, ha, rfl⟩ := Option.map_eq_some_iff.mp hm
    obtain ⟨st, hs1, sa⟩ := hst.at ha
    have hmem := List.mem_of_getElem? hs1
    have s13 := s1.trans s3
    refine ⟨rfl, _, rfl, _, rfl, _, rfl, a, i, o, st, _, _, rfl, sa.same s13, sqT_same s13 hi, sqT_same s13 ho.sq, by omega, by omega, ok.ni, ok.no, ok.ne st hmem, ok.so st hmem, ok.sn st hmem, fun H4 s4 => ⟨_, s4 _ _ a3, lt ?_, same_put (s3.trans s4) hD, ?_⟩⟩
    · rw [List.length_map, List.length_take]
      omega
    · rw [upd_same, tk1 ha, List.map_append]
      rfl
  rintro H3 ⟨s3, a3⟩
  rw [List.take_of_length_le (by rw [List.length_map]; exact Nat.le_refl _)] at a3
  refine ⟨D, as.map fun _ => true, rfl, .of (by rw [a3, List.map_map]; rfl), _, rfl, ?_⟩
  have e2 : (as.map fun _ => true).all id = true := by
    rw [List.all_map]
    exact List.all_eq_true.mpr fun _ _ => rfl
  rw [e2]
  have s13 := s1.trans s3
  have hp3 := sqT_same s13 hp
  -- firsts
  refine iteF ⟨_, rfl, p, rfl, ⟨_, hp3⟩, fun D1 hD1 => ?_⟩
  refine out_it (walk_tup (xs := as.map V.ref)) (fun m H' => Same H3 H' ∧ H' D1 = some (.lst (((g.prof.take m).map (firstOf g.outs)).map V.int))) ⟨upd_new hD1, upd_same⟩ (fun m H' _ q => sqT_same q.1 hp3) ?_ ?_
  · rintro m x H4 H5 hm ⟨s4, a4⟩ ⟨rfl, hx⟩
    rw [List.getElem?_map] at hx
    obtain ⟨a, ha, rfl⟩ := Option.map_eq_some_iff.mp hx
    obtain ⟨st, hs1, sa⟩ := hst.at ha
    have hmem := List.mem_of_getElem? hs1
    have s14 := s13.trans s4
    obtain ⟨x, y, h1, h2, h3⟩ := sa.same s14
    have hne := ok.ne st hmem
    have hh : st.1.headD Str.empty ∈ g.outs := by
      have z := head_mem hne
      rw [ok.so st hmem] at z
      have z := (List.mem_filter.mp z).1
      rw [← ok.so st hmem] at z
      exact z
    obtain ⟨q1, q2⟩ := idx_at g.outs _ hh
    refine ⟨a, _, rfl, h1, rfl, _, _, rfl, _, _, rfl, rfl, rfl, ?_⟩
    have D1n : H3 D1 = none := hD1
    refine ⟨_, rfl, ⟨o, _, rfl, ixT_same s14 ho⟩, _, rfl, x, _, 0, _, rfl, rfl, h2, at0 hne, o, g.outs, _, _, rfl, rfl, sqT_same s14 ho.sq, q1, q2, _, a4, lt ?_, same_put s4 D1n, ?_⟩
    · rw [List.length_map, List.length_map, List.length_take]
      omega
    · rw [upd_same, tk1 hs1, List.map_append, List.map_append]
      rfl
  rintro H4 ⟨s4, a4⟩
  rw [List.take_of_length_le (by rw [List.length_map]; omega)] at a4
  have s14 := s13.trans s4
  have hp4 := sqT_same s14 hp
  -- named
  have htot : (g.prof.flatMap (·.1)).length ≤ 8 := by
    rw [ok.pm.length_eq]
    exact hol
  have hflat : ∀ m, ((g.prof.take m).flatMap (·.1)).length ≤ 8 := fun m => by
    have e : g.prof.flatMap (·.1) = (g.prof.take m).flatMap (·.1) ++ (g.prof.drop m).flatMap (·.1) := by rw [← List.flatMap_append, List.take_append_drop]
    rw [e, List.length_append] at htot
    omega
  refine ⟨_, rfl, p, rfl, ⟨_, hp4⟩, fun D2 hD2 => ?_⟩
  refine out_it (walk_tup (xs := as.map V.ref)) (fun m H' => Same H4 H' ∧ H' D2 = some (.lst (((g.prof.take m).flatMap (·.1)).map V.str))) ⟨upd_new hD2, upd_same⟩ (fun m H' _ q => sqT_same q.1 hp4) ?_ ?_
  · rintro m x H5 H6 hm ⟨s5, a5⟩ ⟨rfl, hx⟩
    rw [List.getElem?_map] at hx
    obtain ⟨a, ha, rfl⟩ := Option.map_eq_some_iff.mp hx
    obtain ⟨st, hs1, sa⟩ := hst.at ha
    have s15 := s14.trans s5
    obtain ⟨x, y, h1, h2, h3⟩ := sa.same s14
    refine ⟨a, _, rfl, sqT_same s5 h1, rfl, _, _, rfl, _, _, rfl, rfl, rfl, ?_⟩
    refine ⟨_, rfl, x, rfl, ⟨_, sqT_same s5 h2⟩, ?_⟩
    refine out_it (walk_tup (xs := st.1.map V.str)) (fun j H' => Same H4 H' ∧ H' D2 = some (.lst (((g.prof.take m).flatMap (·.1) ++ st.1.take j).map V.str))) ⟨s5, by rw [List.take_zero, List.append_nil]; exact a5⟩ (fun j H' _ q => sqT_same q.1 h2) ?_ ?_
    · rintro j z H7 H8 hj ⟨s7, a7⟩ ⟨rfl, hz⟩
      rw [List.getElem?_map] at hz
      obtain ⟨nm, hnm, rfl⟩ := Option.map_eq_some_iff.mp hz
      refine ⟨rfl, _, rfl, _, a7, lt ?_, same_put s7 hD2, ?_⟩
      · have z := hflat (m + 1)
        rw [tk1 hs1, List.flatMap_append, List.length_append] at z
        have z2 : ([st].flatMap (·.1)).length = st.1.length := by simp
        rw [z2] at z
        rw [List.length_map, List.length_append, List.length_take]
        omega
      · rw [upd_same, tk1 hnm]
        simp
    rintro H7 ⟨s7, a7⟩
    rw [List.length_map, List.take_length] at a7
    refine ⟨s7, ?_⟩
    rw [a7, tk1 hs1, List.flatMap_append]
    simp
  rintro H5 ⟨s5, a5⟩
  rw [List.take_of_length_le (by rw [List.length_map]; omega)] at a5
  have f5 := s5 _ _ a4
  have s15 := s14.trans s5
  refine ⟨_, rfl, _, rfl, D1, g.prof.map (firstOf g.outs), rfl, .of f5, fun ms q hperm hpw hq => ?_⟩
  have hms : ms = g.prof.map (firstOf g.outs) := List.Perm.eq_of_pairwise (fun _ _ _ _ h1 h2 => Int.le_antisymm h1 h2) hpw (by
    have z := ok.fi
    rw [List.pairwise_map] at z ⊢
    exact z.imp fun h => by unfold firstOf; omega) hperm
  subst hms
  have s6 := upd_new (o := HO.lst ((g.prof.map (firstOf g.outs)).map V.int)) hq
  refine ⟨.list ((g.prof.map (firstOf g.outs)).map PyData.int), .list ((g.prof.map (firstOf g.outs)).map PyData.int), .lst (.of (s6 _ _ f5)) (dp_ints _), .lst (.of upd_same) (dp_ints _), ints_shaped _, ints_shaped _, _, rfl, ?_⟩
  rw [eqv_shaped (ints_shaped _)]
  have a6 := s6 _ _ a5
  have s16 := s15.trans s6
  generalize upd H5 q (HO.lst ((g.prof.map (firstOf g.outs)).map V.int)) = H6 at s6 a6 s16 ⊢
  have hnn : ∀ x ∈ g.prof.flatMap (·.1), isNm x = true := fun x hx => ok.no x (ok.pm.mem_iff.mp hx)
  refine iteT ⟨_, rfl, D2, g.prof.flatMap (·.1), rfl, .of a6, fun ys q1 hp1 hs1 hq1 => ⟨_, rfl, o, g.outs, rfl, sqT_same (s16.trans (upd_new hq1)) ho.sq, fun zs q2 hp2 hs2 hq2 => ?_⟩⟩
  have e : ys = zs := sorted_same hs1 hs2 hp1 hp2 ok.pm
  subst e
  have hyn : ∀ x ∈ ys, isNm x = true := fun x hx => hnn x (hp1.mem_iff.mp hx)
  refine ⟨.list (ys.map PyData.str), .list (ys.map PyData.str), .lst (.of ((upd_new hq2) _ _ upd_same)) (dp_strs _), .lst (.of upd_same) (dp_strs _), strs_shaped _ hyn, strs_shaped _ hyn, ?_⟩
  rw [eqv_shaped (strs_shaped _ hyn)]
  exact k _ (s16.trans ((upd_new hq1).trans (upd_new hq2)))
end

end K28
/-! dict comprehensions with two sources -/
namespace Own
open PySem PySem.Spec PyProof.Rows L2
section
variable {kx vx t0 i0 t1 i1 : Expr} {ifs0 ifs1 : List Expr} {scope : Scope} {pos : Pos}
theorem dTurn_out (it acc : Value) (env : Env) :
    compTurn (.DictComp kx vx [⟨t0, i0, ifs0, 0⟩, ⟨t1, i1, ifs1, 0⟩] scope pos) 0 it acc env = (do
      standAt i0.pos
      match ← pyNext it with
      | none => pure (.done .next)
      | some v =>
        letOwnedTupleGo t0 it v
        assign t0 env v
        let mut ok := true
        for c in ifs0 do
          if ok then ok ← isTrue c env (eval c env)
        if ok then
          let x ← eval i1 env
          standAt i1.pos
          let x ← foldedSetIterable i1 env x
          let _ ← runOwn (.compStart (.DictComp kx vx [⟨t0, i0, ifs0, 0⟩, ⟨t1, i1, ifs1, 0⟩] scope pos) 1 (← holding [x] (pyIter x)) acc env) env
        again (.compLoop (.DictComp kx vx [⟨t0, i0, ifs0, 0⟩, ⟨t1, i1, ifs1, 0⟩] scope pos) 0 it acc env)) := by rfl
theorem dTurn_in (it : Value) (D : Addr) (env : Env) :
    compTurn (.DictComp kx vx [⟨t0, i0, ifs0, 0⟩, ⟨t1, i1, ifs1, 0⟩] scope pos) 1 it (.ref D) env = (do
      standAt i1.pos
      match ← pyNext it with
      | none => pure (.done .next)
      | some v =>
        letOwnedTupleGo t1 it v
        assign t1 env v
        let mut ok := true
        for c in ifs1 do
          if ok then ok ← isTrue c env (eval c env)
        if ok then
          (do
            let kv ← eval kx env
            let vv ← holding [kv] (eval vx env)
            standAt { kx.pos with endLine := vx.pos.endLine, endCol := vx.pos.endCol }
            holding [kv, vv] (dictSet D kv vv))
        again (.compLoop (.DictComp kx vx [⟨t0, i0, ifs0, 0⟩, ⟨t1, i1, ifs1, 0⟩] scope pos) 1 it (.ref D) env)) := by rfl
end

section
variable {prog : Program} {w : World} {A : Around} {R : Result → Shared → Prop} {s : Shared} {kx vx t0 i0 t1 i1 : Expr} {ifs0 ifs1 : List Expr} {scope : Scope} {pos : Pos} {it acc : Value} {D : Addr} {env : Env}
/-- the loop of the first source -/
theorem dLoop_out (hs : ∀ x, foldedSetIterable i1 env x = pure x) (I : Nat → Shared → Prop)
    (turn : ∀ n s, I n s → wpAny (model prog w) A (pyNext it) (fun r s₁ => match r with
      | none => R (.ok .next) s₁
      | some v => wpAny (model prog w) A (letOwnedTupleGo t0 it v) (fun _ s₁' => wpAny (model prog w) A (assign t0 env v) (fun _ s₂ =>
          wpAny (model prog w) A (forIn ifs0 true fun c r => if r = true then do let ok ← isTrue c env (eval c env); pure (ForInStep.yield ok) else pure (ForInStep.yield r)) (fun ok s₃ =>
            if ok = true then wpAny (model prog w) A (eval i1 env) (fun x s₄ => wpAny (model prog w) A (pyIter x) (fun it1 s₅ =>
              codeAny (model prog w) A (.compStart (.DictComp kx vx [⟨t0, i0, ifs0, 0⟩, ⟨t1, i1, ifs1, 0⟩] scope pos) 1 it1 acc env) (fun r s' => match r with
                | .ok _ => ∃ m, m < n ∧ I m s'
                | .error _ => False) s₅) (notedBy (model prog w) A env fun e s' => R (.error e) s') s₄) (notedBy (model prog w) A env fun e s' => R (.error e) s') s₃
            else ∃ m, m < n ∧ I m s₃) (notedBy (model prog w) A env fun e s' => R (.error e) s') s₂) (notedBy (model prog w) A env fun e s' => R (.error e) s') s₁') (notedBy (model prog w) A env fun e s' => R (.error e) s') s₁) (notedBy (model prog w) A env fun e s' => R (.error e) s') s)
    (n : Nat) (h : I n s) : codeAny (model prog w) A (.compLoop (.DictComp kx vx [⟨t0, i0, ifs0, 0⟩, ⟨t1, i1, ifs1, 0⟩] scope pos) 0 it acc env) R s := by
  refine codeAny_loop rfl I (fun n s hI => ?_) n h
  show wpAny _ A ((compTurn (.DictComp kx vx [⟨t0, i0, ifs0, 0⟩, ⟨t1, i1, ifs1, 0⟩] scope pos) 0 it acc env).onRaise (fun x => do noteFrame x env; theTreesLotGoes x)) _ _ s
  refine wpAny_noted ?_
  rw [dTurn_out]
  refine wpAny_bind (wpAny_standAt (wpAny_bind (wpAny_mono (turn n s hI) (fun r s₁ h₁ => ?_) fun _ _ h' => h')))
  cases r with
  | none => exact wpAny_pure h₁
  | some v =>
    refine wpAny_bind (wpAny_mono h₁ (fun _ s₁' h₁' => ?_) fun _ _ h' => h')
    refine wpAny_bind (wpAny_mono h₁' (fun _ s₂ h₂ => wpAny_bind (wpAny_mono h₂ (fun ok s₃ h₃ => ?_) fun _ _ h' => h')) fun _ _ h' => h')
    cases ok with
    | false => exact wpAny_pure ⟨rfl, h₃⟩
    | true =>
      refine wpAny_bind (wpAny_mono h₃ (fun x s₄ h₄ => ?_) fun _ _ h' => h')
      refine wpAny_bind (wpAny_standAt (wpAny_bind (wpAny_of_eq (hs x) (wpAny_bind (wpAny_holding (wpAny_mono h₄ (fun it1 s₅ h₅ => ?_) fun _ _ h' => h'))))))
      refine wpAny_bind (wpAny_runOwn ?_)
      rw [Around.mark_none]
      refine codeAny_mono h₅ fun r s' hr => ?_
      cases r with
      | ok f =>
        first
          | exact wpAny_pure ⟨rfl, hr⟩
          | exact wpAny_bind (wpAny_pure (wpAny_pure ⟨rfl, hr⟩))
      | error e => exact hr.elim
/-- the loop of the second -/
theorem dLoop_in (I : Nat → Shared → Prop)
    (turn : ∀ n s, I n s → wpAny (model prog w) A (pyNext it) (fun r s₁ => match r with
      | none => R (.ok .next) s₁
      | some v => wpAny (model prog w) A (letOwnedTupleGo t1 it v) (fun _ s₁' => wpAny (model prog w) A (assign t1 env v) (fun _ s₂ =>
          wpAny (model prog w) A (forIn ifs1 true fun c r => if r = true then do let ok ← isTrue c env (eval c env); pure (ForInStep.yield ok) else pure (ForInStep.yield r)) (fun ok s₃ =>
            if ok = true then wpAny (model prog w) A (eval kx env) (fun kv s₄ => wpAny (model prog w) A (eval vx env) (fun vv s₅ =>
              wpAny (model prog w) A (dictSet D kv vv) (fun _ s₆ => ∃ m, m < n ∧ I m s₆) (notedBy (model prog w) A env fun e s' => R (.error e) s') s₅) (notedBy (model prog w) A env fun e s' => R (.error e) s') s₄) (notedBy (model prog w) A env fun e s' => R (.error e) s') s₃
            else ∃ m, m < n ∧ I m s₃) (notedBy (model prog w) A env fun e s' => R (.error e) s') s₂) (notedBy (model prog w) A env fun e s' => R (.error e) s') s₁') (notedBy (model prog w) A env fun e s' => R (.error e) s') s₁) (notedBy (model prog w) A env fun e s' => R (.error e) s') s)
    (n : Nat) (h : I n s) : codeAny (model prog w) A (.compLoop (.DictComp kx vx [⟨t0, i0, ifs0, 0⟩, ⟨t1, i1, ifs1, 0⟩] scope pos) 1 it (.ref D) env) R s := by
  refine codeAny_loop rfl I (fun n s hI => ?_) n h
  show wpAny _ A ((compTurn (.DictComp kx vx [⟨t0, i0, ifs0, 0⟩, ⟨t1, i1, ifs1, 0⟩] scope pos) 1 it (.ref D) env).onRaise (fun x => do noteFrame x env; theTreesLotGoes x)) _ _ s
  refine wpAny_noted ?_
  rw [dTurn_in]
  refine wpAny_bind (wpAny_standAt (wpAny_bind (wpAny_mono (turn n s hI) (fun r s₁ h₁ => ?_) fun _ _ h' => h')))
  cases r with
  | none => exact wpAny_pure h₁
  | some v =>
    refine wpAny_bind (wpAny_mono h₁ (fun _ s₁' h₁' => ?_) fun _ _ h' => h')
    refine wpAny_bind (wpAny_mono h₁' (fun _ s₂ h₂ => wpAny_bind (wpAny_mono h₂ (fun ok s₃ h₃ => ?_) fun _ _ h' => h')) fun _ _ h' => h')
    cases ok with
    | false => exact wpAny_pure ⟨rfl, h₃⟩
    | true =>
      exact wpAny_bind (wpAny_bind (wpAny_mono h₃ (fun kv s₄ h₄ => wpAny_bind (wpAny_holding (wpAny_mono h₄ (fun vv s₅ h₅ => wpAny_bind (wpAny_standAt (wpAny_holding (wpAny_mono h₅ (fun _ s₆ h₆ => wpAny_pure ⟨rfl, h₆⟩) fun _ _ h' => h')))) fun _ _ h' => h'))) fun _ _ h' => h'))
/-- the second source's start -/
theorem dStart1 (h0 : codeAny (model prog w) A (.compLoop (.DictComp kx vx [⟨t0, i0, ifs0, 0⟩, ⟨t1, i1, ifs1, 0⟩] scope pos) 1 it acc env) R s)
    (h : wpAny (model prog w) A (pyIter it) (fun it' s' => codeAny (model prog w) A (.compLoop (.DictComp kx vx [⟨t0, i0, ifs0, 0⟩, ⟨t1, i1, ifs1, 0⟩] scope pos) 1 it' acc env) R s')
      (notedBy (model prog w) A env fun x s' => R (.error x) s') s) :
    codeAny (model prog w) A (.compStart (.DictComp kx vx [⟨t0, i0, ifs0, 0⟩, ⟨t1, i1, ifs1, 0⟩] scope pos) 1 it acc env) R s := by
  refine codeAny_of_tree ?_
  show wpAny _ _ ((compStart (.DictComp kx vx [⟨t0, i0, ifs0, 0⟩, ⟨t1, i1, ifs1, 0⟩] scope pos) 1 it acc env).onRaise (fun x => do noteFrame x env; standAt theWindowsPlace)) _ _ s
  refine wpAny_notedAt ?_
  unfold compStart
  show wpAny _ _ (ask >>= _) _ _ s
  refine wpAny_bind (wpAny_askSetting (wpAny_ite ?_))
  split
  · first
      | exact wpAny_bind (wpAny_pure (wpAny_pure (And.intro rfl h0)))
      | exact wpAny_pure (And.intro rfl h0)
  · first
      | exact wpAny_bind (wpAny_rule (wpAny_bind (wpAny_standAt (wpAny_bind (wpAny_mono h (fun it' s' h' => wpAny_pure (And.intro rfl h')) fun _ _ x => x)))))
      | (refine wpAny_bind (wpAny_rule ?_); show wpAny _ _ (standAt i1.pos >>= _) _ _ s; exact wpAny_bind (wpAny_standAt (wpAny_bind (wpAny_mono h (fun it' s' h' => wpAny_pure (And.intro rfl h')) fun _ _ x => x))))
end
section
variable {X : Cx}
/-- two sources -/
def GoT2 (g : TG) (tt : TT) (wi1 : TI) (g1 : TG) (tt1 : TT) (tk tv : TE) (vs vs1 : List Nat) : It → Addr → L2.St → Hp → (Hp → Prop) → Prop := fun J D σ H Qd => ∃ W : Nat → Nat → Hp → Prop, (∃ m, W 0 m H) ∧ ∀ i m H, W i m H →
  (J.stop i H ∧ Qd H) ∨ (J.go i H ∧ ∃ Nx : Hp → Prop, (∀ H', Nx H' → ∃ m', m' < m ∧ W (i + 1) m' H') ∧ ∀ x H', J.yld i H x H' → g x (wipe σ vs) H' fun σ2 H2 => wipe σ2 vs = wipe σ vs ∧ tt σ2 H2 fun b H3 =>
    if b = true then wi1 σ2 H3 fun J1 H4 => ∃ W1 : Nat → Nat → Hp → Prop, (∃ m, W1 0 m H4) ∧ ∀ j k H, W1 j k H →
      (J1.stop j H ∧ Nx H) ∨ (J1.go j H ∧ ∃ Nx1 : Hp → Prop, (∀ H', Nx1 H' → ∃ k', k' < k ∧ W1 (j + 1) k' H') ∧ ∀ x H', J1.yld j H x H' → g1 x (wipe σ2 vs1) H' fun σ3 H5 => wipe σ3 vs1 = wipe σ2 vs1 ∧ tt1 σ3 H5 fun b H6 =>
        if b = true then tk σ3 H6 fun y H7 => tv σ3 H7 fun z H8 => ∃ H9, DPut H8 D y z H9 ∧ Nx1 H9 else Nx1 H6)
    else Nx H3)
theorem loop_two {kx vx tg iter tg1 iter1 : Expr} {ifs ifs1 : List Expr} {scope : Scope} {own : List (Str × Nat)} {vs1 : List Nat} {pos : Pos} {wi1 : TI} {g g1 : TG} {tt tt1 : TT} {tk tv : TE} (hu : X.A.units < cLine) (hc : X.calm = true) (hv : ∀ i ∈ vs1, i ∈ own.map (·.2))
    (hg : ∀ (s : Shared) (H : Hp) (C : Addr) (cl : List (Str × Addr)) (fp : List Addr), PG (X.blk s H scope (compEnvC scope cl C X.env) fp) tg g) (ht : ∀ (s : Shared) (H : Hp) (C : Addr) (cl : List (Str × Addr)) (fp : List Addr), PTs (X.blk s H scope (compEnvC scope cl C X.env) fp) ifs tt)
    (hi1 : ∀ (s : Shared) (H : Hp) (C : Addr) (cl : List (Str × Addr)) (fp : List Addr), PI (X.blk s H scope (compEnvC scope cl C X.env) fp) tg1 iter1 wi1)
    (hg1 : ∀ (s : Shared) (H : Hp) (C : Addr) (cl : List (Str × Addr)) (fp : List Addr), PG (X.blk s H scope (compEnvC scope cl C X.env) fp) tg1 g1) (ht1 : ∀ (s : Shared) (H : Hp) (C : Addr) (cl : List (Str × Addr)) (fp : List Addr), PTs (X.blk s H scope (compEnvC scope cl C X.env) fp) ifs1 tt1)
    (hk : ∀ (s : Shared) (H : Hp) (C : Addr) (cl : List (Str × Addr)) (fp : List Addr), PE (X.blk s H scope (compEnvC scope cl C X.env) fp) kx tk)
    (he : ∀ (s : Shared) (H : Hp) (C : Addr) (cl : List (Str × Addr)) (fp : List Addr), PE (X.blk s H scope (compEnvC scope cl C X.env) fp) vx tv) (hs1 : ∀ env x, foldedSetIterable iter1 env x = pure x := by intro _ _; rfl) : LoopH X kx vx tg iter ifs [⟨tg1, iter1, ifs1, 0⟩] scope own pos (GoT2 g tt wi1 g1 tt1 tk tv (own.map (·.2)) vs1) := by
  refine fun s3 H3 C cl fp ce it D tn J σ Qd s4 R hce T q I4 st4 n4 fin => ?_
  obtain ⟨W, ⟨m0, w0⟩, turn⟩ := q
  have pg := hg s3 H3 C cl fp
  have pt := ht s3 H3 C cl fp
  have pi1 := hi1 s3 H3 C cl fp
  have pg1 := hg1 s3 H3 C cl fp
  have pt1 := ht1 s3 H3 C cl fp
  have pk := hk s3 H3 C cl fp
  have pe := he s3 H3 C cl fp
  rw [← hce] at pg pt pi1 pg1 pt1 pk pe
  refine dLoop_out (hs1 ce) (fun n s' => ∃ i H', Inv (X.blk s3 H3 scope ce fp) [] (wipe σ (own.map (·.2))) H' s' ∧ tn i s'.heap ∧ (∀ b ∈ fp, H' b = none) ∧ W i n H') ?_ m0 ⟨0, H3, I4, st4, n4, w0⟩
  rintro n s5 ⟨i, H5, I5, st5, n5, w5⟩
  rcases turn i n H5 w5 with ⟨stop, qq⟩ | ⟨go, Nx, hNx, step⟩
  · refine thnF (T.done (X.blk s3 H3 scope ce fp) rfl rfl rfl hc i [] s5 _ H5 (fun _ _ => False) I5 (blk_fp I5 n5) st5 stop) fun r s6 ⟨hr, I6⟩ => ?_
    subst hr
    exact fin s6 H5 I6 qq
  · refine thnF (T.item (X.blk s3 H3 scope ce fp) rfl rfl rfl hc i [] s5 _ H5 (fun _ _ => False) I5 (blk_fp I5 n5) st5 go) fun r s6 ⟨u, hr, h6⟩ => ?_
    subst hr
    refine thnF h6 fun _ s7 ⟨x, H7, I7, r7, y7, st7, n7⟩ => ?_
    have I7' := I7.pinned (blk_fp I7 n7) (T.obj _ _ st7)
    refine thnF (pg.run _ s7 _ H7 x u _ I7' r7 (step x H7 y7)) fun _ s8 ⟨σ8, H8, I8, hw8, q8⟩ => ?_
    obtain ⟨hl8, hk8⟩ := wipe_up hw8
    have hk9 : ∀ (j : Nat) v, (wipe σ (own.map (·.2)))[j]? = some (some v) → (wipe σ8 vs1)[j]? = some (some v) := fun j v e => by
      rw [← hw8] at e
      obtain ⟨e1, e2⟩ := wipe_some e
      rw [wipe_out fun z => e2 (hv j z)]
      exact e1
    have next : ∀ {σ9 : L2.St} {s' : Shared} {H' : Hp}, Inv (X.blk s3 H3 scope ce fp) ([] ++ pinsAt fp s7.heap) σ9 H' s' → (wipe σ (own.map (·.2))).length = σ9.length → (∀ (j : Nat) v, (wipe σ (own.map (·.2)))[j]? = some (some v) → σ9[j]? = some (some v)) → Nx H' →
        ∃ m, m < n ∧ ∃ i H', Inv (X.blk s3 H3 scope ce fp) [] (wipe σ (own.map (·.2))) H' s' ∧ tn i s'.heap ∧ (∀ b ∈ fp, H' b = none) ∧ W i m H' := fun {σ9 s' H'} I' hl hk nx => by
      obtain ⟨m', hm, w'⟩ := hNx H' nx
      obtain ⟨z1, z2, z3⟩ := turn_end T st7 I' hl hk
      exact ⟨m', hm, i + 1, H', z1, z2, z3, w'⟩
    refine thnF (pt.run _ s8 σ8 H8 _ I8 q8) fun b s9 ⟨H9, I9, q9⟩ => ?_
    cases b with
    | false =>
      simp only [Bool.false_eq_true, if_false] at q9 ⊢
      exact next I9 hl8 hk8 q9
    | true =>
      simp only [if_true] at q9 ⊢
      refine thnF (pi1.run _ s9 σ8 H9 _ I9 q9) fun xv s10 hx => thnF hx fun itv s11 h11 => ?_
      obtain ⟨it1, fp1, tn1, J1, H11, e1, I11, T1, st11, f11, W1, ⟨m1, w1⟩, turn1⟩ := h11
      subst e1
      have stat1 : ∀ {H' : Hp}, (∀ b ∈ fp1, H' b = none) → ∀ b ∈ fp1, FpOk (X.blk s3 H3 scope ce fp) ([] ++ pinsAt fp s7.heap) H' b := fun hn b hb => ⟨hn b hb, (f11 b hb).2⟩
      have loop1 : codeAny (model X.prog X.w) X.A (.compLoop (.DictComp kx vx [⟨tg, iter, ifs, 0⟩, ⟨tg1, iter1, ifs1, 0⟩] scope pos) 1 (.ref it1) (.ref D) ce)
          (fun r s' => match r with
            | .ok _ => ∃ m, m < n ∧ ∃ i H', Inv (X.blk s3 H3 scope ce fp) [] (wipe σ (own.map (·.2))) H' s' ∧ tn i s'.heap ∧ (∀ b ∈ fp, H' b = none) ∧ W i m H'
            | .error _ => False) s11 := by
        refine dLoop_in (fun k s' => ∃ j H', Inv (X.blk s3 H3 scope ce fp) ([] ++ pinsAt fp s7.heap) (wipe σ8 vs1) H' s' ∧ tn1 j s'.heap ∧ (∀ b ∈ fp1, H' b = none) ∧ W1 j k H') ?_ m1 ⟨0, H11, I11.weak (wipe_length _ _) (fun j v e => (wipe_some e).1), st11, fun b hb => (f11 b hb).1, w1⟩
        rintro k s12 ⟨j, H12, I12, st12, n12, w12⟩
        rcases turn1 j k H12 w12 with ⟨stop1, nx1⟩ | ⟨go1, Nx1, hNx1, step1⟩
        · refine thnF (T1.done (X.blk s3 H3 scope ce fp) rfl rfl rfl hc j _ s12 (wipe σ8 vs1) H12 (fun _ _ => False) I12 (stat1 n12) st12 stop1) fun r s13 ⟨hr, I13⟩ => ?_
          subst hr
          exact next I13 (hl8.trans (wipe_length σ8 vs1).symm) hk9 nx1
        · refine thnF (T1.item (X.blk s3 H3 scope ce fp) rfl rfl rfl hc j _ s12 (wipe σ8 vs1) H12 (fun _ _ => False) I12 (stat1 n12) st12 go1) fun r s13 ⟨u1, hr, h13⟩ => ?_
          subst hr
          refine thnF h13 fun _ s14 ⟨x1, H14, I14, r14, y14, st14, n14⟩ => ?_
          have I14' := I14.pinned (stat1 n14) (T1.obj _ _ st14)
          refine thnF (pg1.run _ s14 (wipe σ8 vs1) H14 x1 u1 _ I14' r14 (step1 x1 H14 y14)) fun _ s15 ⟨σ15, H15, I15, hw15, q15⟩ => ?_
          obtain ⟨hl15, hk15⟩ := wipe_up hw15
          have next1 : ∀ {s' : Shared} {H' : Hp}, Inv (X.blk s3 H3 scope ce fp) (([] ++ pinsAt fp s7.heap) ++ pinsAt fp1 s14.heap) σ15 H' s' → Nx1 H' → ∃ m, m < k ∧ ∃ j H', Inv (X.blk s3 H3 scope ce fp) ([] ++ pinsAt fp s7.heap) (wipe σ8 vs1) H' s' ∧ tn1 j s'.heap ∧ (∀ b ∈ fp1, H' b = none) ∧ W1 j m H' := fun {s' H'} I' nx => by
            obtain ⟨m', hm, w'⟩ := hNx1 H' nx
            obtain ⟨z1, z2, z3⟩ := turn_end T1 st14 I' hl15 hk15
            exact ⟨m', hm, j + 1, H', z1, z2, z3, w'⟩
          refine thnF (pt1.run _ s15 σ15 H15 _ I15 q15) fun b1 s16 ⟨H16, I16, q16⟩ => ?_
          cases b1 with
          | false =>
            simp only [Bool.false_eq_true, if_false] at q16 ⊢
            exact next1 I16 q16
          | true =>
            simp only [if_true] at q16 ⊢
            refine thnF (pk.run _ s16 σ15 H16 _ I16 q16) fun z s17 ⟨yk, H17, I17, r17, q17⟩ => ?_
            refine thnF (pe.run _ s17 σ15 H17 _ I17 q17) fun z2 s18 ⟨yv, H18, I18, r18, H19, dp, nx⟩ => ?_
            exact c_dictSet (X := X.blk s3 H3 scope ce fp) hu I18 dp r17 r18 fun s19 I19 => next1 I19 nx
      exact dStart1 loop1 (T1.self X.A 0 _ _ _ st11 loop1)
theorem pe_dcT2 {kx vx tg iter tg1 iter1 : Expr} {ifs ifs1 : List Expr} {scope : Scope} {own : List (Str × Nat)} {vs1 : List Nat} {pos : Pos} {wi wi1 : TI} {g g1 : TG} {tt tt1 : TT} {tk tv : TE} (o : HO) (ho : o = .dT [] ∨ o = .dK []) (hu : X.A.units < cLine) (hc : X.calm = true) (hN : X.N.Nodup) (hi : PI X tg iter wi) (ok : BlkOk X.N X.env.scope scope own) (hv : ∀ i ∈ vs1, i ∈ own.map (·.2))
    (hg : ∀ (s : Shared) (H : Hp) (C : Addr) (cl : List (Str × Addr)) (fp : List Addr), PG (X.blk s H scope (compEnvC scope cl C X.env) fp) tg g) (ht : ∀ (s : Shared) (H : Hp) (C : Addr) (cl : List (Str × Addr)) (fp : List Addr), PTs (X.blk s H scope (compEnvC scope cl C X.env) fp) ifs tt)
    (hi1 : ∀ (s : Shared) (H : Hp) (C : Addr) (cl : List (Str × Addr)) (fp : List Addr), PI (X.blk s H scope (compEnvC scope cl C X.env) fp) tg1 iter1 wi1)
    (hg1 : ∀ (s : Shared) (H : Hp) (C : Addr) (cl : List (Str × Addr)) (fp : List Addr), PG (X.blk s H scope (compEnvC scope cl C X.env) fp) tg1 g1) (ht1 : ∀ (s : Shared) (H : Hp) (C : Addr) (cl : List (Str × Addr)) (fp : List Addr), PTs (X.blk s H scope (compEnvC scope cl C X.env) fp) ifs1 tt1)
    (hk : ∀ (s : Shared) (H : Hp) (C : Addr) (cl : List (Str × Addr)) (fp : List Addr), PE (X.blk s H scope (compEnvC scope cl C X.env) fp) kx tk)
    (he : ∀ (s : Shared) (H : Hp) (C : Addr) (cl : List (Str × Addr)) (fp : List Addr), PE (X.blk s H scope (compEnvC scope cl C X.env) fp) vx tv) (hs : ∀ x, foldedSetIterable iter X.env x = pure x := by intro _; rfl) (hs1 : ∀ env x, foldedSetIterable iter1 env x = pure x := by intro _ _; rfl) :
    PE X (.DictComp kx vx [⟨tg, iter, ifs, 0⟩, ⟨tg1, iter1, ifs1, 0⟩] scope pos) (tDcG o wi (GoT2 g tt wi1 g1 tt1 tk tv (own.map (·.2)) vs1)) := pe_dcG ho hN hi ok hs (loop_two hu hc hv hg ht hi1 hg1 ht1 hk he hs1)
theorem ps_setdcT2 {i : Nat} {y : Str} {py spos : Pos} {kx vx tg iter tg1 iter1 : Expr} {ifs ifs1 : List Expr} {scope : Scope} {own : List (Str × Nat)} {vs1 : List Nat} {pos : Pos} {wi wi1 : TI} {g g1 : TG} {tt tt1 : TT} {tk tv : TE} (o : HO) (ho : o = .dT [] ∨ o = .dK []) (hu : X.A.units < cLine) (hc : X.calm = true) (hN : X.N.Nodup) (hy : X.N[i]? = some y) (hyl : X.env.scope.names.lookup y = some .local) (hsw : swapsWith (.DictComp kx vx (⟨tg, iter, ifs, 0⟩ :: [⟨tg1, iter1, ifs1, 0⟩]) scope pos) (some (.Name y py)) spos.line X.env = pure true) (hi : PI X tg iter wi) (ok : BlkOk X.N X.env.scope scope own) (hv : ∀ i ∈ vs1, i ∈ own.map (·.2))
    (hg : ∀ (s : Shared) (H : Hp) (C : Addr) (cl : List (Str × Addr)) (fp : List Addr), PG (X.blk s H scope (compEnvC scope cl C X.env) fp) tg g) (ht : ∀ (s : Shared) (H : Hp) (C : Addr) (cl : List (Str × Addr)) (fp : List Addr), PTs (X.blk s H scope (compEnvC scope cl C X.env) fp) ifs tt)
    (hi1 : ∀ (s : Shared) (H : Hp) (C : Addr) (cl : List (Str × Addr)) (fp : List Addr), PI (X.blk s H scope (compEnvC scope cl C X.env) fp) tg1 iter1 wi1)
    (hg1 : ∀ (s : Shared) (H : Hp) (C : Addr) (cl : List (Str × Addr)) (fp : List Addr), PG (X.blk s H scope (compEnvC scope cl C X.env) fp) tg1 g1) (ht1 : ∀ (s : Shared) (H : Hp) (C : Addr) (cl : List (Str × Addr)) (fp : List Addr), PTs (X.blk s H scope (compEnvC scope cl C X.env) fp) ifs1 tt1)
    (hk : ∀ (s : Shared) (H : Hp) (C : Addr) (cl : List (Str × Addr)) (fp : List Addr), PE (X.blk s H scope (compEnvC scope cl C X.env) fp) kx tk)
    (he : ∀ (s : Shared) (H : Hp) (C : Addr) (cl : List (Str × Addr)) (fp : List Addr), PE (X.blk s H scope (compEnvC scope cl C X.env) fp) vx tv) (hs : ∀ x, foldedSetIterable iter X.env x = pure x := by intro _; rfl) (hs1 : ∀ env x, foldedSetIterable iter1 env x = pure x := by intro _ _; rfl) :
    PS X (.Assign [.Name y py] (.DictComp kx vx (⟨tg, iter, ifs, 0⟩ :: [⟨tg1, iter1, ifs1, 0⟩]) scope pos) spos) (tAsg (tDcG o wi (GoT2 g tt wi1 g1 tt1 tk tv (own.map (·.2)) vs1)) (gName i)) := ps_setDcG ho hN hy hyl hsw hi ok hs (loop_two hu hc hv hg ht hi1 hg1 ht1 hk he hs1)
end
end Own
namespace K28
open PySem L2 Own StX ClX NdefX
/-! ### what is compiled, as lists -/
structure Call where
  part : Str
  num : Nat
  args : List (Str × Port)
deriving DecidableEq
abbrev Reach : Type := List (Port × List Str)
def look {β : Type} (kvs : List (Port × β)) (p : Port) : Option β := (kvs.find? fun kv => decide (kv.1 = p)).map (·.2)
def callsOf (face : Str → Fc) (ws : List (Port × Port)) (part : Str) : List Call :=
  (face part).prof.zipIdx.map fun sn => ⟨part, sn.2, sn.1.2.map fun need => (need, (look ws (part, need)).getD (Str.empty, Str.empty))⟩
def listCalls (ps : List (Str × Str)) (face : Str → Fc) (ws : List (Port × Port)) : List Call := ps.flatMap fun p => callsOf face ws p.1
def callOuts (face : Str → Fc) (c : Call) : List Port := (((face c.part).prof[c.num]?).map (·.1)).getD [] |>.map fun n => (c.part, n)
def ready (r : Reach) (c : Call) : Bool := c.args.all fun a => (look r a.2).isSome
def reaching (ins : List Str) (r : Reach) (c : Call) : List Str := ins.filter fun n => c.args.any fun a => decide (n ∈ (look r a.2).getD [])
def addNew (needs : List Str) : List Port → Reach → Option Reach
  | [], r => some r
  | p :: ps, r => if p ∈ r.map (·.1) then none else addNew needs ps (r ++ [(p, needs)])
def orderCalls (face : Str → Fc) (ins : List Str) : Nat → List Call → List Call → Reach → Option (List Call × Reach)
  | 0, left, order, r => if left.isEmpty then some (order, r) else none
  | n + 1, left, order, r => if left.isEmpty then some (order, r) else
    match left.findIdx? (ready r) with
    | none => none
    | some j => match left[j]? with
      | none => none
      | some c => match addNew (reaching ins r c) (callOuts face c) r with
        | none => none
        | some r' => orderCalls face ins n (left.eraseIdx j) (order ++ [c]) r'
/-! ### at addresses -/
def ArgAt (H : Hp) (a : Addr) (x : Str × Port) : Prop := ∃ s, H a = some (.tup [.str x.1, .ref s]) ∧ H s = some (.tup [.str x.2.1, .str x.2.2])
def All2 {α : Type} (R : Addr → α → Prop) (as : List Addr) (xs : List α) : Prop := as.length = xs.length ∧ ∀ (i : Nat) (a : Addr) (x : α), as[i]? = some a → xs[i]? = some x → R a x
theorem All2.nil {α : Type} {R : Addr → α → Prop} : All2 R [] [] := ⟨rfl, fun i a x e _ => by cases e⟩
theorem All2.snoc {α : Type} {R : Addr → α → Prop} {as : List Addr} {xs : List α} {t : Addr} {x : α} (h : All2 R as xs) (e : R t x) : All2 R (as ++ [t]) (xs ++ [x]) := by
  refine ⟨by rw [List.length_append, List.length_append, h.1]; rfl, fun i a q e1 e2 => ?_⟩
  by_cases hi : i < as.length
  · rw [List.getElem?_append_left hi] at e1
    rw [List.getElem?_append_left (by rw [← h.1]; exact hi)] at e2
    exact h.2 i a q e1 e2
  · rw [List.getElem?_append_right (by omega)] at e1
    rw [List.getElem?_append_right (by rw [← h.1]; omega), ← h.1] at e2
    cases hk : i - as.length with
    | zero =>
      rw [hk] at e1 e2
      cases e1
      cases e2
      exact e
    | succ k =>
      rw [hk] at e1
      cases e1
theorem All2.imp {α : Type} {R S : Addr → α → Prop} {as : List Addr} {xs : List α} (h : All2 R as xs) (k : ∀ a x, R a x → S a x) : All2 S as xs := ⟨h.1, fun i a x e1 e2 => k _ _ (h.2 i a x e1 e2)⟩
theorem All2.at {α : Type} {R : Addr → α → Prop} {as : List Addr} {xs : List α} (h : All2 R as xs) {i : Nat} {a : Addr} (ha : as[i]? = some a) : ∃ x, xs[i]? = some x ∧ R a x := by
  have hi : i < xs.length := by rw [← h.1]; exact (List.getElem?_eq_some_iff.mp ha).1
  exact ⟨xs[i], List.getElem?_eq_getElem hi, h.2 i a _ ha (List.getElem?_eq_getElem hi)⟩
theorem All2.of {α : Type} {R : Addr → α → Prop} {as : List Addr} {xs : List α} (h : All2 R as xs) {i : Nat} {x : α} (hx : xs[i]? = some x) : ∃ a, as[i]? = some a ∧ R a x := by
  have hi : i < as.length := by rw [h.1]; exact (List.getElem?_eq_some_iff.mp hx).1
  exact ⟨as[i], List.getElem?_eq_getElem hi, h.2 i _ x (List.getElem?_eq_getElem hi) hx⟩
theorem All2.erase {α : Type} {R : Addr → α → Prop} : ∀ {as : List Addr} {xs : List α} (j : Nat), All2 R as xs → All2 R (as.eraseIdx j) (xs.eraseIdx j) := by
  intro as xs j h
  refine ⟨by rw [List.length_eraseIdx, List.length_eraseIdx, h.1], fun i a x e1 e2 => ?_⟩
  rw [List.getElem?_eraseIdx] at e1 e2
  split at e1
  · rename_i hi
    rw [if_pos hi] at e2
    exact h.2 i a x e1 e2
  · rename_i hi
    rw [if_neg hi] at e2
    exact h.2 _ a x e1 e2
def CallAt (H : Hp) (a : Addr) (c : Call) : Prop := ∃ t as, H a = some (.tup [.str c.part, .int (c.num : Nat), .ref t]) ∧ H t = some (.tup (as.map V.ref)) ∧ All2 (ArgAt H) as c.args
def CallsAt (H : Hp) : List Addr → List Call → Prop := All2 (CallAt H)
def PortAt (H : Hp) (a : Addr) (p : Port) : Prop := H a = some (.tup [.str p.1, .str p.2])
/-- tuples stay -/
def TupS (H H' : Hp) : Prop := ∀ b xs, H b = some (.tup xs) → H' b = some (.tup xs)
theorem TupS.of {H H' : Hp} (s : Same H H') : TupS H H' := fun _ _ e => s _ _ e
theorem ArgAt.keep {H H' : Hp} {a : Addr} {x : Str × Port} (s : TupS H H') (h : ArgAt H a x) : ArgAt H' a x := by
  obtain ⟨q, h1, h2⟩ := h
  exact ⟨q, s _ _ h1, s _ _ h2⟩
theorem CallAt.keep {H H' : Hp} {a : Addr} {c : Call} (s : TupS H H') (h : CallAt H a c) : CallAt H' a c := by
  obtain ⟨t, as, h1, h2, h3⟩ := h
  exact ⟨t, as, s _ _ h1, s _ _ h2, h3.imp fun _ _ => ArgAt.keep s⟩
theorem CallsAt.keep {H H' : Hp} {as : List Addr} {cs : List Call} (s : TupS H H') (h : CallsAt H as cs) : CallsAt H' as cs := All2.imp h fun _ _ => CallAt.keep s
/-- a dict from ports to tuples -/
def PD {β : Type} (R : Addr → β → Prop) (H : Hp) (d : Addr) (kvs : List (Port × β)) : Prop := ∃ as : List Addr, H d = some (.dT ((kvs.zip as).map fun q => (keyOf q.1.1, V.ref q.2))) ∧ All2 (fun a kv => R a kv.2) as kvs
theorem pd_any {β : Type} (t : Port) : ∀ (ws : List (Port × β)) (as : List Addr), as.length = ws.length → (((ws.zip as).map fun q => (keyOf q.1.1, V.ref q.2)).any fun kv => decide (kv.1 = keyOf t)) = decide (t ∈ ws.map (·.1))
  | [], _, _ => rfl
  | _ :: _, [], h => by cases h
  | w :: ws, a :: as, h => by
    rw [List.zip_cons_cons, List.map_cons, List.any_cons, pd_any t ws as (Nat.succ.inj h)]
    by_cases e : w.1 = t
    · simp [e]
    · have : ¬ keyOf w.1 = keyOf t := fun z => e (keyOf_inj z)
      simp [this, Ne.symm e]
theorem pd_val {β : Type} {R : Addr → β → Prop} : ∀ (kvs : List (Port × β)) (as : List Addr) (p : Port) (b : β), All2 (fun a kv => R a kv.2) as kvs → look kvs p = some b → ∃ a, valV ((kvs.zip as).map fun q => (keyOf q.1.1, V.ref q.2)) (keyOf p) = some (V.ref a) ∧ R a b
  | [], _, p, b, _, e => by cases e
  | kv :: kvs, [], p, b, h, _ => by cases h.1
  | kv :: kvs, a :: as, p, b, h, e => by
    unfold look at e
    rw [List.find?_cons] at e
    rw [List.zip_cons_cons, List.map_cons]
    by_cases q : kv.1 = p
    · rw [decide_eq_true q] at e
      cases e
      refine ⟨a, ?_, h.2 0 a kv rfl rfl⟩
      unfold valV
      rw [List.find?_cons, decide_eq_true (congrArg keyOf q)]
      rfl
    · rw [decide_eq_false q] at e
      obtain ⟨a', h1, h2⟩ := pd_val kvs as p b ⟨Nat.succ.inj h.1, fun i a x e1 e2 => h.2 (i + 1) a x e1 e2⟩ e
      refine ⟨a', ?_, h2⟩
      unfold valV at h1 ⊢
      rw [List.find?_cons, decide_eq_false (fun z => q (keyOf_inj z))]
      exact h1
theorem pd_none {β : Type} : ∀ (kvs : List (Port × β)) (as : List Addr) (p : Port), as.length = kvs.length → look kvs p = none → valV ((kvs.zip as).map fun q => (keyOf q.1.1, V.ref q.2)) (keyOf p) = none
  | [], _, p, _, e => rfl
  | kv :: kvs, [], p, h, _ => by cases h
  | kv :: kvs, a :: as, p, h, e => by
    unfold look at e
    rw [List.find?_cons] at e
    rw [List.zip_cons_cons, List.map_cons]
    by_cases q : kv.1 = p
    · rw [decide_eq_true q] at e
      cases e
    · rw [decide_eq_false q] at e
      have ih := pd_none kvs as p (Nat.succ.inj h) e
      unfold valV at ih ⊢
      rw [List.find?_cons, decide_eq_false (fun z => q (keyOf_inj z))]
      exact ih
theorem look_mem {β : Type} {kvs : List (Port × β)} {p : Port} : (look kvs p).isSome = decide (p ∈ kvs.map (·.1)) := by
  unfold look
  rw [Option.isSome_map]
  induction kvs with
  | nil => rfl
  | cons kv r ih =>
    rw [List.find?_cons, List.map_cons]
    by_cases q : kv.1 = p
    · rw [decide_eq_true q, q]
      simp
    · rw [decide_eq_false q]
      rw [ih]
      simp [Ne.symm q]
theorem PD.get {β : Type} {R : Addr → β → Prop} {H : Hp} {d b : Addr} {kvs : List (Port × β)} {p : Port} {v : β} (h : PD R H d kvs) (hb : H b = some (.tup [.str p.1, .str p.2])) (e : look kvs p = some v) : ∃ a, DGet H d (.ref b) (some (.ref a)) ∧ R a v := by
  obtain ⟨as, h1, h2⟩ := h
  obtain ⟨a, e1, r⟩ := pd_val kvs as p v h2 e
  exact ⟨a, .inr ⟨_, keyOf p, b, .inl h1, rfl, hb, e1.symm⟩, r⟩
theorem PD.has {β : Type} {R : Addr → β → Prop} {H : Hp} {d b : Addr} {kvs : List (Port × β)} {p : Port} (h : PD R H d kvs) (hb : H b = some (.tup [.str p.1, .str p.2])) : ∃ o, DGet H d (.ref b) o ∧ o.isSome = (look kvs p).isSome := by
  obtain ⟨as, h1, h2⟩ := h
  refine ⟨_, .inr ⟨_, keyOf p, b, .inl h1, rfl, hb, rfl⟩, ?_⟩
  cases e : look kvs p with
  | none => rw [pd_none kvs as p h2.1 e]; rfl
  | some v =>
    obtain ⟨a, e1, _⟩ := pd_val kvs as p v h2 e
    rw [e1]
    rfl
theorem PD.put {β : Type} {R R' : Addr → β → Prop} {H H0 : Hp} {d b a : Addr} {kvs : List (Port × β)} {p : Port} {v : β} (h : PD R H d kvs) (n : ¬ p ∈ kvs.map (·.1)) (hR : ∀ a v, R a v → R' a v) (ha : R' a v) (hb : H b = some (.tup [.str p.1, .str p.2])) (hl : kvs.length < sizeLine) :
    ∃ H', DPut H d (.ref b) (.ref a) H' ∧ PD R' H' d (kvs ++ [(p, v)]) ∧ ∀ c, c ≠ d → H' c = H c := by
  obtain ⟨as, h1, h2⟩ := h
  have e : putK ((kvs.zip as).map fun q => (keyOf q.1.1, V.ref q.2)) (keyOf p) (V.ref a) = ((kvs ++ [(p, v)]).zip (as ++ [a])).map fun q => (keyOf q.1.1, V.ref q.2) := by
    unfold putK
    rw [pd_any p kvs as h2.1, decide_eq_false n, if_neg Bool.false_ne_true, List.zip_append h2.1.symm, List.map_append]
    rfl
  refine ⟨_, .inr ⟨_, keyOf p, b, h1, rfl, hb, ?_, rfl⟩, ⟨as ++ [a], ?_, (h2.imp fun a kv r => hR a kv.2 r).snoc ha⟩, fun c hc => upd_ne hc⟩
  · rw [List.length_map, List.length_zip, h2.1, Nat.min_self]
    exact hl
  · rw [e, upd_same]
end K28
namespace K28
open PySem L2 Own StX ClX NdefX
/-! ### dicts that only say which keys they have -/
/-- d holds the ports of ks, each with True -/
def SD (H : Hp) (d : Addr) (ks : List Port) : Prop := ∃ kvs, H d = some (.dT kvs) ∧ kvs.length ≤ ks.length ∧ (∀ kv ∈ kvs, kv.2 = .bl true ∧ ∃ p ∈ ks, kv.1 = keyOf p) ∧ ∀ p ∈ ks, ∃ kv ∈ kvs, kv.1 = keyOf p
theorem SD.nil {H : Hp} {d : Addr} (h : H d = some (.dT [])) : SD H d [] := ⟨[], h, Nat.le_refl _, (fun _ h => nomatch h), (fun _ h => nomatch h)⟩
theorem mem_putK {κ : Type} [DecidableEq κ] {kvs : List (κ × V)} {k : κ} {v : V} : (∀ kv ∈ putK kvs k v, (kv ∈ kvs ∧ kv.1 ≠ k) ∨ (kv.1 = k ∧ kv.2 = v)) ∧ (∃ kv ∈ putK kvs k v, kv.1 = k) ∧ (∀ kv ∈ kvs, ∃ kv' ∈ putK kvs k v, kv'.1 = kv.1) := by
  unfold putK
  split
  · rename_i q
    refine ⟨fun kv h => ?_, ?_, fun kv h => ?_⟩
    · obtain ⟨kv0, h0, rfl⟩ := List.mem_map.mp h
      by_cases e : kv0.1 = k
      · rw [if_pos e]
        exact .inr ⟨e, rfl⟩
      · rw [if_neg e]
        exact .inl ⟨h0, e⟩
    · obtain ⟨kv0, h0, e⟩ := List.any_eq_true.mp q
      have e := of_decide_eq_true e
      exact ⟨_, List.mem_map.mpr ⟨kv0, h0, rfl⟩, by rw [if_pos e]; exact e⟩
    · refine ⟨_, List.mem_map.mpr ⟨kv, h, rfl⟩, ?_⟩
      by_cases e : kv.1 = k
      · rw [if_pos e]
      · rw [if_neg e]
  · rename_i q
    refine ⟨fun kv h => ?_, ⟨(k, v), List.mem_append_right _ (List.mem_singleton.mpr rfl), rfl⟩, fun kv h => ⟨kv, List.mem_append_left _ h, rfl⟩⟩
    rcases List.mem_append.mp h with h | h
    · refine .inl ⟨h, fun e => q (List.any_eq_true.mpr ⟨kv, h, decide_eq_true e⟩)⟩
    · rw [List.mem_singleton.mp h]
      exact .inr ⟨rfl, rfl⟩
theorem sd_put {kvs : List (List Key × V)} {ks : List Port} {p : Port} (hl : kvs.length ≤ ks.length) (h1 : ∀ kv ∈ kvs, kv.2 = .bl true ∧ ∃ p ∈ ks, kv.1 = keyOf p) (h2 : ∀ p ∈ ks, ∃ kv ∈ kvs, kv.1 = keyOf p) :
    (putK kvs (keyOf p) (.bl true)).length ≤ (ks ++ [p]).length ∧ (∀ kv ∈ putK kvs (keyOf p) (.bl true), kv.2 = .bl true ∧ ∃ q ∈ ks ++ [p], kv.1 = keyOf q) ∧ ∀ q ∈ ks ++ [p], ∃ kv ∈ putK kvs (keyOf p) (.bl true), kv.1 = keyOf q := by
  obtain ⟨m1, m2, m3⟩ := mem_putK (kvs := kvs) (k := keyOf p) (v := V.bl true)
  refine ⟨?_, fun kv h => ?_, fun q hq => ?_⟩
  · have := length_putK kvs (keyOf p) (V.bl true)
    rw [List.length_append, List.length_singleton]
    omega
  · rcases m1 kv h with ⟨h, _⟩ | ⟨e, v⟩
    · obtain ⟨v, q, hq, e⟩ := h1 kv h
      exact ⟨v, q, List.mem_append_left _ hq, e⟩
    · exact ⟨v, p, List.mem_append_right _ (List.mem_singleton.mpr rfl), e⟩
  · rcases List.mem_append.mp hq with hq | hq
    · obtain ⟨kv, h, e⟩ := h2 q hq
      obtain ⟨kv', h', e'⟩ := m3 kv h
      exact ⟨kv', h', e'.trans e⟩
    · rw [List.mem_singleton.mp hq]
      exact m2
theorem SD.put {H : Hp} {d b : Addr} {ks : List Port} {p : Port} (h : SD H d ks) (hb : H b = some (.tup [.str p.1, .str p.2])) (hl : ks.length < sizeLine) : ∃ H', DPut H d (.ref b) (.bl true) H' ∧ SD H' d (ks ++ [p]) ∧ ∀ c, c ≠ d → H' c = H c := by
  obtain ⟨kvs, e, l, h1, h2⟩ := h
  obtain ⟨a1, a2, a3⟩ := sd_put (p := p) l h1 h2
  exact ⟨_, .inr ⟨kvs, keyOf p, b, e, rfl, hb, Nat.lt_of_le_of_lt l hl, rfl⟩, ⟨_, upd_same, a1, a2, a3⟩, fun c hc => upd_ne hc⟩
theorem SD.has {H : Hp} {d b : Addr} {ks : List Port} {p : Port} (h : SD H d ks) (hb : H b = some (.tup [.str p.1, .str p.2])) : ∃ o, DGet H d (.ref b) o ∧ o.isSome = decide (p ∈ ks) := by
  obtain ⟨kvs, e, l, h1, h2⟩ := h
  refine ⟨_, .inr ⟨kvs, keyOf p, b, .inl e, rfl, hb, rfl⟩, ?_⟩
  rw [← valV_any]
  by_cases q : p ∈ ks
  · rw [decide_eq_true q]
    obtain ⟨kv, hk, e⟩ := h2 p q
    exact List.any_eq_true.mpr ⟨kv, hk, decide_eq_true e⟩
  · rw [decide_eq_false q, Bool.eq_false_iff]
    intro z
    obtain ⟨kv, hk, e⟩ := List.any_eq_true.mp z
    obtain ⟨_, r, hr, e2⟩ := h1 kv hk
    exact q (by rw [← keyOf_inj (e2.symm.trans (of_decide_eq_true e))]; exact hr)
theorem sd_merge : ∀ (more kvs : List (List Key × V)) (ms ks : List Port), kvs.length ≤ ks.length → (∀ kv ∈ kvs, kv.2 = .bl true ∧ ∃ p ∈ ks, kv.1 = keyOf p) → (∀ p ∈ ks, ∃ kv ∈ kvs, kv.1 = keyOf p) →
    (∀ kv ∈ more, kv.2 = .bl true ∧ ∃ p ∈ ms, kv.1 = keyOf p) → (∀ kv ∈ mergeT kvs more, kv.2 = .bl true ∧ ∃ p ∈ ks ++ ms, kv.1 = keyOf p) ∧ (∀ p ∈ ks, ∃ kv ∈ mergeT kvs more, kv.1 = keyOf p) ∧ (∀ kv ∈ more, ∃ kv' ∈ mergeT kvs more, kv'.1 = kv.1)
  | [], kvs, ms, ks, l, h1, h2, h3 => ⟨fun kv h => by
      obtain ⟨v, p, hp, e⟩ := h1 kv h
      exact ⟨v, p, List.mem_append_left _ hp, e⟩, h2, (fun _ h => nomatch h)⟩
  | m :: more, kvs, ms, ks, l, h1, h2, h3 => by
    obtain ⟨mv, mp, hmp, me⟩ := h3 m List.mem_cons_self
    have e : mergeT kvs (m :: more) = mergeT (putK kvs (keyOf mp) (.bl true)) more := by
      show mergeT (putK kvs m.1 m.2) more = _
      rw [me, mv]
    obtain ⟨a1, a2, a3⟩ := sd_put (p := mp) l h1 h2
    obtain ⟨b1, b2, b3⟩ := sd_merge more _ ms (ks ++ [mp]) a1 a2 a3 fun kv h => h3 kv (List.mem_cons_of_mem _ h)
    rw [e]
    refine ⟨fun kv h => ?_, fun p hp => b2 p (List.mem_append_left _ hp), fun kv h => ?_⟩
    · obtain ⟨v, q, hq, e⟩ := b1 kv h
      refine ⟨v, q, ?_, e⟩
      rcases List.mem_append.mp hq with hq | hq
      · rcases List.mem_append.mp hq with hq | hq
        · exact List.mem_append_left _ hq
        · rw [List.mem_singleton.mp hq]
          exact List.mem_append_right _ hmp
      · exact List.mem_append_right _ hq
    · rcases List.mem_cons.mp h with rfl | h
      · obtain ⟨kv', h', e'⟩ := b2 mp (List.mem_append_right _ (List.mem_singleton.mpr rfl))
        exact ⟨kv', h', e'.trans me.symm⟩
      · exact b3 kv h
/-- d.update(e) -/
theorem SD.merge {H : Hp} {d e : Addr} {ks ms : List Port} (h : SD H d ks) (k : SD H e ms) (n : d ≠ e) (hk : ks ≠ []) (hl : ks.length + ms.length ≤ sizeLine) {Q : VK} (q : ∀ H', SD H' d (ks ++ ms) → (∀ c, c ≠ d → H' c = H c) → Q .non H') : rUpdT (.ref d) [.ref e] H Q := by
  obtain ⟨kvs, e1, l1, h1, h2⟩ := h
  obtain ⟨more, e2, l2, k1, k2⟩ := k
  obtain ⟨m1, m2, m3⟩ := sd_merge more kvs ms ks l1 h1 h2 k1
  have hne : kvs ≠ [] := fun z => by
    obtain ⟨p, hp⟩ := List.exists_mem_of_ne_nil ks hk
    obtain ⟨kv, hkv, _⟩ := h2 p hp
    rw [z] at hkv
    cases hkv
  refine ⟨d, e, kvs, more, rfl, rfl, n, e1, e2, hne, by omega, q _ ⟨_, upd_same, ?_, m1, fun p hp => ?_⟩ fun c hc => upd_ne hc⟩
  · have := mergeT_length more kvs
    rw [List.length_append]
    omega
  · rcases List.mem_append.mp hp with hp | hp
    · exact m2 p hp
    · obtain ⟨kv, hkv, e3⟩ := k2 p hp
      obtain ⟨kv', h', e'⟩ := m3 kv hkv
      exact ⟨kv', h', e'.trans e3⟩
/-- d holds the texts of ks -/
def SK (H : Hp) (d : Addr) (ks : List Str) : Prop := ∃ kvs : List (Key × V), H d = some (.dK kvs) ∧ kvs.length ≤ ks.length ∧ (∀ kv ∈ kvs, ∃ p ∈ ks, kv.1 = Sum.inr p) ∧ ∀ p ∈ ks, ∃ kv ∈ kvs, kv.1 = Sum.inr p
theorem SK.nil {H : Hp} {d : Addr} (h : H d = some (.dK [])) : SK H d [] := ⟨[], h, Nat.le_refl _, (fun _ h => nomatch h), (fun _ h => nomatch h)⟩
theorem SK.put {H : Hp} {d : Addr} {ks : List Str} {p : Str} {v : V} (h : SK H d ks) (hl : ks.length < sizeLine) : ∃ H', DPut H d (.str p) v H' ∧ SK H' d (ks ++ [p]) ∧ ∀ c, c ≠ d → H' c = H c := by
  obtain ⟨kvs, e, l, h1, h2⟩ := h
  obtain ⟨m1, m2, m3⟩ := mem_putK (kvs := kvs) (k := (Sum.inr p : Key)) (v := v)
  refine ⟨_, .inl ⟨kvs, Sum.inr p, e, rfl, Nat.lt_of_le_of_lt l hl, rfl⟩, ⟨_, upd_same, ?_, fun kv h => ?_, fun q hq => ?_⟩, fun c hc => upd_ne hc⟩
  · have := length_putK kvs (Sum.inr p) v
    rw [List.length_append, List.length_singleton]
    omega
  · rcases m1 kv h with ⟨h, _⟩ | ⟨e, _⟩
    · obtain ⟨q, hq, e⟩ := h1 kv h
      exact ⟨q, List.mem_append_left _ hq, e⟩
    · exact ⟨p, List.mem_append_right _ (List.mem_singleton.mpr rfl), e⟩
  · rcases List.mem_append.mp hq with hq | hq
    · obtain ⟨kv, h, e⟩ := h2 q hq
      obtain ⟨kv', h', e'⟩ := m3 kv h
      exact ⟨kv', h', e'.trans e⟩
    · rw [List.mem_singleton.mp hq]
      exact m2
theorem SK.has {H : Hp} {d : Addr} {ks : List Str} {p : Str} (h : SK H d ks) : ∃ o, DGet H d (.str p) o ∧ o.isSome = decide (p ∈ ks) := by
  obtain ⟨kvs, e, l, h1, h2⟩ := h
  refine ⟨_, .inl ⟨kvs, Sum.inr p, .inl e, rfl, rfl⟩, ?_⟩
  rw [← valV_any]
  by_cases q : p ∈ ks
  · rw [decide_eq_true q]
    obtain ⟨kv, hk, e⟩ := h2 p q
    exact List.any_eq_true.mpr ⟨kv, hk, decide_eq_true e⟩
  · rw [decide_eq_false q, Bool.eq_false_iff]
    intro z
    obtain ⟨kv, hk, e⟩ := List.any_eq_true.mp z
    obtain ⟨r, hr, e2⟩ := h1 kv hk
    exact q (by rw [← Sum.inr.inj (e2.symm.trans (of_decide_eq_true e))]; exact hr)
end K28
namespace K28
open PySem L2 Own StX ClX NdefX
abbrev sLC : Stmt := top 45
abbrev sCO : Stmt := top 46
theorem pairs_port {H : Hp} {as : List Addr} {ps : List (Str × Str)} (h : PairsAt H as ps) : All2 (fun a (p : Str × Str) => PortAt H a p) as ps := ⟨h.1, fun i a p e1 e2 => h.2 i a p e1 e2⟩
/-- the interfaces of the parts -/
def FacesAt (K : PySem.W.Frag) (H : Hp) (d : Addr) (ps : List (Str × Str)) (face : Str → Fc) : Prop := ∃ fs : List Addr, H d = some (.dK (nmK ps fs)) ∧ All2 (fun a (p : Str × Str) => FaceAt K H a (face p.1)) fs ps
theorem FacesAt.same {K : PySem.W.Frag} {H H' : Hp} {d : Addr} {ps : List (Str × Str)} {face : Str → Fc} (s : Same H H') (h : FacesAt K H d ps face) : FacesAt K H' d ps face := by
  obtain ⟨fs, h1, h2⟩ := h
  exact ⟨fs, s _ _ h1, h2.imp fun _ _ => FaceAt.same s⟩
theorem FacesAt.get {K : PySem.W.Frag} {H : Hp} {d : Addr} {ps : List (Str × Str)} {face : Str → Fc} (h : FacesAt K H d ps face) (nd : (ps.map (·.1)).Nodup) {p : Str × Str} (hp : p ∈ ps) : ∃ a, DGet H d (.str p.1) (some (.ref a)) ∧ FaceAt K H a (face p.1) := by
  obtain ⟨fs, h1, h2⟩ := h
  obtain ⟨i, hi, e⟩ := List.getElem_of_mem hp
  have e : ps[i]? = some p := by rw [List.getElem?_eq_getElem hi, e]
  obtain ⟨a, ha, f⟩ := h2.of e
  exact ⟨a, .inl ⟨_, Sum.inr p.1, .inl h1, rfl, (nm_val ps fs h2.1 nd i p a e ha).symm⟩, f⟩
theorem PD.same {H H' : Hp} {d : Addr} {ws : List (Port × Port)} (s : Same H H') (h : PD (PortAt H) H d ws) : PD (PortAt H') H' d ws := by
  obtain ⟨as, h1, h2⟩ := h
  exact ⟨as, s _ _ h1, h2.imp fun _ _ e => s _ _ e⟩
theorem rd_same {H H' : Hp} {a : Addr} {o : HO} (s : Same H H') (h : Rd H a o) : Rd H' a o := by
  rcases h with h | ⟨ob, h⟩
  · exact .inl (s _ _ h)
  · exact .inr ⟨ob, s _ _ h⟩
theorem dget_same {H H' : Hp} {a : Addr} {y : V} {r : Option V} (s : Same H H') (h : DGet H a y r) : DGet H' a y r := by
  rcases h with ⟨kvs, k, e, h2, h3⟩ | ⟨kvs, k, b, e, h2, hb, h3⟩
  · exact .inl ⟨kvs, k, rd_same s e, h2, h3⟩
  · exact .inr ⟨kvs, k, b, rd_same s e, h2, s _ _ hb, h3⟩
def callOf (ws : List (Port × Port)) (part : Str) (j : Nat) (s : Fnc) : Call := ⟨part, j, s.2.map fun need => (need, (look ws (part, need)).getD (Str.empty, Str.empty))⟩
theorem callsOf_get {face : Str → Fc} {ws : List (Port × Port)} {part : Str} {j : Nat} {s : Fnc} (h : (face part).prof[j]? = some s) : (callsOf face ws part)[j]? = some (callOf ws part j s) := by
  unfold callsOf
  rw [List.getElem?_map, List.getElem?_zipIdx, h]
  simp [callOf]
theorem callsOf_len {face : Str → Fc} {ws : List (Port × Port)} {part : Str} : (callsOf face ws part).length = (face part).prof.length := by
  unfold callsOf
  rw [List.length_map, List.length_zipIdx]
theorem listCalls_snoc {ps : List (Str × Str)} {p : Str × Str} {face : Str → Fc} {ws : List (Port × Port)} : listCalls (ps ++ [p]) face ws = listCalls ps face ws ++ callsOf face ws p.1 := by
  unfold listCalls
  rw [List.flatMap_append]
  simp
/-- sizes of what is compiled -/
structure Sz (ps : List (Str × Str)) (face : Str → Fc) : Prop where
  pl : ps.length ≤ 16
  fl : ∀ p ∈ ps, (face p.1).prof.length ≤ 8
  nl : ∀ p ∈ ps, ∀ s ∈ (face p.1).prof, s.1.length ≤ 8 ∧ s.2.length ≤ 8
  nd : (ps.map (·.1)).Nodup
theorem flat_le {α β : Type} {l : List α} {f : α → List β} {c : Nat} (h : ∀ a ∈ l, (f a).length ≤ c) : (l.flatMap f).length ≤ l.length * c := by
  induction l with
  | nil => exact Nat.zero_le _
  | cons a r ih =>
    have h1 := h a List.mem_cons_self
    have h2 := ih fun b hb => h b (List.mem_cons_of_mem _ hb)
    rw [List.flatMap_cons, List.length_append, List.length_cons, Nat.succ_mul]
    omega
theorem calls_len {ps : List (Str × Str)} {face : Str → Fc} {ws : List (Port × Port)} (z : Sz ps face) (i : Nat) : (listCalls (ps.take i) face ws).length ≤ 128 := by
  have h := flat_le (l := ps.take i) (f := fun p => callsOf face ws p.1) (c := 8) fun p hp => by
    rw [callsOf_len]
    exact z.fl p (List.mem_of_mem_take hp)
  have h2 := z.pl
  have h3 : (ps.take i).length ≤ 16 := by rw [List.length_take]; omega
  unfold listCalls
  omega
def spLC (K : PySem.W.Frag) (C : Addr) : Sp := fun vs H Q _ => ∃ (y df ds : Addr) (n : Str) (ins outs : List Str) (ps : List (Str × Str)) (ws : List (Port × Port)) (face : Str → Fc), vs = [.ref y, .ref df, .ref ds] ∧ DgAt K C H y n ins outs ps ws ∧ FacesAt K H df ps face ∧ PD (PortAt H) H ds ws ∧ Sz ps face ∧
  (∀ p ∈ ps, ∀ s ∈ (face p.1).prof, ∀ need ∈ s.2, (look ws (p.1, need)).isSome = true) ∧ ∀ L as H', Same H H' → H' L = some (.lst (as.map V.ref)) → CallsAt H' as (listCalls ps face ws) → Q (.ref L) H'
section
variable {P : Program} {w : World} {K : PySem.W.Frag} {mg : Str → Option Value} {base : Heap} {C : Addr}
abbrev nLC : List Str := ["diagram", "faces", "sources", "calls", "part", "_", "number", "needs", "arguments", "need"]
theorem scLC : FnScope nLC ["diagram", "faces", "sources"] (defScope sLC) := ⟨rfl, rfl, rfl, by decide +kernel, rfl, by decide +kernel, by decide +kernel⟩
theorem ok_lc {f : Addr} {fd : FuncData} (F : Fun K "_list_calls" "_list_calls" sLC f fd) (T : DgC K mg C) (ze : mg "enumerate" = none) : FnOk P w K mg base CX0 1 f fd ["diagram", "faces", "sources"] (spLC K C) := by
  have zt := T.zt
  refine F.ok scLC (fun vs H Q E h => ?_) (fun cdv A outer s H vs Q E hr h => ?_)
  · obtain ⟨y, df, ds, n, ins, outs, ps, ws, face, rfl, _⟩ := h
    rfl
  obtain ⟨y, df, ds, n, ins, outs, ps, ws, face, rfl, hy, hf, hs, z, hok, kk⟩ := h
  have hu1 := Nat.lt_of_le_of_lt (Nat.add_le_add_left (show 1 ≤ 64 by decide) _) hr.units
  refine ⟨_, (pss_cons (ps_set (i := 3) scLC.nd rfl (.inl rfl) (pe_lst pa_nil))
    (pss_cons (ps_for PassesOwn.never rfl (pi_tup (pe_fld (pv 0) rfl)) (pg_tup (by rfl) (pgs_cons (pg_name (i := 4) scLC.nd rfl (.inr rfl)) (pgs_cons (pg_name (i := 5) scLC.nd rfl (.inl rfl)) pgs_nil)))
     (pss_one (ps_for PassesOwn.never rfl (pi_enumT (by rfl) ze (pa_cons (pe_ix (show IxR _ (rIxT K) from ix_tup) (pe_dget hu1 (pv 1) (pv 4) (fun _ _ => rfl)) pe_int (fun _ _ => rfl)) pa_nil)) (pg_tup (by rfl) (pgs_cons (pg_name (i := 6) scLC.nd rfl (.inl rfl)) (pgs_cons (pg_tup (by rfl) (pgs_cons (pg_name (i := 5) scLC.nd rfl (.inl rfl)) (pgs_cons (pg_name (i := 7) scLC.nd rfl (.inl rfl)) pgs_nil))) pgs_nil)))
     (pss_cons (ps_setLc (i := 8) (own := [("need", 9)]) (g := (gName 9)) rfl scLC.nd rfl rfl (sw_true rfl rfl rfl (by decide +kernel)) (pi_tup (pv 7)) (blkOk_by (own := [("need", 9)]) (N := nLC) (sc := defScope sLC) (by decide +kernel)) (fun _ _ _ _ _ => by exact (pg_name (i := 9) scLC.nd rfl (Or.inl rfl))) (fun _ _ _ _ _ => pts_nil)
      (fun _ _ _ _ _ => by exact (pe_tup (pa_cons (pv 9) (pa_cons (pe_dget hu1 (pv 2) (pe_tup (pa_cons (pv 4) (pa_cons (pv 9) pa_nil))) (fun _ _ => rfl)) pa_nil)))))
    (pss_one (ps_expr (pe_bm PySem.F.plainAttrs_list PySem.F.slot_list_append PySem.F.type_list_append mt_append (pv 3) (pa_cons (pe_tup (pa_cons (pv 4) (pa_cons (pv 6) (pa_cons (pe_callTy call_tuple_of (by rfl) zt (by decide +kernel) (pa_cons (pv 8) pa_nil)) pa_nil)))) pa_nil))))))))
    (pss_one (ps_ret (pv 3))))), ?_⟩
  obtain ⟨dx, i, o, pa, wa, pas, bs, hyo, hi, ho, hpa, hps, hwa, hws⟩ := hy
  have lt : ∀ {n : Nat}, n ≤ 100000 → n < sizeLine := fun h => by rw [sizeLine_eq]; omega
  refine ⟨small1 (by show 0 ≤ 8; decide), fun L hL => ?_⟩
  have s0 := upd_new (o := HO.lst []) hL
  refine ⟨_, rfl, y, C, dx, _, _, rfl, s0 _ _ hyo, T.cl, T.nP, rfl, pa, rfl, ⟨_, .of (s0 _ _ hpa)⟩, ?_⟩
  refine for_tup (K := K) (a := pa) (xs := pas.map V.ref) (fun i σ H' => ∃ u4 u5 u6 u7 u8 as, σ = [some (.ref y), some (.ref df), some (.ref ds), some (.ref L), u4, u5, u6, u7, u8, none] ∧ Same H H' ∧ H' L = some (.lst (as.map V.ref)) ∧ CallsAt H' as (listCalls (ps.take i) face ws))
    ⟨_, _, _, _, _, [], rfl, s0, upd_same, .nil⟩ (fun i σ H' _ q => by
      obtain ⟨_, _, _, _, _, _, _, s, _⟩ := q
      exact .of (s _ _ hpa)) ?turn ?done
  case done =>
    rintro σ H' ⟨u4, u5, u6, u7, u8, as, rfl, s, hLs, hc⟩
    rw [List.take_of_length_le (by rw [List.length_map, hps.1]; exact Nat.le_refl _)] at hc
    exact ⟨_, rfl, kk L as H' s hLs hc⟩
  rintro i x σ H1 hx ⟨u4, u5, u6, u7, u8, as, rfl, s1, hL1, hc1⟩
  rw [List.getElem?_map] at hx
  obtain ⟨a, ha, rfl⟩ := Option.map_eq_some_iff.mp hx
  obtain ⟨p, hp, pa1⟩ := (pairs_port hps).at ha
  have hpm := List.mem_of_getElem? hp
  refine ⟨a, _, rfl, .of (s1 _ _ pa1), rfl, _, _, rfl, _, _, rfl, rfl, ?_⟩
  obtain ⟨fa, hget, fi, fo, fp, fas, hfa, hfi, hfo, hfp, hfs⟩ := hf.get z.nd hpm
  refine ⟨_, rfl, _, rfl, df, .ref fa, rfl, dget_same s1 hget, fa, _, 2, _, rfl, rfl, sqT_same s1 hfa, at_of (j := 2) rfl rfl, fp, _, rfl, sqT_same s1 hfp, ?_⟩
  refine for_it (walk_enumT (xs := fas.map V.ref)) (fun j σ H' => ∃ u5 u6 u7 u8 as, σ = [some (.ref y), some (.ref df), some (.ref ds), some (.ref L), some (.str p.1), u5, u6, u7, u8, none] ∧ Same H H' ∧ H' L = some (.lst (as.map V.ref)) ∧ CallsAt H' as (listCalls (ps.take i) face ws ++ (callsOf face ws p.1).take j))
    ⟨_, _, _, _, as, rfl, s1, hL1, by rw [List.take_zero, List.append_nil]; exact hc1⟩ (fun j σ H' _ q => by
      obtain ⟨_, _, _, _, _, _, s, _⟩ := q
      exact sqT_same s hfp) ?turn1 ?done1
  case done1 =>
    rintro σ H' ⟨u5, u6, u7, u8, as', rfl, s, hLs, hc⟩
    have e3 : (callsOf face ws p.1).take (fas.map V.ref).length = callsOf face ws p.1 := List.take_of_length_le (by rw [List.length_map, hfs.1, callsOf_len]; exact Nat.le_refl _)
    rw [e3, ← listCalls_snoc, ← tk1 hp] at hc
    exact ⟨_, _, _, _, _, as', rfl, s, hLs, hc⟩
  rintro j x σ H2 H3 hj ⟨u5, u6, u7, u8, as', rfl, s2, hL2, hc2⟩ ⟨t, x1, x2, rfl, ht, rfl, e1, e2⟩
  cases e1
  have e2 : (fas.map V.ref)[j]? = some x2 := e2
  rw [List.getElem?_map] at e2
  obtain ⟨fn, hfn, rfl⟩ := Option.map_eq_some_iff.mp e2
  obtain ⟨sf, hsf, nx, ny, hn1, hn2, hn3⟩ := hfs.at hfn
  have s3 := upd_new (o := HO.tup [V.int (j : Nat), .ref fn]) ht
  have s23 := s2.trans s3
  have g3 : upd H2 t (HO.tup [V.int (j : Nat), .ref fn]) t = some (.tup [V.int (j : Nat), .ref fn]) := upd_same
  have hL3 := s3 _ _ hL2
  have hc3 := CallsAt.keep (TupS.of s3) hc2
  generalize upd H2 t (HO.tup [V.int (j : Nat), .ref fn]) = H3 at s3 s23 g3 hL3 hc3 ⊢
  have hmem := List.mem_of_getElem? hsf
  refine ⟨t, _, rfl, .of g3, rfl, _, _, rfl, _, _, rfl, ⟨fn, _, rfl, sqT_same s23 hn1, rfl, _, _, rfl, _, _, rfl, rfl, rfl, ?_⟩⟩
  -- arguments
  refine ⟨_, rfl, ny, rfl, ⟨_, sqT_same s23 hn3⟩, fun D hD => ?_⟩
  refine out_it (walk_tup (xs := sf.2.map V.str)) (fun m H' => Same H3 H' ∧ ∃ bs, H' D = some (.lst (bs.map V.ref)) ∧ All2 (ArgAt H') bs ((callOf ws p.1 j sf).args.take m)) ⟨upd_new hD, [], upd_same, .nil⟩ (fun m H' _ q => sqT_same (s23.trans q.1) hn3) ?_ ?_
  · rintro m x Hx H4 hm ⟨s4, bs4, hD4, hb4⟩ ⟨rfl, hx⟩
    rw [List.getElem?_map] at hx
    obtain ⟨need, hneed, rfl⟩ := Option.map_eq_some_iff.mp hx
    obtain ⟨v, hv⟩ := Option.isSome_iff_exists.mp (hok p hpm sf hmem need (List.mem_of_getElem? hneed))
    have harg : (callOf ws p.1 j sf).args[m]? = some (need, v) := by
      show (sf.2.map _)[m]? = _
      rw [List.getElem?_map, hneed]
      show some (need, (look ws (p.1, need)).getD _) = _
      rw [hv]
      rfl
    refine ⟨rfl, _, rfl, _, rfl, _, rfl, _, rfl, small1 (by show 2 ≤ 8; decide), fun k hk => ?_⟩
    have s5 := upd_new (o := HO.tup [V.str p.1, V.str need]) hk
    have g5 : upd H4 k (HO.tup [V.str p.1, V.str need]) k = some (.tup [V.str p.1, V.str need]) := upd_same
    generalize upd H4 k (HO.tup [V.str p.1, V.str need]) = H5 at s5 g5 ⊢
    have s45 := s4.trans s5
    obtain ⟨sa, hg, hsa⟩ := (PD.same (s23.trans s45) hs).get (p := (p.1, need)) g5 hv
    refine ⟨ds, .ref sa, rfl, hg, small1 (by show 2 ≤ 8; decide), fun q hq => ?_⟩
    have s6 := upd_new (o := HO.tup [V.str need, V.ref sa]) hq
    have g6 : upd H5 q (HO.tup [V.str need, V.ref sa]) q = some (.tup [V.str need, V.ref sa]) := upd_same
    generalize upd H5 q (HO.tup [V.str need, V.ref sa]) = H6 at s6 g6 ⊢
    have s56 := s5.trans s6
    refine ⟨_, s56 _ _ hD4, ?_, same_put (s45.trans s6) hD, bs4 ++ [q], ?_, ?_⟩
    · have := hb4.1
      rw [List.length_map, this, List.length_take]
      refine lt (Nat.le_trans (Nat.min_le_right _ _) ?_)
      show (sf.2.map _).length ≤ _
      rw [List.length_map]
      have := (z.nl p hpm sf hmem).2
      omega
    · rw [upd_same, List.map_append]
      rfl
    · rw [tk1 harg]
      have kp : TupS H6 (upd H6 D (HO.lst (List.map V.ref bs4 ++ [V.ref q]))) := fun b xs e => by
        rw [upd_ne (fun z => by rw [z, s56 _ _ hD4] at e; cases e)]
        exact e
      have kp4 : TupS H4 (upd H6 D (HO.lst (List.map V.ref bs4 ++ [V.ref q]))) := fun b xs e => kp _ _ (s56 _ _ e)
      exact (hb4.imp fun _ _ => ArgAt.keep kp4).snoc ⟨sa, kp _ _ g6, kp _ _ (s6 _ _ hsa)⟩
  rintro H4 ⟨s4, bs4, hD4, hb4⟩
  have hal : (callOf ws p.1 j sf).args.length = sf.2.length := by
    show (sf.2.map _).length = _
    rw [List.length_map]
  rw [List.take_of_length_le (by rw [List.length_map, hal]; exact Nat.le_refl _)] at hb4
  have hL4 := s4 _ _ hL3
  have hc4 := CallsAt.keep (TupS.of s4) hc3
  have s24 := s23.trans s4
  refine ⟨_, rfl, .inl ⟨rfl, _, .of hL4⟩, _, rfl, _, rfl, _, rfl, D, _, rfl, .inl ⟨.of hD4, fun t1 ht1 => ⟨small1 (by show 3 ≤ 8; decide), fun c hc => ?_⟩⟩⟩
  have s5 := upd_new (o := HO.tup (bs4.map V.ref)) ht1
  have g5 : upd H4 t1 (HO.tup (bs4.map V.ref)) t1 = some (.tup (bs4.map V.ref)) := upd_same
  generalize upd H4 t1 (HO.tup (bs4.map V.ref)) = H5 at s5 g5 hc ⊢
  have s6 := upd_new (o := HO.tup [V.str p.1, V.int (j : Nat), V.ref t1]) hc
  have g6 : upd H5 c (HO.tup [V.str p.1, V.int (j : Nat), V.ref t1]) c = some (.tup [V.str p.1, V.int (j : Nat), V.ref t1]) := upd_same
  have hL5 := s5 _ _ hL4
  obtain ⟨H6, hH6⟩ : ∃ H6, H6 = upd H5 c (HO.tup [V.str p.1, V.int (j : Nat), V.ref t1]) := ⟨_, rfl⟩
  rw [← hH6] at s6 g6
  have hcl := calls_len (ws := ws) z (i + 1)
  have hcall : (callsOf face ws p.1)[j]? = some (callOf ws p.1 j sf) := callsOf_get hsf
  have hL6 := s6 _ _ hL5
  subst hH6
  refine ⟨L, _, _, rfl, rfl, hL6, ?_, _, _, _, _, as' ++ [c], rfl, same_put ((s24.trans s5).trans s6) hL, ?_, ?_⟩
  · rw [List.length_map, hc4.1, List.length_append, List.length_take, callsOf_len]
    have h1 := calls_len (ws := ws) z i
    have h2 := z.fl p hpm
    exact lt (by omega)
  · rw [upd_same, List.map_append]
    rfl
  · rw [tk1 hcall, ← List.append_assoc]
    have kp : TupS (upd H5 c (HO.tup [V.str p.1, V.int (j : Nat), V.ref t1])) (upd (upd H5 c (HO.tup [V.str p.1, V.int (j : Nat), V.ref t1])) L (HO.lst (List.map V.ref as' ++ [V.ref c]))) := fun b xs e => by
      rw [upd_ne (fun z => by rw [z, hL6] at e; cases e)]
      exact e
    have kp4 : TupS H4 (upd (upd H5 c (HO.tup [V.str p.1, V.int (j : Nat), V.ref t1])) L (HO.lst (List.map V.ref as' ++ [V.ref c]))) := fun b xs e => kp _ _ (s6 _ _ (s5 _ _ e))
    exact (CallsAt.keep kp4 hc4).snoc ⟨t1, bs4, kp _ _ g6, kp _ _ (s6 _ _ g5), hb4.imp fun _ _ => ArgAt.keep kp4⟩
end
end K28
namespace K28
open PySem L2 Own StX ClX NdefX
abbrev sFR : Stmt := top 48
abbrev sIR : Stmt := top 49
def NeedsAt (H : Hp) (a : Addr) (l : List Str) : Prop := H a = some (.tup (l.map V.str))
def ReachAt (H : Hp) (d : Addr) (r : Reach) : Prop := PD (NeedsAt H) H d r
theorem ReachAt.same {H H' : Hp} {d : Addr} {r : Reach} (s : Same H H') (h : ReachAt H d r) : ReachAt H' d r := by
  obtain ⟨as, h1, h2⟩ := h
  exact ⟨as, s _ _ h1, h2.imp fun _ _ e => s _ _ e⟩
def spCO (K : PySem.W.Frag) : Sp := fun vs H Q _ => ∃ (a df : Addr) (c : Call) (ps : List (Str × Str)) (face : Str → Fc) (p : Str × Str) (s : Fnc), vs = [.ref a, .ref df] ∧ CallAt H a c ∧ FacesAt K H df ps face ∧ Sz ps face ∧ p ∈ ps ∧ p.1 = c.part ∧ (face c.part).prof[c.num]? = some s ∧
  ∀ L as H', Same H H' → H' L = some (.lst (as.map V.ref)) → All2 (PortAt H') as (callOuts face c) → Q (.ref L) H'
def spFR (K : PySem.W.Frag) : Sp := fun vs H Q _ => ∃ (l d : Addr) (as : List Addr) (cs : List Call) (r : Reach), vs = [.ref l, .ref d] ∧ H l = some (.lst (as.map V.ref)) ∧ CallsAt H as cs ∧ ReachAt H d r ∧ (∀ c ∈ cs, c.args.length ≤ 8) ∧
  (cs.findIdx? (ready r) = none → ∀ H', Same H H' → Q .non H') ∧ ∀ j a, cs.findIdx? (ready r) = some j → as[j]? = some a → ∀ H', Same H H' → Q (.ref a) H'
def spIR (K : PySem.W.Frag) : Sp := fun vs H Q _ => ∃ (a i d : Addr) (c : Call) (ins : List Str) (r : Reach), vs = [.ref a, .ref i, .ref d] ∧ CallAt H a c ∧ SqT K H i (ins.map V.str) ∧ ReachAt H d r ∧ c.args.length ≤ 8 ∧ ins.length ≤ 8 ∧ (∀ x ∈ c.args, ∃ l, look r x.2 = some l ∧ l.length ≤ 8) ∧
  ∀ t H', Same H H' → H' t = some (.tup ((reaching ins r c).map V.str)) → Q (.ref t) H'
section
variable {P : Program} {w : World} {K : PySem.W.Frag} {mg : Str → Option Value} {base : Heap} {C : Addr}
abbrev nCO : List Str := ["call", "faces", "part", "number", "_", "name"]
theorem scCO : FnScope nCO ["call", "faces"] (defScope sCO) := ⟨rfl, rfl, rfl, by decide +kernel, rfl, by decide +kernel, by decide +kernel⟩
theorem ok_co {f : Addr} {fd : FuncData} (F : Fun K "_call_outputs" "_call_outputs" sCO f fd) : FnOk P w K mg base CX0 1 f fd ["call", "faces"] (spCO K) := by
  refine F.ok scCO (fun vs H Q E h => ?_) (fun cdv A outer s H vs Q E hr h => ?_)
  · obtain ⟨a, df, c, ps, face, p, s, rfl, _⟩ := h
    rfl
  obtain ⟨a, df, c, ps, face, p, s, rfl, hc, hf, z, hp, hpc, hs, kk⟩ := h
  have hu1 := Nat.lt_of_le_of_lt (Nat.add_le_add_left (show 1 ≤ 64 by decide) _) hr.units
  refine ⟨_, (pss_cons (ps_asg (pv 0) (pg_tup (by rfl) (pgs_cons (pg_name (i := 2) scCO.nd rfl (.inr rfl)) (pgs_cons (pg_name (i := 3) scCO.nd rfl (.inl rfl)) (pgs_cons (pg_name (i := 4) scCO.nd rfl (.inl rfl)) pgs_nil)))))
    (pss_one (ps_ret (pe_lc (own := [("name", 5)]) (g := (gName 5)) rfl scCO.nd (pi_tup (pe_ix (show IxR _ (rIxT K) from ix_tup) (pe_ix (show IxR _ (rIxT K) from ix_tup) (pe_ix (show IxR _ (rIxT K) from ix_tup) (pe_dget hu1 (pv 1) (pv 2) (fun _ _ => rfl)) pe_int (fun _ _ => rfl)) (pv 3) (fun _ _ => rfl)) pe_int (fun _ _ => rfl))) (blkOk_by (own := [("name", 5)]) (N := nCO) (sc := defScope sCO) (by decide +kernel)) (fun _ _ _ _ _ => by exact (pg_name (i := 5) scCO.nd rfl (Or.inl rfl))) (fun _ _ _ _ _ => pts_nil)
      (fun _ _ _ _ _ => by exact (pe_tup (pa_cons (pv 2) (pa_cons (pv 5) pa_nil)))))))), ?_⟩
  have lt : ∀ {n : Nat}, n ≤ 100000 → n < sizeLine := fun h => by rw [sizeLine_eq]; omega
  obtain ⟨t, cas, hc1, hc2, hc3⟩ := hc
  refine ⟨_, rfl, a, _, rfl, .of hc1, rfl, _, _, rfl, _, _, rfl, _, _, rfl, rfl, ?_⟩
  obtain ⟨fa, hget, fi, fo, fp, fas, hfa, hfi, hfo, hfp, hfs⟩ := hf.get z.nd hp
  rw [hpc] at hget hfi hfo hfs
  obtain ⟨fn, hfn, nx, ny, hn1, hn2, hn3⟩ := All2.of (R := fun a s => FncAt K H a s) hfs hs
  have hlen := (z.nl p hp s (by rw [hpc]; exact List.mem_of_getElem? hs)).1
  refine ⟨_, rfl, _, rfl, df, .ref fa, rfl, hget, fa, _, 2, _, rfl, rfl, hfa, at_of (j := 2) rfl rfl, _, rfl, fp, _, (c.num : Int), .ref fn, rfl, rfl, hfp, at_of (j := c.num) rfl (by rw [List.getElem?_map, hfn]; rfl), fn, _, 0, _, rfl, rfl, hn1, at_of (j := 0) rfl rfl, nx, rfl, ⟨_, hn2⟩, fun D hD => ?_⟩
  have ho : callOuts face c = s.1.map fun n => (c.part, n) := by
    unfold callOuts
    rw [hs]
    rfl
  refine out_it (walk_tup (xs := s.1.map V.str)) (fun m H' => Same H H' ∧ ∃ bs, H' D = some (.lst (bs.map V.ref)) ∧ All2 (PortAt H') bs ((callOuts face c).take m)) ⟨upd_new hD, [], upd_same, .nil⟩ (fun m H' _ q => sqT_same q.1 hn2) ?_ ?_
  · rintro m x Hx H4 hm ⟨s4, bs4, hD4, hb4⟩ ⟨rfl, hx⟩
    rw [List.getElem?_map] at hx
    obtain ⟨nm, hnm, rfl⟩ := Option.map_eq_some_iff.mp hx
    have hel : (callOuts face c)[m]? = some (c.part, nm) := by rw [ho, List.getElem?_map, hnm]; rfl
    refine ⟨rfl, _, rfl, _, rfl, small1 (by show 2 ≤ 8; decide), fun q hq => ⟨_, (upd_ne (ne_of_none hD4 hq)).trans hD4, ?_, same_put (s4.trans (upd_new hq)) hD, bs4 ++ [q], ?_, ?_⟩⟩
    · rw [List.length_map, hb4.1, List.length_take, ho, List.length_map]
      exact lt (by omega)
    · rw [upd_same, List.map_append]
      rfl
    · rw [tk1 hel]
      have kp : TupS (upd H4 q (HO.tup [V.str c.part, V.str nm])) (upd (upd H4 q (HO.tup [V.str c.part, V.str nm])) D (HO.lst (List.map V.ref bs4 ++ [V.ref q]))) := fun b xs e => by
        rw [upd_ne (fun z => by rw [z, (upd_ne (ne_of_none hD4 hq)).trans hD4] at e; cases e)]
        exact e
      exact (hb4.imp fun _ _ e => kp _ _ ((upd_new hq) _ _ e)).snoc (kp _ _ upd_same)
  rintro H4 ⟨s4, bs4, hD4, hb4⟩
  rw [List.take_of_length_le (by rw [ho, List.length_map, List.length_map]; exact Nat.le_refl _)] at hb4
  exact kk D bs4 H4 s4 hD4 hb4
abbrev nFR : List Str := ["calls", "reach", "call", "_", "source"]
theorem scFR : FnScope nFR ["calls", "reach"] (defScope sFR) := ⟨rfl, rfl, rfl, by decide +kernel, rfl, by decide +kernel, by decide +kernel⟩
theorem ok_fr {f : Addr} {fd : FuncData} (F : Fun K "_first_ready" "_first_ready" sFR f fd) (za : mg "all" = none) : FnOk P w K mg base CX0 1 f fd ["calls", "reach"] (spFR K) := by
  refine F.ok scFR (fun vs H Q E h => ?_) (fun cdv A outer s H vs Q E hr h => ?_)
  · obtain ⟨l, d, as, cs, r, rfl, _⟩ := h
    rfl
  obtain ⟨l, d, as, cs, r, rfl, hl, hcs, hr1, hal, kN, kS⟩ := h
  have hu1 := Nat.lt_of_le_of_lt (Nat.add_le_add_left (show 1 ≤ 64 by decide) _) hr.units
  refine ⟨_, (pss_cons (ps_for PassesOwn.never rfl (pi_list (pv 0)) (pg_name (i := 2) scFR.nd rfl (.inl rfl))
    (pss_one (ps_if (pt_val (pe_callB (cr_all rfl) (by rfl) za (by decide +kernel) (pa_cons (pe_lc (own := [("_", 3), ("source", 4)]) (g := (gTup K 2 (gCons (gName 3) (gCons (gName 4) gNil)))) rfl scFR.nd (pi_tup (pe_ix (show IxR _ (rIxT K) from ix_tup) (pv 2) pe_int (fun _ _ => rfl))) (blkOk_by (own := [("_", 3), ("source", 4)]) (N := nFR) (sc := defScope sFR) (by decide +kernel)) (fun _ _ _ _ _ => by exact (pg_tup (by rfl) (pgs_cons (pg_name (i := 3) scFR.nd rfl (Or.inl rfl)) (pgs_cons (pg_name (i := 4) scFR.nd rfl (Or.inl rfl)) pgs_nil)))) (fun _ _ _ _ _ => pts_nil)
      (fun _ _ _ _ _ => by exact (pe_cmp (pc_din hu1 (pv 4) (pv 1)) (by rfl)))) pa_nil))) (pss_one (ps_ret (pv 2))) pss_nil)))
    (pss_one (ps_ret pe_non))), ?_⟩
  have lt : ∀ {n : Nat}, n ≤ 100000 → n < sizeLine := fun h => by rw [sizeLine_eq]; omega
  have fin : ∀ {p : Call → Bool} {l : List Call} {i : Nat} {c : Call}, l[i]? = some c → p c = true → (∀ m c, m < i → l[m]? = some c → p c = false) → l.findIdx? p = some i := fun {p l i c} h1 h2 h3 => by
    refine List.findIdx?_eq_some_iff_getElem.mpr ⟨(List.getElem?_eq_some_iff.mp h1).1, ?_, fun j hj => ?_⟩
    · rw [(List.getElem?_eq_some_iff.mp h1).2]
      exact h2
    · have hj2 : j < l.length := Nat.lt_trans hj (List.getElem?_eq_some_iff.mp h1).1
      rw [h3 j l[j] hj (List.getElem?_eq_getElem hj2)]
      exact Bool.false_ne_true
  refine ⟨_, rfl, l, rfl, ⟨_, .of hl⟩, for_list (K := K) (a := l) (xs := as.map V.ref) (fun i σ H' => ∃ u2, σ = [some (.ref l), some (.ref d), u2, none, none] ∧ Same H H' ∧ ∀ m c, m < i → cs[m]? = some c → ready r c = false)
    ⟨_, rfl, Same.refl _, fun m c hm _ => absurd hm (Nat.not_lt_zero m)⟩ (fun i σ H' _ q => by
      obtain ⟨_, _, s, _⟩ := q
      exact .of (s _ _ hl)) ?turn ?done⟩
  case done =>
    rintro σ H' ⟨u2, rfl, s, hno⟩
    refine kN (List.findIdx?_eq_none_iff.mpr fun c hc => ?_) H' s
    obtain ⟨m, hm, rfl⟩ := List.getElem_of_mem hc
    exact hno m _ (by rw [List.length_map, hcs.1]; exact hm) (List.getElem?_eq_getElem hm)
  rintro i x σ H1 hx ⟨u2, rfl, s1, hno⟩
  rw [List.getElem?_map] at hx
  obtain ⟨a, ha, rfl⟩ := Option.map_eq_some_iff.mp hx
  obtain ⟨c, hc, t, bs, hc1, hc2, hc3⟩ := All2.at hcs ha
  have hl8 := hal c (List.mem_of_getElem? hc)
  refine ⟨_, rfl, a, _, 2, _, rfl, rfl, .of (s1 _ _ hc1), at_of (j := 2) rfl rfl, t, rfl, ⟨_, .of (s1 _ _ hc2)⟩, fun D hD => ?_⟩
  refine out_it (walk_tup (xs := bs.map V.ref)) (fun m H' => Same H1 H' ∧ H' D = some (.lst ((c.args.take m).map fun x => V.bl (look r x.2).isSome))) ⟨upd_new hD, upd_same⟩ (fun m H' _ q => .of (q.1 _ _ (s1 _ _ hc2))) ?_ ?_
  · rintro m x Hx H4 hm ⟨s4, hD4⟩ ⟨rfl, hx⟩
    rw [List.getElem?_map] at hx
    obtain ⟨ba, hba, rfl⟩ := Option.map_eq_some_iff.mp hx
    obtain ⟨ar, har, sp, h1, h2⟩ := hc3.at hba
    have s14 := s1.trans s4
    obtain ⟨o, hg, ho⟩ := (ReachAt.same s14 hr1).has (p := ar.2) (s14 _ _ h2)
    refine ⟨ba, _, rfl, .of (s14 _ _ h1), rfl, _, _, rfl, _, _, rfl, rfl, rfl, ?_⟩
    refine ⟨_, rfl, _, rfl, d, o, rfl, hg, _, hD4, ?_, same_put s4 hD, ?_⟩
    · rw [List.length_map, List.length_take]
      exact lt (by omega)
    · rw [upd_same, tk1 har, List.map_append, ho]
      rfl
  rintro H4 ⟨s4, hD4⟩
  rw [List.take_of_length_le (by rw [List.length_map, hc3.1]; exact Nat.le_refl _)] at hD4
  refine ⟨D, c.args.map fun x => (look r x.2).isSome, rfl, .of (by rw [hD4, List.map_map]; rfl), _, rfl, ?_⟩
  have e : (c.args.map fun x => (look r x.2).isSome).all id = ready r c := by
    rw [List.all_map]
    rfl
  rw [e]
  cases hrd : ready r c with
  | true => exact iteT ⟨_, rfl, kS i a (fin hc hrd hno) ha H4 (s1.trans s4)⟩
  | false =>
    refine iteF ⟨_, rfl, s1.trans s4, fun m c' hm hm2 => ?_⟩
    by_cases e : m = i
    · subst e
      rw [hc] at hm2
      cases hm2
      exact hrd
    · exact hno m c' (by omega) hm2
abbrev nIR : List Str := ["call", "inputs", "reach", "found", "_", "source", "name"]
theorem scIR : FnScope nIR ["call", "inputs", "reach"] (defScope sIR) := ⟨rfl, rfl, rfl, by decide +kernel, rfl, by decide +kernel, by decide +kernel⟩
theorem ok_ir {f : Addr} {fd : FuncData} (F : Fun K "_inputs_reaching" "_inputs_reaching" sIR f fd) (zt : mg "tuple" = none) : FnOk P w K mg base CX0 1 f fd ["call", "inputs", "reach"] (spIR K) := by
  refine F.ok scIR (fun vs H Q E h => ?_) (fun cdv A outer s H vs Q E hr h => ?_)
  · obtain ⟨a, i, d, c, ins, r, rfl, _⟩ := h
    rfl
  obtain ⟨a, i, d, c, ins, r, rfl, hc, hi, hr1, hal, hil, hlk, kk⟩ := h
  have hu1 := Nat.lt_of_le_of_lt (Nat.add_le_add_left (show 1 ≤ 64 by decide) _) hr.units
  have hu0 := Nat.lt_of_le_of_lt (Nat.le_add_right _ 64) hr.units
  refine ⟨_, (pss_cons (ps_set (i := 3) scIR.nd rfl (.inr rfl) (by exact (pe_dcT2 (own := [("_", 4), ("source", 5), ("name", 6)]) (g := (gTup K 2 (gCons (gName 4) (gCons (gName 5) gNil)))) (g1 := gName 6) (wi1 := iTup K (tDGet (tVar 2) (tVar 5))) (vs1 := [6]) (.dK []) (.inr rfl) hu0 rfl scIR.nd (pi_tup (pe_ix (show IxR _ (rIxT K) from ix_tup) (pv 0) pe_int (fun _ _ => rfl))) (blkOk_by (own := [("_", 4), ("source", 5), ("name", 6)]) (N := nIR) (sc := defScope sIR) (by decide +kernel)) (by decide) (fun _ _ _ _ _ => by exact (pg_tup (by rfl) (pgs_cons (pg_name (i := 4) scIR.nd rfl (Or.inl rfl)) (pgs_cons (pg_name (i := 5) scIR.nd rfl (Or.inl rfl)) pgs_nil)))) (fun _ _ _ _ _ => pts_nil)
      (fun _ _ _ _ _ => by exact (pi_tup (pe_dget hu1 (pv 2) (pv 5) (fun _ _ => rfl)))) (fun _ _ _ _ _ => pg_name (i := 6) scIR.nd rfl (Or.inl rfl)) (fun _ _ _ _ _ => pts_nil) (fun _ _ _ _ _ => pv 6) (fun _ _ _ _ _ => pe_bl))))
    (pss_one (ps_ret (pe_callTy call_tuple_of (by rfl) zt (by decide +kernel) (pa_cons (pe_lc (own := [("name", 6)]) (g := (gName 6)) rfl scIR.nd (pi_tup (pv 1)) (blkOk_by (own := [("name", 6)]) (N := nIR) (sc := defScope sIR) (by decide +kernel)) (fun _ _ _ _ _ => by exact (pg_name (i := 6) scIR.nd rfl (Or.inl rfl))) (fun _ _ _ _ _ => by exact (pts_one (pt_cmp (pc_din hu1 (pv 6) (pv 3)) (by rfl))))
      (fun _ _ _ _ _ => by exact (pv 6))) pa_nil))))), ?_⟩
  have lt : ∀ {n : Nat}, n ≤ 100000 → n < sizeLine := fun h => by rw [sizeLine_eq]; omega
  obtain ⟨t, bs, hc1, hc2, hc3⟩ := hc
  refine ⟨_, rfl, a, _, 2, _, rfl, rfl, .of hc1, at_of (j := 2) rfl rfl, t, rfl, ⟨_, .of hc2⟩, fun D hD => ?_⟩
  refine out_it (walk_tup (xs := bs.map V.ref)) (fun m H' => Same H H' ∧ SK H' D ((c.args.take m).flatMap fun x => (look r x.2).getD [])) ⟨upd_new hD, SK.nil upd_same⟩ (fun m H' _ q => .of (q.1 _ _ hc2)) ?_ ?_
  · rintro m x Hx H4 hm ⟨s4, hD4⟩ ⟨rfl, hx⟩
    rw [List.getElem?_map] at hx
    obtain ⟨ba, hba, rfl⟩ := Option.map_eq_some_iff.mp hx
    obtain ⟨ar, har, sp, h1, h2⟩ := hc3.at hba
    obtain ⟨nl, hnl, hn8⟩ := hlk ar (List.mem_of_getElem? har)
    obtain ⟨na, hg, hna⟩ := (ReachAt.same s4 hr1).get (p := ar.2) (s4 _ _ h2) hnl
    refine ⟨ba, _, rfl, .of (s4 _ _ h1), rfl, _, _, rfl, _, _, rfl, rfl, rfl, ?_⟩
    refine ⟨_, rfl, _, rfl, d, .ref na, rfl, hg, na, rfl, ⟨_, .of hna⟩, ?_⟩
    have hna0 := hna
    have hF : ((c.args.take m).flatMap fun x => (look r x.2).getD []).length ≤ 64 := by
      have q := flat_le (l := c.args.take m) (f := fun x => (look r x.2).getD []) (c := 8) fun x hx => by
        obtain ⟨l, e, h8⟩ := hlk x (List.mem_of_mem_take hx)
        rw [e]
        exact h8
      have q2 : (c.args.take m).length ≤ 8 := by rw [List.length_take]; omega
      omega
    refine out_it (walk_tup (xs := nl.map V.str)) (fun k H' => Same H H' ∧ H' na = some (.tup (nl.map V.str)) ∧ SK H' D (((c.args.take m).flatMap fun x => (look r x.2).getD []) ++ nl.take k)) ⟨s4, hna, by rw [List.take_zero, List.append_nil]; exact hD4⟩ (fun k H' _ q => .of q.2.1) ?_ ?_
    · rintro k x Hy H5 hk ⟨s5, hn5, hD5⟩ ⟨rfl, hx⟩
      rw [List.getElem?_map] at hx
      obtain ⟨nm, hnm, rfl⟩ := Option.map_eq_some_iff.mp hx
      have hkl : (((c.args.take m).flatMap fun x => (look r x.2).getD []) ++ nl.take k).length < sizeLine := by
        rw [List.length_append, List.length_take]
        exact lt (by omega)
      obtain ⟨H6, dp, sk, keep⟩ := hD5.put (p := nm) (v := V.bl true) hkl
      refine ⟨rfl, _, rfl, H6, dp, ⟨fun b u e => ?_, ?_, ?_⟩⟩
      · have n : b ≠ D := fun z => by rw [z, hD] at e; cases e
        rw [keep b n]
        exact s5 _ _ e
      · have n : na ≠ D := fun z => by
          obtain ⟨kvs, e, _⟩ := hD5
          rw [z, e] at hn5
          cases hn5
        rw [keep na n]
        exact hn5
      · rw [tk1 hnm, ← List.append_assoc]
        exact sk
    rintro H5 ⟨s5, _, hD5⟩
    have e0 : nl.take (nl.map V.str).length = nl := List.take_of_length_le (by rw [List.length_map]; exact Nat.le_refl _)
    rw [e0] at hD5
    refine ⟨s5, ?_⟩
    rw [tk1 har, List.flatMap_append]
    have e : ([ar].flatMap fun x => (look r x.2).getD []) = nl := by
      rw [List.flatMap_cons, List.flatMap_nil, List.append_nil, hnl]
      rfl
    rw [e]
    exact hD5
  rintro H4 ⟨s4, hD4⟩
  rw [List.take_of_length_le (by rw [List.length_map, hc3.1]; exact Nat.le_refl _)] at hD4
  refine ⟨_, rfl, i, rfl, ⟨_, sqT_same s4 hi⟩, fun B hB => ?_⟩
  refine out_it (walk_tup (xs := ins.map V.str)) (fun m H' => Same H4 H' ∧ H' B = some (.lst ((reaching (ins.take m) r c).map V.str))) ⟨upd_new hB, upd_same⟩ (fun m H' _ q => sqT_same (s4.trans q.1) hi) ?_ ?_
  · rintro m x Hx H5 hm ⟨s5, hB5⟩ ⟨rfl, hx⟩
    rw [List.getElem?_map] at hx
    obtain ⟨nm, hnm, rfl⟩ := Option.map_eq_some_iff.mp hx
    obtain ⟨kvs, e1, e2⟩ := hD4
    obtain ⟨o, hg, ho⟩ := (show SK H5 D _ from ⟨kvs, s5 _ _ e1, e2⟩).has (p := nm)
    refine ⟨rfl, _, rfl, _, rfl, D, o, rfl, hg, _, rfl, ?_⟩
    have hmem : o.isSome = c.args.any fun a => decide (nm ∈ (look r a.2).getD []) := by
      rw [ho, Bool.eq_iff_iff, decide_eq_true_iff, List.mem_flatMap, List.any_eq_true]
      exact ⟨fun ⟨x, h1, h2⟩ => ⟨x, h1, decide_eq_true h2⟩, fun ⟨x, h1, h2⟩ => ⟨x, h1, of_decide_eq_true h2⟩⟩
    have er : reaching (ins.take (m + 1)) r c = reaching (ins.take m) r c ++ reaching [nm] r c := by
      unfold reaching
      rw [tk1 hnm, List.filter_append]
    rw [hmem]
    cases hb : c.args.any fun a => decide (nm ∈ (look r a.2).getD []) with
    | true =>
      refine iteT ⟨_, rfl, _, hB5, ?_, same_put s5 hB, ?_⟩
      · rw [List.length_map]
        have := List.length_filter_le (fun n => c.args.any fun a => decide (n ∈ (look r a.2).getD [])) (ins.take m)
        rw [List.length_take] at this
        refine lt ?_
        show (List.filter _ (ins.take m)).length ≤ _
        omega
      · rw [upd_same, er, List.map_append]
        have e : reaching [nm] r c = [nm] := by
          unfold reaching
          rw [List.filter_cons, hb]
          rfl
        rw [e]
        rfl
    | false =>
      refine iteF ⟨s5, ?_⟩
      have e : reaching [nm] r c = [] := by
        unfold reaching
        rw [List.filter_cons, hb]
        rfl
      rw [hB5, er, e, List.append_nil]
  rintro H5 ⟨s5, hB5⟩
  rw [List.take_of_length_le (by rw [List.length_map]; exact Nat.le_refl _)] at hB5
  exact ⟨B, _, rfl, .inl ⟨.of hB5, fun l hl => kk l _ ((s4.trans s5).trans (upd_new hl)) upd_same⟩⟩
end
end K28
namespace K28
open PySem L2 Own StX ClX NdefX
abbrev sOC : Stmt := top 47
/-! ### calls as data -/
def argD (x : Str × Port) : PyData := .tuple [.str x.1, .tuple [.str x.2.1, .str x.2.2]]
def callD (c : Call) : PyData := .tuple [.str c.part, .int (c.num : Nat), .tuple (c.args.map argD)]
theorem tqAll_of {K : PySem.W.Frag} {H : Hp} {α : Type} {R : Addr → α → Prop} {f : α → PyData} (h : ∀ a x, R a x → Tq K H (.ref a) (f x)) : ∀ {as : List Addr} {xs : List α}, All2 R as xs → TqAll K H (as.map V.ref) (xs.map f)
  | [], [], _ => .nil
  | [], _ :: _, h => by cases h.1
  | _ :: _, [], h => by cases h.1
  | a :: as, x :: xs, q => .cons (h a x (q.2 0 a x rfl rfl)) (tqAll_of h (as := as) (xs := xs) ⟨Nat.succ.inj q.1, fun i a x e1 e2 => q.2 (i + 1) a x e1 e2⟩)
theorem arg_tq {K : PySem.W.Frag} {H : Hp} {a : Addr} {x : Str × Port} (h : ArgAt H a x) : Tq K H (.ref a) (argD x) := by
  obtain ⟨s, h1, h2⟩ := h
  exact .tup (.of h1) (.cons (.str _) (.cons (.tup (.of h2) (.cons (.str _) (.cons (.str _) .nil))) .nil))
theorem call_tq {K : PySem.W.Frag} {H : Hp} {a : Addr} {c : Call} (h : CallAt H a c) : Tq K H (.ref a) (callD c) := by
  obtain ⟨t, as, h1, h2, h3⟩ := h
  exact .tup (.of h1) (.cons (.str _) (.cons (.int _) (.cons (.tup (.of h2) (tqAll_of (f := argD) (fun _ _ => arg_tq) h3)) .nil)))
theorem args_depth : ∀ l : List (Str × Port), PyData.depthAll (l.map argD) ≤ 4
  | [] => Nat.zero_le _
  | x :: r => by
    have ih := args_depth r
    simp only [List.map_cons, PyData.depthAll, argD, PyData.depth]
    omega
theorem call_depth (c : Call) : (callD c).depth ≤ 16 := by
  have := args_depth c.args
  simp only [callD, PyData.depth, PyData.depthAll]
  omega
theorem call_eqv {c d : Call} (h : ¬ (c.part = d.part ∧ c.num = d.num)) : PyData.eqv (callD c) (callD d) = false := by
  show (c.part == d.part && (((c.num : Int) == (d.num : Int)) && _)) = false
  by_cases e : c.part = d.part
  · have : ¬ c.num = d.num := fun z => h ⟨e, z⟩
    rw [show ((c.num : Int) == (d.num : Int)) = false from beq_eq_false_iff_ne.mpr (by omega), Bool.false_and, Bool.and_false]
  · rw [show (c.part == d.part) = false from beq_eq_false_iff_ne.mpr e, Bool.false_and]
theorem args_plain : ∀ l : List (Str × Port), PyData.plainAll (l.map argD) = true
  | [] => rfl
  | x :: r => by
    show ((argD x).plain && PyData.plainAll (r.map argD)) = true
    rw [args_plain r]
    rfl
theorem call_plain (c : Call) : (callD c).plain = true := by
  show (PyData.plainAll (c.args.map argD) && true) = true
  rw [args_plain]
  rfl
theorem call_place {cs : List Call} {j : Nat} {c : Call} (hj : cs[j]? = some c) (nd : (cs.map fun c => (c.part, c.num)).Nodup) : SeqAt.dataPlace (cs.map callD) (callD c) = some j := by
  have hlt := (List.getElem?_eq_some_iff.mp hj).1
  have e := (List.getElem?_eq_some_iff.mp hj).2
  refine List.findIdx?_eq_some_iff_getElem.mpr ⟨by rw [List.length_map]; exact hlt, ?_, fun m hm => ?_⟩
  · rw [List.getElem_map, e]
    exact SeqAt.eqv_refl_plain _ (call_plain c)
  · have hml : m < cs.length := Nat.lt_trans hm hlt
    rw [List.getElem_map, call_eqv]
    · exact Bool.false_ne_true
    · intro z
      have q := (List.pairwise_iff_getElem.mp nd) m j (by rw [List.length_map]; exact hml) (by rw [List.length_map]; exact hlt) hm
      refine q ?_
      rw [List.getElem_map, List.getElem_map, e, z.1, z.2]
theorem ReachAt.put {H : Hp} {d b a : Addr} {r : Reach} {p : Port} {l : List Str} (h : ReachAt H d r) (n : ¬ p ∈ r.map (·.1)) (ha : H a = some (.tup (l.map V.str))) (hb : H b = some (.tup [.str p.1, .str p.2])) (hl : r.length < sizeLine) :
    ∃ H', DPut H d (.ref b) (.ref a) H' ∧ ReachAt H' d (r ++ [(p, l)]) ∧ ∀ c, c ≠ d → H' c = H c := by
  obtain ⟨as, e1, e2⟩ := h
  obtain ⟨H', dp, ⟨as', d1, d2⟩, keep⟩ := PD.put (H0 := H) (R := NeedsAt H) (R' := NeedsAt H) (p := p) (v := l) (b := b) (a := a) ⟨as, e1, e2⟩ n (fun _ _ r => r) ha hb hl
  refine ⟨H', dp, ⟨as', d1, d2.imp fun c kv e => ?_⟩, keep⟩
  have nc : c ≠ d := fun z => by
    rw [z] at e
    have e3 := e1.symm.trans e
    cases e3
  show H' c = _
  rw [keep c nc]
  exact e
/-! ### the order of the calls -/
theorem erase_map {α β : Type} (f : α → β) : ∀ (l : List α) (j : Nat), (l.map f).eraseIdx j = (l.eraseIdx j).map f
  | [], _ => rfl
  | _ :: _, 0 => rfl
  | a :: r, j + 1 => by
    show f a :: (r.map f).eraseIdx j = f a :: (r.eraseIdx j).map f
    rw [erase_map f r j]
theorem look_of {r : Reach} {p : Port} (h : (look r p).isSome = true) (k : ∀ kv ∈ r, kv.2.length ≤ 8) : ∃ l, look r p = some l ∧ l.length ≤ 8 := by
  obtain ⟨l, e⟩ := Option.isSome_iff_exists.mp h
  refine ⟨l, e, ?_⟩
  unfold look at e
  obtain ⟨kv, e1, rfl⟩ := Option.map_eq_some_iff.mp e
  exact k kv (List.mem_of_find?_eq_some e1)
structure Good (ps : List (Str × Str)) (face : Str → Fc) (c : Call) : Prop where
  ex : ∃ p ∈ ps, p.1 = c.part ∧ ∃ s, (face c.part).prof[c.num]? = some s
  al : c.args.length ≤ 8
def reach0 (ins : List Str) : Reach := ins.map fun n => ((Str.empty, n), [n])
def spOC (K : PySem.W.Frag) (C : Addr) : Sp := fun vs H Q _ => ∃ (y df lc : Addr) (n : Str) (ins outs : List Str) (ps : List (Str × Str)) (ws : List (Port × Port)) (face : Str → Fc) (cas : List Addr) (cs order : List Call) (r : Reach), vs = [.ref y, .ref df, .ref lc] ∧ DgAt K C H y n ins outs ps ws ∧ FacesAt K H df ps face ∧ Sz ps face ∧
  H lc = some (.lst (cas.map V.ref)) ∧ CallsAt H cas cs ∧ ins.length ≤ 8 ∧ ins.Nodup ∧ (∀ c ∈ cs, Good ps face c) ∧ (cs.map fun c => (c.part, c.num)).Nodup ∧ cs.length ≤ 128 ∧ orderCalls face ins cs.length cs [] (reach0 ins) = some (order, r) ∧
  ∀ t lo dr oas H', Same H H' → H' t = some (.tup [.ref lo, .ref dr]) → H' lo = some (.lst (oas.map V.ref)) → CallsAt H' oas order → ReachAt H' dr r → Q (.ref t) H'
section
variable {P : Program} {w : World} {K : PySem.W.Frag} {mg : Str → Option Value} {base : Heap} {C : Addr}
abbrev nOC : List Str := ["diagram", "faces", "calls", "reach", "order", "left", "call", "needs", "port", "name"]
theorem scOC : FnScope nOC ["diagram", "faces", "calls"] (defScope sOC) := ⟨rfl, rfl, rfl, by decide +kernel, rfl, by decide +kernel, by decide +kernel⟩
theorem ok_oc {f fR fI fO : Addr} {fd fdR fdI fdO : FuncData} (F : Fun K "_order_calls" "_order_calls" sOC f fd) (T : DgC K mg C) (zli : mg "list" = none)
    (GR : FnOk P w K mg base CX0 1 fR fdR ["calls", "reach"] (spFR K)) (mR : mg "_first_ready" = some (.ref fR)) (kR : PySem.W.keepIn K (.ref fR) = true) (bR : Binds K fdR ["calls", "reach"] [])
    (GI : FnOk P w K mg base CX0 1 fI fdI ["call", "inputs", "reach"] (spIR K)) (mI : mg "_inputs_reaching" = some (.ref fI)) (kI : PySem.W.keepIn K (.ref fI) = true) (bI : Binds K fdI ["call", "inputs", "reach"] [])
    (GO : FnOk P w K mg base CX0 1 fO fdO ["call", "faces"] (spCO K)) (mO : mg "_call_outputs" = some (.ref fO)) (kO : PySem.W.keepIn K (.ref fO) = true) (bO : Binds K fdO ["call", "faces"] []) :
    FnOk P w K mg base CX0 2 f fd ["diagram", "faces", "calls"] (spOC K C) := by
  refine F.ok scOC (fun vs H Q E h => ?_) (fun cdv A outer s H vs Q E hr h => ?_)
  · obtain ⟨y, df, lc, n, ins, outs, ps, ws, face, cas, cs, order, r, rfl, _⟩ := h
    rfl
  obtain ⟨y, df, lc, n, ins, outs, ps, ws, face, cas, cs, order, r, rfl, hy, hf, z, hlc, hcs, hil, hin, hgood, hnd, h128, hord, kk⟩ := h
  have hr1 := hr
  have hu := hr.units
  have hu1 := Nat.lt_of_le_of_lt (Nat.add_le_add_left (show 1 ≤ 64 by decide) _) hu
  have hu17 := Nat.lt_of_le_of_lt (Nat.add_le_add_left (show 17 ≤ 64 by decide) _) hu
  have hu0 := Nat.lt_of_le_of_lt (Nat.le_add_right _ 64) hu
  refine ⟨_, (pss_cons (by exact (ps_setdcT (i := 3) (own := [("name", 9)]) (g := gName 9) (.dT []) (.inl rfl) hu0 rfl scOC.nd rfl rfl (sw_trueD rfl rfl rfl (by decide +kernel)) (pi_tup (pe_fld (pv 0) rfl)) (blkOk_by (own := [("name", 9)]) (N := nOC) (sc := defScope sOC) (by decide +kernel)) (fun _ _ _ _ _ => pg_name (i := 9) scOC.nd rfl (Or.inl rfl)) (fun _ _ _ _ _ => pts_nil) (fun _ _ _ _ _ => by exact (pe_tup (pa_cons pe_str (pa_cons (pv 9) pa_nil)))) (fun _ _ _ _ _ => by exact (pe_tup (pa_cons (pv 9) pa_nil)))))
    (pss_cons (ps_par (i := 4) (j := 5) rfl scOC.nd rfl rfl (by decide) rfl rfl (pa_cons (pe_lst pa_nil) (pa_cons (pe_callTy call_list_of (by rfl) zli (by decide +kernel) (pa_cons (pv 2) pa_nil)) pa_nil)) (by rfl))
    (pss_cons (ps_while PassesOwn.never (pt_truth (pv 5) (by intro _; rfl))
    (pss_cons (ps_set (i := 6) scOC.nd rfl (.inl rfl) (pe_call GR hr1 rfl mR kR bR .nil pass0 (pa_cons (pv 5) (pa_cons (pv 3) pa_nil))))
    (pss_cons (ps_if (pt_cmpR op_isN (pv 6) pe_non (nomark _)) pss_never pss_nil)
    (pss_cons (ps_expr (pe_bm PySem.F.plainAttrs_list PySem.F.slot_list_remove PySem.F.type_list_remove (show MtR _ "list.remove" (rRemT K) from mt_remT hu17) (pv 5) (pa_cons (pv 6) pa_nil)))
    (pss_cons (ps_expr (pe_bm PySem.F.plainAttrs_list PySem.F.slot_list_append PySem.F.type_list_append mt_append (pv 4) (pa_cons (pv 6) pa_nil)))
    (pss_cons (ps_set (i := 7) scOC.nd rfl (.inl rfl) (pe_call GI hr1 rfl mI kI bI .nil pass0 (pa_cons (pv 6) (pa_cons (pe_fld (pv 0) rfl) (pa_cons (pv 3) pa_nil)))))
    (pss_one (ps_for PassesOwn.never rfl (pi_list (pe_call GO hr1 rfl mO kO bO .nil pass0 (pa_cons (pv 6) (pa_cons (pv 1) pa_nil)))) (pg_name (i := 8) scOC.nd rfl (.inl rfl))
      (pss_one (ps_dput hu1 (pv 3) (pv 8) (pv 7) rfl))))))))))
    (pss_one (ps_ret (pe_tup (pa_cons (pv 4) (pa_cons (pv 3) pa_nil)))))))), ?_⟩
  have lt : ∀ {n : Nat}, n ≤ 100000 → n < sizeLine := fun h => by rw [sizeLine_eq]; omega
  obtain ⟨dx, ii, oo, pa, wa, pas, bs, hyo, hi, ho, hpa, hps, hwa, hws⟩ := hy
  have hi8 : ∀ m, (ins.take m).length ≤ 8 := fun m => by rw [List.length_take]; omega
  -- reach = {("", name): (name,) ..}
  refine ⟨_, rfl, y, C, dx, _, _, rfl, hyo, T.cl, T.nI, rfl, ii, rfl, ⟨_, hi.sq⟩, fun R hR => ?_⟩
  refine out_it (walk_tup (xs := ins.map V.str)) (fun m H' => Same H H' ∧ ReachAt H' R (reach0 (ins.take m))) ⟨upd_new hR, [], upd_same, .nil⟩ (fun m H' _ q => sqT_same q.1 hi.sq) ?_ ?_
  · rintro m x Hx H4 hm ⟨s4, hR4⟩ ⟨rfl, hx⟩
    rw [List.getElem?_map] at hx
    obtain ⟨nm, hnm, rfl⟩ := Option.map_eq_some_iff.mp hx
    refine ⟨rfl, _, rfl, small1 (by show 2 ≤ 8; decide), fun k hk => ⟨_, rfl, small1 (by show 1 ≤ 8; decide), fun v hv => ?_⟩⟩
    have s5 := upd_new (o := HO.tup [V.str Str.empty, V.str nm]) hk
    have s6 := upd_new (o := HO.tup [V.str nm]) hv
    have g6 := s6 _ _ (upd_same (H := H4) (a := k) (o := HO.tup [V.str Str.empty, V.str nm]))
    have s56 := s5.trans s6
    have hnew : ¬ ((Str.empty, nm) : Port) ∈ (reach0 (ins.take m)).map (·.1) := fun q => by
      obtain ⟨kv, hkv, e⟩ := List.mem_map.mp q
      obtain ⟨n2, hn2, rfl⟩ := List.mem_map.mp hkv
      have e : n2 = nm := (Prod.mk.inj e).2
      subst e
      have nd2 : (ins.take (m + 1)).Nodup := List.Nodup.sublist (List.take_sublist _ _) hin
      rw [tk1 hnm] at nd2
      exact (List.nodup_append.mp nd2).2.2 _ hn2 _ (List.mem_singleton.mpr rfl) rfl
    obtain ⟨H7, dp, rd, keep⟩ := (ReachAt.same s56 hR4).put (p := (Str.empty, nm)) (l := [nm]) (b := k) (a := v) hnew upd_same g6 (by
      show ((ins.take m).map _).length < _
      rw [List.length_map]
      exact lt (by have := hi8 m; omega))
    refine ⟨H7, dp, fun b u e => ?_, ?_⟩
    · have nb : b ≠ R := fun z => by rw [z, hR] at e; cases e
      rw [keep b nb]
      exact s56 _ _ (s4 _ _ e)
    · have er : reach0 (ins.take (m + 1)) = reach0 (ins.take m) ++ [((Str.empty, nm), [nm])] := by
        unfold reach0
        rw [tk1 hnm, List.map_append]
        rfl
      rw [er]
      exact rd
  rintro H1 ⟨s1, hR1⟩
  rw [List.take_of_length_le (by rw [List.length_map]; exact Nat.le_refl _)] at hR1
  -- order, left = [], list(calls)
  refine ⟨small1 (by show 0 ≤ 8; decide), fun O hO => ⟨_, rfl, lc, _, rfl, .inl (.of ((upd_ne (ne_of_none (s1 _ _ hlc) hO)).trans (s1 _ _ hlc))), fun L hL => ⟨_, _, rfl, ?_⟩⟩⟩
  have s2 := upd_new (o := HO.lst []) hO
  have s3 := upd_new (o := HO.lst (cas.map V.ref)) hL
  have s23 := s2.trans s3
  have hO3 := s3 _ _ (upd_same (H := H1) (a := O) (o := HO.lst []))
  have hL3 := upd_same (H := upd H1 O (HO.lst [])) (a := L) (o := HO.lst (cas.map V.ref))
  have nOL : O ≠ L := fun z => by rw [← z, upd_same] at hL; cases hL
  have nO : H O = none := s1.free hO
  have nL : H L = none := (s1.trans s2).free hL
  have hR3 := ReachAt.same s23 hR1
  have s13 := s1.trans s23
  show tSeq _ _ _ _ (upd (upd H1 O (HO.lst [])) L (HO.lst (cas.map V.ref)))
  generalize upd (upd H1 O (HO.lst [])) L (HO.lst (cas.map V.ref)) = H3 at s13 hO3 hL3 hR3 ⊢
  clear s23 s3
  refine ⟨fun k σ H' => ∃ u6 u7 u8 las oas left ord r1, σ = [some (.ref y), some (.ref df), some (.ref lc), some (.ref R), some (.ref O), some (.ref L), u6, u7, u8, none] ∧ Same H H' ∧ H' L = some (.lst (las.map V.ref)) ∧ H' O = some (.lst (oas.map V.ref)) ∧ CallsAt H' las left ∧ CallsAt H' oas ord ∧ ReachAt H' R r1 ∧
      orderCalls face ins k left ord r1 = some (order, r) ∧ (∀ c ∈ left, Good ps face c) ∧ (left.map fun c => (c.part, c.num)).Nodup ∧ (∀ kv ∈ r1, kv.2.length ≤ 8) ∧ r1.length + 8 * left.length ≤ 2000 ∧ ord.length + left.length ≤ 128,
    ⟨cs.length, none, none, none, cas, [], cs, [], reach0 ins, rfl, s13, hL3, hO3, CallsAt.keep (TupS.of s13) hcs, .nil, hR3, hord, hgood, hnd, ?_, ?_, ?_⟩, ?_⟩
  · intro kv hkv
    obtain ⟨n2, _, rfl⟩ := List.mem_map.mp hkv
    show 1 ≤ 8
    decide
  · show (ins.map _).length + _ ≤ _
    rw [List.length_map]
    omega
  · show 0 + cs.length ≤ 128
    omega
  rintro k σ H4 ⟨u6, u7, u8, las, oas, left, ord, r1, rfl, s4, hL4, hO4, hl4, ho4, hR4, hor, hgd, hnd4, hr8, hsz, h128'⟩
  refine ⟨_, rfl, !(las.map V.ref).isEmpty, .inl ⟨_, .of hL4, rfl⟩, ?_⟩
  cases hle : left with
  | nil =>
    subst hle
    have e : las = [] := List.eq_nil_of_length_eq_zero hl4.1
    subst e
    have e2 : (ord, r1) = (order, r) := by
      cases k with
      | zero => exact Option.some.inj hor
      | succ k => exact Option.some.inj hor
    cases e2
    refine iteF ⟨_, rfl, _, rfl, small1 (by show 2 ≤ 8; decide), fun t ht => ?_⟩
    have s5 := upd_new (o := HO.tup [V.ref O, V.ref R]) ht
    exact kk t O R oas _ (s4.trans s5) upd_same (s5 _ _ hO4) (CallsAt.keep (TupS.of s5) ho4) (ReachAt.same s5 hR4)
  | cons c0 left0 =>
  have hne : left ≠ [] := by rw [hle]; exact fun z => by cases z
  have hlas : las ≠ [] := fun z => hne (List.eq_nil_of_length_eq_zero (by rw [← hl4.1, z]; rfl))
  clear hle
  have e1 : (!(las.map V.ref).isEmpty) = true := by
    cases las with
    | nil => exact absurd rfl hlas
    | cons _ _ => rfl
  rw [e1]
  cases k with
  | zero =>
    unfold orderCalls at hor
    rw [if_neg (by cases left with | nil => exact absurd rfl hne | cons _ _ => exact Bool.false_ne_true)] at hor
    cases hor
  | succ k =>
  unfold orderCalls at hor
  rw [if_neg (by cases left with | nil => exact absurd rfl hne | cons _ _ => exact Bool.false_ne_true)] at hor
  cases hfj : left.findIdx? (ready r1) with
  | none => rw [hfj] at hor; cases hor
  | some j =>
  rw [hfj] at hor
  have hor : (match left[j]? with
      | none => none
      | some c => match addNew (reaching ins r1 c) (callOuts face c) r1 with
        | none => none
        | some r' => orderCalls face ins k (left.eraseIdx j) (ord ++ [c]) r') = some (order, r) := hor
  cases hcj : left[j]? with
  | none => rw [hcj] at hor; cases hor
  | some c =>
  rw [hcj] at hor
  have hor : (match addNew (reaching ins r1 c) (callOuts face c) r1 with
        | none => none
        | some r' => orderCalls face ins k (left.eraseIdx j) (ord ++ [c]) r') = some (order, r) := hor
  cases hadd : addNew (reaching ins r1 c) (callOuts face c) r1 with
  | none => rw [hadd] at hor; cases hor
  | some r' =>
  rw [hadd] at hor
  have hor : orderCalls face ins k (left.eraseIdx j) (ord ++ [c]) r' = some (order, r) := hor
  have hrdy : ready r1 c = true := by
    obtain ⟨hlt, q, _⟩ := List.findIdx?_eq_some_iff_getElem.mp hfj
    rw [← (List.getElem?_eq_some_iff.mp hcj).2]
    exact q
  obtain ⟨ca, hca, hcat⟩ := All2.of hl4 hcj
  have hcm := List.mem_of_getElem? hcj
  obtain ⟨⟨pc, hpc, hpcn, sc, hsc⟩, hal8⟩ := hgd c hcm
  refine iteT ⟨_, fun σ' H' h => ⟨k, Nat.lt_succ_self k, h⟩, ?_⟩
  refine ⟨_, rfl, _, rfl, L, R, las, left, r1, rfl, hL4, hl4, hR4, fun c hc => (hgd c hc).al, fun e => by (rw [hfj] at e; cases e), fun j' a' e ha' H5 s5 => ?_⟩
  rw [hfj] at e
  cases e
  rw [hca] at ha'
  cases ha'
  refine ⟨_, rfl, rfl, _, rfl, iteF ?_⟩
  have hL5 := s5 _ _ hL4
  have hO5 := s5 _ _ hO4
  have hl5 := CallsAt.keep (TupS.of s5) hl4
  have ho5 := CallsAt.keep (TupS.of s5) ho4
  have hc5 := CallAt.keep (TupS.of s5) hcat
  have hR5 := ReachAt.same s5 hR4
  refine ⟨_, rfl, .inl ⟨rfl, _, .of hL5⟩, _, rfl, L, _, _, _, _, j, rfl, rfl, hL5, tqAll_of (R := CallAt H5) (f := callD) (fun _ _ => call_tq) hl5, call_tq hc5, call_depth c, call_place hcj hnd4, ?_⟩
  rw [erase_map]
  have nT : ∀ {H0 : Hp} {l : Addr} {xs ys : List V}, H0 l = some (.lst xs) → TupS H0 (upd H0 l (.lst ys)) := fun {H0 l xs ys} h b zs e => by
    rw [upd_ne (fun z => by rw [z, h] at e; cases e)]
    exact e
  have k6 := nT (ys := (las.eraseIdx j).map V.ref) hL5
  have hL6 := upd_same (H := H5) (a := L) (o := HO.lst ((las.eraseIdx j).map V.ref))
  have hO6 : upd H5 L (HO.lst ((las.eraseIdx j).map V.ref)) O = _ := (upd_ne nOL).trans hO5
  have s6 : Same H (upd H5 L (HO.lst ((las.eraseIdx j).map V.ref))) := same_put (s4.trans s5) nL
  have hl6 := CallsAt.keep k6 (All2.erase j hl5)
  have ho6 := CallsAt.keep k6 ho5
  have hc6 := CallAt.keep k6 hc5
  have hR6 : ReachAt (upd H5 L (HO.lst ((las.eraseIdx j).map V.ref))) R r1 := by
    obtain ⟨as, e1, e2⟩ := hR5
    exact ⟨as, (upd_ne (fun z => by rw [z, hL5] at e1; cases e1)).trans e1, e2.imp fun _ _ e => k6 _ _ e⟩
  generalize upd H5 L (HO.lst ((las.eraseIdx j).map V.ref)) = H6 at k6 hL6 hO6 s6 hl6 ho6 hc6 hR6 ⊢
  refine ⟨_, rfl, .inl ⟨rfl, _, .of hO6⟩, _, rfl, O, _, _, rfl, rfl, hO6, by rw [List.length_map, ho6.1]; exact lt (by omega), ?_⟩
  rw [show oas.map V.ref ++ [V.ref ca] = (oas ++ [ca]).map V.ref by rw [List.map_append]; rfl]
  have k7 := nT (ys := (oas ++ [ca]).map V.ref) hO6
  have hO7 := upd_same (H := H6) (a := O) (o := HO.lst ((oas ++ [ca]).map V.ref))
  have hL7 : upd H6 O (HO.lst ((oas ++ [ca]).map V.ref)) L = _ := (upd_ne nOL.symm).trans hL6
  have s7 : Same H (upd H6 O (HO.lst ((oas ++ [ca]).map V.ref))) := same_put s6 nO
  have hl7 := CallsAt.keep k7 hl6
  have hc7 := CallAt.keep k7 hc6
  have ho7 : CallsAt (upd H6 O (HO.lst ((oas ++ [ca]).map V.ref))) (oas ++ [ca]) (ord ++ [c]) := All2.snoc (CallsAt.keep k7 ho6) hc7
  have hR7 : ReachAt (upd H6 O (HO.lst ((oas ++ [ca]).map V.ref))) R r1 := by
    obtain ⟨as, e1, e2⟩ := hR6
    exact ⟨as, (upd_ne (fun z => by rw [z, hO6] at e1; cases e1)).trans e1, e2.imp fun _ _ e => k7 _ _ e⟩
  generalize upd H6 O (HO.lst ((oas ++ [ca]).map V.ref)) = H7 at k7 hO7 hL7 s7 hl7 hc7 ho7 hR7 ⊢
  have hlk : ∀ x ∈ c.args, ∃ l, look r1 x.2 = some l ∧ l.length ≤ 8 := fun x hx => look_of (List.all_eq_true.mp hrdy x hx) hr8
  refine ⟨_, rfl, _, rfl, y, C, dx, _, _, rfl, s7 _ _ hyo, T.cl, T.nI, rfl, _, rfl, ca, ii, R, c, ins, r1, rfl, hc7, sqT_same s7 hi.sq, hR7, hal8, hil, hlk, fun t H8 s8 ht8 => ?_⟩
  have s78 := s7.trans s8
  refine ⟨_, rfl, _, rfl, ca, df, c, ps, face, pc, sc, rfl, CallAt.keep (TupS.of s8) hc7, FacesAt.same s78 hf, z, hpc, hpcn, hsc, fun PL pas9 H9 s9 hPL hpas9 => ?_⟩
  have s79 := s78.trans s9
  have hpo8 : (callOuts face c).length ≤ 8 := by
    unfold callOuts
    rw [hsc, List.length_map]
    exact (z.nl pc hpc sc (by rw [hpcn]; exact List.mem_of_getElem? hsc)).1
  have hn8 : (reaching ins r1 c).length ≤ 8 := Nat.le_trans (List.length_filter_le _ _) hil
  have ht9 := s9 _ _ ht8
  have hR9 := ReachAt.same (s8.trans s9) hR7
  have hL9 := s9 _ _ (s8 _ _ hL7)
  have hO9 := s9 _ _ (s8 _ _ hO7)
  have hl9 := CallsAt.keep (TupS.of (s8.trans s9)) hl7
  have ho9 := CallsAt.keep (TupS.of (s8.trans s9)) ho7
  have hRd : ∃ kvs, H9 R = some (.dT kvs) := by
    obtain ⟨as, e1, _⟩ := hR9
    exact ⟨_, e1⟩
  obtain ⟨rk, hRd⟩ := hRd
  have hsz' : r1.length + 8 * left.length ≤ 2000 := hsz
  refine ⟨PL, rfl, ⟨_, .of hPL⟩, for_list (K := K) (a := PL) (xs := pas9.map V.ref) (fun m σ H' => ∃ u8 rm, σ = [some (.ref y), some (.ref df), some (.ref lc), some (.ref R), some (.ref O), some (.ref L), some (.ref ca), some (.ref t), u8, none] ∧ (∀ b u, b ≠ R → H9 b = some u → H' b = some u) ∧ ReachAt H' R rm ∧ addNew (reaching ins r1 c) ((callOuts face c).drop m) rm = some r' ∧ (∀ kv ∈ rm, kv.2.length ≤ 8) ∧ rm.length ≤ r1.length + m)
    ⟨_, r1, rfl, fun _ _ _ e => e, hR9, hadd, hr8, Nat.le_refl _⟩ (fun m σ H' _ q => by
      obtain ⟨_, _, _, q, _⟩ := q
      exact .of (q _ _ (fun z => by rw [z, hRd] at hPL; cases hPL) hPL)) ?turn ?done⟩
  case turn =>
    rintro m x σ H10 hx ⟨u8', rm, rfl, x10, hR10, hadd10, hr10, hm10⟩
    rw [List.getElem?_map] at hx
    obtain ⟨pa9, hpa9, rfl⟩ := Option.map_eq_some_iff.mp hx
    obtain ⟨pt9, hpt9, hpat⟩ := hpas9.at hpa9
    have hml := (List.getElem?_eq_some_iff.mp hpt9).1
    have hdr : (callOuts face c).drop m = pt9 :: (callOuts face c).drop (m + 1) := by
      rw [List.drop_eq_getElem_cons hml, (List.getElem?_eq_some_iff.mp hpt9).2]
    rw [hdr] at hadd10
    unfold addNew at hadd10
    by_cases hmem : pt9 ∈ rm.map (·.1)
    · rw [if_pos hmem] at hadd10
      cases hadd10
    rw [if_neg hmem] at hadd10
    have g1 := x10 _ _ (fun z => by rw [z, hRd] at ht9; cases ht9) ht9
    have hpat : H9 pa9 = some (.tup [.str pt9.1, .str pt9.2]) := hpat
    have g2 := x10 _ _ (fun z => by rw [z, hRd] at hpat; cases hpat) hpat
    obtain ⟨H11, dp, rd, keep⟩ := hR10.put (p := pt9) (l := reaching ins r1 c) (b := pa9) (a := t) hmem g1 g2 (lt (by omega))
    refine ⟨_, rfl, _, rfl, _, rfl, R, H11, rfl, dp, _, _, rfl, fun b u n e => (keep b n).trans (x10 b u n e), rd, hadd10, fun kv hkv => ?_, ?_⟩
    · rcases List.mem_append.mp hkv with h | h
      · exact hr10 kv h
      · rw [List.mem_singleton.mp h]
        exact hn8
    · rw [List.length_append]
      show _ + 1 ≤ _
      omega
  rintro σ H10 ⟨u8', rm, rfl, x10, hR10, hadd10, hr10, hm10⟩
  have hdone : (callOuts face c).drop (pas9.map V.ref).length = [] := List.drop_of_length_le (by rw [List.length_map, hpas9.1]; exact Nat.le_refl _)
  rw [hdone] at hadd10
  cases hadd10
  have k10 : TupS H9 H10 := fun b xs e => x10 _ _ (fun z => by rw [z, hRd] at e; cases e) e
  have nLR : L ≠ R := fun z => by rw [z, hRd] at hL9; cases hL9
  have nOR : O ≠ R := fun z => by rw [z, hRd] at hO9; cases hO9
  have hjl := (List.getElem?_eq_some_iff.mp hcj).1
  have hle : (left.eraseIdx j).length + 1 = left.length := by
    rw [List.length_eraseIdx, if_pos hjl]
    omega
  rw [List.length_map, hpas9.1] at hm10
  refine ⟨_, _, _, las.eraseIdx j, oas ++ [ca], left.eraseIdx j, ord ++ [c], r', rfl, fun b u e => x10 _ _ (fun z => by rw [z, hR] at e; cases e) (s79 _ _ e), x10 _ _ nLR hL9, x10 _ _ nOR hO9, CallsAt.keep k10 hl9, CallsAt.keep k10 ho9, hR10, hor, fun c hc => hgd c (List.mem_of_mem_eraseIdx hc), ?_, hr10, by omega, ?_⟩
  · exact List.Nodup.sublist ((List.eraseIdx_sublist _ _).map _) hnd4
  · rw [List.length_append]
    show ord.length + 1 + _ ≤ _
    omega
end
end K28
namespace K28
open PySem L2 Own StX ClX NdefX
abbrev sMP : Stmt := top 51
/-! ### the profile -/
def rTO (K : PySem.W.Frag) : List V → Hp → VK → Prop := fun xs H Q => ∃ p ys, xs = [.ref p] ∧ ((SqL K H p ys ∧ ∀ l, H l = none → Q (.ref l) (upd H l (.tup ys))) ∨ (SqT K H p ys ∧ Q (.ref p) H))
abbrev Groups : Type := List (List Str × List Str)
def putG (g : Groups) (needs : List Str) (o : Str) : Groups := match (g.map (·.1)).findIdx? (fun k => decide (k = needs)) with
  | some i => g.modify i fun kv => (kv.1, kv.2 ++ [o])
  | none => g ++ [(needs, [o])]
def needsFor (ws : List (Port × Port)) (r : Reach) (o : Str) : List Str := (look r ((look ws (Str.empty, o)).getD (Str.empty, Str.empty))).getD []
def groupsOf (outs : List Str) (ws : List (Port × Port)) (r : Reach) : Groups := outs.foldl (fun g o => putG g (needsFor ws r o) o) []
def profileOf (outs : List Str) (ws : List (Port × Port)) (r : Reach) : List Fnc := (groupsOf outs ws r).map fun g => (g.2, g.1)
def gK (ks : List (List Str)) (ls : List Addr) : List (List Key × V) := (ks.zip ls).map fun q => (q.1.map Sum.inr, V.ref q.2)
theorem inr_inj {a b : List Str} (h : (a.map Sum.inr : List Key) = b.map Sum.inr) : a = b := by
  induction a generalizing b with
  | nil => cases b with
    | nil => rfl
    | cons _ _ => cases h
  | cons x r ih => cases b with
    | nil => cases h
    | cons y t =>
      have h1 := List.cons.inj h
      rw [Sum.inr.inj h1.1, ih h1.2]
theorem gK_val : ∀ (ks : List (List Str)) (ls : List Addr) (k : List Str), ls.length = ks.length → (∀ i l, ks.findIdx? (fun x => decide (x = k)) = some i → ls[i]? = some l → valV (gK ks ls) (k.map Sum.inr) = some (V.ref l)) ∧ (ks.findIdx? (fun x => decide (x = k)) = none → valV (gK ks ls) (k.map Sum.inr) = none)
  | [], _, k, _ => ⟨fun i l e => (by cases e), fun _ => rfl⟩
  | _ :: _, [], _, h => by cases h
  | q :: ks, m :: ls, k, h => by
    obtain ⟨ih1, ih2⟩ := gK_val ks ls k (Nat.succ.inj h)
    have e0 : gK (q :: ks) (m :: ls) = (q.map Sum.inr, V.ref m) :: gK ks ls := rfl
    rw [e0, List.findIdx?_cons]
    by_cases e : q = k
    · subst e
      rw [decide_eq_true rfl]
      refine ⟨fun i l h1 h2 => ?_, fun h1 => (by cases h1)⟩
      cases h1
      cases h2
      unfold valV
      rw [List.find?_cons, decide_eq_true rfl]
      rfl
    · rw [decide_eq_false e]
      have hv : valV ((q.map Sum.inr, V.ref m) :: gK ks ls) (k.map Sum.inr) = valV (gK ks ls) (k.map Sum.inr) := by
        unfold valV
        rw [List.find?_cons, decide_eq_false (fun z => e (inr_inj z))]
      rw [hv]
      refine ⟨fun i l h1 h2 => ?_, fun h1 => ?_⟩
      · obtain ⟨i', h3, rfl⟩ := Option.map_eq_some_iff.mp (show (ks.findIdx? (fun x => decide (x = k))).map (· + 1) = some i from h1)
        exact ih1 i' l h3 h2
      · exact ih2 (Option.map_eq_none_iff.mp (show (ks.findIdx? (fun x => decide (x = k))).map (· + 1) = none from h1))
theorem gK_put {ks : List (List Str)} {ls : List Addr} {k : List Str} {l : Addr} (h : ls.length = ks.length) (n : ks.findIdx? (fun x => decide (x = k)) = none) : putK (gK ks ls) (k.map Sum.inr) (V.ref l) = gK (ks ++ [k]) (ls ++ [l]) := by
  have hv := (gK_val ks ls k h).2 n
  have ha : ((gK ks ls).any fun kv => decide (kv.1 = k.map Sum.inr)) = false := by
    rw [valV_any, hv]
    rfl
  unfold putK
  rw [ha, if_neg Bool.false_ne_true]
  unfold gK
  rw [List.zip_append h.symm, List.map_append]
  rfl
theorem place {ks : List (List Str)} {k : List Str} {m : Nat} (h : ks[m]? = some k) (nd : ks.Nodup) : ks.findIdx? (fun x => decide (x = k)) = some m := by
  have hlt := (List.getElem?_eq_some_iff.mp h).1
  have e := (List.getElem?_eq_some_iff.mp h).2
  refine List.findIdx?_eq_some_iff_getElem.mpr ⟨hlt, decide_eq_true e, fun j hj => ?_⟩
  have hjl : j < ks.length := Nat.lt_trans hj hlt
  have q := (List.pairwise_iff_getElem.mp nd) j m hjl hlt hj
  rw [decide_eq_false (fun z => q (z.trans e.symm))]
  exact Bool.false_ne_true
theorem putG_nodup {g : Groups} {needs : List Str} {o : Str} (h : (g.map (·.1)).Nodup) : ((putG g needs o).map (·.1)).Nodup := by
  unfold putG
  split
  · rename_i i _
    have : (g.modify i fun kv => (kv.1, kv.2 ++ [o])).map (·.1) = g.map (·.1) := by
      refine List.ext_getElem? fun q => ?_
      rw [List.getElem?_map, List.getElem?_modify, List.getElem?_map]
      cases g[q]? with
      | none => rfl
      | some kv => by_cases z : i = q <;> simp [z]
    rw [this]
    exact h
  · rename_i hf
    rw [List.map_append]
    refine List.nodup_append.mpr ⟨h, List.nodup_cons.mpr ⟨List.not_mem_nil, List.nodup_nil⟩, fun x hx y hy e => ?_⟩
    rw [List.mem_singleton.mp hy] at e
    have q := List.findIdx?_eq_none_iff.mp hf x hx
    rw [decide_eq_false_iff_not] at q
    exact q e
theorem groups_nodup (outs : List Str) (ws : List (Port × Port)) (r : Reach) : ((groupsOf outs ws r).map (·.1)).Nodup := by
  unfold groupsOf
  have : ∀ (l : List Str) (g : Groups), (g.map (·.1)).Nodup → ((l.foldl (fun g o => putG g (needsFor ws r o) o) g).map (·.1)).Nodup := by
    intro l
    induction l with
    | nil => exact fun _ h => h
    | cons o l ih => exact fun g h => ih _ (putG_nodup h)
  exact this outs [] List.nodup_nil
theorem sqT_put {K : PySem.W.Frag} {H : Hp} {a d : Addr} {u o : HO} {xs : List V} (e : H d = some u) (n1 : ∀ xs, u ≠ .tup xs) (n2 : ∀ ob xs, u ≠ .frz ob (.tup xs)) (h : SqT K H a xs) : SqT K (upd H d o) a xs := by
  rcases h with (h | ⟨ob, h⟩) | h
  · exact .inl (.inl ((upd_ne (fun z => by rw [z, e] at h; exact n1 _ (Option.some.inj h))).trans h))
  · exact .inl (.inr ⟨ob, (upd_ne (fun z => by rw [z, e] at h; exact n2 _ _ (Option.some.inj h))).trans h⟩)
  · exact .inr h
/-- the groups at G: lists that are new behind H0 -/
def GAt (H0 H : Hp) (G : Addr) (g : Groups) : Prop := ∃ ls : List Addr, ls.length = g.length ∧ ls.Nodup ∧ (∀ l ∈ ls, H0 l = none) ∧ H G = some (.dT (gK (g.map (·.1)) ls)) ∧ ∀ (i : Nat) (kv : List Str × List Str) (l : Addr), g[i]? = some kv → ls[i]? = some l → H l = some (.lst (kv.2.map V.str))
def spMP (K : PySem.W.Frag) (C : Addr) : Sp := fun vs H Q _ => ∃ (y ds dr : Addr) (n : Str) (ins outs : List Str) (ps : List (Str × Str)) (ws : List (Port × Port)) (r : Reach), vs = [.ref y, .ref ds, .ref dr] ∧ DgAt K C H y n ins outs ps ws ∧ PD (PortAt H) H ds ws ∧ ReachAt H dr r ∧ outs.length ≤ 8 ∧
  (∀ o ∈ outs, ∃ s l, look ws (Str.empty, o) = some s ∧ look r s = some l) ∧ ∀ t as H', Same H H' → H' t = some (.tup (as.map V.ref)) → FncsAt K H' as (profileOf outs ws r) → Q (.ref t) H'
theorem putG_len {g : Groups} {needs : List Str} {o : Str} {c : Nat} (h : ∀ kv ∈ g, kv.2.length ≤ c) : ∀ kv ∈ putG g needs o, kv.2.length ≤ c + 1 := by
  intro kv hkv
  unfold putG at hkv
  split at hkv
  · rename_i i _
    obtain ⟨j, hj⟩ := List.mem_iff_getElem?.mp hkv
    rw [List.getElem?_modify] at hj
    cases e : g[j]? with
    | none => rw [e] at hj; split at hj <;> cases hj
    | some kv0 =>
      have := h kv0 (List.mem_of_getElem? e)
      rw [e] at hj
      split at hj
      · have hj : some (kv0.1, kv0.2 ++ [o]) = some kv := hj
        cases hj
        rw [List.length_append]
        show _ + 1 ≤ _
        omega
      · have hj : some kv0 = some kv := hj
        cases hj
        omega
  · rcases List.mem_append.mp hkv with q | q
    · have := h kv q
      omega
    · rw [List.mem_singleton.mp q]
      show 1 ≤ _
      omega
theorem putG_keys (g : Groups) (needs : List Str) (o : Str) : (putG g needs o).length ≤ g.length + 1 := by
  unfold putG
  split
  · rw [List.length_modify]
    omega
  · rw [List.length_append]
    exact Nat.le_refl _
section
variable {P : Program} {w : World} {K : PySem.W.Frag} {mg : Str → Option Value} {base : Heap} {C : Addr}
abbrev nMP : List Str := ["diagram", "sources", "reach", "groups", "output", "needs"]
theorem scMP : FnScope nMP ["diagram", "sources", "reach"] (defScope sMP) := ⟨rfl, rfl, rfl, by decide +kernel, rfl, by decide +kernel, by decide +kernel⟩
theorem ok_mp {f : Addr} {fd : FuncData} (F : Fun K "_make_profile" "_make_profile" sMP f fd) (T : DgC K mg C) : FnOk P w K mg base CX0 1 f fd ["diagram", "sources", "reach"] (spMP K C) := by
  have zt := T.zt
  refine F.ok scMP (fun vs H Q E h => ?_) (fun cdv A outer s H vs Q E hr h => ?_)
  · obtain ⟨y, ds, dr, n, ins, outs, ps, ws, r, rfl, _⟩ := h
    rfl
  obtain ⟨y, ds, dr, n, ins, outs, ps, ws, r, rfl, hy, hs, hr1, hol, hlk, kk⟩ := h
  have hu := hr.units
  have hu1 := Nat.lt_of_le_of_lt (Nat.add_le_add_left (show 1 ≤ 64 by decide) _) hu
  refine ⟨_, (pss_cons (ps_set (i := 3) scMP.nd rfl (.inr rfl) pe_dnewT)
    (pss_cons (ps_for PassesOwn.never rfl (pi_tup (pe_fld (pv 0) rfl)) (pg_name (i := 4) scMP.nd rfl (.inl rfl))
    (pss_cons (ps_set (i := 5) scMP.nd rfl (.inl rfl) (pe_dget hu1 (pv 2) (pe_dget hu1 (pv 1) (pe_tup (pa_cons pe_str (pa_cons (pv 4) pa_nil))) (fun _ _ => rfl)) (fun _ _ => rfl)))
    (pss_one (ps_expr (pe_bm PySem.F.plainAttrs_list PySem.F.slot_list_append PySem.F.type_list_append mt_append (pe_bm PySem.F.plainAttrs_dict PySem.F.slot_dict_setdefault PySem.F.type_dict_setdefault (show MtR _ "dict.setdefault" rSetdT from mt_setdT hu1) (pv 3) (pa_cons (pv 5) (pa_cons (pe_lst pa_nil) pa_nil))) (pa_cons (pv 4) pa_nil))))))
    (pss_one (ps_lock (ps_ret (pe_callTy call_tuple_of (by rfl) zt (by decide +kernel) (pa_cons (pe_lc (own := [("needs", 5)]) (g := (gName 5)) rfl scMP.nd (pi_keys (pv 3)) (blkOk_by (own := [("needs", 5)]) (N := nMP) (sc := defScope sMP) (by decide +kernel)) (fun _ _ _ _ _ => by exact (pg_name (i := 5) scMP.nd rfl (Or.inl rfl))) (fun _ _ _ _ _ => pts_nil)
      (fun _ _ _ _ _ => by exact (pe_tup (pa_cons (pe_callTy (show CallR _ (.type "tuple") (rTO K) from call_tuple_of) (by rfl) zt (by decide +kernel) (pa_cons (pe_dget hu1 (pv 3) (pv 5) (fun _ _ => rfl)) pa_nil)) (pa_cons (pv 5) pa_nil))))) pa_nil))))))), ?_⟩
  have lt : ∀ {n : Nat}, n ≤ 100000 → n < sizeLine := fun h => by rw [sizeLine_eq]; omega
  obtain ⟨dx, ii, oo, pa, wa, pas, bs, hyo, hi, ho, hpa, hps, hwa, hws⟩ := hy
  refine fun G hG => ?_
  have hgl : ∀ m, (groupsOf (outs.take m) ws r).length ≤ m := fun m => by
    induction m with
    | zero => exact Nat.le_refl _
    | succ m ih =>
      cases e : outs[m]? with
      | none => rw [List.take_of_length_le (Nat.le_succ_of_le (by have := List.getElem?_eq_none_iff.mp e; omega))]; rw [List.take_of_length_le (by have := List.getElem?_eq_none_iff.mp e; omega)] at ih; omega
      | some o =>
        unfold groupsOf at ih ⊢
        rw [tk1 e, List.foldl_append]
        exact Nat.le_trans (putG_keys _ _ _) (by omega)
  have hgs : ∀ m, ∀ kv ∈ groupsOf (outs.take m) ws r, kv.2.length ≤ m := fun m => by
    induction m with
    | zero => exact fun _ h => nomatch h
    | succ m ih =>
      cases e : outs[m]? with
      | none =>
        have q := List.getElem?_eq_none_iff.mp e
        rw [List.take_of_length_le (Nat.le_succ_of_le q)]
        rw [List.take_of_length_le q] at ih
        exact fun kv h => Nat.le_succ_of_le (ih kv h)
      | some o =>
        unfold groupsOf at ih ⊢
        rw [tk1 e, List.foldl_append]
        exact putG_len ih
  refine ⟨_, rfl, y, C, dx, _, _, rfl, (upd_new hG) _ _ hyo, T.cl, T.nO, rfl, oo, rfl, ⟨_, sqT_same (upd_new hG) ho.sq⟩, ?_⟩
  refine for_tup (K := K) (a := oo) (xs := outs.map V.str) (fun m σ H' => ∃ u4 u5, σ = [some (.ref y), some (.ref ds), some (.ref dr), some (.ref G), u4, u5] ∧ Same H H' ∧ GAt H H' G (groupsOf (outs.take m) ws r))
    ⟨_, _, rfl, upd_new hG, [], rfl, List.nodup_nil, (fun _ h => nomatch h), upd_same, fun i kv l e _ => by cases e⟩ (fun m σ H' _ q => by
      obtain ⟨_, _, _, s, _⟩ := q
      exact sqT_same s ho.sq) ?turn ?done
  case turn =>
    rintro m x σ H1 hx ⟨u4, u5, rfl, s1, ls, hll, hln, hlf, hG1, hls⟩
    rw [List.getElem?_map] at hx
    obtain ⟨o, hom, rfl⟩ := Option.map_eq_some_iff.mp hx
    obtain ⟨sp, nl, hsp, hnl⟩ := hlk o (List.mem_of_getElem? hom)
    refine ⟨_, rfl, _, rfl, _, rfl, small1 (by show 2 ≤ 8; decide), fun k hk => ?_⟩
    have s2 := upd_new (o := HO.tup [V.str ("" : Str), V.str o]) hk
    have g2 : upd H1 k (HO.tup [V.str ("" : Str), V.str o]) k = some (.tup [V.str Str.empty, V.str o]) := upd_same
    obtain ⟨sa, hg1, hsa⟩ := (PD.same (s1.trans s2) hs).get (p := (Str.empty, o)) g2 hsp
    obtain ⟨na, hg2, hna⟩ := (ReachAt.same (s1.trans s2) hr1).get (p := sp) hsa hnl
    have hna : upd H1 k (HO.tup [V.str ("" : Str), V.str o]) na = some (.tup (nl.map V.str)) := hna
    have s12 := s1.trans s2
    have hG2 := s2 _ _ hG1
    have hls2 : ∀ (i : Nat) (kv : List Str × List Str) (l : Addr), (groupsOf (outs.take m) ws r)[i]? = some kv → ls[i]? = some l → upd H1 k (HO.tup [V.str ("" : Str), V.str o]) l = some (.lst (kv.2.map V.str)) := fun i kv l e1 e2 => s2 _ _ (hls i kv l e1 e2)
    generalize upd H1 k (HO.tup [V.str ("" : Str), V.str o]) = H2 at s12 hg1 hg2 hna hG2 hls2 ⊢
    have hnf : needsFor ws r o = nl := by
      unfold needsFor
      rw [hsp]
      show (look r sp).getD [] = nl
      rw [hnl]
      rfl
    have hgr : groupsOf (outs.take (m + 1)) ws r = putG (groupsOf (outs.take m) ws r) nl o := by
      unfold groupsOf
      rw [tk1 hom, List.foldl_append, List.foldl_cons, List.foldl_nil, hnf]
    rw [hgr]
    have hmb : m < 8 := by
      have := (List.getElem?_eq_some_iff.mp hom).1
      omega
    have hg8 := hgl m
    have hgs8 := hgs m
    generalize groupsOf (outs.take m) ws r = g at hll hG2 hls2 hg8 hgs8 ⊢
    clear hG1 hls hgr
    have hkl : ls.length = (g.map (·.1)).length := by rw [List.length_map]; exact hll
    refine ⟨ds, .ref sa, rfl, hg1, dr, .ref na, rfl, hg2, _, rfl, .inr (.inr (.inl ⟨rfl, .inr ⟨_, hG2⟩⟩)), _, rfl, small1 (by show 0 ≤ 8; decide), fun p hp => ?_⟩
    have s3 := upd_new (o := HO.lst []) hp
    have nG : p ≠ G := fun z => by rw [z, hG2] at hp; cases hp
    have npl : ∀ l ∈ ls, p ≠ l := fun l hl z => by
      obtain ⟨i, hi, e⟩ := List.getElem_of_mem hl
      have := hls2 i g[i] ls[i] (List.getElem?_eq_getElem (by omega)) (List.getElem?_eq_getElem hi)
      rw [e, ← z, hp] at this
      cases this
    have nGl : ∀ l ∈ ls, G ≠ l := fun l hl z => by
      obtain ⟨i, hi, e⟩ := List.getElem_of_mem hl
      have := hls2 i g[i] ls[i] (List.getElem?_eq_getElem (by omega)) (List.getElem?_eq_getElem hi)
      rw [e, ← z, hG2] at this
      cases this
    have hmap : ((nl.map Sum.inr : List Key).map kV) = nl.map V.str := by rw [List.map_map]; rfl
    obtain ⟨v1, v2⟩ := gK_val (g.map (·.1)) ls nl hkl
    refine ⟨G, na, gK (g.map (·.1)) ls, nl.map Sum.inr, .ref p, rfl, rfl, s3 _ _ hG2, by rw [hmap]; exact s3 _ _ hna, ?_, fun v hv => ?_, fun hn => ?_⟩
    · unfold gK
      rw [List.length_map, List.length_zip, hkl, Nat.min_self, List.length_map]
      exact lt (by omega)
    · cases hf : (g.map (·.1)).findIdx? (fun x => decide (x = nl)) with
      | none => rw [v2 hf] at hv; cases hv
      | some i =>
      have hil : i < g.length := by
        obtain ⟨q, _⟩ := List.findIdx?_eq_some_iff_getElem.mp hf
        rw [List.length_map] at q
        exact q
      have eg : g[i]? = some g[i] := List.getElem?_eq_getElem hil
      have el : ls[i]? = some ls[i] := List.getElem?_eq_getElem (by omega)
      rw [v1 i ls[i] hf el] at hv
      cases hv
      have hm := List.getElem_mem (show i < ls.length by omega)
      have hl3 := s3 _ _ (hls2 i _ _ eg el)
      have hpg : putG g nl o = g.modify i fun kv => (kv.1, kv.2 ++ [o]) := by
        unfold putG
        rw [hf]
      have hsum : g[i].2.length ≤ 100000 := Nat.le_trans (hgs8 _ (List.getElem_mem hil)) (by omega)
      refine ⟨.inl ⟨rfl, _, .of hl3⟩, _, rfl, ls[i], _, _, rfl, rfl, hl3, by rw [List.length_map]; exact lt hsum, _, _, rfl, fun b u e => ?_, ls, ?_, hln, hlf, ?_, fun j kv l e1 e2 => ?_⟩
      · have nb : b ≠ ls[i] := fun z => by rw [z, hlf _ hm] at e; cases e
        exact (upd_ne nb).trans (s3 _ _ (s12 _ _ e))
      · rw [hpg, List.length_modify]
        exact hll
      · rw [hpg]
        have : (g.modify i fun kv => (kv.1, kv.2 ++ [o])).map (·.1) = g.map (·.1) := by
          refine List.ext_getElem? fun q => ?_
          rw [List.getElem?_map, List.getElem?_modify, List.getElem?_map]
          cases g[q]? with
          | none => rfl
          | some kv => by_cases z : i = q <;> simp [z]
        rw [this, upd_ne (nGl _ hm)]
        exact s3 _ _ hG2
      · rw [hpg, List.getElem?_modify] at e1
        by_cases z : i = j
        · subst z
          rw [el] at e2
          cases e2
          rw [eg] at e1
          simp only [if_pos] at e1
          have e1 : some (g[i].1, g[i].2 ++ [o]) = some kv := e1
          cases e1
          rw [upd_same, List.map_append]
          rfl
        · have nl2 : l ≠ ls[i] := fun w => z ((List.getElem_inj (h₀ := (show i < ls.length by omega)) (h₁ := (List.getElem?_eq_some_iff.mp e2).1) hln).mp (w.symm.trans (List.getElem?_eq_some_iff.mp e2).2.symm))
          have e1 : g[j]? = some kv := by simpa [z] using e1
          rw [upd_ne nl2]
          exact s3 _ _ (hls2 j kv l e1 e2)
    · have hf : (g.map (·.1)).findIdx? (fun x => decide (x = nl)) = none := by
        cases hf : (g.map (·.1)).findIdx? (fun x => decide (x = nl)) with
        | none => rfl
        | some i =>
          have hil : i < ls.length := by
            obtain ⟨q, _⟩ := List.findIdx?_eq_some_iff_getElem.mp hf
            omega
          rw [v1 i ls[i] hf (List.getElem?_eq_getElem hil)] at hn
          cases hn
      have hpg : putG g nl o = g ++ [(nl, [o])] := by
        unfold putG
        rw [hf]
      rw [gK_put hkl hf]
      have hp4 : upd (upd H2 p (.lst [])) G (.dT (gK (g.map (·.1) ++ [nl]) (ls ++ [p]))) p = some (.lst []) := (upd_ne nG).trans upd_same
      have hp0 : H p = none := s12.free hp
      refine ⟨.inl ⟨rfl, _, .of hp4⟩, _, rfl, p, _, _, rfl, rfl, hp4, lt (Nat.zero_le _), _, _, rfl, fun b u e => ?_, ls ++ [p], ?_, ?_, ?_, ?_, fun j kv l e1 e2 => ?_⟩
      · have nb : b ≠ p := fun z => by rw [z, hp0] at e; cases e
        have nb2 : b ≠ G := fun z => by rw [z, hG] at e; cases e
        rw [upd_ne nb, upd_ne nb2, upd_ne nb]
        exact s12 _ _ e
      · rw [hpg, List.length_append, List.length_append, hll]
        rfl
      · exact List.nodup_append.mpr ⟨hln, List.nodup_cons.mpr ⟨List.not_mem_nil, List.nodup_nil⟩, fun x hx y hy => by rw [List.mem_singleton.mp hy]; exact (npl x hx).symm⟩
      · intro l hl
        rcases List.mem_append.mp hl with h | h
        · exact hlf l h
        · rw [List.mem_singleton.mp h]
          exact hp0
      · rw [hpg, List.map_append, upd_ne nG.symm, upd_same]
        rfl
      · rw [hpg] at e1
        by_cases hj : j < ls.length
        · rw [List.getElem?_append_left hj] at e2
          rw [List.getElem?_append_left (by omega)] at e1
          have hm := List.mem_of_getElem? e2
          rw [upd_ne (npl l hm).symm, upd_ne (nGl l hm).symm, upd_ne (npl l hm).symm]
          exact hls2 j kv l e1 e2
        · rw [List.getElem?_append_right (by omega)] at e1 e2
          have hj0 : j - ls.length = 0 := by
            have := (List.getElem?_eq_some_iff.mp e2).1
            simp at this
            omega
          rw [hj0] at e2
          rw [← hll, hj0] at e1
          cases e1
          cases e2
          rw [upd_same]
          rfl
  rintro σ H1 ⟨u4, u5, rfl, s1, ls, hll, hln, hlf, hG1, hls⟩
  rw [List.take_of_length_le (by rw [List.length_map]; exact Nat.le_refl _)] at hll hG1 hls
  have hg8 : (groupsOf outs ws r).length ≤ 8 := by
    have q := hgl outs.length
    rw [List.take_of_length_le (Nat.le_refl _)] at q
    omega
  have hpr : profileOf outs ws r = (groupsOf outs ws r).map fun g => (g.2, g.1) := rfl
  have hnd := groups_nodup outs ws r
  generalize groupsOf outs ws r = g at hll hG1 hls hg8 hpr hnd
  have hkl : ls.length = (g.map (·.1)).length := by rw [List.length_map]; exact hll
  refine ⟨G, _, hG1, trivial, fun od => ?_⟩
  have nGl : ∀ l ∈ ls, l ≠ G := fun l hl z => by
    obtain ⟨i, hi, e⟩ := List.getElem_of_mem hl
    have := hls i g[i] ls[i] (List.getElem?_eq_getElem (by omega)) (List.getElem?_eq_getElem hi)
    rw [e, z, hG1] at this
    cases this
  have klen : (gK (g.map (·.1)) ls).length = g.length := by
    unfold gK
    rw [List.length_map, List.length_zip, hkl, Nat.min_self, List.length_map]
  refine ⟨_, rfl, G, od, rfl, .inr ⟨_, upd_same, fun B hB => ?_⟩⟩
  refine out_it walk_keysT (fun m H' => Same H H' ∧ (∀ b u, b ≠ G → H1 b = some u → H' b = some u) ∧ H' G = some (.frz od (.dT (gK (g.map (·.1)) ls))) ∧ ∃ as, H' B = some (.lst (as.map V.ref)) ∧ FncsAt K H' as ((profileOf outs ws r).take m)) ⟨?_, ?_, ?_, [], upd_same, rfl, fun i a s e => by cases e⟩ (fun m H' _ q => q.2.2.1) ?_ ?_
  · intro b u e
    have e1 := s1 _ _ e
    have nb : b ≠ G := fun z => by rw [z, hG] at e; cases e
    have e2 : upd H1 G (.frz od (.dT (gK (g.map (·.1)) ls))) b = some u := (upd_ne nb).trans e1
    exact (upd_ne (ne_of_none e2 hB)).trans e2
  · intro b u nb e
    have e2 : upd H1 G (.frz od (.dT (gK (g.map (·.1)) ls))) b = some u := (upd_ne nb).trans e
    exact (upd_ne (ne_of_none e2 hB)).trans e2
  · exact (upd_ne (ne_of_none upd_same hB)).trans upd_same
  · rintro m x Hx H4 hm ⟨s4, x4, hG4, as, hB4, hf4⟩ ⟨rfl, key, v, q, hk, rfl, hq⟩
    have hmg : m < g.length := by rw [← klen]; exact hm
    have eg : g[m]? = some g[m] := List.getElem?_eq_getElem hmg
    have el : ls[m]? = some ls[m] := List.getElem?_eq_getElem (by omega)
    have hk2 : (gK (g.map (·.1)) ls)[m]? = some (g[m].1.map Sum.inr, V.ref ls[m]) := by
      unfold gK
      have ek : (g.map (·.1))[m]? = some g[m].1 := by rw [List.getElem?_map, eg]; rfl
      have hz : ((g.map (·.1)).zip ls)[m]? = some (g[m].1, ls[m]) := List.getElem?_zip_eq_some.mpr ⟨ek, el⟩
      rw [List.getElem?_map, hz]
      rfl
    rw [hk2] at hk
    cases hk
    have hmap : ((g[m].1.map Sum.inr : List Key).map kV) = g[m].1.map V.str := by rw [List.map_map]; rfl
    have hval := (gK_val (g.map (·.1)) ls g[m].1 hkl).1 m ls[m] (place (by rw [List.getElem?_map, eg]; rfl) hnd) el
    have hml := List.getElem_mem (show m < ls.length by omega)
    have hl4 := x4 _ _ (nGl _ hml) (hls m _ _ eg el)
    have hpm : (profileOf outs ws r)[m]? = some (g[m].2, g[m].1) := by rw [hpr, List.getElem?_map, eg]; rfl
    refine ⟨rfl, _, rfl, _, rfl, G, .ref ls[m], rfl, .inr ⟨_, _, q, .inr ⟨od, hG4⟩, rfl, hq, hval.symm⟩, ls[m], _, rfl, .inl ⟨.of hl4, fun t ht => ⟨_, rfl, small1 (by show 2 ≤ 8; decide), fun c hc => ?_⟩⟩⟩
    have s5 := upd_new (o := HO.tup (g[m].2.map V.str)) ht
    have s6 := upd_new (o := HO.tup [V.ref t, V.ref q]) hc
    have s56 := s5.trans s6
    have hB6 := s56 _ _ hB4
    have hG6 := s56 _ _ hG4
    have nGB : G ≠ B := fun z => by rw [z, hB4] at hG4; cases hG4
    have kp : ∀ {a : Addr} {xs : List V}, SqT K (upd (upd H4 t (HO.tup (g[m].2.map V.str))) c (HO.tup [V.ref t, V.ref q])) a xs → SqT K (upd (upd (upd H4 t (HO.tup (g[m].2.map V.str))) c (HO.tup [V.ref t, V.ref q])) B (.lst (as.map V.ref ++ [V.ref c]))) a xs := fun h => sqT_put hB6 (fun _ z => by cases z) (fun _ _ z => by cases z) h
    have hB0 : H B = none := by
      cases z : H B with
      | none => rfl
      | some u =>
        have nb : B ≠ G := nGB.symm
        have this : upd H1 G (HO.frz od (.dT (gK (g.map (·.1)) ls))) B = some u := (upd_ne nb).trans (s1 _ _ z)
        rw [hB] at this
        cases this
    refine ⟨_, hB6, ?_, same_put (s4.trans s56) hB0, fun b u n e => ?_, (upd_ne nGB).trans hG6, as ++ [c], ?_, ?_⟩
    · rw [List.length_map, hf4.1, List.length_take]
      exact lt (by omega)
    · have nb : b ≠ B := fun z => by
        rw [z] at e
        have := (upd_ne (o := HO.frz od (.dT (gK (g.map (·.1)) ls))) nGB.symm).trans e
        rw [hB] at this
        cases this
      exact (upd_ne nb).trans (s56 _ _ (x4 b u n e))
    · rw [upd_same, List.map_append]
      rfl
    · rw [tk1 hpm]
      have h1 : All2 (fun a s => FncAt K (upd (upd (upd H4 t (HO.tup (g[m].2.map V.str))) c (HO.tup [V.ref t, V.ref q])) B (.lst (as.map V.ref ++ [V.ref c]))) a s) as ((profileOf outs ws r).take m) := All2.imp (R := fun a s => FncAt K H4 a s) hf4 fun a s ⟨x, y, z1, z2, z3⟩ => ⟨x, y, kp (sqT_same s56 z1), kp (sqT_same s56 z2), kp (sqT_same s56 z3)⟩
      exact h1.snoc ⟨t, q, kp (.of upd_same), kp (.of (s6 _ _ upd_same)), kp (.of (s56 _ _ (by rw [hmap] at hq; exact hq)))⟩
  · rintro H4 ⟨s4, x4, hG4, as, hB4, hf4⟩
    rw [klen, List.take_of_length_le (by rw [hpr, List.length_map]; exact Nat.le_refl _)] at hf4
    refine ⟨B, _, rfl, .inl ⟨.of hB4, fun t ht => ?_⟩⟩
    have s5 := upd_new (o := HO.tup (as.map V.ref)) ht
    have hG5 := s5 _ _ hG4
    have nGt : t ≠ G := fun z => by rw [z, hG4] at ht; cases ht
    have kp : ∀ {a : Addr} {xs : List V}, SqT K (upd H4 t (HO.tup (as.map V.ref))) a xs → SqT K (upd (upd H4 t (HO.tup (as.map V.ref))) G (.dT (gK (g.map (·.1)) ls))) a xs := fun h => sqT_put hG5 (fun _ z => by cases z) (fun _ _ z => by cases z) h
    refine ⟨hG5, kk t as _ (fun b u e => ?_) ((upd_ne nGt).trans upd_same) ?_⟩
    · have nb : b ≠ G := fun z => by rw [z, hG] at e; cases e
      exact (upd_ne nb).trans (s5 _ _ (s4 _ _ e))
    · exact ⟨hf4.1, fun i a s e1 e2 => by
        obtain ⟨x, y, z1, z2, z3⟩ := hf4.2 i a s e1 e2
        exact ⟨x, y, kp (sqT_same s5 z1), kp (sqT_same s5 z2), kp (sqT_same s5 z3)⟩⟩
end
end K28
namespace K28
open PySem L2 Own StX ClX NdefX
abbrev sMS : Stmt := top 52
theorem SD.keep {H H' : Hp} {d : Addr} {ks : List Port} (h : SD H d ks) (e : ∀ u, H d = some u → H' d = some u) : SD H' d ks := by
  obtain ⟨kvs, h1, h2⟩ := h
  exact ⟨kvs, e _ h1, h2⟩
theorem SD.mrg {H : Hp} {d e : Addr} {ks ms : List Port} (h : SD H d ks) (k : SD H e ms) (n : d ≠ e) (hk : ks ≠ []) (hl : ks.length + ms.length ≤ sizeLine) :
    ∃ kvs more, H d = some (.dT kvs) ∧ H e = some (.dT more) ∧ kvs ≠ [] ∧ kvs.length + more.length ≤ sizeLine ∧ SD (upd H d (.dT (mergeT kvs more))) d (ks ++ ms) := by
  have q := h.merge k n hk hl (Q := fun _ H' => SD H' d (ks ++ ms)) fun H' s _ => s
  obtain ⟨a, b, kvs, more, e1, e2, _, e3, e4, e5, e6, e7⟩ := q
  cases e1
  cases e2
  exact ⟨kvs, more, e3, e4, e5, e6, e7⟩
def spMS (K : PySem.W.Frag) : Sp := fun vs H Q _ => ∃ (a ds lo df : Addr) (outs : List Str) (ps : List (Str × Str)) (ws : List (Port × Port)) (face : Str → Fc) (oas : List Addr) (order : List Call), vs = [.ref a, .ref ds, .ref lo, .ref df] ∧ SqT K H a (outs.map V.str) ∧ PD (PortAt H) H ds ws ∧ H lo = some (.lst (oas.map V.ref)) ∧ CallsAt H oas order ∧ FacesAt K H df ps face ∧ Sz ps face ∧
  (∀ c ∈ order, Good ps face c) ∧ (∀ o ∈ outs, (look ws (Str.empty, o)).isSome = true) ∧ outs.length ≤ 8 ∧ outs ≠ [] ∧ order.length ≤ 128 ∧ ∀ t H', Same H H' → Q (.ref t) H'
section
variable {P : Program} {w : World} {K : PySem.W.Frag} {mg : Str → Option Value} {base : Heap} {C : Addr}
abbrev nMS : List Str := ["outputs", "sources", "order", "faces", "results", "wanted", "needed", "call", "output", "_", "source", "port"]
theorem scMS : FnScope nMS ["outputs", "sources", "order", "faces"] (defScope sMS) := ⟨rfl, rfl, rfl, by decide +kernel, rfl, by decide +kernel, by decide +kernel⟩
theorem ok_ms {f fO : Addr} {fd fdO : FuncData} (F : Fun K "_make_step" "_make_step" sMS f fd) (zt : mg "tuple" = none) (zrev : mg "reversed" = none) (zany : mg "any" = none)
    (GO : FnOk P w K mg base CX0 1 fO fdO ["call", "faces"] (spCO K)) (mO : mg "_call_outputs" = some (.ref fO)) (kO : PySem.W.keepIn K (.ref fO) = true) (bO : Binds K fdO ["call", "faces"] []) :
    FnOk P w K mg base CX0 2 f fd ["outputs", "sources", "order", "faces"] (spMS K) := by
  refine F.ok scMS (fun vs H Q E h => ?_) (fun cdv A outer s H vs Q E hr h => ?_)
  · obtain ⟨a, ds, lo, df, outs, ps, ws, face, oas, order, rfl, _⟩ := h
    rfl
  obtain ⟨a, ds, lo, df, outs, ps, ws, face, oas, order, rfl, ha, hs, hlo, hcs, hf, z, hgood, hlk, hol, hone, h128, kk⟩ := h
  have hu := hr.units
  have hu1 := Nat.lt_of_le_of_lt (Nat.add_le_add_left (show 1 ≤ 64 by decide) _) hu
  have hu0 := Nat.lt_of_le_of_lt (Nat.le_add_right _ 64) hu
  refine ⟨_, (pss_cons (ps_setLc (i := 4) (own := [("output", 8)]) (g := (gName 8)) rfl scMS.nd rfl rfl (sw_true rfl rfl rfl (by decide +kernel)) (pi_tup (pv 0)) (blkOk_by (own := [("output", 8)]) (N := nMS) (sc := defScope sMS) (by decide +kernel)) (fun _ _ _ _ _ => by exact (pg_name (i := 8) scMS.nd rfl (Or.inl rfl))) (fun _ _ _ _ _ => pts_nil)
      (fun _ _ _ _ _ => by exact (pe_tup (pa_cons (pv 8) (pa_cons (pe_dget hu1 (pv 1) (pe_tup (pa_cons pe_str (pa_cons (pv 8) pa_nil))) (fun _ _ => rfl)) pa_nil)))))
    (pss_cons (ps_set (i := 5) scMS.nd rfl (.inr rfl) (by exact (pe_dcT (own := [("_", 9), ("source", 10)]) (g := (gTup K 2 (gCons (gName 9) (gCons (gName 10) gNil)))) (.dT []) (.inl rfl) hu0 rfl scMS.nd (pi_list (pv 4)) (blkOk_by (own := [("_", 9), ("source", 10)]) (N := nMS) (sc := defScope sMS) (by decide +kernel)) (fun _ _ _ _ _ => by exact (pg_tup (by rfl) (pgs_cons (pg_name (i := 9) scMS.nd rfl (Or.inl rfl)) (pgs_cons (pg_name (i := 10) scMS.nd rfl (Or.inl rfl)) pgs_nil)))) (fun _ _ _ _ _ => pts_nil) (fun _ _ _ _ _ => by exact (pv 10)) (fun _ _ _ _ _ => pe_bl))))
    (pss_cons (ps_set (i := 6) scMS.nd rfl (.inl rfl) (pe_lst pa_nil))
    (pss_cons (ps_for PassesOwn.never rfl (pi_reversed (by rfl) zrev (pa_cons (pv 2) pa_nil)) (pg_name (i := 7) scMS.nd rfl (.inl rfl))
     (pss_one (ps_if (pt_val (pe_callB (id := "any") (cr_any rfl) (by rfl) zany (by decide +kernel) (pa_cons (pe_lc (own := [("port", 11)]) (g := (gName 11)) rfl scMS.nd (pi_list (pe_call GO hr rfl mO kO bO .nil pass0 (pa_cons (pv 7) (pa_cons (pv 3) pa_nil)))) (blkOk_by (own := [("port", 11)]) (N := nMS) (sc := defScope sMS) (by decide +kernel)) (fun _ _ _ _ _ => by exact (pg_name (i := 11) scMS.nd rfl (Or.inl rfl))) (fun _ _ _ _ _ => pts_nil)
      (fun _ _ _ _ _ => by exact (pe_cmp (pc_din hu1 (pv 11) (pv 5)) (by rfl)))) pa_nil))) (pss_cons (ps_expr (pe_bm PySem.F.plainAttrs_list PySem.F.slot_list_append PySem.F.type_list_append mt_append (pv 6) (pa_cons (pv 7) pa_nil)))
    (pss_one (ps_expr (pe_bm PySem.F.plainAttrs_dict PySem.F.slot_dict_update PySem.F.type_dict_update (show MtR _ "dict.update" rUpdT from mt_updT hu1) (pv 5) (pa_cons (pe_dcT (own := [("_", 9), ("source", 10)]) (g := (gTup K 2 (gCons (gName 9) (gCons (gName 10) gNil)))) (.dT []) (.inl rfl) hu0 rfl scMS.nd (pi_tup (pe_ix (show IxR _ (rIxT K) from ix_tup) (pv 7) pe_int (fun _ _ => rfl))) (blkOk_by (own := [("_", 9), ("source", 10)]) (N := nMS) (sc := defScope sMS) (by decide +kernel)) (fun _ _ _ _ _ => by exact (pg_tup (by rfl) (pgs_cons (pg_name (i := 9) scMS.nd rfl (Or.inl rfl)) (pgs_cons (pg_name (i := 10) scMS.nd rfl (Or.inl rfl)) pgs_nil)))) (fun _ _ _ _ _ => pts_nil) (fun _ _ _ _ _ => by exact (pv 10)) (fun _ _ _ _ _ => pe_bl)) pa_nil))))) pss_nil)))
    (pss_one (ps_ret (pe_tup (pa_cons (RT.pe_tupRev rfl (by rfl) zt (by rfl) zrev (pv 6)) (pa_cons (pe_callTy call_tuple_of (by rfl) zt (by decide +kernel) (pa_cons (pv 4) pa_nil)) pa_nil))))))))), ?_⟩
  have lt : ∀ {n : Nat}, n ≤ 100000 → n < sizeLine := fun h => by rw [sizeLine_eq]; omega
  refine ⟨_, rfl, a, rfl, ⟨_, ha⟩, fun R hR => ?_⟩
  -- results: as arguments
  refine out_it (walk_tup (xs := outs.map V.str)) (fun m H' => Same H H' ∧ ∃ bs, H' R = some (.lst (bs.map V.ref)) ∧ All2 (ArgAt H') bs ((outs.map fun o => (o, (look ws (Str.empty, o)).getD (Str.empty, Str.empty))).take m)) ⟨upd_new hR, [], upd_same, .nil⟩ (fun m H' _ q => sqT_same q.1 ha) ?_ ?_
  · rintro m x Hx H4 hm ⟨s4, bs4, hD4, hb4⟩ ⟨rfl, hx⟩
    rw [List.getElem?_map] at hx
    obtain ⟨o, hom, rfl⟩ := Option.map_eq_some_iff.mp hx
    obtain ⟨v, hv⟩ := Option.isSome_iff_exists.mp (hlk o (List.mem_of_getElem? hom))
    have harg : (outs.map fun o => (o, (look ws (Str.empty, o)).getD (Str.empty, Str.empty)))[m]? = some (o, v) := by
      rw [List.getElem?_map, hom]
      show some (o, (look ws (Str.empty, o)).getD _) = _
      rw [hv]
      rfl
    refine ⟨rfl, _, rfl, _, rfl, _, rfl, small1 (by show 2 ≤ 8; decide), fun k hk => ?_⟩
    have s5 := upd_new (o := HO.tup [V.str ("" : Str), V.str o]) hk
    have g5 : upd H4 k (HO.tup [V.str ("" : Str), V.str o]) k = some (.tup [V.str Str.empty, V.str o]) := upd_same
    generalize upd H4 k (HO.tup [V.str ("" : Str), V.str o]) = H5 at s5 g5 ⊢
    have s45 := s4.trans s5
    obtain ⟨sa, hg, hsa⟩ := (PD.same s45 hs).get (p := (Str.empty, o)) g5 hv
    refine ⟨ds, .ref sa, rfl, hg, small1 (by show 2 ≤ 8; decide), fun q hq => ?_⟩
    have s6 := upd_new (o := HO.tup [V.str o, V.ref sa]) hq
    have g6 : upd H5 q (HO.tup [V.str o, V.ref sa]) q = some (.tup [V.str o, V.ref sa]) := upd_same
    generalize upd H5 q (HO.tup [V.str o, V.ref sa]) = H6 at s6 g6 ⊢
    have s56 := s5.trans s6
    refine ⟨_, s56 _ _ hD4, ?_, same_put (s45.trans s6) hR, bs4 ++ [q], ?_, ?_⟩
    · have := hb4.1
      rw [List.length_map, this, List.length_take, List.length_map]
      exact lt (by omega)
    · rw [upd_same, List.map_append]
      rfl
    · rw [tk1 harg]
      have kp : TupS H6 (upd H6 R (HO.lst (List.map V.ref bs4 ++ [V.ref q]))) := fun b xs e => by
        rw [upd_ne (fun z => by rw [z, s56 _ _ hD4] at e; cases e)]
        exact e
      have kp4 : TupS H4 (upd H6 R (HO.lst (List.map V.ref bs4 ++ [V.ref q]))) := fun b xs e => kp _ _ (s56 _ _ e)
      exact (hb4.imp fun _ _ => ArgAt.keep kp4).snoc ⟨sa, kp _ _ g6, kp _ _ (s6 _ _ hsa)⟩
  rintro H1 ⟨s1, rbs, hR1, hb1⟩
  rw [List.take_of_length_le (by rw [List.length_map, List.length_map]; exact Nat.le_refl _)] at hb1
  generalize hxs : (outs.map fun o => (o, (look ws (Str.empty, o)).getD (Str.empty, Str.empty))) = xs at hb1
  have hxl : xs.length = outs.length := by rw [← hxs, List.length_map]
  have hR0 : H R = none := hR
  -- wanted
  have lt8 : ∀ {c : Call}, c ∈ order → c.args.length ≤ 8 := fun h => (hgood _ h).al
  refine ⟨_, rfl, R, rfl, ⟨_, .of hR1⟩, fun W hW => ?_⟩
  have hW0 : H W = none := s1.free hW
  refine out_it (walk_list (xs := rbs.map V.ref)) (fun m H' => Same H1 H' ∧ SD H' W ((xs.take m).map (·.2))) ⟨upd_new hW, SD.nil upd_same⟩ (fun m H' _ q => .of (q.1 _ _ hR1)) ?_ ?_
  · rintro m x Hx H4 hm ⟨s4, sd4⟩ ⟨rfl, hx⟩
    rw [List.getElem?_map] at hx
    obtain ⟨b, hb, rfl⟩ := Option.map_eq_some_iff.mp hx
    obtain ⟨ar, har, sp, h1, h2⟩ := hb1.at hb
    obtain ⟨H6, dp, sd, keep⟩ := sd4.put (p := ar.2) (b := sp) (s4 _ _ h2) (by rw [List.length_map, List.length_take]; exact lt (by omega))
    refine ⟨b, _, rfl, .of (s4 _ _ h1), rfl, _, _, rfl, _, _, rfl, rfl, rfl, _, rfl, H6, dp, fun c u e => ?_, ?_⟩
    · have nc : c ≠ W := fun z => by rw [z, hW] at e; cases e
      rw [keep c nc]
      exact s4 _ _ e
    · rw [tk1 har, List.map_append]
      exact sd
  rintro H2 ⟨s2, sd2⟩
  rw [List.take_of_length_le (by rw [List.length_map, hb1.1]; exact Nat.le_refl _)] at sd2
  have s12 := s1.trans s2
  have hR2 := s2 _ _ hR1
  refine ⟨small1 (by show 0 ≤ 8; decide), fun N hN => ?_⟩
  have s3 := upd_new (o := HO.lst []) hN
  have hN0 : H N = none := s12.free hN
  have hNW : N ≠ W := fun z => by
    obtain ⟨kvs, e, _⟩ := sd2
    rw [z, e] at hN
    cases hN
  have hNR : N ≠ R := fun z => by rw [z, hR2] at hN; cases hN
  have hWR : W ≠ R := fun z => by rw [z, hR1] at hW; cases hW
  have s13 := s12.trans s3
  refine ⟨_, rfl, lo, _, rfl, .of (s13 _ _ hlo), ?_⟩
  refine for_it (walk_rev (xs := oas.map V.ref)) (fun m σ H' => ∃ u7 nas ks, σ = [some (.ref a), some (.ref ds), some (.ref lo), some (.ref df), some (.ref R), some (.ref W), some (.ref N), u7, none, none, none, none] ∧ Same H H' ∧ H' R = some (.lst (rbs.map V.ref)) ∧ SD H' W ks ∧ ks ≠ [] ∧ ks.length ≤ 8 + 8 * m ∧ H' N = some (.lst (nas.map V.ref)) ∧ nas.length ≤ m)
    ⟨_, [], xs.map (·.2), rfl, s13, s3 _ _ hR2, sd2.keep (fun u e => s3 _ _ e), ?_, ?_, upd_same, Nat.le_refl _⟩ (fun m σ H' _ q => by
      obtain ⟨_, _, _, _, s, _⟩ := q
      exact .of (s _ _ hlo)) ?turn ?done
  · intro e
    have : xs = [] := List.map_eq_nil_iff.mp e
    rw [this] at hxl
    exact hone (List.eq_nil_of_length_eq_zero hxl.symm)
  · rw [List.length_map]
    omega
  case done =>
    rintro σ H' ⟨u7, nas, ks, rfl, s', hR', sd', hks, hkl, hN', hnl⟩
    refine ⟨_, rfl, N, _, rfl, .of hN', fun q hq => ⟨_, rfl, R, _, rfl, .inl ⟨.of ((upd_new hq) _ _ hR'), fun t ht => ⟨small1 (by show 2 ≤ 8; decide), fun v hv => ?_⟩⟩⟩⟩
    exact kk v _ (((s'.trans (upd_new hq)).trans (upd_new ht)).trans (upd_new hv))
  rintro m x σ Hx H4 hm ⟨u7, nas, ks, rfl, s4, hR4, sd4, hks, hkl, hN4, hnl⟩ ⟨rfl, hx⟩
  rw [List.length_map, List.getElem?_map] at hx
  rw [List.length_map] at hm
  obtain ⟨ca, hca, rfl⟩ := Option.map_eq_some_iff.mp hx
  obtain ⟨c, hc, hcat⟩ := All2.at hcs hca
  have hcm := List.mem_of_getElem? hc
  have hm128 : m < 128 := by
    have := hcs.1
    omega
  obtain ⟨⟨pc, hpc, hpcn, sc, hsc⟩, hal8⟩ := hgood c hcm
  refine ⟨_, rfl, _, rfl, ca, df, c, ps, face, pc, sc, rfl, CallAt.keep (TupS.of s4) hcat, FacesAt.same s4 hf, z, hpc, hpcn, hsc, fun PL pas H5 s5 hPL hpas => ⟨PL, rfl, ⟨_, .of hPL⟩, fun D hD => ?_⟩⟩
  have hpo8 : (callOuts face c).length ≤ 8 := by
    unfold callOuts
    rw [hsc, List.length_map]
    exact (z.nl pc hpc sc (by rw [hpcn]; exact List.mem_of_getElem? hsc)).1
  have s45 := s4.trans s5
  refine out_it (walk_list (xs := pas.map V.ref)) (fun k H' => Same H5 H' ∧ H' D = some (.lst (((callOuts face c).take k).map fun p => V.bl (decide (p ∈ ks))))) ⟨upd_new hD, upd_same⟩ (fun k H' _ q => .of (q.1 _ _ hPL)) ?_ ?_
  · rintro k x Hy H6 hk ⟨s6, hD6⟩ ⟨rfl, hx⟩
    rw [List.getElem?_map] at hx
    obtain ⟨pk, hpk, rfl⟩ := Option.map_eq_some_iff.mp hx
    obtain ⟨pt6, hpt6, hpat⟩ := hpas.at hpk
    have hpat : H5 pk = some (.tup [.str pt6.1, .str pt6.2]) := hpat
    obtain ⟨o, hg, ho⟩ := (sd4.keep (H' := H6) (fun u e => s6 _ _ (s5 _ _ e))).has (p := pt6) (s6 _ _ hpat)
    refine ⟨rfl, _, rfl, _, rfl, W, o, rfl, hg, _, hD6, ?_, same_put s6 hD, ?_⟩
    · rw [List.length_map, List.length_take]
      exact lt (by omega)
    · rw [upd_same, tk1 hpt6, List.map_append, ho]
      rfl
  rintro H6 ⟨s6, hD6⟩
  rw [List.take_of_length_le (by rw [List.length_map, hpas.1]; exact Nat.le_refl _)] at hD6
  refine ⟨D, (callOuts face c).map fun p => decide (p ∈ ks), rfl, .of (by rw [hD6, List.map_map]; rfl), _, rfl, ?_⟩
  have s46 := s45.trans s6
  have hR6 := s6 _ _ (s5 _ _ hR4)
  have hN6 := s6 _ _ (s5 _ _ hN4)
  have sd6 := sd4.keep (H' := H6) (fun u e => s6 _ _ (s5 _ _ e))
  cases hany : ((callOuts face c).map fun p => decide (p ∈ ks)).any id with
  | false => exact iteF ⟨_, nas, ks, rfl, s46, hR6, sd6, hks, by omega, hN6, by omega⟩
  | true =>
  refine iteT ⟨_, rfl, .inl ⟨rfl, _, .of hN6⟩, _, rfl, N, _, _, rfl, rfl, hN6, by rw [List.length_map]; exact lt (by omega), ?_⟩
  rw [show nas.map V.ref ++ [V.ref ca] = (nas ++ [ca]).map V.ref by rw [List.map_append]; rfl]
  have s7 : Same H (upd H6 N (.lst ((nas ++ [ca]).map V.ref))) := same_put s46 hN0
  have hN7 : upd H6 N (.lst ((nas ++ [ca]).map V.ref)) N = _ := upd_same
  have hR7 : upd H6 N (.lst ((nas ++ [ca]).map V.ref)) R = _ := (upd_ne hNR.symm).trans hR6
  have sd7 := sd6.keep (H' := upd H6 N (.lst ((nas ++ [ca]).map V.ref))) (fun u e => (upd_ne hNW.symm).trans e)
  generalize upd H6 N (.lst ((nas ++ [ca]).map V.ref)) = H7 at s7 hN7 hR7 sd7 ⊢
  obtain ⟨t, bs, hc1, hc2, hc3⟩ := hcat
  have hWd : ∃ kvs, H7 W = some (.dT kvs) := by
    obtain ⟨kvs, e, _⟩ := sd7
    exact ⟨kvs, e⟩
  obtain ⟨wk, hWd⟩ := hWd
  refine ⟨_, rfl, .inr (.inr (.inl ⟨rfl, .inr ⟨_, hWd⟩⟩)), _, rfl, ca, _, 2, _, rfl, rfl, .of (s7 _ _ hc1), at_of (j := 2) rfl rfl, t, rfl, ⟨_, .of (s7 _ _ hc2)⟩, fun D2 hD2 => ?_⟩
  refine out_it (walk_tup (xs := bs.map V.ref)) (fun k H' => Same H7 H' ∧ SD H' D2 ((c.args.take k).map (·.2))) ⟨upd_new hD2, SD.nil upd_same⟩ (fun k H' _ q => .of (q.1 _ _ (s7 _ _ hc2))) ?_ ?_
  · rintro k x Hy H8 hk ⟨s8, sd8⟩ ⟨rfl, hx⟩
    rw [List.getElem?_map] at hx
    obtain ⟨b, hb, rfl⟩ := Option.map_eq_some_iff.mp hx
    obtain ⟨ar, har, sp, h1, h2⟩ := hc3.at hb
    have s78 := s7.trans s8
    obtain ⟨H9, dp, sd, keep⟩ := sd8.put (p := ar.2) (b := sp) (s78 _ _ h2) (by rw [List.length_map, List.length_take]; exact lt (by omega))
    refine ⟨b, _, rfl, .of (s78 _ _ h1), rfl, _, _, rfl, _, _, rfl, rfl, rfl, _, rfl, H9, dp, fun e u ee => ?_, ?_⟩
    · have nc : e ≠ D2 := fun z => by rw [z, hD2] at ee; cases ee
      rw [keep e nc]
      exact s8 _ _ ee
    · rw [tk1 har, List.map_append]
      exact sd
  rintro H8 ⟨s8, sd8⟩
  rw [List.take_of_length_le (by rw [List.length_map, hc3.1]; exact Nat.le_refl _)] at sd8
  have nWD : W ≠ D2 := fun z => by rw [← z, hWd] at hD2; cases hD2
  have sdW := sd7.keep (H' := H8) (fun u e => s8 _ _ e)
  have hR8 := s8 _ _ hR7
  have hN8 := s8 _ _ hN7
  obtain ⟨kvs, more, e1, e2, e3, e4, sd9⟩ := sdW.mrg sd8 nWD hks (by rw [List.length_map, sizeLine_eq]; omega)
  have keep9 : ∀ b, b ≠ W → upd H8 W (.dT (mergeT kvs more)) b = H8 b := fun b n => upd_ne n
  refine ⟨W, D2, kvs, more, rfl, rfl, nWD, e1, e2, e3, e4, ?_⟩
  refine ⟨_, nas ++ [ca], ks ++ c.args.map (·.2), rfl, fun b u e => ?_, ?_, sd9, ?_, ?_, ?_, ?_⟩
  · have nb : b ≠ W := fun z => by rw [z, hW0] at e; cases e
    rw [keep9 b nb]
    exact s8 _ _ (s7 _ _ e)
  · rw [keep9 R hWR.symm]
    exact hR8
  · intro e
    exact hks (List.append_eq_nil_iff.mp e).1
  · rw [List.length_append, List.length_map]
    omega
  · rw [keep9 N hNW]
    exact hN8
  · rw [List.length_append]
    show _ + 1 ≤ _
    omega
end
end K28
namespace K28
open PySem L2 Own StX ClX NdefX
abbrev sCW : Stmt := top 44
def tgs (sel : Fc → List Str) (ps : List (Str × Str)) (face : Str → Fc) : List Port := ps.flatMap fun p => (sel (face p.1)).map fun n => (p.1, n)
def own0 (l : List Str) : List Port := l.map fun n => (Str.empty, n)
theorem sqx {K : PySem.W.Frag} {H H' : Hp} {d a : Addr} {kvs : List (Key × V)} {xs : List V} (e : H d = some (.dK kvs)) (x : ∀ b u, b ≠ d → H b = some u → H' b = some u) (h : SqT K H a xs) : SqT K H' a xs := by
  rcases h with (h | ⟨ob, h⟩) | h
  · exact .inl (.inl (x _ _ (fun z => by rw [z, e] at h; cases h) h))
  · exact .inl (.inr ⟨ob, x _ _ (fun z => by rw [z, e] at h; cases h) h⟩)
  · exact .inr h
structure WOk (ins outs : List Str) (ps : List (Str × Str)) (face : Str → Fc) (ws : List (Port × Port)) : Prop where
  pl : ps.length ≤ 16
  nd : (ps.map (·.1)).Nodup
  fl : ∀ p ∈ ps, (face p.1).ins.length ≤ 8 ∧ (face p.1).outs.length ≤ 8
  il : ins.length ≤ 8
  ol : outs.length ≤ 8
  wl : ws.length ≤ 1000
  n1 : tgs (·.ins) ps face ≠ []
  n2 : tgs (·.outs) ps face ≠ []
  wt : ∀ w ∈ ws, w.1 ∈ tgs (·.ins) ps face ++ own0 outs ∧ w.2 ∈ tgs (·.outs) ps face ++ own0 ins
  tw : ∀ t ∈ tgs (·.ins) ps face ++ own0 outs, t ∈ ws.map (·.1)
def spCW (K : PySem.W.Frag) (C : Addr) : Sp := fun vs H Q _ => ∃ (y df : Addr) (n : Str) (ins outs : List Str) (ps : List (Str × Str)) (ws : List (Port × Port)) (face : Str → Fc), vs = [.ref y, .ref df] ∧ DgAt K C H y n ins outs ps ws ∧ FacesAt K H df ps face ∧ WOk ins outs ps face ws ∧ ∀ H', Same H H' → Q .non H'
section
variable {P : Program} {w : World} {K : PySem.W.Frag} {mg : Str → Option Value} {base : Heap} {C : Addr}
abbrev nCW : List Str := ["diagram", "faces", "targets", "sources", "wired", "target", "source", "part", "name"]
theorem scCW : FnScope nCW ["diagram", "faces"] (defScope sCW) := ⟨rfl, rfl, rfl, by decide +kernel, rfl, by decide +kernel, by decide +kernel⟩
theorem ok_cw {f : Addr} {fd : FuncData} (F : Fun K "check_wires" "check_wires" sCW f fd) (T : DgC K mg C) : FnOk P w K mg base CX0 1 f fd ["diagram", "faces"] (spCW K C) := by
  refine F.ok scCW (fun vs H Q E h => ?_) (fun cdv A outer s H vs Q E hr h => ?_)
  · obtain ⟨y, df, n, ins, outs, ps, ws, face, rfl, _⟩ := h
    rfl
  obtain ⟨y, df, n, ins, outs, ps, ws, face, rfl, hy, hf, ok, kk⟩ := h
  have hu := hr.units
  have hu1 := Nat.lt_of_le_of_lt (Nat.add_le_add_left (show 1 ≤ 64 by decide) _) hu
  have hu0 := Nat.lt_of_le_of_lt (Nat.le_add_right _ 64) hu
  refine ⟨_, (pss_cons (ps_lock (by exact (ps_setdcT2 (i := 2) (own := [("part", 7), ("name", 8)]) (g := gName 7) (g1 := gName 8) (wi1 := iTup K (tOp (rIxT K) (tDGet (tVar 1) (tVar 7)) (tC (V.int 0)))) (vs1 := [8]) (.dT []) (.inl rfl) hu0 rfl scCW.nd rfl rfl (sw_trueD rfl rfl rfl (by decide +kernel)) (pi_keys (pv 1)) (blkOk_by (own := [("part", 7), ("name", 8)]) (N := nCW) (sc := defScope sCW) (by decide +kernel)) (by decide) (fun _ _ _ _ _ => pg_name (i := 7) scCW.nd rfl (Or.inl rfl)) (fun _ _ _ _ _ => pts_nil)
      (fun _ _ _ _ _ => by exact (pi_tup (pe_ix (show IxR _ (rIxT K) from ix_tup) (pe_dget hu1 (pv 1) (pv 7) (fun _ _ => rfl)) pe_int (fun _ _ => rfl)))) (fun _ _ _ _ _ => pg_name (i := 8) scCW.nd rfl (Or.inl rfl)) (fun _ _ _ _ _ => pts_nil) (fun _ _ _ _ _ => by exact (pe_tup (pa_cons (pv 7) (pa_cons (pv 8) pa_nil)))) (fun _ _ _ _ _ => pe_bl))))
    (pss_cons (ps_lock (by exact (ps_setdcT2 (i := 3) (own := [("part", 7), ("name", 8)]) (g := gName 7) (g1 := gName 8) (wi1 := iTup K (tOp (rIxT K) (tDGet (tVar 1) (tVar 7)) (tC (V.int 1)))) (vs1 := [8]) (.dT []) (.inl rfl) hu0 rfl scCW.nd rfl rfl (sw_trueD rfl rfl rfl (by decide +kernel)) (pi_keys (pv 1)) (blkOk_by (own := [("part", 7), ("name", 8)]) (N := nCW) (sc := defScope sCW) (by decide +kernel)) (by decide) (fun _ _ _ _ _ => pg_name (i := 7) scCW.nd rfl (Or.inl rfl)) (fun _ _ _ _ _ => pts_nil)
      (fun _ _ _ _ _ => by exact (pi_tup (pe_ix (show IxR _ (rIxT K) from ix_tup) (pe_dget hu1 (pv 1) (pv 7) (fun _ _ => rfl)) pe_int (fun _ _ => rfl)))) (fun _ _ _ _ _ => pg_name (i := 8) scCW.nd rfl (Or.inl rfl)) (fun _ _ _ _ _ => pts_nil) (fun _ _ _ _ _ => by exact (pe_tup (pa_cons (pv 7) (pa_cons (pv 8) pa_nil)))) (fun _ _ _ _ _ => pe_bl))))
    (pss_cons (ps_expr (pe_bm PySem.F.plainAttrs_dict PySem.F.slot_dict_update PySem.F.type_dict_update (show MtR _ "dict.update" rUpdT from mt_updT hu1) (pv 2) (pa_cons (pe_dcT (own := [("name", 8)]) (g := gName 8) (.dT []) (.inl rfl) hu0 rfl scCW.nd (pi_tup (pe_fld (pv 0) rfl)) (blkOk_by (own := [("name", 8)]) (N := nCW) (sc := defScope sCW) (by decide +kernel)) (fun _ _ _ _ _ => pg_name (i := 8) scCW.nd rfl (Or.inl rfl)) (fun _ _ _ _ _ => pts_nil) (fun _ _ _ _ _ => by exact (pe_tup (pa_cons pe_str (pa_cons (pv 8) pa_nil)))) (fun _ _ _ _ _ => pe_bl)) pa_nil)))
    (pss_cons (ps_expr (pe_bm PySem.F.plainAttrs_dict PySem.F.slot_dict_update PySem.F.type_dict_update (show MtR _ "dict.update" rUpdT from mt_updT hu1) (pv 3) (pa_cons (pe_dcT (own := [("name", 8)]) (g := gName 8) (.dT []) (.inl rfl) hu0 rfl scCW.nd (pi_tup (pe_fld (pv 0) rfl)) (blkOk_by (own := [("name", 8)]) (N := nCW) (sc := defScope sCW) (by decide +kernel)) (fun _ _ _ _ _ => pg_name (i := 8) scCW.nd rfl (Or.inl rfl)) (fun _ _ _ _ _ => pts_nil) (fun _ _ _ _ _ => by exact (pe_tup (pa_cons pe_str (pa_cons (pv 8) pa_nil)))) (fun _ _ _ _ _ => pe_bl)) pa_nil)))
    (pss_cons (ps_set (i := 4) scCW.nd rfl (.inl rfl) pe_dnewT)
    (pss_cons (ps_for PassesOwn.never rfl (pi_tup (pe_fld (pv 0) rfl)) (pg_tup (by rfl) (pgs_cons (pg_name (i := 5) scCW.nd rfl (.inl rfl)) (pgs_cons (pg_name (i := 6) scCW.nd rfl (.inl rfl)) pgs_nil)))
    (pss_cons (ps_dput hu1 (pv 4) (pv 5) pe_bl rfl)
    (pss_cons (ps_if (pt_cmp (pc_dnotin hu1 (pv 5) (pv 2)) (by rfl)) pss_never pss_nil)
    (pss_one (ps_if (pt_cmp (pc_dnotin hu1 (pv 6) (pv 3)) (by rfl)) pss_never pss_nil)))))
    (pss_one (ps_lock (ps_for PassesOwn.never rfl (pi_keys (pv 2)) (pg_name (i := 5) scCW.nd rfl (.inl rfl))
    (pss_one (ps_if (pt_cmp (pc_dnotin hu1 (pv 5) (pv 4)) (by rfl)) pss_never pss_nil))))))))))), ?_⟩
  have lt : ∀ {n : Nat}, n ≤ 100000 → n < sizeLine := fun h => by rw [sizeLine_eq]; omega
  obtain ⟨dx, ii, oo, pa, wa, pas, bs, hyo, hi, ho, hpa, hps, hwa, hws⟩ := hy
  obtain ⟨fs, hfd, hfs⟩ := hf
  refine ⟨df, _, (Same.refl H) _ _ hfd, trivial, fun od => ⟨_, rfl, df, od, rfl, .inl ⟨_, upd_same, fun D hD => ?_⟩⟩⟩
  have nDdf : D ≠ df := fun z => by rw [z, upd_same] at hD; cases hD
  have hDs : H D = none := (upd_ne nDdf).symm.trans hD
  have hD0 : H D = none := (Same.refl H).free hDs
  refine out_it walk_keys (fun m H' => (∀ b u, b ≠ df → H b = some u → H' b = some u) ∧ H' df = some (.frz od (.dK (nmK ps fs))) ∧ SD H' D (tgs (·.ins) (ps.take m) face)) ⟨fun b u nb e => (upd_ne (ne_of_none e hDs)).trans ((upd_ne nb).trans e), (upd_ne nDdf.symm).trans upd_same, SD.nil upd_same⟩ (fun m H' _ q => q.2.1) ?_ ?_
  · rintro m x Hx H4 hm ⟨x4, hf4, sd4⟩ ⟨rfl, kk0, v, hk, rfl⟩
    have hmp : m < ps.length := by
      unfold nmK at hm
      rw [List.length_map, List.length_zip, hfs.1, Nat.min_self] at hm
      exact hm
    have ep : ps[m]? = some ps[m] := List.getElem?_eq_getElem hmp
    obtain ⟨fa, hfa0, fi, fo, fp, fas, hfa, hfi, hfo, hfp, hff⟩ := hfs.of ep
    have hk2 : (nmK ps fs)[m]? = some (Sum.inr ps[m].1, V.ref fa) := by
      unfold nmK
      have hz : (ps.zip fs)[m]? = some (ps[m], fa) := List.getElem?_zip_eq_some.mpr ⟨ep, hfa0⟩
      rw [List.getElem?_map, hz]
      rfl
    rw [hk2] at hk
    cases hk
    have sq : ∀ {a : Addr} {xs : List V}, SqT K H a xs → SqT K H4 a xs := fun h => sqx hfd (fun b u nb e => x4 b u nb ((Same.refl H) _ _ e)) h
    have hsl := (ok.fl ps[m] (List.getElem_mem hmp))
    refine ⟨rfl, _, rfl, _, rfl, df, .ref fa, rfl, .inl ⟨_, Sum.inr ps[m].1, .inr ⟨od, hf4⟩, rfl, (nm_val ps fs hfs.1 ok.nd m ps[m] fa ep hfa0).symm⟩, fa, _, 0, _, rfl, rfl, sq hfa, at_of (j := 0) rfl rfl, fi, rfl, ⟨_, sq hfi⟩, ?_⟩
    have hlen : (tgs (·.ins) (ps.take m) face).length ≤ 128 := by
      have q := flat_le (l := ps.take m) (f := fun p => (face p.1).ins.map fun n => (p.1, n)) (c := 8) fun p hp => by
        rw [List.length_map]
        exact (ok.fl p (List.mem_of_mem_take hp)).1
      have q2 : (ps.take m).length ≤ 16 := by rw [List.length_take]; have := ok.pl; omega
      exact Nat.le_trans (show _ ≤ (ps.take m).length * 8 from q) (by omega)
    refine out_it (walk_tup (xs := (face ps[m].1).ins.map V.str)) (fun k H' => (∀ b u, b ≠ df → H b = some u → H' b = some u) ∧ H' df = some (.frz od (.dK (nmK ps fs))) ∧ SD H' D (tgs (·.ins) (ps.take m) face ++ ((face ps[m].1).ins.take k).map fun n => (ps[m].1, n))) ⟨x4, hf4, by rw [List.take_zero, List.map_nil, List.append_nil]; exact sd4⟩ (fun k H' _ q => sqx hfd (fun b u nb e => q.1 b u nb ((Same.refl H) _ _ e)) hfi) ?_ ?_
    · rintro k x Hy H5 hk ⟨x5, hf5, sd5⟩ ⟨rfl, hx⟩
      rw [List.getElem?_map] at hx
      obtain ⟨nm, hnm, rfl⟩ := Option.map_eq_some_iff.mp hx
      refine ⟨rfl, _, rfl, _, rfl, small1 (by show 2 ≤ 8; decide), fun q hq => ?_⟩
      have s6 := upd_new (o := HO.tup [V.str ps[m].1, V.str nm]) hq
      obtain ⟨H7, dp, sd7, keep⟩ := (sd5.keep (fun u e => s6 _ _ e)).put (p := (ps[m].1, nm)) (b := q) upd_same (by rw [List.length_append, List.length_map, List.length_take]; exact lt (by omega))
      refine ⟨H7, dp, fun b u nb e => ?_, ?_, ?_⟩
      · rw [keep b (ne_of_none e hDs)]
        exact s6 _ _ (x5 b u nb e)
      · rw [keep df nDdf.symm]
        exact s6 _ _ hf5
      · rw [tk1 hnm, List.map_append, ← List.append_assoc]
        exact sd7
    rintro H5 ⟨x5, hf5, sd5⟩
    have e0 : (face ps[m].1).ins.take ((face ps[m].1).ins.map V.str).length = (face ps[m].1).ins := List.take_of_length_le (by rw [List.length_map]; exact Nat.le_refl _)
    rw [e0] at sd5
    refine ⟨x5, hf5, ?_⟩
    have e : tgs (·.ins) (ps.take (m + 1)) face = tgs (·.ins) (ps.take m) face ++ (face ps[m].1).ins.map fun n => (ps[m].1, n) := by
      unfold tgs
      rw [tk1 ep, List.flatMap_append]
      simp
    rw [e]
    exact sd5
  rintro HD ⟨xD, hfD, sdD⟩
  have klen : (nmK ps fs).length = ps.length := by
    unfold nmK
    rw [List.length_map, List.length_zip, hfs.1, Nat.min_self]
  rw [klen, List.take_of_length_le (Nat.le_refl _)] at sdD
  refine ⟨hfD, ?_⟩
  have sD : Same H (upd HD df (.dK (nmK ps fs))) := fun b u e => by
    by_cases nb : b = df
    · subst nb
      rw [(Same.refl H) _ _ hfd] at e
      cases e
      exact upd_same
    · exact (upd_ne nb).trans (xD b u nb e)
  have sdD := sdD.keep (H' := upd HD df (.dK (nmK ps fs))) (fun u e => (upd_ne nDdf).trans e)
  generalize upd HD df (.dK (nmK ps fs)) = H1 at sD sdD ⊢
  refine ⟨df, _, sD _ _ hfd, trivial, fun od => ⟨_, rfl, df, od, rfl, .inl ⟨_, upd_same, fun S hS => ?_⟩⟩⟩
  have nSdf : S ≠ df := fun z => by rw [z, upd_same] at hS; cases hS
  have hSs : H1 S = none := (upd_ne nSdf).symm.trans hS
  have hS0 : H S = none := sD.free hSs
  refine out_it walk_keys (fun m H' => (∀ b u, b ≠ df → H1 b = some u → H' b = some u) ∧ H' df = some (.frz od (.dK (nmK ps fs))) ∧ SD H' S (tgs (·.outs) (ps.take m) face)) ⟨fun b u nb e => (upd_ne (ne_of_none e hSs)).trans ((upd_ne nb).trans e), (upd_ne nSdf.symm).trans upd_same, SD.nil upd_same⟩ (fun m H' _ q => q.2.1) ?_ ?_
  · rintro m x Hx H4 hm ⟨x4, hf4, sd4⟩ ⟨rfl, kk0, v, hk, rfl⟩
    have hmp : m < ps.length := by
      unfold nmK at hm
      rw [List.length_map, List.length_zip, hfs.1, Nat.min_self] at hm
      exact hm
    have ep : ps[m]? = some ps[m] := List.getElem?_eq_getElem hmp
    obtain ⟨fa, hfa0, fi, fo, fp, fas, hfa, hfi, hfo, hfp, hff⟩ := hfs.of ep
    have hk2 : (nmK ps fs)[m]? = some (Sum.inr ps[m].1, V.ref fa) := by
      unfold nmK
      have hz : (ps.zip fs)[m]? = some (ps[m], fa) := List.getElem?_zip_eq_some.mpr ⟨ep, hfa0⟩
      rw [List.getElem?_map, hz]
      rfl
    rw [hk2] at hk
    cases hk
    have sq : ∀ {a : Addr} {xs : List V}, SqT K H a xs → SqT K H4 a xs := fun h => sqx hfd (fun b u nb e => x4 b u nb (sD _ _ e)) h
    have hsl := (ok.fl ps[m] (List.getElem_mem hmp))
    refine ⟨rfl, _, rfl, _, rfl, df, .ref fa, rfl, .inl ⟨_, Sum.inr ps[m].1, .inr ⟨od, hf4⟩, rfl, (nm_val ps fs hfs.1 ok.nd m ps[m] fa ep hfa0).symm⟩, fa, _, 1, _, rfl, rfl, sq hfa, at_of (j := 1) rfl rfl, fo, rfl, ⟨_, sq hfo⟩, ?_⟩
    have hlen : (tgs (·.outs) (ps.take m) face).length ≤ 128 := by
      have q := flat_le (l := ps.take m) (f := fun p => (face p.1).outs.map fun n => (p.1, n)) (c := 8) fun p hp => by
        rw [List.length_map]
        exact (ok.fl p (List.mem_of_mem_take hp)).2
      have q2 : (ps.take m).length ≤ 16 := by rw [List.length_take]; have := ok.pl; omega
      exact Nat.le_trans (show _ ≤ (ps.take m).length * 8 from q) (by omega)
    refine out_it (walk_tup (xs := (face ps[m].1).outs.map V.str)) (fun k H' => (∀ b u, b ≠ df → H1 b = some u → H' b = some u) ∧ H' df = some (.frz od (.dK (nmK ps fs))) ∧ SD H' S (tgs (·.outs) (ps.take m) face ++ ((face ps[m].1).outs.take k).map fun n => (ps[m].1, n))) ⟨x4, hf4, by rw [List.take_zero, List.map_nil, List.append_nil]; exact sd4⟩ (fun k H' _ q => sqx hfd (fun b u nb e => q.1 b u nb (sD _ _ e)) hfo) ?_ ?_
    · rintro k x Hy H5 hk ⟨x5, hf5, sd5⟩ ⟨rfl, hx⟩
      rw [List.getElem?_map] at hx
      obtain ⟨nm, hnm, rfl⟩ := Option.map_eq_some_iff.mp hx
      refine ⟨rfl, _, rfl, _, rfl, small1 (by show 2 ≤ 8; decide), fun q hq => ?_⟩
      have s6 := upd_new (o := HO.tup [V.str ps[m].1, V.str nm]) hq
      obtain ⟨H7, dp, sd7, keep⟩ := (sd5.keep (fun u e => s6 _ _ e)).put (p := (ps[m].1, nm)) (b := q) upd_same (by rw [List.length_append, List.length_map, List.length_take]; exact lt (by omega))
      refine ⟨H7, dp, fun b u nb e => ?_, ?_, ?_⟩
      · rw [keep b (ne_of_none e hSs)]
        exact s6 _ _ (x5 b u nb e)
      · rw [keep df nSdf.symm]
        exact s6 _ _ hf5
      · rw [tk1 hnm, List.map_append, ← List.append_assoc]
        exact sd7
    rintro H5 ⟨x5, hf5, sd5⟩
    have e0 : (face ps[m].1).outs.take ((face ps[m].1).outs.map V.str).length = (face ps[m].1).outs := List.take_of_length_le (by rw [List.length_map]; exact Nat.le_refl _)
    rw [e0] at sd5
    refine ⟨x5, hf5, ?_⟩
    have e : tgs (·.outs) (ps.take (m + 1)) face = tgs (·.outs) (ps.take m) face ++ (face ps[m].1).outs.map fun n => (ps[m].1, n) := by
      unfold tgs
      rw [tk1 ep, List.flatMap_append]
      simp
    rw [e]
    exact sd5
  rintro HS ⟨xS, hfS, sdS⟩
  have klen : (nmK ps fs).length = ps.length := by
    unfold nmK
    rw [List.length_map, List.length_zip, hfs.1, Nat.min_self]
  rw [klen, List.take_of_length_le (Nat.le_refl _)] at sdS
  refine ⟨hfS, ?_⟩
  have sS : Same H1 (upd HS df (.dK (nmK ps fs))) := fun b u e => by
    by_cases nb : b = df
    · subst nb
      rw [sD _ _ hfd] at e
      cases e
      exact upd_same
    · exact (upd_ne nb).trans (xS b u nb e)
  have sdS := sdS.keep (H' := upd HS df (.dK (nmK ps fs))) (fun u e => (upd_ne nSdf).trans e)
  generalize upd HS df (.dK (nmK ps fs)) = H2 at sS sdS ⊢
  have s02 : Same H H2 := sD.trans sS
  have sD2 := sdD.keep (H' := H2) (fun u e => sS _ _ e)
  have nDS : D ≠ S := fun z => by
    obtain ⟨kvs, e, _⟩ := sdD
    rw [z, hSs] at e
    cases e
  have tl : ∀ (sel : Fc → List Str), (∀ p ∈ ps, (sel (face p.1)).length ≤ 8) → (tgs sel ps face).length ≤ 128 := fun sel h => by
    have q := flat_le (l := ps) (f := fun p => (sel (face p.1)).map fun n => (p.1, n)) (c := 8) fun p hp => by
      rw [List.length_map]
      exact h p hp
    have := ok.pl
    exact Nat.le_trans (show _ ≤ ps.length * 8 from q) (by omega)
  have tl1 := tl (·.ins) fun p hp => (ok.fl p hp).1
  have tl2 := tl (·.outs) fun p hp => (ok.fl p hp).2
  -- D.update
  have hDd : ∃ kvs, H2 D = some (.dT kvs) := by
    obtain ⟨kvs, e, _⟩ := sD2
    exact ⟨kvs, e⟩
  obtain ⟨kD, hDd⟩ := hDd
  refine ⟨_, rfl, .inr (.inr (.inl ⟨rfl, .inr ⟨_, hDd⟩⟩)), _, rfl, y, C, dx, _, _, rfl, s02 _ _ hyo, T.cl, T.nO, rfl, oo, rfl, ⟨_, sqT_same s02 ho.sq⟩, fun D2 hD2 => ?_⟩
  refine out_it (walk_tup (xs := outs.map V.str)) (fun m H' => Same H2 H' ∧ SD H' D2 (own0 (outs.take m))) ⟨upd_new hD2, SD.nil upd_same⟩ (fun m H' _ q => sqT_same (s02.trans q.1) ho.sq) ?_ ?_
  · rintro m x Hx H4 hm ⟨s4, sd4⟩ ⟨rfl, hx⟩
    rw [List.getElem?_map] at hx
    obtain ⟨nm, hnm, rfl⟩ := Option.map_eq_some_iff.mp hx
    refine ⟨rfl, _, rfl, small1 (by show 2 ≤ 8; decide), fun q hq => ?_⟩
    have s5 := upd_new (o := HO.tup [V.str ("" : Str), V.str nm]) hq
    have hl8 : (outs.take m).length ≤ 8 := by rw [List.length_take]; have := ok.ol; omega
    obtain ⟨H7, dp, sd7, keep⟩ := (sd4.keep (fun u e => s5 _ _ e)).put (p := (Str.empty, nm)) (b := q) upd_same (by unfold own0; rw [List.length_map]; exact lt (by omega))
    refine ⟨H7, dp, fun b u e => ?_, ?_⟩
    · have nb : b ≠ D2 := fun z => by rw [z, hD2] at e; cases e
      rw [keep b nb]
      exact s5 _ _ (s4 _ _ e)
    · have e : own0 (outs.take (m + 1)) = own0 (outs.take m) ++ [(Str.empty, nm)] := by
        unfold own0
        rw [tk1 hnm, List.map_append]
        rfl
      rw [e]
      exact sd7
  rintro H3 ⟨sH3, sdD2⟩
  rw [List.take_of_length_le (by rw [List.length_map]; exact Nat.le_refl _)] at sdD2
  have nDD2 : D ≠ D2 := fun z => by rw [← z, hDd] at hD2; cases hD2
  obtain ⟨kvD, moD, e1D, e2D, e3D, e4D, sdDm⟩ := (sD2.keep (H' := H3) (fun u e => sH3 _ _ e)).mrg sdD2 nDD2 ok.n1 (by unfold own0; rw [List.length_map, sizeLine_eq]; have := ok.ol; omega)
  have sdSm := sdS.keep (H' := upd H3 D (.dT (mergeT kvD moD))) (fun u e => (upd_ne nDS.symm).trans (sH3 _ _ e))
  have sH3m : Same H (upd H3 D (.dT (mergeT kvD moD))) := same_put (s02.trans sH3) hD0
  refine ⟨D, D2, kvD, moD, rfl, rfl, nDD2, e1D, e2D, e3D, e4D, ?_⟩
  generalize upd H3 D (.dT (mergeT kvD moD)) = H4 at sdDm sdSm sH3m ⊢
  -- S.update
  have hSd : ∃ kvs, H4 S = some (.dT kvs) := by
    obtain ⟨kvs, e, _⟩ := sdSm
    exact ⟨kvs, e⟩
  obtain ⟨kS, hSd⟩ := hSd
  refine ⟨_, rfl, .inr (.inr (.inl ⟨rfl, .inr ⟨_, hSd⟩⟩)), _, rfl, y, C, dx, _, _, rfl, sH3m _ _ hyo, T.cl, T.nI, rfl, ii, rfl, ⟨_, sqT_same sH3m hi.sq⟩, fun S2 hS2 => ?_⟩
  refine out_it (walk_tup (xs := ins.map V.str)) (fun m H' => Same H4 H' ∧ SD H' S2 (own0 (ins.take m))) ⟨upd_new hS2, SD.nil upd_same⟩ (fun m H' _ q => sqT_same (sH3m.trans q.1) hi.sq) ?_ ?_
  · rintro m x Hx H4 hm ⟨s4, sd4⟩ ⟨rfl, hx⟩
    rw [List.getElem?_map] at hx
    obtain ⟨nm, hnm, rfl⟩ := Option.map_eq_some_iff.mp hx
    refine ⟨rfl, _, rfl, small1 (by show 2 ≤ 8; decide), fun q hq => ?_⟩
    have s5 := upd_new (o := HO.tup [V.str ("" : Str), V.str nm]) hq
    have hl8 : (ins.take m).length ≤ 8 := by rw [List.length_take]; have := ok.il; omega
    obtain ⟨H7, dp, sd7, keep⟩ := (sd4.keep (fun u e => s5 _ _ e)).put (p := (Str.empty, nm)) (b := q) upd_same (by unfold own0; rw [List.length_map]; exact lt (by omega))
    refine ⟨H7, dp, fun b u e => ?_, ?_⟩
    · have nb : b ≠ S2 := fun z => by rw [z, hS2] at e; cases e
      rw [keep b nb]
      exact s5 _ _ (s4 _ _ e)
    · have e : own0 (ins.take (m + 1)) = own0 (ins.take m) ++ [(Str.empty, nm)] := by
        unfold own0
        rw [tk1 hnm, List.map_append]
        rfl
      rw [e]
      exact sd7
  rintro H5 ⟨sH5, sdS2⟩
  rw [List.take_of_length_le (by rw [List.length_map]; exact Nat.le_refl _)] at sdS2
  have nSS2 : S ≠ S2 := fun z => by rw [← z, hSd] at hS2; cases hS2
  obtain ⟨kvS, moS, e1S, e2S, e3S, e4S, sdSm⟩ := (sdSm.keep (H' := H5) (fun u e => sH5 _ _ e)).mrg sdS2 nSS2 ok.n2 (by unfold own0; rw [List.length_map, sizeLine_eq]; have := ok.il; omega)
  have sdDm := sdDm.keep (H' := upd H5 S (.dT (mergeT kvS moS))) (fun u e => (upd_ne nDS).trans (sH5 _ _ e))
  have sH5m : Same H (upd H5 S (.dT (mergeT kvS moS))) := same_put (sH3m.trans sH5) hS0
  refine ⟨S, S2, kvS, moS, rfl, rfl, nSS2, e1S, e2S, e3S, e4S, ?_⟩
  generalize upd H5 S (.dT (mergeT kvS moS)) = H6 at sdDm sdSm sH5m ⊢
  -- wired
  intro W hW
  have s7 := upd_new (o := HO.dT []) hW
  have hW0 : H W = none := sH5m.free hW
  have sdW := SD.nil (upd_same (H := H6) (a := W) (o := HO.dT []))
  have hDdd : ∃ kvs, H6 D = some (.dT kvs) := by
    obtain ⟨kvs, e, _⟩ := sdDm
    exact ⟨kvs, e⟩
  have hSdd : ∃ kvs, H6 S = some (.dT kvs) := by
    obtain ⟨kvs, e, _⟩ := sdSm
    exact ⟨kvs, e⟩
  obtain ⟨zD, hzD⟩ := hDdd
  obtain ⟨zS, hzS⟩ := hSdd
  have nDW : D ≠ W := fun z => by rw [← z, hzD] at hW; cases hW
  have nSW : S ≠ W := fun z => by rw [← z, hzS] at hW; cases hW
  have sdD7 := sdDm.keep (fun u e => s7 _ _ e)
  have sdS7 := sdSm.keep (fun u e => s7 _ _ e)
  have s07 := sH5m.trans s7
  show tSeq _ _ _ _ (upd H6 W (.dT []))
  generalize upd H6 W (.dT []) = H7 at sdW sdD7 sdS7 s07 ⊢
  have wl := ok.wl
  refine ⟨_, rfl, y, C, dx, _, _, rfl, s07 _ _ hyo, T.cl, T.nW, rfl, wa, rfl, ⟨_, .of (s07 _ _ hwa)⟩, ?_⟩
  refine for_tup (K := K) (a := wa) (xs := bs.map V.ref) (fun m σ H' => ∃ u5 u6, σ = [some (.ref y), some (.ref df), some (.ref D), some (.ref S), some (.ref W), u5, u6, none, none] ∧ Same H H' ∧ SD H' D (tgs (·.ins) ps face ++ own0 outs) ∧ SD H' S (tgs (·.outs) ps face ++ own0 ins) ∧ SD H' W ((ws.take m).map (·.1)))
    ⟨_, _, rfl, s07, sdD7, sdS7, sdW⟩ (fun m σ H' _ q => by
      obtain ⟨_, _, _, q, _⟩ := q
      exact .of (q _ _ hwa)) ?turn ?done
  case turn =>
    rintro m x σ H8 hx ⟨u5, u6, rfl, s8, dD8, dS8, dW8⟩
    rw [List.getElem?_map] at hx
    obtain ⟨b, hb, rfl⟩ := Option.map_eq_some_iff.mp hx
    have hml : m < ws.length := by
      have := (List.getElem?_eq_some_iff.mp hb).1
      rw [hws.1] at this
      exact this
    have ew : ws[m]? = some ws[m] := List.getElem?_eq_getElem hml
    obtain ⟨t, sp, h1, h2, h3⟩ := hws.2 m b ws[m] hb ew
    obtain ⟨wt1, wt2⟩ := ok.wt ws[m] (List.getElem_mem hml)
    obtain ⟨H9, dp, sd9, keep⟩ := dW8.put (p := ws[m].1) (b := t) (s8 _ _ h2) (by rw [List.length_map, List.length_take]; exact lt (by omega))
    have s9 : Same H H9 := fun b u e => by
      have nb : b ≠ W := fun z => by rw [z, hW0] at e; cases e
      rw [keep b nb]
      exact s8 _ _ e
    have dD9 := dD8.keep (H' := H9) (fun u e => by rw [keep D nDW]; exact e)
    have dS9 := dS8.keep (H' := H9) (fun u e => by rw [keep S nSW]; exact e)
    obtain ⟨o1, g1, i1⟩ := dD9.has (p := ws[m].1) (s9 _ _ h2)
    obtain ⟨o2, g2, i2⟩ := dS9.has (p := ws[m].2) (s9 _ _ h3)
    rw [decide_eq_true wt1] at i1
    rw [decide_eq_true wt2] at i2
    refine ⟨b, _, rfl, .of (s8 _ _ h1), rfl, _, _, rfl, _, _, rfl, rfl, _, rfl, _, rfl, W, H9, rfl, dp, _, rfl, _, rfl, D, o1, rfl, g1, _, rfl, ?_⟩
    rw [i1]
    refine iteF ⟨_, rfl, _, rfl, S, o2, rfl, g2, _, rfl, ?_⟩
    rw [i2]
    refine iteF ⟨_, _, rfl, s9, dD9, dS9, ?_⟩
    rw [tk1 ew, List.map_append]
    exact sd9
  rintro σ H8 ⟨u5, u6, rfl, s8, dD8, dS8, dW8⟩
  rw [List.take_of_length_le (by rw [List.length_map, hws.1]; exact Nat.le_refl _)] at dW8
  obtain ⟨kvs, hk1, hk2, hk3, hk4⟩ := dD8
  refine ⟨D, _, hk1, trivial, fun od => ⟨_, rfl, D, od, rfl, .inr ⟨kvs, upd_same, ?_⟩⟩⟩
  refine for_it walk_keysT (fun m σ H' => ∃ u5, σ = [some (.ref y), some (.ref df), some (.ref D), some (.ref S), some (.ref W), u5, u6, none, none] ∧ (∀ b u, b ≠ D → H8 b = some u → H' b = some u) ∧ H' D = some (.frz od (.dT kvs)))
    ⟨_, rfl, fun b u n e => (upd_ne n).trans e, upd_same⟩ (fun m σ H' _ q => by
      obtain ⟨_, _, _, q⟩ := q
      exact q) ?turn1 ?done1
  case turn1 =>
    rintro m x σ Hx H9 hm ⟨u5', rfl, x9, hf9⟩ ⟨rfl, k, v, q, hk, rfl, hq⟩
    obtain ⟨_, p, hp, e⟩ := hk3 _ (List.mem_of_getElem? hk)
    have e : k = keyOf p := e
    subst e
    have hq : H9 q = some (.tup [.str p.1, .str p.2]) := hq
    obtain ⟨o, g, i⟩ := (dW8.keep (H' := H9) (fun u e => x9 _ _ nDW.symm e)).has (p := p) hq
    rw [decide_eq_true (ok.tw p hp)] at i
    refine ⟨_, rfl, _, rfl, W, o, rfl, g, _, rfl, ?_⟩
    rw [i]
    exact iteF ⟨_, rfl, x9, hf9⟩
  rintro σ H9 ⟨u5', rfl, x9, hf9⟩
  refine ⟨hf9, kk _ fun b u e => ?_⟩
  have nb : b ≠ D := fun z => by rw [z, hD0] at e; cases e
  exact (upd_ne nb).trans (x9 b u nb (s8 _ _ e))
end
end K28
namespace K28
open PySem L2 Own StX ClX NdefX
abbrev sBlk : Stmt := top 43
abbrev sPIs : Stmt := top 42
/-- the interfaces that are given -/
def InterAt (K : PySem.W.Frag) (H : Hp) (d : Addr) (fi : Str → Option Fc) : Prop := ∃ kvs : List (Key × V), H d = some (.dK kvs) ∧ ∀ b f, fi b = some f → ∃ a, valV kvs (Sum.inr b) = some (.ref a) ∧ IfAt K H a f ∧ OkI f
theorem InterAt.same {K : PySem.W.Frag} {H H' : Hp} {d : Addr} {fi : Str → Option Fc} (s : Same H H') (h : InterAt K H d fi) : InterAt K H' d fi := by
  obtain ⟨kvs, h1, h2⟩ := h
  refine ⟨kvs, s _ _ h1, fun b f e => ?_⟩
  obtain ⟨a, e1, e2, e3⟩ := h2 b f e
  exact ⟨a, e1, e2.same s, e3⟩
theorem IfAt.face {K : PySem.W.Frag} {H : Hp} {a : Addr} {f : Fc} (h : IfAt K H a f) : FaceAt K H a f := by
  obtain ⟨i, o, p, as, h1, h2, h3, h4, h5⟩ := h
  exact ⟨i, o, p, as, h1, h2, h3.sq, h4, h5⟩
def faceB (fi : Str → Option Fc) (b : Str) : Fc := match readP b with
  | some zc => faceP zc.1
  | none => (fi b).getD ⟨[], [], []⟩
structure PrP (P : Program) (w : World) (K : PySem.W.Frag) (mg : Str → Option Value) (base : Heap) (C : Addr) : Prop where
  cm : ∃ mc p g, CRead K C mc ∧ CMet K C mc "parse" p g ∧ FnR P w K mg base CX0 4 g (spPPa K C)
  pr : ∃ p g fd, PropOf K C "interface" p g ∧ FnOk P w K mg base CX0 1 g fd ["self"] (spPIf K C) ∧ Binds K fd ["self"] []
def spBlk (K : PySem.W.Frag) : Sp := fun vs H Q _ => ∃ (b : Str) (di : Addr) (fi : Str → Option Fc), vs = [.str b, .ref di] ∧ b.length ≤ 1000 ∧ InterAt K H di fi ∧ (readP b = none → (fi b).isSome = true) ∧ ∀ r H', Same H H' → FaceAt K H' r (faceB fi b) → Q (.ref r) H'
def spPIs (K : PySem.W.Frag) (C : Addr) : Sp := fun vs H Q _ => ∃ (y di : Addr) (n : Str) (ins outs : List Str) (ps : List (Str × Str)) (ws : List (Port × Port)) (fi : Str → Option Fc), vs = [.ref y, .ref di] ∧ DgAt K C H y n ins outs ps ws ∧ InterAt K H di fi ∧ ps.length ≤ 16 ∧ (ps.map (·.1)).Nodup ∧ (∀ p ∈ ps, p.2.length ≤ 1000 ∧ (readP p.2 = none → (fi p.2).isSome = true)) ∧
  ∀ df H' fs, Same H H' → H' df = some (.dK (nmK ps fs)) → All2 (fun a (p : Str × Str) => FaceAt K H' a (faceB fi p.2)) fs ps → Q (.ref df) H'
section
variable {P : Program} {w : World} {K : PySem.W.Frag} {mg : Str → Option Value} {base : Heap} {C CP : Addr}
theorem scBlk : FnScope ["block", "interfaces"] ["block", "interfaces"] (defScope sBlk) := ⟨rfl, rfl, rfl, by decide +kernel, rfl, by decide +kernel, by decide +kernel⟩
theorem ok_blk {f fI : Addr} {fd fdI : FuncData} (F : Fun K "_block_interface" "_block_interface" sBlk f fd) (PT : PrC K w mg CP) (PP : PrP P w K mg base CP)
    (GI : FnOk P w K mg base CX0 3 fI fdI ["text"] spIP) (mI : mg "is_primitive" = some (.ref fI)) (kI : PySem.W.keepIn K (.ref fI) = true) (bI : Binds K fdI ["text"] []) :
    FnOk P w K mg base CX0 5 f fd ["block", "interfaces"] (spBlk K) := by
  refine F.ok scBlk (fun vs H Q E h => ?_) (fun cdv A outer s H vs Q E hr h => ?_)
  · obtain ⟨b, di, fi, rfl, _⟩ := h
    rfl
  obtain ⟨b, di, fi, rfl, hb, hi, hin, kk⟩ := h
  have hu := hr.units
  have hu1 := Nat.lt_of_le_of_lt (Nat.add_le_add_left (show 1 ≤ 64 by decide) _) hu
  obtain ⟨mc, p0, g0, cr, cm, G⟩ := PP.cm
  obtain ⟨pp, gp, fdp, po, GP, bP⟩ := PP.pr
  refine ⟨_, (pss_cons (ps_if (pt_val (pe_call GI (hr.mono (by decide)) rfl mI kI bI .nil pass0 (pa_cons (pv 0) pa_nil))) (pss_one (ps_ret (pe_prop (pe_cmeth (pe_glob (v := .ref CP) rfl PT.mC rfl) cr cm G hr pass0 (pa_cons (pv 0) pa_nil)) PT.cl po GP (hr.mono (by decide)) bP .nil pass0 rfl))) pss_nil)
    (pss_one (ps_ret (pe_dget hu1 (pv 1) (pv 0) (fun _ _ => rfl))))), ?_⟩
  refine ⟨_, rfl, b, rfl, Nat.le_of_lt (small1000 hb), fun H1 s1 => ⟨_, rfl, ?_⟩⟩
  cases hp : readP b with
  | none =>
    obtain ⟨f, hf⟩ := Option.isSome_iff_exists.mp (hin hp)
    obtain ⟨kvs, h1, h2⟩ := hi
    obtain ⟨a, e1, e2, _⟩ := h2 b f hf
    refine iteF ⟨_, rfl, _, rfl, di, .ref a, rfl, .inl ⟨kvs, Sum.inr b, .inl (s1 _ _ h1), rfl, e1.symm⟩, kk a H1 s1 ?_⟩
    have : faceB fi b = f := by
      unfold faceB
      rw [hp]
      show (fi b).getD _ = f
      rw [hf]
      rfl
    rw [this]
    exact (e2.same s1).face
  | some zc =>
    obtain ⟨z, c⟩ := zc
    have hf : faceB fi b = faceP z := by
      unfold faceB
      rw [hp]
    refine iteT ⟨rfl, _, rfl, b, z, c, rfl, Nat.le_of_lt (small1000 hb), hp, fun y dx i o H2 s2 hy hy2 hpo => ⟨y, dx, _, rfl, hy2, y, dx, z, i, o, _, rfl, hy2, hpo, fun r H3 s3 hr3 => ?_⟩⟩
    rw [← hf] at hr3
    exact kk r H3 ((s1.trans s2).trans s3) hr3
abbrev nPI : List Str := ["diagram", "interfaces", "block", "named", "_", "part"]
theorem scPI : FnScope nPI ["diagram", "interfaces"] (defScope sPIs) := ⟨rfl, rfl, rfl, by decide +kernel, rfl, by decide +kernel, by decide +kernel⟩
theorem ok_pis {f fI fF fB : Addr} {fd fdI fdF fdB : FuncData} (F : Fun K "_part_interfaces" "_part_interfaces" sPIs f fd) (T : DgC K mg C)
    (GI : FnOk P w K mg base CX0 3 fI fdI ["text"] spIP) (mI : mg "is_primitive" = some (.ref fI)) (kI : PySem.W.keepIn K (.ref fI) = true) (bI : Binds K fdI ["text"] [])
    (GF : FnOk P w K mg base CX0 3 fF fdF ["value"] (spIface K)) (mF : mg "is_interface" = some (.ref fF)) (kF : PySem.W.keepIn K (.ref fF) = true) (bF : Binds K fdF ["value"] [])
    (GB : FnOk P w K mg base CX0 5 fB fdB ["block", "interfaces"] (spBlk K)) (mB : mg "_block_interface" = some (.ref fB)) (kB : PySem.W.keepIn K (.ref fB) = true) (bB : Binds K fdB ["block", "interfaces"] []) :
    FnOk P w K mg base CX0 6 f fd ["diagram", "interfaces"] (spPIs K C) := by
  refine F.ok scPI (fun vs H Q E h => ?_) (fun cdv A outer s H vs Q E hr h => ?_)
  · obtain ⟨y, di, n, ins, outs, ps, ws, fi, rfl, _⟩ := h
    rfl
  obtain ⟨y, di, n, ins, outs, ps, ws, fi, rfl, hy, hint, hpl, hnd, hps0, kk⟩ := h
  have hu := hr.units
  have hu1 := Nat.lt_of_le_of_lt (Nat.add_le_add_left (show 1 ≤ 64 by decide) _) hu
  refine ⟨_, (pss_cons (ps_setLc (i := 3) (own := [("_", 4), ("block", 2)]) (g := (gTup K 2 (gCons (gName 4) (gCons (gName 2) gNil)))) rfl scPI.nd rfl rfl (sw_true rfl rfl rfl (by decide +kernel)) (pi_tup (pe_fld (pv 0) rfl)) (blkOk_by (own := [("_", 4), ("block", 2)]) (N := nPI) (sc := defScope sPIs) (by decide +kernel)) (fun _ _ _ _ _ => by exact (pg_tup (by rfl) (pgs_cons (pg_name (i := 4) scPI.nd rfl (Or.inl rfl)) (pgs_cons (pg_name (i := 2) scPI.nd rfl (Or.inl rfl)) pgs_nil)))) (fun _ _ _ _ _ => (pts_one (pt_not (pt_val (pe_call GI (hr.mono (by decide)) rfl mI kI bI .nil pass0 (pa_cons (pv 2) pa_nil))))))
      (fun _ _ _ _ _ => by exact (pv 2)))
    (pss_cons (ps_for PassesOwn.never rfl (pi_list (pv 3)) (pg_name (i := 2) scPI.nd rfl (.inl rfl))
    (pss_one (ps_if (pt_cmp (pc_dnotin hu1 (pv 2) (pv 1)) (by rfl)) pss_never pss_nil)))
    (pss_cons (ps_for PassesOwn.never rfl (pi_list (pv 3)) (pg_name (i := 2) scPI.nd rfl (.inl rfl))
    (pss_one (ps_if (pt_not (pt_val (pe_call GF (hr.mono (by decide)) rfl mF kF bF .nil pass0 (pa_cons (pe_dget hu1 (pv 1) (pv 2) (fun _ _ => rfl)) pa_nil)))) pss_never pss_nil)))
    (pss_one (ps_ret (by exact (pe_dc (own := [("part", 5), ("block", 2)]) (g := (gTup K 2 (gCons (gName 5) (gCons (gName 2) gNil)))) rfl scPI.nd (pi_tup (pe_fld (pv 0) rfl)) (blkOk_by (own := [("part", 5), ("block", 2)]) (N := nPI) (sc := defScope sPIs) (by decide +kernel)) (fun _ _ _ _ _ => by exact (pg_tup (by rfl) (pgs_cons (pg_name (i := 5) scPI.nd rfl (Or.inl rfl)) (pgs_cons (pg_name (i := 2) scPI.nd rfl (Or.inl rfl)) pgs_nil)))) (fun _ _ _ _ _ => pts_nil) (fun _ _ _ _ _ => (pv 5)) (fun _ _ _ _ _ => by exact (pe_call GB hr rfl mB kB bB .nil pass0 (pa_cons (pv 2) (pa_cons (pv 1) pa_nil))))))))))), ?_⟩
  have lt : ∀ {n : Nat}, n ≤ 100000 → n < sizeLine := fun h => by rw [sizeLine_eq]; omega
  obtain ⟨dx, ii, oo, pa, wa, pas, bs, hyo, hi, ho, hpa, hps, hwa, hws⟩ := hy
  have sz : ∀ {p : Str × Str}, p ∈ ps → p.2.length ≤ sizeLine := fun hp => Nat.le_of_lt (small1000 (hps0 _ hp).1)
  refine ⟨_, rfl, y, C, dx, _, _, rfl, hyo, T.cl, T.nP, rfl, pa, rfl, ⟨_, .of hpa⟩, fun D hD => ?_⟩
  refine out_it (walk_tup (xs := pas.map V.ref)) (fun m H' => Same H H' ∧ H' D = some (.lst (((ps.take m).filter fun p => !(readP p.2).isSome).map fun p => V.str p.2))) ⟨upd_new hD, upd_same⟩ (fun m H' _ q => .of (q.1 _ _ hpa)) ?_ ?_
  · rintro m x Hx H4 hm ⟨s4, hD4⟩ ⟨rfl, hx⟩
    rw [List.getElem?_map] at hx
    obtain ⟨a, ha, rfl⟩ := Option.map_eq_some_iff.mp hx
    obtain ⟨p, hp, pa1⟩ := (pairs_port hps).at ha
    have hpm := List.mem_of_getElem? hp
    have pa1 : H a = some (.tup [.str p.1, .str p.2]) := pa1
    refine ⟨a, _, rfl, .of (s4 _ _ pa1), rfl, _, _, rfl, _, _, rfl, rfl, rfl, _, rfl, p.2, rfl, sz hpm, fun H5 s5 => ⟨_, rfl, ?_⟩⟩
    have s45 := s4.trans s5
    have ef : (ps.take (m + 1)).filter (fun p => !(readP p.2).isSome) = (ps.take m).filter (fun p => !(readP p.2).isSome) ++ [p].filter (fun p => !(readP p.2).isSome) := by rw [tk1 hp, List.filter_append]
    cases hr : (readP p.2).isSome with
    | true =>
      refine iteF ⟨s45, ?_⟩
      rw [ef, List.filter_cons, hr]
      rw [show (if (!true) = true then p :: List.filter (fun p => !(readP p.2).isSome) [] else List.filter (fun p => !(readP p.2).isSome) []) = [] from rfl, List.append_nil]
      exact s5 _ _ hD4
    | false =>
      refine iteT ⟨_, rfl, _, s5 _ _ hD4, ?_, same_put s45 hD, ?_⟩
      · rw [List.length_map]
        have := List.length_filter_le (fun p : Str × Str => !(readP p.2).isSome) (ps.take m)
        rw [List.length_take] at this
        exact lt (by omega)
      · rw [upd_same, ef, List.filter_cons, hr, List.map_append]
        rfl
  rintro H1 ⟨s1, hD1⟩
  rw [List.take_of_length_le (by rw [List.length_map, hps.1]; exact Nat.le_refl _)] at hD1
  generalize hnm : (ps.filter fun p => !(readP p.2).isSome) = np at hD1
  have hD0 : H D = none := hD
  have hnp : ∀ p ∈ np, p ∈ ps ∧ readP p.2 = none := fun p hp => by
    rw [← hnm] at hp
    obtain ⟨h1, h2⟩ := List.mem_filter.mp hp
    refine ⟨h1, ?_⟩
    cases e : readP p.2 with
    | none => rfl
    | some z => rw [e] at h2; cases h2
  have get : ∀ {H' : Hp}, Same H H' → ∀ p ∈ np, ∃ a f, DGet H' di (.str p.2) (some (.ref a)) ∧ IfAt K H' a f ∧ OkI f := fun {H'} s p hp => by
    obtain ⟨h1, h2⟩ := hnp p hp
    obtain ⟨f, hf⟩ := Option.isSome_iff_exists.mp ((hps0 p h1).2 h2)
    obtain ⟨kvs, k1, k2⟩ := hint.same s
    obtain ⟨a, e1, e2, e3⟩ := k2 p.2 f hf
    exact ⟨a, f, .inl ⟨kvs, Sum.inr p.2, .inl k1, rfl, e1.symm⟩, e2, e3⟩
  refine ⟨_, rfl, D, rfl, ⟨_, .of hD1⟩, ?_⟩
  refine for_list (K := K) (a := D) (xs := np.map fun p => V.str p.2) (fun m σ H' => ∃ u2, σ = [some (.ref y), some (.ref di), u2, some (.ref D), none, none] ∧ H' = H1) ⟨_, rfl, rfl⟩ (fun m σ H' _ q => by
      obtain ⟨_, _, rfl⟩ := q
      exact .of hD1) ?turn ?done
  case turn =>
    rintro m x σ H' hx ⟨u2, rfl, rfl⟩
    rw [List.getElem?_map] at hx
    obtain ⟨p, hp, rfl⟩ := Option.map_eq_some_iff.mp hx
    obtain ⟨a, f, g, _, _⟩ := get s1 p (List.mem_of_getElem? hp)
    exact ⟨_, rfl, _, rfl, di, _, rfl, g, _, rfl, iteF ⟨_, rfl, rfl⟩⟩
  rintro σ H' ⟨u2, rfl, rfl⟩
  refine ⟨_, rfl, D, rfl, ⟨_, .of hD1⟩, ?_⟩
  refine for_list (K := K) (a := D) (xs := np.map fun p => V.str p.2) (fun m σ H2 => ∃ u2, σ = [some (.ref y), some (.ref di), u2, some (.ref D), none, none] ∧ Same H' H2) ⟨_, rfl, Same.refl _⟩ (fun m σ H2 _ q => by
      obtain ⟨_, _, q⟩ := q
      exact .of (q _ _ hD1)) ?turn1 ?done1
  case turn1 =>
    rintro m x σ H2 hx ⟨u2, rfl, s2⟩
    rw [List.getElem?_map] at hx
    obtain ⟨p, hp, rfl⟩ := Option.map_eq_some_iff.mp hx
    obtain ⟨a, f, g, i1, i2⟩ := get (s1.trans s2) p (List.mem_of_getElem? hp)
    exact ⟨_, rfl, _, rfl, di, _, rfl, g, a, f, rfl, i1, i2, fun H3 s3 => ⟨_, rfl, iteF ⟨_, rfl, s2.trans s3⟩⟩⟩
  rintro σ H2 ⟨u2', rfl, s2⟩
  have s12 := s1.trans s2
  refine ⟨_, rfl, y, C, dx, _, _, rfl, s12 _ _ hyo, T.cl, T.nP, rfl, pa, rfl, ⟨_, .of (s12 _ _ hpa)⟩, fun B hB => ?_⟩
  refine dc_tup (K := K) (a := pa) (xs := pas.map V.ref) (fun m H' => Same H2 H' ∧ ∃ fs, H' B = some (.dK (nmK (ps.take m) fs)) ∧ All2 (fun a (p : Str × Str) => FaceAt K H' a (faceB fi p.2)) fs (ps.take m)) ⟨upd_new hB, [], upd_same, .nil⟩ (fun m H' _ q => .of (q.1 _ _ (s12 _ _ hpa))) ?_ ?_
  · rintro m x H4 hx ⟨s4, fs, hB4, hf4⟩
    rw [List.getElem?_map] at hx
    obtain ⟨a, ha, rfl⟩ := Option.map_eq_some_iff.mp hx
    obtain ⟨p, hp, pa1⟩ := (pairs_port hps).at ha
    have hpm := List.mem_of_getElem? hp
    have pa1 : H a = some (.tup [.str p.1, .str p.2]) := pa1
    have s24 := s12.trans s4
    refine ⟨a, _, rfl, .of (s24 _ _ pa1), rfl, _, _, rfl, _, _, rfl, rfl, rfl, _, rfl, _, rfl, _, rfl, p.2, di, fi, rfl, (hps0 p hpm).1, hint.same s24, (hps0 p hpm).2, fun r H5 s5 hr5 => ?_⟩
    have hlen : fs.length = (ps.take m).length := hf4.1
    have s6 : Same H2 (upd H5 B (.dK (putK (nmK (ps.take m) fs) (Sum.inr p.1) (V.ref r)))) := same_put (s4.trans s5) hB
    have hB5 := s5 _ _ hB4
    have kp : ∀ {a : Addr} {xs : List V}, SqT K H5 a xs → SqT K (upd H5 B (.dK (putK (nmK (ps.take m) fs) (Sum.inr p.1) (V.ref r)))) a xs := fun h => sqT_put hB5 (fun _ z => by cases z) (fun _ _ z => by cases z) h
    have kf : ∀ {a : Addr} {g : Fc}, FaceAt K H5 a g → FaceAt K (upd H5 B (.dK (putK (nmK (ps.take m) fs) (Sum.inr p.1) (V.ref r)))) a g := fun ⟨i, o, q, as, h1, h2, h3, h4, h5⟩ =>
      ⟨i, o, q, as, kp h1, kp h2, kp h3, kp h4, h5.1, fun j a s e1 e2 => by
        obtain ⟨x, y, z1, z2, z3⟩ := h5.2 j a s e1 e2
        exact ⟨x, y, kp z1, kp z2, kp z3⟩⟩
    refine ⟨_, Sum.inr p.1, rfl, hB5, ?_, s6, fs ++ [r], ?_, ?_⟩
    · unfold nmK
      rw [List.length_map, List.length_zip, hlen, Nat.min_self, List.length_take]
      exact lt (by omega)
    · rw [upd_same, tk1 hp, nm_put hlen]
      intro hm
      have nd2 : ((ps.take (m + 1)).map (·.1)).Nodup := List.Nodup.sublist ((List.take_sublist _ _).map _) hnd
      rw [tk1 hp, List.map_append] at nd2
      exact (List.nodup_append.mp nd2).2.2 _ hm _ (List.mem_singleton.mpr rfl) rfl
    · rw [tk1 hp]
      exact (hf4.imp fun a p q => kf (q.same s5)).snoc (kf hr5)
  rintro H4 ⟨s4, fs, hB4, hf4⟩
  rw [List.take_of_length_le (by rw [List.length_map, hps.1]; exact Nat.le_refl _)] at hB4 hf4
  exact kk B H4 fs (s12.trans s4) hB4 hf4
end
end K28
namespace K28
open PySem L2 Own StX ClX NdefX
abbrev sCD : Stmt := top 41
abbrev sCI : Stmt := inClass (top 40) 0
abbrev sCIf : Stmt := inClass (top 40) 1
def tTru (K : PySem.W.Frag) (ta : TE) : TT := fun σ H Q => ta σ H fun x H' => ∃ k, TruV K x H' k ∧ Q k H'
def fsC (i o pr st en : V) : List (Str × V) := [("inputs", i), ("outputs", o), ("profile", pr), ("steps", st), ("end", en)]
structure CmC (K : PySem.W.Frag) (C : Addr) : Prop where
  cl : Cls K C
  nI : NoAttr K C "inputs"
  nO : NoAttr K C "outputs"
  nP : NoAttr K C "profile"
  nS : NoAttr K C "steps"
  nE : NoAttr K C "end"
def spCI (K : PySem.W.Frag) (C : Addr) : Sp := fun vs H Q _ => ∃ (p dx : Addr) (i o pr st en : V), vs = [.ref p, i, o, pr, st, en] ∧ H p = some (.ins C dx []) ∧ Q .non (upd H p (.ins C dx (fsC i o pr st en)))
def spCIf (K : PySem.W.Frag) (C : Addr) : Sp := fun vs H Q _ => ∃ (p dx : Addr) (i o pr st en : V), vs = [.ref p] ∧ H p = some (.ins C dx (fsC i o pr st en)) ∧ ∀ t H', Same H H' → H' t = some (.tup [i, o, pr]) → Q (.ref t) H'
def faceN (ps : List (Str × Str)) (fi : Str → Option Fc) (nm : Str) : Fc := match ps.find? (fun p => decide (p.1 = nm)) with
  | some p => faceB fi p.2
  | none => ⟨[], [], []⟩
theorem faceN_mem {ps : List (Str × Str)} {fi : Str → Option Fc} (nd : (ps.map (·.1)).Nodup) {p : Str × Str} (h : p ∈ ps) : faceN ps fi p.1 = faceB fi p.2 := by
  unfold faceN
  cases e : ps.find? (fun q => decide (q.1 = p.1)) with
  | none =>
    have := List.find?_eq_none.mp e p h
    simp at this
  | some q =>
    have h1 := List.mem_of_find?_eq_some e
    have h2 : q.1 = p.1 := of_decide_eq_true (List.find?_some (p := fun q : Str × Str => decide (q.1 = p.1)) e)
    obtain ⟨i, hi, ei⟩ := List.getElem_of_mem h1
    obtain ⟨j, hj, ej⟩ := List.getElem_of_mem h
    have : i = j := by
      refine (List.getElem_inj (h₀ := by rw [List.length_map]; exact hi) (h₁ := by rw [List.length_map]; exact hj) nd).mp ?_
      rw [List.getElem_map, List.getElem_map, ei, ej, h2]
    subst this
    rw [ei] at ej
    subst ej
    rfl
/-- what is asked of a diagram that compiles -/
structure CdOk (ins outs : List Str) (ps : List (Str × Str)) (ws : List (Port × Port)) (fi : Str → Option Fc) (order : List Call) (r : Reach) : Prop where
  w : WOk ins outs ps (faceN ps fi) ws
  z : Sz ps (faceN ps fi)
  iN : ins.Nodup
  b : ∀ p ∈ ps, p.2.length ≤ 1000 ∧ (readP p.2 = none → (fi p.2).isSome = true)
  kn : (ws.map (·.1)).Nodup
  kl : ∀ w ∈ ws, w.1.1.length ≤ 1000
  ar : ∀ p ∈ ps, ∀ s ∈ (faceN ps fi p.1).prof, ∀ need ∈ s.2, (look ws (p.1, need)).isSome = true
  gd : ∀ c ∈ listCalls ps (faceN ps fi) ws, Good ps (faceN ps fi) c
  cn : ((listCalls ps (faceN ps fi) ws).map fun c => (c.part, c.num)).Nodup
  cl : (listCalls ps (faceN ps fi) ws).length ≤ 128
  od : orderCalls (faceN ps fi) ins (listCalls ps (faceN ps fi) ws).length (listCalls ps (faceN ps fi) ws) [] (reach0 ins) = some (order, r)
  og : ∀ c ∈ order, Good ps (faceN ps fi) c
  ol : order.length ≤ 128
  oo : ∀ o ∈ outs, ∃ s l, look ws (Str.empty, o) = some s ∧ look r s = some l
  pf : ∀ s ∈ profileOf outs ws r, s.1 ≠ [] ∧ s.1.length ≤ 8 ∧ ∀ o ∈ s.1, (look ws (Str.empty, o)).isSome = true
  pl : (profileOf outs ws r).length ≤ 8
def CpAt (K : PySem.W.Frag) (CC : Addr) (H : Hp) (z : Addr) (ins outs : List Str) (prof : List Fnc) (ol fl : Nat) : Prop := ∃ (dz i o pr st en e1 e2 : Addr) (as : List Addr) (xs1 xs2 xs3 : List V), H z = some (.ins CC dz (fsC (.ref i) (.ref o) (.ref pr) (.ref st) (.ref en))) ∧ IxT H i (ins.map V.str) ∧ IxT H o (outs.map V.str) ∧ H pr = some (.tup (as.map V.ref)) ∧ FncsAt K H as prof ∧
  H st = some (.tup xs1) ∧ xs1.length = prof.length ∧ H en = some (.tup [.ref e1, .ref e2]) ∧ H e1 = some (.tup xs2) ∧ xs2.length = ol ∧ H e2 = some (.tup xs3) ∧ xs3.length = fl
def spCD (K : PySem.W.Frag) (C CC : Addr) : Sp := fun vs H Q _ => ∃ (y di : Addr) (n : Str) (ins outs : List Str) (ps : List (Str × Str)) (ws : List (Port × Port)) (fi : Str → Option Fc) (order : List Call) (r : Reach), vs = [.ref y, .ref di] ∧ DgAt K C H y n ins outs ps ws ∧ InterAt K H di fi ∧ CdOk ins outs ps ws fi order r ∧
  ∀ z H', Same H H' → CpAt K CC H' z ins outs (profileOf outs ws r) order.length (ws.filter fun w => !(decide (w.1.1.length = 0))).length → Q (.ref z) H'
section
variable {P : Program} {w : World} {K : PySem.W.Frag} {mg : Str → Option Value} {base : Heap} {C CC : Addr}
theorem scCI : FnScope ["self", "inputs", "outputs", "profile", "steps", "end"] ["self", "inputs", "outputs", "profile", "steps", "end"] (defScope sCI) := ⟨rfl, rfl, rfl, by decide +kernel, rfl, by decide +kernel, by decide +kernel⟩
theorem ok_ci {f : Addr} {fd : FuncData} (F : Fun K "__init__" "Compiled.__init__" sCI f fd) (T : CmC K CC) : FnOk P w K mg base CX0 1 f fd ["self", "inputs", "outputs", "profile", "steps", "end"] (spCI K CC) := by
  refine F.ok scCI (fun vs H Q E h => ?_) (fun cdv A outer s H vs Q E hr h => ?_)
  · obtain ⟨p, dx, i, o, pr, st, en, rfl, _⟩ := h
    rfl
  obtain ⟨p, dx, i, o, pr, st, en, rfl, hp, k⟩ := h
  refine ⟨_, pss_cons (ps_fld (pv 0) (pv 1) rfl) (pss_cons (ps_fld (pv 0) (pv 2) rfl) (pss_cons (ps_fld (pv 0) (pv 3) rfl) (pss_cons (ps_fld (pv 0) (pv 4) rfl) (pss_one (ps_fld (pv 0) (pv 5) rfl))))), ?_⟩
  refine ⟨_, rfl, _, rfl, p, CC, dx, [], rfl, hp, T.cl, T.nI, (by show 0 < 1000; decide), ?_⟩
  refine ⟨_, rfl, _, rfl, p, CC, dx, _, rfl, upd_same, T.cl, T.nO, (by show 1 < 1000; decide), ?_⟩
  refine ⟨_, rfl, _, rfl, p, CC, dx, _, rfl, upd_same, T.cl, T.nP, (by show 2 < 1000; decide), ?_⟩
  refine ⟨_, rfl, _, rfl, p, CC, dx, _, rfl, upd_same, T.cl, T.nS, (by show 3 < 1000; decide), ?_⟩
  refine ⟨_, rfl, _, rfl, p, CC, dx, _, rfl, upd_same, T.cl, T.nE, (by show 4 < 1000; decide), ?_⟩
  rw [upd_upd, upd_upd, upd_upd, upd_upd]
  exact k
theorem scCIf : FnScope ["self"] ["self"] (defScope sCIf) := ⟨rfl, rfl, rfl, by decide +kernel, rfl, by decide +kernel, by decide +kernel⟩
theorem ok_cif {f : Addr} {fd : FuncData} (F : Fun K "interface" "Compiled.interface" sCIf f fd) (T : CmC K CC) : FnOk P w K mg base CX0 1 f fd ["self"] (spCIf K CC) := by
  refine F.ok scCIf (fun vs H Q E h => ?_) (fun cdv A outer s H vs Q E hr h => ?_)
  · obtain ⟨p, dx, i, o, pr, st, en, rfl, _⟩ := h
    rfl
  obtain ⟨p, dx, i, o, pr, st, en, rfl, hp, k⟩ := h
  refine ⟨_, pss_one (ps_ret (pe_tup (pa_cons (pe_fld (pv 0) rfl) (pa_cons (pe_fld (pv 0) rfl) (pa_cons (pe_fld (pv 0) rfl) pa_nil))))), ?_⟩
  refine ⟨_, rfl, p, CC, dx, _, _, rfl, hp, T.cl, T.nI, rfl, _, rfl, p, CC, dx, _, _, rfl, hp, T.cl, T.nO, rfl, _, rfl, p, CC, dx, _, _, rfl, hp, T.cl, T.nP, rfl, small1 (by show 3 ≤ 8; decide), fun t ht => ?_⟩
  exact k t _ (upd_new ht) upd_same
abbrev nCD : List Str := ["diagram", "interfaces", "faces", "sources", "order", "reach", "profile", "steps", "feeds", "end", "target", "source", "outputs", "_"]
theorem scCD : FnScope nCD ["diagram", "interfaces"] (defScope sCD) := ⟨rfl, rfl, rfl, by decide +kernel, rfl, by decide +kernel, by decide +kernel⟩
theorem ok_cd {f fP fW fL fO fM fS fC : Addr} {fd fdP fdW fdL fdO fdM fdS fdC : FuncData} (F : Fun K "compile_diagram" "compile_diagram" sCD f fd) (T : DgC K mg C) (TC : CmC K CC)
    (GP : FnOk P w K mg base CX0 6 fP fdP ["diagram", "interfaces"] (spPIs K C)) (mP : mg "_part_interfaces" = some (.ref fP)) (kP : PySem.W.keepIn K (.ref fP) = true) (bP : Binds K fdP ["diagram", "interfaces"] [])
    (GW : FnOk P w K mg base CX0 1 fW fdW ["diagram", "faces"] (spCW K C)) (mW : mg "check_wires" = some (.ref fW)) (kW : PySem.W.keepIn K (.ref fW) = true) (bW : Binds K fdW ["diagram", "faces"] [])
    (GL : FnOk P w K mg base CX0 1 fL fdL ["diagram", "faces", "sources"] (spLC K C)) (mL : mg "_list_calls" = some (.ref fL)) (kL : PySem.W.keepIn K (.ref fL) = true) (bL : Binds K fdL ["diagram", "faces", "sources"] [])
    (GO : FnOk P w K mg base CX0 2 fO fdO ["diagram", "faces", "calls"] (spOC K C)) (mO : mg "_order_calls" = some (.ref fO)) (kO : PySem.W.keepIn K (.ref fO) = true) (bO : Binds K fdO ["diagram", "faces", "calls"] [])
    (GM : FnOk P w K mg base CX0 1 fM fdM ["diagram", "sources", "reach"] (spMP K C)) (mM : mg "_make_profile" = some (.ref fM)) (kM : PySem.W.keepIn K (.ref fM) = true) (bM : Binds K fdM ["diagram", "sources", "reach"] [])
    (GS : FnOk P w K mg base CX0 2 fS fdS ["outputs", "sources", "order", "faces"] (spMS K)) (mS : mg "_make_step" = some (.ref fS)) (kS : PySem.W.keepIn K (.ref fS) = true) (bS : Binds K fdS ["outputs", "sources", "order", "faces"] [])
    (MC : Mk K CC fC) (GC : FnOk P w K mg base CX0 1 fC fdC ["self", "inputs", "outputs", "profile", "steps", "end"] (spCI K CC)) (mC : mg "Compiled" = some (.ref CC)) (bC : Binds K fdC ["self", "inputs", "outputs", "profile", "steps", "end"] []) :
    FnOk P w K mg base CX0 7 f fd ["diagram", "interfaces"] (spCD K C CC) := by
  have zt := T.zt
  refine F.ok scCD (fun vs H Q E h => ?_) (fun cdv A outer s H vs Q E hr h => ?_)
  · obtain ⟨y, di, n, ins, outs, ps, ws, fi, order, r, rfl, _⟩ := h
    rfl
  obtain ⟨y, di, n, ins, outs, ps, ws, fi, order, r, rfl, hy, hint, ok, kk⟩ := h
  have hu := hr.units
  have hu1 := Nat.lt_of_le_of_lt (Nat.add_le_add_left (show 1 ≤ 64 by decide) _) hu
  have hu0 := Nat.lt_of_le_of_lt (Nat.le_add_right _ 64) hu
  refine ⟨_, (pss_cons (ps_set (i := 2) scCD.nd rfl (.inr rfl) (pe_call GP hr rfl mP kP bP .nil pass0 (pa_cons (pv 0) (pa_cons (pv 1) pa_nil))))
    (pss_cons (ps_expr (pe_call GW (hr.mono (by decide)) rfl mW kW bW .nil pass0 (pa_cons (pv 0) (pa_cons (pv 2) pa_nil))))
    (pss_cons (ps_set (i := 3) scCD.nd rfl (.inr rfl) (by exact (pe_dcT (own := [("target", 10), ("source", 11)]) (g := (gTup K 2 (gCons (gName 10) (gCons (gName 11) gNil)))) (.dT []) (.inl rfl) hu0 rfl scCD.nd (pi_tup (pe_fld (pv 0) rfl)) (blkOk_by (own := [("target", 10), ("source", 11)]) (N := nCD) (sc := defScope sCD) (by decide +kernel)) (fun _ _ _ _ _ => by exact (pg_tup (by rfl) (pgs_cons (pg_name (i := 10) scCD.nd rfl (Or.inl rfl)) (pgs_cons (pg_name (i := 11) scCD.nd rfl (Or.inl rfl)) pgs_nil)))) (fun _ _ _ _ _ => pts_nil) (fun _ _ _ _ _ => by exact (pv 10)) (fun _ _ _ _ _ => by exact (pv 11)))))
    (pss_cons (ps_asg (pe_call GO (hr.mono (by decide)) rfl mO kO bO .nil pass0 (pa_cons (pv 0) (pa_cons (pv 2) (pa_cons (pe_call GL (hr.mono (by decide)) rfl mL kL bL .nil pass0 (pa_cons (pv 0) (pa_cons (pv 2) (pa_cons (pv 3) pa_nil)))) pa_nil)))) (pg_tup (by rfl) (pgs_cons (pg_name (i := 4) scCD.nd rfl (.inr rfl)) (pgs_cons (pg_name (i := 5) scCD.nd rfl (.inl rfl)) pgs_nil))))
    (pss_cons (ps_set (i := 6) scCD.nd rfl (.inl rfl) (pe_call GM (hr.mono (by decide)) rfl mM kM bM .nil pass0 (pa_cons (pv 0) (pa_cons (pv 3) (pa_cons (pv 5) pa_nil)))))
    (pss_cons (ps_setLc (i := 7) (own := [("outputs", 12), ("_", 13)]) (g := (gTup K 2 (gCons (gName 12) (gCons (gName 13) gNil)))) rfl scCD.nd rfl rfl (sw_true rfl rfl rfl (by decide +kernel)) (pi_tup (pv 6)) (blkOk_by (own := [("outputs", 12), ("_", 13)]) (N := nCD) (sc := defScope sCD) (by decide +kernel)) (fun _ _ _ _ _ => by exact (pg_tup (by rfl) (pgs_cons (pg_name (i := 12) scCD.nd rfl (Or.inl rfl)) (pgs_cons (pg_name (i := 13) scCD.nd rfl (Or.inl rfl)) pgs_nil)))) (fun _ _ _ _ _ => pts_nil)
      (fun _ _ _ _ _ => by exact (pe_call GS (hr.mono (by decide)) rfl mS kS bS .nil pass0 (pa_cons (pv 12) (pa_cons (pv 3) (pa_cons (pv 4) (pa_cons (pv 2) pa_nil)))))))
    (pss_cons (ps_setLc (i := 8) (own := [("target", 10), ("source", 11)]) (g := (gTup K 2 (gCons (gName 10) (gCons (gName 11) gNil)))) rfl scCD.nd rfl rfl (sw_true rfl rfl rfl (by decide +kernel)) (pi_tup (pe_fld (pv 0) rfl)) (blkOk_by (own := [("target", 10), ("source", 11)]) (N := nCD) (sc := defScope sCD) (by decide +kernel)) (fun _ _ _ _ _ => by exact (pg_tup (by rfl) (pgs_cons (pg_name (i := 10) scCD.nd rfl (Or.inl rfl)) (pgs_cons (pg_name (i := 11) scCD.nd rfl (Or.inl rfl)) pgs_nil)))) (fun _ _ _ _ _ => by exact (pts_one (show PT _ _ (tTru K (tOp (rIxT K) (tVar 10) (tC (V.int 0)))) from pt_truth (pe_ix (show IxR _ (rIxT K) from ix_tup) (pv 10) pe_int (fun _ _ => rfl)) (by intro _; rfl))))
      (fun _ _ _ _ _ => by exact (pe_tup (pa_cons (pe_ix (show IxR _ (rIxT K) from ix_tup) (pv 10) pe_int (fun _ _ => rfl)) (pa_cons (pe_ix (show IxR _ (rIxT K) from ix_tup) (pv 10) pe_int (fun _ _ => rfl)) (pa_cons (pv 11) pa_nil))))))
    (pss_cons (ps_set (i := 9) scCD.nd rfl (.inl rfl) (pe_tup (pa_cons (pe_callTy call_tuple_of (by rfl) zt (by decide +kernel) (pa_cons (pv 4) pa_nil)) (pa_cons (pe_callTy call_tuple_of (by rfl) zt (by decide +kernel) (pa_cons (pv 8) pa_nil)) pa_nil))))
    (pss_one (ps_ret (pe_make MC GC (hr.mono (by decide)) rfl mC bC .nil pass0 (pa_cons (pe_fld (pv 0) rfl) (pa_cons (pe_fld (pv 0) rfl) (pa_cons (pv 6) (pa_cons (pe_callTy call_tuple_of (by rfl) zt (by decide +kernel) (pa_cons (pv 7) pa_nil)) (pa_cons (pv 9) pa_nil)))))))))))))))), ?_⟩
  have lt : ∀ {n : Nat}, n ≤ 100000 → n < sizeLine := fun h => by rw [sizeLine_eq]; omega
  have hy0 := hy
  obtain ⟨dx, ii, oo, pa, wa, pas, bs, hyo, hi, ho, hpa, hps, hwa, hws⟩ := hy
  refine ⟨_, rfl, _, rfl, y, di, n, ins, outs, ps, ws, fi, rfl, hy0, hint, ok.w.pl, ok.w.nd, ok.b, fun df H1 fs s1 hdf hfs => ?_⟩
  have hF : FacesAt K H1 df ps (faceN ps fi) := ⟨fs, hdf, hfs.1, fun i a p e1 e2 => by
    show FaceAt K H1 a (faceN ps fi p.1)
    rw [faceN_mem (fi := fi) ok.w.nd (List.mem_of_getElem? e2)]
    exact hfs.2 i a p e1 e2⟩
  refine ⟨_, rfl, _, rfl, y, df, n, ins, outs, ps, ws, faceN ps fi, rfl, hy0.same s1, hF, ok.w, fun H2 s2 => ?_⟩
  have s12 := s1.trans s2
  have wl := ok.w.wl
  refine ⟨_, rfl, y, C, dx, _, _, rfl, s12 _ _ hyo, T.cl, T.nW, rfl, wa, rfl, ⟨_, .of (s12 _ _ hwa)⟩, fun D hD => ?_⟩
  refine out_it (walk_tup (xs := bs.map V.ref)) (fun m H' => Same H2 H' ∧ PD (PortAt H) H' D (ws.take m)) ⟨upd_new hD, [], upd_same, .nil⟩ (fun m H' _ q => .of (q.1 _ _ (s12 _ _ hwa))) ?_ ?_
  · rintro m x Hx H4 hm ⟨s4, pd4⟩ ⟨rfl, hx⟩
    rw [List.getElem?_map] at hx
    obtain ⟨b, hb, rfl⟩ := Option.map_eq_some_iff.mp hx
    have hml : m < ws.length := by
      have := (List.getElem?_eq_some_iff.mp hb).1
      rw [hws.1] at this
      exact this
    have ew : ws[m]? = some ws[m] := List.getElem?_eq_getElem hml
    obtain ⟨t, sp, h1, h2, h3⟩ := hws.2 m b ws[m] hb ew
    have s24 := s12.trans s4
    have hnew : ¬ ws[m].1 ∈ (ws.take m).map (·.1) := fun q => by
      have nd2 : ((ws.take (m + 1)).map (·.1)).Nodup := List.Nodup.sublist ((List.take_sublist _ _).map _) ok.kn
      rw [tk1 ew, List.map_append] at nd2
      exact (List.nodup_append.mp nd2).2.2 _ q _ (List.mem_singleton.mpr rfl) rfl
    obtain ⟨H6, dp, pd6, keep⟩ := PD.put (H0 := H) (R := PortAt H) (R' := PortAt H) (p := ws[m].1) (v := ws[m].2) (b := t) (a := sp) pd4 hnew (fun _ _ r => r) h3 (s24 _ _ h2) (by rw [List.length_take]; exact lt (by omega))
    refine ⟨b, _, rfl, .of (s24 _ _ h1), rfl, _, _, rfl, _, _, rfl, rfl, rfl, _, rfl, _, rfl, H6, dp, fun c u e => ?_, ?_⟩
    · have nc : c ≠ D := fun z => by rw [z, hD] at e; cases e
      rw [keep c nc]
      exact s4 _ _ e
    · rw [tk1 ew]
      exact pd6
  rintro H3 ⟨s3, pd3⟩
  rw [List.take_of_length_le (by rw [List.length_map, hws.1]; exact Nat.le_refl _)] at pd3
  have s03 := s12.trans s3
  have pdS : ∀ {H' : Hp}, Same H3 H' → PD (PortAt H') H' D ws := fun {H'} s => by
    obtain ⟨as, e1, e2⟩ := pd3
    exact ⟨as, s _ _ e1, e2.imp fun a kv e => (s03.trans s) _ _ e⟩
  have hF3 : ∀ {H' : Hp}, Same H3 H' → FacesAt K H' df ps (faceN ps fi) := fun s => hF.same ((s2.trans s3).trans s)
  refine ⟨_, rfl, _, rfl, _, rfl, _, rfl, _, rfl, y, df, D, n, ins, outs, ps, ws, faceN ps fi, rfl, hy0.same s03, hF3 (Same.refl _), pdS (Same.refl _), ok.z, ok.ar, fun L las H4 s4 hL hcs => ?_⟩
  refine ⟨y, df, L, n, ins, outs, ps, ws, faceN ps fi, las, _, order, r, rfl, hy0.same (s03.trans s4), hF3 s4, ok.z, hL, hcs, ok.w.il, ok.iN, ok.gd, ok.cn, ok.cl, ok.od, fun t lo dr oas H5 s5 ht hlo hoc hrc => ⟨t, _, rfl, .of ht, rfl, _, _, rfl, _, _, rfl, rfl, ?_⟩⟩
  have s35 := s4.trans s5
  refine ⟨_, rfl, _, rfl, _, rfl, y, D, dr, n, ins, outs, ps, ws, r, rfl, hy0.same (s03.trans s35), pdS s35, hrc, ok.w.ol, ok.oo, fun pr pas2 H6 s6 hpr hfn => ?_⟩
  have s36 := s35.trans s6
  have s06 := s03.trans s36
  refine ⟨_, rfl, pr, rfl, ⟨_, .of hpr⟩, fun B hB => ?_⟩
  refine out_it (walk_tup (xs := pas2.map V.ref)) (fun m H' => Same H6 H' ∧ ∃ xs : List V, H' B = some (.lst xs) ∧ xs.length = m) ⟨upd_new hB, [], upd_same, rfl⟩ (fun m H' _ q => .of (q.1 _ _ hpr)) ?_ ?_
  · rintro m x Hx H7 hm ⟨s7, xs, hB7, hxl⟩ ⟨rfl, hx⟩
    rw [List.getElem?_map] at hx
    obtain ⟨a, ha, rfl⟩ := Option.map_eq_some_iff.mp hx
    obtain ⟨sf, hsf, x, y', z1, z2, z3⟩ := hfn.at ha
    obtain ⟨p1, p2, p3⟩ := ok.pf sf (List.mem_of_getElem? hsf)
    have s37 := s36.trans s7
    have hm8 : m < 8 := by
      have h1 := (List.getElem?_eq_some_iff.mp hsf).1
      have h2 := ok.pl
      omega
    refine ⟨a, _, rfl, sqT_same s7 z1, rfl, _, _, rfl, _, _, rfl, rfl, rfl, _, rfl, _, rfl, _, rfl, _, rfl, x, D, lo, df, sf.1, ps, ws, faceN ps fi, oas, order, rfl, sqT_same s7 z2, pdS s37, (s6.trans s7) _ _ hlo, CallsAt.keep (TupS.of (s6.trans s7)) hoc, hF3 s37, ok.z, ok.og, p3, p2, p1, ok.ol, fun t H8 s8 => ⟨_, s8 _ _ hB7, ?_, same_put (s7.trans s8) hB, xs ++ [.ref t], upd_same, ?_⟩⟩
    · exact lt (by omega)
    · rw [List.length_append, hxl]
      rfl
  rintro H7 ⟨s7, xs1, hB7, hxl1⟩
  have s07 := s06.trans s7
  refine ⟨_, rfl, y, C, dx, _, _, rfl, s07 _ _ hyo, T.cl, T.nW, rfl, wa, rfl, ⟨_, .of (s07 _ _ hwa)⟩, fun B2 hB2 => ?_⟩
  refine out_it (walk_tup (xs := bs.map V.ref)) (fun m H' => Same H7 H' ∧ ∃ xs : List V, H' B2 = some (.lst xs) ∧ xs.length = ((ws.take m).filter fun w => !(decide (w.1.1.length = 0))).length) ⟨upd_new hB2, [], upd_same, rfl⟩ (fun m H' _ q => .of (q.1 _ _ (s07 _ _ hwa))) ?_ ?_
  · rintro m x Hx H8 hm ⟨s8, xs, hB8, hxl⟩ ⟨rfl, hx⟩
    rw [List.getElem?_map] at hx
    obtain ⟨b, hb, rfl⟩ := Option.map_eq_some_iff.mp hx
    have hml : m < ws.length := by
      have := (List.getElem?_eq_some_iff.mp hb).1
      rw [hws.1] at this
      exact this
    have ew : ws[m]? = some ws[m] := List.getElem?_eq_getElem hml
    obtain ⟨t, sp, h1, h2, h3⟩ := hws.2 m b ws[m] hb ew
    have s08 := s07.trans s8
    have ef : (ws.take (m + 1)).filter (fun w => !(decide (w.1.1.length = 0))) = (ws.take m).filter (fun w => !(decide (w.1.1.length = 0))) ++ [ws[m]].filter (fun w => !(decide (w.1.1.length = 0))) := by rw [tk1 ew, List.filter_append]
    refine ⟨b, _, rfl, .of (s08 _ _ h1), rfl, _, _, rfl, _, _, rfl, rfl, rfl, _, rfl, t, _, 0, _, rfl, rfl, .of (s08 _ _ h2), at_of (j := 0) rfl rfl, _, ⟨Nat.le_of_lt (small1000 (ok.kl ws[m] (List.getElem_mem hml))), rfl⟩, ?_⟩
    by_cases h0 : ws[m].1.1.length = 0
    · rw [show ((ws[m].1.1.length : Int) != 0) = false by simp [h0]]
      refine iteF ⟨s8, xs, hB8, ?_⟩
      rw [ef, List.length_append, hxl, List.filter_cons, decide_eq_true h0]
      rfl
    · rw [show ((ws[m].1.1.length : Int) != 0) = true by simp [h0]]
      refine iteT ⟨_, rfl, t, _, 0, _, rfl, rfl, .of (s08 _ _ h2), at_of (j := 0) rfl rfl, _, rfl, t, _, 1, _, rfl, rfl, .of (s08 _ _ h2), at_of (j := 1) rfl rfl, _, rfl, small1 (by show 3 ≤ 8; decide), fun q hq => ⟨_, (upd_new hq) _ _ hB8, ?_, same_put (s8.trans (upd_new hq)) hB2, _, upd_same, ?_⟩⟩
      · rw [hxl]
        have := List.length_filter_le (fun w : Port × Port => !(decide (w.1.1.length = 0))) (ws.take m)
        rw [List.length_take] at this
        exact lt (by omega)
      · rw [ef, List.length_append, List.length_append, hxl, List.filter_cons, decide_eq_false h0]
        rfl
  rintro H8 ⟨s8, xs3, hB8, hxl3⟩
  rw [List.take_of_length_le (by rw [List.length_map, hws.1]; exact Nat.le_refl _)] at hxl3
  have s58 : Same H5 H8 := s6.trans (s7.trans s8)
  have s08 := s07.trans s8
  refine ⟨_, rfl, lo, _, rfl, .inl ⟨.of (s58 _ _ hlo), fun e1 he1 => ⟨_, rfl, B2, _, rfl, .inl ⟨.of ((upd_new he1) _ _ hB8), fun e2 he2 => ⟨small1 (by show 2 ≤ 8; decide), fun en hen => ?_⟩⟩⟩⟩⟩
  have t1 := upd_new (o := HO.tup (oas.map V.ref)) he1
  have t2 := upd_new (o := HO.tup xs3) he2
  have t3 := upd_new (o := HO.tup [V.ref e1, V.ref e2]) hen
  have g1 := t3 _ _ (t2 _ _ (upd_same (H := H8) (a := e1) (o := HO.tup (oas.map V.ref))))
  have g2 := t3 _ _ (upd_same (H := upd H8 e1 (HO.tup (oas.map V.ref))) (a := e2) (o := HO.tup xs3))
  have g3 := upd_same (H := upd (upd H8 e1 (HO.tup (oas.map V.ref))) e2 (HO.tup xs3)) (a := en) (o := HO.tup [V.ref e1, V.ref e2])
  have s89 := t1.trans (t2.trans t3)
  generalize upd (upd (upd H8 e1 (HO.tup (oas.map V.ref))) e2 (HO.tup xs3)) en (HO.tup [V.ref e1, V.ref e2]) = H9 at s89 g1 g2 g3 ⊢
  have s09 := s08.trans s89
  have s69 : Same H6 H9 := s7.trans (s8.trans s89)
  have hB9 := s89 _ _ (s8 _ _ hB7)
  refine ⟨_, rfl, y, C, dx, _, _, rfl, s09 _ _ hyo, T.cl, T.nI, rfl, _, rfl, y, C, dx, _, _, rfl, s09 _ _ hyo, T.cl, T.nO, rfl, _, rfl, _, rfl, B, _, rfl, .inl ⟨.of hB9, fun st hst => ⟨_, rfl, fun z dz hz hdz hne => ⟨z, dz, _, _, _, _, _, rfl, upd_same, ⟨rfl, ?_⟩⟩⟩⟩⟩
  have t4 := upd_new (o := HO.tup xs1) hst
  have S3 : Same (upd H9 st (HO.tup xs1)) (upd (upd (upd H9 st (HO.tup xs1)) dz (.own z)) z (.ins CC dz [])) := same_put (upd_new hdz) hz
  have S4 : Same (upd H9 st (HO.tup xs1)) (upd (upd (upd (upd H9 st (HO.tup xs1)) dz (.own z)) z (.ins CC dz [])) z (.ins CC dz (fsC (.ref ii) (.ref oo) (.ref pr) (.ref st) (.ref en)))) := fun b u e => (upd_ne (ne_of_none e hz)).trans (S3 _ _ e)
  have S5 := t4.trans S4
  refine kk z _ (s09.trans S5) ⟨dz, ii, oo, pr, st, en, e1, e2, pas2, xs1, _, _, upd_same, ixT_same (s09.trans S5) hi, ixT_same (s09.trans S5) ho, S5 _ _ (s69 _ _ hpr), FncsAt.same (s69.trans S5) hfn, S4 _ _ upd_same, ?_, S5 _ _ g3, S5 _ _ g1, ?_, S5 _ _ g2, hxl3⟩
  · rw [hxl1, List.length_map, hfn.1]
  · rw [List.length_map, hoc.1]
end
end K28
namespace K28
open PySem L2 Own StX ClX NdefX
/-! ### what is asked of a diagram that compiles, by the names of its parts, to be computed -/
def tgN (sel : Fc → List Str) (ns : List Str) (face : Str → Fc) : List Port := ns.flatMap fun n => (sel (face n)).map fun x => (n, x)
def callsN (ns : List Str) (face : Str → Fc) (ws : List (Port × Port)) : List Call := ns.flatMap fun n => callsOf face ws n
def goodN (ns : List Str) (face : Str → Fc) (c : Call) : Bool := decide (c.part ∈ ns) && ((face c.part).prof[c.num]?).isSome && decide (c.args.length ≤ 8)
def CdN (ins outs ns : List Str) (face : Str → Fc) (ws : List (Port × Port)) (order : List Call) (r : Reach) : Prop :=
  ns.length ≤ 16 ∧ ns.Nodup ∧ (∀ n ∈ ns, (face n).ins.length ≤ 8 ∧ (face n).outs.length ≤ 8 ∧ (face n).prof.length ≤ 8 ∧ ∀ s ∈ (face n).prof, s.1.length ≤ 8 ∧ s.2.length ≤ 8) ∧
  ins.length ≤ 8 ∧ outs.length ≤ 8 ∧ ws.length ≤ 1000 ∧ tgN (·.ins) ns face ≠ [] ∧ tgN (·.outs) ns face ≠ [] ∧
  (∀ w ∈ ws, w.1 ∈ tgN (·.ins) ns face ++ own0 outs ∧ w.2 ∈ tgN (·.outs) ns face ++ own0 ins) ∧ (∀ t ∈ tgN (·.ins) ns face ++ own0 outs, t ∈ ws.map (·.1)) ∧
  ins.Nodup ∧ (ws.map (·.1)).Nodup ∧ (∀ w ∈ ws, w.1.1.length ≤ 1000) ∧ (∀ n ∈ ns, ∀ s ∈ (face n).prof, ∀ need ∈ s.2, (look ws (n, need)).isSome = true) ∧
  (∀ c ∈ callsN ns face ws, goodN ns face c = true) ∧ ((callsN ns face ws).map fun c => (c.part, c.num)).Nodup ∧ (callsN ns face ws).length ≤ 128 ∧
  orderCalls face ins (callsN ns face ws).length (callsN ns face ws) [] (reach0 ins) = some (order, r) ∧ (∀ c ∈ order, goodN ns face c = true) ∧ order.length ≤ 128 ∧
  (∀ o ∈ outs, ((look ws (Str.empty, o)).bind fun s => look r s).isSome = true) ∧
  (∀ s ∈ profileOf outs ws r, s.1 ≠ [] ∧ s.1.length ≤ 8 ∧ ∀ o ∈ s.1, (look ws (Str.empty, o)).isSome = true) ∧ (profileOf outs ws r).length ≤ 8
set_option synthInstance.maxSize 20000 in
set_option synthInstance.maxHeartbeats 0 in
instance (ins outs ns : List Str) (face : Str → Fc) (ws : List (Port × Port)) (order : List Call) (r : Reach) : Decidable (CdN ins outs ns face ws order r) := by
  unfold CdN
  infer_instance
theorem tgN_eq {sel : Fc → List Str} {ps : List (Str × Str)} {face : Str → Fc} : tgs sel ps face = tgN sel (ps.map (·.1)) face := by
  unfold tgs tgN
  rw [List.flatMap_map]
theorem callsN_eq {ps : List (Str × Str)} {face : Str → Fc} {ws : List (Port × Port)} : listCalls ps face ws = callsN (ps.map (·.1)) face ws := by
  unfold listCalls callsN
  rw [List.flatMap_map]
theorem good_of {ps : List (Str × Str)} {face : Str → Fc} {c : Call} (h : goodN (ps.map (·.1)) face c = true) : Good ps face c := by
  unfold goodN at h
  simp only [Bool.and_eq_true, decide_eq_true_eq] at h
  obtain ⟨⟨h1, h2⟩, h3⟩ := h
  obtain ⟨p, hp, e⟩ := List.mem_map.mp h1
  obtain ⟨s, hs⟩ := Option.isSome_iff_exists.mp h2
  exact ⟨⟨p, hp, e, s, hs⟩, h3⟩
theorem cdOk_of {ins outs : List Str} {ps : List (Str × Str)} {ws : List (Port × Port)} {fi : Str → Option Fc} {order : List Call} {r : Reach} (hb : ∀ p ∈ ps, p.2.length ≤ 1000 ∧ (readP p.2 = none → (fi p.2).isSome = true))
    (h : CdN ins outs (ps.map (·.1)) (faceN ps fi) ws order r) : CdOk ins outs ps ws fi order r := by
  obtain ⟨h1, h2, h3, h4, h5, h6, h7, h8, h9, h10, h11, h12, h13, h14, h15, h16, h17, h18, h19, h20, h21, h22, h23⟩ := h
  rw [← tgN_eq] at h7 h8 h10
  rw [← callsN_eq] at h15 h16 h17 h18
  rw [List.length_map] at h1
  have hm : ∀ p ∈ ps, p.1 ∈ ps.map (·.1) := fun p hp => List.mem_map.mpr ⟨p, hp, rfl⟩
  refine ⟨⟨h1, h2, fun p hp => ⟨(h3 _ (hm p hp)).1, (h3 _ (hm p hp)).2.1⟩, h4, h5, h6, h7, h8, fun w hw => ?_, h10⟩, ⟨h1, fun p hp => (h3 _ (hm p hp)).2.2.1, fun p hp s hs => (h3 _ (hm p hp)).2.2.2 s hs, h2⟩, h11, hb, h12, h13,
    fun p hp => h14 _ (hm p hp), fun c hc => good_of (h15 c hc), h16, h17, h18, fun c hc => good_of (h19 c hc), h20, fun o ho => ?_, h22, h23⟩
  · rw [tgN_eq, tgN_eq]
    exact h9 w hw
  · have q := h21 o ho
    obtain ⟨l, hl⟩ := Option.isSome_iff_exists.mp q
    obtain ⟨s, e1, e2⟩ := Option.bind_eq_some_iff.mp hl
    exact ⟨s, l, e1, e2⟩
/-! ### the diagrams of the law -/
abbrev Nd : Type := List Str × List Str
def faceO (nd : Nd) : Fc := ⟨["i", "j"], ["p", "q"], if nd.1 = nd.2 then [(["p", "q"], nd.1)] else [(["p"], nd.1), (["q"], nd.2)]⟩
def thru (needs : List Str) (oi oj : List Str) : List Str := ([("i" : Str), "j"] : List Str).filter fun (o : Str) => decide (o ∈ needs.flatMap fun (n : Str) => if n = ("i" : Str) then oi else oj)
def nextN (way : Nat) (nd : Nd) : Nd :=
  if way = 0 then nd
  else if way = 1 then (thru nd.1 nd.1 nd.2, thru nd.2 nd.1 nd.2)
  else (thru nd.1 nd.1 [], thru nd.2 ["i"] (thru nd.1 nd.1 []))
def wsOf (way : Nat) : List (Port × Port) :=
  if way = 0 then [(("one", "i"), ("", "i")), (("one", "j"), ("", "j")), (("two", "i"), ("", "i")), (("two", "j"), ("", "j")), (("", "p"), ("one", "p")), (("", "q"), ("two", "q"))]
  else if way = 1 then [(("one", "i"), ("", "i")), (("one", "j"), ("", "j")), (("two", "i"), ("one", "p")), (("two", "j"), ("one", "q")), (("", "p"), ("two", "p")), (("", "q"), ("two", "q"))]
  else [(("one", "i"), ("", "i")), (("one", "j"), ("two", "p")), (("two", "i"), ("one", "p")), (("two", "j"), ("", "j")), (("", "p"), ("two", "p")), (("", "q"), ("one", "q"))]
def face2 (f : Fc) (nm : Str) : Fc := if nm = "one" then f else if nm = "two" then f else ⟨[], [], []⟩
def needs8 : List Nd := [([("i" : Str)], []), (["i"], ["i", "j"]), (["i"], ["j"]), (["i"], ["i"]), ([], ["i", "j"]), ([], ["j"]), ([], ["i"]), ([], [])]
def shapeB (way : Nat) (nd : Nd) : Bool := match orderCalls (face2 (faceO nd)) ["i", "j"] (callsN ["one", "two"] (face2 (faceO nd)) (wsOf way)).length (callsN ["one", "two"] (face2 (faceO nd)) (wsOf way)) [] (reach0 ["i", "j"]) with
  | none => false
  | some (order, r) => decide (CdN ["i", "j"] ["p", "q"] ["one", "two"] (face2 (faceO nd)) (wsOf way) order r) && decide (profileOf ["p", "q"] (wsOf way) r = (faceO (nextN way nd)).prof) && decide (order.length = 2 * (faceO nd).prof.length)
    && decide (((wsOf way).filter fun w => !(decide (w.1.1.length = 0))).length = 4)
theorem shapes : ∀ way ∈ [0, 1, 2], ∀ nd ∈ needs8, shapeB way nd = true ∧ nextN way nd ∈ needs8 := by decide +kernel
end K28
namespace K28
open PySem L2 Own StX ClX NdefX
/-! ### the law's diagrams: the ground's shape, the faces of the parts -/
def letter (k : Nat) : Str := ⟨#[97 + k]⟩
def groundPs : List (Str × Str) := [("none", "delay 3"), ("sum", "add")]
def groundWs (nd : Nd) : List (Port × Port) := [(("none", "in"), ("", "j")), (("sum", "a"), if ("i" : Str) ∈ nd.2 then ("", "i") else ("none", "out")), (("sum", "b"), if ("j" : Str) ∈ nd.2 then ("", "j") else ("none", "out")), (("", "p"), if nd.1 = [("i" : Str)] then ("", "i") else ("none", "out")), (("", "q"), ("sum", "out"))]
def faceG (nm : Str) : Fc := if nm = "none" then faceP "delay" else if nm = "sum" then faceP "add" else ⟨[], [], []⟩
def groundB (nd : Nd) : Bool := match orderCalls faceG ["i", "j"] (callsN ["none", "sum"] faceG (groundWs nd)).length (callsN ["none", "sum"] faceG (groundWs nd)) [] (reach0 ["i", "j"]) with
  | none => false
  | some (order, r) => decide (CdN ["i", "j"] ["p", "q"] ["none", "sum"] faceG (groundWs nd) order r) && decide (profileOf ["p", "q"] (groundWs nd) r = (faceO nd).prof)
theorem ground_shapes : ∀ nd ∈ needs8, groundB nd = true := by decide +kernel
theorem letters_no : ∀ k ∈ List.range 24, readP (letter k) = none ∧ (letter k).length = 1 ∧ isDN (letter k) = true := by decide +kernel
theorem ground_prims : readP ("delay 3" : Str) = some (("delay" : Str), some 3) ∧ readP ("add" : Str) = some (("add" : Str), none) := by decide +kernel
theorem faceN_ground {fi : Str → Option Fc} : faceN groundPs fi = faceG := by
  funext nm
  unfold faceN faceG groundPs
  rw [List.find?_cons]
  by_cases h1 : nm = "none"
  · subst h1
    rw [decide_eq_true (show (("none" : Str), ("delay 3" : Str)).1 = "none" from rfl), if_pos rfl]
    show faceB fi "delay 3" = _
    unfold faceB
    rw [ground_prims.1]
  · rw [decide_eq_false (show ¬ (("none" : Str), ("delay 3" : Str)).1 = nm from fun e => h1 e.symm), if_neg h1, List.find?_cons]
    by_cases h2 : nm = "sum"
    · subst h2
      rw [decide_eq_true (show (("sum" : Str), ("add" : Str)).1 = "sum" from rfl), if_pos rfl]
      show faceB fi "add" = _
      unfold faceB
      rw [ground_prims.2]
    · rw [decide_eq_false (show ¬ (("sum" : Str), ("add" : Str)).1 = nm from fun e => h2 e.symm), if_neg h2, List.find?_nil]
theorem faceN_two {fi : Str → Option Fc} {b : Str} {f : Fc} (hb : readP b = none) (hf : fi b = some f) : faceN [("one", b), ("two", b)] fi = face2 f := by
  have e : faceB fi b = f := by
    unfold faceB
    rw [hb]
    show (fi b).getD _ = f
    rw [hf]
    rfl
  funext nm
  unfold faceN face2
  rw [List.find?_cons]
  by_cases h1 : nm = "one"
  · subst h1
    rw [decide_eq_true (show (("one" : Str), b).1 = "one" from rfl), if_pos rfl]
    exact e
  · rw [decide_eq_false (show ¬ (("one" : Str), b).1 = nm from fun e => h1 e.symm), if_neg h1, List.find?_cons]
    by_cases h2 : nm = "two"
    · subst h2
      rw [decide_eq_true (show (("two" : Str), b).1 = "two" from rfl), if_pos rfl]
      exact e
    · rw [decide_eq_false (show ¬ (("two" : Str), b).1 = nm from fun e => h2 e.symm), if_neg h2, List.find?_nil]
end K28
namespace K28
open PySem L2 Own StX ClX NdefX
theorem cd_level {way : Nat} {nd : Nd} (hw : way ∈ [0, 1, 2]) (hn : nd ∈ needs8) {fi : Str → Option Fc} {b : Str} (hb : readP b = none) (hbl : b.length ≤ 1000) (hf : fi b = some (faceO nd)) :
    ∃ order r, CdOk ["i", "j"] ["p", "q"] [("one", b), ("two", b)] (wsOf way) fi order r ∧ profileOf ["p", "q"] (wsOf way) r = (faceO (nextN way nd)).prof ∧ order.length = 2 * (faceO nd).prof.length ∧
      ((wsOf way).filter fun w => !(decide (w.1.1.length = 0))).length = 4 ∧ nextN way nd ∈ needs8 := by
  obtain ⟨h1, h2⟩ := shapes way hw nd hn
  unfold shapeB at h1
  split at h1
  · cases h1
  · rename_i order r e
    simp only [Bool.and_eq_true, decide_eq_true_eq] at h1
    obtain ⟨⟨⟨c1, c2⟩, c3⟩, c4⟩ := h1
    refine ⟨order, r, cdOk_of (fun p hp => ?_) ?_, c2, c3, c4, h2⟩
    · simp only [List.mem_cons, List.not_mem_nil, or_false] at hp
      rcases hp with rfl | rfl <;> exact ⟨hbl, fun _ => by show (fi b).isSome = true; rw [hf]; rfl⟩
    · rw [faceN_two hb hf]
      exact c1
theorem cd_ground {nd : Nd} (hn : nd ∈ needs8) {fi : Str → Option Fc} : ∃ order r, CdOk ["i", "j"] ["p", "q"] groundPs (groundWs nd) fi order r ∧ profileOf ["p", "q"] (groundWs nd) r = (faceO nd).prof := by
  have h1 := ground_shapes nd hn
  unfold groundB at h1
  split at h1
  · cases h1
  · rename_i order r e
    simp only [Bool.and_eq_true, decide_eq_true_eq] at h1
    refine ⟨order, r, cdOk_of (fun p hp => ?_) ?_, h1.2⟩
    · unfold groundPs at hp
      simp only [List.mem_cons, List.not_mem_nil, or_false] at hp
      rcases hp with rfl | rfl
      · exact ⟨by decide +kernel, fun q => by rw [ground_prims.1] at q; cases q⟩
      · exact ⟨by decide +kernel, fun q => by rw [ground_prims.2] at q; cases q⟩
    · rw [faceN_ground]
      exact h1.1
theorem okI_O : ∀ nd ∈ needs8, OkI (faceO nd) := by
  intro nd hn
  unfold needs8 at hn
  simp only [List.mem_cons, List.not_mem_nil, or_false] at hn
  rcases hn with rfl | rfl | rfl | rfl | rfl | rfl | rfl | rfl <;>
    exact ⟨by decide +kernel, by decide +kernel, by decide +kernel, by decide +kernel, by decide +kernel, by decide +kernel, by decide +kernel, by decide +kernel, by decide +kernel, by decide +kernel, by decide +kernel⟩
end K28
namespace KV
open PySem L2 Own StX ClX NdefX K28
theorem app3 (a b c : Str) : a ++ b ++ c = a ++ (b ++ c) := TL.ext_tl (by rw [TL.tl_append, TL.tl_append, TL.tl_append, TL.tl_append, List.append_assoc])
theorem sub_take (x y : Str) : Builtin.Str.subAt x y 0 = decide (x.cps.toList.take y.length = y.cps.toList) := by
  have e : (x.cps.extract 0 (0 + y.length)).toList = x.cps.toList.take y.length := by simp
  rw [Bool.eq_iff_iff, decide_eq_true_eq, ← e]
  unfold Builtin.Str.subAt
  constructor
  · intro h
    exact congrArg Array.toList (eq_of_beq h)
  · intro h
    exact beq_iff_eq.mpr (Array.toList_inj.mp h)
theorem sub_app (a b : Str) : Builtin.Str.subAt (a ++ b) a 0 = true := by
  rw [sub_take, decide_eq_true_eq]
  have e : (a ++ b).cps.toList = a.cps.toList ++ b.cps.toList := TL.tl_append a b
  rw [e, List.take_append_of_le_length (by rw [Array.length_toList]; exact Nat.le_refl _)]
  rw [List.take_of_length_le (by rw [Array.length_toList]; exact Nat.le_refl _)]
theorem starts_app (a b : Str) : Txt.startswith (a ++ b) a = true := by
  unfold Txt.startswith
  rw [sub_app, Bool.and_true, decide_eq_true_eq, sl]
  omega
theorem rmp_app (a b : Str) : Txt.removeprefix (a ++ b) a = b := by
  rw [StrLaws.removeprefix_eq, sub_app, Bool.and_true, if_pos (by rw [decide_eq_true_eq, sl]; omega)]
  have e : (a ++ b).cps.toList = a.cps.toList ++ b.cps.toList := TL.tl_append a b
  have la : a.cps.toList.length = a.length := Array.length_toList
  have lb : b.cps.toList.length = b.length := Array.length_toList
  refine TL.ext_tl ?_
  show ((((a ++ b).cps.toList.drop a.length).take ((a ++ b).length - a.length)).toArray).toList = b.cps.toList
  rw [e, List.drop_append_of_le_length (by omega), sl, List.drop_of_length_le (by omega), List.nil_append, Nat.add_sub_cancel_left, List.take_of_length_le (by omega)]
theorem nm_tl {x : Str} (h : isNm x = true) {c : Nat} (hc : c ∈ TL.tl x) : 97 ≤ c ∧ c ≤ 122 := by
  unfold isNm at h
  rw [Bool.and_eq_true] at h
  have z := List.all_eq_true.mp h.2 c hc
  unfold isL at z
  rw [Bool.and_eq_true, decide_eq_true_eq, decide_eq_true_eq] at z
  exact z
theorem cut_at (s : Nat) : ∀ l : List Nat, s ∉ l ∨ ∃ p q, l = p ++ (s :: q) ∧ s ∉ p
  | [] => .inl (fun h => nomatch h)
  | c :: r => by
    by_cases hc : c = s
    · exact .inr ⟨[], r, by rw [hc]; rfl, fun h => nomatch h⟩
    · rcases cut_at s r with h | ⟨p, q, rfl, hp⟩
      · refine .inl fun hm => ?_
        rcases List.mem_cons.mp hm with z | z
        · exact hc z.symm
        · exact h z
      · refine .inr ⟨c :: p, q, rfl, fun hm => ?_⟩
        rcases List.mem_cons.mp hm with z | z
        · exact hc z.symm
        · exact hp z
theorem sp32 : (" " : Str) = SX.S [32] := by decide +kernel
/-- a text without a blank -/
theorem no_blank {x : Str} (h : 32 ∉ x.cps.toList) : Txt.split x " " = [x] ∧ Txt.partition x " " = (x, Str.empty, Str.empty) := by
  refine ⟨?_, TL.partition_none (s := 32) (S := []) (by decide +kernel) h⟩
  have e := SX.split_S (a := x.cps.toList) (b := [32]) (by simp) (by decide)
  rw [SX.S_tl, ← sp32] at e
  rw [e]
  have z := SX.spl_join (c := 32) (sep := []) (parts := [x.cps.toList]) (by simp) (fun p hp => by rw [List.mem_singleton] at hp; subst hp; exact h)
  have j : TL.joinL [32] [x.cps.toList] = x.cps.toList := rfl
  rw [j] at z
  rw [z]
  show [SX.S x.cps.toList] = [x]
  rw [SX.S_tl]
/-- a text with one -/
theorem one_blank {x : Str} (h : 32 ∈ x.cps.toList) : ∃ p q : Str, x = p ++ " " ++ q ∧ 32 ∉ p.cps.toList ∧ Txt.split x " " = p :: Txt.split q " " ∧ Txt.partition x " " = (p, (" " : Str), q) := by
  rcases cut_at 32 x.cps.toList with z | ⟨p, q, hpq, hp⟩
  · exact absurd h z
  have ex : x = SX.S p ++ " " ++ SX.S q := by
    rw [sp32, SX.S_cat, SX.S_cat, List.append_assoc]
    rw [← SX.S_tl x, hpq]
    rfl
  refine ⟨SX.S p, SX.S q, ex, hp, ?_, ?_⟩
  · have e := SX.split_S (a := x.cps.toList) (b := [32]) (by simp) (by decide)
    rw [SX.S_tl, ← sp32] at e
    have e2 := SX.split_S (a := q) (b := [32]) (by simp) (by decide)
    rw [← sp32] at e2
    rw [e, e2, hpq]
    have z := SX.spl_free (sep := [32]) (p := p) q (by simp) (SX.free_head hp)
    have j : p ++ ([32] ++ q) = p ++ (32 :: q) := rfl
    rw [j] at z
    rw [z]
    rfl
  · rw [ex]
    exact TL.partition_app (y := " ") (s := 32) (S := []) (by decide +kernel) hp
theorem split_ne (x : Str) : ∃ p r, Txt.split x " " = p :: r := by
  by_cases h : 32 ∈ x.cps.toList
  · obtain ⟨p, q, _, _, e, _⟩ := one_blank h
    exact ⟨p, _, e⟩
  · exact ⟨x, [], (no_blank h).1⟩
theorem split_one {x : Str} {p : Str} (h : Txt.split x " " = [p]) : p = x ∧ 32 ∉ x.cps.toList := by
  by_cases hx : 32 ∈ x.cps.toList
  · obtain ⟨a, q, _, _, e, _⟩ := one_blank hx
    obtain ⟨b, r, e2⟩ := split_ne q
    rw [e, e2] at h
    cases h
  · rw [(no_blank hx).1] at h
    cases h
    exact ⟨rfl, hx⟩
theorem readV_blank {x : Str} (h : 32 ∈ x.cps.toList) : readV x = none := by
  unfold readV
  rw [if_neg]
  unfold dig10
  intro z
  rw [Bool.and_eq_true] at z
  have q := List.all_eq_true.mp z.2 32 h
  revert q
  decide
theorem readV_empty : readV Str.empty = none := by decide +kernel
/-! ### the law's own check -/
def words7 : List Str := ["add", "sub", "mul", "less", "equal", "pick", "divide"]
theorem w9_w7 {z : Str} (h : ¬ (z = "const" ∨ z = "delay")) : z ∈ words9 ↔ z ∈ words7 := by
  simp only [words9, words7, List.mem_cons, List.not_mem_nil, or_false]
  constructor
  · intro q
    rcases q with q | q | q | q | q | q | q | q | q
    · exact absurd (.inl q) h
    · exact .inl q
    · exact .inr (.inl q)
    · exact .inr (.inr (.inl q))
    · exact .inr (.inr (.inr (.inl q)))
    · exact .inr (.inr (.inr (.inr (.inl q))))
    · exact .inr (.inr (.inr (.inr (.inr (.inl q)))))
    · exact .inr (.inr (.inr (.inr (.inr (.inr q)))))
    · exact absurd (.inr q) h
  · intro q
    rcases q with q | q | q | q | q | q | q
    · exact .inr (.inl q)
    · exact .inr (.inr (.inl q))
    · exact .inr (.inr (.inr (.inl q)))
    · exact .inr (.inr (.inr (.inr (.inl q))))
    · exact .inr (.inr (.inr (.inr (.inr (.inl q)))))
    · exact .inr (.inr (.inr (.inr (.inr (.inr (.inl q))))))
    · exact .inr (.inr (.inr (.inr (.inr (.inr (.inr (.inl q)))))))
theorem w7_free {z : Str} (h : z ∈ words7) : 32 ∉ z.cps.toList := by
  simp only [words7, List.mem_cons, List.not_mem_nil, or_false] at h
  rcases h with rfl | rfl | rfl | rfl | rfl | rfl | rfl <;> decide +kernel
theorem cd_w9 {z : Str} (h : z = "const" ∨ z = "delay") : z ∈ words9 := by rcases h with rfl | rfl <;> decide +kernel
/-- two words, the first one const or delay -/
theorem isP_two {x p q : Str} (h : Txt.split x " " = [p, q]) (hp : p = "const" ∨ p = "delay") : (readP x).isSome = (readV q).isSome := by
  have hx : 32 ∈ x.cps.toList := by
    by_cases hx : 32 ∈ x.cps.toList
    · exact hx
    · rw [(no_blank hx).1] at h
      cases h
  obtain ⟨a, b, _, _, e, e2⟩ := one_blank hx
  rw [h] at e
  injection e with e3 e4
  obtain ⟨rfl, _⟩ := split_one e4.symm
  unfold readP
  rw [e2, if_pos (by rw [← e3]; exact cd_w9 hp), if_pos (by rw [← e3]; exact hp)]
  cases readV q <;> rfl
/-- another number of words, the first one const or delay -/
theorem isP_other {x p : Str} {r : List Str} (h : Txt.split x " " = p :: r) (hr : r.length ≠ 1) (hp : p = "const" ∨ p = "delay") : (readP x).isSome = false := by
  by_cases hx : 32 ∈ x.cps.toList
  · obtain ⟨a, b, _, _, e, e2⟩ := one_blank hx
    rw [h] at e
    injection e with e3 e4
    have hb : 32 ∈ b.cps.toList := by
      by_cases hb : 32 ∈ b.cps.toList
      · exact hb
      · rw [(no_blank hb).1] at e4
        rw [e4] at hr
        exact absurd rfl hr
    unfold readP
    rw [e2, if_pos (by rw [← e3]; exact cd_w9 hp), if_pos (by rw [← e3]; exact hp)]
    show (Option.map _ (readV b)).isSome = false
    rw [readV_blank hb]
    rfl
  · obtain ⟨e, e2⟩ := no_blank hx
    rw [h] at e
    injection e with e3 e4
    unfold readP
    rw [e2, if_pos (by rw [← e3]; exact cd_w9 hp), if_pos (by rw [← e3]; exact hp)]
    show (Option.map _ (readV Str.empty)).isSome = false
    rw [readV_empty]
    rfl
/-- the first word neither -/
theorem isP_word {x p : Str} {r : List Str} (h : Txt.split x " " = p :: r) (hp : ¬ (p = "const" ∨ p = "delay")) : (readP x).isSome = decide (x ∈ words7) := by
  by_cases hx : 32 ∈ x.cps.toList
  · obtain ⟨a, b, _, _, e, e2⟩ := one_blank hx
    rw [h] at e
    injection e with e3 e4
    rw [decide_eq_false (fun z => w7_free z hx)]
    unfold readP
    rw [e2]
    by_cases hw : a ∈ words9
    · rw [if_pos hw, if_neg (by rw [← e3]; exact hp), if_neg]
      · rfl
      · show ¬ ((" " : Str)).length = 0
        decide +kernel
    · rw [if_neg hw]
      rfl
  · obtain ⟨e, e2⟩ := no_blank hx
    rw [h] at e
    injection e with e3 e4
    subst e3
    unfold readP
    rw [e2]
    by_cases hw : p ∈ words9
    · rw [if_pos hw, if_neg hp, if_pos (by rfl), decide_eq_true ((w9_w7 hp).mp hw)]
      rfl
    · rw [if_neg hw, decide_eq_false fun z => hw ((w9_w7 hp).mpr z)]
      rfl
/-! ### cuts of texts -/
theorem cut_to (z : Str) (n : Nat) (m : Int) (h : m = (n : Int)) : TL.tl (cutS z none (some m)) = (TL.tl z).take n := by
  subst h
  show ((z.cps.toList.drop (HT.sIx z.length 0 none)).take (HT.sIx z.length z.length (some (n : Int)) - HT.sIx z.length 0 none)) = z.cps.toList.take n
  rw [HT.sIx_nat, HT.sIx_none, List.drop_zero, Nat.sub_zero]
  have la : z.cps.toList.length = z.length := Array.length_toList
  rcases Nat.le_total n z.length with q | q
  · rw [Nat.min_eq_left q]
  · rw [Nat.min_eq_right q, List.take_of_length_le (by omega), List.take_of_length_le (by omega)]
theorem cut_from (z : Str) (n : Nat) (m : Int) (h : m = (n : Int)) : TL.tl (cutS z (some m) none) = (TL.tl z).drop n := by
  subst h
  show ((z.cps.toList.drop (HT.sIx z.length 0 (some (n : Int)))).take (HT.sIx z.length z.length none - HT.sIx z.length 0 (some (n : Int)))) = z.cps.toList.drop n
  have la : z.cps.toList.length = z.length := Array.length_toList
  rw [HT.sIx_nat, HT.sIx_none]
  rcases Nat.le_total n z.length with q | q
  · rw [Nat.min_eq_left q, List.take_of_length_le (by rw [List.length_drop]; omega)]
  · rw [Nat.min_eq_right q, List.drop_of_length_le (by omega), List.drop_of_length_le (by omega), List.take_nil]
theorem sIx_m1 (n d : Nat) : HT.sIx n d (some (-1)) = n - 1 := by
  show (if (-1 : Int) < 0 then ((-1 : Int) + (n : Int)).toNat else min (-1 : Int).toNat n) = n - 1
  rw [if_pos (by decide)]
  omega
theorem cut_but (z : Str) : TL.tl (cutS z none (some (-1))) = (TL.tl z).take (z.length - 1) := by
  show ((z.cps.toList.drop (HT.sIx z.length 0 none)).take (HT.sIx z.length z.length (some (-1)) - HT.sIx z.length 0 none)) = z.cps.toList.take (z.length - 1)
  rw [sIx_m1, HT.sIx_none, List.drop_zero, Nat.sub_zero]
theorem cut_last (z : Str) : TL.tl (cutS z (some (-1)) none) = (TL.tl z).drop (z.length - 1) := by
  show ((z.cps.toList.drop (HT.sIx z.length 0 (some (-1)))).take (HT.sIx z.length z.length none - HT.sIx z.length 0 (some (-1)))) = z.cps.toList.drop (z.length - 1)
  have la : z.cps.toList.length = z.length := Array.length_toList
  rw [sIx_m1, HT.sIx_none, List.take_of_length_le (by rw [List.length_drop]; omega)]
theorem tl_len (z : Str) : (TL.tl z).length = z.length := Array.length_toList
theorem starts_iff (x y : Str) : Txt.startswith x y = decide ((TL.tl x).take y.length = TL.tl y) := by
  unfold Txt.startswith
  rw [sub_take]
  have la : x.cps.toList.length = x.length := tl_len x
  have lb : y.cps.toList.length = y.length := tl_len y
  rw [Bool.eq_iff_iff, Bool.and_eq_true, decide_eq_true_eq, decide_eq_true_eq]
  constructor
  · exact fun h => h.2
  · intro h
    refine ⟨?_, h⟩
    have := congrArg List.length h
    rw [List.length_take] at this
    omega
theorem starts_cut (x y : Str) (m : Int) (h : m = (y.length : Int)) : Txt.startswith x y = decide (cutS x none (some m) = y) := by
  rw [starts_iff, ← cut_to x y.length m h]
  exact decide_eq_decide.mpr ⟨TL.ext_tl, fun z => congrArg TL.tl z⟩
theorem starts_split {x y : Str} (h : Txt.startswith x y = true) : x = y ++ cutS x (some (y.length : Int)) none := by
  rw [starts_iff, decide_eq_true_eq] at h
  refine TL.ext_tl ?_
  rw [TL.tl_append, cut_from x y.length _ rfl, ← h, List.take_append_drop]
theorem rmp_cut {x y : Str} (h : Txt.startswith x y = true) (m : Int) (e : m = (y.length : Int)) : Txt.removeprefix x y = cutS x (some m) none := by
  subst e
  have z := rmp_app y (cutS x (some (y.length : Int)) none)
  rw [← starts_split h] at z
  exact z
/-! ### a text cut at a sign row -/
theorem spl_par_none {S : List Nat} : ∀ (l acc : List Nat), TL.par S acc l = none → TL.spl S 0 acc l = [acc ++ l]
  | [], acc, _ => by rw [TL.spl_nil, List.append_nil]
  | c :: r, acc, h => by
    by_cases p : TL.pre S (c :: r) = true
    · rw [TL.par_hit p] at h
      cases h
    · rw [Bool.not_eq_true] at p
      rw [TL.par_miss p] at h
      rw [TL.spl_miss p, spl_par_none r _ h, List.append_assoc]
      rfl
theorem spl_par_some {S : List Nat} (hS : S ≠ []) : ∀ (l acc p q : List Nat), TL.par S acc l = some (p, q) → TL.spl S 0 acc l = p :: TL.spl S 0 [] q ∧ acc ++ l = p ++ (S ++ q)
  | [], acc, p, q, h => by cases h
  | c :: r, acc, p, q, h => by
    by_cases e : TL.pre S (c :: r) = true
    · rw [TL.par_hit e] at h
      cases h
      rw [TL.spl_hit e, TL.spl_pass]
      have hl : S.length - 1 + 1 = S.length := by
        have := List.length_pos_iff.mpr hS
        omega
      refine ⟨?_, ?_⟩
      · rw [show (c :: r).drop S.length = r.drop (S.length - 1) from by rw [← hl]; rfl]
      · have e2 : (c :: r).take S.length = S := eq_of_beq e
        rw [show S ++ (c :: r).drop S.length = c :: r from by
          have z := List.take_append_drop S.length (c :: r)
          rw [e2] at z
          exact z]
    · rw [Bool.not_eq_true] at e
      rw [TL.par_miss e] at h
      obtain ⟨h1, h2⟩ := spl_par_some hS r _ p q h
      refine ⟨by rw [TL.spl_miss e, h1], ?_⟩
      rw [← h2, List.append_assoc]
      rfl
/-- a separator: not empty, below 256 -/
structure Sep (y : Str) : Prop where
  ne : TL.tl y ≠ []
  k : y.cps.all (· < 256) = true
theorem split_of (x : Str) {y : Str} (h : Sep y) : Txt.split x y = (TL.spl (TL.tl y) 0 [] (TL.tl x)).map fun l => ⟨l.toArray⟩ := by
  have e := TL.split_spl x y h.ne (TL.kind_ok h.k)
  refine TL.map_tl_inj ?_
  rw [e, List.map_map]
  exact (List.map_id _).symm
theorem sep_cases (x : Str) {y : Str} (h : Sep y) : (Txt.split x y = [x] ∧ Txt.partition x y = (x, Str.empty, Str.empty)) ∨ ∃ p q, Txt.split x y = p :: Txt.split q y ∧ Txt.partition x y = (p, y, q) ∧ x = p ++ y ++ q := by
  have e1 := split_of x h
  have e2 := TL.partition_par x y h.ne
  cases e : TL.par (TL.tl y) [] (TL.tl x) with
  | none =>
    rw [e] at e2
    rw [spl_par_none _ _ e] at e1
    refine .inl ⟨e1.trans ?_, e2⟩
    rw [List.nil_append]
    exact congrArg (fun a => [a]) (TL.mk_tl x)
  | some pq =>
    obtain ⟨p, q⟩ := pq
    rw [e] at e2
    obtain ⟨h1, h2⟩ := spl_par_some h.ne _ _ _ _ e
    rw [h1] at e1
    refine .inr ⟨⟨p.toArray⟩, ⟨q.toArray⟩, ?_, e2, TL.ext_tl ?_⟩
    · rw [e1, split_of _ h]
      rfl
    · rw [TL.tl_append, TL.tl_append, TL.tl_mk, TL.tl_mk, List.append_assoc, ← h2]
      rfl
theorem split_free {x y : Str} {s : Nat} {S : List Nat} (ey : TL.tl y = s :: S) (h : Sep y) (hs : s ∉ TL.tl x) : Txt.split x y = [x] := by
  rw [split_of x h, ey, TL.spl_last1 hs]
  rw [List.nil_append]
  exact congrArg (fun a => [a]) (TL.mk_tl x)
theorem sep_in {p y q : Str} {s : Nat} {S : List Nat} (ey : TL.tl y = s :: S) : s ∈ TL.tl (p ++ y ++ q) := by
  rw [TL.tl_append, TL.tl_append, ey]
  exact List.mem_append_left _ (List.mem_append_right _ List.mem_cons_self)
theorem split_cons (x : Str) {y : Str} (h : Sep y) : ∃ p r, Txt.split x y = p :: r := by
  rcases sep_cases x h with ⟨e, _⟩ | ⟨p, q, e, _⟩
  · exact ⟨_, _, e⟩
  · exact ⟨_, _, e⟩
end KV
namespace KV
open PySem L2 Own StX ClX NdefX K28
theorem sep_sp : Sep " " := ⟨by decide +kernel, by decide +kernel⟩
theorem sep_dot : Sep "." := ⟨by decide +kernel, by decide +kernel⟩
theorem sep_eq : Sep " = " := ⟨by decide +kernel, by decide +kernel⟩
theorem sep_ar : Sep " <- " := ⟨by decide +kernel, by decide +kernel⟩
theorem mem_mid {p y q : Str} {s : Nat} (h : s ∈ TL.tl y) : s ∈ TL.tl (p ++ y ++ q) := by
  rw [TL.tl_append, TL.tl_append]
  exact List.mem_append_left _ (List.mem_append_right _ h)
theorem nm_not {x : Str} {s : Nat} (h : isNm x = true) (k : s < 97) : s ∉ TL.tl x := fun z => by
  have := nm_tl h z
  omega
theorem dn_nm {x : Str} (h : isDN x = true) : isNm x = true := by
  unfold isDN at h
  rw [Bool.and_eq_true] at h
  exact h.1
/-! ### a block -/
def lBlk (x : Str) : Bool := match Txt.split x " " with
  | p :: r => if p = "const" ∨ p = "delay" then decide (r.length = 1) && (readV (r.headD Str.empty)).isSome else decide (x ∈ words7) || isNm x
  | [] => false
theorem blk_eq (x : Str) : lBlk x = ((readP x).isSome || isDN x) := by
  obtain ⟨p, r, e⟩ := split_ne x
  unfold lBlk
  rw [e]
  dsimp only
  by_cases hp : p = "const" ∨ p = "delay"
  · rw [if_pos hp]
    have hd : isDN x = false := by
      rw [← Bool.not_eq_true]
      intro z
      have h32 : 32 ∉ x.cps.toList := nm_not (dn_nm z) (by decide)
      have e2 := (no_blank h32).1
      rw [e2] at e
      injection e with e3 e4
      subst e3
      revert z
      rcases hp with rfl | rfl <;> decide +kernel
    rw [hd, Bool.or_false]
    by_cases hr : r.length = 1
    · obtain ⟨q, rfl⟩ := List.length_eq_one_iff.mp hr
      rw [isP_two e hp]
      rfl
    · rw [isP_other e hr hp, decide_eq_false hr, Bool.false_and]
  · rw [if_neg hp, isP_word e hp]
    by_cases hw : x ∈ words7
    · rw [decide_eq_true hw]
      rfl
    · rw [decide_eq_false hw, Bool.false_or, Bool.false_or]
      unfold isDN
      have : isNm x = true → decide (x ∈ words9) = false := fun z => by
        refine decide_eq_false fun k => hw ((w9_w7 ?_).mp k)
        have h32 : 32 ∉ x.cps.toList := nm_not z (by decide)
        rw [(no_blank h32).1] at e
        injection e with e3 e4
        rw [e3]
        exact hp
      cases hn : isNm x with
      | false => rfl
      | true =>
        rw [this hn]
        rfl
theorem readV_dig {x : Str} (h : (readV x).isSome = true) {c : Nat} (hc : c ∈ TL.tl x) : 48 ≤ c ∧ c ≤ 57 := by
  unfold readV at h
  split at h
  · rename_i d
    unfold dig10 at d
    rw [Bool.and_eq_true] at d
    have z := List.all_eq_true.mp d.2 c hc
    unfold isD at z
    rw [Bool.and_eq_true, decide_eq_true_eq, decide_eq_true_eq] at z
    exact z
  · cases h
theorem w9_tl {z : Str} (h : z ∈ words9) : 61 ∉ TL.tl z := by
  simp only [words9, List.mem_cons, List.not_mem_nil, or_false] at h
  rcases h with rfl | rfl | rfl | rfl | rfl | rfl | rfl | rfl | rfl <;> decide +kernel
theorem blk_61 {x : Str} (h : lBlk x = true) : 61 ∉ TL.tl x := by
  rw [blk_eq, Bool.or_eq_true] at h
  rcases h with h | h
  · rcases sep_cases x sep_sp with ⟨_, e⟩ | ⟨p, q, _, e, ex⟩
    · unfold readP at h
      rw [e] at h
      by_cases hw : x ∈ words9
      · exact w9_tl hw
      · rw [if_neg hw] at h
        cases h
    · unfold readP at h
      rw [e] at h
      dsimp only at h
      by_cases hw : p ∈ words9
      · rw [if_pos hw] at h
        by_cases hc : p = "const" ∨ p = "delay"
        · rw [if_pos hc] at h
          have hq : (readV q).isSome = true := by
            cases z : readV q with
            | none => rw [z] at h; cases h
            | some v => rfl
          intro m
          rw [ex, TL.tl_append, TL.tl_append] at m
          rcases List.mem_append.mp m with m | m
          · rcases List.mem_append.mp m with m | m
            · exact w9_tl hw m
            · revert m
              decide +kernel
          · have := readV_dig hq m
            omega
        · rw [if_neg hc, if_neg (by decide +kernel)] at h
          cases h
      · rw [if_neg hw] at h
        cases h
  · exact nm_not (dn_nm h) (by decide)
/-! ### a port -/
def lPort (own parts : List Str) (x : Str) : Bool :=
  if (Txt.split x ".").length = 1 then decide (x ∈ own) else decide ((Txt.split x ".").length = 2) && decide ((Txt.split x ".").getD 0 Str.empty ∈ parts) && isNm ((Txt.split x ".").getD 1 Str.empty)
theorem port_eq (own parts : List Str) (x : Str) : lPort own parts x = (readPort parts own x).isSome := by
  unfold lPort readPort
  rcases sep_cases x sep_dot with ⟨e1, e2⟩ | ⟨p, q, e1, e2, ex⟩
  · rw [e1, e2]
    dsimp only
    rw [if_pos (show [x].length = 1 from rfl), if_pos (show Str.empty.length = 0 from rfl)]
    by_cases h : x ∈ own
    · rw [decide_eq_true h, if_pos h]
      rfl
    · rw [decide_eq_false h, if_neg h]
      rfl
  · rw [e2]
    dsimp only
    rw [if_neg (by decide +kernel : ¬ (("." : Str)).length = 0)]
    rcases sep_cases q sep_dot with ⟨f1, _⟩ | ⟨p2, q2, f1, _, ex2⟩
    · rw [e1, f1, if_neg (by show ¬ 2 = 1; decide), decide_eq_true (by rfl), Bool.true_and]
      show (decide (p ∈ parts) && isNm q) = _
      by_cases h : p ∈ parts
      · cases hq : isNm q with
        | true =>
          rw [if_pos ⟨h, rfl⟩, decide_eq_true h]
          rfl
        | false =>
          rw [if_neg (fun z => by cases z.2), decide_eq_true h]
          rfl
      · rw [if_neg (fun z => h z.1), decide_eq_false h]
        rfl
    · obtain ⟨a, r, g⟩ := split_cons q2 sep_dot
      rw [e1, f1, g, if_neg (by show ¬ (r.length + 1 + 1 + 1 = 1); omega), decide_eq_false (by show ¬ (r.length + 1 + 1 + 1 = 2); omega), if_neg]
      · rfl
      · intro z
        exact nm_not (s := 46) z.2 (by decide) (by rw [ex2]; exact mem_mid (by decide +kernel))
theorem port_32 {own parts : List Str} {x : Str} {a : Port} (ho : ∀ y ∈ own, isNm y = true) (hp : ∀ y ∈ parts, isNm y = true) (h : readPort parts own x = some a) : 32 ∉ TL.tl x := by
  unfold readPort at h
  rcases sep_cases x sep_dot with ⟨e1, e2⟩ | ⟨p, q, e1, e2, ex⟩
  · rw [e2, if_pos (by rfl)] at h
    by_cases hx : x ∈ own
    · exact nm_not (ho x hx) (by decide)
    · rw [if_neg hx] at h
      cases h
  · rw [e2] at h
    dsimp only at h
    rw [if_neg (by decide +kernel : ¬ (("." : Str)).length = 0)] at h
    by_cases hx : p ∈ parts ∧ isNm q = true
    · intro m
      rw [ex, TL.tl_append, TL.tl_append] at m
      rcases List.mem_append.mp m with m | m
      · rcases List.mem_append.mp m with m | m
        · exact nm_not (hp p hx.1) (by decide) m
        · revert m
          decide +kernel
      · exact nm_not hx.2 (by decide) m
    · rw [if_neg hx] at h
      cases h
theorem port_inj {own parts : List Str} {x y : Str} {a : Port} (hp : ∀ y ∈ parts, isNm y = true) (h : readPort parts own x = some a) (k : readPort parts own y = some a) : x = y := by
  have key : ∀ z : Str, readPort parts own z = some a → (a.1 = Str.empty ∧ z = a.2) ∨ (isNm a.1 = true ∧ z = a.1 ++ "." ++ a.2) := fun z h => by
    unfold readPort at h
    rcases sep_cases z sep_dot with ⟨e1, e2⟩ | ⟨p, q, e1, e2, ex⟩
    · rw [e2, if_pos (by rfl)] at h
      by_cases hx : z ∈ own
      · rw [if_pos hx] at h
        cases h
        exact .inl ⟨rfl, rfl⟩
      · rw [if_neg hx] at h
        cases h
    · rw [e2] at h
      dsimp only at h
      rw [if_neg (by decide +kernel : ¬ (("." : Str)).length = 0)] at h
      by_cases hx : p ∈ parts ∧ isNm q = true
      · rw [if_pos hx] at h
        cases h
        exact .inr ⟨hp p hx.1, ex⟩
      · rw [if_neg hx] at h
        cases h
  have ne : isNm Str.empty = false := by decide +kernel
  rcases key x h with ⟨a1, a2⟩ | ⟨a1, a2⟩
  · rcases key y k with ⟨b1, b2⟩ | ⟨b1, b2⟩
    · rw [a2, b2]
    · rw [a1, ne] at b1
      cases b1
  · rcases key y k with ⟨b1, b2⟩ | ⟨b1, b2⟩
    · rw [b1, ne] at a1
      cases a1
    · rw [a2, b2]
/-! ### a row behind the head -/
def lPartRow (parts targets : List Str) (row : Str) : Option (List Str × List Str) :=
  if (Txt.split (cutS row (some 7) none) " = ").length = 2 ∧ isNm ((Txt.split (cutS row (some 7) none) " = ").getD 0 Str.empty) = true ∧ lBlk ((Txt.split (cutS row (some 7) none) " = ").getD 1 Str.empty) = true ∧ targets = [] ∧ ¬ parts.length = 16 ∧ ¬ (Txt.split (cutS row (some 7) none) " = ").getD 0 Str.empty ∈ parts
  then some (parts ++ [(Txt.split (cutS row (some 7) none) " = ").getD 0 Str.empty], targets) else none
def lWireRow (ins outs parts targets : List Str) (row : Str) : Option (List Str × List Str) :=
  if cutS row none (some 2) = "  " ∧ (Txt.split (cutS row (some 2) none) " <- ").length = 2 ∧ lPort outs parts ((Txt.split (cutS row (some 2) none) " <- ").getD 0 Str.empty) = true ∧ lPort ins parts ((Txt.split (cutS row (some 2) none) " <- ").getD 1 Str.empty) = true ∧ ¬ (Txt.split (cutS row (some 2) none) " <- ").getD 0 Str.empty ∈ targets
  then some (parts, targets ++ [(Txt.split (cutS row (some 2) none) " <- ").getD 0 Str.empty]) else none
def lStep (ins outs parts targets : List Str) (row : Str) : Option (List Str × List Str) :=
  if cutS row none (some 7) = "  part " then lPartRow parts targets row else lWireRow ins outs parts targets row
structure Rel (st : RS) (n : Str) (ins outs parts targets : List Str) : Prop where
  hd : st.head = some (n, ins, outs)
  dn : st.done = false
  ps : st.parts.map (·.1) = parts
  nm : ∀ p ∈ parts, isNm p = true
  le : parts.length ≤ 16
  ts : targets.map (readPort parts outs) = st.wires.map fun w => some w.1
theorem step_rel {st : RS} {n : Str} {ins outs parts targets : List Str} (R : Rel st n ins outs parts targets) (hi : ∀ x ∈ ins, isNm x = true) (ho : ∀ x ∈ outs, isNm x = true) {row : Str} (hr : ¬ row = "end") :
    (lStep ins outs parts targets row = none ∧ K28.step st row = none) ∨ ∃ ps ts st', lStep ins outs parts targets row = some (ps, ts) ∧ K28.step st row = some st' ∧ Rel st' n ins outs ps ts := by
  obtain ⟨hd, ps, ws, dn⟩ := st
  obtain ⟨r1, r2, r3, r4, r5, r6⟩ := R
  dsimp only at r1 r2 r3 r6
  subst r1
  subst r2
  subst r3
  have he : ws.isEmpty = true ↔ targets = [] := by
    cases ws with
    | nil =>
      cases targets with
      | nil => exact ⟨fun _ => rfl, fun _ => rfl⟩
      | cons a b => cases r6
    | cons a b =>
      cases targets with
      | nil => cases r6
      | cons c d => exact ⟨fun z => (by cases z), fun z => (by cases z)⟩
  have hl : ps.length = (ps.map (·.1)).length := (List.length_map _).symm
  unfold lStep K28.step
  dsimp only
  rw [if_neg Bool.false_ne_true, if_neg hr, starts_cut row "  part " 7 (by decide +kernel)]
  by_cases h7 : cutS row none (some 7) = "  part "
  · have hst : Txt.startswith row "  part " = true := by rw [starts_cut row "  part " 7 (by decide +kernel)]; exact decide_eq_true h7
    have erm : Txt.removeprefix row "  part " = cutS row (some 7) none := rmp_cut hst 7 (by decide +kernel)
    rw [if_pos h7, if_pos (decide_eq_true h7)]
    unfold lPartRow takePart partName partBlock
    rw [erm]
    rcases sep_cases (cutS row (some 7) none) sep_eq with ⟨e1, e2⟩ | ⟨p, q, e1, e2, ex⟩
    · refine .inl ⟨by rw [e1, if_neg (fun z => by have := z.1; cases this)], ?_⟩
      rw [e2]
      dsimp only
      by_cases hw : ws.isEmpty = true
      · rw [if_pos hw, if_neg (fun z => by
          have k := z.2.2.2
          revert k
          decide +kernel)]
        rfl
      · rw [if_neg hw]
    · rcases sep_cases q sep_eq with ⟨f1, _⟩ | ⟨p2, q2, f1, _, ex2⟩
      · rw [e1, f1, e2]
        dsimp only
        by_cases hc : isNm p = true ∧ lBlk q = true ∧ targets = [] ∧ ¬ (ps.map (·.1)).length = 16 ∧ ¬ p ∈ ps.map (·.1)
        · refine .inr ⟨ps.map (·.1) ++ [p], targets, ⟨some (n, ins, outs), ps ++ [(p, q)], ws, false⟩, ?_, ?_, ⟨rfl, rfl, ?_, fun x hx => ?_, ?_, ?_⟩⟩
          · exact if_pos ⟨rfl, hc⟩
          · rw [if_pos (he.mpr hc.2.2.1), if_pos]
            · rfl
            · refine ⟨by omega, hc.1, hc.2.2.2.2, ?_⟩
              have := hc.2.1
              rw [blk_eq, Bool.or_eq_true] at this
              exact this
          · rw [List.map_append]
            rfl
          · rcases List.mem_append.mp hx with z | z
            · exact r4 x z
            · rw [List.mem_singleton] at z
              rw [z]
              exact hc.1
          · rw [List.length_append]
            have := hc.2.2.2.1
            show _ + 1 ≤ 16
            omega
          · have := hc.2.2.1
            rw [this] at r6 ⊢
            exact r6
        · refine .inl ⟨if_neg fun z => hc z.2, ?_⟩
          by_cases hw : ws.isEmpty = true
          · rw [if_pos hw, if_neg (fun z => hc ⟨z.2.1, by rw [blk_eq, Bool.or_eq_true]; exact z.2.2.2, he.mp hw, by have := z.1; omega, z.2.2.1⟩)]
            rfl
          · rw [if_neg hw]
      · obtain ⟨a, r, g⟩ := split_cons q2 sep_eq
        refine .inl ⟨by rw [e1, f1, g]; exact if_neg fun z => by have k : r.length + 1 + 1 + 1 = 2 := z.1; omega, ?_⟩
        rw [e2]
        dsimp only
        by_cases hw : ws.isEmpty = true
        · rw [if_pos hw, if_neg (fun z => by
            have k : lBlk q = true := by rw [blk_eq, Bool.or_eq_true]; exact z.2.2.2
            exact blk_61 k (by rw [ex2]; exact mem_mid (by decide +kernel)))]
          rfl
        · rw [if_neg hw]
  · rw [if_neg h7, if_neg (by rw [decide_eq_false h7]; exact Bool.false_ne_true)]
    unfold lWireRow takeWire
    rw [starts_cut row "  " 2 (by decide +kernel)]
    by_cases h2 : cutS row none (some 2) = "  "
    · have hst : Txt.startswith row "  " = true := by rw [starts_cut row "  " 2 (by decide +kernel)]; exact decide_eq_true h2
      have erm : Txt.removeprefix row "  " = cutS row (some 2) none := rmp_cut hst 2 (by decide +kernel)
      rw [if_pos (decide_eq_true h2)]
      unfold wireTarget wireSource
      rw [erm]
      rcases sep_cases (cutS row (some 2) none) sep_ar with ⟨e1, e2⟩ | ⟨p, q, e1, e2, ex⟩
      · refine .inl ⟨by rw [e1, if_neg (fun z => by have := z.2.1; cases this)], ?_⟩
        rw [e2]
        dsimp only
        have : readPort (ps.map (·.1)) ins Str.empty = none := by
          unfold readPort
          rw [if_pos (by decide +kernel), if_neg (fun z => by have := hi _ z; revert this; decide +kernel)]
        rw [this]
        cases readPort (ps.map (·.1)) outs (cutS row (some 2) none) <;> rfl
      · rw [e2]
        dsimp only
        rcases sep_cases q sep_ar with ⟨f1, _⟩ | ⟨p2, q2, f1, _, ex2⟩
        · rw [e1, f1]
          cases ht : readPort (ps.map (·.1)) outs p with
          | none =>
            refine .inl ⟨if_neg fun z => ?_, rfl⟩
            have k : lPort outs (ps.map (·.1)) p = true := z.2.2.1
            rw [port_eq, ht] at k
            cases k
          | some t =>
            cases hs : readPort (ps.map (·.1)) ins q with
            | none =>
              refine .inl ⟨if_neg fun z => ?_, rfl⟩
              have k : lPort ins (ps.map (·.1)) q = true := z.2.2.2.1
              rw [port_eq, hs] at k
              cases k
            | some s =>
              dsimp only
              have hm : p ∈ targets ↔ t ∈ ws.map (·.1) := by
                constructor
                · intro z
                  have k : readPort (ps.map (·.1)) outs p ∈ targets.map (readPort (ps.map (·.1)) outs) := List.mem_map_of_mem z
                  rw [r6, ht] at k
                  obtain ⟨w, hw, e⟩ := List.mem_map.mp k
                  cases e
                  exact List.mem_map_of_mem hw
                · intro z
                  obtain ⟨w, hw, e⟩ := List.mem_map.mp z
                  have k : some t ∈ targets.map (readPort (ps.map (·.1)) outs) := by
                    rw [r6, ← e]
                    exact List.mem_map_of_mem (f := fun w => some w.1) hw
                  obtain ⟨p', hp', e'⟩ := List.mem_map.mp k
                  rw [port_inj r4 ht e']
                  exact hp'
              by_cases hin : p ∈ targets
              · rw [if_pos (hm.mp hin)]
                exact .inl ⟨if_neg fun z => z.2.2.2.2 hin, rfl⟩
              · rw [if_neg (fun z => hin (hm.mpr z))]
                refine .inr ⟨ps.map (·.1), targets ++ [p], ⟨some (n, ins, outs), ps, ws ++ [(t, s)], false⟩, ?_, rfl, ⟨rfl, rfl, rfl, r4, r5, ?_⟩⟩
                · exact if_pos ⟨h2, rfl, by rw [port_eq]; show (readPort (ps.map (·.1)) outs p).isSome = true; rw [ht]; rfl, by rw [port_eq]; show (readPort (ps.map (·.1)) ins q).isSome = true; rw [hs]; rfl, hin⟩
                · rw [List.map_append, List.map_append, r6]
                  show _ ++ [readPort (ps.map (·.1)) outs p] = _
                  rw [ht]
                  rfl
        · obtain ⟨a, r, g⟩ := split_cons q2 sep_ar
          refine .inl ⟨by rw [e1, f1, g]; exact if_neg fun z => by have k : r.length + 1 + 1 + 1 = 2 := z.2.1; omega, ?_⟩
          cases hs : readPort (ps.map (·.1)) ins q with
          | none => cases readPort (ps.map (·.1)) outs p <;> rfl
          | some s => exact absurd (by rw [ex2]; exact mem_mid (by decide +kernel)) (port_32 hi r4 hs)
    · rw [if_neg (fun z => h2 z.1), decide_eq_false h2, if_neg Bool.false_ne_true]
      exact .inl ⟨rfl, rfl⟩
def lRun (ins outs : List Str) (parts targets : List Str) (n : Nat) : List Str → Option Nat
  | [] => some n
  | r :: rs => if r = "end" then (if rs = [] then none else some (n + 1)) else match lStep ins outs parts targets r with
    | none => some n
    | some (p, t) => lRun ins outs p t (n + 1) rs
def wrongOf : Nat ⊕ RS → Option Nat
  | .inl k => some k
  | .inr _ => none
theorem run_rel {n : Str} {ins outs : List Str} (hi : ∀ x ∈ ins, isNm x = true) (ho : ∀ x ∈ outs, isNm x = true) : ∀ (rows : List Str) (k : Nat) (st : RS) (parts targets : List Str), Rel st n ins outs parts targets → wrongOf (K28.run st k rows) = lRun ins outs parts targets k rows
  | [], k, st, parts, targets, R => by
    unfold K28.run lRun
    rw [R.dn, if_neg Bool.false_ne_true]
    rfl
  | r :: rs, k, st, parts, targets, R => by
    unfold K28.run lRun
    by_cases hr : r = "end"
    · rw [if_pos hr]
      have hs : K28.step st r = some { st with done := true } := by
        unfold K28.step
        rw [R.hd, R.dn, hr]
        rfl
      rw [hs]
      dsimp only
      cases rs with
      | nil => rfl
      | cons a b =>
        unfold K28.run
        have hs2 : K28.step { st with done := true } a = none := by
          unfold K28.step
          dsimp only
          rw [R.hd]
          rfl
        rw [hs2]
        rfl
    · rw [if_neg hr]
      rcases step_rel R hi ho hr with ⟨e1, e2⟩ | ⟨ps, ts, st', e1, e2, R'⟩
      · rw [e1, e2]
        rfl
      · rw [e1, e2]
        exact run_rel hi ho rs (k + 1) st' ps ts R'
end KV
namespace KV
open PySem L2 Own StX ClX NdefX K28
theorem sp_free : ∀ c : Nat, c < 123 → 97 ≤ c → Unicode.isSpace c = false := by decide +kernel
theorem rms_app (a b : Str) : Txt.removesuffix (a ++ b) b = a := by
  rw [StrLaws.removesuffix_eq]
  have e : (a ++ b).cps.toList = a.cps.toList ++ b.cps.toList := TL.tl_append a b
  have la : a.cps.toList.length = a.length := Array.length_toList
  have lb : b.cps.toList.length = b.length := Array.length_toList
  have sb : Builtin.Str.subAt (a ++ b) b a.length = true := by
    have e2 : ((a ++ b).cps.extract a.length (a.length + b.length)).toList = b.cps.toList := by
      rw [Array.toList_extract, List.extract_eq_take_drop, e, List.drop_append_of_le_length (by omega), List.drop_of_length_le (by omega), List.nil_append, List.take_of_length_le (by omega)]
    unfold Builtin.Str.subAt
    exact beq_iff_eq.mpr (Array.toList_inj.mp e2)
  have hl : (a ++ b).length - b.length = a.length := by rw [sl]; omega
  rw [hl, sb, Bool.and_true, if_pos (by rw [decide_eq_true_eq, sl]; omega)]
  refine TL.ext_tl ?_
  show ((((a ++ b).cps.toList.drop 0).take (a.length - 0)).toArray).toList = a.cps.toList
  rw [e, List.drop_zero, Nat.sub_zero, List.take_append_of_le_length (by omega), List.take_of_length_le (by omega)]
def jL (l : List Str) : List Nat := TL.joinL [32] (l.map TL.tl)
def oL : List (List Nat) → List Nat
  | [] => []
  | p :: r => 32 :: TL.joinL [32] (p :: r)
theorem tl_sp : TL.tl (" " : Str) = [32] := by decide +kernel
theorem tl_em : TL.tl ("" : Str) = [] := by decide +kernel
theorem tl_J (l : List Str) : TL.tl (Txt.join " " l) = jL l := by rw [TL.join_eq, TL.tl_join, tl_sp]; rfl
theorem join0 : ∀ l : List (List Nat), TL.joinL [] (l.map fun p => 32 :: p) = oL l
  | [] => rfl
  | [p] => rfl
  | p :: q :: r => by
    show (32 :: p) ++ ([] ++ TL.joinL [] ((q :: r).map fun p => 32 :: p)) = _
    rw [join0 (q :: r)]
    rfl
theorem tl_O (l : List Str) : TL.tl (Txt.join "" (l.map fun o => (" " : Str) ++ o)) = oL (l.map TL.tl) := by
  rw [TL.join_eq, TL.tl_join, tl_em, ← join0, List.map_map, List.map_map]
  congr 1
  refine List.map_congr_left fun x _ => ?_
  show TL.tl ((" " : Str) ++ x) = 32 :: TL.tl x
  rw [TL.tl_append, tl_sp]
  rfl
theorem join_mem : ∀ (l : List (List Nat)) (c : Nat), c ∈ TL.joinL [32] l → c = 32 ∨ ∃ p ∈ l, c ∈ p
  | [], c, h => by cases h
  | [p], c, h => .inr ⟨p, List.mem_singleton.mpr rfl, h⟩
  | p :: q :: r, c, h => by
    have h : c ∈ p ++ ([32] ++ TL.joinL [32] (q :: r)) := h
    rcases List.mem_append.mp h with z | z
    · exact .inr ⟨p, List.mem_cons_self, z⟩
    · rcases List.mem_append.mp z with z | z
      · exact .inl (List.mem_singleton.mp z)
      · rcases join_mem (q :: r) c z with k | ⟨y, hy, k⟩
        · exact .inl k
        · exact .inr ⟨y, List.mem_cons_of_mem _ hy, k⟩
theorem J_not {l : List Str} (h : ∀ x ∈ l, isNm x = true) {s : Nat} (k : s < 97) (k2 : s ≠ 32) : s ∉ TL.tl (Txt.join " " l) := fun z => by
  rw [tl_J] at z
  rcases join_mem _ _ z with e | ⟨p, hp, e⟩
  · exact k2 e
  · obtain ⟨x, hx, rfl⟩ := List.mem_map.mp hp
    exact nm_not (h x hx) k e
theorem nm_sp {x : Str} (h : isNm x = true) : TL.tl x ≠ [] ∧ ∀ c ∈ TL.tl x, Unicode.isSpace c = false := by
  refine ⟨fun e => ?_, fun c hc => ?_⟩
  · have := (isNm_len h).1
    rw [TL.len_tl, e] at this
    cases this
  · have := nm_tl h hc
    exact sp_free c (by omega) this.1
theorem words_J {l : List Str} (h : ∀ x ∈ l, isNm x = true) : Txt.words (Txt.join " " l) = l := by
  refine TL.map_tl_inj ?_
  rw [TL.words_tl, tl_J]
  by_cases e : l = []
  · rw [e]
    decide +kernel
  · refine TL.wfold_join (l.map TL.tl) [] (fun z => e (List.map_eq_nil_iff.mp z)) fun p hp => ?_
    obtain ⟨x, hx, rfl⟩ := List.mem_map.mp hp
    exact nm_sp (h x hx)
theorem words_O {l : List Str} (h : ∀ x ∈ l, isNm x = true) : Txt.words (Txt.join "" (l.map fun o => (" " : Str) ++ o)) = l := by
  refine TL.map_tl_inj ?_
  rw [TL.words_tl, tl_O]
  cases l with
  | nil => decide +kernel
  | cons a r =>
    show TL.wfin ((32 :: TL.joinL [32] ((a :: r).map TL.tl)).foldl TL.wstep ([], [])) = _
    have e : (32 :: TL.joinL [32] ((a :: r).map TL.tl)).foldl TL.wstep ([], []) = (TL.joinL [32] ((a :: r).map TL.tl)).foldl TL.wstep ([], []) := by
      rw [List.foldl_cons]
      have : TL.wstep ([], []) 32 = ([], []) := by decide +kernel
      rw [this]
    rw [e]
    refine TL.wfold_join ((a :: r).map TL.tl) [] (by simp) fun p hp => ?_
    obtain ⟨x, hx, rfl⟩ := List.mem_map.mp hp
    exact nm_sp (h x hx)
/-- a head that is right -/
structure VH (n : Str) (ins outs : List Str) : Prop where
  n : isDN n = true
  all : ∀ x ∈ ins ++ outs, isNm x = true
  nd : (ins ++ outs).Nodup
  il : ins.length ≤ 8
  ol : outs.length ≤ 8
def restT (ins outs : List Str) : Str := Txt.join " " ins ++ (";" ++ (Txt.join "" (outs.map fun o => (" " : Str) ++ o) ++ ")"))
theorem headT_R (n : Str) (ins outs : List Str) : headT n ins outs = ("block " : Str) ++ (n ++ ("(" ++ restT ins outs)) := by
  unfold headT restT
  simp only [app3]
theorem rest_part {ins outs : List Str} (h : ∀ x ∈ ins, isNm x = true) (b : Str) : Txt.partition (Txt.join " " ins ++ (";" ++ b)) ";" = (Txt.join " " ins, (";" : Str), b) := by
  rw [← app3]
  exact TL.partition_app (y := ";") (s := 59) (S := []) (by decide +kernel) (J_not h (by decide) (by decide))
theorem back1 {n : Str} {ins outs : List Str} (V : VH n ins outs) : headName (headT n ins outs) = n ∧ headIns (headT n ins outs) = ins ∧ headOuts (headT n ins outs) = outs := by
  have hi : ∀ x ∈ ins, isNm x = true := fun x hx => V.all x (List.mem_append_left _ hx)
  have ho : ∀ x ∈ outs, isNm x = true := fun x hx => V.all x (List.mem_append_right _ hx)
  have hp : Txt.partition (Txt.removeprefix (headT n ins outs) "block ") "(" = (n, ("(" : Str), restT ins outs) := by
    rw [headT_R, rmp_app, ← app3]
    exact TL.partition_app (y := "(") (s := 40) (S := []) (by decide +kernel) (nm_not (dn_nm V.n) (by decide))
  have hq : headPorts (headT n ins outs) = Txt.join " " ins ++ (";" ++ Txt.join "" (outs.map fun o => (" " : Str) ++ o)) := by
    unfold headPorts
    rw [hp]
    show Txt.removesuffix (restT ins outs) ")" = _
    unfold restT
    rw [← app3, ← app3, rms_app, app3]
  refine ⟨?_, ?_, ?_⟩
  · unfold headName
    rw [hp]
  · unfold headIns
    rw [hq, rest_part (outs := outs) hi]
    exact words_J hi
  · unfold headOuts
    rw [hq, rest_part (outs := outs) hi]
    exact words_O ho
/-! ### the law's own reader of a head -/
def lhM (row : Str) : Str × Str × Str := Txt.partition (Txt.partition row "(").2.2 ";"
def lhName (row : Str) : Str := cutS (Txt.partition row "(").1 (some 6) none
def lhEnds (row : Str) : Str := cutS (lhM row).2.2 none (some (-1))
def lhIns (row : Str) : List Str := if ¬ (lhM row).1 = Str.empty then Txt.split (lhM row).1 " " else []
def lhOuts (row : Str) : List Str := if ¬ lhEnds row = Str.empty then Txt.split (cutS (lhEnds row) (some 1) none) " " else []
structure LH (row : Str) : Prop where
  c1 : cutS row (some (-1)) none = ")"
  c2 : cutS (Txt.partition row "(").1 none (some 6) = "block "
  c3 : ¬ (lhM row).2.1 = Str.empty
  w : headT (lhName row) (lhIns row) (lhOuts row) = row
  v : VH (lhName row) (lhIns row) (lhOuts row)
theorem cut_front {a b : Str} {m : Int} (h : m = (a.length : Int)) : cutS (a ++ b) none (some m) = a := by
  refine TL.ext_tl ?_
  rw [cut_to _ _ _ h, TL.tl_append, List.take_append_of_le_length (by rw [tl_len]; exact Nat.le_refl _), List.take_of_length_le (by rw [tl_len]; exact Nat.le_refl _)]
theorem cut_back {a b : Str} {m : Int} (h : m = (a.length : Int)) : cutS (a ++ b) (some m) none = b := by
  refine TL.ext_tl ?_
  rw [cut_from _ _ _ h, TL.tl_append, List.drop_append_of_le_length (by rw [tl_len]; exact Nat.le_refl _), List.drop_of_length_le (by rw [tl_len]; exact Nat.le_refl _), List.nil_append]
theorem cut_butA {a b : Str} (h : b.length = 1) : cutS (a ++ b) none (some (-1)) = a := by
  refine TL.ext_tl ?_
  rw [cut_but, TL.tl_append, sl, h, Nat.add_sub_cancel, List.take_append_of_le_length (by rw [tl_len]; exact Nat.le_refl _), List.take_of_length_le (by rw [tl_len]; exact Nat.le_refl _)]
theorem cut_lastA {a b : Str} (h : b.length = 1) : cutS (a ++ b) (some (-1)) none = b := by
  refine TL.ext_tl ?_
  rw [cut_last, TL.tl_append, sl, h, Nat.add_sub_cancel, List.drop_append_of_le_length (by rw [tl_len]; exact Nat.le_refl _), List.drop_of_length_le (by rw [tl_len]; exact Nat.le_refl _), List.nil_append]
theorem split_J {l : List Str} (h : ∀ x ∈ l, isNm x = true) (ne : l ≠ []) : Txt.split (Txt.join " " l) " " = l :=
  TL.split_join (y := " ") (s := 32) (S := []) tl_sp (by decide +kernel) ne fun p hp => nm_not (h p hp) (by decide)
theorem J_ne {l : List Str} (h : ∀ x ∈ l, isNm x = true) (ne : l ≠ []) : ¬ Txt.join " " l = Str.empty := fun z => by
  have e := split_J h ne
  rw [z, show Txt.split Str.empty " " = [Str.empty] by decide +kernel] at e
  have := h Str.empty (by rw [← e]; exact List.mem_singleton.mpr rfl)
  revert this
  decide +kernel
theorem O_cons (a : Str) (r : List Str) : Txt.join "" ((a :: r).map fun o => (" " : Str) ++ o) = (" " : Str) ++ Txt.join " " (a :: r) := by
  refine TL.ext_tl ?_
  rw [tl_O, TL.tl_append, tl_sp, tl_J]
  rfl
theorem back2 {n : Str} {ins outs : List Str} (V : VH n ins outs) : cutS (headT n ins outs) (some (-1)) none = ")" ∧ cutS (Txt.partition (headT n ins outs) "(").1 none (some 6) = "block " ∧ ¬ (lhM (headT n ins outs)).2.1 = Str.empty ∧
    lhName (headT n ins outs) = n ∧ lhIns (headT n ins outs) = ins ∧ lhOuts (headT n ins outs) = outs := by
  have hi : ∀ x ∈ ins, isNm x = true := fun x hx => V.all x (List.mem_append_left _ hx)
  have ho : ∀ x ∈ outs, isNm x = true := fun x hx => V.all x (List.mem_append_right _ hx)
  have h40 : 40 ∉ TL.tl (("block " : Str) ++ n) := fun z => by
    rw [TL.tl_append] at z
    rcases List.mem_append.mp z with z | z
    · revert z
      decide +kernel
    · exact nm_not (dn_nm V.n) (by decide) z
  have hp : Txt.partition (headT n ins outs) "(" = (("block " : Str) ++ n, ("(" : Str), restT ins outs) := by
    rw [headT_R, ← app3, ← app3]
    exact TL.partition_app (y := "(") (s := 40) (S := []) (by decide +kernel) h40
  have hm : lhM (headT n ins outs) = (Txt.join " " ins, (";" : Str), Txt.join "" (outs.map fun o => (" " : Str) ++ o) ++ ")") := by
    unfold lhM
    rw [hp]
    exact rest_part (outs := outs) hi _
  have he : lhEnds (headT n ins outs) = Txt.join "" (outs.map fun o => (" " : Str) ++ o) := by
    unfold lhEnds
    rw [hm]
    exact cut_butA (by decide +kernel)
  refine ⟨?_, ?_, ?_, ?_, ?_, ?_⟩
  · have : headT n ins outs = (("block " : Str) ++ n ++ "(" ++ Txt.join " " ins ++ ";" ++ Txt.join "" (outs.map fun o => (" " : Str) ++ o)) ++ ")" := rfl
    rw [this]
    exact cut_lastA (by decide +kernel)
  · rw [hp]
    exact cut_front (by decide +kernel)
  · rw [hm]
    show ¬ (";" : Str) = Str.empty
    decide +kernel
  · unfold lhName
    rw [hp]
    exact cut_back (by decide +kernel)
  · unfold lhIns
    rw [hm]
    dsimp only
    by_cases e : ins = []
    · subst e
      rw [if_neg (fun z => z (by decide +kernel))]
    · rw [if_pos (J_ne hi e)]
      exact split_J hi e
  · unfold lhOuts
    rw [he]
    cases outs with
    | nil => decide +kernel
    | cons a r =>
      rw [O_cons, if_pos]
      · rw [show cutS ((" " : Str) ++ Txt.join " " (a :: r)) (some 1) none = Txt.join " " (a :: r) from cut_back (by decide +kernel)]
        exact split_J ho (by simp)
      · intro z
        have := congrArg TL.tl z
        rw [TL.tl_append, tl_sp] at this
        cases this
theorem VH_ok {row : Str} (h : okHead row) : VH (headName row) (headIns row) (headOuts row) ∧ headT (headName row) (headIns row) (headOuts row) = row :=
  ⟨⟨h.2.2.2.1, fun x hx => List.all_eq_true.mp h.2.2.2.2.1 x hx, h.2.2.2.2.2, h.2.1, h.2.2.1⟩, of_decide_eq_true h.1⟩
theorem head_iff (row : Str) : okHead row ↔ LH row := by
  constructor
  · intro h
    obtain ⟨V, e⟩ := VH_ok h
    obtain ⟨b1, b2, b3, b4, b5, b6⟩ := back2 V
    rw [e] at b1 b2 b3 b4 b5 b6
    exact ⟨b1, b2, b3, by rw [b4, b5, b6]; exact e, by rw [b4, b5, b6]; exact V⟩
  · intro L
    obtain ⟨b1, b2, b3⟩ := back1 L.v
    rw [L.w] at b1 b2 b3
    refine ⟨decide_eq_true (by rw [b1, b2, b3]; exact L.w), by rw [b2]; exact L.v.il, by rw [b3]; exact L.v.ol, by rw [b1]; exact L.v.n, ?_, ?_⟩
    · rw [b2, b3]
      exact List.all_eq_true.mpr L.v.all
    · rw [b2, b3]
      exact L.v.nd
theorem head_same {row : Str} (h : okHead row) : lhIns row = headIns row ∧ lhOuts row = headOuts row := by
  obtain ⟨V, e⟩ := VH_ok h
  obtain ⟨_, _, _, _, b5, b6⟩ := back2 V
  rw [e] at b5 b6
  exact ⟨b5, b6⟩
/-! ### the whole text -/
open Classical in
noncomputable def lHead (row : Str) : Option (List Str × List Str) := if LH row then some (lhIns row, lhOuts row) else none
noncomputable def lWrong (rows : List Str) : Option Nat := match rows with
  | [] => some 0
  | r :: rs => match lHead r with
    | none => some 0
    | some (i, o) => lRun i o [] [] 1 rs
theorem wrong_eq (r : Str) (rs : List Str) : wrongOf (K28.run st0 0 (r :: rs)) = lWrong (r :: rs) := by
  unfold K28.run lWrong lHead
  by_cases h : okHead r
  · have hs : K28.step st0 r = some ⟨some (headName r, headIns r, headOuts r), [], [], false⟩ := by
      unfold K28.step st0
      dsimp only
      rw [if_pos h]
    obtain ⟨h1, h2⟩ := head_same h
    rw [hs]
    dsimp only
    rw [if_pos ((head_iff r).mp h), h1, h2]
    dsimp only
    obtain ⟨V, _⟩ := VH_ok h
    exact run_rel (fun x hx => V.all x (List.mem_append_left _ hx)) (fun x hx => V.all x (List.mem_append_right _ hx)) rs 1 _ [] [] ⟨rfl, rfl, rfl, fun p hp => (by cases hp), Nat.zero_le _, rfl⟩
  · have hs : K28.step st0 r = none := by
      unfold K28.step st0
      dsimp only
      rw [if_neg h]
    rw [hs]
    dsimp only
    rw [if_neg (fun z => h ((head_iff r).mpr z))]
    rfl
end KV
/-! OwnM: sorted(l), l a tracked list of any values that read as data (pairs of texts, say), of any length. -/
namespace Own
open PySem PySem.Spec PySem.Calls PyProof.Rows L2
def rSortedDp (K : PySem.W.Frag) : List V → Hp → VK → Prop := fun vs H Q => ∃ (a : Addr) (bs : List (V × PyData)), vs = [V.ref a] ∧ SqL K H a (bs.map (·.1)) ∧ (∀ b ∈ bs, Dp K H b.1 b.2) ∧ PySem.W.AllAlike (bs.map (·.2)) ∧ PySem.W.Sortable (bs.map (·.2)) ∧ (∀ b ∈ bs, b.2.depth ≤ 8) ∧
  ∀ p, H p = none → Q (.ref p) (upd H p (.lst ((bs.mergeSort (PySem.W.dataLe false (·.2))).map (·.1))))
theorem each_of {X : Cx} {pins : List (Addr × Obj)} {σ : L2.St} {H : Hp} {s : Shared} (I : Inv X pins σ H s) : ∀ (bs : List (V × PyData)) (us : List Value), Vals (bs.map (·.1)) us → (∀ b ∈ bs, Dp X.K H b.1 b.2) →
    PySem.W.EachIs (fun v (b : V × PyData) => RelV b.1 v) us bs ∧ PySem.W.EachIs (fun v (b : V × PyData) => ∃ as, Reads s.heap v b.2 as) us bs
  | [], us, h, _ => by
    cases h
    exact ⟨.nil, .nil⟩
  | b :: r, us, h, hd => by
    cases h with
    | cons p q =>
      obtain ⟨h1, h2⟩ := each_of I r _ q fun c hc => hd c (List.mem_cons_of_mem _ hc)
      exact ⟨.cons p h1, .cons (Dp.reads I _ _ _ (hd b List.mem_cons_self) p) h2⟩
theorem vals_each : ∀ {bs : List (V × PyData)} {us : List Value}, PySem.W.EachIs (fun v (b : V × PyData) => RelV b.1 v) us bs → Vals (bs.map (·.1)) us
  | _, _, .nil => .nil
  | _, _, .cons p q => .cons p (vals_each q)
theorem cr_sortedDp {X : Cx} (hu : X.A.units + 65 < cLine) : CallR X (.builtin "sorted") (rSortedDp X.K) := by
  intro pins s σ H vs us Q I r h
  obtain ⟨a, bs, rfl, ht, hd, hal, hs, hdp, q⟩ := h
  obtain ⟨its, rv, hl, hz⟩ := I.list ht
  rw [Vals.ref1 r]
  obtain ⟨e1, e2⟩ := each_of I bs its rv hd
  refine PySem.W.sorted_data (enc := fun b : V × PyData => b.2) hl.isList e1 e2 hal hs (by rw [List.length_map] at hz; exact hz) (fun b hb => by have := hdp b hb; omega) fun out hlen ho => ?_
  obtain ⟨ep, he⟩ := PyProof.Rows.sortedAll_at s.heap its out.toArray
  have len : ((bs.mergeSort (PySem.W.dataLe false (·.2))).map (·.1)).length ≤ sizeLine := by
    rw [List.length_map] at hz
    rw [List.length_map, List.length_mergeSort]
    exact hz
  exact ⟨.ref _, upd H (s.heap.objs.size + 1) (.lst ((bs.mergeSort (PySem.W.dataLe false (·.2))).map (·.1))), I.laid (t' := s.toks) (fun _ _ => PyProof.Rows.sortedAll_old) (Nat.le_succ _) ⟨len, out, ep, vals_each ho, he⟩, rfl, q _ (I.hok.fresh (Nat.le_succ _))⟩
end Own
namespace KV
open PySem L2 Own StX ClX NdefX K28
/-! ### numbers as texts -/
theorem tl_int {n : Int} (h : 0 ≤ n) : (Str.ofString (toString n)).cps.toList = TL.numL n.toNat := by
  obtain ⟨k, rfl⟩ : ∃ k : Nat, n = (k : Int) := ⟨n.toNat, by omega⟩
  rw [Int.toNat_natCast]
  exact TL.tl_num k
theorem num_len {n : Int} (h0 : 0 ≤ n) (h1 : n < 4294967296) : (Str.ofString (toString n)).length ≤ 10 := by
  rw [TL.len_tl]
  show (Str.ofString (toString n)).cps.toList.length ≤ 10
  rw [tl_int h0]
  exact TL.numL_len (by decide) (by omega)
theorem numL_head : ∀ n : Nat, 1 ≤ n → ∃ c r, TL.numL n = c :: r ∧ 49 ≤ c ∧ c ≤ 57 := by
  intro n
  induction n using Nat.strongRecOn with
  | _ n ih =>
    intro h
    by_cases h10 : n < 10
    · exact ⟨48 + n, [], TL.numL_lt h10, by omega, by omega⟩
    · obtain ⟨c, r, e, h1, h2⟩ := ih (n / 10) (by omega) (by omega)
      exact ⟨c, r ++ [48 + n % 10], by rw [TL.numL_step (by omega), e]; rfl, h1, h2⟩
theorem readV_num {n : Int} (h0 : 0 ≤ n) (h1 : n < 4294967296) : readV (Str.ofString (toString n)) = some n := by
  have et := tl_int h0
  have hl := num_len h0 h1
  have hlen : (Str.ofString (toString n)).length = (TL.numL n.toNat).length := by rw [TL.len_tl]; exact congrArg List.length et
  have hne := TL.numL_ne n.toNat
  have hpos : 1 ≤ (TL.numL n.toNat).length := by
    cases e : TL.numL n.toNat with
    | nil => exact absurd e hne
    | cons a r => simp
  have hall : (TL.numL n.toNat).all isD = true := List.all_eq_true.mpr fun c hc => by
    have z := TL.numL_digits n.toNat c hc
    unfold isD
    simp only [Bool.and_eq_true, decide_eq_true_eq]
    exact z
  have hd : dig10 (Str.ofString (toString n)) = true := by
    unfold dig10
    rw [et, hall, decide_eq_true (show 1 ≤ (Str.ofString (toString n)).length by omega), decide_eq_true hl]
    rfl
  have hz : ¬ ((⟨#[(Str.ofString (toString n)).cps.toList.headD 0]⟩ : Str) = "0" ∧ ¬ Str.ofString (toString n) = "0") := by
    rintro ⟨z1, z2⟩
    rw [et] at z1
    by_cases hn : n.toNat = 0
    · have : n = 0 := by omega
      subst this
      exact z2 (by decide +kernel)
    · obtain ⟨c, r, e, h2, _⟩ := numL_head n.toNat (by omega)
      rw [e] at z1
      have z3 : ((⟨#[c]⟩ : Str)).cps.toList = (("0" : Str)).cps.toList := congrArg (fun x : Str => x.cps.toList) z1
      rw [show (("0" : Str)).cps.toList = [48] by decide +kernel] at z3
      have : c = 48 := by simpa using z3
      omega
  have hv : ((NumText.digitsVal (Str.ofString (toString n)).cps.toList : Nat) : Int) = n := by
    rw [et, TL.numL_val]
    omega
  unfold readV
  rw [if_pos hd, if_neg hz, hv, if_pos h1]
theorem part_of {z : Str} (h : 32 ∉ z.cps.toList) (y : Str) : Txt.partition (z ++ " " ++ y) " " = (z, (" " : Str), y) := TL.partition_app (y := " ") (s := 32) (S := []) (by decide +kernel) h
theorem readP_num {z : Str} (hz : z = "const" ∨ z = "delay") {n : Int} (h0 : 0 ≤ n) (h1 : n < 4294967296) : readP (z ++ " " ++ Str.ofString (toString n)) = some (z, some n) := by
  have h32 : 32 ∉ z.cps.toList := by rcases hz with rfl | rfl <;> decide +kernel
  have hw : z ∈ words9 := by rcases hz with rfl | rfl <;> decide +kernel
  unfold readP
  rw [part_of h32]
  rw [if_pos hw, if_pos hz, readV_num h0 h1]
  rfl
theorem const_sp (x : Str) : (("const " : Str)) ++ x = ("const" : Str) ++ " " ++ x := by
  have e : (("const " : Str)) = ("const" : Str) ++ " " := by decide +kernel
  rw [e]
theorem delay_sp (x : Str) : (("delay " : Str)) ++ x = ("delay" : Str) ++ " " ++ x := by
  have e : (("delay " : Str)) = ("delay" : Str) ++ " " := by decide +kernel
  rw [e]
/-! ### a valid diagram -/
def PortIn (own parts : List Str) (t : Port) : Prop := (t.1 = Str.empty ∧ t.2 ∈ own) ∨ (t.1 ∈ parts ∧ isNm t.2 = true)
def BlkOk5 (x : Str) : Prop := ((readP x).isSome = true ∨ isDN x = true) ∧ 10 ∉ TL.tl x
structure VD (n : Str) (ins outs : List Str) (ps : List (Str × Str)) (ws : List (Port × Port)) : Prop where
  h : VH n ins outs
  pl : ps.length ≤ 16
  pn : ∀ p ∈ ps, isNm p.1 = true
  pd : (ps.map (·.1)).Nodup
  pb : ∀ p ∈ ps, BlkOk5 p.2
  wn : (ws.map (·.1)).Nodup
  wk : ∀ w ∈ ws, PortIn outs (ps.map (·.1)) w.1 ∧ PortIn ins (ps.map (·.1)) w.2
  bl : ∀ p ∈ ps, p.2.length ≤ 16
  ba : ∀ p ∈ ps, ∀ c ∈ p.2.cps.toList, c < 128
  wl : ws.length ≤ 100
theorem VD.ins {n : Str} {ins outs : List Str} {ps : List (Str × Str)} {ws : List (Port × Port)} (V : VD n ins outs ps ws) : ∀ x ∈ ins, isNm x = true := fun x hx => V.h.all x (List.mem_append_left _ hx)
theorem VD.outs {n : Str} {ins outs : List Str} {ps : List (Str × Str)} {ws : List (Port × Port)} (V : VD n ins outs ps ws) : ∀ x ∈ outs, isNm x = true := fun x hx => V.h.all x (List.mem_append_right _ hx)
theorem VD.pnm {n : Str} {ins outs : List Str} {ps : List (Str × Str)} {ws : List (Port × Port)} (V : VD n ins outs ps ws) : ∀ x ∈ ps.map (·.1), isNm x = true := fun x hx => by
  obtain ⟨p, hp, rfl⟩ := List.mem_map.mp hx
  exact V.pn p hp
theorem port_nil (b : Str) : portT Str.empty b = b := by
  unfold portT
  exact if_pos rfl
theorem port_dot {a b : Str} (h : isNm a = true) : portT a b = a ++ "." ++ b := by
  have := (isNm_len h).1
  unfold portT
  rw [if_neg (by omega)]
theorem read_port {own parts : List Str} (ho : ∀ x ∈ own, isNm x = true) (hp : ∀ x ∈ parts, isNm x = true) {t : Port} (h : PortIn own parts t) : readPort parts own (portT t.1 t.2) = some t := by
  obtain ⟨a, b⟩ := t
  rcases h with ⟨h1, h2⟩ | ⟨h1, h2⟩
  · have h1 : a = Str.empty := h1
    subst h1
    have h2 : b ∈ own := h2
    show readPort parts own (portT Str.empty b) = _
    rw [port_nil]
    unfold readPort
    rw [TL.partition_none (y := ".") (s := 46) (S := []) (by decide +kernel) (nm_not (ho b h2) (by decide))]
    exact (if_pos (show (b, Str.empty, Str.empty).2.1.length = 0 from rfl)).trans (if_pos h2)
  · have h1 : a ∈ parts := h1
    have h2 : isNm b = true := h2
    show readPort parts own (portT a b) = _
    rw [port_dot (hp a h1)]
    unfold readPort
    rw [TL.partition_app (y := ".") (s := 46) (S := []) (by decide +kernel) (nm_not (hp a h1) (by decide))]
    rw [if_neg (by decide +kernel : ¬ (("." : Str)).length = 0), if_pos ⟨h1, h2⟩]
/-- no sign below 46 stands in a port's text -/
theorem port_not {own parts : List Str} (ho : ∀ x ∈ own, isNm x = true) (hp : ∀ x ∈ parts, isNm x = true) {t : Port} (h : PortIn own parts t) {s : Nat} (k : s < 46) : s ∉ TL.tl (portT t.1 t.2) := by
  obtain ⟨a, b⟩ := t
  rcases h with ⟨h1, h2⟩ | ⟨h1, h2⟩
  · have h1 : a = Str.empty := h1
    subst h1
    show s ∉ TL.tl (portT Str.empty b)
    rw [port_nil]
    exact nm_not (ho b h2) (by omega)
  · show s ∉ TL.tl (portT a b)
    rw [port_dot (hp a h1), TL.tl_append, TL.tl_append]
    intro m
    rcases List.mem_append.mp m with m | m
    · rcases List.mem_append.mp m with m | m
      · exact nm_not (hp a h1) (by omega) m
      · have m : s ∈ TL.tl ("." : Str) := m
        rw [show TL.tl ("." : Str) = [46] by decide +kernel, List.mem_singleton] at m
        omega
    · exact nm_not h2 (by omega) m
/-- a port's text is not the word `part` -/
theorem port_part {own parts : List Str} (ho : ∀ x ∈ own, isNm x = true) (hp : ∀ x ∈ parts, isNm x = true) {t : Port} (h : PortIn own parts t) : portT t.1 t.2 ≠ "part" := by
  obtain ⟨a, b⟩ := t
  rcases h with ⟨h1, h2⟩ | ⟨h1, h2⟩
  · have h1 : a = Str.empty := h1
    subst h1
    show portT Str.empty b ≠ _
    rw [port_nil]
    intro e
    have := ho b h2
    rw [e] at this
    revert this
    decide +kernel
  · show portT a b ≠ _
    rw [port_dot (hp a h1)]
    intro e
    have z : 46 ∈ TL.tl (a ++ "." ++ b) := mem_mid (by decide +kernel)
    rw [e] at z
    revert z
    decide +kernel
/-! ### the reader takes the rows -/
theorem head_ok {n : Str} {ins outs : List Str} (V : VH n ins outs) : okHead (headT n ins outs) := by
  obtain ⟨e1, e2, e3⟩ := back1 V
  refine ⟨?_, ?_, ?_, ?_, ?_, ?_⟩
  · unfold isHead
    rw [e1, e2, e3]
    exact decide_eq_true rfl
  · rw [e2]
    exact V.il
  · rw [e3]
    exact V.ol
  · rw [e1]
    exact V.n
  · rw [e2, e3]
    exact List.all_eq_true.mpr V.all
  · rw [e2, e3]
    exact V.nd
theorem step_head {n : Str} {ins outs : List Str} (V : VH n ins outs) : K28.step st0 (headT n ins outs) = some ⟨some (n, ins, outs), [], [], false⟩ := by
  obtain ⟨e1, e2, e3⟩ := back1 V
  unfold K28.step st0
  dsimp only
  rw [if_pos (head_ok V), e1, e2, e3]
theorem row_ne {x y : Str} (h : 32 ∈ TL.tl x) (e : x = y) (k : 32 ∉ TL.tl y) : False := k (e ▸ h)
theorem sp_end : 32 ∉ TL.tl ("end" : Str) := by decide +kernel
theorem part_parts {p : Str × Str} (h : isNm p.1 = true) : partName (partT p) = p.1 ∧ partBlock (partT p) = p.2 ∧ Txt.startswith (partT p) "  part " = true ∧ partT p ≠ "end" := by
  have e : partT p = ("  part " : Str) ++ (p.1 ++ " = " ++ p.2) := by
    unfold partT
    simp only [app3]
  have hp := TL.partition_app (y := " = ") (s := 32) (S := [61, 32]) (by decide +kernel) (a := p.1) (b := p.2) (nm_not h (by decide))
  refine ⟨?_, ?_, ?_, fun z => row_ne ?_ z sp_end⟩
  · unfold partName
    rw [e, rmp_app, hp]
  · unfold partBlock
    rw [e, rmp_app, hp]
  · rw [e, starts_iff, TL.tl_append, decide_eq_true_eq, ← tl_len ("  part " : Str), List.take_left]
  · rw [e, TL.tl_append]
    exact List.mem_append_left _ (by decide +kernel)
theorem step_part {n : Str} {ins outs : List Str} {ps : List (Str × Str)} {p : Str × Str} (h16 : ps.length < 16) (hn : isNm p.1 = true) (hd : p.1 ∉ ps.map (·.1)) (hb : BlkOk5 p.2) :
    K28.step ⟨some (n, ins, outs), ps, [], false⟩ (partT p) = some ⟨some (n, ins, outs), ps ++ [p], [], false⟩ := by
  obtain ⟨e1, e2, e3, e4⟩ := part_parts (p := p) hn
  unfold K28.step
  dsimp only
  rw [if_neg Bool.false_ne_true, if_neg e4, if_pos e3, if_pos (show (([] : List (Port × Port)).isEmpty = true) from rfl)]
  unfold takePart
  rw [e1, e2, if_pos ⟨h16, hn, hd, hb.1⟩]
  rfl
theorem wire_parts {n : Str} {ins outs : List Str} {ps : List (Str × Str)} {ws : List (Port × Port)} (V : VD n ins outs ps ws) {w : Port × Port} (hw : w ∈ ws) :
    wireTarget (ps.map (·.1)) outs (wireT w) = some w.1 ∧ wireSource (ps.map (·.1)) ins (wireT w) = some w.2 ∧ Txt.startswith (wireT w) "  " = true ∧ Txt.startswith (wireT w) "  part " = false ∧ wireT w ≠ "end" := by
  obtain ⟨k1, k2⟩ := V.wk w hw
  have e : wireT w = ("  " : Str) ++ (portT w.1.1 w.1.2 ++ " <- " ++ portT w.2.1 w.2.2) := by
    unfold wireT
    simp only [app3]
  have h32 := port_not V.outs V.pnm k1 (s := 32) (by decide)
  have hp := TL.partition_app (y := " <- ") (s := 32) (S := [60, 45, 32]) (by decide +kernel) (a := portT w.1.1 w.1.2) (b := portT w.2.1 w.2.2) h32
  refine ⟨?_, ?_, ?_, ?_, fun z => row_ne ?_ z sp_end⟩
  · unfold wireTarget
    rw [e, rmp_app, hp]
    exact read_port V.outs V.pnm k1
  · unfold wireSource
    rw [e, rmp_app, hp]
    exact read_port V.ins V.pnm k2
  · rw [e, starts_iff, TL.tl_append, decide_eq_true_eq, ← tl_len ("  " : Str), List.take_left]
  · rw [← Bool.not_eq_true]
    intro z
    have z2 := starts_split z
    generalize cutS (wireT w) (some ((("  part " : Str)).length : Int)) none = r at z2
    rw [e] at z2
    have z3 : portT w.1.1 w.1.2 ++ " <- " ++ portT w.2.1 w.2.2 = ("part" : Str) ++ " " ++ r := by
      have l : ("  part " : Str) ++ r = ("  " : Str) ++ (("part" : Str) ++ " " ++ r) := by
        rw [← app3, ← app3]
        congr 1
      rw [l] at z2
      have := congrArg (fun x => Txt.removeprefix x "  ") z2
      rw [rmp_app, rmp_app] at this
      exact this
    have q1 := TL.partition_app (y := " ") (s := 32) (S := []) (by decide +kernel) (a := portT w.1.1 w.1.2) (b := ("<- " : Str) ++ portT w.2.1 w.2.2) h32
    have q2 := TL.partition_app (y := " ") (s := 32) (S := []) (by decide +kernel) (a := ("part" : Str)) (b := r) (by decide +kernel)
    have l2 : portT w.1.1 w.1.2 ++ " " ++ (("<- " : Str) ++ portT w.2.1 w.2.2) = portT w.1.1 w.1.2 ++ " <- " ++ portT w.2.1 w.2.2 := by
      rw [← app3, app3 (portT w.1.1 w.1.2), app3 (portT w.1.1 w.1.2)]
      have : (" " : Str) ++ "<- " = " <- " := by decide +kernel
      rw [← app3, ← app3, app3 (portT w.1.1 w.1.2), this]
    rw [l2, z3, q2] at q1
    exact port_part V.outs V.pnm k1 (Prod.mk.inj q1).1.symm
  · rw [e, TL.tl_append]
    exact List.mem_append_left _ (by decide +kernel)
theorem step_wire {n : Str} {ins outs : List Str} {ps : List (Str × Str)} {ws us : List (Port × Port)} (V : VD n ins outs ps ws) {w : Port × Port} (hw : w ∈ ws) (hd : w.1 ∉ us.map (·.1)) :
    K28.step ⟨some (n, ins, outs), ps, us, false⟩ (wireT w) = some ⟨some (n, ins, outs), ps, us ++ [w], false⟩ := by
  obtain ⟨e1, e2, e3, e4, e5⟩ := wire_parts V hw
  unfold K28.step
  dsimp only
  rw [if_neg Bool.false_ne_true, if_neg e5, if_neg (by rw [e4]; exact Bool.false_ne_true)]
  unfold takeWire
  rw [if_pos e3, e1, e2]
  dsimp only
  rw [if_neg hd]
  rfl
theorem run_cons {st st' : RS} {r : Str} {rs : List Str} {k : Nat} (h : K28.step st r = some st') : K28.run st k (r :: rs) = K28.run st' (k + 1) rs := by
  show (match K28.step st r with | none => _ | some st' => _) = _
  rw [h]
theorem run_parts {n : Str} {ins outs : List Str} {rest : List Str} : ∀ (ps done : List (Str × Str)) (k : Nat), (done ++ ps).length ≤ 16 → (∀ p ∈ ps, isNm p.1 = true) → ((done ++ ps).map (·.1)).Nodup → (∀ p ∈ ps, BlkOk5 p.2) →
    K28.run ⟨some (n, ins, outs), done, [], false⟩ k (ps.map partT ++ rest) = K28.run ⟨some (n, ins, outs), done ++ ps, [], false⟩ (k + ps.length) rest
  | [], done, k, _, _, _, _ => by rw [List.append_nil]; rfl
  | p :: ps, done, k, h1, h2, h3, h4 => by
    have hd : p.1 ∉ done.map (·.1) := fun z => by
      rw [List.map_append] at h3
      exact (List.nodup_append.mp h3).2.2 _ z _ List.mem_cons_self rfl
    rw [List.map_cons, List.cons_append, run_cons (step_part (by rw [List.length_append, List.length_cons] at h1; omega) (h2 p List.mem_cons_self) hd (h4 p List.mem_cons_self))]
    have e : done ++ p :: ps = (done ++ [p]) ++ ps := by simp
    rw [e] at h1 h3
    rw [run_parts ps (done ++ [p]) (k + 1) h1 (fun q hq => h2 q (List.mem_cons_of_mem _ hq)) h3 (fun q hq => h4 q (List.mem_cons_of_mem _ hq)), List.length_cons, e]
    congr 1
    omega
theorem run_wires {n : Str} {ins outs : List Str} {ps : List (Str × Str)} {ws : List (Port × Port)} (V : VD n ins outs ps ws) {rest : List Str} : ∀ (us done : List (Port × Port)) (k : Nat), (∀ w ∈ us, w ∈ ws) → ((done ++ us).map (·.1)).Nodup →
    K28.run ⟨some (n, ins, outs), ps, done, false⟩ k (us.map wireT ++ rest) = K28.run ⟨some (n, ins, outs), ps, done ++ us, false⟩ (k + us.length) rest
  | [], done, k, _, _ => by rw [List.append_nil]; rfl
  | w :: us, done, k, h1, h3 => by
    have hd : w.1 ∉ done.map (·.1) := fun z => by
      rw [List.map_append] at h3
      exact (List.nodup_append.mp h3).2.2 _ z _ List.mem_cons_self rfl
    rw [List.map_cons, List.cons_append, run_cons (step_wire V (h1 w List.mem_cons_self) hd)]
    have e : done ++ w :: us = (done ++ [w]) ++ us := by simp
    rw [e] at h3
    rw [run_wires V us (done ++ [w]) (k + 1) (fun q hq => h1 q (List.mem_cons_of_mem _ hq)) h3, List.length_cons, e]
    congr 1
    omega
/-- the rows of a valid diagram, its wires in any order, are read -/
theorem run_rows {n : Str} {ins outs : List Str} {ps : List (Str × Str)} {ws us : List (Port × Port)} (V : VD n ins outs ps ws) (hp : us.Perm ws) : K28.run st0 0 (rowsT n ins outs ps us) = .inr ⟨some (n, ins, outs), ps, us, true⟩ := by
  have hn : (us.map (·.1)).Nodup := (hp.map (·.1)).nodup_iff.mpr V.wn
  unfold rowsT
  rw [run_cons (step_head V.h), run_parts ps [] _ V.pl V.pn V.pd V.pb, List.nil_append, run_wires V us [] _ (fun w hw => hp.mem_iff.mp hw) hn, List.nil_append]
  have e : K28.step ⟨some (n, ins, outs), ps, us, false⟩ "end" = some ⟨some (n, ins, outs), ps, us, true⟩ := by
    unfold K28.step
    dsimp only
    rw [if_neg Bool.false_ne_true, if_pos rfl]
  rw [run_cons e]
  rfl
theorem not_app {s : Nat} {a b : Str} (h : s ∉ TL.tl a) (k : s ∉ TL.tl b) : s ∉ TL.tl (a ++ b) := fun z => by
  rw [TL.tl_append] at z
  rcases List.mem_append.mp z with z | z
  · exact h z
  · exact k z
theorem rows_10 {n : Str} {ins outs : List Str} {ps : List (Str × Str)} {ws us : List (Port × Port)} (V : VD n ins outs ps ws) (hp : us.Perm ws) : ∀ r ∈ rowsT n ins outs ps us, 10 ∉ TL.tl r := fun r hr => by
  unfold rowsT at hr
  rcases List.mem_cons.mp hr with rfl | hr
  · unfold headT
    refine not_app (not_app (not_app (not_app (not_app (not_app (by decide +kernel) (nm_not (dn_nm V.h.n) (by decide))) (by decide +kernel)) (J_not V.ins (by decide) (by decide))) (by decide +kernel)) ?_) (by decide +kernel)
    rw [tl_O]
    have : ∀ l : List (List Nat), (∀ p ∈ l, 10 ∉ p) → 10 ∉ oL l := fun l h z => by
      cases l with
      | nil => cases z
      | cons p r =>
        have z : 10 ∈ 32 :: TL.joinL [32] (p :: r) := z
        rcases List.mem_cons.mp z with z | z
        · exact absurd z (by decide)
        · rcases join_mem _ _ z with z | ⟨q, hq, z⟩
          · exact absurd z (by decide)
          · exact h q hq z
    refine this _ fun p hp => ?_
    obtain ⟨o, ho, rfl⟩ := List.mem_map.mp hp
    exact nm_not (V.outs o ho) (by decide)
  · rcases List.mem_append.mp hr with hr | hr
    · obtain ⟨p, hp, rfl⟩ := List.mem_map.mp hr
      unfold partT
      exact not_app (not_app (not_app (by decide +kernel) (nm_not (V.pn p hp) (by decide))) (by decide +kernel)) (V.pb p hp).2
    · rcases List.mem_append.mp hr with hr | hr
      · obtain ⟨w, hw, rfl⟩ := List.mem_map.mp hr
        obtain ⟨k1, k2⟩ := V.wk w (hp.mem_iff.mp hw)
        unfold wireT
        exact not_app (not_app (not_app (by decide +kernel) (port_not V.outs V.pnm k1 (by decide))) (by decide +kernel)) (port_not V.ins V.pnm k2 (by decide))
      · rw [List.mem_singleton.mp hr]
        decide +kernel
/-- the text of the rows, cut at its newlines -/
theorem split_rows {n : Str} {ins outs : List Str} {ps : List (Str × Str)} {ws us : List (Port × Port)} (V : VD n ins outs ps ws) (hp : us.Perm ws) : Txt.split (Txt.join "\n" (rowsT n ins outs ps us)) "\n" = rowsT n ins outs ps us :=
  TL.split_join (y := "\n") (s := 10) (S := []) (by decide +kernel) (by decide +kernel) (by unfold rowsT; exact List.cons_ne_nil _ _) (rows_10 V hp)
end KV
namespace K28
open PySem L2 Own StX ClX NdefX
/-! ### the law's diagrams are valid -/
structure Nm1 (b : Str) : Prop where
  dn : isDN b = true
  no : readP b = none
  nl : 10 ∉ TL.tl b
  le : b.length ≤ 16
  as : ∀ c ∈ b.cps.toList, c < 128
theorem nm1_letters : ∀ k ∈ List.range 24, Nm1 (letter k) := by
  have h : ∀ k ∈ List.range 24, isDN (letter k) = true ∧ readP (letter k) = none ∧ 10 ∉ TL.tl (letter k) ∧ (letter k).length ≤ 16 ∧ ∀ c ∈ (letter k).cps.toList, c < 128 := by decide +kernel
  intro k hk
  obtain ⟨h1, h2, h3, h4, h5⟩ := h k hk
  exact ⟨h1, h2, h3, h4, h5⟩
theorem vh_ij {n : Str} (h : isDN n = true) : KV.VH n ["i", "j"] ["p", "q"] := ⟨h, by decide +kernel, by decide +kernel, by decide, by decide⟩
instance (own parts : List Str) (t : Port) : Decidable (KV.PortIn own parts t) := by
  unfold KV.PortIn
  infer_instance
theorem vd_level {n b : Str} {way : Nat} (hn : isDN n = true) (hb : Nm1 b) (hw : way ∈ [0, 1, 2]) : KV.VD n ["i", "j"] ["p", "q"] [("one", b), ("two", b)] (wsOf way) := by
  have h2 : ∀ way ∈ [0, 1, 2], ((wsOf way).map (·.1)).Nodup ∧ (∀ w ∈ wsOf way, KV.PortIn ["p", "q"] ["one", "two"] w.1 ∧ KV.PortIn ["i", "j"] ["one", "two"] w.2) ∧ (wsOf way).length ≤ 100 := by decide +kernel
  obtain ⟨w1, w2, w3⟩ := h2 way hw
  refine ⟨vh_ij hn, by show 2 ≤ 16; decide, fun p hp => ?_, ?_, fun p hp => ?_, w1, w2, fun p hp => ?_, fun p hp => ?_, w3⟩
  · simp only [List.mem_cons, List.not_mem_nil, or_false] at hp
    rcases hp with rfl | rfl
    · exact (by decide +kernel : isNm "one" = true)
    · exact (by decide +kernel : isNm "two" = true)
  · exact (by decide +kernel : ([("one" : Str), "two"] : List Str).Nodup)
  · simp only [List.mem_cons, List.not_mem_nil, or_false] at hp
    rcases hp with rfl | rfl <;> exact ⟨.inr hb.dn, hb.nl⟩
  · simp only [List.mem_cons, List.not_mem_nil, or_false] at hp
    rcases hp with rfl | rfl <;> exact hb.le
  · simp only [List.mem_cons, List.not_mem_nil, or_false] at hp
    rcases hp with rfl | rfl <;> exact hb.as
instance (x : Str) : Decidable (KV.BlkOk5 x) := by
  unfold KV.BlkOk5
  infer_instance
theorem vd_ground {nd : Nd} (hn : nd ∈ needs8) : KV.VD "a" ["i", "j"] ["p", "q"] groundPs (groundWs nd) := by
  have h2 : ∀ nd ∈ needs8, ((groundWs nd).map (·.1)).Nodup ∧ (∀ w ∈ groundWs nd, KV.PortIn ["p", "q"] ["none", "sum"] w.1 ∧ KV.PortIn ["i", "j"] ["none", "sum"] w.2) ∧ (groundWs nd).length ≤ 100 := by decide +kernel
  obtain ⟨w1, w2, w3⟩ := h2 nd hn
  exact ⟨vh_ij (by decide +kernel), by decide, by decide +kernel, by decide +kernel, by decide +kernel, w1, w2, by decide +kernel, by decide +kernel, w3⟩
end K28
namespace K28
open PySem L2 Own StX ClX NdefX
theorem sum_plus (c : Nat) : ∀ l : List Str, (l.map fun t => t.length + c).sum = (l.map (·.length)).sum + l.length * c
  | [] => by simp
  | a :: r => by
    have := sum_plus c r
    simp only [List.map_cons, List.sum_cons, List.length_cons]
    rw [Nat.succ_mul]
    omega
theorem sum_le5 {l : List Str} {c : Nat} (h : ∀ x ∈ l, x.length ≤ c) : (l.map (·.length)).sum ≤ l.length * c := by
  induction l with
  | nil => exact Nat.zero_le _
  | cons x r ih =>
    have h1 := h x List.mem_cons_self
    have h2 := ih fun y hy => h y (List.mem_cons_of_mem _ hy)
    rw [List.map_cons, List.sum_cons, List.length_cons]
    have : (r.length + 1) * c = r.length * c + c := Nat.succ_mul _ _
    omega
theorem port_le {own parts : List Str} (ho : ∀ x ∈ own, isNm x = true) (hp : ∀ x ∈ parts, isNm x = true) {t : Port} (h : KV.PortIn own parts t) : t.1.length ≤ 8 ∧ t.2.length ≤ 8 ∧ (portT t.1 t.2).length ≤ 17 := by
  have q := portT_len t.1 t.2
  rcases h with ⟨h1, h2⟩ | ⟨h1, h2⟩
  · have := (isNm_len (ho _ h2)).2
    rw [h1] at q ⊢
    have z : Str.empty.length = 0 := rfl
    omega
  · have := (isNm_len (hp _ h1)).2
    have := (isNm_len h2).2
    omega
theorem head_le {n : Str} {ins outs : List Str} (V : KV.VH n ins outs) : (headT n ins outs).length ≤ 170 := by
  have h1 : ∀ x ∈ ins, x.length ≤ 8 := fun x hx => (isNm_len (V.all x (List.mem_append_left _ hx))).2
  have h2 : ∀ x ∈ outs.map (fun o => (" " : Str) ++ o), x.length ≤ 9 := fun x hx => by
    obtain ⟨o, ho, rfl⟩ := List.mem_map.mp hx
    have := (isNm_len (V.all o (List.mem_append_right _ ho))).2
    rw [sl, show (" " : Str).length = 1 by decide +kernel]
    omega
  have a := join_len " " ins
  have b := join_len "" (outs.map fun o => (" " : Str) ++ o)
  rw [sum_plus, show (" " : Str).length = 1 by decide +kernel] at a
  rw [sum_plus, show ("" : Str).length = 0 by decide +kernel] at b
  have c := sum_le5 h1
  have d := sum_le5 h2
  rw [List.length_map] at d b
  have e := Nat.mul_le_mul_right 8 V.il
  have f := Nat.mul_le_mul_right 9 V.ol
  have g := (isNm_len (KV.dn_nm V.n)).2
  have := V.il
  unfold headT
  rw [sl, sl, sl, sl, sl, sl, show ("block " : Str).length = 6 by decide +kernel, show ("(" : Str).length = 1 by decide +kernel, show (";" : Str).length = 1 by decide +kernel, show (")" : Str).length = 1 by decide +kernel]
  omega
theorem rows_le {n : Str} {ins outs : List Str} {ps : List (Str × Str)} {ws us : List (Port × Port)} (V : KV.VD n ins outs ps ws) (hp : us.Perm ws) : (∀ r ∈ rowsT n ins outs ps us, r.length ≤ 170) ∧ (rowsT n ins outs ps us).length ≤ 118 := by
  constructor
  · intro r hr
    unfold rowsT at hr
    rcases List.mem_cons.mp hr with rfl | hr
    · exact head_le V.h
    · rcases List.mem_append.mp hr with hr | hr
      · obtain ⟨p, hp, rfl⟩ := List.mem_map.mp hr
        have := (isNm_len (V.pn p hp)).2
        have := V.bl p hp
        unfold partT
        rw [sl, sl, sl, show ("  part " : Str).length = 7 by decide +kernel, show (" = " : Str).length = 3 by decide +kernel]
        omega
      · rcases List.mem_append.mp hr with hr | hr
        · obtain ⟨w, hw, rfl⟩ := List.mem_map.mp hr
          obtain ⟨k1, k2⟩ := V.wk w (hp.mem_iff.mp hw)
          have := (port_le V.outs V.pnm k1).2.2
          have := (port_le V.ins V.pnm k2).2.2
          unfold wireT
          rw [sl, sl, sl, show ("  " : Str).length = 2 by decide +kernel, show (" <- " : Str).length = 4 by decide +kernel]
          omega
        · rw [List.mem_singleton.mp hr]
          decide +kernel
  · unfold rowsT
    have := V.pl
    have := V.wl
    have := hp.length_eq
    simp only [List.length_cons, List.length_append, List.length_map, List.length_nil]
    omega
theorem text_le {n : Str} {ins outs : List Str} {ps : List (Str × Str)} {ws us : List (Port × Port)} (V : KV.VD n ins outs ps ws) (hp : us.Perm ws) : (Txt.join "\n" (rowsT n ins outs ps us)).length ≤ 21000 ∧ ((rowsT n ins outs ps us).map (·.length)).sum ≤ 118 * 170 := by
  obtain ⟨h1, h2⟩ := rows_le V hp
  have a := join_len "\n" (rowsT n ins outs ps us)
  rw [sum_plus, show ("\n" : Str).length = 1 by decide +kernel] at a
  have b := sum_le5 h1
  have c := Nat.mul_le_mul_right 170 h2
  omega
theorem wires_level {b : Str} {way : Nat} (hw : way ∈ [0, 1, 2]) : wiresOf [("one", b), ("two", b)] ["p", "q"] (wsOf way) = wsOf way := by
  have h : ∀ way ∈ [0, 1, 2], wiresOf [("one", Str.empty), ("two", Str.empty)] ["p", "q"] (wsOf way) = wsOf way := by decide +kernel
  exact h way hw
theorem wires_ground {nd : Nd} (hn : nd ∈ needs8) : wiresOf groundPs ["p", "q"] (groundWs nd) = groundWs nd := by
  have h : ∀ nd ∈ needs8, wiresOf groundPs ["p", "q"] (groundWs nd) = groundWs nd := by decide +kernel
  exact h nd hn
/-- a valid diagram's text is parsed -/
theorem parse_sp {K : PySem.W.Frag} {CR C CI : Addr} {n : Str} {ins outs : List Str} {ps : List (Str × Str)} {ws : List (Port × Port)} (V : KV.VD n ins outs ps ws) (hw : wiresOf ps outs ws = ws) {H : Hp} {Q : VK}
    (k : ∀ y H', Same H H' → H y = none → DgAt K C H' y n ins outs ps ws → Q (.ref y) H') : spParse K CR C CI [.ref C, .str (Txt.join "\n" (rowsT n ins outs ps ws))] H Q E0 := by
  obtain ⟨h1, h2⟩ := rows_le V (List.Perm.refl ws)
  obtain ⟨h3, _⟩ := text_le V (List.Perm.refl ws)
  have hr := KV.run_rows V (List.Perm.refl ws)
  have hs := KV.split_rows V (List.Perm.refl ws)
  refine ⟨_, rfl, by omega, by rw [hs]; omega, by rw [hs]; exact fun r hr => Nat.le_trans (h1 r hr) (by decide), fun kk e => ?_, fun st n ins outs e hh hd y H' s' hy hD => ?_⟩
  · rw [hs, hr] at e
    cases e
  · rw [hs, hr] at e
    cases e
    cases hh
    dsimp only at hD
    rw [hw] at hD
    exact k y H' s' hy hD
end K28
/-! OwnK: a text, once or many times. -/
namespace Own
open PySem PySem.Spec PyProof.Rows L2
def repT (x : Str) (n : Int) : Str := ⟨(List.replicate n.toNat x.cps).foldl (· ++ ·) #[]⟩
theorem rep_tl (a : Array Nat) : ∀ (n : Nat) (acc : Array Nat), ((List.replicate n a).foldl (· ++ ·) acc).toList = acc.toList ++ (List.replicate n a.toList).flatten
  | 0, acc => by simp
  | n + 1, acc => by
    rw [List.replicate_succ, List.foldl_cons, rep_tl a n, List.replicate_succ, List.flatten_cons, Array.toList_append, List.append_assoc]
theorem repT_tl (x : Str) (n : Int) : (repT x n).cps.toList = (List.replicate n.toNat x.cps.toList).flatten := by
  unfold repT
  rw [rep_tl]
  rfl
theorem repT_len (x : Str) (n : Int) : (repT x n).length = n.toNat * x.length := by
  have e : (repT x n).length = (repT x n).cps.toList.length := by simp [Str.length]
  rw [e, repT_tl]
  simp [Str.length]
theorem repT_one (x : Str) : repT x 1 = x := by
  unfold repT
  show (⟨(#[] : Array Nat) ++ x.cps⟩ : Str) = x
  rw [Array.empty_append]
def rMulN : R2 := fun x y H Q => ∃ (i : Str) (n : Int), x = .str i ∧ y = .int n ∧ 1 ≤ n ∧ n ≤ 100000 ∧ 0 < i.length ∧ i.length ≤ 100 ∧ Q (.str (repT i n)) H
theorem op_mul_strN {X : Cx} : OpR X (binaryOp .Mult) rMulN := by
  intro pins s σ H x y v u Q I rx ry h
  obtain ⟨i, n, rfl, rfl, h2, h3, h4, h5, q⟩ := h
  obtain ⟨t, rfl⟩ := rx
  obtain ⟨t', rfl⟩ := ry
  have hn1 : ¬ n < 1 := by omega
  have hm : i.length * n.toNat ≤ 10000000 := by
    have : n.toNat ≤ 100000 := by omega
    exact Nat.mul_le_mul h5 this
  have hz : (repT i n).length ≤ sizeLine := by
    rw [repT_len, sizeLine_eq, Nat.mul_comm]
    omega
  refine PySem.P.mul_str (by rw [Bool.or_eq_false_iff]; exact ⟨decide_eq_false (by omega), decide_eq_false (by omega)⟩) (fun _ _ => ?_) (fun _ _ => ?_) ?_
  · have e : ((2 : Int) ^ 63 - 1) = 9223372036854775807 := by decide
    have e2 : (i.length : Int) * n = ((i.length * n.toNat : Nat) : Int) := by
      rw [Int.natCast_mul, Int.toNat_of_nonneg (by omega)]
    have h6 : (i.length : Int) ≤ (2 ^ 63 - 1) / n := Int.le_ediv_of_mul_le (by omega) (by rw [e2, e]; omega)
    omega
  · show decide (i.length * n.toNat > sizeLine) = false
    exact decide_eq_false (by rw [sizeLine_eq]; omega)
  · rw [if_neg hn1]
    by_cases h1 : n = 1
    · subst h1
      have hc : ((1 : Int) == 1 || i.length == 0) = true := rfl
      rw [if_pos hc]
      rw [repT_one] at q
      exact ⟨.str i, H, I, ⟨_, rfl⟩, q⟩
    · have hc : (n == 1 || i.length == 0) = false := by
        rw [Bool.or_eq_false_iff]
        exact ⟨beq_eq_false_iff_ne.mpr h1, beq_eq_false_iff_ne.mpr (by omega)⟩
      rw [if_neg (by rw [hc]; exact Bool.false_ne_true)]
      exact ⟨hz, ⟨.str (repT i n), H, I.tok _, ⟨_, rfl⟩, q⟩⟩
end Own
namespace K28
open PySem L2 Own StX ClX NdefX
abbrev sFeed : Stmt := top 54
abbrev sTakeL : Stmt := top 55
abbrev sPickL : Stmt := top 56
abbrev sRowsL : Stmt := top 57
abbrev sNeeds : Stmt := top 58
abbrev sThru : Stmt := top 59
abbrev sGround : Stmt := top 60
abbrev sProfL : Stmt := top 61
abbrev sLaw : Stmt := top 62
theorem big {n : Nat} (h : n ≤ 100000) : n ≤ sizeLine := by rw [sizeLine_eq]; omega
theorem lt1 {n : Nat} (h : n ≤ 100000) : n < sizeLine := by rw [sizeLine_eq]; omega
theorem SameX.refl (a : Addr) (H : Hp) : SameX a H H := fun _ _ _ e => e
/-- the draws -/
def Fd (H : Hp) (a : Addr) : Prop := ∃ d s : Int, H a = some (.lst [.int d, .int s]) ∧ 0 ≤ d
theorem Fd.same {H H' : Hp} {a : Addr} (f : Fd H a) (s : Same H H') : Fd H' a := by
  obtain ⟨d, t, h, h0⟩ := f
  exact ⟨d, t, s _ _ h, h0⟩
theorem Fd.is {H : Hp} {a : Addr} (f : Fd H a) : ∃ l, H a = some (.lst l) := by
  obtain ⟨d, t, h, h0⟩ := f
  exact ⟨_, h⟩
theorem Fd.ne {H : Hp} {a p : Addr} (f : Fd H a) (h : H p = none) : a ≠ p := by
  obtain ⟨l, e⟩ := f.is
  exact ne_of_none e h
def spFeed (K : PySem.W.Frag) : Sp := fun vs H Q _ => ∃ (a : Addr) (ns : List Int) (k : Int), vs = [.ref a, .int k] ∧ SqL K H a (ns.map V.int) ∧ ns.length ≤ 1000 ∧ 0 ≤ k ∧ k ≤ 100 ∧
  ∀ p H', Same H H' → Fd H' p → H p = none → Q (.ref p) H'
def spTakeL : Sp := fun vs H Q _ => ∃ (a : Addr) (m : Int), vs = [.ref a, .int m] ∧ Fd H a ∧ 0 < m ∧ m ≤ 8589934592 ∧
  ∀ r H', SameX a H H' → Fd H' a → 0 ≤ r → r < m → Q (.int r) H'
def spPick : Sp := fun vs H Q _ => ∃ (a l : Addr) (xs : List V), vs = [.ref a, .ref l] ∧ Fd H a ∧ a ≠ l ∧ H l = some (.lst xs) ∧ 0 < xs.length ∧ xs.length ≤ 1000 ∧
  ∀ (i : Nat) x H', SameX a H H' → Fd H' a → xs[i]? = some x → Q x H'
theorem fd_put {H : Hp} {a : Addr} {d s : Int} (h : 0 ≤ d) : SameX a H (upd H a (.lst [.int d, .int s])) ∧ Fd (upd H a (.lst [.int d, .int s])) a := ⟨SameX.put, d, s, upd_same, h⟩
section
variable {P : Program} {w : World} {K : PySem.W.Frag} {mg : Str → Option Value} {base : Heap}
abbrev nFe : List Str := ["script", "k", "seed", "digits"]
theorem scFe : FnScope nFe ["script", "k"] (defScope sFeed) := ⟨rfl, rfl, rfl, by decide +kernel, rfl, by decide +kernel, by decide +kernel⟩
theorem ok_feed {f : Addr} {fd : FuncData} (F : Fun K "_law_feed" "_law_feed" sFeed f fd) (mli : mg "list" = none) (mmax : mg "max" = none) (mabs : mg "abs" = none) : FnOk P w K mg base CX0 1 f fd ["script", "k"] (spFeed K) := by
  refine F.ok scFe (fun vs H Q E h => ?_) (fun cdv A outer s H vs Q E hr h => ?_)
  · obtain ⟨a, ns, k, rfl, _⟩ := h
    rfl
  obtain ⟨a, ns, k, rfl, hS, hlen, h0, h1, q⟩ := h
  refine ⟨_, pss_cons (ps_set (i := 2) scFe.nd rfl (.inl rfl) (pe_ix ix_list (pe_op op_cat (pe_callTy call_list_of (by rfl) mli (by decide +kernel) (pa_cons (pe_slice sl_list (pv 0) (po_some (pv 1)) (po_some (pe_op op_add (pv 1) pe_int))) pa_nil)) (pe_lst (pa_cons (pe_op op_add (pe_op op_mul pe_int (pv 1)) pe_int) pa_nil))) pe_int (fun _ _ => rfl)))
    (pss_cons (ps_set (i := 3) scFe.nd rfl (.inl rfl) (pe_callB (call_max2 rfl) (by rfl) mmax (by decide +kernel) (pa_cons pe_int (pa_cons (pe_op op_sub (pe_callB call_abs (by rfl) mabs (by decide +kernel) (pa_cons (pv 2) pa_nil)) (pe_op op_pow pe_int pe_int)) pa_nil))))
    (pss_one (ps_ret (pe_lst (pa_cons (pv 3) (pa_cons (pe_op op_mod (pe_op op_add (pe_op op_add (pe_op op_mul (pe_op op_mod (pe_callB call_abs (by rfl) mabs (by decide +kernel) (pa_cons (pv 2) pa_nil)) pe_int) pe_int) (pe_op op_mul pe_int (pv 1))) pe_int) pe_int) pa_nil)))))), ?_⟩
  refine ⟨_, rfl, _, rfl, _, rfl, _, rfl, _, _, rfl, rfl, _, rfl, a, _, rfl, hS, fun l1 hl1 => ⟨l1, _, rfl, .inl (.of upd_same), fun l2 hl2 => ?_⟩⟩
  have t2 := (upd_new (o := HO.lst (cutV (ns.map V.int) (some k) (some (k + 1)))) hl1).trans (upd_new (o := HO.lst (cutV (ns.map V.int) (some k) (some (k + 1)))) hl2)
  have g2 : (upd (upd H l1 (.lst (cutV (ns.map V.int) (some k) (some (k + 1))))) l2 (.lst (cutV (ns.map V.int) (some k) (some (k + 1))))) l2 = some (.lst (cutV (ns.map V.int) (some k) (some (k + 1)))) := upd_same
  generalize upd (upd H l1 (.lst (cutV (ns.map V.int) (some k) (some (k + 1))))) l2 (.lst (cutV (ns.map V.int) (some k) (some (k + 1)))) = H2 at t2 g2 ⊢
  have cl := cutV_length (ns.map V.int) (some k) (some (k + 1))
  rw [List.length_map] at cl
  refine ⟨_, rfl, _, _, rfl, rfl, .inl ⟨by decide, by decide⟩, _, _, rfl, rfl, small1 (by show 1 ≤ 8; decide), fun l3 hl3 => ?_⟩
  have t3 := upd_new (o := HO.lst [V.int (71 * k + 23)]) hl3
  refine ⟨l2, l3, _, _, rfl, rfl, t3 _ _ g2, upd_same, big (by show _ + 1 ≤ 100000; omega), fun l4 hl4 => ?_⟩
  obtain ⟨c, hc⟩ : ∃ c : Int, (cutV (ns.map V.int) (some k) (some (k + 1)) ++ [V.int (71 * k + 23)])[0]? = some (.int c) := by
    have e : cutV (ns.map V.int) (some k) (some (k + 1)) = ((ns.drop (HT.sIx (ns.map V.int).length 0 (some k))).take (HT.sIx (ns.map V.int).length (ns.map V.int).length (some (k + 1)) - HT.sIx (ns.map V.int).length 0 (some k))).map V.int := by
      unfold cutV
      rw [List.map_take, List.map_drop]
    rw [e]
    generalize (ns.drop (HT.sIx (ns.map V.int).length 0 (some k))).take (HT.sIx (ns.map V.int).length (ns.map V.int).length (some (k + 1)) - HT.sIx (ns.map V.int).length 0 (some k)) = l
    cases l with
    | nil => exact ⟨_, rfl⟩
    | cons c r => exact ⟨c, rfl⟩
  have t4 := t2.trans (t3.trans (upd_new (o := HO.lst (cutV (ns.map V.int) (some k) (some (k + 1)) ++ [V.int (71 * k + 23)])) hl4))
  refine ⟨l4, _, _, .int c, rfl, rfl, .of upd_same, at_of (j := 0) rfl hc, ?_⟩
  generalize upd (upd H2 l3 (.lst [V.int (71 * k + 23)])) l4 (.lst (cutV (ns.map V.int) (some k) (some (k + 1)) ++ [V.int (71 * k + 23)])) = H4 at t4 ⊢
  refine ⟨_, rfl, _, rfl, _, _, rfl, rfl, ⟨by decide, by decide, by decide⟩, _, _, rfl, rfl, _, _, rfl, ?_⟩
  refine ⟨_, rfl, _, rfl, _, rfl, _, _, rfl, rfl, (by show (0 : Int) < 1000003; decide), _, _, rfl, rfl, .inr ⟨by decide, by decide⟩, _, rfl, _, _, rfl, rfl, .inl ⟨by decide, by decide⟩, _, _, rfl, rfl, _, _, rfl, rfl, _, _, rfl, rfl, (by show (0 : Int) < 1000033; decide), small1 (by show 2 ≤ 8; decide), fun p hp => ?_⟩
  exact q p _ (t4.trans (upd_new hp)) ⟨_, _, upd_same, by split <;> omega⟩ (t4.free hp)
abbrev nTk : List Str := ["feed", "size", "number"]
theorem scTkL : FnScope nTk ["feed", "size"] (defScope sTakeL) := ⟨rfl, rfl, rfl, by decide +kernel, rfl, by decide +kernel, by decide +kernel⟩
theorem log_many {m : Int} (h : 0 < m) (h2 : m ≤ 8589934592) : m.natAbs.log2 < 9000 := by
  have h2 : m.natAbs < 2 ^ 34 := by omega
  exact Nat.lt_trans (PySem.Flt.log2_lt_of (by decide) h2) (by decide)
theorem ok_takeL {f : Addr} {fd : FuncData} (F : Fun K "_law_take" "_law_take" sTakeL f fd) : FnOk P w K mg base CX0 1 f fd ["feed", "size"] spTakeL := by
  refine F.ok scTkL (fun vs H Q E h => ?_) (fun cdv A outer s H vs Q E hr h => ?_)
  · obtain ⟨a, m, rfl, _⟩ := h
    rfl
  obtain ⟨a, m, rfl, ⟨d, s, ha, h0⟩, hm, hm2, k⟩ := h
  have at0 : ∀ x y : Int, atI [V.int x, V.int y] 0 = some (.int x) := fun x y => at_of (j := 0) rfl rfl
  have at1 : ∀ x y : Int, atI [V.int x, V.int y] 1 = some (.int y) := fun x y => at_of (j := 1) rfl rfl
  have ix0 : ixN 2 0 = some 0 := by decide +kernel
  have ix1 : ixN 2 1 = some 1 := by decide +kernel
  refine ⟨_, pss_cons (ps_if (pt_cmpR op_gt (pe_ix ix_list (pv 0) pe_int (fun _ _ => rfl)) pe_int (nomark _))
      (pss_cons (ps_set (i := 2) scTkL.nd rfl (.inl rfl) (pe_op op_mod (pe_ix ix_list (pv 0) pe_int (fun _ _ => rfl)) (pv 1)))
      (pss_cons (ps_asg (pe_op op_fdivW (pe_ix ix_list (pv 0) pe_int (fun _ _ => rfl)) (pv 1)) (pg_sub (pv 0) pe_int set_list))
      (pss_one (ps_ret (pv 2))))) pss_nil)
    (pss_cons (ps_asg (pe_op op_mod (pe_op op_add (pe_op op_mul (pe_ix ix_list (pv 0) pe_int (fun _ _ => rfl)) pe_int) pe_int) pe_int) (pg_sub (pv 0) pe_int set_list))
    (pss_one (ps_ret (pe_op op_mod (pe_op op_fdiv (pe_ix ix_list (pv 0) pe_int (fun _ _ => rfl)) pe_int) (pv 1))))), ?_⟩
  refine ⟨_, rfl, a, _, _, _, rfl, rfl, .of ha, at0 _ _, _, _, rfl, rfl, _, rfl, ?_⟩
  by_cases hc : 0 < d
  · rw [decide_eq_true hc]
    refine iteT ⟨_, rfl, a, _, _, _, rfl, rfl, .of ha, at0 _ _, _, rfl, _, _, rfl, rfl, hm, ?_⟩
    refine ⟨_, rfl, a, _, _, _, rfl, rfl, .of ha, at0 _ _, _, rfl, _, _, rfl, rfl, ⟨hm, log_many hm hm2⟩, _, rfl, a, _, _, 0, rfl, rfl, ha, ix0, ?_⟩
    obtain ⟨z1, z2⟩ := fd_put (H := H) (a := a) (d := d / m) (s := s) (Int.ediv_nonneg h0 (by omega))
    exact ⟨_, rfl, k _ _ z1 z2 (Int.emod_nonneg _ (by omega)) (Int.emod_lt_of_pos _ hm)⟩
  · rw [decide_eq_false hc]
    refine iteF ⟨_, rfl, a, _, _, _, rfl, rfl, .of ha, at1 _ _, _, _, rfl, rfl, .inr ⟨by decide, by decide⟩, _, _, rfl, rfl, _, _, rfl, rfl, (by show (0 : Int) < 4294967311; decide), _, rfl, a, _, _, 1, rfl, rfl, ha, ix1, ?_⟩
    refine ⟨_, rfl, a, _, _, _, rfl, rfl, .of upd_same, at1 _ _, _, _, rfl, rfl, ⟨by decide, by decide⟩, _, rfl, _, _, rfl, rfl, hm, ?_⟩
    obtain ⟨z1, z2⟩ := fd_put (H := H) (a := a) (d := d) (s := (s * 69069 + 12345) % 4294967311) h0
    exact k _ _ z1 z2 (Int.emod_nonneg _ (by omega)) (Int.emod_lt_of_pos _ hm)
abbrev nPk : List Str := ["feed", "choices"]
theorem scPk : FnScope nPk ["feed", "choices"] (defScope sPickL) := ⟨rfl, rfl, rfl, by decide +kernel, rfl, by decide +kernel, by decide +kernel⟩
theorem ok_pick {f fT : Addr} {fd fdT : FuncData} (F : Fun K "_law_pick" "_law_pick" sPickL f fd) (GT : FnOk P w K mg base CX0 1 fT fdT ["feed", "size"] spTakeL) (mT : mg "_law_take" = some (.ref fT)) (kT : PySem.W.keepIn K (.ref fT) = true) (bT : Binds K fdT ["feed", "size"] []) (mlen : mg "len" = none) :
    FnOk P w K mg base CX0 2 f fd ["feed", "choices"] spPick := by
  refine F.ok scPk (fun vs H Q E h => ?_) (fun cdv A outer s H vs Q E hr h => ?_)
  · obtain ⟨a, l, xs, rfl, _⟩ := h
    rfl
  obtain ⟨a, l, xs, rfl, ha, hne, hl, hx0, hx1, k⟩ := h
  refine ⟨_, pss_one (ps_ret (pe_ix ix_list (pv 1) (pe_call GT hr rfl mT kT bT .nil pass0 (pa_cons (pv 0) (pa_cons (pe_callB call_len_seq (by rfl) mlen PySem.boot_len (pa_cons (pv 1) pa_nil)) pa_nil))) (fun _ _ => rfl))), ?_⟩
  refine ⟨_, rfl, _, rfl, _, rfl, l, xs, rfl, .inl (.of hl), a, xs.length, rfl, ha, by omega, by omega, fun r H' x' f' hr0 hr1 => ?_⟩
  have hj : r.toNat < xs.length := by omega
  exact ⟨l, xs, r, xs[r.toNat], rfl, rfl, .of (x' _ _ (Ne.symm hne) hl), at_of (j := r.toNat) (by omega) (List.getElem?_eq_getElem hj), k r.toNat _ H' x' f' (List.getElem?_eq_getElem hj)⟩
end
end K28
namespace K28
open PySem L2 Own StX ClX NdefX
/-! ### the law's texts -/
def rowsL (way : Nat) : List Str :=
  if way = 0 then ["one.i <- i", "one.j <- j", "two.i <- i", "two.j <- j", "p <- one.p", "q <- two.q"]
  else if way = 1 then ["one.i <- i", "one.j <- j", "two.i <- one.p", "two.j <- one.q", "p <- two.p", "q <- two.q"]
  else ["one.i <- i", "one.j <- two.p", "two.i <- one.p", "two.j <- j", "p <- two.p", "q <- one.q"]
theorem head_ij (n : Str) : headT n ["i", "j"] ["p", "q"] = (("block " : Str) ++ n) ++ "(i j; p q)" := by
  have e : TL.tl ("(" : Str) ++ (TL.tl (Txt.join " " ([("i" : Str), "j"] : List Str)) ++ (TL.tl (";" : Str) ++ (TL.tl (Txt.join "" (([("p" : Str), "q"] : List Str).map fun o => (" " : Str) ++ o)) ++ TL.tl (")" : Str)))) = TL.tl ("(i j; p q)" : Str) := by decide +kernel
  refine TL.ext_tl ?_
  unfold headT
  simp only [TL.tl_append, List.append_assoc]
  rw [e]
theorem part_one (b : Str) : partT ("one", b) = ("  part one = " : Str) ++ b := by
  have e : (("  part " : Str) ++ "one") ++ " = " = ("  part one = " : Str) := by decide +kernel
  show ((("  part " : Str) ++ "one") ++ " = ") ++ b = _
  rw [e]
theorem part_two (b : Str) : partT ("two", b) = ("  part two = " : Str) ++ b := by
  have e : (("  part " : Str) ++ "two") ++ " = " = ("  part two = " : Str) := by decide +kernel
  show ((("  part " : Str) ++ "two") ++ " = ") ++ b = _
  rw [e]
theorem wires_rows : ∀ way ∈ [0, 1, 2], (wsOf way).map wireT = (rowsL way).map (fun r => ("  " : Str) ++ r) := by decide +kernel
theorem rows_level (n b : Str) {way : Nat} (hw : way ∈ [0, 1, 2]) :
    ([(("block " : Str) ++ n) ++ "(i j; p q)", ("  part one = " : Str) ++ b, ("  part two = " : Str) ++ b] ++ (rowsL way).map (fun r => ("  " : Str) ++ r)) ++ [("end" : Str)] = rowsT n ["i", "j"] ["p", "q"] [("one", b), ("two", b)] (wsOf way) := by
  unfold rowsT
  rw [head_ij, List.map_cons, List.map_cons, List.map_nil, part_one, part_two, wires_rows way hw]
  rfl
def groundRows (nd : Nd) : List Str := ["block a(i j; p q)", "  part none = delay 3", "  part sum = add", "  none.in <- j", ("  sum.a <- " : Str) ++ (if ("i" : Str) ∈ nd.2 then ("i" : Str) else "none.out"), ("  sum.b <- " : Str) ++ (if ("j" : Str) ∈ nd.2 then ("j" : Str) else "none.out"),
  ("  p <- " : Str) ++ (if nd.1 = [("i" : Str)] then ("i" : Str) else "none.out"), "  q <- sum.out", "end"]
theorem rows_ground : ∀ nd ∈ needs8, groundRows nd = rowsT "a" ["i", "j"] ["p", "q"] groundPs (groundWs nd) := by decide +kernel
/-- what a block's outputs need, as two lists in a list -/
def NdAt (H : Hp) (l : Addr) (nd : Nd) : Prop := ∃ p q : Addr, H l = some (.lst [.ref p, .ref q]) ∧ H p = some (.lst (nd.1.map V.str)) ∧ H q = some (.lst (nd.2.map V.str))
theorem NdAt.same {H H' : Hp} {l : Addr} {nd : Nd} (s : Same H H') (h : NdAt H l nd) : NdAt H' l nd := by
  obtain ⟨p, q, h1, h2, h3⟩ := h
  exact ⟨p, q, s _ _ h1, s _ _ h2, s _ _ h3⟩
theorem strs_ne {l : List Str} {d s : Int} (h : l.map V.str = [V.int d, V.int s]) : False := by
  cases l with
  | nil => cases h
  | cons x r =>
    rw [List.map_cons] at h
    cases h
theorem Fd.strs {H : Hp} {a p : Addr} {l : List Str} (f : Fd H a) (h : H p = some (.lst (l.map V.str))) : p ≠ a := fun z => by
  obtain ⟨d, s, e, _⟩ := f
  rw [z, e] at h
  exact strs_ne (HO.lst.inj (Option.some.inj h)).symm
theorem NdAt.X {H H' : Hp} {a l : Addr} {nd : Nd} (f : Fd H a) (s : SameX a H H') (h : NdAt H l nd) : NdAt H' l nd := by
  obtain ⟨p, q, h1, h2, h3⟩ := h
  refine ⟨p, q, s _ _ (fun z => ?_) h1, s _ _ (f.strs h2) h2, s _ _ (f.strs h3) h3⟩
  obtain ⟨d, t, e, _⟩ := f
  rw [z, e] at h1
  cases h1
def spRowsL : Sp := fun vs H Q _ => ∃ way : Nat, vs = [.int (way : Int)] ∧ way ∈ [0, 1, 2] ∧ ∀ p H', Same H H' → H' p = some (.lst ((rowsL way).map V.str)) → Q (.ref p) H'
def spThru (K : PySem.W.Frag) : Sp := fun vs H Q _ => ∃ (a d : Addr) (ns oi oj : List Str) (kvs : List (Key × V)), vs = [.ref a, .ref d] ∧ H a = some (.lst (ns.map V.str)) ∧ H d = some (.dK kvs) ∧ ns.length ≤ 2 ∧ oi.length ≤ 2 ∧ oj.length ≤ 2 ∧ (∀ n ∈ ns, n = "i" ∨ n = "j") ∧
  (("i" : Str) ∈ ns → ∃ x, valV kvs (Sum.inr "i") = some (.ref x) ∧ H x = some (.lst (oi.map V.str))) ∧ (("j" : Str) ∈ ns → ∃ x, valV kvs (Sum.inr "j") = some (.ref x) ∧ H x = some (.lst (oj.map V.str))) ∧
  ∀ p H', Same H H' → H' p = some (.lst ((thru ns oi oj).map V.str)) → Q (.ref p) H'
def spNeeds (K : PySem.W.Frag) : Sp := fun vs H Q _ => ∃ (way : Nat) (l : Addr) (nd : Nd), vs = [.int (way : Int), .ref l] ∧ way ∈ [0, 1, 2] ∧ nd ∈ needs8 ∧ NdAt H l nd ∧ ∀ p H', Same H H' → NdAt H' p (nextN way nd) → Q (.ref p) H'
def spGround (K : PySem.W.Frag) : Sp := fun vs H Q _ => ∃ a : Addr, vs = [.ref a] ∧ Fd H a ∧ ∀ p l nd H', SameX a H H' → Fd H' a → H' p = some (.lst [.str (Txt.join "\n" (groundRows nd)), .ref l]) → NdAt H' l nd → nd ∈ needs8 → Q (.ref p) H'
/-- a profile as data -/
def prD (f : List Fnc) : PyData := .tuple (f.map fun s => .tuple [.tuple (s.1.map PyData.str), .tuple (s.2.map PyData.str)])
def spProfL (K : PySem.W.Frag) : Sp := fun vs H Q _ => ∃ (l : Addr) (nd : Nd), vs = [.ref l] ∧ nd ∈ needs8 ∧ NdAt H l nd ∧ ∀ p H', Same H H' → Tq K H' (.ref p) (prD (faceO nd).prof) → (∃ xs, H' p = some (.tup xs) ∧ xs.length = (faceO nd).prof.length) → Q (.ref p) H'
end K28
namespace K28
open PySem L2 Own StX ClX NdefX
theorem int_way {a b : Nat} (h : a ≠ b) : decide (V.int (a : Int) = V.int (b : Int)) = false := decide_eq_false fun e => h (by have := V.int.inj e; omega)
theorem int_way_t (a : Nat) : decide (V.int (a : Int) = V.int (a : Int)) = true := decide_eq_true rfl
section
variable {P : Program} {w : World} {K : PySem.W.Frag} {mg : Str → Option Value} {base : Heap}
theorem scRwL : FnScope ["way"] ["way"] (defScope sRowsL) := ⟨rfl, rfl, rfl, by decide +kernel, rfl, by decide +kernel, by decide +kernel⟩
theorem ok_rowsL {f : Addr} {fd : FuncData} (F : Fun K "_law_rows" "_law_rows" sRowsL f fd) : FnOk P w K mg base CX0 1 f fd ["way"] spRowsL := by
  refine F.ok scRwL (fun vs H Q E h => ?_) (fun cdv A outer s H vs Q E hr h => ?_)
  · obtain ⟨way, rfl, _⟩ := h
    rfl
  obtain ⟨way, rfl, hw, k⟩ := h
  refine ⟨_, (pss_cons (ps_if (pt_cmpR op_eq (pv 0) pe_int (nomark _)) (pss_one (ps_ret (pe_lst (pa_cons pe_str (pa_cons pe_str (pa_cons pe_str (pa_cons pe_str (pa_cons pe_str (pa_cons pe_str pa_nil))))))))) pss_nil)
    (pss_cons (ps_if (pt_cmpR op_eq (pv 0) pe_int (nomark _)) (pss_one (ps_ret (pe_lst (pa_cons pe_str (pa_cons pe_str (pa_cons pe_str (pa_cons pe_str (pa_cons pe_str (pa_cons pe_str pa_nil))))))))) pss_nil)
    (pss_one (ps_ret (pe_lst (pa_cons pe_str (pa_cons pe_str (pa_cons pe_str (pa_cons pe_str (pa_cons pe_str (pa_cons pe_str pa_nil))))))))))), ?_⟩
  refine ⟨_, rfl, rfl, _, rfl, ?_⟩
  simp only [List.mem_cons, List.not_mem_nil, or_false] at hw
  rcases hw with rfl | rfl | rfl
  · rw [show decide (V.int ((0 : Nat) : Int) = V.int 0) = true from int_way_t 0]
    exact iteT ⟨small1 (by show 6 ≤ 8; decide), fun p hp => k p _ (upd_new hp) upd_same⟩
  · rw [show decide (V.int ((1 : Nat) : Int) = V.int 0) = false from int_way (b := 0) (by decide)]
    refine iteF ⟨_, rfl, rfl, _, rfl, ?_⟩
    rw [show decide (V.int ((1 : Nat) : Int) = V.int 1) = true from int_way_t 1]
    exact iteT ⟨small1 (by show 6 ≤ 8; decide), fun p hp => k p _ (upd_new hp) upd_same⟩
  · rw [show decide (V.int ((2 : Nat) : Int) = V.int 0) = false from int_way (b := 0) (by decide)]
    refine iteF ⟨_, rfl, rfl, _, rfl, ?_⟩
    rw [show decide (V.int ((2 : Nat) : Int) = V.int 1) = false from int_way (b := 1) (by decide)]
    exact iteF ⟨small1 (by show 6 ≤ 8; decide), fun p hp => k p _ (upd_new hp) upd_same⟩
abbrev nTh : List Str := ["needs", "over", "found", "need", "one"]
theorem scTh : FnScope nTh ["needs", "over"] (defScope sThru) := ⟨rfl, rfl, rfl, by decide +kernel, rfl, by decide +kernel, by decide +kernel⟩
theorem ok_thru {f : Addr} {fd : FuncData} (F : Fun K "_law_through" "_law_through" sThru f fd) : FnOk P w K mg base CX0 1 f fd ["needs", "over"] (spThru K) := by
  refine F.ok scTh (fun vs H Q E h => ?_) (fun cdv A outer s H vs Q E hr h => ?_)
  · obtain ⟨a, d, ns, oi, oj, kvs, rfl, _⟩ := h
    rfl
  obtain ⟨a, d, ns, oi, oj, kvs, rfl, ha, hd, hl, li, lj, hn, hi, hj, k⟩ := h
  have hu := hr.units
  have hu1 := Nat.lt_of_le_of_lt (Nat.add_le_add_left (show 1 ≤ 64 by decide) _) hu
  refine ⟨_, (pss_cons (ps_set (i := 2) scTh.nd rfl (.inr rfl) (pe_lst pa_nil))
    (pss_cons (ps_for PassesOwn.never rfl (pi_list (pv 0)) (pg_name (i := 3) scTh.nd rfl (.inl rfl))
      (pss_one (ps_set (i := 2) scTh.nd rfl (.inr rfl) (pe_op op_cat (pv 2) (pe_dget hu1 (pv 1) (pv 3) (fun _ _ => rfl))))))
    (pss_one (ps_ret (pe_lc (own := [("one", 4)]) (g := (gName 4)) rfl scTh.nd (pi_list (pe_lst (pa_cons pe_str (pa_cons pe_str pa_nil)))) (blkOk_by (own := [("one", 4)]) (N := nTh) (sc := defScope sThru) (by decide +kernel)) (fun _ _ _ _ _ => by exact (pg_name (i := 4) scTh.nd rfl (Or.inl rfl))) (fun _ _ _ _ _ => (pts_one (pt_cmpR (show OpR _ (compareOp .In) (rIn K false) from op_in_seq) (pv 4) (pv 2) (by rfl))))
      (fun _ _ _ _ _ => by exact (pv 4))))))), ?_⟩
  refine ⟨Nat.zero_le _, fun p0 hp0 => ⟨_, rfl, a, rfl, ⟨_, .of ((upd_new hp0) _ _ ha)⟩, ?_⟩⟩
  refine for_list (K := K) (a := a) (xs := ns.map V.str) (fun m σ H' => ∃ (p : Addr) (u3 : Option V), σ = [some (.ref a), some (.ref d), some (.ref p), u3, none] ∧ Same H H' ∧ H' p = some (.lst (((ns.take m).flatMap fun (n : Str) => if n = ("i" : Str) then oi else oj).map V.str))) ⟨p0, _, rfl, upd_new hp0, upd_same⟩ (fun m σ H' _ q => by
      obtain ⟨_, _, _, q, _⟩ := q
      exact .of (q _ _ ha)) ?turn ?done
  case turn =>
    rintro m x σ H' hx ⟨p, u3, rfl, s', hp⟩
    rw [List.getElem?_map] at hx
    obtain ⟨n, hx1, rfl⟩ := Option.map_eq_some_iff.mp hx
    have hnm := List.mem_of_getElem? hx1
    have hml : m < ns.length := (List.getElem?_eq_some_iff.mp hx1).1
    have len : ∀ l : List Str, (l.flatMap fun (n : Str) => if n = ("i" : Str) then oi else oj).length ≤ l.length * 2 := fun l => by
      induction l with
      | nil => exact Nat.le_refl _
      | cons x r ih =>
        rw [List.flatMap_cons, List.length_append, List.length_cons]
        split <;> omega
    have l1 := len (ns.take m)
    rw [List.length_take] at l1
    have key : ∃ x, valV kvs (Sum.inr n) = some (.ref x) ∧ H x = some (.lst ((if n = ("i" : Str) then oi else oj).map V.str)) := by
      rcases hn n hnm with rfl | rfl
      · rw [if_pos rfl]
        exact hi hnm
      · rw [if_neg (by decide +kernel)]
        exact hj hnm
    obtain ⟨x, e1, e2⟩ := key
    have l2 : (if n = ("i" : Str) then oi else oj).length ≤ 2 := by split <;> assumption
    refine ⟨_, rfl, _, rfl, _, rfl, d, .ref x, rfl, .inl ⟨kvs, Sum.inr n, .inl (s' _ _ hd), rfl, e1.symm⟩, p, x, _, _, rfl, rfl, hp, s' _ _ e2, ?_, fun q hq => ⟨q, _, rfl, same_put s' (s'.free hq), ?_⟩⟩
    · rw [List.length_map, List.length_map]
      exact big (by omega)
    · rw [upd_same, tk1 hx1, List.flatMap_append, List.map_append, List.flatMap_cons, List.flatMap_nil, List.append_nil]
  rintro σ H1 ⟨p, u3, rfl, s1, hp⟩
  rw [List.length_map, List.take_length] at hp
  generalize hfm : (ns.flatMap fun (n : Str) => if n = ("i" : Str) then oi else oj) = fm at hp
  refine ⟨small1 (by show 2 ≤ 8; decide), fun L hL => ?_⟩
  rw [show HO.lst [V.str "i", V.str "j"] = HO.lst (([("i" : Str), "j"] : List Str).map V.str) from rfl]
  have gL := upd_same (H := H1) (a := L) (o := HO.lst (([("i" : Str), "j"] : List Str).map V.str))
  have s2 := upd_new (o := HO.lst (([("i" : Str), "j"] : List Str).map V.str)) hL
  generalize upd H1 L (HO.lst (([("i" : Str), "j"] : List Str).map V.str)) = H2 at gL s2 ⊢
  have hp2 := s2 _ _ hp
  refine ⟨L, rfl, ⟨_, .of gL⟩, fun D hD => ?_⟩
  refine out_it (walk_list (xs := ([("i" : Str), "j"] : List Str).map V.str)) (fun m H' => Same H2 H' ∧ H' D = some (.lst (((([("i" : Str), "j"] : List Str).take m).filter fun o => decide (o ∈ fm)).map V.str))) ⟨upd_new hD, upd_same⟩ (fun m H' _ q => .of (q.1 _ _ gL)) ?_ ?_
  · rintro m x H5 H6 hm ⟨s6, e6⟩ ⟨rfl, hx⟩
    rw [List.getElem?_map] at hx
    obtain ⟨o, hx1, rfl⟩ := Option.map_eq_some_iff.mp hx
    have hjl : ((((([("i" : Str), "j"] : List Str).take m).filter fun o => decide (o ∈ fm)).map V.str)).length < sizeLine := lt1 (by
      rw [List.length_map]
      refine Nat.le_trans (List.length_filter_le _ _) ?_
      rw [List.length_take]
      have : ([("i" : Str), "j"] : List Str).length = 2 := rfl
      omega)
    refine ⟨rfl, _, rfl, _, rfl, p, _, rfl, .inl (.of (s6 _ _ hp2)), rfl, strs_flat _, _, rfl, ?_⟩
    show if inV (.str o) (fm.map V.str) = true then _ else _
    rw [inV_strs, tk1 hx1, List.filter_append]
    by_cases io : o ∈ fm
    · rw [decide_eq_true io]
      refine iteT ⟨_, rfl, _, e6, hjl, same_put s6 hD, ?_⟩
      rw [upd_same, List.filter_cons_of_pos (by simp [io]), List.filter_nil, List.map_append]
      rfl
    · rw [decide_eq_false io]
      refine iteF ⟨s6, ?_⟩
      rw [List.filter_cons_of_neg (by simp [io]), List.filter_nil, List.append_nil]
      exact e6
  rintro H6 ⟨s6, e6⟩
  refine k D H6 (s1.trans (s2.trans s6)) ?_
  rw [e6]
  unfold thru
  rw [hfm]
  rfl
theorem needs_in : ∀ nd ∈ needs8, nd.1.length ≤ 2 ∧ nd.2.length ≤ 2 ∧ (∀ n ∈ nd.1, n = "i") ∧ (∀ n ∈ nd.2, n = "i" ∨ n = "j") := by decide +kernel
theorem thru_len (ns oi oj : List Str) : (thru ns oi oj).length ≤ 2 := List.length_filter_le _ _
theorem scNe : FnScope ["way", "needs", "p", "q", "over", "back"] ["way", "needs"] (defScope sNeeds) := ⟨rfl, rfl, rfl, by decide +kernel, rfl, by decide +kernel, by decide +kernel⟩
theorem ok_needs {f fT : Addr} {fd fdT : FuncData} (F : Fun K "_law_needs" "_law_needs" sNeeds f fd)
    (GT : FnOk P w K mg base CX0 1 fT fdT ["needs", "over"] (spThru K)) (mT : mg "_law_through" = some (.ref fT)) (kT : PySem.W.keepIn K (.ref fT) = true) (bT : Binds K fdT ["needs", "over"] []) :
    FnOk P w K mg base CX0 2 f fd ["way", "needs"] (spNeeds K) := by
  refine F.ok scNe (fun vs H Q E h => ?_) (fun cdv A outer s H vs Q E hr h => ?_)
  · obtain ⟨way, l, nd, rfl, _⟩ := h
    rfl
  obtain ⟨way, l, nd, rfl, hw, hn8, ⟨p, q, hl, hp, hq⟩, k⟩ := h
  obtain ⟨l1, l2, i1, i2⟩ := needs_in nd hn8
  refine ⟨_, (pss_cons (ps_asg (pv 1) (pg_unl (by rfl) (pgs_cons (pg_name (i := 2) scNe.nd rfl (.inl rfl)) (pgs_cons (pg_name (i := 3) scNe.nd rfl (.inl rfl)) pgs_nil))))
    (pss_cons (ps_if (pt_cmpR op_eq (pv 0) pe_int (nomark _)) (pss_one (ps_ret (pe_lst (pa_cons (pv 2) (pa_cons (pv 3) pa_nil))))) pss_nil)
    (pss_cons (ps_set (i := 4) scNe.nd rfl (.inl rfl) (pe_disp (pps_cons pe_str (pv 2) (pps_cons pe_str (pv 3) pps_nil)) (by rfl) (by rfl) (fun z => by cases z) (by decide)))
    (pss_cons (ps_if (pt_cmpR op_eq (pv 0) pe_int (nomark _)) (pss_one (ps_ret (pe_lst (pa_cons (pe_call GT hr rfl mT kT bT .nil pass0 (pa_cons (pv 2) (pa_cons (pv 4) pa_nil))) (pa_cons (pe_call GT hr rfl mT kT bT .nil pass0 (pa_cons (pv 3) (pa_cons (pv 4) pa_nil))) pa_nil))))) pss_nil)
    (pss_cons (ps_set (i := 5) scNe.nd rfl (.inl rfl) (pe_call GT hr rfl mT kT bT .nil pass0 (pa_cons (pv 2) (pa_cons (pe_disp (pps_cons pe_str (pv 2) pps_nil) (by rfl) (by rfl) (fun z => by cases z) (by decide)) pa_nil))))
    (pss_one (ps_ret (pe_lst (pa_cons (pv 5) (pa_cons (pe_call GT hr rfl mT kT bT .nil pass0 (pa_cons (pv 3) (pa_cons (pe_disp (pps_cons pe_str (pe_lst (pa_cons pe_str pa_nil)) (pps_cons pe_str (pv 5) pps_nil)) (by rfl) (by rfl) (fun z => by cases z) (by decide)) pa_nil))) pa_nil)))))))))), ?_⟩
  refine ⟨_, rfl, l, _, rfl, .of hl, rfl, _, _, rfl, _, _, rfl, rfl, ?_⟩
  refine ⟨_, rfl, rfl, _, rfl, ?_⟩
  simp only [List.mem_cons, List.not_mem_nil, or_false] at hw
  rcases hw with rfl | rfl | rfl
  · rw [show decide (V.int ((0 : Nat) : Int) = V.int 0) = true from int_way_t 0]
    exact iteT ⟨_, rfl, _, rfl, small1 (by show 2 ≤ 8; decide), fun r hr => k r _ (upd_new hr) ⟨p, q, upd_same, (upd_new hr) _ _ hp, (upd_new hr) _ _ hq⟩⟩
  · rw [show decide (V.int ((1 : Nat) : Int) = V.int 0) = false from int_way (b := 0) (by decide)]
    refine iteF fun d hd => ⟨_, rfl, _, rfl, upd_same, [(Sum.inr "i", .ref p), (Sum.inr "j", .ref q)], rfl, (by show 2 ≤ 15; decide), _, rfl, rfl, _, rfl, ?_⟩
    rw [show decide (V.int ((1 : Nat) : Int) = V.int 1) = true from int_way_t 1]
    rw [upd_upd]
    have s1 := upd_new (o := HO.dK (mergeK [] [(Sum.inr "i", V.ref p), (Sum.inr "j", V.ref q)])) hd
    have g1 := upd_same (H := H) (a := d) (o := HO.dK (mergeK [] [(Sum.inr "i", V.ref p), (Sum.inr "j", V.ref q)]))
    generalize upd H d (HO.dK (mergeK [] [(Sum.inr "i", V.ref p), (Sum.inr "j", V.ref q)])) = H1 at s1 g1 ⊢
    have v1 : valV (mergeK [] [((Sum.inr "i" : Key), V.ref p), (Sum.inr "j", V.ref q)]) (Sum.inr "i") = some (.ref p) := rfl
    have v2 : valV (mergeK [] [((Sum.inr "i" : Key), V.ref p), (Sum.inr "j", V.ref q)]) (Sum.inr "j") = some (.ref q) := rfl
    refine iteT ⟨_, rfl, _, rfl, p, d, nd.1, nd.1, nd.2, _, rfl, s1 _ _ hp, g1, l1, l1, l2, fun n hn => .inl (i1 n hn), fun _ => ⟨p, v1, s1 _ _ hp⟩, fun _ => ⟨q, v2, s1 _ _ hq⟩, fun r1 H2 s2 e2 => ?_⟩
    refine ⟨_, rfl, _, rfl, q, d, nd.2, nd.1, nd.2, _, rfl, s2 _ _ (s1 _ _ hq), s2 _ _ g1, l2, l1, l2, i2, fun _ => ⟨p, v1, s2 _ _ (s1 _ _ hp)⟩, fun _ => ⟨q, v2, s2 _ _ (s1 _ _ hq)⟩, fun r2 H3 s3 e3 => ?_⟩
    exact ⟨small1 (by show 2 ≤ 8; decide), fun r hr => k r _ (s1.trans (s2.trans (s3.trans (upd_new hr)))) ⟨r1, r2, upd_same, (upd_new hr) _ _ (s3 _ _ e2), (upd_new hr) _ _ e3⟩⟩
  · rw [show decide (V.int ((2 : Nat) : Int) = V.int 0) = false from int_way (b := 0) (by decide)]
    refine iteF fun d hd => ⟨_, rfl, _, rfl, upd_same, [(Sum.inr "i", .ref p), (Sum.inr "j", .ref q)], rfl, (by show 2 ≤ 15; decide), _, rfl, rfl, _, rfl, ?_⟩
    rw [show decide (V.int ((2 : Nat) : Int) = V.int 1) = false from int_way (b := 1) (by decide)]
    rw [upd_upd]
    have s1 := upd_new (o := HO.dK (mergeK [] [(Sum.inr "i", V.ref p), (Sum.inr "j", V.ref q)])) hd
    generalize upd H d (HO.dK (mergeK [] [(Sum.inr "i", V.ref p), (Sum.inr "j", V.ref q)])) = H1 at s1 ⊢
    refine iteF ⟨_, rfl, fun d2 hd2 => ⟨_, rfl, upd_same, [(Sum.inr "i", .ref p)], rfl, (by show 1 ≤ 15; decide), ?_⟩⟩
    rw [upd_upd]
    have s2 := upd_new (o := HO.dK (mergeK [] [(Sum.inr "i", V.ref p)])) hd2
    have g2 := upd_same (H := H1) (a := d2) (o := HO.dK (mergeK [] [(Sum.inr "i", V.ref p)]))
    generalize upd H1 d2 (HO.dK (mergeK [] [(Sum.inr "i", V.ref p)])) = H2 at s2 g2 ⊢
    have s12 := s1.trans s2
    have v1 : valV (mergeK [] [((Sum.inr "i" : Key), V.ref p)]) (Sum.inr "i") = some (.ref p) := rfl
    refine ⟨p, d2, nd.1, nd.1, [], _, rfl, s12 _ _ hp, g2, l1, l1, Nat.zero_le _, fun n hn => .inl (i1 n hn), fun _ => ⟨p, v1, s12 _ _ hp⟩, fun hj => absurd (i1 _ hj) (by decide +kernel), fun b H3 s3 e3 => ?_⟩
    refine ⟨_, rfl, _, rfl, fun d3 hd3 => ⟨small1 (by show 1 ≤ 8; decide), fun li hli => ⟨_, rfl, ?_⟩⟩⟩
    have nd3 : d3 ≠ li := fun z => by
      rw [← z, upd_same] at hli
      cases hli
    refine ⟨(upd_ne nd3).trans upd_same, [(Sum.inr "i", .ref li), (Sum.inr "j", .ref b)], rfl, (by show 2 ≤ 15; decide), ?_⟩
    have s4 : Same H3 (upd (upd (upd H3 d3 (.dK [])) li (.lst [V.str "i"])) d3 (HO.dK (mergeK [] [(Sum.inr "i", V.ref li), (Sum.inr "j", V.ref b)]))) := same_put ((upd_new hd3).trans (upd_new hli)) hd3
    have g4 := upd_same (H := upd (upd H3 d3 (.dK [])) li (.lst [V.str "i"])) (a := d3) (o := HO.dK (mergeK [] [(Sum.inr "i", V.ref li), (Sum.inr "j", V.ref b)]))
    have g5 : (upd (upd (upd H3 d3 (.dK [])) li (.lst [V.str "i"])) d3 (HO.dK (mergeK [] [(Sum.inr "i", V.ref li), (Sum.inr "j", V.ref b)]))) li = some (.lst (([("i" : Str)] : List Str).map V.str)) := (upd_ne nd3.symm).trans upd_same
    generalize upd (upd (upd H3 d3 (.dK [])) li (.lst [V.str "i"])) d3 (HO.dK (mergeK [] [(Sum.inr "i", V.ref li), (Sum.inr "j", V.ref b)])) = H4 at s4 g4 g5 ⊢
    have v3 : valV (mergeK [] [((Sum.inr "i" : Key), V.ref li), (Sum.inr "j", V.ref b)]) (Sum.inr "i") = some (.ref li) := rfl
    have v4 : valV (mergeK [] [((Sum.inr "i" : Key), V.ref li), (Sum.inr "j", V.ref b)]) (Sum.inr "j") = some (.ref b) := rfl
    have e4 := s4 _ _ e3
    refine ⟨q, d3, nd.2, ["i"], thru nd.1 nd.1 [], _, rfl, s4 _ _ (s3 _ _ (s12 _ _ hq)), g4, l2, by decide, thru_len _ _ _, i2, fun _ => ⟨li, v3, g5⟩, fun _ => ⟨b, v4, e4⟩, fun r2 H5 s5 e5 => ?_⟩
    exact ⟨small1 (by show 2 ≤ 8; decide), fun r hr => k r _ (s12.trans (s3.trans (s4.trans (s5.trans (upd_new hr))))) ⟨b, r2, upd_same, (upd_new hr) _ _ (s5 _ _ e4), (upd_new hr) _ _ e5⟩⟩
end
end K28
namespace K28
open PySem L2 Own StX ClX NdefX
theorem iteS {p : Prop} [Decidable p] {x y : Str} {σ : L2.St} {H : Hp} {Q : VK} (h : Q (V.str (if p then x else y)) H) : if decide p = true then tC (V.str x) σ H Q else tC (V.str y) σ H Q := by
  by_cases e : p
  · rw [decide_eq_true e]
    rw [if_pos e] at h
    exact iteT h
  · rw [decide_eq_false e]
    rw [if_neg e] at h
    exact iteF h
theorem len_none {p : Prop} [Decidable p] : (if p then ("i" : Str) else "none.out").length ≤ 8 := by split <;> decide +kernel
theorem len_nonej {p : Prop} [Decidable p] : (if p then ("j" : Str) else "none.out").length ≤ 8 := by split <;> decide +kernel
def n1s : List (List Str) := [["i"], []]
def n2s : List (List Str) := [["i", "j"], ["j"], ["i"], []]
theorem n12 : ∀ a ∈ n1s, ∀ b ∈ n2s, ((a, b) : Nd) ∈ needs8 := by decide +kernel
theorem eqv_i : ∀ a ∈ n1s, PyData.eqv (.list (a.map PyData.str)) (.list [.str "i"]) = decide (a = [("i" : Str)]) ∧ SeqAt.shaped (.list (a.map PyData.str)) = true ∧ SeqAt.shaped (.list [.str "i"]) = true := by decide +kernel
theorem eqv_nd : ∀ nd ∈ needs8, PyData.eqv (.list (nd.1.map PyData.str)) (.list (nd.2.map PyData.str)) = decide (nd.1 = nd.2) ∧ SeqAt.shaped (.list (nd.1.map PyData.str)) = true ∧ SeqAt.shaped (.list (nd.2.map PyData.str)) = true := by decide +kernel
theorem tq_strs {K : PySem.W.Frag} {H : Hp} : ∀ l : List Str, TqAll K H (l.map V.str) (l.map PyData.str)
  | [] => .nil
  | x :: r => .cons (.str x) (tq_strs r)
section
variable {P : Program} {w : World} {K : PySem.W.Frag} {mg : Str → Option Value} {base : Heap}
theorem scGr : FnScope ["feed", "p", "q", "rows"] ["feed"] (defScope sGround) := ⟨rfl, rfl, rfl, by decide +kernel, rfl, by decide +kernel, by decide +kernel⟩
theorem ok_ground {f fP : Addr} {fd fdP : FuncData} (F : Fun K "_law_ground" "_law_ground" sGround f fd)
    (GP : FnOk P w K mg base CX0 2 fP fdP ["feed", "choices"] spPick) (mP : mg "_law_pick" = some (.ref fP)) (kP : PySem.W.keepIn K (.ref fP) = true) (bP : Binds K fdP ["feed", "choices"] []) :
    FnOk P w K mg base CX0 3 f fd ["feed"] (spGround K) := by
  refine F.ok scGr (fun vs H Q E h => ?_) (fun cdv A outer s H vs Q E hr h => ?_)
  · obtain ⟨a, rfl, _⟩ := h
    rfl
  obtain ⟨a, rfl, ha, k⟩ := h
  have hu := hr.units
  refine ⟨_, (pss_cons (ps_par (i := 1) (j := 2) rfl scGr.nd rfl rfl (by decide) rfl rfl (pa_cons (pe_call GP hr rfl mP kP bP .nil pass0 (pa_cons (pv 0) (pa_cons (pe_lst (pa_cons (pe_lst (pa_cons pe_str pa_nil)) (pa_cons (pe_lst pa_nil) pa_nil))) pa_nil))) (pa_cons (pe_call GP hr rfl mP kP bP .nil pass0 (pa_cons (pv 0) (pa_cons (pe_lst (pa_cons (pe_lst (pa_cons pe_str (pa_cons pe_str pa_nil))) (pa_cons (pe_lst (pa_cons pe_str pa_nil)) (pa_cons (pe_lst (pa_cons pe_str pa_nil)) (pa_cons (pe_lst pa_nil) pa_nil))))) pa_nil))) pa_nil)) rfl)
    (pss_cons (ps_set (i := 3) scGr.nd rfl (.inl rfl) (pe_lst (pa_cons pe_str (pa_cons pe_str (pa_cons pe_str (pa_cons pe_str pa_nil))))))
    (pss_cons (ps_set (i := 3) scGr.nd rfl (.inl rfl) (pe_op op_cat (pv 3) (pe_lst (pa_cons (pe_op op_add_str pe_str (pe_ifExp (pt_cmpR (show OpR _ (compareOp .In) (rIn K false) from op_in_seq) pe_str (pv 2) (by rfl)) pe_str pe_str)) (pa_cons (pe_op op_add_str pe_str (pe_ifExp (pt_cmpR (show OpR _ (compareOp .In) (rIn K false) from op_in_seq) pe_str (pv 2) (by rfl)) pe_str pe_str)) pa_nil)))))
    (pss_one (ps_ret (pe_lst (pa_cons (pe_join pe_str (pe_op op_cat (pv 3) (pe_lst (pa_cons (pe_op op_add_str pe_str (pe_ifExp (pt_cmpR (op_eqD hu) (pv 1) (pe_lst (pa_cons pe_str pa_nil)) (nomark _)) pe_str pe_str)) (pa_cons pe_str (pa_cons pe_str pa_nil)))))) (pa_cons (pe_lst (pa_cons (pv 1) (pa_cons (pv 2) pa_nil))) pa_nil)))))))), ?_⟩
  -- p
  refine ⟨_, rfl, small1 (by show 1 ≤ 8; decide), fun c1 hc1 => ⟨Nat.zero_le _, fun c2 hc2 => ⟨small1 (by show 2 ≤ 8; decide), fun L hL => ?_⟩⟩⟩
  have s1 := upd_new (o := HO.lst [V.str "i"]) hc1
  have s2 := upd_new (o := HO.lst []) hc2
  have s3 := upd_new (o := HO.lst [V.ref c1, V.ref c2]) hL
  have g1 := s3 _ _ (s2 _ _ (upd_same (H := H) (a := c1) (o := HO.lst [V.str "i"])))
  have g2 := s3 _ _ (upd_same (H := upd H c1 (HO.lst [V.str "i"])) (a := c2) (o := HO.lst []))
  have g3 := upd_same (H := upd (upd H c1 (HO.lst [V.str "i"])) c2 (HO.lst [])) (a := L) (o := HO.lst [V.ref c1, V.ref c2])
  have s13 := s1.trans (s2.trans s3)
  generalize upd (upd (upd H c1 (HO.lst [V.str "i"])) c2 (HO.lst [])) L (HO.lst [V.ref c1, V.ref c2]) = H3 at s13 g1 g2 g3 ⊢
  clear s1 s2 s3
  have f3 := ha.same s13
  have nL : a ≠ L := fun z => by
    obtain ⟨d, t, e, _⟩ := f3
    rw [z, g3] at e
    cases e
  refine ⟨a, L, _, rfl, f3, nL, g3, (by show 0 < 2; decide), (by show 2 ≤ 1000; decide), fun i x H4 x4 f4 hx => ?_⟩
  obtain ⟨p, n1, rfl, hn1, hp⟩ : ∃ (p : Addr) (n1 : List Str), x = .ref p ∧ n1 ∈ n1s ∧ H3 p = some (.lst (n1.map V.str)) := by
    match i, hx with
    | 0, hx => cases hx; exact ⟨c1, ["i"], rfl, by decide +kernel, g1⟩
    | 1, hx => cases hx; exact ⟨c2, [], rfl, by decide +kernel, g2⟩
  have hp4 := x4 _ _ (f3.strs hp) hp
  have x04 : SameX a H H4 := (SameX.of s13).trans x4
  clear g1 g2 g3 s13 hp hx x4 f3 nL hc1 hc2 hL
  -- q
  refine ⟨_, rfl, small1 (by show 2 ≤ 8; decide), fun d1 hd1 => ⟨small1 (by show 1 ≤ 8; decide), fun d2 hd2 => ⟨small1 (by show 1 ≤ 8; decide), fun d3 hd3 => ⟨Nat.zero_le _, fun d4 hd4 => ⟨small1 (by show 4 ≤ 8; decide), fun M hM => ?_⟩⟩⟩⟩⟩
  have t1 := upd_new (o := HO.lst [V.str "i", V.str "j"]) hd1
  have t2 := upd_new (o := HO.lst [V.str "j"]) hd2
  have t3 := upd_new (o := HO.lst [V.str "i"]) hd3
  have t4 := upd_new (o := HO.lst []) hd4
  have t5 := upd_new (o := HO.lst [V.ref d1, V.ref d2, V.ref d3, V.ref d4]) hM
  have g1 := t5 _ _ (t4 _ _ (t3 _ _ (t2 _ _ (upd_same (H := H4) (a := d1) (o := HO.lst [V.str "i", V.str "j"])))))
  have g2 := t5 _ _ (t4 _ _ (t3 _ _ (upd_same (H := upd H4 d1 (HO.lst [V.str "i", V.str "j"])) (a := d2) (o := HO.lst [V.str "j"]))))
  have g3 := t5 _ _ (t4 _ _ (upd_same (H := upd (upd H4 d1 (HO.lst [V.str "i", V.str "j"])) d2 (HO.lst [V.str "j"])) (a := d3) (o := HO.lst [V.str "i"])))
  have g4 := t5 _ _ (upd_same (H := upd (upd (upd H4 d1 (HO.lst [V.str "i", V.str "j"])) d2 (HO.lst [V.str "j"])) d3 (HO.lst [V.str "i"])) (a := d4) (o := HO.lst []))
  have g5 := upd_same (H := upd (upd (upd (upd H4 d1 (HO.lst [V.str "i", V.str "j"])) d2 (HO.lst [V.str "j"])) d3 (HO.lst [V.str "i"])) d4 (HO.lst [])) (a := M) (o := HO.lst [V.ref d1, V.ref d2, V.ref d3, V.ref d4])
  have t15 := t1.trans (t2.trans (t3.trans (t4.trans t5)))
  generalize upd (upd (upd (upd (upd H4 d1 (HO.lst [V.str "i", V.str "j"])) d2 (HO.lst [V.str "j"])) d3 (HO.lst [V.str "i"])) d4 (HO.lst [])) M (HO.lst [V.ref d1, V.ref d2, V.ref d3, V.ref d4]) = H5 at t15 g1 g2 g3 g4 g5 ⊢
  clear t1 t2 t3 t4 t5
  have f5 := f4.same t15
  have nM : a ≠ M := fun z => by
    obtain ⟨d, t, e, _⟩ := f5
    rw [z, g5] at e
    cases e
  refine ⟨a, M, _, rfl, f5, nM, g5, (by show 0 < 4; decide), (by show 4 ≤ 1000; decide), fun i x H6 x6 f6 hx => ?_⟩
  obtain ⟨q, n2, rfl, hn2, hq⟩ : ∃ (q : Addr) (n2 : List Str), x = .ref q ∧ n2 ∈ n2s ∧ H5 q = some (.lst (n2.map V.str)) := by
    match i, hx with
    | 0, hx => cases hx; exact ⟨d1, ["i", "j"], rfl, by decide +kernel, g1⟩
    | 1, hx => cases hx; exact ⟨d2, ["j"], rfl, by decide +kernel, g2⟩
    | 2, hx => cases hx; exact ⟨d3, ["i"], rfl, by decide +kernel, g3⟩
    | 3, hx => cases hx; exact ⟨d4, [], rfl, by decide +kernel, g4⟩
  have hq6 := x6 _ _ (f5.strs hq) hq
  have hp6 := x6 _ _ (f5.strs (t15 _ _ hp4)) (t15 _ _ hp4)
  have x06 : SameX a H H6 := x04.trans ((SameX.of t15).trans x6)
  clear g1 g2 g3 g4 g5 t15 hq hx x6 f5 nM hd1 hd2 hd3 hd4 hM x04 hp4 f4 ha
  have h8 := n12 _ hn1 _ hn2
  -- rows
  refine ⟨_, _, rfl, small1 (by show 4 ≤ 8; decide), fun r1 hr1 => ?_⟩
  have e1 := upd_same (H := H6) (a := r1) (o := HO.lst [V.str "block a(i j; p q)", V.str "  part none = delay 3", V.str "  part sum = add", V.str "  none.in <- j"])
  have s7 := upd_new (o := HO.lst [V.str "block a(i j; p q)", V.str "  part none = delay 3", V.str "  part sum = add", V.str "  none.in <- j"]) hr1
  generalize upd H6 r1 (HO.lst [V.str "block a(i j; p q)", V.str "  part none = delay 3", V.str "  part sum = add", V.str "  none.in <- j"]) = H7 at e1 s7 ⊢
  have hq7 := s7 _ _ hq6
  have bl : ∀ {n m : Nat}, n ≤ 20 → m ≤ 8 → n + m ≤ sizeLine := fun h1 h2 => big (by omega)
  refine ⟨_, rfl, _, rfl, q, _, rfl, .inl (.of hq7), rfl, strs_flat _, _, rfl, ?_⟩
  show if inV (.str "i") (n2.map V.str) = true then _ else _
  rw [inV_strs]
  refine iteS ⟨_, _, rfl, rfl, bl (by decide +kernel) len_none, _, rfl, q, _, rfl, .inl (.of hq7), rfl, strs_flat _, _, rfl, ?_⟩
  show if inV (.str "j") (n2.map V.str) = true then _ else _
  rw [inV_strs]
  refine iteS ⟨_, _, rfl, rfl, bl (by decide +kernel) len_nonej, small1 (by show 2 ≤ 8; decide), fun r2 hr2 => ?_⟩
  generalize hx2 : HO.lst [V.str (("  sum.a <- " : Str) ++ (if ("i" : Str) ∈ n2 then ("i" : Str) else "none.out")), V.str (("  sum.b <- " : Str) ++ (if ("j" : Str) ∈ n2 then ("j" : Str) else "none.out"))] = o2
  have e2 := upd_same (H := H7) (a := r2) (o := o2)
  have s8 := upd_new (o := o2) hr2
  generalize upd H7 r2 o2 = H8 at e2 s8 ⊢
  rw [← hx2] at e2
  refine ⟨r1, r2, _, _, rfl, rfl, s8 _ _ e1, e2, big (by show 4 + 2 ≤ _; decide), fun r3 hr3 => ?_⟩
  generalize hx3 : HO.lst ([V.str "block a(i j; p q)", V.str "  part none = delay 3", V.str "  part sum = add", V.str "  none.in <- j"] ++ [V.str (("  sum.a <- " : Str) ++ (if ("i" : Str) ∈ n2 then ("i" : Str) else "none.out")), V.str (("  sum.b <- " : Str) ++ (if ("j" : Str) ∈ n2 then ("j" : Str) else "none.out"))]) = o3
  have e3 := upd_same (H := H8) (a := r3) (o := o3)
  have s9 := upd_new (o := o3) hr3
  generalize upd H8 r3 o3 = H9 at e3 s9 ⊢
  rw [← hx3] at e3
  have s69 := s7.trans (s8.trans s9)
  have hp9 := s69 _ _ hp6
  -- the text
  refine ⟨⟨_, rfl⟩, _, rfl, _, rfl, small1 (by show 1 ≤ 8; decide), fun z1 hz1 => ?_⟩
  have e4 := upd_same (H := H9) (a := z1) (o := HO.lst [V.str "i"])
  have s10 := upd_new (o := HO.lst [V.str "i"]) hz1
  generalize upd H9 z1 (HO.lst [V.str "i"]) = H10 at e4 s10 ⊢
  obtain ⟨q1, q2, q3⟩ := eqv_i n1 hn1
  refine ⟨.list (n1.map PyData.str), .list [.str "i"], .lst (.of (s10 _ _ hp9)) (dp_strs n1), .lst (.of e4) (dp_strs [("i" : Str)]), q2, q3, _, rfl, ?_⟩
  rw [q1]
  refine iteS ⟨_, _, rfl, rfl, bl (by decide +kernel) len_none, small1 (by show 3 ≤ 8; decide), fun r4 hr4 => ?_⟩
  generalize hx4 : HO.lst [V.str (("  p <- " : Str) ++ (if n1 = [("i" : Str)] then ("i" : Str) else "none.out")), V.str "  q <- sum.out", V.str "end"] = o4
  have e5 := upd_same (H := H10) (a := r4) (o := o4)
  have s11 := upd_new (o := o4) hr4
  generalize upd H10 r4 o4 = H11 at e5 s11 ⊢
  rw [← hx4] at e5
  refine ⟨r3, r4, _, _, rfl, rfl, s11 _ _ (s10 _ _ e3), e5, big (by show 6 + 3 ≤ _; decide), fun r5 hr5 => ?_⟩
  rw [show HO.lst (([V.str "block a(i j; p q)", V.str "  part none = delay 3", V.str "  part sum = add", V.str "  none.in <- j"] ++ [V.str (("  sum.a <- " : Str) ++ (if ("i" : Str) ∈ n2 then ("i" : Str) else "none.out")), V.str (("  sum.b <- " : Str) ++ (if ("j" : Str) ∈ n2 then ("j" : Str) else "none.out"))]) ++ [V.str (("  p <- " : Str) ++ (if n1 = [("i" : Str)] then ("i" : Str) else "none.out")), V.str "  q <- sum.out", V.str "end"]) = HO.lst ((groundRows (n1, n2)).map V.str) from rfl]
  have e6 := upd_same (H := H11) (a := r5) (o := HO.lst ((groundRows (n1, n2)).map V.str))
  have s12 := upd_new (o := HO.lst ((groundRows (n1, n2)).map V.str)) hr5
  generalize upd H11 r5 (HO.lst ((groundRows (n1, n2)).map V.str)) = H12 at e6 s12 ⊢
  have l1 : (("\n" : Str)).length = 1 := by decide +kernel
  obtain ⟨w1, w2⟩ := rows_le (vd_ground h8) (List.Perm.refl _)
  obtain ⟨w3, w4⟩ := text_le (vd_ground h8) (List.Perm.refl _)
  rw [← rows_ground _ h8] at w2 w4
  have s612 := s69.trans (s10.trans (s11.trans s12))
  refine ⟨"\n", r5, _, rfl, rfl, .inl (.of e6), by rw [l1]; exact Nat.le_trans (Nat.add_le_add w4 (Nat.mul_le_mul_right 1 w2)) (by decide), _, rfl, _, rfl, small1 (by show 2 ≤ 8; decide), fun l hl => ⟨small1 (by show 2 ≤ 8; decide), fun r hr => ?_⟩⟩
  have y1 := upd_new (o := HO.lst [V.ref p, V.ref q]) hl
  have y2 := upd_new (o := HO.lst [V.str (Txt.join "\n" (groundRows (n1, n2))), V.ref l]) hr
  have y12 := s612.trans (y1.trans y2)
  exact k r l (n1, n2) _ (x06.trans (.of y12)) (f6.same y12) upd_same ⟨p, q, y2 _ _ upd_same, y12 _ _ hp6, y12 _ _ hq6⟩ h8
theorem scPf : FnScope ["needs"] ["needs"] (defScope sProfL) := ⟨rfl, rfl, rfl, by decide +kernel, rfl, by decide +kernel, by decide +kernel⟩
theorem ok_profL {f : Addr} {fd : FuncData} (F : Fun K "_law_profile" "_law_profile" sProfL f fd) (zt : mg "tuple" = none) : FnOk P w K mg base CX0 1 f fd ["needs"] (spProfL K) := by
  refine F.ok scPf (fun vs H Q E h => ?_) (fun cdv A outer s H vs Q E hr h => ?_)
  · obtain ⟨l, nd, rfl, _⟩ := h
    rfl
  obtain ⟨l, nd, rfl, h8, ⟨p, q, hl, hp, hq⟩, k⟩ := h
  have hu := hr.units
  have at0 : ∀ x y : V, atI [x, y] 0 = some x := fun x y => at_of (j := 0) rfl rfl
  have at1 : ∀ x y : V, atI [x, y] 1 = some y := fun x y => at_of (j := 1) rfl rfl
  refine ⟨_, (pss_cons (ps_if (pt_cmpR (op_eqD hu) (pe_ix ix_list (pv 0) pe_int (fun _ _ => rfl)) (pe_ix ix_list (pv 0) pe_int (fun _ _ => rfl)) (nomark _)) (pss_one (ps_ret (pe_tup (pa_cons (pe_tup (pa_cons (pe_tup (pa_cons pe_str (pa_cons pe_str pa_nil))) (pa_cons (pe_callTy call_tuple_of (by rfl) zt (by decide +kernel) (pa_cons (pe_ix ix_list (pv 0) pe_int (fun _ _ => rfl)) pa_nil)) pa_nil))) pa_nil)))) pss_nil)
    (pss_one (ps_ret (pe_tup (pa_cons (pe_tup (pa_cons (pe_tup (pa_cons pe_str pa_nil)) (pa_cons (pe_callTy call_tuple_of (by rfl) zt (by decide +kernel) (pa_cons (pe_ix ix_list (pv 0) pe_int (fun _ _ => rfl)) pa_nil)) pa_nil))) (pa_cons (pe_tup (pa_cons (pe_tup (pa_cons pe_str pa_nil)) (pa_cons (pe_callTy call_tuple_of (by rfl) zt (by decide +kernel) (pa_cons (pe_ix ix_list (pv 0) pe_int (fun _ _ => rfl)) pa_nil)) pa_nil))) pa_nil)))))), ?_⟩
  obtain ⟨q1, q2, q3⟩ := eqv_nd nd h8
  refine ⟨_, rfl, l, _, _, _, rfl, rfl, .of hl, at0 _ _, _, rfl, l, _, _, _, rfl, rfl, .of hl, at1 _ _, ?_⟩
  refine ⟨.list (nd.1.map PyData.str), .list (nd.2.map PyData.str), .lst (.of hp) (dp_strs nd.1), .lst (.of hq) (dp_strs nd.2), q2, q3, _, rfl, ?_⟩
  rw [q1]
  by_cases he : nd.1 = nd.2
  · rw [decide_eq_true he]
    refine iteT ⟨small1 (by show 2 ≤ 8; decide), fun t1 ht1 => ⟨_, rfl, l, _, _, _, rfl, rfl, .of ((upd_new ht1) _ _ hl), at0 _ _, p, _, rfl, .inl ⟨.of ((upd_new ht1) _ _ hp), fun t2 ht2 => ⟨small1 (by show 2 ≤ 8; decide), fun t3 ht3 => ⟨small1 (by show 1 ≤ 8; decide), fun t4 ht4 => ?_⟩⟩⟩⟩⟩
    have s1 := upd_new (o := HO.tup [V.str "p", V.str "q"]) ht1
    have s2 := upd_new (o := HO.tup (nd.1.map V.str)) ht2
    have s3 := upd_new (o := HO.tup [V.ref t1, V.ref t2]) ht3
    have s4 := upd_new (o := HO.tup [V.ref t3]) ht4
    refine k t4 _ (s1.trans (s2.trans (s3.trans s4))) ?_ ⟨_, upd_same, ?_⟩
    · unfold prD faceO
      rw [if_pos he]
      exact .tup (.of upd_same) (.cons (.tup (.of (s4 _ _ upd_same)) (.cons (.tup (.of (s4 _ _ (s3 _ _ (s2 _ _ upd_same)))) (tq_strs [("p" : Str), "q"])) (.cons (.tup (.of (s4 _ _ (s3 _ _ upd_same))) (tq_strs nd.1)) .nil))) .nil)
    · unfold faceO
      rw [if_pos he]
      rfl
  · rw [decide_eq_false he]
    refine iteF ⟨small1 (by show 1 ≤ 8; decide), fun t1 ht1 => ⟨_, rfl, l, _, _, _, rfl, rfl, .of ((upd_new ht1) _ _ hl), at0 _ _, p, _, rfl, .inl ⟨.of ((upd_new ht1) _ _ hp), fun t2 ht2 => ⟨small1 (by show 2 ≤ 8; decide), fun t3 ht3 => ?_⟩⟩⟩⟩
    have s1 := upd_new (o := HO.tup [V.str "p"]) ht1
    have s2 := upd_new (o := HO.tup (nd.1.map V.str)) ht2
    have s3 := upd_new (o := HO.tup [V.ref t1, V.ref t2]) ht3
    have g1 := s3 _ _ (s2 _ _ (upd_same (H := H) (a := t1) (o := HO.tup [V.str "p"])))
    have g2 := s3 _ _ (upd_same (H := upd H t1 (HO.tup [V.str "p"])) (a := t2) (o := HO.tup (nd.1.map V.str)))
    have g3 := upd_same (H := upd (upd H t1 (HO.tup [V.str "p"])) t2 (HO.tup (nd.1.map V.str))) (a := t3) (o := HO.tup [V.ref t1, V.ref t2])
    have s13 := s1.trans (s2.trans s3)
    generalize upd (upd (upd H t1 (HO.tup [V.str "p"])) t2 (HO.tup (nd.1.map V.str))) t3 (HO.tup [V.ref t1, V.ref t2]) = H3 at g1 g2 g3 s13 ⊢
    refine ⟨small1 (by show 1 ≤ 8; decide), fun t4 ht4 => ⟨_, rfl, l, _, _, _, rfl, rfl, .of ((upd_new ht4) _ _ (s13 _ _ hl)), at1 _ _, q, _, rfl, .inl ⟨.of ((upd_new ht4) _ _ (s13 _ _ hq)), fun t5 ht5 => ⟨small1 (by show 2 ≤ 8; decide), fun t6 ht6 => ⟨small1 (by show 2 ≤ 8; decide), fun t7 ht7 => ?_⟩⟩⟩⟩⟩
    have s4 := upd_new (o := HO.tup [V.str "q"]) ht4
    have s5 := upd_new (o := HO.tup (nd.2.map V.str)) ht5
    have s6 := upd_new (o := HO.tup [V.ref t4, V.ref t5]) ht6
    have s7 := upd_new (o := HO.tup [V.ref t3, V.ref t6]) ht7
    have s47 := s4.trans (s5.trans (s6.trans s7))
    refine k t7 _ (s13.trans s47) ?_ ⟨_, upd_same, ?_⟩
    · unfold prD faceO
      rw [if_neg he]
      exact .tup (.of upd_same) (.cons (.tup (.of (s47 _ _ g3)) (.cons (.tup (.of (s47 _ _ g1)) (tq_strs [("p" : Str)])) (.cons (.tup (.of (s47 _ _ g2)) (tq_strs nd.1)) .nil)))
        (.cons (.tup (.of (s7 _ _ upd_same)) (.cons (.tup (.of (s7 _ _ (s6 _ _ (s5 _ _ upd_same)))) (tq_strs [("q" : Str)])) (.cons (.tup (.of (s7 _ _ (s6 _ _ upd_same))) (tq_strs nd.2)) .nil))) .nil))
    · unfold faceO
      rw [if_neg he]
      rfl
end
end K28
namespace K28
open PySem L2 Own StX ClX NdefX
def spLaw (K : PySem.W.Frag) : Sp := fun vs H Q _ => ∃ (a : Addr) (ns : List Int), vs = [.ref a] ∧ SqL K H a (ns.map V.int) ∧ ns.length ≤ 63 ∧ ∀ H', Q (.bl true) H'
theorem pass0x {X : Cx} : Passes (L2.CX X.prog X.w) X E0 := fun _ _ _ _ _ _ _ ⟨_, _, _, _, _, _, _, _, _, _, _, _, h⟩ => h.elim
theorem Fd.nt {H : Hp} {a : Addr} (f : Fd H a) : NoTup H a := fun xs => by
  obtain ⟨d, s, e, _⟩ := f
  exact ⟨fun z => by (rw [e] at z; cases z), fun o z => by (rw [e] at z; cases z)⟩
theorem InterAt.X {K : PySem.W.Frag} {H H' : Hp} {a d : Addr} {fi : Str → Option Fc} (f : Fd H a) (s : SameX a H H') (h : InterAt K H d fi) : InterAt K H' d fi := by
  obtain ⟨kvs, h1, h2⟩ := h
  refine ⟨kvs, s _ _ (fun z => ?_) h1, fun b g e => ?_⟩
  · obtain ⟨l, q⟩ := f.is
    rw [z, q] at h1
    cases h1
  · obtain ⟨x, e1, ⟨i, o, p, as, z1, z2, z3, z4, z5⟩, e3⟩ := h2 b g e
    refine ⟨x, e1, ⟨i, o, p, as, sqT_X s f.nt z1, sqT_X s f.nt z2, ixT_X s f.nt z3, sqT_X s f.nt z4, z5.1, fun i a t q1 q2 => ?_⟩, e3⟩
    obtain ⟨y1, y2, w1, w2, w3⟩ := z5.2 i a t q1 q2
    exact ⟨y1, y2, sqT_X s f.nt w1, sqT_X s f.nt w2, sqT_X s f.nt w3⟩
theorem tq_fncs {K : PySem.W.Frag} {H : Hp} : ∀ (as : List Addr) (ps : List Fnc), FncsAt K H as ps → TqAll K H (as.map V.ref) (ps.map fun s => .tuple [.tuple (s.1.map PyData.str), .tuple (s.2.map PyData.str)])
  | [], [], _ => .nil
  | [], _ :: _, h => by cases h.1
  | _ :: _, [], h => by cases h.1
  | a :: as, s :: ps, h => by
    obtain ⟨x, y, h1, h2, h3⟩ := h.2 0 a s rfl rfl
    exact .cons (.tup h1 (.cons (.tup h2 (tq_strs s.1)) (.cons (.tup h3 (tq_strs s.2)) .nil))) (tq_fncs as ps ⟨Nat.succ.inj h.1, fun i b t q1 q2 => h.2 (i + 1) b t q1 q2⟩)
theorem atG {α : Type} {xs : List α} {i : Int} {j : Nat} {x : α} (hi : i = (j : Int)) (h : xs[j]? = some x) : atI xs i = some x := by
  subst hi
  have hj := (List.getElem?_eq_some_iff.mp h).1
  simp [atI, ixN, hj]
  exact (List.getElem?_eq_some_iff.mp h).2
def ifD (nd : Nd) : PyData := .tuple [.tuple [.str "i", .str "j"], .tuple [.str "p", .str "q"], prD (faceO nd).prof]
theorem eqv_pr : ∀ nd ∈ needs8, PyData.eqv (prD (faceO nd).prof) (prD (faceO nd).prof) = true ∧ (prD (faceO nd).prof).depth ≤ 16 ∧ PyData.eqv (ifD nd) (ifD nd) = true ∧ (ifD nd).depth ≤ 16 := by decide +kernel
def letS : Str := "abcdefghijklmnopqrstuvwxyz"
theorem let_at : ∀ k ∈ List.range 24, letS.cps.toList[k]? = some (97 + k) := by decide +kernel
theorem rowsL_len : ∀ way ∈ [0, 1, 2], (∀ r ∈ rowsL way, r.length ≤ 20) ∧ (rowsL way).length = 6 := by decide +kernel
theorem ne_V {x y : V} (h : x = y) {A B : Prop} (q : B) : if (!decide (x = y)) = true then A else B := by
  rw [decide_eq_true h]
  exact iteF q
section
variable {P : Program} {w : World} {K : PySem.W.Frag} {mg : Str → Option Value} {base : Heap} {CR C CI CC : Addr}
abbrev nL : List Str := ["script", "feed", "text", "needs", "interfaces", "level", "name", "below", "way", "rows", "count", "found", "row"]
theorem scL : FnScope nL ["script"] (defScope sLaw) := ⟨rfl, rfl, rfl, by decide +kernel, rfl, by decide +kernel, by decide +kernel⟩
theorem ok_law {f fF fT fR fW fN fP fCD gI pI gp pp : Addr} {fd fdF fdT fdR fdW fdN fdP fdCD fdI : FuncData} {mc : Value} (F : Fun K "law" "law" sLaw f fd) (zl : mg "len" = none) (mrange : mg "range" = none)
    (GF : FnOk P w K mg base CX0 1 fF fdF ["script", "k"] (spFeed K)) (mF : mg "_law_feed" = some (.ref fF)) (kF : PySem.W.keepIn K (.ref fF) = true) (bF : Binds K fdF ["script", "k"] [])
    (GT : FnOk P w K mg base CX0 1 fT fdT ["feed", "size"] spTakeL) (mT : mg "_law_take" = some (.ref fT)) (kT : PySem.W.keepIn K (.ref fT) = true) (bT : Binds K fdT ["feed", "size"] [])
    (GR : FnOk P w K mg base CX0 3 fR fdR ["feed"] (spGround K)) (mR : mg "_law_ground" = some (.ref fR)) (kR : PySem.W.keepIn K (.ref fR) = true) (bR : Binds K fdR ["feed"] [])
    (GW : FnOk P w K mg base CX0 1 fW fdW ["way"] spRowsL) (mW : mg "_law_rows" = some (.ref fW)) (kW : PySem.W.keepIn K (.ref fW) = true) (bW : Binds K fdW ["way"] [])
    (GN : FnOk P w K mg base CX0 2 fN fdN ["way", "needs"] (spNeeds K)) (mN : mg "_law_needs" = some (.ref fN)) (kN : PySem.W.keepIn K (.ref fN) = true) (bN : Binds K fdN ["way", "needs"] [])
    (GP : FnOk P w K mg base CX0 1 fP fdP ["needs"] (spProfL K)) (mP : mg "_law_profile" = some (.ref fP)) (kP : PySem.W.keepIn K (.ref fP) = true) (bP : Binds K fdP ["needs"] [])
    (GCD : FnOk P w K mg base CX0 7 fCD fdCD ["diagram", "interfaces"] (spCD K C CC)) (mCD : mg "compile_diagram" = some (.ref fCD)) (kCD : PySem.W.keepIn K (.ref fCD) = true) (bCD : Binds K fdCD ["diagram", "interfaces"] [])
    (mD : mg "Diagram" = some (.ref C)) (cr : CRead K C mc) (cm : CMet K C mc "parse" pp gp) (G : FnR P w K mg base (L2.CX P w) 6 gp (spParse K CR C CI))
    (TC : CmC K CC) (po : PropOf K CC "interface" pI gI) (GI : FnOk P w K mg base CX0 1 gI fdI ["self"] (spCIf K CC)) (bI : Binds K fdI ["self"] []) : FnG P w K mg base CX0 8 f fd ["script"] (spLaw K) := by
  refine fun_okG F scL (fun vs H Q E h => ?_) (fun cdv A outer s H vs Q E hg hr h => ?_)
  · obtain ⟨a, ns, rfl, _⟩ := h
    rfl
  obtain ⟨a, ns, rfl, hS, hlen, k⟩ := h
  have hu := hr.units
  have hu16 := Nat.lt_of_le_of_lt (Nat.add_le_add_left (show 16 ≤ 64 by decide) _) hu
  refine ⟨_, (pss_cons (ps_set (i := 1) scL.nd rfl (.inl rfl) (pe_call GF (hr.mono (by decide)) rfl mF kF bF .nil pass0 (pa_cons (pv 0) (pa_cons pe_int pa_nil))))
    (pss_cons (ps_asg (pe_call GR (hr.mono (by decide)) rfl mR kR bR .nil pass0 (pa_cons (pv 1) pa_nil)) (pg_unl (by rfl) (pgs_cons (pg_name (i := 2) scL.nd rfl (.inl rfl)) (pgs_cons (pg_name (i := 3) scL.nd rfl (.inl rfl)) pgs_nil))))
    (pss_cons (ps_set (i := 4) scL.nd rfl (.inl rfl) pe_dnewK)
    (pss_cons (ps_for PassesOwn.never rfl (pi_range1 rfl mrange (pa_cons pe_int pa_nil)) (pg_name (i := 5) scL.nd rfl (.inl rfl))
    (pss_cons (ps_set (i := 6) scL.nd rfl (.inl rfl) (pe_ix ix_str pe_str (pv 5) (fun _ _ => rfl)))
    (pss_join (ps_if (pt_cmpR op_gt (pv 5) pe_int (nomark _)) (pss_cons (ps_set (i := 7) scL.nd rfl (.inl rfl) (pe_ix ix_str pe_str (pe_op op_sub (pv 5) pe_int) (fun _ _ => rfl)))
    (pss_cons (ps_set (i := 8) scL.nd rfl (.inl rfl) (pe_call GT (hr.mono (by decide)) rfl mT kT bT .nil pass0 (pa_cons (pv 1) (pa_cons pe_int pa_nil))))
    (pss_cons (ps_set (i := 9) scL.nd rfl (.inl rfl) (pe_lst (pa_cons (pe_op op_add_str (pe_op op_add_str pe_str (pv 6)) pe_str) (pa_cons (pe_op op_add_str pe_str (pv 7)) (pa_cons (pe_op op_add_str pe_str (pv 7)) pa_nil)))))
    (pss_cons (ps_set (i := 2) scL.nd rfl (.inl rfl) (pe_join pe_str (pe_op op_cat (pe_op op_cat (pv 9) (pe_lc (own := [("row", 12)]) (g := (gName 12)) rfl scL.nd (pi_list (pe_call GW (hr.mono (by decide)) rfl mW kW bW .nil pass0 (pa_cons (pv 8) pa_nil))) (blkOk_by (own := [("row", 12)]) (N := nL) (sc := defScope sLaw) (by decide +kernel)) (fun _ _ _ _ _ => by exact (pg_name (i := 12) scL.nd rfl (Or.inl rfl))) (fun _ _ _ _ _ => pts_nil)
      (fun _ _ _ _ _ => by exact (pe_op op_add_str pe_str (pv 12))))) (pe_lst (pa_cons pe_str pa_nil)))))
    (pss_cons (ps_set (i := 10) scL.nd rfl (.inl rfl) (pe_op op_mul pe_int (pe_callB call_len_seq (by rfl) zl PySem.boot_len (pa_cons (pe_call GP (hr.mono (by decide)) rfl mP kP bP .nil pass0 (pa_cons (pv 3) pa_nil)) pa_nil))))
    (pss_one (ps_set (i := 3) scL.nd rfl (.inl rfl) (pe_call GN (hr.mono (by decide)) rfl mN kN bN .nil pass0 (pa_cons (pv 8) (pa_cons (pv 3) pa_nil)))))))))) pss_nil)
    (pss_cons (ps_set (i := 11) scL.nd rfl (.inl rfl) (pe_call GCD hr rfl mCD kCD bCD .nil pass0 (pa_cons (pe_cmeth (pe_glob (v := .ref C) rfl mD rfl) cr cm G (hr.mono (by decide)) pass0x (pa_cons (pv 2) pa_nil)) (pa_cons (pv 4) pa_nil))))
    (pss_cons (ps_if (PW.pt (pw_or (pt_cmpR (op_neTq hu16) (pe_fld (pv 11) rfl) (pe_call GP (hr.mono (by decide)) rfl mP kP bP .nil pass0 (pa_cons (pv 3) pa_nil)) (nomark _)) (pw_or1 (pt_cmpR (op_neTq hu16) (pe_prop (pv 11) TC.cl po GI (hr.mono (by decide)) bI .nil pass0 rfl) (pe_tup (pa_cons (pe_tup (pa_cons pe_str (pa_cons pe_str pa_nil))) (pa_cons (pe_tup (pa_cons pe_str (pa_cons pe_str pa_nil))) (pa_cons (pe_fld (pv 11) rfl) pa_nil)))) (nomark _))))) (pss_one (ps_ret pe_bl)) pss_nil)
    (pss_cons (ps_if (PW.pt (pw_and (pt_cmpR op_gt (pv 5) pe_int (nomark _)) (pw_and1 (PW.pt (pw_or (pt_cmpR op_ne (pe_callB call_len_seq (by rfl) zl PySem.boot_len (pa_cons (pe_ix ix_tup (pe_fld (pv 11) rfl) pe_int (fun _ _ => rfl)) pa_nil)) (pv 10) (nomark _)) (pw_or1 (pt_cmpR op_ne (pe_callB call_len_seq (by rfl) zl PySem.boot_len (pa_cons (pe_ix ix_tup (pe_fld (pv 11) rfl) pe_int (fun _ _ => rfl)) pa_nil)) pe_int (nomark _)))))))) (pss_one (ps_ret pe_bl)) pss_nil)
    (pss_cons (ps_if (pt_cmpR op_ne (pe_callB call_len_seq (by rfl) zl PySem.boot_len (pa_cons (pe_fld (pv 11) rfl) pa_nil)) (pe_callB call_len_seq (by rfl) zl PySem.boot_len (pa_cons (pe_fld (pv 11) rfl) pa_nil)) (nomark _)) (pss_one (ps_ret pe_bl)) pss_nil)
    (pss_one (ps_set (i := 4) scL.nd rfl (.inl rfl) (pe_disp (pps_cons (pv 6) (pe_prop (pv 11) TC.cl po GI (hr.mono (by decide)) bI .nil pass0 rfl) pps_nil) (by rfl) (by rfl) (fun z => by cases z) (by decide)))))))))))
    (pss_one (ps_ret pe_bl)))))), ?_⟩
  have lN : (("\n" : Str)).length = 1 := by decide +kernel
  refine ⟨_, rfl, a, ns, 0, rfl, hS, by omega, by decide, by decide, fun p H1 s1 f1 hp => ?_⟩
  refine ⟨_, rfl, p, rfl, f1, fun t l nd H2 x2 f2 ht hnd h8 => ⟨t, _, rfl, .of ht, rfl, _, _, rfl, _, _, rfl, rfl, fun di hdi => ?_⟩⟩
  refine ⟨24, rfl, by decide, by decide, ?_⟩
  refine for_range (lo := 0) (n := 24) (fun i σ H' => ∃ (t : Str) (l di : Addr) (nd : Nd) (fi : Str → Option Fc) (u5 u6 u7 u8 u9 u10 u11 : Option V), σ = [some (.ref a), some (.ref p), some (.str t), some (.ref l), some (.ref di), u5, u6, u7, u8, u9, u10, u11, none] ∧ Fd H' p ∧ NdAt H' l nd ∧ nd ∈ needs8 ∧ InterAt K H' di fi ∧ (i = 0 → t = Txt.join "\n" (groundRows nd)) ∧ (0 < i → fi (letter (i - 1)) = some (faceO nd)))
    ⟨_, l, di, nd, fun _ => none, _, _, _, _, _, _, _, rfl, f2.same (upd_new hdi), hnd.same (upd_new hdi), h8, ⟨[], upd_same, fun b f e => by cases e⟩, fun _ => rfl, fun z => absurd z (Nat.lt_irrefl 0)⟩ ?turn1 ?done1
  case done1 =>
    rintro σ H' _
    exact k H'
  clear hS s1 f1 x2 f2 ht hnd h8 hp
  rintro i σ H3 hi ⟨t, l, di, nd, fi, u5, u6, u7, u8, u9, u10, u11, rfl, f3, hnd, h8, hint, h0, h1⟩
  have hi24 : i ∈ List.range 24 := List.mem_range.mpr hi
  obtain ⟨n1, n2, n3⟩ := letters_no i hi24
  refine ⟨_, rfl, letS, 0 + (i : Int), _, rfl, rfl, big (by decide +kernel), atG (j := i) (Int.zero_add _) (let_at i hi24), ?_⟩
  rw [show V.str ⟨#[97 + i]⟩ = V.str (letter i) from rfl]
  refine ⟨fun σ H' => ∃ (l : Addr) (nd : Nd) (n : Str) (ps : List (Str × Str)) (ws : List (Port × Port)) (order : List Call) (r : Reach) (u7 u8 u9 u10 : Option V), σ = [some (.ref a), some (.ref p), some (.str (Txt.join "\n" (rowsT n ["i", "j"] ["p", "q"] ps ws))), some (.ref l), some (.ref di), some (.int (0 + (i : Int))), some (.str (letter i)), u7, u8, u9, u10, u11, none] ∧
      Fd H' p ∧ NdAt H' l nd ∧ nd ∈ needs8 ∧ InterAt K H' di fi ∧ KV.VD n ["i", "j"] ["p", "q"] ps ws ∧ wiresOf ps ["p", "q"] ws = ws ∧ CdOk ["i", "j"] ["p", "q"] ps ws fi order r ∧ profileOf ["p", "q"] ws r = (faceO nd).prof ∧ (0 < i → u10 = some (.int ((order.length : Nat) : Int)) ∧ (ws.filter fun w => !(decide (w.1.1.length = 0))).length = 4), ?_, ?_⟩
  · refine ⟨_, rfl, _, _, rfl, rfl, _, rfl, ?_⟩
    by_cases hi0 : i = 0
    · subst hi0
      rw [decide_eq_false (show ¬ ((0 : Int) + ((0 : Nat) : Int) > 0) by decide)]
      obtain ⟨order, r, c1, c2⟩ := cd_ground h8 (fi := fi)
      refine iteF ⟨l, nd, "a", groundPs, groundWs nd, order, r, u7, u8, u9, u10, ?_, f3, hnd, h8, hint, vd_ground h8, wires_ground h8, c1, c2, fun z => absurd z (Nat.lt_irrefl 0)⟩
      rw [h0 rfl, rows_ground nd h8]
      rfl
    · have hip : 0 < i := Nat.pos_of_ne_zero hi0
      rw [decide_eq_true (show (0 : Int) + (i : Int) > 0 by omega)]
      have hj24 : i - 1 ∈ List.range 24 := List.mem_range.mpr (by omega)
      obtain ⟨m1, m2, m3⟩ := letters_no (i - 1) hj24
      refine iteT ⟨_, rfl, _, _, rfl, rfl, letS, 0 + (i : Int) - 1, _, rfl, rfl, big (by decide +kernel), atG (j := i - 1) (show (0 : Int) + (i : Int) - 1 = ((i - 1 : Nat) : Int) by omega) (let_at (i - 1) hj24), ?_⟩
      rw [show V.str ⟨#[97 + (i - 1)]⟩ = V.str (letter (i - 1)) from rfl]
      refine ⟨_, rfl, p, 3, rfl, f3, by decide, by decide, fun wz H4 x4 f4 w0 w1 => ?_⟩
      obtain ⟨way, rfl⟩ : ∃ way : Nat, wz = (way : Int) := ⟨wz.toNat, by omega⟩
      have hw : way ∈ [0, 1, 2] := by
        have : way < 3 := by omega
        simp only [List.mem_cons, List.not_mem_nil, or_false]
        omega
      have hnd4 := hnd.X f3 x4
      have hint4 := hint.X f3 x4
      -- rows
      have lt : ∀ {x y : Str} {c d : Nat}, x.length ≤ c → y.length ≤ d → c + d ≤ 100000 → x.length + y.length ≤ sizeLine := fun h1 h2 h3 => big (by omega)
      have la : (letter i).length ≤ 1 := Nat.le_of_eq n2
      have lb : (letter (i - 1)).length ≤ 1 := Nat.le_of_eq m2
      have lc : (("block " : Str) ++ letter i).length ≤ 10 := by
        rw [sl, show ("block " : Str).length = 6 by decide +kernel]
        omega
      refine ⟨_, rfl, _, _, rfl, rfl, lt (c := 20) (by decide +kernel) la (by decide), _, _, rfl, rfl, lt (d := 20) lc (by decide +kernel) (by decide), _, rfl, _, _, rfl, rfl, lt (c := 20) (by decide +kernel) lb (by decide), _, rfl, _, _, rfl, rfl, lt (c := 20) (by decide +kernel) lb (by decide), small1 (by show 3 ≤ 8; decide), fun r1 hr1 => ?_⟩
      generalize hx1 : HO.lst [V.str ((("block " : Str) ++ letter i) ++ "(i j; p q)"), V.str (("  part one = " : Str) ++ letter (i - 1)), V.str (("  part two = " : Str) ++ letter (i - 1))] = o1
      have e1 := upd_same (H := H4) (a := r1) (o := o1)
      have s5 := upd_new (o := o1) hr1
      generalize upd H4 r1 o1 = H5 at e1 s5 ⊢
      rw [← hx1] at e1
      clear hx1
      refine ⟨⟨_, rfl⟩, _, rfl, _, rfl, way, rfl, hw, fun pr H6 s6 e6 => ⟨pr, rfl, ⟨_, .of e6⟩, fun D hD => ?_⟩⟩
      obtain ⟨rl1, rl2⟩ := rowsL_len way hw
      refine out_it (walk_list (xs := (rowsL way).map V.str)) (fun m H' => Same H6 H' ∧ H' D = some (.lst (((rowsL way).take m).map fun r => V.str (("  " : Str) ++ r)))) ⟨upd_new hD, upd_same⟩ (fun m H' _ q => .of (q.1 _ _ e6)) ?_ ?_
      · rintro m x H7 H8 hm ⟨s8, e8⟩ ⟨rfl, hx⟩
        rw [List.getElem?_map] at hx
        obtain ⟨rw', hx1, rfl⟩ := Option.map_eq_some_iff.mp hx
        refine ⟨rfl, _, rfl, _, _, rfl, rfl, lt (c := 20) (d := 20) (by decide +kernel) (rl1 _ (List.mem_of_getElem? hx1)) (by decide), _, e8, lt1 ?_, same_put s8 hD, ?_⟩
        · rw [List.length_map, List.length_take]
          omega
        · rw [upd_same, tk1 hx1, List.map_append]
          rfl
      rintro H8 ⟨s8, e8⟩
      rw [List.length_map, List.take_length] at e8
      have e18 := s8 _ _ (s6 _ _ e1)
      refine ⟨r1, D, _, _, rfl, rfl, e18, e8, big (by rw [List.length_map, rl2]; show 3 + 6 ≤ 100000; decide), fun r2 hr2 => ?_⟩
      generalize hx2 : HO.lst ([V.str ((("block " : Str) ++ letter i) ++ "(i j; p q)"), V.str (("  part one = " : Str) ++ letter (i - 1)), V.str (("  part two = " : Str) ++ letter (i - 1))] ++ (rowsL way).map fun r => V.str (("  " : Str) ++ r)) = o2
      have e9 := upd_same (H := H8) (a := r2) (o := o2)
      have s9 := upd_new (o := o2) hr2
      generalize upd H8 r2 o2 = H9 at e9 s9 ⊢
      rw [← hx2] at e9
      clear hx2
      refine ⟨small1 (by show 1 ≤ 8; decide), fun r3 hr3 => ?_⟩
      have e10 := upd_same (H := H9) (a := r3) (o := HO.lst [V.str "end"])
      have s10 := upd_new (o := HO.lst [V.str "end"]) hr3
      generalize upd H9 r3 (HO.lst [V.str "end"]) = H10 at e10 s10 ⊢
      refine ⟨r2, r3, _, _, rfl, rfl, s10 _ _ e9, e10, big (by rw [List.length_append, List.length_map, rl2]; show 3 + 6 + 1 ≤ 100000; decide), fun r4 hr4 => ?_⟩
      have etx : ([V.str ((("block " : Str) ++ letter i) ++ "(i j; p q)"), V.str (("  part one = " : Str) ++ letter (i - 1)), V.str (("  part two = " : Str) ++ letter (i - 1))] ++ (rowsL way).map fun r => V.str (("  " : Str) ++ r)) ++ [V.str "end"] = (rowsT (letter i) ["i", "j"] ["p", "q"] [("one", letter (i - 1)), ("two", letter (i - 1))] (wsOf way)).map V.str := by
        rw [← rows_level (letter i) (letter (i - 1)) hw, List.map_append, List.map_append, List.map_map]
        rfl
      rw [etx]
      have VV := vd_level (n := letter i) (b := letter (i - 1)) (way := way) n3 (nm1_letters _ hj24) hw
      obtain ⟨w1', w2'⟩ := rows_le VV (List.Perm.refl _)
      obtain ⟨w3', w4'⟩ := text_le VV (List.Perm.refl _)
      generalize hrs : rowsT (letter i) ["i", "j"] ["p", "q"] [("one", letter (i - 1)), ("two", letter (i - 1))] (wsOf way) = rs at w1' w2' w3' w4' ⊢
      have e11 := upd_same (H := H10) (a := r4) (o := HO.lst (rs.map V.str))
      have s11 := upd_new (o := HO.lst (rs.map V.str)) hr4
      generalize upd H10 r4 (HO.lst (rs.map V.str)) = H11 at e11 s11 ⊢
      have s411 : Same H4 H11 := s5.trans (s6.trans (s8.trans (s9.trans (s10.trans s11))))
      refine ⟨"\n", r4, rs, rfl, rfl, .inl (.of e11), by rw [lN]; exact Nat.le_trans (Nat.add_le_add w4' (Nat.mul_le_mul_right 1 w2')) (by decide), ?_⟩
      clear e1 e6 e8 e18 e9 e10 e11
      have hnd11 := hnd4.same s411
      refine ⟨_, rfl, l, nd, rfl, h8, hnd11, fun q H12 s12 tq ⟨xs, hq, hxl⟩ => ⟨q, xs, rfl, .inr (.of hq), _, _, rfl, rfl, .inl ⟨by decide, by decide⟩, ?_⟩⟩
      refine ⟨_, rfl, _, rfl, way, l, nd, rfl, hw, h8, hnd11.same s12, fun l2 H13 s13 hn13 => ?_⟩
      have s413 := s411.trans (s12.trans s13)
      obtain ⟨order, r, c1, c2, c3, c4, c5⟩ := cd_level hw h8 m1 (by omega) (h1 hip)
      refine ⟨l2, nextN way nd, letter i, _, _, order, r, some (.str (letter (i - 1))), some (.int (way : Int)), some (.ref r1), some (.int ((order.length : Nat) : Int)), ?_, f4.same s413, hn13, c5, hint4.same s413, VV, wires_level hw, c1, c2, fun _ => ⟨rfl, c4⟩⟩
      rw [hrs, hxl, c3]
      rfl
  rintro σ H4 ⟨l, nd, n, ps, ws, order, r, u7, u8, u9, u10, rfl, f4, hnd, h8, hint, VV, hws, cok, hpf, hcnt⟩
  obtain ⟨q1, q2, q3, q4⟩ := eqv_pr nd h8
  refine ⟨rfl, _, rfl, ?_⟩
  dsimp only [tNil, List.append_nil]
  refine parse_sp VV hws fun y H5 s5 hy hD => ?_
  refine ⟨_, rfl, y, di, n, _, _, ps, ws, fi, order, r, rfl, hD, hint.same s5, cok, fun z H6 s6 cp => ?_⟩
  obtain ⟨dz, ii, oo, pr, ste, en, e1, e2, as, xs1, xs2, xs3, hz, hii, hoo, hpr, hfn, hst, hs1, hen, he1, hx2, he2, hx3⟩ := cp
  rw [hpf] at hfn hs1
  have s46 := s5.trans s6
  have hnd6 := hnd.same s46
  refine ⟨_, rfl, z, CC, dz, _, _, rfl, hz, TC.cl, TC.nP, rfl, _, rfl, l, nd, rfl, h8, hnd6, fun pv1 H7 s7 tq1 _ => ?_⟩
  have tqp : ∀ {H' : Hp}, Same H6 H' → Tq K H' (.ref pr) (prD (faceO nd).prof) := fun s => .tup (.of (s _ _ hpr)) (tq_fncs as _ (hfn.same s))
  refine ⟨_, _, tqp s7, tq1, q2, _, rfl, ?_⟩
  rw [q1]
  refine iteF ⟨_, rfl, z, dz, _, rfl, s7 _ _ hz, z, dz, _, _, _, _, _, rfl, s7 _ _ hz, fun t8 H8 s8 ht8 => ?_⟩
  have s68 := s7.trans s8
  refine ⟨small1 (by show 2 ≤ 8; decide), fun t9 ht9 => ⟨small1 (by show 2 ≤ 8; decide), fun t10 ht10 => ?_⟩⟩
  have s9 := upd_new (o := HO.tup [V.str "i", V.str "j"]) ht9
  have g9 := upd_same (H := H8) (a := t9) (o := HO.tup [V.str "i", V.str "j"])
  generalize upd H8 t9 (HO.tup [V.str "i", V.str "j"]) = H9 at s9 g9 ht10 ⊢
  have s10 := upd_new (o := HO.tup [V.str "p", V.str "q"]) ht10
  have g10 := upd_same (H := H9) (a := t10) (o := HO.tup [V.str "p", V.str "q"])
  generalize upd H9 t10 (HO.tup [V.str "p", V.str "q"]) = H10 at s10 g10 ⊢
  have s610 := s68.trans (s9.trans s10)
  refine ⟨_, rfl, z, CC, dz, _, _, rfl, s610 _ _ hz, TC.cl, TC.nP, rfl, small1 (by show 3 ≤ 8; decide), fun t11 ht11 => ?_⟩
  have s11 := upd_new (o := HO.tup [V.ref t9, V.ref t10, V.ref pr]) ht11
  have g11 := upd_same (H := H10) (a := t11) (o := HO.tup [V.ref t9, V.ref t10, V.ref pr])
  generalize upd H10 t11 (HO.tup [V.ref t9, V.ref t10, V.ref pr]) = H11 at s11 g11 ⊢
  have s811 := s9.trans (s10.trans s11)
  have s611 := s68.trans s811
  refine ⟨ifD nd, ifD nd, .tup (.of (s811 _ _ ht8)) (.cons (.tup (ixT_same s611 hii).sq (tq_strs [("i" : Str), "j"])) (.cons (.tup (ixT_same s611 hoo).sq (tq_strs [("p" : Str), "q"])) (.cons (tqp s611) .nil))),
    .tup (.of g11) (.cons (.tup (.of (s11 _ _ (s10 _ _ g9))) (tq_strs [("i" : Str), "j"])) (.cons (.tup (.of (s11 _ _ g10)) (tq_strs [("p" : Str), "q"])) (.cons (tqp s611) .nil))), q4, _, rfl, ?_⟩
  rw [q3]
  refine iteF ⟨_, rfl, _, _, rfl, rfl, _, rfl, ?_⟩
  have hz11 := s611 _ _ hz
  have hen11 := s611 _ _ hen
  by_cases hip : 0 < i
  rotate_left
  rw [decide_eq_false (show ¬ (0 : Int) + (i : Int) > 0 by omega)]
  refine iteF ?_
  rotate_left
  rw [decide_eq_true (show (0 : Int) + (i : Int) > 0 by omega)]
  obtain ⟨rfl, hf4⟩ := hcnt hip
  refine iteT ⟨_, rfl, z, CC, dz, _, _, rfl, hz11, TC.cl, TC.nE, rfl, en, _, 0, _, rfl, rfl, .of hen11, at_of (j := 0) rfl rfl, e1, xs2, rfl, .inr (.of (s611 _ _ he1)), _, rfl, rfl, _, rfl, ne_V (by rw [hx2]) ?_⟩
  refine ⟨_, rfl, z, CC, dz, _, _, rfl, hz11, TC.cl, TC.nE, rfl, en, _, 1, _, rfl, rfl, .of hen11, at_of (j := 1) rfl rfl, e2, xs3, rfl, .inr (.of (s611 _ _ he2)), rfl, _, rfl, ne_V (by rw [hx3, hf4]; rfl) ?_⟩
  all_goals
    refine ⟨_, rfl, z, CC, dz, _, _, rfl, hz11, TC.cl, TC.nS, rfl, ste, xs1, rfl, .inr (.of (s611 _ _ hst)), _, rfl, z, CC, dz, _, _, rfl, hz11, TC.cl, TC.nP, rfl, pr, _, rfl, .inr (.of (s611 _ _ hpr)), rfl, _, rfl, ne_V (by rw [hs1, List.length_map, hfn.1]) ?_⟩
    refine fun d hd => ⟨_, rfl, _, rfl, z, dz, _, rfl, (upd_new hd) _ _ hz11, z, dz, _, _, _, _, _, rfl, (upd_new hd) _ _ hz11, fun t12 H12 s12 ht12 => ⟨s12 _ _ upd_same, [(Sum.inr (letter i), .ref t12)], rfl, (by show 1 ≤ 15; decide), ?_⟩⟩
    have sF : Same H11 (upd H12 d (.dK (mergeK [] [(Sum.inr (letter i), V.ref t12)]))) := same_put ((upd_new hd).trans s12) hd
    have g12 : upd H12 d (.dK (mergeK [] [(Sum.inr (letter i), V.ref t12)])) t12 = some (.tup [.ref ii, .ref oo, .ref pr]) := (upd_ne (fun e => by
      rw [e, s12 _ _ upd_same] at ht12
      cases ht12)).trans ht12
    have gd := upd_same (H := H12) (a := d) (o := HO.dK (mergeK [] [(Sum.inr (letter i), V.ref t12)]))
    generalize upd H12 d (.dK (mergeK [] [(Sum.inr (letter i), V.ref t12)])) = HF at sF g12 gd ⊢
    have sAll := s46.trans (s611.trans sF)
    have s6F := s611.trans sF
    refine ⟨_, l, d, nd, fun b => if b = letter i then some (faceO nd) else none, _, _, _, _, _, _, _, rfl, f4.same sAll, hnd.same sAll, h8, ⟨_, gd, fun b g e => ?_⟩, fun z => absurd z (Nat.succ_ne_zero i), fun _ => if_pos rfl⟩
    dsimp only at e
    by_cases eb : b = letter i
    · rw [if_pos eb] at e
      cases e
      subst eb
      refine ⟨t12, ?_, ⟨ii, oo, pr, as, .of g12, (ixT_same s6F hii).sq, ixT_same s6F hoo, .of (s6F _ _ hpr), hfn.same s6F⟩, okI_O nd h8⟩
      simp [mergeK, putK, valV]
    · rw [if_neg eb] at e
      cases e
end
end K28
namespace K28
open PySem L2 Own StX ClX NdefX
theorem all_mk {w : World} {K : PySem.W.Frag} {h : Heap} {mg : Str → Option Value} {fa C B : Addr} (X : K.In h) (G : h.Ns mainGlobals mg) (hfa : mg "law" = some (.ref fa))
    {CR CI CP CC : Addr} {fNA : Addr} {odNA anNA : Option Addr} {slNA : Array (Option Value)} {ocNA kVNA dcNA pmNA cdNA ctNA : Value} {fDN : Addr} {odDN anDN : Option Addr} {slDN : Array (Option Value)} {ocDN kVDN dcDN pmDN cdDN ctDN : Value} {fRV : Addr} {odRV anRV : Option Addr} {slRV : Array (Option Value)} {ocRV kVRV dcRV pmRV cdRV ctRV : Value} {fRP : Addr} {odRP anRP : Option Addr} {slRP : Array (Option Value)} {ocRP kVRP dcRP pmRP cdRP ctRP : Value} {fIP : Addr} {odIP anIP : Option Addr} {slIP : Array (Option Value)} {ocIP kVIP dcIP pmIP cdIP ctIP : Value} {fHR : Addr} {odHR anHR : Option Addr} {slHR : Array (Option Value)} {ocHR kVHR dcHR pmHR cdHR ctHR : Value} {fRH : Addr} {odRH anRH : Option Addr} {slRH : Array (Option Value)} {ocRH kVRH dcRH pmRH cdRH ctRH : Value} {fOT : Addr} {odOT anOT : Option Addr} {slOT : Array (Option Value)} {ocOT kVOT dcOT pmOT cdOT ctOT : Value} {fRI : Addr} {odRI anRI : Option Addr} {slRI : Array (Option Value)} {ocRI kVRI dcRI pmRI cdRI ctRI : Value} {fTA : Addr} {odTA anTA : Option Addr} {slTA : Array (Option Value)} {ocTA kVTA dcTA pmTA cdTA ctTA : Value} {fTH : Addr} {odTH anTH : Option Addr} {slTH : Array (Option Value)} {ocTH kVTH dcTH pmTH cdTH ctTH : Value} {fTP : Addr} {odTP anTP : Option Addr} {slTP : Array (Option Value)} {ocTP kVTP dcTP pmTP cdTP ctTP : Value} {fTW : Addr} {odTW anTW : Option Addr} {slTW : Array (Option Value)} {ocTW kVTW dcTW pmTW cdTW ctTW : Value} {fPO : Addr} {odPO anPO : Option Addr} {slPO : Array (Option Value)} {ocPO kVPO dcPO pmPO cdPO ctPO : Value} {fBI : Addr} {odBI anBI : Option Addr} {slBI : Array (Option Value)} {ocBI kVBI dcBI pmBI cdBI ctBI : Value} {fPA : Addr} {odPA anPA : Option Addr} {slPA : Array (Option Value)} {ocPA kVPA dcPA pmPA cdPA ctPA : Value} {pPA : Addr} {restPA : List Value} {fOF : Addr} {odOF anOF : Option Addr} {slOF : Array (Option Value)} {ocOF kVOF dcOF pmOF cdOF ctOF : Value} {pOF : Addr} {restOF : List Value} {fIDQ ccDQ cdaDQ : Addr} {odIDQ anIDQ cldIDQ cddIDQ : Option Addr} {slIDQ cslIDQ ccsIDQ : Array (Option Value)} {ocIDQ dcIDQ pmIDQ ctIDQ clIDQ cclIDQ : Value} {vsIDQ : Array Value} {tfIDQ : Tok} {cdDDQ : ClassData} {fIPQ ccPQ cdaPQ : Addr} {odIPQ anIPQ cldIPQ cddIPQ : Option Addr} {slIPQ cslIPQ ccsIPQ : Array (Option Value)} {ocIPQ dcIPQ pmIPQ ctIPQ clIPQ cclIPQ : Value} {vsIPQ : Array Value} {tfIPQ : Tok} {cdDPQ : ClassData} {fPP : Addr} {odPP anPP : Option Addr} {slPP : Array (Option Value)} {ocPP kVPP dcPP pmPP cdPP ctPP : Value} {pPP : Addr} {restPP : List Value} {fPF pPF : Addr} {restPF : List Value} {odPF anPF : Option Addr} {slPF : Array (Option Value)} {ocPF kVPF dcPF pmPF cdPF ctPF : Value} {fCI_ : Addr} {odCI_ anCI_ : Option Addr} {slCI_ : Array (Option Value)} {ocCI_ kVCI_ dcCI_ pmCI_ cdCI_ ctCI_ : Value} {fCF pCF : Addr} {restCF : List Value} {odCF anCF : Option Addr} {slCF : Array (Option Value)} {ocCF kVCF dcCF pmCF cdCF ctCF : Value} {tv8 tv16 : Tok} {tkM tkD tkW tkL tkE : Tok} {dP dW dE : Addr} {esP : Array DictEntry} {nP nW nE : Nat} {ddW ddE : Option Addr} {slW slE : Array (Option Value)} {tW1 tW2 tE1 tE2 tE3 tE4 : Tok} {kk1 : Tok} {kk2 : Tok} {kk3 : Tok} {kk4 : Tok} {kk5 : Tok} {kk6 : Tok} {kk7 : Tok} {kk8 : Tok} {kk9 : Tok} {t1 x1 y1 : Addr} {m1 mx1 my1 : Nat} {dd1 dx1 dy1 : Option Addr} {s1 sx1 sy1 : Array (Option Value)} {ty1_0 : Tok} {t2 x2 y2 : Addr} {m2 mx2 my2 : Nat} {dd2 dx2 dy2 : Option Addr} {s2 sx2 sy2 : Array (Option Value)} {tx2_0 : Tok} {tx2_1 : Tok}{ty2_0 : Tok} {t3 x3 y3 : Addr} {m3 mx3 my3 : Nat} {dd3 dx3 dy3 : Option Addr} {s3 sx3 sy3 : Array (Option Value)} {tx3_0 : Tok} {tx3_1 : Tok}{ty3_0 : Tok} {t4 x4 y4 : Addr} {m4 mx4 my4 : Nat} {dd4 dx4 dy4 : Option Addr} {s4 sx4 sy4 : Array (Option Value)} {tx4_0 : Tok} {tx4_1 : Tok}{ty4_0 : Tok} {t5 x5 y5 : Addr} {m5 mx5 my5 : Nat} {dd5 dx5 dy5 : Option Addr} {s5 sx5 sy5 : Array (Option Value)} {tx5_0 : Tok} {tx5_1 : Tok}{ty5_0 : Tok} {t6 x6 y6 : Addr} {m6 mx6 my6 : Nat} {dd6 dx6 dy6 : Option Addr} {s6 sx6 sy6 : Array (Option Value)} {tx6_0 : Tok} {tx6_1 : Tok}{ty6_0 : Tok} {t7 x7 y7 : Addr} {m7 mx7 my7 : Nat} {dd7 dx7 dy7 : Option Addr} {s7 sx7 sy7 : Array (Option Value)} {tx7_0 : Tok} {tx7_1 : Tok} {tx7_2 : Tok}{ty7_0 : Tok} {t8 x8 y8 : Addr} {m8 mx8 my8 : Nat} {dd8 dx8 dy8 : Option Addr} {s8 sx8 sy8 : Array (Option Value)} {tx8_0 : Tok} {tx8_1 : Tok}{ty8_0 : Tok} {ty8_1 : Tok} {t9 x9 y9 : Addr} {m9 mx9 my9 : Nat} {dd9 dx9 dy9 : Option Addr} {s9 sx9 sy9 : Array (Option Value)} {tx9_0 : Tok}{ty9_0 : Tok} {BE NE : Addr} {nmE qE : Str} {bsE subE : List Value} {snE : List Str} {abE : Bool} {colE : Option Bool} {ddEE : Option Addr} {k0E k1E k2E k3E k5E : Option Value} {fER : Addr} {odER anER : Option Addr} {slER : Array (Option Value)} {ocER kVER dcER pmER cdER ctER : Value} {fPN : Addr} {odPN anPN : Option Addr} {slPN : Array (Option Value)} {ocPN kVPN dcPN pmPN cdPN ctPN : Value} {fIF : Addr} {odIF anIF : Option Addr} {slIF : Array (Option Value)} {ocIF kVIF dcIF pmIF cdIF ctIF : Value} {fSF : Addr} {odSF anSF : Option Addr} {slSF : Array (Option Value)} {ocSF kVSF dcSF pmSF cdSF ctSF : Value} {fSE : Addr} {odSE anSE : Option Addr} {slSE : Array (Option Value)} {ocSE kVSE dcSE pmSE cdSE ctSE : Value} {fCD : Addr} {odCD anCD : Option Addr} {slCD : Array (Option Value)} {ocCD kVCD dcCD pmCD cdCD ctCD : Value} {fPI : Addr} {odPI anPI : Option Addr} {slPI : Array (Option Value)} {ocPI kVPI dcPI pmPI cdPI ctPI : Value} {fBL : Addr} {odBL anBL : Option Addr} {slBL : Array (Option Value)} {ocBL kVBL dcBL pmBL cdBL ctBL : Value} {fCW : Addr} {odCW anCW : Option Addr} {slCW : Array (Option Value)} {ocCW kVCW dcCW pmCW cdCW ctCW : Value} {fLC : Addr} {odLC anLC : Option Addr} {slLC : Array (Option Value)} {ocLC kVLC dcLC pmLC cdLC ctLC : Value} {fCO : Addr} {odCO anCO : Option Addr} {slCO : Array (Option Value)} {ocCO kVCO dcCO pmCO cdCO ctCO : Value} {fOC : Addr} {odOC anOC : Option Addr} {slOC : Array (Option Value)} {ocOC kVOC dcOC pmOC cdOC ctOC : Value} {fFR : Addr} {odFR anFR : Option Addr} {slFR : Array (Option Value)} {ocFR kVFR dcFR pmFR cdFR ctFR : Value} {fIR : Addr} {odIR anIR : Option Addr} {slIR : Array (Option Value)} {ocIR kVIR dcIR pmIR cdIR ctIR : Value} {fMP : Addr} {odMP anMP : Option Addr} {slMP : Array (Option Value)} {ocMP kVMP dcMP pmMP cdMP ctMP : Value} {fMS : Addr} {odMS anMS : Option Addr} {slMS : Array (Option Value)} {ocMS kVMS dcMS pmMS cdMS ctMS : Value} {fFE : Addr} {odFE anFE : Option Addr} {slFE : Array (Option Value)} {ocFE kVFE dcFE pmFE cdFE ctFE : Value} {fTK : Addr} {odTK anTK : Option Addr} {slTK : Array (Option Value)} {ocTK kVTK dcTK pmTK cdTK ctTK : Value} {fPK : Addr} {odPK anPK : Option Addr} {slPK : Array (Option Value)} {ocPK kVPK dcPK pmPK cdPK ctPK : Value} {fLR : Addr} {odLR anLR : Option Addr} {slLR : Array (Option Value)} {ocLR kVLR dcLR pmLR cdLR ctLR : Value} {fLN : Addr} {odLN anLN : Option Addr} {slLN : Array (Option Value)} {ocLN kVLN dcLN pmLN cdLN ctLN : Value} {fLT : Addr} {odLT anLT : Option Addr} {slLT : Array (Option Value)} {ocLT kVLT dcLT pmLT cdLT ctLT : Value} {fLG : Addr} {odLG anLG : Option Addr} {slLG : Array (Option Value)} {ocLG kVLG dcLG pmLG cdLG ctLG : Value} {fLP : Addr} {odLP anLP : Option Addr} {slLP : Array (Option Value)} {ocLP kVLP dcLP pmLP cdLP ctLP : Value} {fLA : Addr} {odLA anLA : Option Addr} {slLA : Array (Option Value)} {ocLA kVLA dcLA pmLA cdLA ctLA : Value}
    (aC : PySem.W.nsIn K mainGlobals "Diagram" = some (some (.ref C)))
    (aB : PySem.W.nsIn K mainGlobals "Block" = some (some (.ref B)))
    (aCR : PySem.W.nsIn K mainGlobals "DiagramReader" = some (some (.ref CR)))
    (aCI : PySem.W.nsIn K mainGlobals "InvalidText" = some (some (.ref CI)))
    (aCP : PySem.W.nsIn K mainGlobals "Primitive" = some (some (.ref CP)))
    (aCC : PySem.W.nsIn K mainGlobals "Compiled" = some (some (.ref CC)))
    (aNA : PySem.W.nsIn K mainGlobals "is_name" = some (some (.ref fNA)))
    (lNA : K.lookup fNA = some ⟨ocNA, odNA, .func (PySem.W.fnOf "is_name" "is_name" (defArgs sName) (defBody sName) (defScope sName) .none kVNA dcNA pmNA anNA cdNA ctNA), slNA⟩)
    (cNA : PySem.W.codeIn K cdNA "is_name" = true)
    (kNA : PySem.W.keepIn K (.ref fNA) = true)
    (aDN : PySem.W.nsIn K mainGlobals "is_diagram_name" = some (some (.ref fDN)))
    (lDN : K.lookup fDN = some ⟨ocDN, odDN, .func (PySem.W.fnOf "is_diagram_name" "is_diagram_name" (defArgs sDN) (defBody sDN) (defScope sDN) .none kVDN dcDN pmDN anDN cdDN ctDN), slDN⟩)
    (cDN : PySem.W.codeIn K cdDN "is_diagram_name" = true)
    (kDN : PySem.W.keepIn K (.ref fDN) = true)
    (aRV : PySem.W.nsIn K mainGlobals "read_value" = some (some (.ref fRV)))
    (lRV : K.lookup fRV = some ⟨ocRV, odRV, .func (PySem.W.fnOf "read_value" "read_value" (defArgs sRV) (defBody sRV) (defScope sRV) .none kVRV dcRV pmRV anRV cdRV ctRV), slRV⟩)
    (cRV : PySem.W.codeIn K cdRV "read_value" = true)
    (kRV : PySem.W.keepIn K (.ref fRV) = true)
    (aRP : PySem.W.nsIn K mainGlobals "read_primitive" = some (some (.ref fRP)))
    (lRP : K.lookup fRP = some ⟨ocRP, odRP, .func (PySem.W.fnOf "read_primitive" "read_primitive" (defArgs sRP) (defBody sRP) (defScope sRP) .none kVRP dcRP pmRP anRP cdRP ctRP), slRP⟩)
    (cRP : PySem.W.codeIn K cdRP "read_primitive" = true)
    (kRP : PySem.W.keepIn K (.ref fRP) = true)
    (aIP : PySem.W.nsIn K mainGlobals "is_primitive" = some (some (.ref fIP)))
    (lIP : K.lookup fIP = some ⟨ocIP, odIP, .func (PySem.W.fnOf "is_primitive" "is_primitive" (defArgs sIP) (defBody sIP) (defScope sIP) .none kVIP dcIP pmIP anIP cdIP ctIP), slIP⟩)
    (cIP : PySem.W.codeIn K cdIP "is_primitive" = true)
    (kIP : PySem.W.keepIn K (.ref fIP) = true)
    (aHR : PySem.W.nsIn K mainGlobals "head_row" = some (some (.ref fHR)))
    (lHR : K.lookup fHR = some ⟨ocHR, odHR, .func (PySem.W.fnOf "head_row" "head_row" (defArgs sHead) (defBody sHead) (defScope sHead) .none kVHR dcHR pmHR anHR cdHR ctHR), slHR⟩)
    (cHR : PySem.W.codeIn K cdHR "head_row" = true)
    (kHR : PySem.W.keepIn K (.ref fHR) = true)
    (aRH : PySem.W.nsIn K mainGlobals "read_head" = some (some (.ref fRH)))
    (lRH : K.lookup fRH = some ⟨ocRH, odRH, .func (PySem.W.fnOf "read_head" "read_head" (defArgs sReadHead) (defBody sReadHead) (defScope sReadHead) .none kVRH dcRH pmRH anRH cdRH ctRH), slRH⟩)
    (cRH : PySem.W.codeIn K cdRH "read_head" = true)
    (kRH : PySem.W.keepIn K (.ref fRH) = true)
    (aOT : PySem.W.nsIn K mainGlobals "order_targets" = some (some (.ref fOT)))
    (lOT : K.lookup fOT = some ⟨ocOT, odOT, .func (PySem.W.fnOf "order_targets" "order_targets" (defArgs sOrder) (defBody sOrder) (defScope sOrder) .none kVOT dcOT pmOT anOT cdOT ctOT), slOT⟩)
    (cOT : PySem.W.codeIn K cdOT "order_targets" = true)
    (kOT : PySem.W.keepIn K (.ref fOT) = true)
    (aRI : PySem.W.findIn K (.ref CR) "__init__" = some (some (.ref fRI)))
    (iRI : PySem.W.isFn K (.ref fRI) = true)
    (lRI : K.lookup fRI = some ⟨ocRI, odRI, .func (PySem.W.fnOf "__init__" "DiagramReader.__init__" (defArgs sRI) (defBody sRI) (defScope sRI) .none kVRI dcRI pmRI anRI cdRI ctRI), slRI⟩)
    (cRI : PySem.W.codeIn K cdRI "DiagramReader.__init__" = true)
    (kRI : PySem.W.keepIn K (.ref fRI) = true)
    (aTA : PySem.W.findIn K (.ref CR) "take" = some (some (.ref fTA)))
    (iTA : PySem.W.isFn K (.ref fTA) = true)
    (lTA : K.lookup fTA = some ⟨ocTA, odTA, .func (PySem.W.fnOf "take" "DiagramReader.take" (defArgs sTake) (defBody sTake) (defScope sTake) .none kVTA dcTA pmTA anTA cdTA ctTA), slTA⟩)
    (cTA : PySem.W.codeIn K cdTA "DiagramReader.take" = true)
    (kTA : PySem.W.keepIn K (.ref fTA) = true)
    (aTH : PySem.W.findIn K (.ref CR) "_take_head" = some (some (.ref fTH)))
    (iTH : PySem.W.isFn K (.ref fTH) = true)
    (lTH : K.lookup fTH = some ⟨ocTH, odTH, .func (PySem.W.fnOf "_take_head" "DiagramReader._take_head" (defArgs sTakeHead) (defBody sTakeHead) (defScope sTakeHead) .none kVTH dcTH pmTH anTH cdTH ctTH), slTH⟩)
    (cTH : PySem.W.codeIn K cdTH "DiagramReader._take_head" = true)
    (kTH : PySem.W.keepIn K (.ref fTH) = true)
    (aTP : PySem.W.findIn K (.ref CR) "_take_part" = some (some (.ref fTP)))
    (iTP : PySem.W.isFn K (.ref fTP) = true)
    (lTP : K.lookup fTP = some ⟨ocTP, odTP, .func (PySem.W.fnOf "_take_part" "DiagramReader._take_part" (defArgs sTakePart) (defBody sTakePart) (defScope sTakePart) .none kVTP dcTP pmTP anTP cdTP ctTP), slTP⟩)
    (cTP : PySem.W.codeIn K cdTP "DiagramReader._take_part" = true)
    (kTP : PySem.W.keepIn K (.ref fTP) = true)
    (aTW : PySem.W.findIn K (.ref CR) "_take_wire" = some (some (.ref fTW)))
    (iTW : PySem.W.isFn K (.ref fTW) = true)
    (lTW : K.lookup fTW = some ⟨ocTW, odTW, .func (PySem.W.fnOf "_take_wire" "DiagramReader._take_wire" (defArgs sTakeWire) (defBody sTakeWire) (defScope sTakeWire) .none kVTW dcTW pmTW anTW cdTW ctTW), slTW⟩)
    (cTW : PySem.W.codeIn K cdTW "DiagramReader._take_wire" = true)
    (kTW : PySem.W.keepIn K (.ref fTW) = true)
    (aPO : PySem.W.findIn K (.ref CR) "_read_port" = some (some (.ref fPO)))
    (iPO : PySem.W.isFn K (.ref fPO) = true)
    (lPO : K.lookup fPO = some ⟨ocPO, odPO, .func (PySem.W.fnOf "_read_port" "DiagramReader._read_port" (defArgs sReadPort) (defBody sReadPort) (defScope sReadPort) .none kVPO dcPO pmPO anPO cdPO ctPO), slPO⟩)
    (cPO : PySem.W.codeIn K cdPO "DiagramReader._read_port" = true)
    (kPO : PySem.W.keepIn K (.ref fPO) = true)
    (aBI : PySem.W.findIn K (.ref B) "__init__" = some (some (.ref fBI)))
    (iBI : PySem.W.isFn K (.ref fBI) = true)
    (lBI : K.lookup fBI = some ⟨ocBI, odBI, .func (PySem.W.fnOf "__init__" "Block.__init__" (defArgs sBI) (defBody sBI) (defScope sBI) .none kVBI dcBI pmBI anBI cdBI ctBI), slBI⟩)
    (cBI : PySem.W.codeIn K cdBI "Block.__init__" = true)
    (kBI : PySem.W.keepIn K (.ref fBI) = true)
    (aPA : PySem.W.findCls K (.ref C) (.type "type") "parse" = some (.get (.builtin "classmethod.__get__") (.ref pPA) .none (.ref C)))
    (rPA : PySem.W.recIn K pPA "classmethod" = some (.ref fPA :: restPA))
    (iPA : PySem.W.fnIn K fPA = true)
    (lPA : K.lookup fPA = some ⟨ocPA, odPA, .func (PySem.W.fnOf "parse" "Diagram.parse" (defArgs sParse) (defBody sParse) (defScope sParse) .none kVPA dcPA pmPA anPA cdPA ctPA), slPA⟩)
    (cPA : PySem.W.codeIn K cdPA "Diagram.parse" = true)
    (kPA : PySem.W.keepIn K (.ref fPA) = true)
    (aOF : PySem.W.findCls K (.ref C) (.type "type") "of_reader" = some (.get (.builtin "classmethod.__get__") (.ref pOF) .none (.ref C)))
    (rOF : PySem.W.recIn K pOF "classmethod" = some (.ref fOF :: restOF))
    (iOF : PySem.W.fnIn K fOF = true)
    (lOF : K.lookup fOF = some ⟨ocOF, odOF, .func (PySem.W.fnOf "of_reader" "Diagram.of_reader" (defArgs sOfR) (defBody sOfR) (defScope sOfR) .none kVOF dcOF pmOF anOF cdOF ctOF), slOF⟩)
    (cOF : PySem.W.codeIn K cdOF "Diagram.of_reader" = true)
    (kOF : PySem.W.keepIn K (.ref fOF) = true)
    (aIDQ : PySem.W.findIn K (.ref C) "__init__" = some (some (.ref fIDQ)))
    (iIDQ : PySem.W.isFn K (.ref fIDQ) = true)
    (lIDQ : K.lookup fIDQ = some ⟨ocIDQ, odIDQ, .func (PySem.W.fnX "__init__" "Diagram.__init__" (defArgs sDI) (defBody sDI) (defScope sDI) [(("__class__" : Str), ccDQ)] .none .none dcIDQ pmIDQ anIDQ (.ref cdaDQ) ctIDQ), slIDQ⟩)
    (cIDQ : PySem.W.codeIn K (.ref cdaDQ) "Diagram.__init__" = true)
    (lcdDQ : K.lookup cdaDQ = some ⟨cclIDQ, cddIDQ, .fields vsIDQ, ccsIDQ⟩)
    (vcdDQ : vsIDQ[2]? = some (.str PySem.Challenge.pw_stepblocks_k28_whole_enormous_diagrams.main.file tfIDQ))
    (lccDQ : K.lookup ccDQ = some ⟨clIDQ, cldIDQ, .cell (some (.ref C)), cslIDQ⟩)
    (sbsDQ : PySem.W.mroIn K C (.ref C) = some true)
    (satDQ : PySem.W.ks_superIn K C C "__init__" = some (some (.ref fBI)))
    (sdcDQ : PySem.W.clsIn K C = some cdDDQ)
    (aIPQ : PySem.W.findIn K (.ref CP) "__init__" = some (some (.ref fIPQ)))
    (iIPQ : PySem.W.isFn K (.ref fIPQ) = true)
    (lIPQ : K.lookup fIPQ = some ⟨ocIPQ, odIPQ, .func (PySem.W.fnX "__init__" "Primitive.__init__" (defArgs sPIp) (defBody sPIp) (defScope sPIp) [(("__class__" : Str), ccPQ)] .none .none dcIPQ pmIPQ anIPQ (.ref cdaPQ) ctIPQ), slIPQ⟩)
    (cIPQ : PySem.W.codeIn K (.ref cdaPQ) "Primitive.__init__" = true)
    (lcdPQ : K.lookup cdaPQ = some ⟨cclIPQ, cddIPQ, .fields vsIPQ, ccsIPQ⟩)
    (vcdPQ : vsIPQ[2]? = some (.str PySem.Challenge.pw_stepblocks_k28_whole_enormous_diagrams.main.file tfIPQ))
    (lccPQ : K.lookup ccPQ = some ⟨clIPQ, cldIPQ, .cell (some (.ref CP)), cslIPQ⟩)
    (sbsPQ : PySem.W.mroIn K CP (.ref CP) = some true)
    (satPQ : PySem.W.ks_superIn K CP CP "__init__" = some (some (.ref fBI)))
    (sdcPQ : PySem.W.clsIn K CP = some cdDPQ)
    (tpa : PySem.W.nsIn K PySem.cStatics "thirdparty.any" = some none)
    (sty : PySem.W.typeIn K (.ref fBI) = some (.type "function"))
    (sfi : PySem.W.fnIn K fBI = true)
    (aPP : PySem.W.findCls K (.ref CP) (.type "type") "parse" = some (.get (.builtin "classmethod.__get__") (.ref pPP) .none (.ref CP)))
    (rPP : PySem.W.recIn K pPP "classmethod" = some (.ref fPP :: restPP))
    (iPP : PySem.W.fnIn K fPP = true)
    (lPP : K.lookup fPP = some ⟨ocPP, odPP, .func (PySem.W.fnOf "parse" "Primitive.parse" (defArgs sPPa) (defBody sPPa) (defScope sPPa) .none kVPP dcPP pmPP anPP cdPP ctPP), slPP⟩)
    (cPP : PySem.W.codeIn K cdPP "Primitive.parse" = true)
    (kPP : PySem.W.keepIn K (.ref fPP) = true)
    (aPF : PySem.W.findIn K (.ref CP) "interface" = some (some (.ref pPF)))
    (rPF : PySem.W.recIn K pPF "property" = some (.ref fPF :: restPF))
    (gPF : PySem.W.specialIn K (.ref pPF) "__get__" = some (some (.builtin "property.__get__")))
    (tPF : PySem.W.takesIn K (.ref pPF) = some true)
    (lPF : K.lookup fPF = some ⟨ocPF, odPF, .func (PySem.W.fnOf "interface" "Primitive.interface" (defArgs sPIf) (defBody sPIf) (defScope sPIf) .none kVPF dcPF pmPF anPF cdPF ctPF), slPF⟩)
    (cPF : PySem.W.codeIn K cdPF "Primitive.interface" = true)
    (kPF : PySem.W.keepIn K (.ref fPF) = true)
    (aCI_ : PySem.W.findIn K (.ref CC) "__init__" = some (some (.ref fCI_)))
    (iCI_ : PySem.W.isFn K (.ref fCI_) = true)
    (lCI_ : K.lookup fCI_ = some ⟨ocCI_, odCI_, .func (PySem.W.fnOf "__init__" "Compiled.__init__" (defArgs sCI) (defBody sCI) (defScope sCI) .none kVCI_ dcCI_ pmCI_ anCI_ cdCI_ ctCI_), slCI_⟩)
    (cCI_ : PySem.W.codeIn K cdCI_ "Compiled.__init__" = true)
    (kCI_ : PySem.W.keepIn K (.ref fCI_) = true)
    (aCF : PySem.W.findIn K (.ref CC) "interface" = some (some (.ref pCF)))
    (rCF : PySem.W.recIn K pCF "property" = some (.ref fCF :: restCF))
    (gCF : PySem.W.specialIn K (.ref pCF) "__get__" = some (some (.builtin "property.__get__")))
    (tCF : PySem.W.takesIn K (.ref pCF) = some true)
    (lCF : K.lookup fCF = some ⟨ocCF, odCF, .func (PySem.W.fnOf "interface" "Compiled.interface" (defArgs sCIf) (defBody sCIf) (defScope sCIf) .none kVCF dcCF pmCF anCF cdCF ctCF), slCF⟩)
    (cCF : PySem.W.codeIn K cdCF "Compiled.interface" = true)
    (kCF : PySem.W.keepIn K (.ref fCF) = true)
    (pg : PySem.W.plainGet K C Str.empty = true)
    (hd : PySem.W.hasDictIn K C = true)
    (po : PySem.W.plainOver K C = true)
    (sa : PySem.W.findIn K (.ref C) "__setattr__" = some (some (.builtin "object.__setattr__")))
    (mk : PySem.W.makesIn K C = true)
    (kc : PySem.W.keepIn K (.ref C) = true)
    (pgR : PySem.W.plainGet K CR Str.empty = true)
    (hdR : PySem.W.hasDictIn K CR = true)
    (poR : PySem.W.plainOver K CR = true)
    (saR : PySem.W.findIn K (.ref CR) "__setattr__" = some (some (.builtin "object.__setattr__")))
    (mkR : PySem.W.makesIn K CR = true)
    (kcR : PySem.W.keepIn K (.ref CR) = true)
    (pgP : PySem.W.plainGet K CP Str.empty = true)
    (hdP : PySem.W.hasDictIn K CP = true)
    (poP : PySem.W.plainOver K CP = true)
    (saP : PySem.W.findIn K (.ref CP) "__setattr__" = some (some (.builtin "object.__setattr__")))
    (mkP : PySem.W.makesIn K CP = true)
    (kcP : PySem.W.keepIn K (.ref CP) = true)
    (pgK : PySem.W.plainGet K CC Str.empty = true)
    (hdK : PySem.W.hasDictIn K CC = true)
    (poK : PySem.W.plainOver K CC = true)
    (saK : PySem.W.findIn K (.ref CC) "__setattr__" = some (some (.builtin "object.__setattr__")))
    (mkK : PySem.W.makesIn K CC = true)
    (kcK : PySem.W.keepIn K (.ref CC) = true)
    (rdC : PySem.W.readsIn K C (.type "type") = true)
    (gaC : PySem.W.specialIn K (.ref C) "__getattribute__" = some (some (.builtin "type.__getattribute__")))
    (rdP : PySem.W.readsIn K CP (.type "type") = true)
    (gaP : PySem.W.specialIn K (.ref CP) "__getattribute__" = some (some (.builtin "type.__getattribute__")))
    (v8 : PySem.W.findCls K (.ref C) (.type "type") "MAX_PORTS" = some (.val (.int 8 tv8)))
    (v16 : PySem.W.findCls K (.ref C) (.type "type") "MAX_PARTS" = some (.val (.int 16 tv16)))
    (gnN : PySem.W.findIn K (.ref C) "name" = some none)
    (gnI : PySem.W.findIn K (.ref C) "inputs" = some none)
    (gnO : PySem.W.findIn K (.ref C) "outputs" = some none)
    (gnP : PySem.W.findIn K (.ref C) "parts" = some none)
    (gnW : PySem.W.findIn K (.ref C) "wires" = some none)
    (rN : PySem.W.findIn K (.ref CR) "name" = some none)
    (rI : PySem.W.findIn K (.ref CR) "inputs" = some none)
    (rO : PySem.W.findIn K (.ref CR) "outputs" = some none)
    (rP : PySem.W.findIn K (.ref CR) "parts" = some none)
    (rW : PySem.W.findIn K (.ref CR) "wires" = some none)
    (rD : PySem.W.findIn K (.ref CR) "is_done" = some none)
    (rA : PySem.W.findIn K (.ref CR) "_max_ports" = some none)
    (rB : PySem.W.findIn K (.ref CR) "_max_parts" = some none)
    (pnN : PySem.W.findIn K (.ref CP) "name" = some none)
    (pnI : PySem.W.findIn K (.ref CP) "inputs" = some none)
    (pnO : PySem.W.findIn K (.ref CP) "outputs" = some none)
    (pnC : PySem.W.findIn K (.ref CP) "constant" = some none)
    (cnI : PySem.W.findIn K (.ref CC) "inputs" = some none)
    (cnO : PySem.W.findIn K (.ref CC) "outputs" = some none)
    (cnP : PySem.W.findIn K (.ref CC) "profile" = some none)
    (cnS : PySem.W.findIn K (.ref CC) "steps" = some none)
    (cnE : PySem.W.findIn K (.ref CC) "end" = some none)
    (aMo : PySem.W.nsIn K mainGlobals "MODULUS" = some (some (.int 4294967296 tkM)))
    (aMd : PySem.W.nsIn K mainGlobals "MOST_DIGITS" = some (some (.int 10 tkD)))
    (aDg : PySem.W.nsIn K mainGlobals "DIGITS" = some (some (.str "0123456789" tkW)))
    (aLe : PySem.W.nsIn K mainGlobals "LETTERS" = some (some (.str "abcdefghijklmnopqrstuvwxyz" tkL)))
    (aMl : PySem.W.nsIn K mainGlobals "MOST_LETTERS" = some (some (.int 8 tkE)))
    (aP : PySem.W.nsIn K mainGlobals "PRIMITIVE_PORTS" = some (some (.ref dP)))
    (lP : K.lookup dP = some ⟨.type "dict", none, .dict esP nP, #[]⟩)
    (qP : PySem.W.KeysLit w.params esP.toList)
    (oP : (dP == sysModules) = false)
    (kP : esP.toList.map (·.key) = [.str "const" kk1, .str "add" kk2, .str "sub" kk3, .str "mul" kk4, .str "less" kk5, .str "equal" kk6, .str "pick" kk7, .str "divide" kk8, .str "delay" kk9])
    (aW : PySem.W.nsIn K mainGlobals "WORDS_WITH_VALUE" = some (some (.ref dW)))
    (lW : K.lookup dW = some ⟨.type "tuple", ddW, .seq #[.str "const" tW1, .str "delay" tW2] nW, slW⟩)
    (aE : PySem.W.nsIn K mainGlobals "RESERVED_WORDS" = some (some (.ref dE)))
    (lE : K.lookup dE = some ⟨.type "tuple", ddE, .seq #[.str "block" tE1, .str "part" tE2, .str "end" tE3, .str "self" tE4] nE, slE⟩)
    (u1 : PySem.W.nsIn K dP "const" = some (some (.ref t1)))
    (vt1 : K.lookup t1 = some ⟨.type "tuple", dd1, .seq #[.ref x1, .ref y1] m1, s1⟩)
    (vx1 : K.lookup x1 = some ⟨.type "tuple", dx1, .seq #[] mx1, sx1⟩)
    (vy1 : K.lookup y1 = some ⟨.type "tuple", dy1, .seq #[.str "out" ty1_0] my1, sy1⟩)
    (u2 : PySem.W.nsIn K dP "add" = some (some (.ref t2)))
    (vt2 : K.lookup t2 = some ⟨.type "tuple", dd2, .seq #[.ref x2, .ref y2] m2, s2⟩)
    (vx2 : K.lookup x2 = some ⟨.type "tuple", dx2, .seq #[.str "a" tx2_0, .str "b" tx2_1] mx2, sx2⟩)
    (vy2 : K.lookup y2 = some ⟨.type "tuple", dy2, .seq #[.str "out" ty2_0] my2, sy2⟩)
    (u3 : PySem.W.nsIn K dP "sub" = some (some (.ref t3)))
    (vt3 : K.lookup t3 = some ⟨.type "tuple", dd3, .seq #[.ref x3, .ref y3] m3, s3⟩)
    (vx3 : K.lookup x3 = some ⟨.type "tuple", dx3, .seq #[.str "a" tx3_0, .str "b" tx3_1] mx3, sx3⟩)
    (vy3 : K.lookup y3 = some ⟨.type "tuple", dy3, .seq #[.str "out" ty3_0] my3, sy3⟩)
    (u4 : PySem.W.nsIn K dP "mul" = some (some (.ref t4)))
    (vt4 : K.lookup t4 = some ⟨.type "tuple", dd4, .seq #[.ref x4, .ref y4] m4, s4⟩)
    (vx4 : K.lookup x4 = some ⟨.type "tuple", dx4, .seq #[.str "a" tx4_0, .str "b" tx4_1] mx4, sx4⟩)
    (vy4 : K.lookup y4 = some ⟨.type "tuple", dy4, .seq #[.str "out" ty4_0] my4, sy4⟩)
    (u5 : PySem.W.nsIn K dP "less" = some (some (.ref t5)))
    (vt5 : K.lookup t5 = some ⟨.type "tuple", dd5, .seq #[.ref x5, .ref y5] m5, s5⟩)
    (vx5 : K.lookup x5 = some ⟨.type "tuple", dx5, .seq #[.str "a" tx5_0, .str "b" tx5_1] mx5, sx5⟩)
    (vy5 : K.lookup y5 = some ⟨.type "tuple", dy5, .seq #[.str "out" ty5_0] my5, sy5⟩)
    (u6 : PySem.W.nsIn K dP "equal" = some (some (.ref t6)))
    (vt6 : K.lookup t6 = some ⟨.type "tuple", dd6, .seq #[.ref x6, .ref y6] m6, s6⟩)
    (vx6 : K.lookup x6 = some ⟨.type "tuple", dx6, .seq #[.str "a" tx6_0, .str "b" tx6_1] mx6, sx6⟩)
    (vy6 : K.lookup y6 = some ⟨.type "tuple", dy6, .seq #[.str "out" ty6_0] my6, sy6⟩)
    (u7 : PySem.W.nsIn K dP "pick" = some (some (.ref t7)))
    (vt7 : K.lookup t7 = some ⟨.type "tuple", dd7, .seq #[.ref x7, .ref y7] m7, s7⟩)
    (vx7 : K.lookup x7 = some ⟨.type "tuple", dx7, .seq #[.str "c" tx7_0, .str "a" tx7_1, .str "b" tx7_2] mx7, sx7⟩)
    (vy7 : K.lookup y7 = some ⟨.type "tuple", dy7, .seq #[.str "out" ty7_0] my7, sy7⟩)
    (u8 : PySem.W.nsIn K dP "divide" = some (some (.ref t8)))
    (vt8 : K.lookup t8 = some ⟨.type "tuple", dd8, .seq #[.ref x8, .ref y8] m8, s8⟩)
    (vx8 : K.lookup x8 = some ⟨.type "tuple", dx8, .seq #[.str "a" tx8_0, .str "b" tx8_1] mx8, sx8⟩)
    (vy8 : K.lookup y8 = some ⟨.type "tuple", dy8, .seq #[.str "quotient" ty8_0, .str "rest" ty8_1] my8, sy8⟩)
    (u9 : PySem.W.nsIn K dP "delay" = some (some (.ref t9)))
    (vt9 : K.lookup t9 = some ⟨.type "tuple", dd9, .seq #[.ref x9, .ref y9] m9, s9⟩)
    (vx9 : K.lookup x9 = some ⟨.type "tuple", dx9, .seq #[.str "in" tx9_0] mx9, sx9⟩)
    (vy9 : K.lookup y9 = some ⟨.type "tuple", dy9, .seq #[.str "out" ty9_0] my9, sy9⟩)
    (zsuper : PySem.W.nsIn K mainGlobals "super" = some none)
    (zlen : PySem.W.nsIn K mainGlobals "len" = some none)
    (zall : PySem.W.nsIn K mainGlobals "all" = some none)
    (zint : PySem.W.nsIn K mainGlobals "int" = some none)
    (zstr : PySem.W.nsIn K mainGlobals "str" = some none)
    (ztuple : PySem.W.nsIn K mainGlobals "tuple" = some none)
    (zisinstance : PySem.W.nsIn K mainGlobals "isinstance" = some none)
    (zset : PySem.W.nsIn K mainGlobals "set" = some none)
    (zsorted : PySem.W.nsIn K mainGlobals "sorted" = some none)
    (zenumerate : PySem.W.nsIn K mainGlobals "enumerate" = some none)
    (zmax : PySem.W.nsIn K mainGlobals "max" = some none)
    (zabs : PySem.W.nsIn K mainGlobals "abs" = some none)
    (zrange : PySem.W.nsIn K mainGlobals "range" = some none)
    (zlist : PySem.W.nsIn K mainGlobals "list" = some none)
    (zreversed : PySem.W.nsIn K mainGlobals "reversed" = some none)
    (zany : PySem.W.nsIn K mainGlobals "any" = some none)
    (aBE : PySem.W.nsIn K mainGlobals "BlockError" = some (some (.ref BE)))
    (xE : K.lookup CI = some (excClassObj nmE qE CI NE bsE [.ref BE, .type "ValueError", .type "Exception", .type "BaseException", .type "object"] true snE subE abE colE ddEE k0E k1E k2E k3E k5E "ValueError.__new__"))
    (eSa : PySem.W.findIn K (.ref CI) "__setattr__" = some (some (.builtin "object.__setattr__")))
    (eRow : PySem.W.findIn K (.ref CI) "row" = some none)
    (eEx : PySem.W.subIn K (.ref CI) (.type "BaseException") = some true)
    (eTy : PySem.W.typeIn K (.ref CI) = some (.type "type"))
    (eK : PySem.W.keepIn K (.ref CI) = true)
    (aER : PySem.W.findIn K (.ref CI) "__init__" = some (some (.ref fER)))
    (iER : PySem.W.isFn K (.ref fER) = true)
    (lER : K.lookup fER = some ⟨ocER, odER, .func (PySem.W.fnOf "__init__" "InvalidText.__init__" (defArgs sErr) (defBody sErr) (defScope sErr) .none kVER dcER pmER anER cdER ctER), slER⟩)
    (cER : PySem.W.codeIn K cdER "InvalidText.__init__" = true)
    (kER : PySem.W.keepIn K (.ref fER) = true)
    (tER : PySem.W.typeIn K (.ref fER) = some (.type "function"))
    (aPN : PySem.W.nsIn K mainGlobals "are_port_names" = some (some (.ref fPN)))
    (lPN : K.lookup fPN = some ⟨ocPN, odPN, .func (PySem.W.fnOf "are_port_names" "are_port_names" (defArgs sPorts) (defBody sPorts) (defScope sPorts) .none kVPN dcPN pmPN anPN cdPN ctPN), slPN⟩)
    (cPN : PySem.W.codeIn K cdPN "are_port_names" = true)
    (kPN : PySem.W.keepIn K (.ref fPN) = true)
    (aIF : PySem.W.nsIn K mainGlobals "is_interface" = some (some (.ref fIF)))
    (lIF : K.lookup fIF = some ⟨ocIF, odIF, .func (PySem.W.fnOf "is_interface" "is_interface" (defArgs sIface) (defBody sIface) (defScope sIface) .none kVIF dcIF pmIF anIF cdIF ctIF), slIF⟩)
    (cIF : PySem.W.codeIn K cdIF "is_interface" = true)
    (kIF : PySem.W.keepIn K (.ref fIF) = true)
    (aSF : PySem.W.nsIn K mainGlobals "_is_step_function" = some (some (.ref fSF)))
    (lSF : K.lookup fSF = some ⟨ocSF, odSF, .func (PySem.W.fnOf "_is_step_function" "_is_step_function" (defArgs sStep) (defBody sStep) (defScope sStep) .none kVSF dcSF pmSF anSF cdSF ctSF), slSF⟩)
    (cSF : PySem.W.codeIn K cdSF "_is_step_function" = true)
    (kSF : PySem.W.keepIn K (.ref fSF) = true)
    (aSE : PySem.W.nsIn K mainGlobals "_is_selection" = some (some (.ref fSE)))
    (lSE : K.lookup fSE = some ⟨ocSE, odSE, .func (PySem.W.fnOf "_is_selection" "_is_selection" (defArgs sSel) (defBody sSel) (defScope sSel) .none kVSE dcSE pmSE anSE cdSE ctSE), slSE⟩)
    (cSE : PySem.W.codeIn K cdSE "_is_selection" = true)
    (kSE : PySem.W.keepIn K (.ref fSE) = true)
    (aCD : PySem.W.nsIn K mainGlobals "compile_diagram" = some (some (.ref fCD)))
    (lCD : K.lookup fCD = some ⟨ocCD, odCD, .func (PySem.W.fnOf "compile_diagram" "compile_diagram" (defArgs sCD) (defBody sCD) (defScope sCD) .none kVCD dcCD pmCD anCD cdCD ctCD), slCD⟩)
    (cCD : PySem.W.codeIn K cdCD "compile_diagram" = true)
    (kCD : PySem.W.keepIn K (.ref fCD) = true)
    (aPI : PySem.W.nsIn K mainGlobals "_part_interfaces" = some (some (.ref fPI)))
    (lPI : K.lookup fPI = some ⟨ocPI, odPI, .func (PySem.W.fnOf "_part_interfaces" "_part_interfaces" (defArgs sPIs) (defBody sPIs) (defScope sPIs) .none kVPI dcPI pmPI anPI cdPI ctPI), slPI⟩)
    (cPI : PySem.W.codeIn K cdPI "_part_interfaces" = true)
    (kPI : PySem.W.keepIn K (.ref fPI) = true)
    (aBL : PySem.W.nsIn K mainGlobals "_block_interface" = some (some (.ref fBL)))
    (lBL : K.lookup fBL = some ⟨ocBL, odBL, .func (PySem.W.fnOf "_block_interface" "_block_interface" (defArgs sBlk) (defBody sBlk) (defScope sBlk) .none kVBL dcBL pmBL anBL cdBL ctBL), slBL⟩)
    (cBL : PySem.W.codeIn K cdBL "_block_interface" = true)
    (kBL : PySem.W.keepIn K (.ref fBL) = true)
    (aCW : PySem.W.nsIn K mainGlobals "check_wires" = some (some (.ref fCW)))
    (lCW : K.lookup fCW = some ⟨ocCW, odCW, .func (PySem.W.fnOf "check_wires" "check_wires" (defArgs sCW) (defBody sCW) (defScope sCW) .none kVCW dcCW pmCW anCW cdCW ctCW), slCW⟩)
    (cCW : PySem.W.codeIn K cdCW "check_wires" = true)
    (kCW : PySem.W.keepIn K (.ref fCW) = true)
    (aLC : PySem.W.nsIn K mainGlobals "_list_calls" = some (some (.ref fLC)))
    (lLC : K.lookup fLC = some ⟨ocLC, odLC, .func (PySem.W.fnOf "_list_calls" "_list_calls" (defArgs sLC) (defBody sLC) (defScope sLC) .none kVLC dcLC pmLC anLC cdLC ctLC), slLC⟩)
    (cLC : PySem.W.codeIn K cdLC "_list_calls" = true)
    (kLC : PySem.W.keepIn K (.ref fLC) = true)
    (aCO : PySem.W.nsIn K mainGlobals "_call_outputs" = some (some (.ref fCO)))
    (lCO : K.lookup fCO = some ⟨ocCO, odCO, .func (PySem.W.fnOf "_call_outputs" "_call_outputs" (defArgs sCO) (defBody sCO) (defScope sCO) .none kVCO dcCO pmCO anCO cdCO ctCO), slCO⟩)
    (cCO : PySem.W.codeIn K cdCO "_call_outputs" = true)
    (kCO : PySem.W.keepIn K (.ref fCO) = true)
    (aOC : PySem.W.nsIn K mainGlobals "_order_calls" = some (some (.ref fOC)))
    (lOC : K.lookup fOC = some ⟨ocOC, odOC, .func (PySem.W.fnOf "_order_calls" "_order_calls" (defArgs sOC) (defBody sOC) (defScope sOC) .none kVOC dcOC pmOC anOC cdOC ctOC), slOC⟩)
    (cOC : PySem.W.codeIn K cdOC "_order_calls" = true)
    (kOC : PySem.W.keepIn K (.ref fOC) = true)
    (aFR : PySem.W.nsIn K mainGlobals "_first_ready" = some (some (.ref fFR)))
    (lFR : K.lookup fFR = some ⟨ocFR, odFR, .func (PySem.W.fnOf "_first_ready" "_first_ready" (defArgs sFR) (defBody sFR) (defScope sFR) .none kVFR dcFR pmFR anFR cdFR ctFR), slFR⟩)
    (cFR : PySem.W.codeIn K cdFR "_first_ready" = true)
    (kFR : PySem.W.keepIn K (.ref fFR) = true)
    (aIR : PySem.W.nsIn K mainGlobals "_inputs_reaching" = some (some (.ref fIR)))
    (lIR : K.lookup fIR = some ⟨ocIR, odIR, .func (PySem.W.fnOf "_inputs_reaching" "_inputs_reaching" (defArgs sIR) (defBody sIR) (defScope sIR) .none kVIR dcIR pmIR anIR cdIR ctIR), slIR⟩)
    (cIR : PySem.W.codeIn K cdIR "_inputs_reaching" = true)
    (kIR : PySem.W.keepIn K (.ref fIR) = true)
    (aMP : PySem.W.nsIn K mainGlobals "_make_profile" = some (some (.ref fMP)))
    (lMP : K.lookup fMP = some ⟨ocMP, odMP, .func (PySem.W.fnOf "_make_profile" "_make_profile" (defArgs sMP) (defBody sMP) (defScope sMP) .none kVMP dcMP pmMP anMP cdMP ctMP), slMP⟩)
    (cMP : PySem.W.codeIn K cdMP "_make_profile" = true)
    (kMP : PySem.W.keepIn K (.ref fMP) = true)
    (aMS : PySem.W.nsIn K mainGlobals "_make_step" = some (some (.ref fMS)))
    (lMS : K.lookup fMS = some ⟨ocMS, odMS, .func (PySem.W.fnOf "_make_step" "_make_step" (defArgs sMS) (defBody sMS) (defScope sMS) .none kVMS dcMS pmMS anMS cdMS ctMS), slMS⟩)
    (cMS : PySem.W.codeIn K cdMS "_make_step" = true)
    (kMS : PySem.W.keepIn K (.ref fMS) = true)
    (aFE : PySem.W.nsIn K mainGlobals "_law_feed" = some (some (.ref fFE)))
    (lFE : K.lookup fFE = some ⟨ocFE, odFE, .func (PySem.W.fnOf "_law_feed" "_law_feed" (defArgs sFeed) (defBody sFeed) (defScope sFeed) .none kVFE dcFE pmFE anFE cdFE ctFE), slFE⟩)
    (cFE : PySem.W.codeIn K cdFE "_law_feed" = true)
    (kFE : PySem.W.keepIn K (.ref fFE) = true)
    (aTK : PySem.W.nsIn K mainGlobals "_law_take" = some (some (.ref fTK)))
    (lTK : K.lookup fTK = some ⟨ocTK, odTK, .func (PySem.W.fnOf "_law_take" "_law_take" (defArgs sTakeL) (defBody sTakeL) (defScope sTakeL) .none kVTK dcTK pmTK anTK cdTK ctTK), slTK⟩)
    (cTK : PySem.W.codeIn K cdTK "_law_take" = true)
    (kTK : PySem.W.keepIn K (.ref fTK) = true)
    (aPK : PySem.W.nsIn K mainGlobals "_law_pick" = some (some (.ref fPK)))
    (lPK : K.lookup fPK = some ⟨ocPK, odPK, .func (PySem.W.fnOf "_law_pick" "_law_pick" (defArgs sPickL) (defBody sPickL) (defScope sPickL) .none kVPK dcPK pmPK anPK cdPK ctPK), slPK⟩)
    (cPK : PySem.W.codeIn K cdPK "_law_pick" = true)
    (kPK : PySem.W.keepIn K (.ref fPK) = true)
    (aLR : PySem.W.nsIn K mainGlobals "_law_rows" = some (some (.ref fLR)))
    (lLR : K.lookup fLR = some ⟨ocLR, odLR, .func (PySem.W.fnOf "_law_rows" "_law_rows" (defArgs sRowsL) (defBody sRowsL) (defScope sRowsL) .none kVLR dcLR pmLR anLR cdLR ctLR), slLR⟩)
    (cLR : PySem.W.codeIn K cdLR "_law_rows" = true)
    (kLR : PySem.W.keepIn K (.ref fLR) = true)
    (aLN : PySem.W.nsIn K mainGlobals "_law_needs" = some (some (.ref fLN)))
    (lLN : K.lookup fLN = some ⟨ocLN, odLN, .func (PySem.W.fnOf "_law_needs" "_law_needs" (defArgs sNeeds) (defBody sNeeds) (defScope sNeeds) .none kVLN dcLN pmLN anLN cdLN ctLN), slLN⟩)
    (cLN : PySem.W.codeIn K cdLN "_law_needs" = true)
    (kLN : PySem.W.keepIn K (.ref fLN) = true)
    (aLT : PySem.W.nsIn K mainGlobals "_law_through" = some (some (.ref fLT)))
    (lLT : K.lookup fLT = some ⟨ocLT, odLT, .func (PySem.W.fnOf "_law_through" "_law_through" (defArgs sThru) (defBody sThru) (defScope sThru) .none kVLT dcLT pmLT anLT cdLT ctLT), slLT⟩)
    (cLT : PySem.W.codeIn K cdLT "_law_through" = true)
    (kLT : PySem.W.keepIn K (.ref fLT) = true)
    (aLG : PySem.W.nsIn K mainGlobals "_law_ground" = some (some (.ref fLG)))
    (lLG : K.lookup fLG = some ⟨ocLG, odLG, .func (PySem.W.fnOf "_law_ground" "_law_ground" (defArgs sGround) (defBody sGround) (defScope sGround) .none kVLG dcLG pmLG anLG cdLG ctLG), slLG⟩)
    (cLG : PySem.W.codeIn K cdLG "_law_ground" = true)
    (kLG : PySem.W.keepIn K (.ref fLG) = true)
    (aLP : PySem.W.nsIn K mainGlobals "_law_profile" = some (some (.ref fLP)))
    (lLP : K.lookup fLP = some ⟨ocLP, odLP, .func (PySem.W.fnOf "_law_profile" "_law_profile" (defArgs sProfL) (defBody sProfL) (defScope sProfL) .none kVLP dcLP pmLP anLP cdLP ctLP), slLP⟩)
    (cLP : PySem.W.codeIn K cdLP "_law_profile" = true)
    (kLP : PySem.W.keepIn K (.ref fLP) = true)
    (aLA : PySem.W.nsIn K mainGlobals "law" = some (some (.ref fLA)))
    (lLA : K.lookup fLA = some ⟨ocLA, odLA, .func (PySem.W.fnOf "law" "law" (defArgs sLaw) (defBody sLaw) (defScope sLaw) .none kVLA dcLA pmLA anLA cdLA ctLA), slLA⟩)
    (cLA : PySem.W.codeIn K cdLA "law" = true)
    (kLA : PySem.W.keepIn K (.ref fLA) = true) :
    ∃ fd : FuncData, (∀ (s : Shared) (v : Value), BindsTo s fd ⟨[v], []⟩ [("script", v)]) ∧ ∀ base : Heap, K.In base → base.Ns mainGlobals mg → FnG PySem.Challenge.pw_stepblocks_k28_whole_enormous_diagrams w K mg base CX0 8 fa fd ["script"] (spLaw K) := by
  have e := hfa.symm.trans (PySem.W.mg_of X G aLA)
  cases e
  have D : KDict K w dP esP nP := ⟨lP, qP, oP⟩
  have keysP : ∀ e ∈ esP.toList, ∃ x t, e.key = .str x t ∧ x ∈ words9 := fun e he => by
    have z : e.key ∈ esP.toList.map (·.key) := List.mem_map_of_mem he
    rw [kP] at z
    simp only [List.mem_cons, List.not_mem_nil, or_false] at z
    rcases z with z | z | z | z | z | z | z | z | z <;> exact ⟨_, _, z, by decide +kernel⟩
  have T : Txt K w mg := by
    refine ⟨⟨dP, esP, nP, PySem.W.mg_of X G aP, D, fun z hz => ?_, fun z hz => miss_of lP keysP hz⟩,
      ⟨dW, PySem.W.mg_of X G aW, fun H => .inr ⟨_, _, _, lW, rfl, rfl, (by decide +kernel : 2 ≤ sizeLine), .cons ⟨_, rfl⟩ (.cons ⟨_, rfl⟩ .nil)⟩⟩, ⟨_, PySem.W.mg_of X G aDg⟩, ⟨_, PySem.W.mg_of X G aMd⟩, ⟨_, PySem.W.mg_of X G aMo⟩, ⟨_, PySem.W.mg_of X G aLe⟩, ⟨_, PySem.W.mg_of X G aMl⟩,
      ⟨dE, PySem.W.mg_of X G aE, fun H => .inr ⟨_, _, _, lE, rfl, rfl, (by decide +kernel : 4 ≤ sizeLine), .cons ⟨_, rfl⟩ (.cons ⟨_, rfl⟩ (.cons ⟨_, rfl⟩ (.cons ⟨_, rfl⟩ .nil)))⟩⟩,
      PySem.W.mg_none_of X G zisinstance, PySem.W.mg_none_of X G zlen, PySem.W.mg_none_of X G zall, PySem.W.mg_none_of X G zint, PySem.W.mg_none_of X G zstr, PySem.W.mg_none_of X G ztuple⟩
    simp only [words9, List.mem_cons, List.not_mem_nil, or_false] at hz
    rcases hz with rfl | rfl | rfl | rfl | rfl | rfl | rfl | rfl | rfl
    · exact ⟨_, u1⟩
    · exact ⟨_, u2⟩
    · exact ⟨_, u3⟩
    · exact ⟨_, u4⟩
    · exact ⟨_, u5⟩
    · exact ⟨_, u6⟩
    · exact ⟨_, u7⟩
    · exact ⟨_, u8⟩
    · exact ⟨_, u9⟩
  have pair : ∀ {t x y : Addr} {m : Nat} {dd : Option Addr} {s : Array (Option Value)}, K.lookup t = some ⟨.type "tuple", dd, .seq #[.ref x, .ref y] m, s⟩ → ∀ H, SqT K H t [.ref x, .ref y] := fun l H =>
    .inr ⟨_, _, _, l, rfl, rfl, (by decide +kernel : 2 ≤ sizeLine), .cons rfl (.cons rfl .nil)⟩
  have po1 : PortsOk K "const" (.ref x1) (.ref y1) := by
    refine ⟨x1, y1, rfl, rfl, ?_, ?_⟩
    · rw [show insOf "const" = ([] : List Str) by decide +kernel]
      exact fun H => .inr ⟨_, _, _, vx1, rfl, rfl, (by decide +kernel : 0 ≤ sizeLine), .nil⟩
    · rw [show outsOf "const" = (["out"] : List Str) by decide +kernel]
      exact fun H => .inr ⟨_, _, _, vy1, rfl, rfl, (by decide +kernel : 1 ≤ sizeLine), (.cons ⟨_, rfl⟩ .nil)⟩
  have po2 : PortsOk K "add" (.ref x2) (.ref y2) := by
    refine ⟨x2, y2, rfl, rfl, ?_, ?_⟩
    · rw [show insOf "add" = (["a", "b"] : List Str) by decide +kernel]
      exact fun H => .inr ⟨_, _, _, vx2, rfl, rfl, (by decide +kernel : 2 ≤ sizeLine), (.cons ⟨_, rfl⟩ (.cons ⟨_, rfl⟩ .nil))⟩
    · rw [show outsOf "add" = (["out"] : List Str) by decide +kernel]
      exact fun H => .inr ⟨_, _, _, vy2, rfl, rfl, (by decide +kernel : 1 ≤ sizeLine), (.cons ⟨_, rfl⟩ .nil)⟩
  have po3 : PortsOk K "sub" (.ref x3) (.ref y3) := by
    refine ⟨x3, y3, rfl, rfl, ?_, ?_⟩
    · rw [show insOf "sub" = (["a", "b"] : List Str) by decide +kernel]
      exact fun H => .inr ⟨_, _, _, vx3, rfl, rfl, (by decide +kernel : 2 ≤ sizeLine), (.cons ⟨_, rfl⟩ (.cons ⟨_, rfl⟩ .nil))⟩
    · rw [show outsOf "sub" = (["out"] : List Str) by decide +kernel]
      exact fun H => .inr ⟨_, _, _, vy3, rfl, rfl, (by decide +kernel : 1 ≤ sizeLine), (.cons ⟨_, rfl⟩ .nil)⟩
  have po4 : PortsOk K "mul" (.ref x4) (.ref y4) := by
    refine ⟨x4, y4, rfl, rfl, ?_, ?_⟩
    · rw [show insOf "mul" = (["a", "b"] : List Str) by decide +kernel]
      exact fun H => .inr ⟨_, _, _, vx4, rfl, rfl, (by decide +kernel : 2 ≤ sizeLine), (.cons ⟨_, rfl⟩ (.cons ⟨_, rfl⟩ .nil))⟩
    · rw [show outsOf "mul" = (["out"] : List Str) by decide +kernel]
      exact fun H => .inr ⟨_, _, _, vy4, rfl, rfl, (by decide +kernel : 1 ≤ sizeLine), (.cons ⟨_, rfl⟩ .nil)⟩
  have po5 : PortsOk K "less" (.ref x5) (.ref y5) := by
    refine ⟨x5, y5, rfl, rfl, ?_, ?_⟩
    · rw [show insOf "less" = (["a", "b"] : List Str) by decide +kernel]
      exact fun H => .inr ⟨_, _, _, vx5, rfl, rfl, (by decide +kernel : 2 ≤ sizeLine), (.cons ⟨_, rfl⟩ (.cons ⟨_, rfl⟩ .nil))⟩
    · rw [show outsOf "less" = (["out"] : List Str) by decide +kernel]
      exact fun H => .inr ⟨_, _, _, vy5, rfl, rfl, (by decide +kernel : 1 ≤ sizeLine), (.cons ⟨_, rfl⟩ .nil)⟩
  have po6 : PortsOk K "equal" (.ref x6) (.ref y6) := by
    refine ⟨x6, y6, rfl, rfl, ?_, ?_⟩
    · rw [show insOf "equal" = (["a", "b"] : List Str) by decide +kernel]
      exact fun H => .inr ⟨_, _, _, vx6, rfl, rfl, (by decide +kernel : 2 ≤ sizeLine), (.cons ⟨_, rfl⟩ (.cons ⟨_, rfl⟩ .nil))⟩
    · rw [show outsOf "equal" = (["out"] : List Str) by decide +kernel]
      exact fun H => .inr ⟨_, _, _, vy6, rfl, rfl, (by decide +kernel : 1 ≤ sizeLine), (.cons ⟨_, rfl⟩ .nil)⟩
  have po7 : PortsOk K "pick" (.ref x7) (.ref y7) := by
    refine ⟨x7, y7, rfl, rfl, ?_, ?_⟩
    · rw [show insOf "pick" = (["c", "a", "b"] : List Str) by decide +kernel]
      exact fun H => .inr ⟨_, _, _, vx7, rfl, rfl, (by decide +kernel : 3 ≤ sizeLine), (.cons ⟨_, rfl⟩ (.cons ⟨_, rfl⟩ (.cons ⟨_, rfl⟩ .nil)))⟩
    · rw [show outsOf "pick" = (["out"] : List Str) by decide +kernel]
      exact fun H => .inr ⟨_, _, _, vy7, rfl, rfl, (by decide +kernel : 1 ≤ sizeLine), (.cons ⟨_, rfl⟩ .nil)⟩
  have po8 : PortsOk K "divide" (.ref x8) (.ref y8) := by
    refine ⟨x8, y8, rfl, rfl, ?_, ?_⟩
    · rw [show insOf "divide" = (["a", "b"] : List Str) by decide +kernel]
      exact fun H => .inr ⟨_, _, _, vx8, rfl, rfl, (by decide +kernel : 2 ≤ sizeLine), (.cons ⟨_, rfl⟩ (.cons ⟨_, rfl⟩ .nil))⟩
    · rw [show outsOf "divide" = (["quotient", "rest"] : List Str) by decide +kernel]
      exact fun H => .inr ⟨_, _, _, vy8, rfl, rfl, (by decide +kernel : 2 ≤ sizeLine), (.cons ⟨_, rfl⟩ (.cons ⟨_, rfl⟩ .nil))⟩
  have po9 : PortsOk K "delay" (.ref x9) (.ref y9) := by
    refine ⟨x9, y9, rfl, rfl, ?_, ?_⟩
    · rw [show insOf "delay" = (["in"] : List Str) by decide +kernel]
      exact fun H => .inr ⟨_, _, _, vx9, rfl, rfl, (by decide +kernel : 1 ≤ sizeLine), (.cons ⟨_, rfl⟩ .nil)⟩
    · rw [show outsOf "delay" = (["out"] : List Str) by decide +kernel]
      exact fun H => .inr ⟨_, _, _, vy9, rfl, rfl, (by decide +kernel : 1 ≤ sizeLine), (.cons ⟨_, rfl⟩ .nil)⟩
  have PC : PrC K w mg CP := by
    refine ⟨⟨pgP, hdP, poP, saP⟩, pnN, pnI, pnO, pnC, PySem.W.mg_of X G aCP, PySem.W.mg_none_of X G zsuper, dP, esP, nP, PySem.W.mg_of X G aP, D, fun z hz => ?_⟩
    simp only [words9, List.mem_cons, List.not_mem_nil, or_false] at hz
    rcases hz with rfl | rfl | rfl | rfl | rfl | rfl | rfl | rfl | rfl
    · exact ⟨_, t1, .ref x1, .ref y1, u1, rfl, pair vt1, po1⟩
    · exact ⟨_, t2, .ref x2, .ref y2, u2, rfl, pair vt2, po2⟩
    · exact ⟨_, t3, .ref x3, .ref y3, u3, rfl, pair vt3, po3⟩
    · exact ⟨_, t4, .ref x4, .ref y4, u4, rfl, pair vt4, po4⟩
    · exact ⟨_, t5, .ref x5, .ref y5, u5, rfl, pair vt5, po5⟩
    · exact ⟨_, t6, .ref x6, .ref y6, u6, rfl, pair vt6, po6⟩
    · exact ⟨_, t7, .ref x7, .ref y7, u7, rfl, pair vt7, po7⟩
    · exact ⟨_, t8, .ref x8, .ref y8, u8, rfl, pair vt8, po8⟩
    · exact ⟨_, t9, .ref x9, .ref y9, u9, rfl, pair vt9, po9⟩
  have Di : Dia K mg := ⟨C, .type "type", _, PySem.W.mg_of X G aC, ⟨rdC, gaC⟩, ⟨v8, ⟨_, rfl⟩⟩⟩
  have TC : CmC K CC := ⟨⟨pgK, hdK, poK, saK⟩, cnI, cnO, cnP, cnS, cnE⟩
  have FNA := fun_mk (st := sName) lNA cNA kNA
  have bNA := FNA.binds (ps := ["value"]) fun _ _ _ _ _ _ us hl => match us, hl with | [_], _ => rfl
  have FDN := fun_mk (st := sDN) lDN cDN kDN
  have bDN := FDN.binds (ps := ["text"]) fun _ _ _ _ _ _ us hl => match us, hl with | [_], _ => rfl
  have FRV := fun_mk (st := sRV) lRV cRV kRV
  have bRV := FRV.binds (ps := ["text"]) fun _ _ _ _ _ _ us hl => match us, hl with | [_], _ => rfl
  have FRP := fun_mk (st := sRP) lRP cRP kRP
  have bRP := FRP.binds (ps := ["text"]) fun _ _ _ _ _ _ us hl => match us, hl with | [_], _ => rfl
  have FIP := fun_mk (st := sIP) lIP cIP kIP
  have bIP := FIP.binds (ps := ["text"]) fun _ _ _ _ _ _ us hl => match us, hl with | [_], _ => rfl
  have FHR := fun_mk (st := sHead) lHR cHR kHR
  have bHR := FHR.binds (ps := ["name", "inputs", "outputs"]) fun _ _ _ _ _ _ us hl => match us, hl with | [_, _, _], _ => rfl
  have FRH := fun_mk (st := sReadHead) lRH cRH kRH
  have bRH := FRH.binds (ps := ["row"]) fun _ _ _ _ _ _ us hl => match us, hl with | [_], _ => rfl
  have FOT := fun_mk (st := sOrder) lOT cOT kOT
  have bOT := FOT.binds (ps := ["parts", "outputs", "targets"]) fun _ _ _ _ _ _ us hl => match us, hl with | [_, _, _], _ => rfl
  have FRI := fun_mk (st := sRI) lRI cRI kRI
  have bRI := FRI.binds (ps := ["self", "max_ports", "max_parts"]) fun _ _ _ _ _ _ us hl => match us, hl with | [_, _, _], _ => rfl
  have FTA := fun_mk (st := sTake) lTA cTA kTA
  have bTA := FTA.binds (ps := ["self", "row"]) fun _ _ _ _ _ _ us hl => match us, hl with | [_, _], _ => rfl
  have FTH := fun_mk (st := sTakeHead) lTH cTH kTH
  have bTH := FTH.binds (ps := ["self", "row"]) fun _ _ _ _ _ _ us hl => match us, hl with | [_, _], _ => rfl
  have FTP := fun_mk (st := sTakePart) lTP cTP kTP
  have bTP := FTP.binds (ps := ["self", "row"]) fun _ _ _ _ _ _ us hl => match us, hl with | [_, _], _ => rfl
  have FTW := fun_mk (st := sTakeWire) lTW cTW kTW
  have bTW := FTW.binds (ps := ["self", "row"]) fun _ _ _ _ _ _ us hl => match us, hl with | [_, _], _ => rfl
  have FPO := fun_mk (st := sReadPort) lPO cPO kPO
  have bPO := FPO.binds (ps := ["self", "text", "own_names"]) fun _ _ _ _ _ _ us hl => match us, hl with | [_, _, _], _ => rfl
  have FBI := fun_mk (st := sBI) lBI cBI kBI
  have bBI := FBI.binds (ps := ["self", "name", "inputs", "outputs"]) fun _ _ _ _ _ _ us hl => match us, hl with | [_, _, _, _], _ => rfl
  have FPA := fun_mk (st := sParse) lPA cPA kPA
  have bPA := FPA.binds (ps := ["cls", "text"]) fun _ _ _ _ _ _ us hl => match us, hl with | [_, _], _ => rfl
  have FOF := fun_mk (st := sOfR) lOF cOF kOF
  have bOF := FOF.binds (ps := ["cls", "reader"]) fun _ _ _ _ _ _ us hl => match us, hl with | [_, _], _ => rfl
  have FPP := fun_mk (st := sPPa) lPP cPP kPP
  have bPP := FPP.binds (ps := ["cls", "text"]) fun _ _ _ _ _ _ us hl => match us, hl with | [_, _], _ => rfl
  have FPF := fun_mk (st := sPIf) lPF cPF kPF
  have bPF := FPF.binds (ps := ["self"]) fun _ _ _ _ _ _ us hl => match us, hl with | [_], _ => rfl
  have FCI_ := fun_mk (st := sCI) lCI_ cCI_ kCI_
  have bCI_ := FCI_.binds (ps := ["self", "inputs", "outputs", "profile", "steps", "end"]) fun _ _ _ _ _ _ us hl => match us, hl with | [_, _, _, _, _, _], _ => rfl
  have FCF := fun_mk (st := sCIf) lCF cCF kCF
  have bCF := FCF.binds (ps := ["self"]) fun _ _ _ _ _ _ us hl => match us, hl with | [_], _ => rfl
  have FER := fun_mk (st := sErr) lER cER kER
  have bER := FER.binds (ps := ["self", "row"]) fun _ _ _ _ _ _ us hl => match us, hl with | [_, _], _ => rfl
  have FPN := fun_mk (st := sPorts) lPN cPN kPN
  have bPN := FPN.binds (ps := ["inputs", "outputs", "most"]) fun _ _ _ _ _ _ us hl => match us, hl with | [_, _, _], _ => rfl
  have FIF := fun_mk (st := sIface) lIF cIF kIF
  have bIF := FIF.binds (ps := ["value"]) fun _ _ _ _ _ _ us hl => match us, hl with | [_], _ => rfl
  have FSF := fun_mk (st := sStep) lSF cSF kSF
  have bSF := FSF.binds (ps := ["value", "inputs", "outputs"]) fun _ _ _ _ _ _ us hl => match us, hl with | [_, _, _], _ => rfl
  have FSE := fun_mk (st := sSel) lSE cSE kSE
  have bSE := FSE.binds (ps := ["value", "names"]) fun _ _ _ _ _ _ us hl => match us, hl with | [_, _], _ => rfl
  have FCD := fun_mk (st := sCD) lCD cCD kCD
  have bCD := FCD.binds (ps := ["diagram", "interfaces"]) fun _ _ _ _ _ _ us hl => match us, hl with | [_, _], _ => rfl
  have FPI := fun_mk (st := sPIs) lPI cPI kPI
  have bPI := FPI.binds (ps := ["diagram", "interfaces"]) fun _ _ _ _ _ _ us hl => match us, hl with | [_, _], _ => rfl
  have FBL := fun_mk (st := sBlk) lBL cBL kBL
  have bBL := FBL.binds (ps := ["block", "interfaces"]) fun _ _ _ _ _ _ us hl => match us, hl with | [_, _], _ => rfl
  have FCW := fun_mk (st := sCW) lCW cCW kCW
  have bCW := FCW.binds (ps := ["diagram", "faces"]) fun _ _ _ _ _ _ us hl => match us, hl with | [_, _], _ => rfl
  have FLC := fun_mk (st := sLC) lLC cLC kLC
  have bLC := FLC.binds (ps := ["diagram", "faces", "sources"]) fun _ _ _ _ _ _ us hl => match us, hl with | [_, _, _], _ => rfl
  have FCO := fun_mk (st := sCO) lCO cCO kCO
  have bCO := FCO.binds (ps := ["call", "faces"]) fun _ _ _ _ _ _ us hl => match us, hl with | [_, _], _ => rfl
  have FOC := fun_mk (st := sOC) lOC cOC kOC
  have bOC := FOC.binds (ps := ["diagram", "faces", "calls"]) fun _ _ _ _ _ _ us hl => match us, hl with | [_, _, _], _ => rfl
  have FFR := fun_mk (st := sFR) lFR cFR kFR
  have bFR := FFR.binds (ps := ["calls", "reach"]) fun _ _ _ _ _ _ us hl => match us, hl with | [_, _], _ => rfl
  have FIR := fun_mk (st := sIR) lIR cIR kIR
  have bIR := FIR.binds (ps := ["call", "inputs", "reach"]) fun _ _ _ _ _ _ us hl => match us, hl with | [_, _, _], _ => rfl
  have FMP := fun_mk (st := sMP) lMP cMP kMP
  have bMP := FMP.binds (ps := ["diagram", "sources", "reach"]) fun _ _ _ _ _ _ us hl => match us, hl with | [_, _, _], _ => rfl
  have FMS := fun_mk (st := sMS) lMS cMS kMS
  have bMS := FMS.binds (ps := ["outputs", "sources", "order", "faces"]) fun _ _ _ _ _ _ us hl => match us, hl with | [_, _, _, _], _ => rfl
  have FFE := fun_mk (st := sFeed) lFE cFE kFE
  have bFE := FFE.binds (ps := ["script", "k"]) fun _ _ _ _ _ _ us hl => match us, hl with | [_, _], _ => rfl
  have FTK := fun_mk (st := sTakeL) lTK cTK kTK
  have bTK := FTK.binds (ps := ["feed", "size"]) fun _ _ _ _ _ _ us hl => match us, hl with | [_, _], _ => rfl
  have FPK := fun_mk (st := sPickL) lPK cPK kPK
  have bPK := FPK.binds (ps := ["feed", "choices"]) fun _ _ _ _ _ _ us hl => match us, hl with | [_, _], _ => rfl
  have FLR := fun_mk (st := sRowsL) lLR cLR kLR
  have bLR := FLR.binds (ps := ["way"]) fun _ _ _ _ _ _ us hl => match us, hl with | [_], _ => rfl
  have FLN := fun_mk (st := sNeeds) lLN cLN kLN
  have bLN := FLN.binds (ps := ["way", "needs"]) fun _ _ _ _ _ _ us hl => match us, hl with | [_, _], _ => rfl
  have FLT := fun_mk (st := sThru) lLT cLT kLT
  have bLT := FLT.binds (ps := ["needs", "over"]) fun _ _ _ _ _ _ us hl => match us, hl with | [_, _], _ => rfl
  have FLG := fun_mk (st := sGround) lLG cLG kLG
  have bLG := FLG.binds (ps := ["feed"]) fun _ _ _ _ _ _ us hl => match us, hl with | [_], _ => rfl
  have FLP := fun_mk (st := sProfL) lLP cLP kLP
  have bLP := FLP.binds (ps := ["needs"]) fun _ _ _ _ _ _ us hl => match us, hl with | [_], _ => rfl
  have FLA := fun_mk (st := sLaw) lLA cLA kLA
  have bLA := FLA.binds (ps := ["script"]) fun _ _ _ _ _ _ us hl => match us, hl with | [_], _ => rfl
  refine ⟨PySem.W.fnOf "law" "law" (defArgs sLaw) (defBody sLaw) (defScope sLaw) .none kVLA dcLA pmLA anLA cdLA ctLA, fun s v => .of_eq rfl, fun base _ _ => ?_⟩
  have GNA : FnOk PySem.Challenge.pw_stepblocks_k28_whole_enormous_diagrams w K mg base CX0 1 fNA _ ["value"] spName := ok_name FNA T
  have GDN : FnOk PySem.Challenge.pw_stepblocks_k28_whole_enormous_diagrams w K mg base CX0 2 fDN _ ["text"] spDN := ok_dn FDN T GNA (PySem.W.mg_of X G aNA) kNA bNA
  have GRV : FnOk PySem.Challenge.pw_stepblocks_k28_whole_enormous_diagrams w K mg base CX0 1 fRV _ ["text"] spRV := ok_rv FRV T
  have GRP : FnOk PySem.Challenge.pw_stepblocks_k28_whole_enormous_diagrams w K mg base CX0 2 fRP _ ["text"] spRP := ok_rp FRP T GRV (PySem.W.mg_of X G aRV) kRV bRV
  have GIP : FnOk PySem.Challenge.pw_stepblocks_k28_whole_enormous_diagrams w K mg base CX0 3 fIP _ ["text"] spIP := ok_ip FIP GRP (PySem.W.mg_of X G aRP) kRP bRP
  have GHR : FnOk PySem.Challenge.pw_stepblocks_k28_whole_enormous_diagrams w K mg base CX0 1 fHR _ ["name", "inputs", "outputs"] (spHead K) := ok_head FHR 
  have GRH : FnOk PySem.Challenge.pw_stepblocks_k28_whole_enormous_diagrams w K mg base CX0 2 fRH _ ["row"] (spReadHead K) := ok_readhead FRH T GHR (PySem.W.mg_of X G aHR) kHR bHR
  have GOT : FnOk PySem.Challenge.pw_stepblocks_k28_whole_enormous_diagrams w K mg base CX0 1 fOT _ ["parts", "outputs", "targets"] (spOrder K) := ok_order FOT (PySem.W.mg_none_of X G zsorted)
  have clR : Cls K CR := ⟨pgR, hdR, poR, saR⟩
  have R : RdC PySem.Challenge.pw_stepblocks_k28_whole_enormous_diagrams w K mg base CR := ⟨clR, rN, rI, rO, rP, rW, rD, rA, rB⟩
  have Dg : DgC K mg C := ⟨⟨pg, hd, po, sa⟩, gnN, gnI, gnO, gnP, gnW, PySem.W.mg_none_of X G zsuper, PySem.W.mg_none_of X G ztuple⟩
  have GRI : FnOk PySem.Challenge.pw_stepblocks_k28_whole_enormous_diagrams w K mg base CX0 1 fRI _ ["self", "max_ports", "max_parts"] (spRI K CR) := ok_ri FRI R
  have GPO : FnOk PySem.Challenge.pw_stepblocks_k28_whole_enormous_diagrams w K mg base CX0 2 fPO _ ["self", "text", "own_names"] (spReadPort K CR) := ok_readport FPO clR rP GNA (PySem.W.mg_of X G aNA) kNA bNA
  have GTW : FnOk PySem.Challenge.pw_stepblocks_k28_whole_enormous_diagrams w K mg base CX0 3 fTW _ ["self", "row"] (spTakeWire K CR) := ok_takewire FTW T clR rW rI rO ⟨aPO, iPO, kPO⟩ GPO bPO
  have GTP : FnOk PySem.Challenge.pw_stepblocks_k28_whole_enormous_diagrams w K mg base CX0 4 fTP _ ["self", "row"] (spTakePart CR) := ok_takepart FTP T clR rP rB GNA (PySem.W.mg_of X G aNA) kNA bNA GIP (PySem.W.mg_of X G aIP) kIP bIP GDN (PySem.W.mg_of X G aDN) kDN bDN
  have GTH : FnOk PySem.Challenge.pw_stepblocks_k28_whole_enormous_diagrams w K mg base CX0 3 fTH _ ["self", "row"] (spTakeHead CR) := ok_takehead FTH T (PySem.W.mg_none_of X G zset) clR rA rN rI rO GRH (PySem.W.mg_of X G aRH) kRH bRH GNA (PySem.W.mg_of X G aNA) kNA bNA GDN (PySem.W.mg_of X G aDN) kDN bDN
  have GTA : FnOk PySem.Challenge.pw_stepblocks_k28_whole_enormous_diagrams w K mg base CX0 5 fTA _ ["self", "row"] (spTake K CR) := ok_take FTA R ⟨aTH, iTH, kTH⟩ GTH bTH ⟨aTP, iTP, kTP⟩ GTP bTP ⟨aTW, iTW, kTW⟩ GTW bTW
  have DI : DIn K PySem.Challenge.pw_stepblocks_k28_whole_enormous_diagrams C fIDQ ccDQ cdaDQ fBI := ⟨⟨_, _, _, _, _, _, _, lIDQ, ⟨_, _, _, lIDQ⟩, ⟨_, rfl, rfl⟩, ⟨_, _, _, _, _, _, lcdDQ, vcdDQ, beq_self_eq_true _⟩, ⟨_, _, _, lccDQ⟩, by decide +kernel, tpa⟩, cIDQ, ⟨sbsDQ, satDQ, sty, ⟨_, sdcDQ⟩, sfi⟩⟩
  have PI : PInP K PySem.Challenge.pw_stepblocks_k28_whole_enormous_diagrams CP fIPQ ccPQ cdaPQ fBI := ⟨⟨_, _, _, _, _, _, _, lIPQ, ⟨_, _, _, lIPQ⟩, ⟨_, rfl, rfl⟩, ⟨_, _, _, _, _, _, lcdPQ, vcdPQ, beq_self_eq_true _⟩, ⟨_, _, _, lccPQ⟩, by decide +kernel, tpa⟩, cIPQ, ⟨sbsPQ, satPQ, sty, ⟨_, sdcPQ⟩, sfi⟩⟩
  have GB : FnOk PySem.Challenge.pw_stepblocks_k28_whole_enormous_diagrams w K mg base CX0 1 fBI _ ["self", "name", "inputs", "outputs"] (spBI K) := ok_bi FBI
  have GI := ok_di DI Dg GB bBI GOT (PySem.W.mg_of X G aOT) kOT bOT
  have GOF : FnOk PySem.Challenge.pw_stepblocks_k28_whole_enormous_diagrams w K mg base CX0 4 fOF _ ["cls", "reader"] (spOf K CR C) := ok_of FOF R ⟨mk, aIDQ, iIDQ, kc⟩ GI
  have raw : ∀ {k : Nat} {f : Addr} {fd : FuncData} {ps : List Str} {sp : Sp}, FnOk PySem.Challenge.pw_stepblocks_k28_whole_enormous_diagrams w K mg base CX0 k f fd ps sp → Binds K fd ps [] → FnR PySem.Challenge.pw_stepblocks_k28_whole_enormous_diagrams w K mg base CX0 k f sp := fun g b => by
    have z := g.raw b .nil
    simpa only [List.append_nil] using z
  have Er : ErrC K mg CI fER := ⟨⟨⟨nmE, qE, NE, bsE, _, snE, subE, abE, colE, ddEE, k0E, k1E, k2E, k3E, k5E, xE, by rfl⟩, eSa, eEx, eTy, eK⟩, aER, tER, eRow, PySem.W.mg_of X G aCI⟩
  have GER : FnOk PySem.Challenge.pw_stepblocks_k28_whole_enormous_diagrams w K mg base CX0 1 fER _ ["self", "row"] (spErr K CI) := ok_err FER Er
  have cr : CRead K C (.type "type") := ⟨rdC, gaC⟩
  have GPA : FnOk PySem.Challenge.pw_stepblocks_k28_whole_enormous_diagrams w K mg base (L2.CX PySem.Challenge.pw_stepblocks_k28_whole_enormous_diagrams w) 6 fPA _ ["cls", "text"] (spParse K CR C CI) := ok_parse FPA (PySem.W.mg_none_of X G zlen) (PySem.W.mg_none_of X G zenumerate) R ⟨aTA, iTA, kTA⟩ GTA bTA ⟨mkR, aRI, iRI, kcR⟩ GRI (PySem.W.mg_of X G aCR) bRI cr ⟨_, v8, ⟨_, rfl⟩⟩ ⟨_, v16, ⟨_, rfl⟩⟩ ⟨aOF, ⟨_, rOF⟩, iOF⟩ (raw GOF bOF) Er GER bER
  have rawX : FnR PySem.Challenge.pw_stepblocks_k28_whole_enormous_diagrams w K mg base (L2.CX PySem.Challenge.pw_stepblocks_k28_whole_enormous_diagrams w) 6 fPA (spParse K CR C CI) := by
    have z := GPA.raw bPA .nil
    simpa only [List.append_nil] using z
  have GIP2 := ok_pip PI PC GB bBI
  have GPP : FnOk PySem.Challenge.pw_stepblocks_k28_whole_enormous_diagrams w K mg base CX0 4 fPP _ ["cls", "text"] (spPPa K CP) := ok_ppa FPP GRP (PySem.W.mg_of X G aRP) kRP bRP ⟨mkP, aIPQ, iIPQ, kcP⟩ GIP2
  have GPF : FnOk PySem.Challenge.pw_stepblocks_k28_whole_enormous_diagrams w K mg base CX0 1 fPF _ ["self"] (spPIf K CP) := ok_pif FPF PC
  have PrPP : PrP PySem.Challenge.pw_stepblocks_k28_whole_enormous_diagrams w K mg base CP := ⟨⟨.type "type", pPP, fPP, ⟨rdP, gaP⟩, ⟨aPP, ⟨_, rPP⟩, iPP⟩, raw GPP bPP⟩, ⟨pPF, fPF, _, ⟨aPF, gPF, tPF, ⟨_, rPF⟩⟩, GPF, bPF⟩⟩
  have GSE : FnOk PySem.Challenge.pw_stepblocks_k28_whole_enormous_diagrams w K mg base CX0 1 fSE _ ["value", "names"] (spSel K) := ok_sel FSE T (PySem.W.mg_none_of X G zlist)
  have GSF : FnOk PySem.Challenge.pw_stepblocks_k28_whole_enormous_diagrams w K mg base CX0 2 fSF _ ["value", "inputs", "outputs"] (spStep K) := ok_step FSF T GSE (PySem.W.mg_of X G aSE) kSE bSE
  have GPN : FnOk PySem.Challenge.pw_stepblocks_k28_whole_enormous_diagrams w K mg base CX0 2 fPN _ ["inputs", "outputs", "most"] (spPorts K) := ok_ports FPN T (PySem.W.mg_none_of X G zset) GNA (PySem.W.mg_of X G aNA) kNA bNA
  have GIF : FnOk PySem.Challenge.pw_stepblocks_k28_whole_enormous_diagrams w K mg base CX0 3 fIF _ ["value"] (spIface K) := ok_iface FIF T Di (PySem.W.mg_none_of X G zsorted) GPN (PySem.W.mg_of X G aPN) kPN bPN GSF (PySem.W.mg_of X G aSF) kSF bSF
  have GBL : FnOk PySem.Challenge.pw_stepblocks_k28_whole_enormous_diagrams w K mg base CX0 5 fBL _ ["block", "interfaces"] (spBlk K) := ok_blk FBL PC PrPP GIP (PySem.W.mg_of X G aIP) kIP bIP
  have GPI : FnOk PySem.Challenge.pw_stepblocks_k28_whole_enormous_diagrams w K mg base CX0 6 fPI _ ["diagram", "interfaces"] (spPIs K C) := ok_pis FPI Dg GIP (PySem.W.mg_of X G aIP) kIP bIP GIF (PySem.W.mg_of X G aIF) kIF bIF GBL (PySem.W.mg_of X G aBL) kBL bBL
  have GCW : FnOk PySem.Challenge.pw_stepblocks_k28_whole_enormous_diagrams w K mg base CX0 1 fCW _ ["diagram", "faces"] (spCW K C) := ok_cw FCW Dg
  have GLC : FnOk PySem.Challenge.pw_stepblocks_k28_whole_enormous_diagrams w K mg base CX0 1 fLC _ ["diagram", "faces", "sources"] (spLC K C) := ok_lc FLC Dg (PySem.W.mg_none_of X G zenumerate)
  have GCO : FnOk PySem.Challenge.pw_stepblocks_k28_whole_enormous_diagrams w K mg base CX0 1 fCO _ ["call", "faces"] (spCO K) := ok_co FCO 
  have GFR : FnOk PySem.Challenge.pw_stepblocks_k28_whole_enormous_diagrams w K mg base CX0 1 fFR _ ["calls", "reach"] (spFR K) := ok_fr FFR (PySem.W.mg_none_of X G zall)
  have GIR : FnOk PySem.Challenge.pw_stepblocks_k28_whole_enormous_diagrams w K mg base CX0 1 fIR _ ["call", "inputs", "reach"] (spIR K) := ok_ir FIR (PySem.W.mg_none_of X G ztuple)
  have GOC : FnOk PySem.Challenge.pw_stepblocks_k28_whole_enormous_diagrams w K mg base CX0 2 fOC _ ["diagram", "faces", "calls"] (spOC K C) := ok_oc FOC Dg (PySem.W.mg_none_of X G zlist) GFR (PySem.W.mg_of X G aFR) kFR bFR GIR (PySem.W.mg_of X G aIR) kIR bIR GCO (PySem.W.mg_of X G aCO) kCO bCO
  have GMP : FnOk PySem.Challenge.pw_stepblocks_k28_whole_enormous_diagrams w K mg base CX0 1 fMP _ ["diagram", "sources", "reach"] (spMP K C) := ok_mp FMP Dg
  have GMS : FnOk PySem.Challenge.pw_stepblocks_k28_whole_enormous_diagrams w K mg base CX0 2 fMS _ ["outputs", "sources", "order", "faces"] (spMS K) := ok_ms FMS (PySem.W.mg_none_of X G ztuple) (PySem.W.mg_none_of X G zreversed) (PySem.W.mg_none_of X G zany) GCO (PySem.W.mg_of X G aCO) kCO bCO
  have GCI_ : FnOk PySem.Challenge.pw_stepblocks_k28_whole_enormous_diagrams w K mg base CX0 1 fCI_ _ ["self", "inputs", "outputs", "profile", "steps", "end"] (spCI K CC) := ok_ci FCI_ TC
  have GCF : FnOk PySem.Challenge.pw_stepblocks_k28_whole_enormous_diagrams w K mg base CX0 1 fCF _ ["self"] (spCIf K CC) := ok_cif FCF TC
  have GCD : FnOk PySem.Challenge.pw_stepblocks_k28_whole_enormous_diagrams w K mg base CX0 7 fCD _ ["diagram", "interfaces"] (spCD K C CC) := ok_cd FCD Dg TC GPI (PySem.W.mg_of X G aPI) kPI bPI GCW (PySem.W.mg_of X G aCW) kCW bCW GLC (PySem.W.mg_of X G aLC) kLC bLC GOC (PySem.W.mg_of X G aOC) kOC bOC GMP (PySem.W.mg_of X G aMP) kMP bMP GMS (PySem.W.mg_of X G aMS) kMS bMS ⟨mkK, aCI_, iCI_, kcK⟩ GCI_ (PySem.W.mg_of X G aCC) bCI_
  have GFE : FnOk PySem.Challenge.pw_stepblocks_k28_whole_enormous_diagrams w K mg base CX0 1 fFE _ ["script", "k"] (spFeed K) := ok_feed FFE (PySem.W.mg_none_of X G zlist) (PySem.W.mg_none_of X G zmax) (PySem.W.mg_none_of X G zabs)
  have GTK : FnOk PySem.Challenge.pw_stepblocks_k28_whole_enormous_diagrams w K mg base CX0 1 fTK _ ["feed", "size"] spTakeL := ok_takeL FTK 
  have GPK : FnOk PySem.Challenge.pw_stepblocks_k28_whole_enormous_diagrams w K mg base CX0 2 fPK _ ["feed", "choices"] spPick := ok_pick FPK GTK (PySem.W.mg_of X G aTK) kTK bTK (PySem.W.mg_none_of X G zlen)
  have GLR : FnOk PySem.Challenge.pw_stepblocks_k28_whole_enormous_diagrams w K mg base CX0 1 fLR _ ["way"] spRowsL := ok_rowsL FLR 
  have GLT : FnOk PySem.Challenge.pw_stepblocks_k28_whole_enormous_diagrams w K mg base CX0 1 fLT _ ["needs", "over"] (spThru K) := ok_thru FLT 
  have GLN : FnOk PySem.Challenge.pw_stepblocks_k28_whole_enormous_diagrams w K mg base CX0 2 fLN _ ["way", "needs"] (spNeeds K) := ok_needs FLN GLT (PySem.W.mg_of X G aLT) kLT bLT
  have GLG : FnOk PySem.Challenge.pw_stepblocks_k28_whole_enormous_diagrams w K mg base CX0 3 fLG _ ["feed"] (spGround K) := ok_ground FLG GPK (PySem.W.mg_of X G aPK) kPK bPK
  have GLP : FnOk PySem.Challenge.pw_stepblocks_k28_whole_enormous_diagrams w K mg base CX0 1 fLP _ ["needs"] (spProfL K) := ok_profL FLP (PySem.W.mg_none_of X G ztuple)
  exact ok_law FLA (PySem.W.mg_none_of X G zlen) (PySem.W.mg_none_of X G zrange) GFE (PySem.W.mg_of X G aFE) kFE bFE GTK (PySem.W.mg_of X G aTK) kTK bTK GLG (PySem.W.mg_of X G aLG) kLG bLG GLR (PySem.W.mg_of X G aLR) kLR bLR GLN (PySem.W.mg_of X G aLN) kLN bLN GLP (PySem.W.mg_of X G aLP) kLP bLP GCD (PySem.W.mg_of X G aCD) kCD bCD (PySem.W.mg_of X G aC) cr ⟨aPA, ⟨_, rPA⟩, iPA⟩ rawX TC ⟨aCF, gCF, tCF, ⟨_, rCF⟩⟩ GCF bCF
theorem walk {l : PySem.W.OpenLaw} {q : Program} {loose : List Str} {XP : (Str → Option Value) → Heap → Prop} {YP : World → Heap → Prop} {d : DefRec} {K : Params → PySem.W.Frag} (hn : l.most = some 63) (hdf : d.params.defaults = [])
    (hY : ∀ (w : World) (h : Heap), YP w h → (K w.params).In h)
    (F : ∀ (w : World) (mg : Str → Option Value) (fa : Addr) (h : Heap), (K w.params).In h → h.Ns mainGlobals mg → mg d.name = some (.ref fa) →
      ∃ fd : FuncData, (∀ (s : Shared) (u : Value), BindsTo s fd ⟨[u], []⟩ [("script", u)]) ∧ ∀ base : Heap, (K w.params).In base → base.Ns mainGlobals mg → FnG l.prog w (K w.params) mg base CX0 8 fa fd ["script"] (spLaw (K w.params))) :
    PySem.W.WalkO q loose XP YP l.row.toRowW d [] (fun f vs => PySem.call f vs) :=
  walk_ofG (n := 63) (k := 8) (x := "script") (sp := fun w => spLaw (K w.params)) hn (by decide) hdf ⟨rfl, by decide, by decide⟩ hY F (fun _ _ a ns hl _ hS => ⟨a, ns, rfl, hS, hl, fun _ => rfl⟩)
end K28
open PySem PySem.W PyProof.Rows
set_option maxRecDepth 100000 in
set_option maxHeartbeats 0 in
theorem PySem.Challenge.cw_stepblocks_k28_whole_enormous_diagrams_holds : PySem.Challenge.rw_stepblocks_k28_whole_enormous_diagrams.Holds := by
  w_on; o_law; k_head; (case hw => w_witness2)
  k_fill
  refine K28.walk (l := PySem.Challenge.rw_stepblocks_k28_whole_enormous_diagrams) rfl rfl (fun w h Y => PySem.W.kIn_of Y) ?F
  case F =>
    intro w mg fa h KX G hmg
    refine' K28.all_mk KX G hmg ?aC ?aB ?aCR ?aCI ?aCP ?aCC ?aNA ?lNA ?cNA ?kNA ?aDN ?lDN ?cDN ?kDN ?aRV ?lRV ?cRV ?kRV ?aRP ?lRP ?cRP ?kRP ?aIP ?lIP ?cIP ?kIP ?aHR ?lHR ?cHR ?kHR ?aRH ?lRH ?cRH ?kRH ?aOT ?lOT ?cOT ?kOT ?aRI ?iRI ?lRI ?cRI ?kRI ?aTA ?iTA ?lTA ?cTA ?kTA ?aTH ?iTH ?lTH ?cTH ?kTH ?aTP ?iTP ?lTP ?cTP ?kTP ?aTW ?iTW ?lTW ?cTW ?kTW ?aPO ?iPO ?lPO ?cPO ?kPO ?aBI ?iBI ?lBI ?cBI ?kBI ?aPA ?rPA ?iPA ?lPA ?cPA ?kPA ?aOF ?rOF ?iOF ?lOF ?cOF ?kOF ?aIDQ ?iIDQ ?lIDQ ?cIDQ ?lcdDQ ?vcdDQ ?lccDQ ?sbsDQ ?satDQ ?sdcDQ ?aIPQ ?iIPQ ?lIPQ ?cIPQ ?lcdPQ ?vcdPQ ?lccPQ ?sbsPQ ?satPQ ?sdcPQ ?tpa ?sty ?sfi ?aPP ?rPP ?iPP ?lPP ?cPP ?kPP ?aPF ?rPF ?gPF ?tPF ?lPF ?cPF ?kPF ?aCI_ ?iCI_ ?lCI_ ?cCI_ ?kCI_ ?aCF ?rCF ?gCF ?tCF ?lCF ?cCF ?kCF ?pg ?hd ?po ?sa ?mk ?kc ?pgR ?hdR ?poR ?saR ?mkR ?kcR ?pgP ?hdP ?poP ?saP ?mkP ?kcP ?pgK ?hdK ?poK ?saK ?mkK ?kcK ?rdC ?gaC ?rdP ?gaP ?v8 ?v16 ?gnN ?gnI ?gnO ?gnP ?gnW ?rN ?rI ?rO ?rP ?rW ?rD ?rA ?rB ?pnN ?pnI ?pnO ?pnC ?cnI ?cnO ?cnP ?cnS ?cnE ?aMo ?aMd ?aDg ?aLe ?aMl ?aP ?lP ?qP ?oP ?kP ?aW ?lW ?aE ?lE ?u1 ?vt1 ?vx1 ?vy1 ?u2 ?vt2 ?vx2 ?vy2 ?u3 ?vt3 ?vx3 ?vy3 ?u4 ?vt4 ?vx4 ?vy4 ?u5 ?vt5 ?vx5 ?vy5 ?u6 ?vt6 ?vx6 ?vy6 ?u7 ?vt7 ?vx7 ?vy7 ?u8 ?vt8 ?vx8 ?vy8 ?u9 ?vt9 ?vx9 ?vy9 ?zsuper ?zlen ?zall ?zint ?zstr ?ztuple ?zisinstance ?zset ?zsorted ?zenumerate ?zmax ?zabs ?zrange ?zlist ?zreversed ?zany ?aBE ?xE ?eSa ?eRow ?eEx ?eTy ?eK ?aER ?iER ?lER ?cER ?kER ?tER ?aPN ?lPN ?cPN ?kPN ?aIF ?lIF ?cIF ?kIF ?aSF ?lSF ?cSF ?kSF ?aSE ?lSE ?cSE ?kSE ?aCD ?lCD ?cCD ?kCD ?aPI ?lPI ?cPI ?kPI ?aBL ?lBL ?cBL ?kBL ?aCW ?lCW ?cCW ?kCW ?aLC ?lLC ?cLC ?kLC ?aCO ?lCO ?cCO ?kCO ?aOC ?lOC ?cOC ?kOC ?aFR ?lFR ?cFR ?kFR ?aIR ?lIR ?cIR ?kIR ?aMP ?lMP ?cMP ?kMP ?aMS ?lMS ?cMS ?kMS ?aFE ?lFE ?cFE ?kFE ?aTK ?lTK ?cTK ?kTK ?aPK ?lPK ?cPK ?kPK ?aLR ?lLR ?cLR ?kLR ?aLN ?lLN ?cLN ?kLN ?aLT ?lLT ?cLT ?kLT ?aLG ?lLG ?cLG ?kLG ?aLP ?lLP ?cLP ?kLP ?aLA ?lLA ?cLA ?kLA
    (case aC => k_is); (case aB => k_is); (case aCR => k_is); (case aCI => k_is); (case aCP => k_is); (case aCC => k_is); (case aNA => k_is); (case lNA => k_is)
    (case cNA => k_is); (case kNA => k_is); (case aDN => k_is); (case lDN => k_is); (case cDN => k_is); (case kDN => k_is); (case aRV => k_is); (case lRV => k_is)
    (case cRV => k_is); (case kRV => k_is); (case aRP => k_is); (case lRP => k_is); (case cRP => k_is); (case kRP => k_is); (case aIP => k_is); (case lIP => k_is)
    (case cIP => k_is); (case kIP => k_is); (case aHR => k_is); (case lHR => k_is); (case cHR => k_is); (case kHR => k_is); (case aRH => k_is); (case lRH => k_is)
    (case cRH => k_is); (case kRH => k_is); (case aOT => k_is); (case lOT => k_is); (case cOT => k_is); (case kOT => k_is); (case aRI => k_is); (case iRI => k_is)
    (case lRI => k_is); (case cRI => k_is); (case kRI => k_is); (case aTA => k_is); (case iTA => k_is); (case lTA => k_is); (case cTA => k_is); (case kTA => k_is)
    (case aTH => k_is); (case iTH => k_is); (case lTH => k_is); (case cTH => k_is); (case kTH => k_is); (case aTP => k_is); (case iTP => k_is); (case lTP => k_is)
    (case cTP => k_is); (case kTP => k_is); (case aTW => k_is); (case iTW => k_is); (case lTW => k_is); (case cTW => k_is); (case kTW => k_is); (case aPO => k_is)
    (case iPO => k_is); (case lPO => k_is); (case cPO => k_is); (case kPO => k_is); (case aBI => k_is); (case iBI => k_is); (case lBI => k_is); (case cBI => k_is)
    (case kBI => k_is); (case aPA => k_is); (case rPA => k_is); (case iPA => k_is); (case lPA => k_is); (case cPA => k_is); (case kPA => k_is); (case aOF => k_is)
    (case rOF => k_is); (case iOF => k_is); (case lOF => k_is); (case cOF => k_is); (case kOF => k_is); (case aIDQ => k_is); (case iIDQ => k_is); (case lIDQ => k_is)
    (case cIDQ => k_is); (case lcdDQ => k_is); (case vcdDQ => exact rfl); (case lccDQ => k_is); (case sbsDQ => k_is); (case satDQ => ks_is); (case sdcDQ => k_is); (case aIPQ => k_is)
    (case iIPQ => k_is); (case lIPQ => k_is); (case cIPQ => k_is); (case lcdPQ => k_is); (case vcdPQ => exact rfl); (case lccPQ => k_is); (case sbsPQ => k_is); (case satPQ => ks_is)
    (case sdcPQ => k_is); (case tpa => k_is); (case sty => k_is); (case sfi => k_is); (case aPP => k_is); (case rPP => k_is); (case iPP => k_is); (case lPP => k_is)
    (case cPP => k_is); (case kPP => k_is); (case aPF => k_is); (case rPF => k_is); (case gPF => k_is); (case tPF => k_is); (case lPF => k_is); (case cPF => k_is)
    (case kPF => k_is); (case aCI_ => k_is); (case iCI_ => k_is); (case lCI_ => k_is); (case cCI_ => k_is); (case kCI_ => k_is); (case aCF => k_is); (case rCF => k_is)
    (case gCF => k_is); (case tCF => k_is); (case lCF => k_is); (case cCF => k_is); (case kCF => k_is); (case pg => k_is); (case hd => k_is); (case po => k_is)
    (case sa => k_is); (case mk => k_is); (case kc => k_is); (case pgR => k_is); (case hdR => k_is); (case poR => k_is); (case saR => k_is); (case mkR => k_is)
    (case kcR => k_is); (case pgP => k_is); (case hdP => k_is); (case poP => k_is); (case saP => k_is); (case mkP => k_is); (case kcP => k_is); (case pgK => k_is)
    (case hdK => k_is); (case poK => k_is); (case saK => k_is); (case mkK => k_is); (case kcK => k_is); (case rdC => k_is); (case gaC => k_is); (case rdP => k_is)
    (case gaP => k_is); (case v8 => k_is); (case v16 => k_is); (case gnN => k_is); (case gnI => k_is); (case gnO => k_is); (case gnP => k_is); (case gnW => k_is)
    (case rN => k_is); (case rI => k_is); (case rO => k_is); (case rP => k_is); (case rW => k_is); (case rD => k_is); (case rA => k_is); (case rB => k_is)
    (case pnN => k_is); (case pnI => k_is); (case pnO => k_is); (case pnC => k_is); (case cnI => k_is); (case cnO => k_is); (case cnP => k_is); (case cnS => k_is)
    (case cnE => k_is); (case aMo => k_is); (case aMd => k_is); (case aDg => k_is); (case aLe => k_is); (case aMl => k_is); (case aP => k_is); (case lP => k_is)
    (case qP => k_keys); (case oP => decide); (case kP => exact rfl); (case aW => k_is); (case lW => k_is); (case aE => k_is); (case lE => k_is); (case u1 => k_is)
    (case vt1 => k_is); (case vx1 => k_is); (case vy1 => k_is); (case u2 => k_is); (case vt2 => k_is); (case vx2 => k_is); (case vy2 => k_is); (case u3 => k_is)
    (case vt3 => k_is); (case vx3 => k_is); (case vy3 => k_is); (case u4 => k_is); (case vt4 => k_is); (case vx4 => k_is); (case vy4 => k_is); (case u5 => k_is)
    (case vt5 => k_is); (case vx5 => k_is); (case vy5 => k_is); (case u6 => k_is); (case vt6 => k_is); (case vx6 => k_is); (case vy6 => k_is); (case u7 => k_is)
    (case vt7 => k_is); (case vx7 => k_is); (case vy7 => k_is); (case u8 => k_is); (case vt8 => k_is); (case vx8 => k_is); (case vy8 => k_is); (case u9 => k_is)
    (case vt9 => k_is); (case vx9 => k_is); (case vy9 => k_is); (case zsuper => k_is); (case zlen => k_is); (case zall => k_is); (case zint => k_is); (case zstr => k_is)
    (case ztuple => k_is); (case zisinstance => k_is); (case zset => k_is); (case zsorted => k_is); (case zenumerate => k_is); (case zmax => k_is); (case zabs => k_is); (case zrange => k_is)
    (case zlist => k_is); (case zreversed => k_is); (case zany => k_is); (case aBE => k_is); (case xE => k_is); (case eSa => k_is); (case eRow => k_is); (case eEx => k_is)
    (case eTy => k_is); (case eK => k_is); (case aER => k_is); (case iER => k_is); (case lER => k_is); (case cER => k_is); (case kER => k_is); (case tER => k_is)
    (case aPN => k_is); (case lPN => k_is); (case cPN => k_is); (case kPN => k_is); (case aIF => k_is); (case lIF => k_is); (case cIF => k_is); (case kIF => k_is)
    (case aSF => k_is); (case lSF => k_is); (case cSF => k_is); (case kSF => k_is); (case aSE => k_is); (case lSE => k_is); (case cSE => k_is); (case kSE => k_is)
    (case aCD => k_is); (case lCD => k_is); (case cCD => k_is); (case kCD => k_is); (case aPI => k_is); (case lPI => k_is); (case cPI => k_is); (case kPI => k_is)
    (case aBL => k_is); (case lBL => k_is); (case cBL => k_is); (case kBL => k_is); (case aCW => k_is); (case lCW => k_is); (case cCW => k_is); (case kCW => k_is)
    (case aLC => k_is); (case lLC => k_is); (case cLC => k_is); (case kLC => k_is); (case aCO => k_is); (case lCO => k_is); (case cCO => k_is); (case kCO => k_is)
    (case aOC => k_is); (case lOC => k_is); (case cOC => k_is); (case kOC => k_is); (case aFR => k_is); (case lFR => k_is); (case cFR => k_is); (case kFR => k_is)
    (case aIR => k_is); (case lIR => k_is); (case cIR => k_is); (case kIR => k_is); (case aMP => k_is); (case lMP => k_is); (case cMP => k_is); (case kMP => k_is)
    (case aMS => k_is); (case lMS => k_is); (case cMS => k_is); (case kMS => k_is); (case aFE => k_is); (case lFE => k_is); (case cFE => k_is); (case kFE => k_is)
    (case aTK => k_is); (case lTK => k_is); (case cTK => k_is); (case kTK => k_is); (case aPK => k_is); (case lPK => k_is); (case cPK => k_is); (case kPK => k_is)
    (case aLR => k_is); (case lLR => k_is); (case cLR => k_is); (case kLR => k_is); (case aLN => k_is); (case lLN => k_is); (case cLN => k_is); (case kLN => k_is)
    (case aLT => k_is); (case lLT => k_is); (case cLT => k_is); (case kLT => k_is); (case aLG => k_is); (case lLG => k_is); (case cLG => k_is); (case kLG => k_is)
    (case aLP => k_is); (case lLP => k_is); (case cLP => k_is); (case kLP => k_is); (case aLA => k_is); (case lLA => k_is); (case cLA => k_is); (case kLA => k_is)
