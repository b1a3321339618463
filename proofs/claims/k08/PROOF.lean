import PyProof.Rows.All
import Wide.All
import OpenK.AllK
import Wide.FinOn
import KE.KSuper
import HandS.Nested
import HandS.ClsMeth
import HandS.Star
import HandS.Ends
import HandS.Words
import HandS.List
import HandS.Exc
import HandS.ExcIs
import HandS.ExcField
import HandS.ExcInit
import HandS.WordsExc
import HandS.ExcValue
import HandS.Strs
import PyProof.Rows.SortShellAny
import HandS.TupLen
import HandS.Walk
import HandS.MapObj
import HandS.ForMost
import HandS.IsInst
import HandS.Wide
import HandS.More
import HandS.FStr
import HandS.RaiseMore
import HandS.NoneIn
import HandS.StrMore
import HandS.Conv
import HandS.Dict
import HandS.WordsDict
import HandS.TupAny
import HandS.DictComp
import PySem.Challenge.RW_stepblocks_k08_bounds_of_texts
set_option Elab.async false
set_option linter.all false
set_option maxRecDepth 100000
set_option maxHeartbeats 8000000
/-! OwnA: super().__init__ of plain classes; a class held by a local, made; a def held by a local, called with a star. -/
namespace Own
open PySem PySem.Spec PyProof.Rows L2 NdefX ClX StX

/-! ### a block at its own code -/
structure PSA (X : Cx) (b0 : List Stmt) (sts : List Stmt) (t : TS) : Prop where
  run : ∀ (pins : List (Addr × Obj)) (s : Shared) (σ : L2.St) (H : Hp) (D : Ends), Inv X pins σ H s → t D σ H → _root_.PySem.wpAt (model X.prog X.w) X.A (.func b0 X.env) (execs sts X.env) (SP X pins D) X.xe s
theorem psa_of {X : Cx} {b0 sts : List Stmt} {t : TS} (h : PSs X sts t) : PSA X b0 sts t := ⟨fun pins s σ H D I q => wpAt_of_wpAny (h.run pins s σ H D I q)⟩
theorem psa_cons {X : Cx} {b0 rest : List Stmt} {st : Stmt} {t u : TS} (h1 : PS X st t) (h2 : PSA X b0 rest u) : PSA X b0 (st :: rest) (tSeq t u) := by
  refine ⟨fun pins s σ H D I q => PySem.ks_wpAt_execs_cons (wpAt_of_wpAny (thn (h1.run pins s σ H { D with nx := u D } I q) fun f s' hs => ?_))⟩
  cases f with
  | next =>
    obtain ⟨σ', H', I', q'⟩ := hs
    exact h2.run pins s' σ' H' D I' q'
  | brk => exact hs
  | cont => exact hs
  | ret u => exact hs

/-! ### super().m(e, ..) as a statement -/
/-- what the text says: the def's first parameter is slot 0; D: the class whose body holds the def; f2: the next class's method -/
structure SupK (K : PySem.W.Frag) (prog : Program) (f cda cc D : Addr) (fd : FuncData) (sf : Str) : Prop where
  fn : ∃ oc od osl, K.lookup f = some ⟨oc, od, .func fd, osl⟩
  par : ∃ ar, (fd.params.posonlyargs ++ fd.params.args).head? = some ar ∧ ar.arg = sf
  code : ∃ ccl cdd vs ccs file tf, K.lookup cda = some ⟨ccl, cdd, .fields vs, ccs⟩ ∧ vs[2]? = some (.str file tf) ∧ ((prog.main.file : Str) == file) = true
  cell : ∃ cl cld csl, K.lookup cc = some ⟨cl, cld, .cell (some (.ref D)), csl⟩
  top : (prog.main.scope.names.lookup ("super" : Str)).isSome = false
  st : PySem.W.nsIn K PySem.cStatics "thirdparty.any" = some none
/-- of an instance's class C -/
structure SupC (K : PySem.W.Frag) (C D : Addr) (m : Str) (f2 : Addr) : Prop where
  sub : PySem.W.mroIn K C (.ref D) = some true
  at_ : PySem.W.ks_superIn K C D m = some (some (.ref f2))
  ty : PySem.W.typeIn K (.ref f2) = some (.type "function")
  dcl : ∃ cdD, PySem.W.clsIn K D = some cdD
  fi : PySem.W.fnIn K f2 = true
def tSuper (K : PySem.W.Frag) (D : Addr) (m : Str) (f2 : Addr) (sp : Sp) (E : XK) (t : TA) : TS := fun D' σ H => ∃ x C dx fs, σ[0]? = some (some (.ref x)) ∧ H x = some (.ins C dx fs) ∧ SupC K C D m f2 ∧
  t σ H fun vs H1 => sp (.ref x :: vs) H1 (fun _ H2 => D'.nx σ H2) E
theorem psa_super {X : Cx} {CX : CXT} {k : Nat} {b0 rest : List Stmt} {p0 p1 apos pos spos : Pos} {m self : Str} {e : Expr} {es : List Expr} {t : TA} {u : TS} {f cda cc D f2 : Addr} {fd : FuncData} {sp : Sp} {E : XK} {pl : Sem Bool}
    (SK : SupK X.K X.prog f cda cc D fd self) (hfu : X.env.func = some f) (hco : X.env.code = .ref cda) (hcl : X.env.cells.lookup ("__class__" : Str) = some cc)
    (hks : X.env.kindOf "super" = some .globalImplicit) (hkc : X.env.kindOf "__class__" = some .free) (hN : X.N[0]? = some self) (hka : X.env.kindOf self = some .local) (hms : X.mg "super" = none)
    (F : FnR X.prog X.w X.K X.mg X.base CX k f2 sp) (hr : Room k X.A) (hx : Passes CX X E) (ha : PA X (e :: es) t) (hu : PSA X b0 rest u)
    (hm1 : (m == ("__class__" : Str)) = false := by decide +kernel)
    (hi : interactive X.env = false := by rfl) (hsw : swapsWith (.Call (.Attribute (.Call (.Name "super" p0) [] [] p1) m apos) (e :: es) [] pos) none spos.line X.env = pure false := by rfl)
    (hst : starEach (e :: es) X.env = (false, eval e X.env) :: starEach es X.env := by rfl) (hpl : (backTo pos (starEach es X.env)).any (·.1) = false := by rfl)
    (ht : eval (.Call (.Attribute (.Call (.Name "super" p0) [] [] p1) m apos) (e :: es) [] pos) X.env = (do
      let ov ← attributeBase (.Call (.Name "super" p0) [] [] p1) m X.env (eval (.Call (.Name "super" p0) [] [] p1) X.env)
      standAt apos.atName
      let (f, first) ← holding [ov] (getMethod ov m pl)
      callWith pos f first (backTo pos (starEach (e :: es) X.env)) []) := by rfl) :
    PSA X b0 (.Expr (.Call (.Attribute (.Call (.Name "super" p0) [] [] p1) m apos) (e :: es) [] pos) spos :: rest) (tSeq (tSuper X.K D m f2 sp E t) u) := by
  refine ⟨fun pins s σ H Dn I q => ?_⟩
  obtain ⟨x, C, dx, fs, hσ, hH, SC, q⟩ := q
  have KX := I.kIn
  obtain ⟨oc, od, osl, hf⟩ := SK.fn
  obtain ⟨ar, har, hself⟩ := SK.par
  obtain ⟨ccl, cdd, vs, ccs, file, tf, hcode, hvs, hfile⟩ := SK.code
  obtain ⟨cl, cld, csl, hcell⟩ := SK.cell
  obtain ⟨cdD, hD⟩ := SC.dcl
  obtain ⟨oD, hD1, hD2⟩ : ∃ oD, s.heap.get? D = some oD ∧ oD.data = .cls cdD := by
    unfold PySem.W.clsIn at hD
    split at hD
    · rename_i c d cd' sl ho
      cases hD
      exact ⟨_, KX _ _ ho, rfl⟩
    · cases hD
  obtain ⟨mA, O, rr, _, _, _⟩ := ins_get I.hok hH
  obtain ⟨odx, J, _⟩ := O.look
  obtain ⟨ml, hn, hl⟩ := id I.loc
  have hself' : ml ar.arg = some (.ref x) := by
    obtain ⟨w', rw', lk⟩ := hl 0 self (.ref x) hN hσ (.inl hka)
    rcases lk with ⟨_, e1⟩ | ⟨e1, _⟩
    · rw [hself, e1]
      exact congrArg some rw'
    · rw [hka] at e1
      rcases e1 with z | z <;> cases z
  obtain ⟨mb, hb1, hb2⟩ := I.mod.blt
  refine PySem.ks_wpAt_execs_cons (PySem.ks_wpAt_Expr_any (Q := fun f s' => match f with | .next => _root_.PySem.wpAt (model X.prog X.w) X.A (.func b0 X.env) (execs rest X.env) (SP X pins Dn) X.xe s' | f => SP X pins Dn f s') ?_ hi hsw)
  refine PySem.ks_wpAt_MethodCall (pl := pl) ?_ ht
  have e0 : s = ⟨s.heap, s.gens, s.drawn, s.toks, s.os⟩ := rfl
  refine PySem.ks_wpAt_super_base hks hkc hm1 hfu (KX _ _ hf) rfl har hco (KX _ _ hcode) rfl hvs hfile SK.top ?_
  refine PySem.W.ks_loadName_global I.ok.kind hks (Calls.loadGlobal_builtin (by rw [I.ok.glob]; exact I.mod.glob.keeps I.bk) hms (by rw [I.ok.blt]; exact hb1.keeps I.bk) ((hb2 "super" (by decide)).trans (by decide +kernel : bootBuiltins "super" = some (.type "super"))) ⟨rfl, ?_⟩)
  refine wpAny_loadName_free I.ok.kind hkc hcl ⟨_, KX _ _ hcell, rfl⟩ ?_
  refine wpAny_loadName_local I.ok.kind (by rw [hself]; exact hka) hn hself' ?_
  rw [e0]
  refine PySem.ks_wpAny_isType_cls hD1 hD2 ⟨rfl, ?_⟩
  refine PySem.ks_wpAny_call_super hD1 hD2 J.at_ J.cls (fun c e => ?_) (PySem.W.looks_mroIn KX SC.sub) (fun h' e k => ?_)
  · have z := J.no
    unfold PySem.W.notCls at z
    rw [e] at z
    exact Bool.noConfusion z
  have I1 : Inv X ((s.heap.objs.size, PySem.W.ks_superObj D x C) :: pins) σ H { s with heap := h', toks := s.toks } := pin_new I k (Nat.le_refl _) e (fun v z => nomatch z)
  have KX1 := I1.kIn
  cases hc : PySem.W.clsIn X.K C with
  | none =>
    have z := SC.at_
    unfold PySem.W.ks_superIn at z
    rw [hc] at z
    cases z
  | some cd =>
    have hm := SC.at_
    unfold PySem.W.ks_superIn at hm
    rw [hc] at hm
    obtain ⟨of, hof, hofc⟩ : ∃ of, h'.get? f2 = some of ∧ of.cls = .type "function" := by
      have ht' : (X.K.lookup f2).map (·.cls) = some (.type "function") := SC.ty
      cases z : X.K.lookup f2 with
      | none => rw [z] at ht'; cases ht'
      | some of => rw [z] at ht'; exact ⟨of, KX1 _ _ z, Option.some.inj ht'⟩
    refine PySem.ks_wpAny_getMethod_super e (PySem.W.looks_opaque KX1 SK.st) (l₀ := cd.mro) ?_ rfl KX1 hm hof hofc (PySem.W.ks_ne KX J hc) hm1 ?_
    · exact fun A Q E s k q => wpAny_bind ((PySem.W.looks_clsIn KX1 hc) A _ E s k (wpAny_pure q))
    have I2 : Inv X ((h'.objs.size, PySem.W.methodObj (.ref f2) (.ref x)) :: (s.heap.objs.size, PySem.W.ks_superObj D x C) :: pins) σ H { s with heap := h'.push (PySem.W.methodObj (.ref f2) (.ref x)), toks := s.toks + 1 } :=
      pin_new (s := { s with heap := h', toks := s.toks }) I1 (fun _ _ z => Heap.get?_push_of_some _ z) (Nat.le_refl _) (Heap.get?_push_size h' rfl) (fun v z => nomatch z)
    have hq := pin_at I2
    have hL : h'.objs.size ≠ X.env.locals := (I2.pin (h'.objs.size, PySem.W.methodObj (.ref f2) (.ref x)) (List.mem_append_right _ List.mem_cons_self)).2.2.1
    have hb0 : X.base.get? h'.objs.size = none := base_none I1 (Nat.le_refl _)
    refine PySem.W.callWith_M (K := X.K) (h₀ := X.base) (first := []) I.ok.mod.kin (news_at hL hb0 hq) List.mem_cons_self SC.fi (thn (ha.run pos _ _ σ H _ I2 q) fun us s3 ⟨vs3, H2, I3, rv, q2⟩ => ⟨⟨pin_at I3, I3.kIn⟩, ?_⟩) hst hpl
    have z := wpAny_call (PySem.W.method_call (pin_at I3) (run_fnR (us := .ref x :: us) (vs := .ref x :: vs3) F hr hx I3 (.cons rfl rv) q2))
    refine thn z fun v4 s4 ⟨v5, H5, I5, _, q5⟩ => ?_
    exact hu.run pins s4 σ H5 Dn (unpin (unpin I5)) q5

/-! ### a def with the cell __class__, by its body -/
theorem fnr_super {CX : CXT} {P : Program} {w : World} {K : PySem.W.Frag} {mg : Str → Option Value} {base : Heap} {k : Nat} {f cc D : Addr} {F : NF} {N ps : List Str} {sp : Sp} {oc doc pm ct : Value} {od an : Option Addr} {osl : Array (Option Value)}
    (lk : K.lookup f = some ⟨oc, od, .func (PySem.W.fnX F.name F.qual F.params F.body F.scope F.cl .none .none doc pm an (.ref F.c) ct), osl⟩) (hcd : PySem.W.codeIn K (.ref F.c) F.qual = true) (hcl : F.cl = [(("__class__" : Str), cc)])
    (hcell : ∃ cl cld csl, K.lookup cc = some ⟨cl, cld, .cell (some (.ref D)), csl⟩) (S : NScope N ps ["__class__"] F.scope)
    (hb : ∀ (us : List Value), us.length = ps.length → bindArgs (PySem.W.fnX F.name F.qual F.params F.body F.scope F.cl .none .none doc pm an (.ref F.c) ct) ⟨us, []⟩ = pure (ps.zip us))
    (len : ∀ vs H Q E, sp vs H Q E → vs.length = ps.length)
    (hbody : ∀ (A : Around) (outer : List Env) (s : Shared) (H : Hp) (vs : List V) (Q : VK) (E : XK), Room k (A.deeper (envF F f s.heap.objs.size)) → sp vs H Q E →
      ∃ t, PSA (ncx CX P w K mg base N F f A outer s H E) F.body F.body t ∧ t { nx := fun _ H' => Q .non H', rt := Q } (startF N vs [some (.ref D)]) H) :
    FnR P w K mg base CX (k + 1) f sp := by
  intro A outer s H us vs Q E hr e0 r hsp
  have hl := len _ _ _ _ hsp
  have KB : K.In base := e0.mod.kin
  have KX : K.In s.heap := KB.keeps fun b o e => (e0.bs b o e).1
  have lim : s.heap.NoLimit := e0.mod.nolimit.keeps fun b o e => (e0.bs b o e).1
  obtain ⟨cl, cld, csl, hc⟩ := hcell
  have hcl1 : ∀ y c, F.cl.lookup y = some c → y = "__class__" ∧ c = cc := fun y c e => by
    rw [hcl] at e
    by_cases hy : y = ("__class__" : Str)
    · subst hy
      have e2 : some cc = some c := by
        rw [← e]
        simp [List.lookup]
      exact ⟨rfl, (Option.some.inj e2).symm⟩
    · have hb0 : (y == ("__class__" : Str)) = false := beq_eq_false_iff_ne.mpr hy
      rw [List.lookup_cons, hb0] at e
      cases e
  have C : CellsAt F.cl ["__class__"] [some (.ref D)] s.heap H := by
    refine ⟨rfl, fun y c e => ?_, fun x y c e1 e2 => ?_, fun i y e => ?_⟩
    · obtain ⟨_, rfl⟩ := hcl1 y c e
      exact ⟨(e0.bs _ _ (KB _ _ hc)).2, some (.ref D), ⟨_, KX _ _ hc, rfl⟩⟩
    · exact (hcl1 x c e1).1.trans (hcl1 y c e2).1.symm
    · cases i with
      | zero =>
        cases e
        refine ⟨cc, by rw [hcl]; simp [List.lookup], fun v e2 => ?_⟩
        cases e2
        exact ⟨.ref D, rfl, ⟨_, KX _ _ hc, rfl⟩⟩
      | succ i => cases e
  refine codeAny_call_function hr.depth (KX _ _ lk) rfl S.co S.gen rfl (PySem.W.codeRec_of KX hcd) ?_
  rw [hb us (by rw [← r.length]; exact hl)]
  refine wpAny_pure (wpAny_newFunctionEnv S.nocell (fun ⟨n, _⟩ hy => S.par n (List.of_mem_zip hy).1) (fun h₁ hns hsb => ⟨lim.fresh _ hsb, ?_⟩) S.kind)
  show codeAny _ _ (.func F.body (envF F f s.heap.objs.size)) _ _
  refine PySem.ks_codeAny_funcAt ?_
  have kp : ∀ b o, s.heap.get? b = some o → h₁.get? b = some o := fun b o e => hsb.extBut b o (Nat.ne_of_lt (Heap.lt_size e)) (Heap.get?_push_of_some _ e)
  obtain ⟨t, ht, hq⟩ := hbody A outer s H vs Q E (hr.deeper _) hsp
  have I : Inv (ncx CX P w K mg base N F f A outer s H E) [] (startF N vs [some (.ref D)]) H { s with heap := h₁, toks := s.toks + (ps.zip us).length } := inv_startN S hr.hd e0 hl r C hns kp
  refine PySem.ks_wpAt_mono (ht.run [] _ (startF N vs [some (.ref D)]) H _ I hq) (fun fl s' hs => ?_) fun e s' hs => hs
  have fin : ∀ {σ' : L2.St} {H' : Hp} {v : V} {u : Value}, Inv (ncx CX P w K mg base N F f A outer s H E) [] σ' H' s' → L2.RelV v u → Q v H' → CE outer P w H s Q u s' :=
    fun {σ' H' v u} J rv q => ⟨v, H', J.os, J.bare, J.base, J.hok, rv, q⟩
  cases fl with
  | ret u =>
    obtain ⟨v, σ', H', J, rv, q⟩ := hs
    exact fin J rv q
  | next =>
    obtain ⟨σ', H', J, q⟩ := hs
    exact fin (v := V.non) (u := Value.none) J rfl q
  | brk =>
    obtain ⟨_, _, _, q⟩ := hs
    exact False.elim q
  | cont =>
    obtain ⟨_, _, _, q⟩ := hs
    exact False.elim q

/-! ### ways joined behind a statement -/
def tJoin (t u : TS) : TS := fun D σ H => ∃ Mid : L2.St → Hp → Prop, t { D with nx := Mid } σ H ∧ ∀ σ' H', Mid σ' H' → u D σ' H'
theorem pss_join {X : Cx} {st : Stmt} {rest : List Stmt} {t u : TS} (h1 : PS X st t) (h2 : PSs X rest u) : PSs X (st :: rest) (tJoin t u) := by
  refine ⟨fun pins s σ H D I h => ?_⟩
  obtain ⟨Mid, q1, q2⟩ := h
  refine wpAny_execs_cons (thn (h1.run pins s σ H _ I q1) fun f s' hs => ?_)
  cases f with
  | next =>
    obtain ⟨σ', H', I', m⟩ := hs
    exact h2.run pins s' σ' H' D I' (q2 σ' H' m)
  | brk => exact hs
  | cont => exact hs
  | ret u => exact hs

/-! ### x(e, ..), x a local that holds the class at C -/
section
variable {X : Cx} {CX : CXT} {k i : Nat} {f C : Addr} {sp : Sp} {E : XK} {x : Str} {e : Expr} {es : List Expr} {te : TE} {t : TA} {p pos sp_ : Pos}
def tMakeL (i : Nat) (C : Addr) (sp : Sp) (E : XK) (t : TA) : TE := fun σ H Q => σ[i]? = some (some (.ref C)) ∧ tMakeR C sp E t σ H Q
theorem pe_makeL (M : Mk X.K C f) (F : FnR X.prog X.w X.K X.mg X.base CX k f sp) (hr : Room (k + 1) X.A) (hN : X.N[i]? = some x) (hv : Vis X.env.scope x) (hx : Passes CX X E) (ha : PA X (e :: es) t)
    (hdb : (x == ("__debug__" : Str)) = false := by decide) (hcd : (x == ("__classdict__" : Str)) = false := by decide)
    (he : starEach (e :: es) X.env = (false, eval e X.env) :: starEach es X.env := by rfl) (hpl : (backTo pos (starEach es X.env)).any (·.1) = false := by rfl) : PE X (.Call (.Name x p) (e :: es) [] pos) (tMakeL i C sp E t) := by
  refine ⟨fun pins s σ H Q I h => ?_⟩
  obtain ⟨hs, h⟩ := h
  refine wpAny_Call_Name_kw (thn ((pe_var (pos := p) hN hv hdb hcd).run pins s σ H (fun v H1 => v = .ref C ∧ H1 = H) I ⟨.ref C, hs, rfl, rfl⟩) fun u s1 ⟨v, H1, I1, r1, q1⟩ => ?_)
  obtain ⟨rfl, rfl⟩ := q1
  cases r1
  refine PySem.W.callWith_K (h₀ := X.base) I.ok.mod.kin M.kp (thn (ha.run pos pins s1 σ _ _ I1 h) fun us s2 ⟨vs, H2, I2, r, q⟩ => ⟨I2.kIn, ?_⟩) he hpl
  exact run_makeR M F hr hx I2 r q
/-- x(*y), x a local that holds one of several defs -/
def tCallLS (X : Cx) (CX : CXT) (k i : Nat) (E : XK) (te : TE) : TE := fun σ H Q => ∃ f sp, σ[i]? = some (some (.ref f)) ∧ FnR X.prog X.w X.K X.mg X.base CX k f sp ∧ PySem.W.keepIn X.K (.ref f) = true ∧
  te σ H fun y H1 => ∃ a xs, y = V.ref a ∧ (SqT X.K H1 a xs ∨ SqL X.K H1 a xs) ∧ sp xs H1 Q E
theorem pe_callLS (hr : Room k X.A) (hN : X.N[i]? = some x) (hv : Vis X.env.scope x) (hx : Passes CX X E) (he : PE X e te) (hdb : (x == ("__debug__" : Str)) = false := by decide) (hcd : (x == ("__classdict__" : Str)) = false := by decide)
    (hst : starEach [.Starred e sp_] X.env = [(true, eval e X.env)] := by rfl) : PE X (.Call (.Name x p) [.Starred e sp_] [] pos) (tCallLS X CX k i E te) := by
  refine ⟨fun pins s σ H Q I h => ?_⟩
  obtain ⟨f, sp, hs, F, hk, h⟩ := h
  refine wpAny_Call_Name_kw (thn ((pe_var (pos := p) hN hv hdb hcd).run pins s σ H (fun v H1 => v = .ref f ∧ H1 = H) I ⟨.ref f, hs, rfl, rfl⟩) fun u s1 ⟨v, H1, I1, r1, q1⟩ => ?_)
  obtain ⟨rfl, rfl⟩ := q1
  cases r1
  refine PySem.W.callWith_S (h₀ := X.base) I.ok.mod.kin hk (thn (he.run pins s1 σ _ _ I1 h) fun v s2 ⟨y, H2, I2, ry, a, xs, ey, hxs, q⟩ => ?_) hst
  subst ey
  obtain rfl : v = Value.ref a := ry
  exact star_any I2 hxs fun us s3 I3 rv => ⟨I3.kIn, wpAny_call (run_fnR F hr hx I3 rv q)⟩
end
end Own
/-! OwnB: defs that ask that no repr runs around them; repr of data; str of an own instance. -/
namespace Own
open PySem PySem.Spec PyProof.Rows L2
/-! ### repr of data: where no repr runs around -/
theorem call_reprD {X : Cx} (hg : X.A.guards = some []) (hu : X.A.units + 64 < cLine) : CallR X (.builtin "repr") (fun xs H Q => ∃ (a : Addr) (d : PyData), xs = [.ref a] ∧ Dp X.K H (.ref a) d ∧ d.showable = true ∧ d.hasDict = false ∧ d.depth ≤ 60 ∧ d.shown.length ≤ sizeLine ∧ Q (.str d.shown) H) := by
  intro pins s σ H xs us Q I r h
  obtain ⟨a, d, rfl, hd, hs, hn, h60, hz, q⟩ := h
  obtain ⟨u, rfl, ru⟩ := vals1 r
  have hu' : u = .ref a := ru
  subst hu'
  obtain ⟨as, rd⟩ := Dp.reads I d _ _ hd rfl
  exact repr_of_reads' rd hs (PyData.noDict_hsm hn) hg (by omega) (fun _ _ e => e) (fun h' u tk hk => ⟨.str d.shown, H, I.kept hk, ⟨u, rfl⟩, q⟩) hz
/-! ### str(o) by the class's own __str__ -/
theorem call_strO {X : Cx} {C f : Addr} {k : Nat} {sp : Sp} (F : FnR X.prog X.w X.K X.mg X.base CX0 k f sp) (hr : Room (k + 2) X.A) (hs : PySem.W.findIn X.K (.ref C) "__str__" = some (some (.ref f))) (hf : PySem.W.isFn X.K (.ref f) = true) :
    CallR X (.type "str") (fun xs H Q => ∃ (x dx : Addr) (fs : List (Str × V)), xs = [.ref x] ∧ H x = some (.ins C dx fs) ∧ sp [.ref x] H (fun v H' => ∃ y, v = .str y ∧ Q v H') E0) := by
  intro pins s σ H xs us Q I r h
  obtain ⟨x, dx, fs, rfl, hx, q⟩ := h
  obtain ⟨u, rfl, ru⟩ := vals1 r
  have hu' : u = .ref x := ru
  subst hu'
  obtain ⟨mA, O, _⟩ := ins_get I.hok hx
  obtain ⟨od, J, _⟩ := O.look
  refine PySem.W.kso_call (hr.in1.in1.units0) I.kIn J hs hf (wpAny_call (codeAny_mono (F X.A.in1.in1 X.stack s H [.ref x] [.ref x] _ E0 hr.in1.in1 I.env0.in1.in1 (.cons rfl .nil) q) fun r s' hq => ?_))
  cases r with
  | error e => exact False.elim hq
  | ok fl =>
    cases fl with
    | ret u =>
      obtain ⟨v, H', I', rv, ⟨y, rfl, q'⟩⟩ := I.after hq
      obtain ⟨t, rfl⟩ := rv
      exact ⟨.str y, H', I', ⟨t, rfl⟩, q'⟩
    | next => exact False.elim hq
    | brk => exact False.elim hq
    | cont => exact False.elim hq
/-! ### a def that is called where no repr runs -/
structure FnG (P : Program) (w : World) (K : PySem.W.Frag) (mg : Str → Option Value) (base : Heap) (CX : CXT) (k : Nat) (f : Addr) (fd : FuncData) (ps : List Str) (sp : Sp) : Prop where
  len : ∀ vs H Q E, sp vs H Q E → vs.length = ps.length
  run : ∀ (A : Around) (outer : List Env) (s : Shared) (H : Hp) (args : Args) (us : List Value) (vs : List V) (Q : VK) (E : XK), A.guards = some [] → Room k A → Env0 P w K mg base A outer s H → BindsTo s fd args (ps.zip us) → Vals vs us → sp vs H Q E →
    codeAny (model P w) A (.call (.ref f) args) (CR CX outer P w H s Q E) s
theorem fng_of {CX : CXT} {P : Program} {w : World} {K : PySem.W.Frag} {mg : Str → Option Value} {base : Heap} {k : Nat} {f : Addr} {name qual : Str} {params : Arguments} {body : List Stmt} {scope : Scope} {dV kV doc pm cdv ct oc : Value} {an od : Option Addr}
    {osl : Array (Option Value)} {N ps : List Str} {sp : Sp} (lk : K.lookup f = some ⟨oc, od, .func (PySem.W.fnOf name qual params body scope dV kV doc pm an cdv ct), osl⟩) (hcd : PySem.W.codeIn K cdv qual = true) (S : FnScope N ps scope)
    (len : ∀ vs H Q E, sp vs H Q E → vs.length = ps.length)
    (hbody : ∀ (A : Around) (outer : List Env) (s : Shared) (H : Hp) (vs : List V) (Q : VK) (E : XK), (A.deeper (envOfC qual scope s.heap.objs.size f cdv)).guards = some [] → Room k (A.deeper (envOfC qual scope s.heap.objs.size f cdv)) → sp vs H Q E →
      ∃ t, PSs (cxOf CX P w K mg base N qual scope f cdv A outer s H E) body t ∧ t { nx := fun _ H' => Q .non H', rt := Q } (start N vs) H) :
    FnG P w K mg base CX (k + 1) f (PySem.W.fnOf name qual params body scope dV kV doc pm an cdv ct) ps sp := by
  refine ⟨len, fun A outer s H args us vs Q E hg hr e0 hb r hsp => ?_⟩
  have hl := len _ _ _ _ hsp
  have KX : K.In s.heap := e0.mod.kin.keeps fun b o e => (e0.bs b o e).1
  have lim : s.heap.NoLimit := e0.mod.nolimit.keeps fun b o e => (e0.bs b o e).1
  have hkind : ∀ y ∈ ps.zip us, scope.names.lookup y.1 = some .local ∨ (scope.names.lookup y.1 = some .cell ∧ ((cellsFrom (s.heap.objs.size + 1) scope.names []).lookup y.1).isSome = true) := fun ⟨n, v⟩ hy => by
    rcases S.par n (List.of_mem_zip hy).1 with q | q
    · exact .inl q
    · exact .inr ⟨q, PySem.W.cellsFrom_some _ _ _ (.inl q)⟩
  refine codeAny_call_function hr.depth (KX _ _ lk) rfl S.co S.gen rfl (PySem.W.codeRec_of KX hcd) (hb _ _ _ _ ?_)
  refine wpAny_newFunctionEnv_cells S.kind hkind fun env he s1 x => ?_
  subst he
  refine ⟨lim.keeps x.toInCall.keep, codeAny_func ?_⟩
  obtain ⟨t, ht, hq⟩ := hbody A outer s H vs Q E hg (hr.deeper _) hsp
  have I : Inv (cxOf CX P w K mg base N qual scope f cdv A outer s H E) [] (start N vs) H s1 := inv_start S hr.hd e0 hl r x
  refine wpAny_mono (ht.run [] s1 (start N vs) H _ I hq) (fun fl s' hs => ?_) fun e s' hs => hs
  have fin : ∀ {σ' : L2.St} {H' : Hp} {v : V} {u : Value}, Inv (cxOf CX P w K mg base N qual scope f cdv A outer s H E) [] σ' H' s' → RelV v u → Q v H' → CE outer P w H s Q u s' :=
    fun {σ' H' v u} J rv q => ⟨v, H', J.os, J.bare, J.base, J.hok, rv, q⟩
  cases fl with
  | ret u =>
    obtain ⟨v, σ', H', J, rv, q⟩ := hs
    exact fin J rv q
  | next =>
    obtain ⟨σ', H', J, q⟩ := hs
    exact fin (v := V.non) (u := Value.none) J rfl q
  | brk =>
    obtain ⟨_, _, _, q⟩ := hs
    exact False.elim q
  | cont =>
    obtain ⟨_, _, _, q⟩ := hs
    exact False.elim q
theorem fun_okG {P : Program} {w : World} {K : PySem.W.Frag} {mg : Str → Option Value} {base : Heap} {x qual : Str} {st : Stmt} {f : Addr} {fd : FuncData} {N ps : List Str} {k : Nat} {sp : Sp} (F : Fun K x qual st f fd) (S : FnScope N ps (defScope st)) (len : ∀ vs H Q E, sp vs H Q E → vs.length = ps.length)
    (hbody : ∀ (cdv : Value) (A : Around) (outer : List Env) (s : Shared) (H : Hp) (vs : List V) (Q : VK) (E : XK), (A.deeper (envOfC qual (defScope st) s.heap.objs.size f cdv)).guards = some [] → Room k (A.deeper (envOfC qual (defScope st) s.heap.objs.size f cdv)) → sp vs H Q E →
      ∃ t, PSs (cxOf CX0 P w K mg base N qual (defScope st) f cdv A outer s H E).nox (defBody st) t ∧ t { nx := fun _ H' => Q .non H', rt := Q } (start N vs) H) : FnG P w K mg base CX0 (k + 1) f fd ps sp := by
  obtain ⟨oc, od, kV, doc, pm, an, cdv, ct, osl, rfl, lk, hcd⟩ := F.ex
  refine fng_of lk hcd S len fun A outer s H vs Q E hg hr hsp => ?_
  obtain ⟨t, h, q⟩ := hbody cdv A outer s H vs Q E hg hr hsp
  exact ⟨t, h.nox, q⟩
/-! ### the law's end for such a def -/
theorem law_callG {P : Program} {w : World} {K : PySem.W.Frag} {mg mb : Str → Option Value} {CX : CXT} {k : Nat} {fa a : Addr} {fd : FuncData} {x : Str} {sp : Sp} {s₁ : Shared} {vs : List Value} {ns : List Int}
    (KX : K.In s₁.heap) (hns : s₁.heap.Ns mainGlobals mg) (hb : s₁.heap.Ns builtinsNs mb) (hbb : ∀ x : Str, x ≠ "__name__" → mb x = bootBuiltins x) (hlim : s₁.heap.NoLimit) (hg : s₁.gens = #[])
    (ha : s₁.heap.get? a = some { cls := .type "list", data := .seq vs.toArray }) (hi : IntsAre vs ns) (hl : ns.length ≤ sizeLine) (hr : Room k callerA)
    (F : ∀ base : Heap, K.In base → base.Ns mainGlobals mg → FnG P w K mg base CX k fa fd [x] sp) (hbind : ∀ (s : Shared) (u : Value), BindsTo s fd ⟨[u], []⟩ [(x, u)])
    (hsp : ∀ H : Hp, Only H → SqL K H a (ns.map V.int) → sp [.ref a] H (fun v _ => v = .bl true) fun _ _ _ => False)
    (hCX : ∀ H e s', CX [] H s₁ (fun _ _ _ => False) e s' → False) :
    codeAny (model P w) callerA (.call (.ref fa) ⟨[.ref a], []⟩) (fun r s' => r = .ok (.ret (.bool true)) ∧ OldK s₁.heap s'.heap ∧ s'.os = s₁.os ∧ AllBare s'.gens) s₁ := by
  have rv := vals_ints hi
  have lenV := hi.length
  have core : ∀ H : Hp, Only H → SqL K H a (ns.map V.int) → HOk P w H s₁.heap → (∀ b, H b ≠ none → b = a) → (H a ≠ none → K.lookup a = none) →
      codeAny (model P w) callerA (.call (.ref fa) ⟨[.ref a], []⟩) (fun r s' => r = .ok (.ret (.bool true)) ∧ OldK s₁.heap s'.heap ∧ s'.os = s₁.os ∧ AllBare s'.gens) s₁ := by
    intro H hO hS hok hA hK
    have base_of : ∀ {b : Addr} {o : Obj}, s₁.heap.get? b = some o → H b = none → (hidT s₁.heap H).get? b = some o := fun e n => hidT_get e n
    have noA : ∀ {b : Addr} {o : Obj} {es : Array DictEntry} {ep : Nat}, s₁.heap.get? b = some o → o.data = .dict es ep → H b = none := fun {b o es ep} e d => by
      cases q : H b with
      | none => rfl
      | some u =>
        have e' : b = a := hA b (by rw [q]; simp)
        subst e'
        rw [ha] at e; cases e
        have d' : Data.seq vs.toArray _ = Data.dict es ep := d
        cases d'
    have nsK : ∀ {b : Addr} {m : Str → Option Value}, s₁.heap.Ns b m → (hidT s₁.heap H).Ns b m := fun {b m} ⟨o, es, ep, e, d, r⟩ => ⟨o, es, ep, base_of e (noA e d), d, r⟩
    have hKb : K.In (hidT s₁.heap H) := fun b o e => base_of (KX b o e) (by
      cases q : H b with
      | none => rfl
      | some u =>
        have e' : b = a := hA b (by rw [q]; simp)
        subst e'
        rw [hK (by rw [q]; simp)] at e; cases e)
    have hM : Mod K mg (hidT s₁.heap H) := ⟨hKb, nsK hns, ⟨mb, nsK hb, hbb⟩, let ⟨mc, h1, h2⟩ := hlim; ⟨mc, nsK h1, h2⟩⟩
    have e0 : Env0 P w K mg (hidT s₁.heap H) callerA [] s₁ H := ⟨rfl, hM, fun b o e => of_hidT e, Nat.le_of_eq (hidT_size _ _), trivial, fun b hb => absurd (show b ∈ ([] : List Addr) from hb) (by simp), hok, .of_eq hg⟩
    refine codeAny_mono ((F _ hKb (nsK hns)).run callerA [] s₁ H ⟨[.ref a], []⟩ [.ref a] [.ref a] _ _ rfl hr e0 (hbind s₁ (.ref a)) (.cons rfl .nil) (hsp H hO hS)) fun r s' h => ?_
    cases r with
    | error e => exact (hCX H e s' h).elim
    | ok fl =>
      cases fl with
      | next => exact False.elim h
      | brk => exact False.elim h
      | cont => exact False.elim h
      | ret u =>
        obtain ⟨v, H', os, bare, un, hok', r', q⟩ := h
        have q' : v = .bl true := q
        subst q'
        obtain rfl : u = Value.bool true := r'
        refine ⟨rfl, OldK.of_keep fun b o e => ?_, os, bare⟩
        cases q : H b with
        | none => exact un.keep b o e q (by intro z; exact absurd (show b ∈ ([] : List Addr) from z) (by simp)) (by simp)
        | some u =>
          rcases hO b with z | ⟨ob, xs, z⟩
          · rw [q] at z; cases z
          · have z2 := un.frzs b ob _ z
            obtain ⟨e1, _⟩ := hok b _ z
            obtain ⟨e2, _⟩ := hok' b _ z2
            rw [e] at e1; cases e1
            exact e2
  cases hk : K.lookup a with
  | some o =>
    have e := KX a o hk
    rw [ha] at e
    cases e
    refine core (fun _ => none) (fun _ => .inl rfl) (.inr ⟨_, vs.toArray, _, hk, rfl, rfl, rfl, by rw [List.size_toArray, lenV]; exact hl, by simpa using rv⟩) (fun b u z => by have z' : (none : Option HO) = some u := z; cases z') (fun b z => absurd rfl z) fun z => absurd rfl z
  | none =>
    refine core (fun b => if b = a then some (.frz { cls := .type "list", data := .seq vs.toArray } (.lst (ns.map V.int))) else none) (fun b => ?_) (.inl (.inr ⟨{ cls := .type "list", data := .seq vs.toArray }, if_pos rfl⟩)) (fun b u z => ?_) (fun b z => ?_) fun _ => hk
    · by_cases hb : b = a
      · exact .inr ⟨_, _, if_pos hb⟩
      · exact .inl (if_neg hb)
    · by_cases hb : b = a
      · have z' := (if_pos hb).symm.trans z
        cases z'
        subst hb
        exact ⟨ha, by rw [List.length_map]; exact hl, vs, _, rv, ha⟩
      · have z' := (if_neg hb).symm.trans z
        cases z'
    · by_cases hb : b = a
      · exact hb
      · exact absurd (if_neg hb) z
theorem walk_ofG {l : PySem.W.OpenLaw} {n k : Nat} {q : Program} {loose : List Str} {XP : (Str → Option Value) → Heap → Prop} {YP : World → Heap → Prop} {d : DefRec} {K : Params → PySem.W.Frag} {sp : World → Sp} {x : Str}
    (hn : l.most = some n) (hn2 : n ≤ sizeLine) (hdf : d.params.defaults = []) (hr : Room k callerA)
    (hY : ∀ (w : World) (h : Heap), YP w h → (K w.params).In h)
    (F : ∀ (w : World) (mg : Str → Option Value) (fa : Addr) (h : Heap), (K w.params).In h → h.Ns mainGlobals mg → mg d.name = some (.ref fa) →
      ∃ fd : FuncData, (∀ (s : Shared) (u : Value), BindsTo s fd ⟨[u], []⟩ [(x, u)]) ∧
        ∀ base : Heap, (K w.params).In base → base.Ns mainGlobals mg → FnG l.prog w (K w.params) mg base CX0 k fa fd [x] (sp w))
    (hsp : ∀ (w : World) (H : Hp) (a : Addr) (ns : List Int), ns.length ≤ n → Only H → SqL (K w.params) H a (ns.map V.int) → sp w [.ref a] H (fun v _ => v = .bl true) fun _ _ _ => False) :
    PySem.W.WalkO q loose XP YP l.row.toRowW d [] (fun f vs => PySem.call f vs) := by
  refine Att.attach_call hn hdf fun w s₀ s₁ mg mb fa o pm cd doc a vs ns G Y ho hd hcd hmg hobj hints hlen hg => ?_
  have KX := hY w _ Y
  obtain ⟨fd, hb, hF⟩ := F w mg fa _ KX G.T.g hmg
  exact law_callG KX G.T.g G.T.b G.T.builtins G.T.nolimit hg hobj hints (Nat.le_trans hlen hn2) hr hF hb (fun H hO hS => hsp w H a ns hlen hO hS) fun H e s' z => z
/-! ### a written dict has no other key -/
theorem miss_of {K : PySem.W.Frag} {d : Addr} {es : Array DictEntry} {n : Nat} (l : K.lookup d = some ⟨.type "dict", none, .dict es n, #[]⟩) {ks : List Str} (hk : ∀ e ∈ es.toList, ∃ x t, e.key = .str x t ∧ x ∈ ks) {z : Str} (hz : ¬ z ∈ ks) : PySem.W.nsIn K d z = some none := by
  unfold PySem.W.nsIn
  rw [l]
  dsimp only
  have h1 : es.toList.find? (·.key.isStr z) = none := by
    rw [List.find?_eq_none]
    intro e he
    obtain ⟨x, t, e1, e2⟩ := hk e he
    rw [e1, PySem.W.isStr_of]
    intro q
    obtain ⟨t', e3⟩ := Value.isStrOf_shape q
    cases e3
    exact hz e2
  have h2 : es.toList.any (·.refKey) = false := by
    rw [List.any_eq_false]
    intro e he
    obtain ⟨x, t, e1, e2⟩ := hk e he
    simp [DictEntry.refKey, e1]
  rw [h1, h2]
  rfl
end Own
/-! OwnC: a caught exception that is kept behind its except suite. -/
namespace Own
open PySem PySem.Spec PyProof.Rows L2
/-- a caught exception of the class cls, its dict at d, kept at a -/
def XO (cls : Value) (d : Option Addr) (a : Addr) : HO := .ext fun h => ∃ (oe : Obj) (vs : Array Value), h.get? a = some oe ∧ Zc cls d oe ∧ oe.data = .fields vs
theorem xo_ok {P : Program} {w : World} {H : Hp} {h : Heap} {a : Addr} {cls : Value} {d : Option Addr} {oe : Obj} {vs : Array Value} (e : h.get? a = some oe) (z : Zc cls d oe) (q : oe.data = .fields vs) : ObjOk P w H h a (XO cls d a) :=
  ⟨⟨oe, vs, e, z, q⟩, ⟨oe, e⟩, fun _ _ ⟨o, v, q, r⟩ k => ⟨o, v, k o q, r⟩⟩
theorem xo_at {P : Program} {w : World} {H : Hp} {h : Heap} {a : Addr} {cls : Value} {d : Option Addr} (x : HOk P w H h) (e : H a = some (XO cls d a)) : ∃ (oe : Obj) (vs : Array Value), h.get? a = some oe ∧ Zc cls d oe ∧ oe.data = .fields vs := by
  have z : ObjOk P w H h a (.ext fun h => ∃ (oe : Obj) (vs : Array Value), h.get? a = some oe ∧ Zc cls d oe ∧ oe.data = .fields vs) := x a _ e
  exact z.1
section
variable {X : Cx} {pins : List (Addr × Obj)} {σ : L2.St} {H : Hp} {s : Shared}
/-- an object of the heap that was not there at the entry and is not tracked yet is tracked now -/
theorem keepX (I : Inv X pins σ H s) {a : Addr} {oe : Obj} {vs : Array Value} {cls : Value} {d : Option Addr} (n0 : X.s_0.heap.get? a = none) (he : s.heap.get? a = some oe) (hz : Zc cls d oe) (hd : oe.data = .fields vs) (na : H a = none) (nL : a ≠ X.env.locals)
    (np : ∀ p ∈ X.pn ++ pins, p.1 ≠ a) : Inv X pins σ (upd H a (XO cls d a)) s := by
  refine ⟨I.ok, I.os, I.bare, ⟨I.base.keep, I.base.slot, fun b o e n hx => ?_, I.base.there, fun b xs e => ?_, fun b o u e => ?_, fun b ps e => ?_⟩, I.loc, I.cell, ?_, fun x c e => ?_, fun p hp => ?_, I.hok.laidN (fun _ _ z => z) na (xo_ok he hz hd), I.len⟩
  · have hb : b ≠ a := fun z => by rw [z, n0] at e; cases e
    rw [upd_ne hb]
    exact I.base.free b o e n hx
  · have z := I.base.tups b xs e
    rw [upd_ne (ne_of_none z na)]
    exact z
  · have z := I.base.frzs b o u e
    rw [upd_ne (ne_of_none z na)]
    exact z
  · obtain ⟨m, z⟩ := I.base.tbls b ps e
    exact ⟨m, by rw [upd_ne (ne_of_none z na)]; exact z⟩
  · rw [upd_ne nL.symm]
    exact I.free
  · obtain ⟨v, o, ho, hv⟩ := I.cell x c e
    have hc : c ≠ a := fun z => by
      rw [z, he] at ho
      cases ho
      rw [hd] at hv
      cases hv
    rw [upd_ne hc]
    exact I.freeC x c e
  · obtain ⟨e, n, ne, nf, q⟩ := I.pin p hp
    exact ⟨e, by rw [upd_ne (np p hp)]; exact n, ne, nf, q⟩
end
end Own
namespace Own
open PySem PySem.Spec PySem.Calls PyProof.Rows PySem.W
/-- an attribute that is asked for (getAttr?) of an exception of an own class and comes from a descriptor of the class: the descriptor's call decides -/
theorem exc_ask {prog : Program} {w : World} {A : Around} {E : Value → Shared → Prop} {s : Shared} {K : Frag} {x D : Addr} {ox : Obj} {od : Option Obj} {name : Str} {g u : Value} {Q : Option Value → Shared → Prop} (C : L2.ExcC K D)
    (hf : findObj K D od name = some (.bind g u)) (X : K.In s.heap) (I : InstAt s.heap x ox D od)
    (call_ : ∀ (B : Around) (E' : Value → Shared → Prop) (Q' : Value → Shared → Prop), (∀ v, v = Value.ref D → Q' v { s with toks := s.toks + 1 }) → wpAny (model prog w) B (call g [u, .ref x, .ref D]) Q' E' { s with toks := s.toks + 1 })
    (h : Q (some (.ref D)) { s with toks := s.toks + 1 }) : wpAny (model prog w) A (getAttr? (.ref x) name) Q E s := by
  have nob : (Value.builtin "BaseException.__getattribute__" == Value.builtin "object.__getattribute__") = false := by decide +kernel
  obtain ⟨hp, gs, d, t, os⟩ := s
  have cls := I.type (M := model prog w)
  have below : Looks (model prog w) hp (isInstance (.ref x) (.type "BaseException")) true := cls.andThen (looks_subIn X C.hs)
  unfold getAttr? getAttrBy? getAttrBy
  refine wpAny_bind (wpAny_mkText (wpAny_bind (wpAny_attempt (wpAny_holding (wpAny_bind (cls.at (wpAny_bind ((looks_findIn (M := model prog w) X C.hg).at ?_))))))))
  dsimp only
  rw [nob, Bool.and_false, if_neg Bool.false_ne_true]
  unfold getAttrByItsOwn hookBefore
  refine wpAny_bind ?_
  rw [if_pos (show onTheHeap (Value.ref D) = true from rfl)]
  refine (looks_findIn (M := model prog w) X C.hk).at (wpAny_bind (wpAny_attempt (wpAny_holding ?_)))
  unfold callGetattribute
  rw [Bool.false_and, if_neg Bool.false_ne_true]
  unfold boundAndCalled
  rw [PySem.F.excAttr_ValueError.ga.bind (.ref x)]
  refine wpAny_bind (wpAny_pure (wpAny_call (codeAny_call_builtin PySem.F.excAttr_ValueError.ga.plain PySem.F.entry_bexc_ga ?_)))
  refine @check_slot (model prog w) _ _ ⟨hp, gs, d, t + 1, os⟩ "BaseException.__getattribute__" "BaseException" "__getattribute__" (.ref x) [.str name t] [] _ (by decide +kernel) (by decide +kernel) below (PySem.F.args_bexc_ga (.ref x) (.str name t)) ?_
  unfold Builtin.«object.__getattribute__»
  refine wpAny_bind (wpAny_of_eq (a := ((Value.ref x : Value), [Value.str name t])) (by first | rfl | (simp only [slotArgs]; rfl)) ?_)
  refine wpAny_bind (wpAny_pure (wpAny_bind (cls.at (wpAny_bind ((looks_find (M := model prog w) X I hf).at (wpAny_bind (wpAny_holding (call_ _ _ _ fun v hv => ?_))))))))
  subst hv
  refine wpAny_pure ?_
  show wpAny _ _ (handedOut (.ref D)) _ _ _
  rw [handedOut_of (v := .ref D) rfl]
  first
    | exact wpAny_pure (wpAny_pure h)
    | exact wpAny_pure h
    | exact wpAny_pure (wpAny_bind (wpAny_pure (wpAny_pure h)))
theorem kitx_excD {K : Frag} {x D : Addr} {ox : Obj} {od : Obj} (C : L2.ExcC K D) : KitX K (.ref x) (.ref D) (fun h => InstAt h x ox D (some od)) := by
  have Z := handS_kitx_exc (x := x) (ox := ox) C.hg C.hk C.hs C.hd C.ha C.hn C.ht C.hm
  refine ⟨fun _ _ _ I => I.type, fun _ _ X I => ?_, fun h tp dd its n sl X htp => Z.ne h tp dd its n sl X htp, fun X I k => exc_ask C (findObj_data ?_ C.ha C.hn C.ht) X I (fun B E' Q' hq => wpAny_call (class_get X I C.hm (hq _ rfl))) k⟩
  · obtain ⟨cdD, hcD, _⟩ := any_some C.hd
    unfold clsIn at hcD
    split at hcD
    · rename_i c' d' cd' sl' ho
      intro A' Q' E' s' k q
      unfold isType loadHead
      exact wpAny_bind (wpAny_loadPart (k _ _ (X _ _ ho)) (wpAny_pure q))
    · cases hcD
  · obtain ⟨cd, hc, _⟩ := any_some C.hd
    rw [hc]
    rfl
end Own
namespace Own
open PySem PySem.Spec PyProof.Rows L2
/-- isinstance(x, c), x a kept exception with a dict -/
def rIsX (K : PySem.W.Frag) : List V → Hp → VK → Prop := fun xs H Q => ∃ (a D dd : Addr) (fs : List (Str × V)) (c : V) (cv : Value) (b : Bool), xs = [.ref a, c] ∧ H a = some (XO (.ref D) (some dd) a) ∧ H dd = some (.xd fs) ∧ ExcC K D ∧ (∀ u, RelV c u → u = cv) ∧ PySem.W.kitOne K (.ref D) cv = some b ∧ Q (.bl b) H
theorem xo_inst {X : Cx} {pins : List (Addr × Obj)} {σ : L2.St} {H : Hp} {s : Shared} {a D dd : Addr} {fs : List (Str × V)} (I : Inv X pins σ H s) (ha : H a = some (XO (.ref D) (some dd) a)) (hd : H dd = some (.xd fs)) :
    ∃ (oe od : Obj), PySem.W.InstAt s.heap a oe D (some od) ∧ ∃ mA : Str → Option Value, (∀ f, PySem.W.lookIn f od = some (mA f)) ∧ ∀ f, RelO (fs.lookup f) (mA f) := by
  obtain ⟨oe, vs, he, hz, hv⟩ := xo_at I.hok ha
  have hx : ObjOk X.prog X.w H s.heap dd (.xd fs) := I.hok dd _ hd
  obtain ⟨mA, hns, hr⟩ := hx
  obtain ⟨od, ho, hl⟩ := lookIn_ns hns
  exact ⟨oe, od, ⟨he, hz.1, by unfold PySem.W.notCls; rw [hv] <;> rfl, by rw [hz.2]; exact ho⟩, mA, hl, hr⟩
theorem call_isX {X : Cx} : CallR X (.builtin "isinstance") (rIsX X.K) := by
  intro pins s σ H xs us Q I r h
  obtain ⟨a, D, dd, fs, c, cv, b, rfl, ha, hd, C, hcv, e, q⟩ := h
  obtain ⟨u1, u2, rfl, r1, r2⟩ := vals2 r
  obtain rfl : u1 = Value.ref a := r1
  obtain rfl := hcv _ r2
  obtain ⟨oe, od, J, _⟩ := xo_inst I ha hd
  exact PySem.W.kia_one (kitx_excD C) I.kIn J e (fun z => nomatch z) fun tk => ⟨.bl b, H, I.kept (t' := tk) fun _ _ z => z, rfl, q⟩
/-- x.f, x a kept exception -/
def tXk (K : PySem.W.Frag) (f : Str) (te : TE) : TE := fun σ H Q => te σ H fun x H1 => ∃ (a D dd : Addr) (fs : List (Str × V)) (v : V), x = .ref a ∧ H1 a = some (XO (.ref D) (some dd) a) ∧ H1 dd = some (.xd fs) ∧ XfC K D ∧ PySem.W.findIn K (.ref D) f = some none ∧ fs.lookup f = some v ∧ Q v H1
theorem pe_xk {X : Cx} {e : Expr} {te : TE} {pos : Pos} {n : Str} (he : PE X e te) (hb : attributeBase e n X.env (eval e X.env) = eval e X.env := by rfl) : PE X (.Attribute e n pos) (tXk X.K n te) := by
  refine ⟨fun pins s σ H Q I h => ?_⟩
  refine attr_of hb (thn (he.run pins s σ H _ I h) fun u s1 hh => ?_)
  obtain ⟨x, H1, I1, rx, a, D, dd, fs, v, ex, ha, hd, T, hno, l, q⟩ := hh
  subst ex
  obtain rfl : u = Value.ref a := rx
  obtain ⟨oe, od, J, mA, hl, hr⟩ := xo_inst I1 ha hd
  obtain ⟨u, hu, ru⟩ := RelO.some_of (v := v) (o := mA n) (by rw [← l]; exact hr n)
  exact PySem.HandSPX.exc_get I1.kIn J T.ga T.gg T.exC (PySem.W.findObj_own T.hdC hno rfl (by rw [hl, hu])) (handed_of ru) ⟨v, H1, I1.tok _, ru, q⟩
end Own
namespace Own
open PySem PySem.Spec PyProof.Rows L2
/-- the ends of an except suite whose exception is kept at a: the clause's name (slot i) goes, the exception stands -/
def keptE (i : Nat) (a : Addr) (cls : Value) (d : Option Addr) (D : Ends) : Ends where
  nx := fun σ' H' => H' a = none → D.nx (σ'.set i none) (upd H' a (XO cls d a))
  rt := fun v H' => H' a = none → D.rt v (upd H' a (XO cls d a))
  bk := fun σ' H' => H' a = none → D.bk (σ'.set i none) (upd H' a (XO cls d a))
  ct := fun σ' H' => H' a = none → D.ct (σ'.set i none) (upd H' a (XO cls d a))
/-- what a clause 'except x as n' (slot i is n's) that keeps its exception wishes of an exception of the body -/
def wAsK (K : PySem.W.Frag) (c : Value) (i : Nat) (ts : Addr → Value → Option Addr → TS) (Wout : WX) (D : Ends) : WX := fun cls d σ H =>
  ∃ b, PySem.W.exmOne K cls c = some b ∧ (b = true → ∀ a, H a = none → ts a cls d (keptE i a cls d D) (σ.set i (some (.ref a))) H) ∧ (b = false → Wout cls d σ H)
section
variable {X : Cx} {x n : Str} {c : Value} {i : Nat} {body suite : List Stmt} {b₀ : Stmt} {np pos pos' : Pos} {tb : WX → TS} {ts : Addr → Value → Option Addr → TS} {Wout : WX}
/-- an end of the body of a try is one of the try -/
theorem sp_try {pins : List (Addr × Obj)} {xe : Value → Shared → Prop} {D : Ends} {s : Shared} (ok : X.Ok) : ∀ f : Flow, SP (X.tr (X.pn ++ pins) xe) [] D f s → SP X pins D f s
  | .next, ⟨_, _, J, q⟩ => ⟨_, _, J.ofTry ok, q⟩
  | .brk, ⟨_, _, J, q⟩ => ⟨_, _, J.ofTry ok, q⟩
  | .cont, ⟨_, _, J, q⟩ => ⟨_, _, J.ofTry ok, q⟩
  | .ret _, ⟨_, _, _, J, r, q⟩ => ⟨_, _, _, J.ofTry ok, r, q⟩
/-- an end of the suite, the name let go, is one of the try; the exception is tracked from here on -/
theorem sp_kept {pins : List (Addr × Obj)} {D : Ends} {a : Addr} {oe : Obj} {vs : Array Value} {cls : Value} {d : Option Addr} {s : Shared} {E : Value → Shared → Prop} (ok : X.Ok) (hN : X.N.Nodup) (hi : X.N[i]? = some n) (hl : X.env.kindOf n = some .local)
    (z : Zc cls d oe) (hd : oe.data = .fields vs) (n0 : X.s_0.heap.get? a = none) (nL : a ≠ X.env.locals) (np : ∀ p ∈ X.pn ++ pins, p.1 ≠ a) (f : Flow) (h : SP (X.suite a ((a, oe) :: (X.pn ++ pins))) [] (keptE i a cls d D) f s) :
    wpAny (model X.prog X.w) X.A (do bindName X.env n .none; unbindBehindTheSuite X.env n pos') (fun _ s7 => SP X pins D f s7) E s := by
  have go : ∀ {σ : L2.St} {H : Hp}, Inv (X.suite a ((a, oe) :: (X.pn ++ pins))) [] σ H s → (∀ s7, H a = none → Inv X pins (σ.set i none) (upd H a (XO cls d a)) s7 → SP X pins D f s7) →
      wpAny (model X.prog X.w) X.A (do bindName X.env n .none; unbindBehindTheSuite X.env n pos') (fun _ s7 => SP X pins D f s7) E s := fun {σ H} S q => by
    refine gone_ok (X := X.suite a ((a, oe) :: (X.pn ++ pins))) S hN hi hl fun s7 S7 => ?_
    have p7 := S7.pin (a, oe) (List.mem_append_left _ List.mem_cons_self)
    exact q s7 p7.2.1 (keepX (S7.unsuite ok) n0 p7.1 z hd p7.2.1 nL np)
  revert go
  revert h
  cases f with
  | next => exact fun ⟨σ, H, S, q⟩ go => go S fun s7 e J => ⟨_, _, J, q e⟩
  | brk => exact fun ⟨σ, H, S, q⟩ go => go S fun s7 e J => ⟨_, _, J, q e⟩
  | cont => exact fun ⟨σ, H, S, q⟩ go => go S fun s7 e J => ⟨_, _, J, q e⟩
  | ret u => exact fun ⟨v, σ, H, S, r, q⟩ go => go S fun s7 e J => ⟨_, _, _, J, r, q e⟩
/-- a caught exception is a new object -/
theorem caught_new {pins : List (Addr × Obj)} {σ : L2.St} {H : Hp} {sI : Shared} {B : Heap} {a : Addr} (J : Inv X pins σ H sI) (hex : X.ex = []) (nb : ∀ b o, sI.heap.get? b = some o → b ∉ frs X.stack → B.get? b = some o) (Ba : B.get? a = none) (nfr : a ∉ frs X.stack) :
    X.s_0.heap.get? a = none ∧ ∀ p ∈ X.pn ++ pins, p.1 ≠ a := by
  have nI : ∀ o, sI.heap.get? a ≠ some o := fun o e => by
    have z := nb a o e nfr
    rw [Ba] at z
    cases z
  refine ⟨?_, fun p hp z => nI p.2 (by rw [← z]; exact (J.pin p hp).1)⟩
  cases e : X.s_0.heap.get? a with
  | none => rfl
  | some o =>
    obtain ⟨o', z⟩ := J.base.there a o e (by rw [hex]; exact fun z => nomatch z)
    exact absurd z (nI o')
/-- try: body / except x as n: suite, where the suite lets its exception out into a name or a list: it is kept -/
theorem ps_try_keep (hs : X.stack = X.env :: X.outer) (hf : X.env.frame = some X.env.locals) (hex : X.ex = []) (hN : X.N.Nodup) (hi : X.N[i]? = some n) (hln : X.env.kindOf n = some .local) (hc : Names X x c) (tk : Takes X Wout)
    (hb : ∀ (W : WX) (pn : List (Addr × Obj)) (xe : Value → Shared → Prop), Takes (X.tr pn xe) W → PassesOwn (model X.prog X.w) X.A X.env xe → PSs (X.tr pn xe) body (tb W))
    (hsu : ∀ (a : Addr) (oe : Obj) (cls : Value) (d : Option Addr) (pn : List (Addr × Obj)), Zc cls d oe → (∃ vs, oe.data = .fields vs) → PSs (X.suite a ((a, oe) :: pn)) (b₀ :: suite) (ts a cls d)) :
    PS X (.Try body [.ExceptHandler (some (.Name x np)) (some n) (b₀ :: suite) pos'] [] [] pos) (fun D σ H => tb (wAsK X.K c i ts Wout D) D σ H) := by
  refine ⟨fun pins s σ H D I h => wpAny_Try_except ?_⟩
  have ok := I.ok
  refine wpAny_mono ((hb (wAsK X.K c i ts Wout D) (X.pn ++ pins) (fun e s₁ => wpAny (model X.prog X.w) X.A (noteFrame e X.env) (fun _ s₂ => wpAny (model X.prog X.w) X.A (setFlight e none) (fun _ s₃ =>
    wpAny (model X.prog X.w) X.A (handleBy e X.env [.ExceptHandler (some (.Name x np)) (some n) (b₀ :: suite) pos']) (SP X pins D) X.xe s₃) X.xe s₂) X.xe s₁) (fun u s' air => ?_) PassesOwn.looking).run [] s σ H D (I.toTry _) h) (fun f s1 e => ?_) (fun e s1 he => he)
  case refine_2 =>
    have e := sp_try ok f e
    cases f with
    | next => exact wpAny_execs_nil e
    | brk => exact e
    | cont => exact e
    | ret u => exact e
  obtain ⟨a, B, sI, ps, τ, G, cls, d, rfl, JT, nb, up, sky, na, os, ag, b, hmatch, yes, no⟩ := air
  have J : Inv X pins τ G sI := JT.ofTry ok
  show wpAny (model X.prog X.w) X.A (noteFrame (.ref a) X.env) _ _ _
  refine Sky.land (outer := X.outer) Zc.steady (by rw [ok.frames, hs]) hf (by rw [← hs]; exact sky) fun h3 fl3 up3 => ?_
  have nfr : a ∉ frs (X.env :: X.outer) := fun hm => by
    obtain ⟨o3, v3, e3, _, d3⟩ := fl3.there
    obtain ⟨_, o', e', hnf⟩ := fl3.2.2.1.mem hm
    cases e3.symm.trans e'
    exact hnf _ d3
  obtain ⟨n0, apart⟩ := caught_new J hex nb fl3.2.1 (by rw [hs]; exact nfr)
  have nL : a ≠ X.env.locals := fun z => nfr (List.mem_filterMap.mpr ⟨X.env, List.mem_cons_self, by rw [hf, z]⟩)
  have nF : a ∉ X.fs := fun hm => by
    obtain ⟨e, he, q⟩ := List.mem_filterMap.mp hm
    exact nfr (List.mem_filterMap.mpr ⟨e, List.mem_cons_of_mem _ he, q⟩)
  have J3 : Inv X pins τ G { s' with heap := h3 } := J.landed nb fl3.1 (up.trans up3) os ag
  obtain ⟨o3, v3, e3, z3, d3⟩ := fl3.there
  have S3 := J3.suite e3 d3 na nL nF
  have hcls : ∀ {Q : Value → Shared → Prop} {E : Value → Shared → Prop}, Q c { s' with heap := h3 } → wpAny (model X.prog X.w) (X.A.mark (some (.ref a))) (eval (.Name x np) X.env) Q E { s' with heap := h3 } := fun {Q E} q => by
    obtain ⟨hg, hdb, hm | ⟨hm, hv, hnn⟩⟩ := hc
    · exact ld_glob (X := X.suite a ((a, o3) :: (X.pn ++ pins))) S3 hg hm q hdb
    · exact ld_blt (X := X.suite a ((a, o3) :: (X.pn ++ pins))) S3 hg hm hv q hnn hdb
  refine wpAny_handleBy_cons (codeAny_handlers_test (hcls ((PySem.W.exm_one (M := model X.prog X.w) J3.kIn (fun A Q E s k q => wpAny_typeOf_ref (k _ _ e3) (by rw [z3.1]; exact q)) hmatch).here ?_))) (by intro q; cases q)
  cases b with
  | true =>
    refine codeAny_handlers_suite_as (HandSPX.lands_againZ fl3 fun h4 fl4 up4 => ?_)
    obtain ⟨o4, v4, e4, z4, d4⟩ := fl4.there
    have S4 := Inv.suite (J.landed (s' := { s' with heap := h4 }) nb fl4.1 ((up.trans up3).trans up4) os ag) e4 d4 na nL nF
    refine store_ok (X := X.suite a ((a, o4) :: (X.pn ++ pins))) (v := .ref a) S4 hN hi (.inl hln) rfl (fun s5 S5 => ?_) (.inr hln)
    exact wpAny_mono ((hsu a o4 cls d (X.pn ++ pins) z4 ⟨_, d4⟩).run [] s5 _ G _ S5 (yes rfl a na)) (fun f s6 q => sp_kept ok hN hi hln z4 d4 n0 nL apart f q) fun _ _ z => False.elim z
  | false =>
    show wpAny _ X.A (handleBy (.ref a) X.env []) _ _ _
    refine wpAny_handleBy_nil ?_
    obtain ⟨_, _, _, oe, vs, T, oT, _, he, hz, hd, h1, _⟩ := id fl3
    unfold PySem.passOn
    refine wpAny_bind (wpAny_field he hd h1 ?_)
    rw [if_neg (show ¬ ((Value.ref T == Value.none) = true) from by simp)]
    have out : wpAny (model X.prog X.w) X.A (setFlight (.ref a) X.env.frame) (fun _ s4 => wpAny (model X.prog X.w) X.A (throw (.ref a) : Sem Flow) (SP X pins D) X.xe s4) X.xe { s' with heap := h3 } := by
      rw [hf]
      exact HandSPX.setFlight_upZ fl3 fun h4 held up4 => wpAny_throw (tk _ _ ⟨a, B, sI, pins, τ, G, cls, d, rfl, J, nb, (up.trans up3).trans up4, .inr (.inr (by rw [hs]; exact held)), na, os, ag, no rfl⟩)
    first
      | exact wpAny_bind (wpAny_pure (wpAny_bind out))
      | exact wpAny_bind out
end
end Own
namespace Own
open PySem PySem.Spec PyProof.Rows L2 ClX
/-- a classmethod called off its class, which may raise (what it lets out may speak of the slots) -/
def tCMethS (C : Addr) (sp : Sp) (E : L2.St → XK) (ta : TE) (t : TA) : TE := fun σ H Q => ta σ H fun x H1 => x = .ref C ∧ t σ H1 fun vs H2 => sp (.ref C :: vs) H2 Q (E σ)
theorem pe_cmethS {X : Cx} {CX : CXT} {k : Nat} {C p g : Addr} {mc : Value} {sp : Sp} {E : L2.St → XK} {o e : Expr} {es : List Expr} {m : Str} {pos apos : Pos} {ta : TE} {t : TA} {pl : Sem Bool} (he : PE X o ta) (r : CRead X.K C mc) (c : CMet X.K C mc m p g)
    (F : FnR X.prog X.w X.K X.mg X.base CX k g sp) (hr : Room k X.A) (hx : ∀ σ, PassesAt CX X σ (E σ)) (ha : PA X (e :: es) t)
    (hst : starEach (e :: es) X.env = (false, eval e X.env) :: starEach es X.env := by rfl) (hpl : (backTo pos (starEach es X.env)).any (·.1) = false := by rfl)
    (ht : eval (.Call (.Attribute o m apos) (e :: es) [] pos) X.env = (do
      let ov ← eval o X.env
      standAt apos.atName
      let (f, first) ← holding [ov] (getMethod ov m pl)
      callWith pos f first (backTo pos (starEach (e :: es) X.env)) (backToKw pos (keywordEach [] X.env))) := by rfl) :
    PE X (.Call (.Attribute o m apos) (e :: es) [] pos) (tCMethS C sp E ta t) := by
  refine ⟨fun pins s σ H Q I h => ?_⟩
  refine PySem.W.methodCall_KW (pl := pl) (thn (he.run pins s σ H _ I h) fun u s1 ⟨x, H1, I1, rx, ex, q⟩ => ?_) ht
  subst ex
  obtain rfl : u = Value.ref C := rx
  refine getmethcm_ok I1 r c fun s2 I2 => ?_
  refine callwith_cm I2 (base_none I1 (Nat.le_refl _)) c.fi (thn (ha.run pos _ s2 σ H1 _ I2 q) fun us s3 ⟨vs, H2, I3, rv, q2⟩ => ⟨⟨pin_at I3, I3.kIn⟩, ?_⟩) hst hpl
  have z : wpAny (model X.prog X.w) X.A (call (.ref s1.heap.objs.size) us) (EP X ((s1.heap.objs.size, PySem.W.methodObj (.ref g) (.ref C)) :: pins) σ Q) X.xe s3 := by
    refine wpAny_call (PySem.W.method_call (pin_at I3) (codeAny_mono (F X.A X.stack s3 H2 (.ref C :: us) (.ref C :: vs) Q (E σ) hr I3.env0 (.cons rfl rv) q2) fun r s' hq => ?_))
    cases r with
    | error e => exact hx σ _ H2 s3 e s' I3 hq
    | ok fl =>
      cases fl with
      | ret u => exact I3.after hq
      | next => exact False.elim hq
      | brk => exact False.elim hq
      | cont => exact False.elim hq
  exact thn z fun _ _ y => unpinE y
end Own
/-! OwnD: sets of texts, made of a tuple or a list of any length. -/
namespace Own
open PySem PySem.Spec PySem.Calls PyProof.Rows
/-- a set that holds exactly the texts of xs; c tells by its size whether they differ -/
def SetT (prog : Program) (w : World) (h : Heap) (S : Addr) (xs : List Str) : Prop := ∃ c, h.SetOf (strKind prog w) S (fun k => decide (k ∈ xs)) c ∧ c ≤ xs.length ∧ (c = xs.length ↔ xs.Nodup)
theorem SetT.move {prog : Program} {w : World} {h h' : Heap} {S : Addr} {xs : List Str} (T : SetT prog w h S xs) (k : ∀ o, h.get? S = some o → h'.get? S = some o) : SetT prog w h' S xs := by
  obtain ⟨c, ⟨o, es, ep, t, ho, rest⟩, r⟩ := T
  exact ⟨c, ⟨o, es, ep, t, k o ho, rest⟩, r⟩
theorem SetT.more {prog : Program} {w : World} {h' : Heap} {S : Addr} {xs : List Str} {x : Str} {c : Nat} (hc : c ≤ xs.length) (hn : c = xs.length ↔ xs.Nodup)
    (T : h'.SetOf (strKind prog w) S (fun k => decide (k ∈ xs) || decide (k = x)) (if decide (x ∈ xs) then c else c + 1)) : SetT prog w h' S (xs ++ [x]) := by
  refine ⟨if decide (x ∈ xs) then c else c + 1, SetOf_congr T (fun k => by simp [List.mem_append]) rfl, ?_, ?_⟩
  · rw [List.length_append]
    split
    · exact Nat.le_trans hc (Nat.le_add_right _ _)
    · exact Nat.succ_le_succ hc
  · rw [List.length_append, List.length_singleton, List.nodup_append]
    by_cases hx : x ∈ xs
    · rw [decide_eq_true hx, if_pos rfl]
      refine ⟨fun e => by omega, fun e => ?_⟩
      exact absurd rfl (e.2.2 x hx x List.mem_cons_self)
    · rw [decide_eq_false hx, if_neg Bool.false_ne_true]
      refine ⟨fun e => ⟨hn.mp (by omega), by simp, fun a ha b hb => ?_⟩, fun e => by rw [hn.mpr e.1]⟩
      rw [List.mem_singleton] at hb
      subst hb
      exact fun z => hx (z ▸ ha)
section
variable {prog : Program} {w : World} {A : Around} {R : Result → Shared → Prop} {I : Addr} {fp wr : List Addr} {G : Array GenState → Array GenState → Prop} {n : Nat} {P : Nat → Value → Prop} {St : Nat → Shared → Prop}
/-- the loop that fills it -/
theorem fill_texts (W : WalksS prog w A.in1 I fp wr G n P St) (S : Addr) (hS : S ∉ fp) (xs : List Str) (hl : xs.length = n) (hb : n + 1 < scanBound) (hv : ∀ i v, P i v → ∃ x t, xs[i]? = some x ∧ v = .str x t) :
    ∀ (left i : Nat) (s : Shared), i + left = n → St i s → SetT prog w s.heap S (xs.take i) → (∀ s', Moved (S :: wr) G s s' → SetT prog w s'.heap S xs → R (.ok (.ret .none)) s') →
      codeAny (model prog w) A (.builtin "set.update.loop" ⟨[.ref S, .ref I], []⟩) R s := by
  have nw : S ∉ wr := fun h => hS (W.sub _ h)
  have up : ∀ b ∈ wr, b ∈ S :: wr := fun b hb => List.mem_cons_of_mem _ hb
  intro left
  induction left with
  | zero =>
    intro i s e hst T k
    have e : i = n := e
    subst e
    refine codeAny_builtin F.entry_set_update_loop ?_
    rw [Around.under_plainId F.plain_set_update_loop _]
    show wpAny _ A.in1 (pyNext (.ref I) >>= _) _ _ s
    refine wpAny_bind (W.done s _ _ hst fun s' m => wpAny_pure (k s' (m.mono up) ?_))
    rw [List.take_of_length_le (Nat.le_of_eq hl)] at T
    exact T.move fun o e => m.heap S o nw e
  | succ left ih =>
    intro i s e hst T k
    refine codeAny_builtin F.entry_set_update_loop ?_
    rw [Around.under_plainId F.plain_set_update_loop _]
    show wpAny _ A.in1 (pyNext (.ref I) >>= _) _ _ s
    refine wpAny_bind (W.item i s _ _ (by omega) hst fun v s' pv hst' m => ?_)
    obtain ⟨x, t, hx, rfl⟩ := hv i v pv
    obtain ⟨c, T1, hc, hn⟩ := T.move (h' := s'.heap) fun o e => m.heap S o nw e
    have lt : (xs.take i).length = i := by rw [List.length_take]; omega
    show wpAny _ A.in1 (holding [Value.str x t] (setAdd S (.str x t)) >>= _) _ _ s'
    refine wpAny_bind (wpAny_holding ?_)
    unfold setAdd
    refine wpAny_holding (wpAny_bind ((strKind prog w).pyHash (k := x) (strKind_is _ _ _ _) ?_))
    refine wpAny_setAddHashed_of (knd := strKind prog w) (s := { s' with toks := s'.toks + 1 }) (strKind_is _ _ _ _) rfl T1 (by rw [lt] at hc; omega) fun h' sb T2 => ?_
    have T3 : SetT prog w h' S (xs.take (i + 1)) := by
      rw [List.take_add_one, hx]
      exact SetT.more hc hn T2
    refine wpAny_pure ⟨plainId_quiet F.plain_set_update_loop _, ih (i + 1) _ (by omega) (W.frame _ s' _ _ hst' (Nat.le_succ _) fun b hb o e => ?_) T3 fun s2 m2 T4 => k s2 (Moved.trans W.gtrans ((m.mono up).then_heap (Nat.le_succ _) fun b o nb e => ?_) m2) T4⟩
    · rw [sb.2 b fun z => hS (z ▸ hb)]
      exact e
    · rw [sb.2 b fun z => nb (z ▸ List.mem_cons_self)]
      exact e
end
end Own
namespace Own
open PySem PySem.Spec PySem.Calls PyProof.Rows L2 SS
section
variable {prog : Program} {w : World} {A : Around} {E : Value → Shared → Prop} {s : Shared}
abbrev freshSet (led : Bool) : Obj := { cls := .type "set", dict := none, data := .set #[] 0 (.fresh 0 0 led) }
/-- set(x): what __init__ does at the fresh set decides -/
theorem call_set_by {x : Value} {Q : Value → Shared → Prop}
    (fill : ∀ led : Bool, wpAny (model prog w) A.in1.in1 (Builtin.«set.__init__» ⟨[.ref s.heap.objs.size, x], []⟩)
        (fun fin s' => match fin with | .done f => wants (fun r s₂ => r = .none ∧ Q (.ref s.heap.objs.size) s₂) E (.ok f) s' | .again c' => c'.quiet = true ∧ codeAny (model prog w) A.in1 c' (wants (fun r s₂ => r = .none ∧ Q (.ref s.heap.objs.size) s₂) E) s')
        (fun e s' => wants (fun r s₂ => r = .none ∧ Q (.ref s.heap.objs.size) s₂) E (.error e) s') { s with heap := s.heap.push (freshSet led) }) :
    wpAny (model prog w) A (call (.type "set") [x]) Q E s := by
  obtain ⟨c, tl, hmro⟩ := PySem.F.called_set.mro
  have hmade := PySem.F.called_set.made
  have hsub := PySem.F.called_set.sub
  have h1 := PySem.F.called_set.notType
  have h2 := PySem.F.called_set.canCreate
  have hct := PySem.F.typeCall_set_1 x
  refine wpAny_call (codeAny_of_tree ?_)
  show wpAny _ _ (callAny (.type "set") _) _ _ _
  refine wpAny_pure ⟨Code.quiet_builtin _ (by decide +kernel), codeAny_builtin PySem.F.entry_type_call ?_⟩
  rw [Around.under_plain (weight_type_call_type "set" [x] []) rfl]
  repeat (any_goals (first | assumption | wp_step))

  refine codeAny_mono (code_set_new_1 x (E := E) (Q₁ := fun obj s₁ => ∃ led : Bool, obj = .ref s.heap.objs.size ∧ s₁ = { s with heap := s.heap.push (freshSet led) }) fun led => ⟨led, rfl, rfl⟩) fun r s₁ hr => ?_
  cases r with
  | error e => exact hr
  | ok fl =>
    cases fl with
    | ret obj =>
      obtain ⟨led, rfl, rfl⟩ := hr
      have hT : Shared.TypeIs { s with heap := s.heap.push (freshSet led) } (.ref s.heap.objs.size) "set" := ⟨_, Heap.get?_push_size _ rfl, rfl⟩
      have hli := PySem.F.called_set.init.lookup
      have hbi := PySem.F.called_set.init.bind (.ref s.heap.objs.size)
      repeat (any_goals (first | assumption | wp_step))

      refine codeAny_mono (codeAny_call_builtin PySem.F.called_set.init.plain PySem.F.entry_set_init (check_set_init_1 hT (fill led))) fun r₂ s₂ hr₂ => ?_
      cases r₂ with
      | error e => exact hr₂
      | ok fl₂ =>
        cases fl₂ with
        | ret r =>
          obtain ⟨rfl, hq⟩ := hr₂
          repeat (any_goals (first | assumption | wp_step))
        | _ => exact hr₂.elim
    | _ => exact hr.elim
/-- set(l), l a tuple of texts -/
theorem call_set_texts {l : Addr} {items : Array Value} {xs : List Str} {Q : Value → Shared → Prop} (hh : A.handled = none) (hl : s.heap.IsTuple l items) (hi : StrsAre items.toList xs) (hb : xs.length + 1 < scanBound)
    (h : ∀ (h' : Heap) (tk : Nat), SetT prog w h' s.heap.objs.size xs → (∀ b o, b < s.heap.objs.size → s.heap.get? b = some o → h'.get? b = some o) → Q (.ref s.heap.objs.size) { s with heap := h', toks := tk }) :
    wpAny (model prog w) A (call (.type "set") [.ref l]) Q E s := by
  refine call_set_by fun led => ?_
  obtain ⟨hp, g, d, tk, os⟩ := s
  dsimp only at hl h ⊢
  have hS : (hp.push { cls := .type "set", dict := none, data := .set #[] 0 (.fresh 0 0 led) }).get? hp.objs.size = some { cls := .type "set", dict := none, data := .set #[] 0 (.fresh 0 0 led) } := Heap.get?_push_size _ rfl
  have hT : Shared.TypeIs ⟨hp.push { cls := .type "set", dict := none, data := .set #[] 0 (.fresh 0 0 led) }, g, d, tk, os⟩ (.ref hp.objs.size) "set" := ⟨_, hS, rfl⟩
  have hl1 : (hp.push { cls := .type "set", dict := none, data := .set #[] 0 (.fresh 0 0 led) }).IsTuple l items := hl.push _
  obtain ⟨⟨ocls, odict, odata, oslots⟩, hol, hcl, nl, hdl⟩ := id hl1
  simp only at hcl hdl
  subst hcl
  subst hdl
  have hsls := PySem.F.sub_tuple_set
  have hslf := PySem.F.sub_tuple_frozenset
  have hne : (Value.type "tuple" == Value.type "dict") = false := by decide
  unfold Builtin.«set.__init__» noKeywords Builtin.Frozenset.updateFrom
  generalize hPI : pyIter = PI
  wp_walk
  subst hPI
  refine wpAny_pyIter_tuple hl1 (wpAny_bind (wpAny_runValue ?_))
  have lS : l < hp.objs.size := let ⟨_, e, _⟩ := hl; Heap.lt_size e
  have zI : (hp.push (freshSet led)).objs.size = hp.objs.size + 1 := Heap.size_push ..
  have len : xs.length = items.size := by rw [← StrsAre.len_eq hi, Array.length_toList]
  refine fill_texts ((Walks.tuple (A := A.in1.in1.in1) (by simp [hh]) _ l (by rw [zI]; exact Nat.ne_of_lt (Nat.lt_succ_of_lt lS)) items).toS) hp.objs.size (by
      rw [zI]
      simp only [List.mem_cons, List.not_mem_nil, or_false, not_or]
      exact ⟨Nat.ne_of_lt (Nat.lt_succ_self _), Nat.ne_of_gt lS⟩) xs len (by rw [← len]; exact hb) (fun i v e => ?_) items.size 0 _ (by omega) ⟨⟨_, Heap.get?_push_size _ rfl, rfl, rfl⟩, hl1.push _⟩ ?_ fun s' m T => ?_
  · obtain ⟨t, e2⟩ := strs_at hi i v (by rw [Array.getElem?_toList]; exact e)
    have hi' : i < xs.length := by rw [len]; exact (Array.getElem?_eq_some_iff.mp e).1
    refine ⟨xs[i], t, List.getElem?_eq_getElem hi', ?_⟩
    rw [e2, List.getD_eq_getElem?_getD, List.getElem?_eq_getElem hi'] <;> rfl
  · refine ⟨0, SetOf_congr ((setObjOf_fresh (knd := strKind prog w) led).setOf (Heap.get?_push_of_some _ hS) (by unfold scanBound; omega)) (fun k => by simp) rfl, Nat.zero_le _, by simp⟩
  · obtain ⟨h', g', d', tk', os'⟩ := s'
    obtain rfl : g' = g := m.gens
    obtain rfl : d' = d := m.drawn
    obtain rfl : os' = os := m.os
    refine wpAny_pure ?_
    show wpAny _ _ (ret Value.none) _ _ _
    refine wpAny_pure ⟨rfl, h h' tk' T fun b o hb e => ?_⟩
    refine m.heap b o ?_ (Heap.get?_push_of_some _ (Heap.get?_push_of_some _ e))
    rw [zI]
    simp only [List.mem_cons, List.not_mem_nil, or_false, not_or]
    exact ⟨Nat.ne_of_lt hb, Nat.ne_of_lt (Nat.lt_succ_of_lt hb)⟩
end
end Own
namespace Own
open PySem PySem.Spec PyProof.Rows L2
/-- len(set(a)), a a tuple of texts: the number is told by whether they differ -/
def tLenSetT (K : PySem.W.Frag) (ta : TE) : TE := fun σ H Q => ta σ H fun x H1 => ∃ (l : Addr) (xs : List Str), x = .ref l ∧ SqT K H1 l (xs.map V.str) ∧ xs.length ≤ 1000 ∧
  ∀ c : Nat, c ≤ xs.length → (c = xs.length ↔ xs.Nodup) → Q (.int (c : Nat)) H1
theorem pe_lenSetT {X : Cx} {a : Expr} {ta : TE} {p p2 q pos : Pos} (hc : X.calm = true) (hg : Gl X "len") (hm : X.mg "len" = none) (hg2 : Gl X "set") (hm2 : X.mg "set" = none) (ha : PE X a ta)
    (na : starEach [a] X.env = (false, eval a X.env) :: starEach [] X.env := by rfl) : PE X (.Call (.Name "len" p) [.Call (.Name "set" p2) [a] [] q] [] pos) (tLenSetT X.K ta) := by
  refine ⟨fun pins s σ H Q I h => Call_ (ld_blt I hg hm boot_len ?_)⟩
  refine PyProof.Rows.callWith_builtin1 (PyProof.Rows.args_cons ?_ rfl) rfl rfl
  refine Call_ (ld_blt I hg2 hm2 boot_set ?_)
  refine PyProof.Rows.callWith_type1 (PyProof.Rows.args_cons (thn (ha.run pins s σ H _ I h) fun v s1 ⟨x, H1, I1, r1, l, xs, ex, ht, hl, k⟩ => PyProof.Rows.args_nil ?_) na) na rfl
  subst ex
  obtain rfl : v = Value.ref l := r1
  obtain ⟨its, r, pl, _⟩ := I1.tuple ht
  refine call_set_texts (I1.ok.hd hc) pl (by simpa using strsAre_of r) (by unfold scanBound; omega) fun h' tk T keep => PyProof.Rows.args_nil ?_
  obtain ⟨c, ⟨o, es, ep, t, ho, hex, hd, _, _, _, hf, hn⟩, hc1, hc2⟩ := T
  have I2 : Inv X pins σ H1 { s1 with heap := h', toks := tk } := I1.kept fun b o e => keep b o (Heap.lt_size e) e
  exact call_len_set ho hex hd hf (by rw [hn]; omega) ⟨.int (c : Nat), H1, I2.tok _, ⟨_, by rw [hn]⟩, k c hc1 hc2⟩
end Own
/-! OwnE: sorted(t), t a tuple of texts. -/
namespace Own
open PySem PySem.Spec PySem.Calls PyProof.Rows L2
section
variable {prog : Program} {w : World} {A : Around} {E : Value → Shared → Prop} {s : Shared}
/-- the items of a tuple, collected -/
theorem collect_tuple {l : Addr} {vs : List Value} {Q : List Value → Shared → Prop} (hl : s.heap.IsTuple l vs.toArray) (hz : vs.length ≤ sizeLine)
    (h : Q vs { s with heap := (s.heap.push (seqObj "list" #[] 0)).update s.heap.objs.size (Obj.mapSeq (· ++ vs.toArray)) }) : wpAny (model prog w) A (collect (.ref l)) Q E s := by
  obtain ⟨o, ho, hc, n, hd⟩ := hl
  have fresh : (s.heap.push (seqObj "list" #[] 0)).get? s.heap.objs.size = some (seqObj "list" #[] 0) := Heap.get?_push_size _ rfl
  have there : (s.heap.push (seqObj "list" #[] 0)).get? l = some o := Heap.get?_push_of_some _ ho
  have size : ((#[] : Array Value) ++ vs.toArray).size ≤ sizeLine + 1 := by simp only [Array.size_append, List.size_toArray, List.length_nil]; omega
  unfold collect
  refine wpAny_bind (wpAny_runValue (codeAny_builtin entry_proto_collect' ?_))
  show wpAny _ _ (do again (.builtin "list.__iadd__" ⟨[← newList [], .ref l], []⟩)) _ _ s
  refine wpAny_bind (wpAny_newList (wpAny_pure ⟨Code.quiet_builtin _ (by decide +kernel), codeAny_builtin entry_list_iadd' ?_⟩))
  show wpAny _ _ (Builtin.List.listExtendWith (.ref s.heap.objs.size) (.ref l) (.ref s.heap.objs.size)) _ _ { s with heap := s.heap.push (seqObj "list" #[] 0) }
  unfold Builtin.List.listExtendWith
  refine wpAny_bind (wpAny_typeOf (T := "tuple") ⟨o, there, hc⟩ ?_)
  rw [if_pos (show _ = true by rw [show (Value.type "tuple" == Value.type "tuple") = true from rfl]; simp)]
  refine wpAny_bind (listItems_at there hd (wpAny_bind (listItems_at (xs := #[]) (n := 0) fresh rfl ?_)))
  rw [if_neg (by simp)]
  refine wpAny_bind (listUpdate_at (xs := #[]) (n := 0) fresh rfl (wpAny_pure ?_) (Nat.zero_le _) size)
  show wpAny (model prog w) A (do
      let o ← load s.heap.objs.size
      match o.data with
      | .seq xs _ => pure xs.toList
      | _ => unsupported "internal:collect") Q E { s with heap := (s.heap.push (seqObj "list" #[] 0)).update s.heap.objs.size (Obj.mapSeq (· ++ vs.toArray)) }
  refine wpAny_bind (wpAny_load (get?_update_seq fresh _) ?_)
  show wpAny _ _ (pure ((#[] : Array Value) ++ vs.toArray).toList) Q E _
  rw [show ((#[] : Array Value) ++ vs.toArray).toList = vs by simp]
  exact wpAny_pure h
theorem sorted_texts {l : Addr} {vs : List Value} {xs : List Str} {Q : Value → Shared → Prop} (hl : s.heap.IsTuple l vs.toArray) (hS : StrsAre vs xs) (hz : vs.length ≤ sizeLine)
    (h : ∀ (out : Array Value) (ys : List Str), StrsAre out.toList ys → ys.Perm xs → sortedS ys = true → Q (.ref (s.heap.objs.size + 1)) { s with heap := sortedAll s.heap vs out }) :
    wpAny (model prog w) A (call (.builtin "sorted") [.ref l]) Q E s := by
  refine Calls.call_function_entry kind_sorted plain_sorted entry_sorted (args_sorted1 _) ?_
  unfold Builtin.«sorted»
  refine wpAny_bind (m := checkCount "sorted" 1 1 _) (wpAny_pure (wpAny_bind (collect_tuple hl hz (wpAny_bind (wpAny_newList ?_)))))
  have size : ((s.heap.push (seqObj "list" #[] 0)).update s.heap.objs.size (Obj.mapSeq (· ++ vs.toArray))).objs.size = s.heap.objs.size + 1 := by rw [Heap.size_update, size_push']
  have new : (((s.heap.push (seqObj "list" #[] 0)).update s.heap.objs.size (Obj.mapSeq (· ++ vs.toArray))).push (seqObj "list" vs.toArray 0)).get? (s.heap.objs.size + 1) = some (seqObj "list" vs.toArray 0) := by
    rw [← size]
    exact Heap.get?_push_size _ rfl
  show wpAny _ _ _ _ _ { s with heap := ((s.heap.push (seqObj "list" #[] 0)).update s.heap.objs.size (Obj.mapSeq (· ++ vs.toArray))).push (seqObj "list" vs.toArray 0) }
  rw [size]
  refine wpAny_bind (wpAny_holding (wpAny_call_entry slot_list_sort ⟨_, new, rfl⟩ entry_list_sort (list_sort_treeKAny strKind_oneLt new hS.keysOf (fun v₁ v₂ rest e => keyKind_strs (by rw [← e]; exact hS)) hz fun st' hp hs => ⟨_, rfl, ?_⟩) (args_list_sort _)))
  obtain ⟨ys, h1, h2, h3⟩ := sorted_out_str hS hp hs
  exact wpAny_pure ⟨_, rfl, h _ ys h1 h2 h3⟩
end
def rSortedT (K : PySem.W.Frag) : List V → Hp → VK → Prop := fun vs H Q => ∃ (a : Addr) (xs : List Str), vs = [V.ref a] ∧ SqT K H a (xs.map V.str) ∧
  ∀ (ys : List Str) (p : Addr), ys.Perm xs → sortedS ys = true → H p = none → Q (.ref p) (upd H p (.lst (ys.map V.str)))
theorem cr_sortedTup {X : Cx} : CallR X (.builtin "sorted") (rSortedT X.K) := by
  intro pins s σ H vs us Q I r h
  obtain ⟨a, xs, rfl, ht, q⟩ := h
  obtain ⟨its, rv, hl, hz⟩ := I.tuple ht
  rw [Vals.ref1 r]
  refine sorted_texts hl rv.strs (by rw [← rv.length]; exact hz) fun out ys h1 h2 h3 => ?_
  obtain ⟨ep, he⟩ := PyProof.Rows.sortedAll_at s.heap its out
  have len : (ys.map V.str).length ≤ sizeLine := by
    rw [List.length_map] at hz
    rw [List.length_map, h2.length_eq]
    exact hz
  exact ⟨.ref _, upd H (s.heap.objs.size + 1) (.lst (ys.map V.str)), I.laid (t' := s.toks) (fun _ _ => PyProof.Rows.sortedAll_old) (Nat.le_succ _) ⟨len, out.toList, ep, vals_of_strs h1, he⟩, rfl, q ys _ h2 h3 (I.hok.fresh (Nat.le_succ _))⟩
/-- sorted of a list of texts, of any length -/
def rSortedL (K : PySem.W.Frag) : List V → Hp → VK → Prop := fun vs H Q => ∃ (a : Addr) (xs : List Str), vs = [V.ref a] ∧ SqL K H a (xs.map V.str) ∧
  ∀ (ys : List Str) (p : Addr), ys.Perm xs → sortedS ys = true → H p = none → Q (.ref p) (upd H p (.lst (ys.map V.str)))
theorem cr_sortedLst {X : Cx} : CallR X (.builtin "sorted") (rSortedL X.K) := by
  intro pins s σ H vs us Q I r h
  obtain ⟨a, xs, rfl, ht, q⟩ := h
  obtain ⟨its, rv, hl, hz⟩ := I.list ht
  rw [Vals.ref1 r]
  refine PyProof.Rows.sorted_strsAny hl.isList rv.strs (by rw [← rv.length]; exact hz) fun out ys h1 h2 h3 => ?_
  obtain ⟨ep, he⟩ := PyProof.Rows.sortedAll_at s.heap its out
  have len : (ys.map V.str).length ≤ sizeLine := by
    rw [List.length_map] at hz
    rw [List.length_map, h2.length_eq]
    exact hz
  exact ⟨.ref _, upd H (s.heap.objs.size + 1) (.lst (ys.map V.str)), I.laid (t' := s.toks) (fun _ _ => PyProof.Rows.sortedAll_old) (Nat.le_succ _) ⟨len, out.toList, ep, vals_of_strs h1, he⟩, rfl, q ys _ h2 h3 (I.hok.fresh (Nat.le_succ _))⟩
/-- .. of ints -/
def rSortedN (K : PySem.W.Frag) : List V → Hp → VK → Prop := fun vs H Q => ∃ (a : Addr) (ns : List Int), vs = [V.ref a] ∧ SqL K H a (ns.map V.int) ∧
  ∀ (ms : List Int) (p : Addr), ms.Perm ns → ms.Pairwise (· ≤ ·) → H p = none → Q (.ref p) (upd H p (.lst (ms.map V.int)))
theorem cr_sortedInt {X : Cx} : CallR X (.builtin "sorted") (rSortedN X.K) := by
  intro pins s σ H vs us Q I r h
  obtain ⟨a, ns, rfl, ht, q⟩ := h
  obtain ⟨its, rv, hl, hz⟩ := I.list ht
  rw [Vals.ref1 r]
  have hi := rv.ints
  refine PyProof.Rows.sorted_intsAny hl.isList hi (by rw [← rv.length]; exact hz) fun out ms h1 h2 h3 => ?_
  obtain ⟨ep, he⟩ := PyProof.Rows.sortedAll_at s.heap its out
  have len : (ms.map V.int).length ≤ sizeLine := by
    rw [List.length_map] at hz
    rw [List.length_map, h2.length_eq]
    exact hz
  exact ⟨.ref _, upd H (s.heap.objs.size + 1) (.lst (ms.map V.int)), I.laid (t' := s.toks) (fun _ _ => PyProof.Rows.sortedAll_old) (Nat.le_succ _) ⟨len, out.toList, ep, vals_of_ints h1, he⟩, rfl, q ms _ h2 h3 (I.hok.fresh (Nat.le_succ _))⟩
end Own
/-! OwnF: a field as a target (a.f, b.g = ..). -/
namespace Own
open PySem PySem.Spec PyProof.Rows L2
/-- o.f = .. as a target -/
def gFld (K : PySem.W.Frag) (f : Str) (ta : TE) : TG := fun v σ H Q => ta σ H fun x H1 => ∃ a C dx fs, x = .ref a ∧ H1 a = some (.ins C dx fs) ∧ Cls K C ∧ NoAttr K C f ∧ fs.length < 1000 ∧ Q σ (upd H1 a (.ins C dx (putF f v fs)))
theorem pg_fld {X : Cx} {o : Expr} {ta : TE} {f : Str} {pos : Pos} (ha : PE X o ta) : PG X (.Attribute o f pos) (gFld X.K f ta) := by
  refine ⟨fun pins s σ H v u Q I r h => ?_⟩
  rw [PySem.assign_Attribute]
  refine wpAny_bind (wpAny_holding (thn (ha.run pins s σ H _ I h) fun ov s1 ⟨x, H1, I1, rx, a, C, dx, fs, ex, ea, c, n, l, q⟩ => ?_))
  subst ex
  obtain rfl : ov = Value.ref a := rx
  exact wpAny_bind (wpAny_standAt (wpAny_bind (wpAny_holding (setattr_ok I1 ea c n l r fun s2 I2 => wpAny_release ⟨σ, _, I2, q⟩))))
end Own
/-! OwnG: the truth of a dict with tuple keys. -/
namespace Own
open PySem PySem.Spec PyProof.Rows L2
section
variable {prog : Program} {w : World} {K : Type} [DecidableEq K] {knd : HeapKind prog w K} {A : Around} {E : Value → Shared → Prop} {s : Shared}
theorem truth_dictH {d : Addr} {xs : List (K × Addr × Value)} {Q : Bool → Shared → Prop} (hd : (d == sysModules) = false) (dd : s.heap.DictOfH knd d xs) (fit : (xs.length : Int) < 2 ^ 63) (q : ∀ s', s' = { s with toks := s.toks + 1 + 1 } → Q (!xs.isEmpty) s') :
    wpAny (model prog w) A (truthy (.ref d)) Q E s := by
  have q := q _ rfl
  have ne : ((xs.length : Int) != 0) = !xs.isEmpty := by cases xs <;> simp <;> omega
  have tl : wpAny (model prog w) A (runValue (.builtin "len" ⟨[.ref d], []⟩)) (fun r t => r = .int xs.length (s.toks + 1) ∧ Q (!xs.isEmpty) t) E s := by
    refine wpAny_runValue (codeAny_builtin entry_len (by
      rw [Around.under_plainId plain_len _]
      refine wpAny_mono (wpAny_len_body_dictH (Q := fun r t => r = .int xs.length (s.toks + 1) ∧ Q (!xs.isEmpty) t) hd dd fit ⟨rfl, q⟩) (fun fin t z => ?_) fun _ _ e => e
      obtain ⟨r, rfl, z⟩ := z
      exact z))
  have ty := dd.typeIs
  unfold truthy
  first
    | refine wpAny_bind (wpAny_callSpecial?_none (name := Str.ofString "__bool__") ty noBool_dict ?_)
    | refine wpAny_bind (wpAny_pure (wpAny_bind (wpAny_callSpecial?_none (name := Str.ofString "__bool__") ty noBool_dict ?_)))
  first
    | refine wpAny_bind (wpAny_specialOf (name := Str.ofString "__len__") ty F.slot_dict_len.lookup ?_)
    | refine wpAny_bind (wpAny_pure (wpAny_bind (wpAny_specialOf (name := Str.ofString "__len__") ty F.slot_dict_len.lookup ?_)))
  first
    | exact wpAny_bind (wpAny_mono tl (fun r t z => by obtain ⟨rfl, z⟩ := z; exact wpAny_pure (ne ▸ z)) fun _ _ e => e)
    | exact wpAny_bind (wpAny_pure (wpAny_bind (wpAny_mono tl (fun r t z => by obtain ⟨rfl, z⟩ := z; exact wpAny_pure (ne ▸ z)) fun _ _ e => e)))
end
/-- not e, e a dict with tuple keys -/
def tNotW (ta : TE) : TE := fun σ H Q => ta σ H fun x H1 => ∃ (a : Addr) (kvs : List (List Key × V)), x = .ref a ∧ H1 a = some (.dT kvs) ∧ Q (.bl kvs.isEmpty) H1
theorem pe_notW {X : Cx} {a : Expr} {ta : TE} {pos : Pos} (ha : PE X a ta) : PE X (.UnaryOp .Not a pos) (tNotW ta) := by
  refine ⟨fun pins s σ H Q I h => ?_⟩
  refine UnaryOp_ (thn (ha.run pins s σ H _ I h) fun v s1 ⟨x, H1, I1, r1, p, kvs, ex, hp, q⟩ => ?_)
  subst ex
  obtain rfl : v = .ref p := r1
  obtain ⟨z, hd, ys, rel, dd⟩ := dt_of I1.hok hp
  have hl : kvs.length = ys.length := Paired.length rel
  have he : (!ys.isEmpty) = !kvs.isEmpty := by
    cases kvs <;> cases ys <;> first | rfl | (simp at hl)
  refine not_of (truth_dictH hd dd (by rw [← hl]; rw [sizeLine_eq] at z; omega) fun t et => ?_)
  rw [et, he]
  exact ⟨.bl (!(!kvs.isEmpty)), H1, I1.tok _, rfl, by rw [Bool.not_not]; exact q⟩
end Own
/-! OwnH: a walk whose turn is any statement of the heap; the second source of a comprehension. -/
namespace Own
open PySem PySem.Spec PyProof.Rows L2
theorem out_it {J : It} {n : Nat} {G : Hp → Prop} {Y : Nat → Hp → V → Hp → Prop} (w : Walk J n G Y) {S : Hp} {Qd : Hp → Prop} {B : (Hp → Prop) → V → Hp → Prop} (Pv : Nat → Hp → Prop) (h0 : Pv 0 S) (hG : ∀ i H, i ≤ n → Pv i H → G H)
    (hs : ∀ i x H H', i < n → Pv i H → Y i H x H' → B (Pv (i + 1)) x H') (hd : ∀ H, Pv n H → Qd H) :
    ∃ W : Nat → Nat → Hp → Prop, (∃ m, W 0 m S) ∧ ∀ i m H, W i m H → (J.stop i H ∧ Qd H) ∨ (J.go i H ∧ ∃ Nx : Hp → Prop, (∀ H', Nx H' → ∃ m', m' < m ∧ W (i + 1) m' H') ∧ ∀ x H', J.yld i H x H' → B Nx x H') := by
  refine ⟨fun i m H => m + i = n ∧ Pv i H, ⟨n, rfl, h0⟩, fun i m H hw => ?_⟩
  obtain ⟨hm, p⟩ := hw
  have hi : i ≤ n := by omega
  have q := hG i H hi p
  by_cases hlt : i < n
  · refine .inr ⟨w.goes i H hlt q, Pv (i + 1), fun H' p' => ⟨n - (i + 1), by omega, by omega, p'⟩, fun x H' y => ?_⟩
    exact hs i x H H' hlt p (w.yields i H x H' hlt q y)
  · have e : i = n := by omega
    subst e
    exact .inl ⟨w.stops H q, hd H p⟩
end Own
/-! OwnI: a def with the cell __class__ and cells of its own (parameters that a comprehension reads). -/
namespace Own
open PySem PySem.Spec PyProof.Rows L2 NdefX ClX StX
theorem cells_acc : ∀ (names : List (Str × NameKind)) (n : Nat) (acc : List (Str × Addr)), cellsFrom n names acc = cellsFrom n names [] ++ acc
  | [], _, _ => rfl
  | (x, k) :: r, n, acc => by
    unfold cellsFrom
    split
    · rw [cells_acc r (n + 1) ((x, n) :: acc), cells_acc r (n + 1) [(x, n)], List.append_assoc]
      rfl
    · exact cells_acc r n acc
section
variable {M : Model} {A : Around} {E : Value → Shared → Prop} {s₀ s : Shared} {m cm : Str → Option Value} {env : Env} {cs : List (Str × Addr)}
theorem put_local {n : Str} {v : Value} {Q : Unit → Shared → Prop} (x : InCallC s₀ env.locals m cs cm s) (hk : env.scope.kind = .function) (hl : env.kindOf n = some .local) (q : ∀ t, InCallC s₀ env.locals (fun y => if y = n then some v else m y) cs cm t → Q () t) :
    wpAny M A (storeName env n v) Q E s := by
  have old := x.toInCall.fresh
  obtain ⟨g, tk, es⟩ := x.toInCall.same
  refine wpAny_storeName_local hl x.toInCall.ns (fun h' hn sb => q _ ⟨⟨?_, hn, ?_, old⟩, ?_, x.apart, x.above⟩) (by rw [hk]; rfl)
  · rw [es]
    exact ⟨h', _, rfl⟩
  · intro b o e
    have lt := Nat.lt_of_lt_of_le (Heap.lt_size e) old
    exact sb.extBut b o (Nat.ne_of_lt lt) (x.toInCall.keep b o e)
  · intro k c e
    have ab := x.above k c (mem_of_lookup e)
    exact (x.cell k c e).sameBut sb (Nat.ne_of_gt ab)
theorem put_cell {n : Str} {c : Addr} {v : Value} {Q : Unit → Shared → Prop} (x : InCallC s₀ env.locals m cs cm s) (hk : env.scope.kind = .function) (hl : env.kindOf n = some .cell) (hc : env.cells.lookup n = some c) (hc' : cs.lookup n = some c)
    (q : ∀ t, InCallC s₀ env.locals m cs (fun y => if y = n then some v else cm y) t → Q () t) : wpAny M A (storeName env n v) Q E s := by
  have ab := x.above n c (mem_of_lookup hc')
  obtain ⟨g, tk, es⟩ := x.toInCall.same
  refine wpAny_storeName_cell hk hl hc (x.cell n c hc') fun h' hn sb => q _ ⟨⟨?_, ?_, ?_, x.toInCall.fresh⟩, ?_, x.apart, x.above⟩
  · rw [es]
    exact ⟨h', _, rfl⟩
  · exact x.toInCall.ns.sameBut sb (Nat.ne_of_lt ab)
  · intro b o e
    have lt := Nat.lt_trans (Nat.lt_of_lt_of_le (Heap.lt_size e) x.toInCall.fresh) ab
    exact sb.extBut b o (Nat.ne_of_lt lt) (x.toInCall.keep b o e)
  · intro k d e
    by_cases hkn : k = n
    · subst hkn
      rw [hc'] at e
      cases e
      rw [if_pos rfl]
      exact hn
    · rw [if_neg hkn]
      refine (x.cell k d e).sameBut sb fun z => ?_
      rw [z] at e
      exact hkn (name_of_addr x.apart (mem_of_lookup e) (mem_of_lookup hc'))
theorem put_all (f : Str × Value → PUnit → Sem (ForInStep PUnit)) (hf : ∀ n v u, f (n, v) u = (do storeName env n v; pure (.yield ⟨⟩))) (hk : env.scope.kind = .function) (sub : ∀ n c, cs.lookup n = some c → env.cells.lookup n = some c) :
    ∀ (bs : List (Str × Value)) (m cm : Str → Option Value) (s : Shared) (Q : PUnit → Shared → Prop), InCallC s₀ env.locals m cs cm s → (∀ x ∈ bs, env.kindOf x.1 = some .local ∨ (env.kindOf x.1 = some .cell ∧ ∃ c, cs.lookup x.1 = some c)) →
      (∀ t, InCallC s₀ env.locals (bindL env.kindOf bs m) cs (bindC env.kindOf bs cm) t → Q ⟨⟩ t) → wpAny M A (forIn bs ⟨⟩ f) Q E s
  | [], m, cm, s, Q, x, _, q => by
    rw [List.forIn_nil]
    exact wpAny_pure (q s x)
  | (n, v) :: r, m, cm, s, Q, x, kinds, q => by
    have tl : ∀ y ∈ r, env.kindOf y.1 = some .local ∨ (env.kindOf y.1 = some .cell ∧ ∃ c, cs.lookup y.1 = some c) := fun y hy => kinds y (List.mem_cons_of_mem _ hy)
    rw [List.forIn_cons, hf]
    rcases kinds (n, v) List.mem_cons_self with hl | ⟨hl, c, hc⟩
    · refine wpAny_bind (wpAny_bind (put_local x hk hl fun t y => wpAny_pure (put_all f hf hk sub r _ _ t Q y tl fun u z => q u ?_)))
      rw [show bindL env.kindOf ((n, v) :: r) m = _ from rfl, show bindC env.kindOf ((n, v) :: r) cm = _ from rfl]
      unfold bindL bindC
      rw [if_pos hl, if_pos hl]
      exact z
    · have nl : ¬ env.kindOf n = some .local := by rw [hl]; decide
      refine wpAny_bind (wpAny_bind (put_cell x hk hl (sub n c hc) hc fun t y => wpAny_pure (put_all f hf hk sub r _ _ t Q y tl fun u z => q u ?_)))
      unfold bindL bindC
      rw [if_neg nl, if_neg nl]
      exact z
end
theorem look_app {α : Type} : ∀ {l r : List (Str × α)} {n : Str} {c : α}, l.lookup n = some c → (l ++ r).lookup n = some c
  | (k, v) :: l, r, n, c, h => by
    rw [List.lookup_cons] at h
    rw [List.cons_append, List.lookup_cons]
    cases hb : n == k with
    | true => rw [hb] at h; exact h
    | false =>
      rw [hb] at h
      exact look_app h
/-- its names: the parameters, then __class__, then its locals; parameters may be cells -/
structure DScope (N ps : List Str) (sc : Scope) : Prop where
  kind : sc.kind = .function
  co : sc.isCoroutine = false
  gen : sc.isGenerator = false
  nd : N.Nodup
  pre : N.take (ps.length + 1) = ps ++ (["__class__"] : List Str)
  par : ∀ x ∈ ps, sc.names.lookup x = some .local ∨ sc.names.lookup x = some .cell
  free : ∀ y ∈ sc.names, y.2 = .free → y.1 = "__class__"
  frk : sc.names.lookup ("__class__" : Str) = some .free
  noc : ∀ y ∈ sc.names, y.2 = .cell → y.1 ≠ "__class__"
def dscB (N ps : List Str) (sc : Scope) : Bool :=
  decide (sc.kind = .function) && !sc.isCoroutine && !sc.isGenerator && decide N.Nodup && decide (N.take (ps.length + 1) = ps ++ (["__class__"] : List Str)) && ps.all (fun x => decide (sc.names.lookup x = some .local) || decide (sc.names.lookup x = some .cell)) && sc.names.all (fun y => !decide (y.2 = .free) || decide (y.1 = "__class__")) && decide (sc.names.lookup ("__class__" : Str) = some .free) && sc.names.all (fun y => !decide (y.2 = .cell) || decide (y.1 ≠ "__class__"))
theorem dscope_by {N ps : List Str} {sc : Scope} (h : dscB N ps sc = true) : DScope N ps sc := by
  unfold dscB at h
  simp only [Bool.and_eq_true, Bool.not_eq_true', decide_eq_true_eq, List.all_eq_true, Bool.or_eq_true, decide_eq_false_iff_not] at h
  obtain ⟨⟨⟨⟨⟨⟨⟨⟨h1, h2⟩, h3⟩, h4⟩, h5⟩, h6⟩, h7⟩, h8⟩, h9⟩ := h
  exact ⟨h1, h2, h3, h4, h5, h6, fun y hy e => (h7 y hy).elim (fun z => absurd e z) id, h8, fun y hy e => (h9 y hy).elim (fun z => absurd e z) id⟩
abbrev envD (F : NF) (f L : Addr) : Env := PySem.W.envX F.qual F.scope L f (.ref F.c) (cellsFrom (L + 1) F.scope.names [] ++ F.cl)
def dcx (CX : CXT) (P : Program) (w : World) (K : PySem.W.Frag) (mg : Str → Option Value) (base : Heap) (N : List Str) (F : NF) (f : Addr) (A : Around) (outer : List Env) (s : Shared) (H : Hp) (E : XK) : Cx :=
  { ncx CX P w K mg base N F f A outer s H E with A := A.deeper (envD F f s.heap.objs.size), env := envD F f s.heap.objs.size, stack := envD F f s.heap.objs.size :: outer, xe := fun e s' => wpAny (model P w) (A.deeper (envD F f s.heap.objs.size)) (leaving (envD F f s.heap.objs.size) e) (fun _ s'' => CX outer H s E e s'') (fun e' s'' => CX outer H s E e' s'') s' }
section
variable {CX : CXT} {P : Program} {w : World} {K : PySem.W.Frag} {mg : Str → Option Value} {base : Heap} {N ps : List Str} {F : NF} {f cc D : Addr} {A : Around} {outer : List Env} {s s1 : Shared} {H : Hp} {E : XK} {us : List Value} {vs : List V}
theorem inv_startD (S : DScope N ps F.scope) (hd : A.handled = none) (e0 : Env0 P w K mg base A outer s H) (hl : vs.length = ps.length) (r : Vals vs us) (hcl : F.cl = [(("__class__" : Str), cc)]) (hc0 : H cc = none) (hc1 : s.heap.IsCell cc (some (.ref D)))
    (x : InCallC s s.heap.objs.size (bindL (envD F f s.heap.objs.size).kindOf (ps.zip us) fun _ => none) (cellsFrom (s.heap.objs.size + 1) F.scope.names []) (bindC (envD F f s.heap.objs.size).kindOf (ps.zip us) fun _ => none) s1) :
    Inv (dcx CX P w K mg base N F f A outer s H E) [] (startF N vs [some (.ref D)]) H s1 := by
  have hpl : ps.length + 1 ≤ N.length := by
    have q := congrArg List.length S.pre
    rw [List.length_take, List.length_append] at q
    have : (["__class__"] : List Str).length = 1 := rfl
    omega
  obtain ⟨h1, tk, rfl, hk⟩ := x.done
  have noA : ∀ b : Addr, b ∉ (dcx CX P w K mg base N F f A outer s H E).ex := fun b z => absurd (show b ∈ ([] : List Addr) from z) (by simp)
  have ccell : h1.IsCell cc (some (.ref D)) := by
    obtain ⟨o, ho, hd⟩ := hc1
    exact ⟨o, hk _ _ ho, hd⟩
  have cclt : cc < s.heap.objs.size := by
    obtain ⟨o, ho, _⟩ := hc1
    exact Heap.lt_size ho
  -- the two kinds of cells
  have split : ∀ y c, (cellsFrom (s.heap.objs.size + 1) F.scope.names [] ++ F.cl).lookup y = some c → (cellsFrom (s.heap.objs.size + 1) F.scope.names []).lookup y = some c ∨ (y = "__class__" ∧ c = cc) := fun y c e => by
    rw [List.lookup_append] at e
    cases q : (cellsFrom (s.heap.objs.size + 1) F.scope.names []).lookup y with
    | some d =>
      rw [q] at e
      exact .inl e
    | none =>
      rw [q, hcl] at e
      have e : ([(("__class__" : Str), cc)] : List (Str × Addr)).lookup y = some c := e
      rw [List.lookup_cons] at e
      cases hb : y == ("__class__" : Str) with
      | true =>
        rw [hb] at e
        cases e
        exact .inr ⟨beq_iff_eq.mp hb, rfl⟩
      | false =>
        rw [hb] at e
        cases e
  have noown : (cellsFrom (s.heap.objs.size + 1) F.scope.names []).lookup ("__class__" : Str) = none := by
    cases q : (cellsFrom (s.heap.objs.size + 1) F.scope.names []).lookup ("__class__" : Str) with
    | none => rfl
    | some d =>
      exfalso
      have z : ∀ (names : List (Str × NameKind)) (n : Nat) (acc : List (Str × Addr)) (y : Str) (d : Addr), (y, d) ∈ cellsFrom n names acc → (y, d) ∈ acc ∨ (y, NameKind.cell) ∈ names := by
        intro names
        induction names with
        | nil => exact fun n acc y d h => .inl h
        | cons p r ih =>
          obtain ⟨a, k⟩ := p
          intro n acc y d h
          unfold cellsFrom at h
          split at h
          · rename_i hkc
            rcases ih _ _ _ _ h with q | q
            · rcases List.mem_cons.mp q with q | q
              · cases q
                exact .inr (by rw [eq_of_beq hkc]; exact List.mem_cons_self)
              · exact .inl q
            · exact .inr (List.mem_cons_of_mem _ q)
          · rcases ih _ _ _ _ h with q | q
            · exact .inl q
            · exact .inr (List.mem_cons_of_mem _ q)
      rcases z _ _ _ _ _ (mem_of_lookup q) with q | q
      · cases q
      · exact S.noc _ q rfl rfl
  have mine : (cellsFrom (s.heap.objs.size + 1) F.scope.names [] ++ F.cl).lookup ("__class__" : Str) = some cc := by
    rw [List.lookup_append, noown, hcl]
    simp [List.lookup]
  have ab : ∀ y c, (cellsFrom (s.heap.objs.size + 1) F.scope.names []).lookup y = some c → s.heap.objs.size < c := fun y c e => x.above y c (mem_of_lookup e)
  refine ⟨⟨e0.mod, S.kind, rfl, rfl, Nat.le_refl _, fun y z c e1 e2 => ?_, fun y hy => ?_, fun y c z _ => ?_, fun _ => hd, Around.frames_deeper e0.frames, .inr ⟨rfl, rfl⟩, fun b z => absurd z (noA b), e0.bs, e0.bsz, fun b _ _ => noA b, fun b z => absurd z (noA b), e0.funs, e0.frf⟩,
    rfl, e0.bare, Un.kept hk, ⟨_, x.toInCall.ns, fun i y v e1 e2 e3 => ?_⟩, fun y c e => ?_, e0.hok.fresh (Nat.le_refl _), fun y c e => ?_, fun p hp => absurd (show p ∈ ([] : List (Addr × Obj)) from hp) (by simp), e0.hok.kept hk, ?_⟩
  · rcases split y c e1 with q1 | ⟨q1, q2⟩ <;> rcases split z c e2 with p1 | ⟨p1, p2⟩
    · exact name_of_addr x.apart (mem_of_lookup q1) (mem_of_lookup p1)
    · have := ab _ _ q1
      rw [p2] at this
      exact absurd (Nat.lt_trans cclt this) (Nat.lt_irrefl _)
    · have := ab _ _ p1
      rw [q2] at this
      exact absurd (Nat.lt_trans cclt this) (Nat.lt_irrefl _)
    · rw [q1, p1]
  · have hy : F.scope.names.lookup y = some .cell ∨ F.scope.names.lookup y = some .free := hy
    rcases hy with hy | hy
    · obtain ⟨c, e⟩ := cell_has (n := s.heap.objs.size + 1) hy
      exact ⟨c, look_app e⟩
    · have e : y = "__class__" := S.free _ (mem_of_lookup hy) rfl
      exact ⟨cc, by rw [e]; exact mine⟩
  · have z : false = true := z
    cases z
  · have e1 : N[i]? = some y := e1
    unfold startF at e2
    by_cases h1 : i < ps.length
    · have hq : (ps ++ (["__class__"] : List Str))[i]? = some y := by
        rw [← S.pre, List.getElem?_take_of_lt (by omega)]
        exact e1
      rw [List.getElem?_append_left h1] at hq
      rw [List.getElem?_append_left (by rw [List.length_map]; omega), List.getElem?_map] at e2
      obtain ⟨a, ha, ea⟩ := Option.map_eq_some_iff.mp e2
      cases ea
      obtain ⟨u, hu, rv⟩ := r.get ha
      have ndP : ps.Nodup := by
        have q := S.nd.sublist (List.take_sublist (ps.length + 1) N)
        rw [S.pre] at q
        exact (List.nodup_append.mp q).1
      refine ⟨u, rv, ?_⟩
      rcases S.par y (List.mem_of_getElem? hq) with k | k
      · exact .inl ⟨k, bindL_get ndP hq hu k⟩
      · obtain ⟨c, e⟩ := cell_has (n := s.heap.objs.size + 1) k
        refine .inr ⟨.inl k, c, look_app e, ?_⟩
        have q := x.cell y c e
        rw [bindC_get ndP hq hu (by show F.scope.names.lookup y ≠ _; rw [k]; decide)] at q
        exact q
    · rw [List.getElem?_append_right (by rw [List.length_map]; omega), List.length_map, hl] at e2
      by_cases h2 : i = ps.length
      · have hq : (ps ++ (["__class__"] : List Str))[i]? = some y := by
          rw [← S.pre, List.getElem?_take_of_lt (by omega)]
          exact e1
        rw [h2, List.getElem?_append_right (Nat.le_refl _), Nat.sub_self] at hq
        rw [h2, Nat.sub_self] at e2
        cases hq
        cases e2
        exact ⟨.ref D, rfl, .inr ⟨.inr S.frk, cc, mine, ccell⟩⟩
      · obtain ⟨j, hj⟩ : ∃ j, i - ps.length = j + 1 := ⟨i - ps.length - 1, by omega⟩
        rw [hj, List.singleton_append, List.getElem?_cons_succ, List.getElem?_replicate] at e2
        split at e2 <;> cases e2
  · rcases split y c e with q | ⟨q1, q2⟩
    · exact ⟨_, x.cell y c q⟩
    · exact ⟨_, by rw [q2]; exact ccell⟩
  · rcases split y c e with q | ⟨q1, q2⟩
    · exact e0.hok.fresh (Nat.le_of_lt (ab y c q))
    · rw [q2]
      exact hc0
  · unfold startF
    show _ = N.length
    rw [List.length_append, List.length_append, List.length_map, List.length_replicate]
    have : ([some (.ref D)] : List (Option V)).length = 1 := rfl
    omega
theorem env_clo {M : Model} {B : Around} {E' : Value → Shared → Prop} {binds : List (Str × Value)} {Q : Env → Shared → Prop} (S : DScope N ps F.scope) (hkind : ∀ x ∈ binds, F.scope.names.lookup x.1 = some .local ∨ F.scope.names.lookup x.1 = some .cell)
    (q : ∀ t, InCallC s s.heap.objs.size (bindL (envD F f s.heap.objs.size).kindOf binds fun _ => none) (cellsFrom (s.heap.objs.size + 1) F.scope.names []) (bindC (envD F f s.heap.objs.size).kindOf binds fun _ => none) t → Q (envD F f s.heap.objs.size) t) :
    wpAny M B (newFunctionEnv F.scope mainGlobals F.cl binds (F.qual ++ ".<locals>.") (some f) (.ref F.c) none builtinsNs) Q E' s := by
  simp only [newFunctionEnv, Option.isSome_none, Bool.false_eq_true, if_false]
  refine wpAny_bind (wpAny_alloc (wpAny_bind (wpAny_layCells _ (fun name kind cells => by cases z : kind == NameKind.cell <;> simp [z]) _ _ _ _ ?_)))
  have cok := cellsFrom_ok F.scope.names (s.heap.push { cls := .type "frame", data := .dict #[] }) (s.heap.objs.size + 1) [] ⟨fun _ _ z => (nomatch z), List.Pairwise.nil⟩ (by rw [Heap.size_push]; exact Nat.le_refl _)
  have size : (s.heap.push { cls := .type "frame", data := .dict #[] }).objs.size = s.heap.objs.size + 1 := Heap.size_push ..
  rw [size] at cok
  rw [show ({ s with heap := s.heap.push { cls := .type "frame", data := .dict #[] } } : Shared).heap.objs.size = s.heap.objs.size + 1 from size, cells_acc]
  have start : InCallC s s.heap.objs.size (fun _ => none) (cellsFrom (s.heap.objs.size + 1) F.scope.names []) (fun _ => none) { s with heap := pushCells (s.heap.push { cls := .type "frame", data := .dict #[] }) F.scope.names } :=
    ⟨⟨⟨_, _, rfl⟩, (Heap.Ns.new s.heap (.type "frame")).keeps (pushCells_keeps _ _), fun b o e => pushCells_keeps _ _ b o (Heap.get?_push_of_some _ e), Nat.le_refl _⟩, fun n c e => (cok.empty n c (mem_of_lookup e)).1, cok.apart, fun n c e => (cok.empty n c e).2⟩
  refine wpAny_bind (put_all (s₀ := s) (env := envD F f s.heap.objs.size) (cs := cellsFrom (s.heap.objs.size + 1) F.scope.names []) _ (fun _ _ _ => rfl) S.kind (fun n c e => look_app e) binds (fun _ => none) (fun _ => none) _ _ start (fun y hy => ?_) fun t x => wpAny_pure (q t x))
  rcases hkind y hy with z | z
  · exact .inl z
  · exact .inr ⟨z, cell_has z⟩
theorem fnr_superC {k : Nat} {sp : Sp} {oc doc pm ct : Value} {od an : Option Addr} {osl : Array (Option Value)}
    (lk : K.lookup f = some ⟨oc, od, .func (PySem.W.fnX F.name F.qual F.params F.body F.scope F.cl .none .none doc pm an (.ref F.c) ct), osl⟩) (hcd : PySem.W.codeIn K (.ref F.c) F.qual = true) (hcl : F.cl = [(("__class__" : Str), cc)])
    (hcell : ∃ cl cld csl, K.lookup cc = some ⟨cl, cld, .cell (some (.ref D)), csl⟩) (S : DScope N ps F.scope)
    (hb : ∀ (us : List Value), us.length = ps.length → bindArgs (PySem.W.fnX F.name F.qual F.params F.body F.scope F.cl .none .none doc pm an (.ref F.c) ct) ⟨us, []⟩ = pure (ps.zip us))
    (len : ∀ vs H Q E, sp vs H Q E → vs.length = ps.length)
    (hbody : ∀ (A : Around) (outer : List Env) (s : Shared) (H : Hp) (vs : List V) (Q : VK) (E : XK), Room k (A.deeper (envD F f s.heap.objs.size)) → sp vs H Q E →
      ∃ t, PSA (dcx CX P w K mg base N F f A outer s H E) F.body F.body t ∧ t { nx := fun _ H' => Q .non H', rt := Q } (startF N vs [some (.ref D)]) H) :
    FnR P w K mg base CX (k + 1) f sp := by
  intro A outer s H us vs Q E hr e0 r hsp
  have hl := len _ _ _ _ hsp
  have KB : K.In base := e0.mod.kin
  have KX : K.In s.heap := KB.keeps fun b o e => (e0.bs b o e).1
  have lim : s.heap.NoLimit := e0.mod.nolimit.keeps fun b o e => (e0.bs b o e).1
  obtain ⟨cl, cld, csl, hc⟩ := hcell
  refine codeAny_call_function hr.depth (KX _ _ lk) rfl S.co S.gen rfl (PySem.W.codeRec_of KX hcd) ?_
  rw [hb us (by rw [← r.length]; exact hl)]
  refine wpAny_pure (env_clo (f := f) S (fun ⟨n, _⟩ hy => S.par n (List.of_mem_zip hy).1) fun s1 x => ⟨lim.keeps x.toInCall.keep, ?_⟩)
  show codeAny _ _ (.func F.body (envD F f s.heap.objs.size)) _ _
  refine PySem.ks_codeAny_funcAt ?_
  obtain ⟨t, ht, hq⟩ := hbody A outer s H vs Q E (hr.deeper _) hsp
  have I : Inv (dcx CX P w K mg base N F f A outer s H E) [] (startF N vs [some (.ref D)]) H s1 := inv_startD S hr.hd e0 hl r hcl (e0.bs _ _ (KB _ _ hc)).2 ⟨_, KX _ _ hc, rfl⟩ x
  refine PySem.ks_wpAt_mono (ht.run [] _ (startF N vs [some (.ref D)]) H _ I hq) (fun fl t hs => ?_) fun e t hs => hs
  have fin : ∀ {σ' : L2.St} {H' : Hp} {v : V} {u : Value}, Inv (dcx CX P w K mg base N F f A outer s H E) [] σ' H' t → L2.RelV v u → Q v H' → CE outer P w H s Q u t :=
    fun {σ' H' v u} J rv q => ⟨v, H', J.os, J.bare, J.base, J.hok, rv, q⟩
  cases fl with
  | next =>
    obtain ⟨σ', H', J, q⟩ := hs
    exact fin (v := V.non) (u := Value.none) J rfl q
  | ret u =>
    obtain ⟨v, σ', H', J, rv, q⟩ := hs
    exact fin J rv q
  | cont =>
    obtain ⟨_, _, _, q⟩ := hs
    exact False.elim q
  | brk =>
    obtain ⟨_, _, _, q⟩ := hs
    exact False.elim q
end
end Own
/-! OwnJ: sep.join(a text). -/
namespace Own
open PySem PySem.Spec PyProof.Rows L2
theorem strs_by : ∀ (vs : List Value) (ys : List Str), vs.length = ys.length → (∀ (i : Nat) (v : Value), vs[i]? = some v → ∃ (y : Str) (t : Tok), ys[i]? = some y ∧ v = .str y t) → StrsAre vs ys
  | [], [], _, _ => .nil
  | [], _ :: _, h, _ => by cases h
  | _ :: _, [], h, _ => by cases h
  | v :: vs, y :: ys, h, k => by
    obtain ⟨z, t, e1, e2⟩ := k 0 v rfl
    cases e1
    subst e2
    exact .cons y t (strs_by vs ys (Nat.succ.inj h) fun i v e => k (i + 1) v e)
def signsOf (y : Str) : List Str := y.cps.toList.map fun c => ⟨#[c]⟩
section
variable {prog : Program} {w : World} {A : Around} {E : Value → Shared → Prop} {s : Shared}
theorem join_signs {x y : Str} {t u : Tok} {Q : Value → Shared → Prop} (hh : A.handled = none) (hy : y.cps.size ≤ sizeLine) (hok : ((signsOf y).map (·.length)).sum + (signsOf y).length * x.length ≤ 16777216)
    (hq : ∀ s' : Shared, (∀ b o, s.heap.get? b = some o → s'.heap.get? b = some o) → s'.gens = s.gens → s'.drawn = s.drawn → s'.os = s.os → ∀ t' k, Q (.str (Txt.join x (signsOf y)) t') { s' with toks := k }) :
    wpAny (model prog w) A (call (.builtin "str.join") [.str x t, .str y u]) Q E s := by
  refine wpAny_call (codeAny_call_builtin F.slot_str_join.plain F.entry_str_join (F.slot_str_join.check _ _ _ _ _ _ _ _ (typeIs_str _ _ _) (F.args_str_join_2 _ _) ?_))
  show wpAny _ A.in1 (typeOf (.str y u) >>= fun ty => _) _ _ s
  refine wpAny_bind (wpAny_typeOf (T := "str") (v := .str y u) rfl ?_)
  show wpAny _ A.in1 ((pyIter (.str y u)).tryCatch _ >>= fun it => collect it >>= fun items => joinTail x items) _ _ s
  refine wpAny_bind (wpAny_tryCatch (wpAny_pyIter_strU ?_))
  have hI : ({ s with heap := s.heap.push { cls := .type (strIterType y), data := .fields #[.str y u, .int 0 0] } } : Shared).heap.IsStrIter s.heap.objs.size (strIterType y) y u 0 := ⟨_, Heap.get?_push_size _ rfl, rfl, rfl⟩
  have hT : strIterType y = "str_ascii_iterator" ∨ strIterType y = "str_iterator" := by
    unfold strIterType
    split
    · exact .inl rfl
    · exact .inr rfl
  refine wpAny_bind (wpAny_collect_strIter hh hT hI (fun s' acc k1 k2 k3 k4 items => ?_) hy)
  have hS : StrsAre acc.toList (signsOf y) := by
    refine strs_by _ _ ?_ fun i v e => ?_
    · unfold signsOf
      rw [List.length_map, Array.length_toList, Array.length_toList, items.1]
    · obtain ⟨c, q, e1, e2⟩ := items.2 i v (by rw [← Array.getElem?_toList]; exact e)
      refine ⟨⟨#[c]⟩, q, ?_, e2⟩
      unfold signsOf
      rw [List.getElem?_map, Array.getElem?_toList, e1]
      rfl
  obtain ⟨l, hl, ht⟩ := strsAre_values hS
  rw [hl]
  rw [← ht] at hok hq
  have ok := joinOk_of hok
  unfold JoinOk at ok
  rw [Bool.not_eq_true'] at ok
  have g : Gives (joinTail x (strValues l)) (joinMade x l) := by
    have z := gives_joinTail x l ok
    cases l with
    | nil => exact z
    | cons p r =>
      cases r with
      | nil => exact z
      | cons q r => exact z
  refine g prog w A (wants Q E) s' (post_join l ⟨joinFit_length ok, hq s' (fun b o e => k1 b o (Nat.ne_of_lt (Heap.lt_size e)) (Heap.get?_push_of_some _ e)) k2 k3 k4⟩)
end
/-- sep.join(y), y a text -/
theorem mt_joinS {X : Cx} (hh : X.A.handled = none) : MtR X "str.join" (fun x xs H Q => ∃ a y : Str, x = .str a ∧ xs = [.str y] ∧ y.cps.size ≤ 1000 ∧ a.length ≤ 1000 ∧ Q (.str (Txt.join a (signsOf y))) H) := by
  intro pins s σ H x xs v us Q I rx rs h
  obtain ⟨a, y, rfl, rfl, hy, ha, q⟩ := h
  obtain ⟨t, rfl⟩ := rx
  cases rs with
  | cons r1 rs =>
    cases rs
    obtain ⟨u, rfl⟩ := r1
    have hl : (signsOf y).length = y.cps.size := by unfold signsOf; rw [List.length_map, Array.length_toList]
    have hs : ((signsOf y).map (·.length)).sum ≤ (signsOf y).length * 1 := by
      unfold signsOf
      generalize y.cps.toList = l
      induction l with
      | nil => exact Nat.zero_le _
      | cons c r ih =>
        simp only [List.map_cons, List.sum_cons, List.length_cons]
        have : ((⟨#[c]⟩ : Str)).length = 1 := rfl
        omega
    refine join_signs hh (by rw [sizeLine_eq]; omega) ?_ fun s' k1 k2 k3 k4 t' k => ?_
    · have := Nat.mul_le_mul (show (signsOf y).length ≤ 1000 by omega) ha
      omega
    · obtain ⟨h', g', d', n', o'⟩ := s'
      have e2 : g' = s.gens := k2
      have e3 : d' = s.drawn := k3
      have e4 : o' = s.os := k4
      subst e2
      subst e3
      subst e4
      exact ⟨.str _, H, I.kept (t' := k) k1, ⟨t', rfl⟩, q⟩
theorem pe_joinS {X : Cx} {o e : Expr} {to te : TE} {apos pos : Pos} (hh : X.A.handled = none) (ho : PE X o to) (he : PE X e te) (hs : starEach [e] X.env = [(false, eval e X.env)] := by rfl) (hbase : attributeBase o "join" X.env (eval o X.env) = eval o X.env := by rfl) (hline : (apos.endLine == pos.line) = true := by rfl) :
    PE X (.Call (.Attribute o "join" apos) [e] [] pos) (tM1 (fun x xs H Q => ∃ a y : Str, x = .str a ∧ xs = [.str y] ∧ y.cps.size ≤ 1000 ∧ a.length ≤ 1000 ∧ Q (.str (Txt.join a (signsOf y))) H) to te) :=
  pe_m1 F.slot_str_join F.type_str_join (mt_joinS hh) ho he hs hbase hline
end Own
/-! OwnK: a text, once or many times. -/
namespace Own
open PySem PySem.Spec PyProof.Rows L2
def repT (x : Str) (n : Int) : Str := ⟨(List.replicate n.toNat x.cps).foldl (· ++ ·) #[]⟩
theorem rep_tl (a : Array Nat) : ∀ (n : Nat) (acc : Array Nat), ((List.replicate n a).foldl (· ++ ·) acc).toList = acc.toList ++ (List.replicate n a.toList).flatten
  | 0, acc => by simp
  | n + 1, acc => by
    rw [List.replicate_succ, List.foldl_cons, rep_tl a n, List.replicate_succ, List.flatten_cons, Array.toList_append, List.append_assoc]
theorem repT_tl (x : Str) (n : Int) : (repT x n).cps.toList = (List.replicate n.toNat x.cps.toList).flatten := by
  unfold repT
  rw [rep_tl]
  rfl
theorem repT_len (x : Str) (n : Int) : (repT x n).length = n.toNat * x.length := by
  have e : (repT x n).length = (repT x n).cps.toList.length := by simp [Str.length]
  rw [e, repT_tl]
  simp [Str.length]
theorem repT_one (x : Str) : repT x 1 = x := by
  unfold repT
  show (⟨(#[] : Array Nat) ++ x.cps⟩ : Str) = x
  rw [Array.empty_append]
def rMulN : R2 := fun x y H Q => ∃ (i : Str) (n : Int), x = .str i ∧ y = .int n ∧ 1 ≤ n ∧ n ≤ 100000 ∧ 0 < i.length ∧ i.length ≤ 100 ∧ Q (.str (repT i n)) H
theorem op_mul_strN {X : Cx} : OpR X (binaryOp .Mult) rMulN := by
  intro pins s σ H x y v u Q I rx ry h
  obtain ⟨i, n, rfl, rfl, h2, h3, h4, h5, q⟩ := h
  obtain ⟨t, rfl⟩ := rx
  obtain ⟨t', rfl⟩ := ry
  have hn1 : ¬ n < 1 := by omega
  have hm : i.length * n.toNat ≤ 10000000 := by
    have : n.toNat ≤ 100000 := by omega
    exact Nat.mul_le_mul h5 this
  have hz : (repT i n).length ≤ sizeLine := by
    rw [repT_len, sizeLine_eq, Nat.mul_comm]
    omega
  refine PySem.P.mul_str (by rw [Bool.or_eq_false_iff]; exact ⟨decide_eq_false (by omega), decide_eq_false (by omega)⟩) (fun _ _ => ?_) (fun _ _ => ?_) ?_
  · have e : ((2 : Int) ^ 63 - 1) = 9223372036854775807 := by decide
    have e2 : (i.length : Int) * n = ((i.length * n.toNat : Nat) : Int) := by
      rw [Int.natCast_mul, Int.toNat_of_nonneg (by omega)]
    have h6 : (i.length : Int) ≤ (2 ^ 63 - 1) / n := Int.le_ediv_of_mul_le (by omega) (by rw [e2, e]; omega)
    omega
  · show decide (i.length * n.toNat > sizeLine) = false
    exact decide_eq_false (by rw [sizeLine_eq]; omega)
  · rw [if_neg hn1]
    by_cases h1 : n = 1
    · subst h1
      have hc : ((1 : Int) == 1 || i.length == 0) = true := rfl
      rw [if_pos hc]
      rw [repT_one] at q
      exact ⟨.str i, H, I, ⟨_, rfl⟩, q⟩
    · have hc : (n == 1 || i.length == 0) = false := by
        rw [Bool.or_eq_false_iff]
        exact ⟨beq_eq_false_iff_ne.mpr h1, beq_eq_false_iff_ne.mpr (by omega)⟩
      rw [if_neg (by rw [hc]; exact Bool.false_ne_true)]
      exact ⟨hz, ⟨.str (repT i n), H, I.tok _, ⟨_, rfl⟩, q⟩⟩
end Own
namespace K8
open PySem L2 Own StX ClX NdefX
/-! ### the text by places -/
def top (i : Nat) : Stmt := PySem.Challenge.pw_stepblocks_k08_bounds_of_texts.main.body.getD i (.Pass ⟨0, 0, 0, 0⟩)
abbrev sName : Stmt := top 12
abbrev sDN : Stmt := top (12 + 1)
abbrev sRV : Stmt := top (12 + 2)
abbrev sRP : Stmt := top (12 + 3)
abbrev sIP : Stmt := top (12 + 4)
abbrev sHead : Stmt := top (12 + 5)
abbrev sPort : Stmt := top (12 + 6)
abbrev sRows : Stmt := top (12 + 7)
abbrev sReadHead : Stmt := top (12 + 8)
abbrev sOrder : Stmt := top (12 + 9)
theorem small1 {n : Nat} (h : n ≤ 8) : n ≤ sizeLine := Nat.le_trans h (by decide)
theorem upd_new {H : Hp} {p : Addr} {o : HO} (h : H p = none) : Same H (upd H p o) := fun b u e => by
  rw [upd_ne (ne_of_none e h)]
  exact e
theorem same_put {H H1 : Hp} {p : Addr} {o : HO} (s : Same H H1) (h : H p = none) : Same H (upd H1 p o) := fun b u e => by
  rw [upd_ne (ne_of_none e h)]
  exact s b u e
/-! ### what the texts say -/
def optV : Option Int → V
  | some v => .int v
  | none => .non
def isD (c : Nat) : Bool := decide (48 ≤ c) && decide (c ≤ 57)
def dig10 (x : Str) : Bool := decide (1 ≤ x.length) && decide (x.length ≤ 10) && x.cps.toList.all isD
def readV (x : Str) : Option Int :=
  if dig10 x = true then
    if (⟨#[x.cps.toList.headD 0]⟩ : Str) = "0" ∧ ¬ x = "0" then none
    else if ((NumText.digitsVal x.cps.toList : Nat) : Int) < 4294967296 then some ((NumText.digitsVal x.cps.toList : Nat) : Int) else none
  else none
def words9 : List Str := ["const", "add", "sub", "mul", "less", "equal", "pick", "divide", "delay"]
def readP (x : Str) : Option (Str × Option Int) :=
  if (Txt.partition x " ").1 ∈ words9 then
    if (Txt.partition x " ").1 = "const" ∨ (Txt.partition x " ").1 = "delay" then (readV (Txt.partition x " ").2.2).map fun c => ((Txt.partition x " ").1, some c)
    else if (Txt.partition x " ").2.1.length = 0 then some ((Txt.partition x " ").1, none) else none
  else none
theorem isD_in (c : Nat) : decide (c ∈ (("0123456789" : Str)).cps.toList) = isD c := by
  have e : (("0123456789" : Str)).cps.toList = [48, 49, 50, 51, 52, 53, 54, 55, 56, 57] := by decide +kernel
  rw [e]
  unfold isD
  rw [Bool.eq_iff_iff]
  simp only [Bool.and_eq_true, decide_eq_true_eq, List.mem_cons, List.not_mem_nil, or_false]
  omega
theorem par_len {S : List Nat} : ∀ (l acc : List Nat) {p q : List Nat}, TL.par S acc l = some (p, q) → q.length ≤ l.length
  | [], acc, p, q, h => by cases h
  | c :: r, acc, p, q, h => by
    have h : (if TL.pre S (c :: r) = true then some (acc, (c :: r).drop S.length) else TL.par S (acc ++ [c]) r) = some (p, q) := h
    split at h
    · cases h
      rw [List.length_drop]
      omega
    · have := par_len r _ h
      rw [List.length_cons]
      omega
theorem part_rest (x : Str) : (Txt.partition x " ").2.2.length ≤ x.length := by
  rw [TL.partition_par x " " (by decide +kernel)]
  split
  · rename_i a b e
    have := par_len _ _ e
    simp only [Str.length] at *
    simpa using this
  · exact Nat.zero_le _
/-! ### an instance of Primitive -/
/-! ### names -/
def reserved : List Str := ["block", "part", "end", "self"]
def isL (c : Nat) : Bool := decide (97 ≤ c) && decide (c ≤ 122)
def isNm (x : Str) : Bool := decide (1 ≤ x.length) && decide (x.length ≤ 8) && !decide (x ∈ reserved) && x.cps.toList.all isL
def isDN (x : Str) : Bool := isNm x && !decide (x ∈ words9)
/-- what the texts module has -/
structure Txt (K : PySem.W.Frag) (w : World) (mg : Str → Option Value) : Prop where
  pp : ∃ d es n, mg "PRIMITIVE_PORTS" = some (.ref d) ∧ KDict K w d es n ∧ (∀ z ∈ words9, ∃ u, PySem.W.nsIn K d z = some (some u)) ∧ ∀ z, ¬ z ∈ words9 → PySem.W.nsIn K d z = some none
  ww : ∃ d, mg "WORDS_WITH_VALUE" = some (.ref d) ∧ ∀ H, SqT K H d [.str "const", .str "delay"]
  dg : ∃ t, mg "DIGITS" = some (.str "0123456789" t)
  md : ∃ t, mg "MOST_DIGITS" = some (.int 10 t)
  mo : ∃ t, mg "MODULUS" = some (.int 4294967296 t)
  le : ∃ t, mg "LETTERS" = some (.str "abcdefghijklmnopqrstuvwxyz" t)
  ml : ∃ t, mg "MOST_LETTERS" = some (.int 8 t)
  re : ∃ a, mg "RESERVED_WORDS" = some (.ref a) ∧ ∀ H, SqT K H a (reserved.map V.str)
  is_ : mg "isinstance" = none
  zl : mg "len" = none
  za : mg "all" = none
  zi : mg "int" = none
  zs : mg "str" = none
  zt : mg "tuple" = none
theorem isL_in (c : Nat) : decide (c ∈ (("abcdefghijklmnopqrstuvwxyz" : Str)).cps.toList) = isL c := by
  have e : (("abcdefghijklmnopqrstuvwxyz" : Str)).cps.toList = (List.range 26).map (· + 97) := by decide +kernel
  rw [e]
  unfold isL
  by_cases h : 97 ≤ c ∧ c ≤ 122
  · rw [decide_eq_true h.1, decide_eq_true h.2]
    exact decide_eq_true (List.mem_map.mpr ⟨c - 97, List.mem_range.mpr (by omega), by omega⟩)
  · have : ¬ c ∈ (List.range 26).map (· + 97) := fun hm => by
      obtain ⟨k, hk, rfl⟩ := List.mem_map.mp hm
      have := List.mem_range.mp hk
      omega
    rw [decide_eq_false this]
    by_cases h1 : 97 ≤ c
    · rw [decide_eq_true h1, decide_eq_false (fun h2 => h ⟨h1, h2⟩)]
      rfl
    · rw [decide_eq_false h1]
      rfl
theorem inV_strs (z : Str) (l : List Str) : inV (.str z) (l.map V.str) = decide (z ∈ l) := by
  induction l with
  | nil => rfl
  | cons a r ih =>
    show (eqV (.str a) (.str z) || inV (.str z) (r.map V.str)) = _
    rw [ih]
    have e : eqV (.str a) (.str z) = decide (z = a) := by
      show (a == z) = _
      by_cases h : z = a
      · rw [decide_eq_true h, h]
        exact beq_self_eq_true _
      · rw [decide_eq_false h]
        exact beq_eq_false_iff_ne.mpr fun q => h q.symm
    rw [e]
    by_cases h : z = a
    · simp [h]
    · simp [h]
theorem sl (a b : Str) : (a ++ b).length = a.length + b.length := by rw [TL.len_tl, TL.len_tl a, TL.len_tl b, TL.tl_append, List.length_append]
theorem readP_word {x z : Str} {c : Option Int} (h : readP x = some (z, c)) : z ∈ words9 := by
  unfold readP at h
  split at h
  · rename_i hw
    split at h
    · cases e : readV (Txt.partition x " ").2.2 with
      | none => rw [e] at h; cases h
      | some v => rw [e] at h; cases h; exact hw
    · split at h
      · cases h; exact hw
      · cases h
  · cases h
theorem ww9 (z : Str) (h : z ∈ words9) : inV (.str z) [.str "const", .str "delay"] = decide (z = "const" ∨ z = "delay") := by
  simp only [words9, List.mem_cons, List.not_mem_nil, or_false] at h
  rcases h with rfl | rfl | rfl | rfl | rfl | rfl | rfl | rfl | rfl <;> decide +kernel
def spRV : Sp := fun vs H Q _ => ∃ x : Str, vs = [.str x] ∧ x.length ≤ sizeLine ∧ ∀ H', Same H H' → Q (optV (readV x)) H'
def spRP : Sp := fun vs H Q _ => ∃ x : Str, vs = [.str x] ∧ x.length ≤ sizeLine ∧ (readP x = none → ∀ H', Same H H' → Q .non H') ∧
  (∀ z c, readP x = some (z, c) → ∀ t H', Same H H' → H t = none → H' t = some (.tup [.str z, optV c]) → Q (.ref t) H')
def spName : Sp := fun vs H Q _ => ∃ x : Str, vs = [.str x] ∧ x.length ≤ sizeLine ∧ ∀ H', Same H H' → Q (.bl (isNm x)) H'
def spDN : Sp := fun vs H Q _ => ∃ x : Str, vs = [.str x] ∧ x.length ≤ sizeLine ∧ ∀ H', Same H H' → Q (.bl (isDN x)) H'
def spIP : Sp := fun vs H Q _ => ∃ x : Str, vs = [.str x] ∧ x.length ≤ sizeLine ∧ ∀ H', Same H H' → Q (.bl (readP x).isSome) H'
section
variable {P : Program} {w : World} {K : PySem.W.Frag} {mg : Str → Option Value} {base : Heap}
theorem scRV : FnScope ["text", "value", "sign"] ["text"] (defScope sRV) := ⟨rfl, rfl, rfl, by decide +kernel, rfl, by decide +kernel, by decide +kernel⟩
theorem ok_rv {f : Addr} {fd : FuncData} (F : Fun K "read_value" "read_value" sRV f fd) (T : Txt K w mg) : FnOk P w K mg base CX0 1 f fd ["text"] spRV := by
  refine F.ok scRV (fun vs H Q E h => ?_) (fun cdv A outer s H vs Q E hr h => ?_)
  · obtain ⟨x, rfl, _⟩ := h
    rfl
  obtain ⟨x, rfl, hx, k⟩ := h
  obtain ⟨tD, mD⟩ := T.dg
  obtain ⟨tM, mM⟩ := T.md
  obtain ⟨tO, mO⟩ := T.mo
  refine ⟨_, pss_cons (ps_if (PW.pt (pw_or (pt_not (pt_chain op_le op_le pe_int (pe_callB call_len_str (by rfl) T.zl PySem.boot_len (pa_cons (pv 0) pa_nil)) (pe_glob (v := .int 10) rfl mM ⟨_, rfl⟩)))
      (pw_or1 (pt_not (pt_val (pe_callB (cr_all rfl) (by rfl) T.za (by decide +kernel) (pa_cons (pe_lc (own := [("sign", 2)]) (g := gName 2) rfl scRV.nd (pi_str (pv 0)) (blkOk_by (own := [("sign", 2)]) (N := ["text", "value", "sign"]) (sc := defScope sRV) (by decide +kernel)) (fun _ _ _ _ _ => pg_name (i := 2) scRV.nd rfl (Or.inl rfl)) (fun _ _ _ _ _ => pts_nil)
        (fun _ _ _ _ _ => pe_cmpR op_in_sign (pv 2) (pe_glob (v := .str "0123456789") rfl mD ⟨_, rfl⟩) (by rfl))) pa_nil))))))) (pss_one (ps_ret pe_non)) pss_nil)
    (pss_cons (ps_if (PW.pt (pw_and (pt_cmpR op_eq (pe_ix ix_str (pv 0) pe_int (fun _ _ => rfl)) pe_str (nomark _)) (pw_and1 (pt_cmpR op_ne (pv 0) pe_str (nomark _))))) (pss_one (ps_ret pe_non)) pss_nil)
    (pss_cons (ps_set (i := 1) scRV.nd rfl (.inl rfl) (pe_callTy call_int_str (by rfl) T.zi (by decide +kernel) (pa_cons (pv 0) pa_nil)))
    (pss_one (ps_ret (pe_ifExp (pt_cmpR op_lt (pv 1) (pe_glob (v := .int 4294967296) rfl mO ⟨_, rfl⟩) (nomark _)) (pv 1) pe_non))))), ?_⟩
  have hsz : x.cps.toList.length = x.length := by simp [Str.length]
  have back : ∀ H', Same H H' → readV x = none → Q .non H' := fun H' s' e => by
    have z := k H' s'
    rw [e] at z
    exact z
  refine ⟨_, rfl, _, rfl, hx, _, _, rfl, rfl, _, rfl, ?_⟩
  by_cases h1 : (1 : Int) ≤ (x.length : Int)
  case neg =>
    rw [decide_eq_false h1]
    refine iteF ⟨_, rfl, iteT (back H (Same.refl H) ?_)⟩
    unfold readV dig10
    rw [if_neg]
    rw [decide_eq_false (show ¬ 1 ≤ x.length by omega)]
    simp
  rw [decide_eq_true h1]
  refine iteT ⟨_, _, rfl, rfl, _, rfl, ?_⟩
  by_cases h2 : (x.length : Int) ≤ 10
  case neg =>
    rw [decide_eq_false h2]
    refine iteT (back H (Same.refl H) ?_)
    unfold readV dig10
    rw [if_neg]
    rw [decide_eq_false (show ¬ x.length ≤ 10 by omega)]
    simp
  rw [decide_eq_true h2]
  refine iteF ⟨_, rfl, x, rfl, fun D hD => ?_⟩
  refine lc_it walk_str (fun i H' => Same H H' ∧ H' D = some (.lst ((x.cps.toList.take i).map fun c => V.bl (isD c)))) ⟨upd_new hD, upd_same⟩ (fun _ _ _ _ => True.intro) ?_ ?_
  · rintro i v H1 H2 hi ⟨s1, a1⟩ ⟨rfl, c, hc, rfl⟩
    have hc' : x.cps.toList[i]? = some c := by simpa using hc
    refine ⟨rfl, ?_⟩
    refine ⟨_, rfl, c, _, rfl, rfl, ?_⟩
    rw [isD_in]
    have hl : ((x.cps.toList.take i).map fun c => V.bl (isD c)).length < sizeLine := by
      rw [List.length_map, List.length_take]
      have : i < x.length := hi
      exact Nat.lt_of_le_of_lt (Nat.min_le_left _ _) (by have := small1000 (n := i) (by omega); exact this)
    refine ⟨_, a1, hl, same_put s1 hD, ?_⟩
    rw [upd_same, List.take_succ, hc']
    simp
  rintro H1 ⟨s1, a1⟩
  rw [List.take_of_length_le (show x.cps.toList.length ≤ x.cps.size by simp)] at a1
  refine ⟨D, x.cps.toList.map isD, rfl, .of (by rw [a1, List.map_map]; rfl), true && (x.cps.toList.map isD).all id, by simp, ?_⟩
  have hall : (x.cps.toList.map isD).all id = x.cps.toList.all isD := by rw [List.all_map]; rfl
  rw [hall, Bool.true_and]
  cases h3 : x.cps.toList.all isD with
  | false =>
    refine iteT (back H1 s1 ?_)
    unfold readV dig10
    rw [if_neg]
    rw [h3]
    simp
  | true =>
    have hd : dig10 x = true := by
      unfold dig10
      rw [h3, decide_eq_true (show 1 ≤ x.length by omega), decide_eq_true (show x.length ≤ 10 by omega)]
      rfl
    have hne : x.cps.toList ≠ [] := fun e => by rw [e] at hsz; simp at hsz; omega
    obtain ⟨c0, r0, he⟩ := List.exists_cons_of_ne_nil hne
    have hA : NumText.AllDigits x.cps.toList := fun c hc => by
      have z := List.all_eq_true.mp h3 c hc
      unfold isD at z
      simp only [Bool.and_eq_true, decide_eq_true_eq] at z
      exact z
    have hI : intText? x = some ((NumText.digitsVal x.cps.toList : Nat) : Int) := intText_digits hA hne (by omega)
    refine iteF ⟨_, rfl, x, 0, c0, rfl, rfl, hx, (by rw [he]; exact atI_nat (j := 0) rfl), rfl, _, rfl, ?_⟩
    have hh : x.cps.toList.headD 0 = c0 := by rw [he]; rfl
    have tail : ¬ ((⟨#[x.cps.toList.headD 0]⟩ : Str) = "0" ∧ ¬ x = "0") →
        tSeq (tAsg (tCB (fun xs H Q => ∃ a n, xs = [V.str a] ∧ intText? a = some n ∧ a.length ≤ 640 ∧ Q (.int n) H) (tCons (tVar 0) tNil)) (gName 1))
          (tRet (tIf (tTest (tOp (rI0 fun i j => .bl (decide (i < j))) (tVar 1) (tC (.int 4294967296)))) (tVar 1) (tC .non))) { nx := fun _ H' => Q .non H', rt := Q } [some (.str x), none, none] H1 := by
      intro hn
      have hv : readV x = if ((NumText.digitsVal x.cps.toList : Nat) : Int) < 4294967296 then some ((NumText.digitsVal x.cps.toList : Nat) : Int) else none := by
        unfold readV
        rw [if_pos hd, if_neg hn]
      refine ⟨_, rfl, x, _, rfl, hI, by omega, ?_⟩
      generalize ((NumText.digitsVal x.cps.toList : Nat) : Int) = v at hv
      refine ⟨_, rfl, v, 4294967296, rfl, rfl, _, rfl, ?_⟩
      by_cases h6 : v < 4294967296
      · rw [decide_eq_true h6]
        refine iteT ⟨_, rfl, ?_⟩
        have z := k H1 s1
        rw [hv, if_pos h6] at z
        exact z
      · rw [decide_eq_false h6]
        rw [if_neg h6] at hv
        exact iteF (back H1 s1 hv)
    by_cases h4 : (⟨#[c0]⟩ : Str) = "0"
    · rw [decide_eq_true (show V.str (⟨#[c0]⟩ : Str) = V.str "0" from congrArg V.str h4)]
      refine iteT ⟨_, rfl, rfl, _, rfl, ?_⟩
      by_cases h5 : x = "0"
      · rw [decide_eq_true (show V.str x = V.str "0" from congrArg V.str h5)]
        refine iteF ?_
        exact tail (fun z => z.2 h5)
      · rw [decide_eq_false (show ¬ V.str x = V.str "0" from fun e => h5 (V.str.inj e))]
        refine iteT (back H1 s1 ?_)
        unfold readV
        rw [if_pos hd, if_pos ⟨by rw [hh]; exact h4, h5⟩]
    · rw [decide_eq_false (show ¬ V.str (⟨#[c0]⟩ : Str) = V.str "0" from fun e => h4 (V.str.inj e))]
      refine iteF (iteF ?_)
      exact tail (fun z => h4 (by rw [hh] at z; exact z.1))
theorem scRP : FnScope ["text", "word", "space", "rest", "constant"] ["text"] (defScope sRP) := ⟨rfl, rfl, rfl, by decide +kernel, rfl, by decide +kernel, by decide +kernel⟩
theorem ok_rp {f fV : Addr} {fd fdV : FuncData} (F : Fun K "read_primitive" "read_primitive" sRP f fd) (T : Txt K w mg) (GV : FnOk P w K mg base CX0 1 fV fdV ["text"] spRV) (mV : mg "read_value" = some (.ref fV)) (kV : PySem.W.keepIn K (.ref fV) = true) (bV : Binds K fdV ["text"] []) :
    FnOk P w K mg base CX0 2 f fd ["text"] spRP := by
  refine F.ok scRP (fun vs H Q E h => ?_) (fun cdv A outer s H vs Q E hr h => ?_)
  · obtain ⟨x, rfl, _⟩ := h
    rfl
  obtain ⟨x, rfl, hx, kn, ks⟩ := h
  obtain ⟨d, es, n, hd, D, hP, hM⟩ := T.pp
  obtain ⟨dW, hW, hWs⟩ := T.ww
  refine ⟨_, pss_cons (ps_asg (pe_partition (pv 0) pe_str) (pg_tup (by rfl) (pgs_cons (pg_name (i := 1) scRP.nd rfl (.inl rfl)) (pgs_cons (pg_name (i := 2) scRP.nd rfl (.inl rfl)) (pgs_cons (pg_name (i := 3) scRP.nd rfl (.inl rfl)) pgs_nil)))))
    (pss_cons (ps_if (pt_cmpR (op_notIn_kd D) (pv 1) (pe_glob (v := .ref d) rfl hd rfl) (by rfl)) (pss_one (ps_ret pe_non)) pss_nil)
    (pss_cons (ps_if (pt_cmpR op_notIn_seq (pv 1) (pe_glob (v := .ref dW) rfl hW rfl) (by rfl)) (pss_one (ps_ret (pe_ifExp (pt_truth (pv 2) (by intro _; rfl)) pe_non (pe_tup (pa_cons (pv 1) (pa_cons pe_non pa_nil)))))) pss_nil)
    (pss_cons (ps_set (i := 4) scRP.nd rfl (.inl rfl) (pe_call GV hr rfl mV kV bV .nil pass0 (pa_cons (pv 3) pa_nil)))
    (pss_one (ps_ret (pe_ifExp (pt_cmpR op_isN (pv 4) pe_non (nomark _)) pe_non (pe_tup (pa_cons (pv 1) (pa_cons (pv 4) pa_nil))))))))), ?_⟩
  refine ⟨_, rfl, ⟨_, rfl⟩, _, _, rfl, rfl, by decide +kernel, hx, fun p hp => ?_⟩
  have hrest := part_rest x
  obtain ⟨R, er⟩ : ∃ R, readP x = R := ⟨_, rfl⟩
  rw [er] at kn ks
  unfold readP at er
  have hsp : (Txt.partition x " ").2.1.length ≤ 1 := by
    rw [TL.partition_par x " " (by decide +kernel)]
    split
    · exact (by decide +kernel : (" " : Str).length ≤ 1)
    · exact Nat.zero_le _
  generalize (Txt.partition x " ").1 = z at er
  generalize (Txt.partition x " ").2.1 = sp at er hsp
  generalize (Txt.partition x " ").2.2 = rs at er hrest
  refine ⟨p, _, rfl, .of upd_same, rfl, _, _, rfl, _, _, rfl, _, _, rfl, rfl, ?_⟩
  have s1 := upd_new (o := .tup [V.str z, V.str sp, V.str rs]) hp
  by_cases hz : z ∈ words9
  case neg =>
    rw [if_neg hz] at er
    exact ⟨_, rfl, z, none, rfl, rfl, hM z hz, _, rfl, iteT (kn er.symm _ s1)⟩
  rw [if_pos hz] at er
  obtain ⟨u, h1⟩ := hP z hz
  refine ⟨_, rfl, z, some u, rfl, rfl, h1, _, rfl, iteF ⟨_, rfl, dW, _, rfl, .inr (hWs _), rfl, rfl, _, rfl, ?_⟩⟩
  rw [ww9 z hz]
  by_cases hcd : z = "const" ∨ z = "delay"
  · rw [decide_eq_true hcd]
    rw [if_pos hcd] at er
    refine iteF ⟨_, rfl, rs, rfl, by omega, fun H1 s2 => ?_⟩
    have s3 := s1.trans s2
    cases ev : readV rs with
    | none =>
      rw [ev] at er
      exact ⟨_, rfl, rfl, _, rfl, iteT (kn er.symm _ s3)⟩
    | some v =>
      rw [ev] at er
      refine ⟨_, rfl, rfl, _, rfl, iteF ⟨_, rfl, _, rfl, small1 (by show 2 ≤ 8; decide), fun t ht => ?_⟩⟩
      exact ks z (some v) er.symm t _ (s3.trans (upd_new ht)) (s3.free ht) upd_same
  · rw [decide_eq_false hcd]
    rw [if_neg hcd] at er
    refine iteT ⟨_, rfl, _, ⟨Nat.le_trans hsp (by decide), rfl⟩, ?_⟩
    by_cases hs0 : sp.length = 0
    · rw [if_pos hs0] at er
      rw [show ((sp.length : Int) != 0) = false by simp [hs0]]
      refine iteF ⟨_, rfl, small1 (by show 2 ≤ 8; decide), fun t ht => ?_⟩
      exact ks z none er.symm t _ (s1.trans (upd_new ht)) (s1.free ht) upd_same
    · rw [if_neg hs0] at er
      rw [show ((sp.length : Int) != 0) = true by simp [hs0]]
      exact iteT (kn er.symm _ s1)
abbrev nN : List Str := ["value", "letter"]
theorem scN : FnScope nN ["value"] (defScope sName) := ⟨rfl, rfl, rfl, by decide +kernel, rfl, by decide +kernel, by decide +kernel⟩
theorem ok_name {f : Addr} {fd : FuncData} (F : Fun K "is_name" "is_name" sName f fd) (T : Txt K w mg) : FnOk P w K mg base CX0 1 f fd ["value"] spName := by
  refine F.ok scN (fun vs H Q E h => ?_) (fun cdv A outer s H vs Q E hr h => ?_)
  · obtain ⟨x, rfl, _⟩ := h
    rfl
  obtain ⟨x, rfl, hx, k⟩ := h
  obtain ⟨tL, mL⟩ := T.le
  obtain ⟨tM, mM⟩ := T.ml
  obtain ⟨aR, mR, hR⟩ := T.re
  refine ⟨_, pss_cons (ps_if (PW.pt (pw_or (pt_not (pt_val (pe_callB (id := "isinstance") call_isi (by rfl) T.is_ (by decide +kernel) (pa_cons (pv 0) (pa_cons (pe_bltn (v := .ty "str") rfl T.zs PyProof.Rows.Boot.«str» rfl) pa_nil)))))
        (pw_or1 (pt_not (pt_chain op_le op_le pe_int (pe_callB call_len_str (by rfl) T.zl PySem.boot_len (pa_cons (pv 0) pa_nil)) (pe_glob (v := .int 8) rfl mM ⟨_, rfl⟩)))))) (pss_one (ps_ret pe_bl)) pss_nil)
    (pss_one (ps_ret (pe_and (pe_cmpR op_notIn_seq (pv 0) (pe_glob (v := .ref aR) rfl mR rfl) (by rfl)) (pe_one (pe_callB (cr_all rfl) (by rfl) T.za (by decide +kernel) (pa_cons (pe_lc (own := [("letter", 1)]) (g := gName 1) rfl scN.nd (pi_str (pv 0)) (blkOk_by (own := [("letter", 1)]) (N := nN) (sc := defScope sName) (by decide +kernel)) (fun _ _ _ _ _ => pg_name (i := 1) scN.nd rfl (Or.inl rfl)) (fun _ _ _ _ _ => pts_nil)
        (fun _ _ _ _ _ => pe_cmpR op_in_sign (pv 1) (pe_glob (v := .str "abcdefghijklmnopqrstuvwxyz") rfl mL ⟨_, rfl⟩) (by rfl))) pa_nil)))))), ?_⟩
  refine ⟨_, rfl, .str x, _, _, _, true, rfl, .ty "str", .base (.str x), rfl, _, rfl, ?_⟩
  have hsz : x.cps.toList.length = x.length := by simp [Str.length]
  refine iteF ⟨_, rfl, _, rfl, hx, _, _, rfl, rfl, _, rfl, ?_⟩
  have back : ∀ H', Same H H' → isNm x = false → Q (.bl false) H' := fun H' s' e => by
    have z := k H' s'
    rw [e] at z
    exact z
  by_cases h1 : (1 : Int) ≤ (x.length : Int)
  case neg =>
    rw [decide_eq_false h1]
    refine iteF ⟨_, rfl, iteT (back H (Same.refl H) ?_)⟩
    unfold isNm
    rw [decide_eq_false (show ¬ 1 ≤ x.length by omega)]
    rfl
  rw [decide_eq_true h1]
  refine iteT ⟨_, _, rfl, rfl, _, rfl, ?_⟩
  by_cases h2 : (x.length : Int) ≤ 8
  case neg =>
    rw [decide_eq_false h2]
    refine iteT (back H (Same.refl H) ?_)
    unfold isNm
    rw [decide_eq_false (show ¬ x.length ≤ 8 by omega), Bool.and_false]
    rfl
  rw [decide_eq_true h2]
  refine iteF ⟨_, rfl, aR, _, rfl, .inr (hR H), rfl, rfl, _, rfl, ?_⟩
  show if (!inV (.str x) (reserved.map V.str)) = true then _ else _
  rw [inV_strs]
  by_cases h3 : x ∈ reserved
  · rw [decide_eq_true h3]
    refine iteF (back H (Same.refl H) ?_)
    unfold isNm
    rw [decide_eq_true h3, Bool.not_true, Bool.and_false, Bool.false_and]
  rw [decide_eq_false h3]
  refine iteT ⟨_, rfl, x, rfl, fun D hD => ?_⟩
  refine lc_it walk_str (fun i H' => Same H H' ∧ H' D = some (.lst ((x.cps.toList.take i).map fun c => V.bl (isL c)))) ⟨upd_new hD, upd_same⟩ (fun _ _ _ _ => True.intro) ?_ ?_
  · rintro i v H1 H2 hi ⟨s1, a1⟩ ⟨rfl, c, hc, rfl⟩
    have hc' : x.cps.toList[i]? = some c := by simpa using hc
    refine ⟨rfl, ?_⟩
    refine ⟨_, rfl, c, _, rfl, rfl, ?_⟩
    rw [isL_in]
    have hl : ((x.cps.toList.take i).map fun c => V.bl (isL c)).length < sizeLine := by
      rw [List.length_map, List.length_take]
      have : i < x.length := hi
      exact Nat.lt_of_le_of_lt (Nat.min_le_left _ _) (by have := small1000 (n := i) (by omega); exact this)
    refine ⟨_, a1, hl, same_put s1 hD, ?_⟩
    rw [upd_same, List.take_succ, hc']
    simp
  rintro H1 ⟨s1, a1⟩
  rw [List.take_of_length_le (show x.cps.toList.length ≤ x.cps.size by simp)] at a1
  refine ⟨D, x.cps.toList.map isL, rfl, .of (by rw [a1, List.map_map]; rfl), ?_⟩
  have hall : (x.cps.toList.map isL).all id = x.cps.toList.all isL := by rw [List.all_map]; rfl
  rw [hall]
  have z := k H1 s1
  have e : isNm x = x.cps.toList.all isL := by
    unfold isNm
    rw [decide_eq_true (show 1 ≤ x.length by omega), decide_eq_true (show x.length ≤ 8 by omega), decide_eq_false h3]
    simp
  rw [e] at z
  exact z
end
end K8
namespace K8
open PySem L2 Own StX ClX NdefX
theorem emp (a : Str) : Str.empty ++ a = a := TL.ext_tl (by rw [TL.tl_append]; rfl)
/-- a port's text -/
def portT (a b : Str) : Str := if a.length = 0 then b else a ++ "." ++ b
def total (l : List Str) : Nat := (l.map fun x => x.length + 1).sum
/-- a head's row -/
def headT (name : Str) (ins outs : List Str) : Str := ("block " : Str) ++ name ++ "(" ++ Txt.join " " ins ++ ";" ++ Txt.join "" (outs.map fun o => (" " : Str) ++ o) ++ ")"
def spPort (K : PySem.W.Frag) : Sp := fun vs H Q _ => ∃ (p : Addr) (a b : Str), vs = [.ref p] ∧ SqT K H p [.str a, .str b] ∧ a.length ≤ 200000 ∧ b.length ≤ 200000 ∧ Q (.str (portT a b)) H
def spHead (K : PySem.W.Frag) : Sp := fun vs H Q _ => ∃ (name : Str) (a b : Addr) (ins outs : List Str), vs = [.str name, .ref a, .ref b] ∧ SqT K H a (ins.map V.str) ∧ SqT K H b (outs.map V.str) ∧ name.length ≤ 200000 ∧ total ins ≤ 200000 ∧ total outs ≤ 200000 ∧ outs.length ≤ 200000 ∧
  ∀ H', Same H H' → Q (.str (headT name ins outs)) H'
section
variable {P : Program} {w : World} {K : PySem.W.Frag} {mg : Str → Option Value} {base : Heap}
theorem scDN : FnScope ["text"] ["text"] (defScope sDN) := ⟨rfl, rfl, rfl, by decide +kernel, rfl, by decide +kernel, by decide +kernel⟩
theorem ok_dn {f fN : Addr} {fd fdN : FuncData} (F : Fun K "is_diagram_name" "is_diagram_name" sDN f fd) (T : Txt K w mg) (GN : FnOk P w K mg base CX0 1 fN fdN ["value"] spName) (mN : mg "is_name" = some (.ref fN)) (kN : PySem.W.keepIn K (.ref fN) = true) (bN : Binds K fdN ["value"] []) :
    FnOk P w K mg base CX0 2 f fd ["text"] spDN := by
  refine F.ok scDN (fun vs H Q E h => ?_) (fun cdv A outer s H vs Q E hr h => ?_)
  · obtain ⟨x, rfl, _⟩ := h
    rfl
  obtain ⟨x, rfl, hx, k⟩ := h
  obtain ⟨d, es, n, hd, D, hP, hM⟩ := T.pp
  refine ⟨_, pss_one (ps_ret (pe_and (pe_call GN hr rfl mN kN bN .nil pass0 (pa_cons (pv 0) pa_nil)) (pe_one (pe_cmpR (op_notIn_kd D) (pv 0) (pe_glob (v := .ref d) rfl hd rfl) (by rfl))))), ?_⟩
  refine ⟨_, rfl, x, rfl, hx, fun H1 s1 => ⟨_, rfl, ?_⟩⟩
  have z := k H1 s1
  unfold isDN at z
  cases hn : isNm x with
  | false =>
    rw [hn] at z
    exact iteF z
  | true =>
    rw [hn, Bool.true_and] at z
    by_cases hw : x ∈ words9
    · obtain ⟨u, hu⟩ := hP x hw
      rw [decide_eq_true hw] at z
      exact iteT ⟨_, rfl, x, some u, rfl, rfl, hu, z⟩
    · rw [decide_eq_false hw] at z
      exact iteT ⟨_, rfl, x, none, rfl, rfl, hM x hw, z⟩
theorem scIP : FnScope ["text"] ["text"] (defScope sIP) := ⟨rfl, rfl, rfl, by decide +kernel, rfl, by decide +kernel, by decide +kernel⟩
theorem ok_ip {f fR : Addr} {fd fdR : FuncData} (F : Fun K "is_primitive" "is_primitive" sIP f fd) (GR : FnOk P w K mg base CX0 2 fR fdR ["text"] spRP) (mR : mg "read_primitive" = some (.ref fR)) (kR : PySem.W.keepIn K (.ref fR) = true) (bR : Binds K fdR ["text"] []) :
    FnOk P w K mg base CX0 3 f fd ["text"] spIP := by
  refine F.ok scIP (fun vs H Q E h => ?_) (fun cdv A outer s H vs Q E hr h => ?_)
  · obtain ⟨x, rfl, _⟩ := h
    rfl
  obtain ⟨x, rfl, hx, k⟩ := h
  refine ⟨_, pss_one (ps_ret (pe_cmpR op_notN (pe_call GR hr rfl mR kR bR .nil pass0 (pa_cons (pv 0) pa_nil)) pe_non (nomark _))), ?_⟩
  refine ⟨_, rfl, x, rfl, hx, fun e H1 s1 => ⟨rfl, ?_⟩, fun z c e t H1 s1 ht ht1 => ⟨rfl, ?_⟩⟩
  · have z := k H1 s1
    rw [e] at z
    exact z
  · have q := k H1 s1
    rw [e] at q
    exact q
theorem scPt : FnScope ["port", "part", "name"] ["port"] (defScope sPort) := ⟨rfl, rfl, rfl, by decide +kernel, rfl, by decide +kernel, by decide +kernel⟩
theorem ok_port {f : Addr} {fd : FuncData} (F : Fun K "port_text" "port_text" sPort f fd) : FnOk P w K mg base CX0 1 f fd ["port"] (spPort K) := by
  refine F.ok scPt (fun vs H Q E h => ?_) (fun cdv A outer s H vs Q E hr h => ?_)
  · obtain ⟨p, a, b, rfl, _⟩ := h
    rfl
  obtain ⟨p, a, b, rfl, hp, ha, hb, k⟩ := h
  have sz : ∀ {n : Nat}, n ≤ 1000000 → n ≤ sizeLine := fun h => by rw [sizeLine_eq]; omega
  refine ⟨_, pss_cons (ps_asg (pv 0) (pg_tup (by rfl) (pgs_cons (pg_name (i := 1) scPt.nd rfl (.inl rfl)) (pgs_cons (pg_name (i := 2) scPt.nd rfl (.inl rfl)) pgs_nil))))
    (pss_one (ps_ret (pe_ifExp (pt_truth (pv 1) (by intro _; rfl)) (pe_joined (.cons (pe_fmt (pv 1)) (.cons pe_str (.cons (pe_fmt (pv 2)) .nil)))) (pv 2)))), ?_⟩
  refine ⟨_, rfl, p, _, rfl, hp, rfl, _, _, rfl, _, _, rfl, rfl, ?_⟩
  unfold portT at k
  refine ⟨_, rfl, _, ⟨sz (by omega), rfl⟩, ?_⟩
  by_cases h0 : a.length = 0
  · rw [if_pos h0] at k
    rw [show ((a.length : Int) != 0) = false by simp [h0]]
    exact iteF ⟨_, rfl, k⟩
  · rw [if_neg h0] at k
    rw [show ((a.length : Int) != 0) = true by simp [h0]]
    refine iteT ⟨_, rfl, .inl ⟨a, rfl, sz (by omega), a, rfl, ?_, ".", rfl, ?_, _, rfl, .inl ⟨b, rfl, sz (by omega), b, rfl, ?_, ?_⟩⟩⟩
    · rw [emp]; exact sz (by omega)
    · rw [emp, sl, show ((".": Str)).length = 1 by decide +kernel]; exact sz (by omega)
    · rw [emp, sl, sl, show ((".": Str)).length = 1 by decide +kernel]; exact sz (by omega)
    · rw [emp]; exact k
end
end K8
namespace K8
open PySem L2 Own StX ClX NdefX
theorem join_len (y : Str) : ∀ ts : List Str, (Txt.join y ts).length ≤ (ts.map fun t => t.length + y.length).sum := by
  have h : ∀ ts : List Str, (Str.join y ts).length ≤ (ts.map fun t => t.length + y.length).sum := by
    intro ts
    induction ts with
    | nil => exact Nat.zero_le _
    | cons x r ih =>
      cases r with
      | nil => simp [Str.join]
      | cons z r =>
        show (x ++ y ++ Str.join y (z :: r)).length ≤ _
        rw [sl, sl, List.map_cons, List.sum_cons]
        omega
  intro ts
  rw [TL.join_eq]
  exact h ts
theorem mem_total {x : Str} : ∀ {l : List Str}, x ∈ l → x.length + 1 ≤ total l
  | a :: r, h => by
    have e : total (a :: r) = (a.length + 1) + total r := rfl
    rcases List.mem_cons.mp h with rfl | h
    · omega
    · have := mem_total h
      omega
theorem sum_lens (l : List Str) : (l.map (·.length)).sum + l.length = total l := by
  unfold total
  induction l with
  | nil => rfl
  | cons a r ih =>
    simp only [List.map_cons, List.sum_cons, List.length_cons]
    omega
theorem sum_more (l : List Str) : ((l.map fun o => (" " : Str) ++ o).map fun t => t.length + ("" : Str).length).sum = total l := by
  unfold total
  induction l with
  | nil => rfl
  | cons a r ih =>
    simp only [List.map_cons, List.sum_cons, ih, sl]
    have e1 : ((" " : Str)).length = 1 := by decide +kernel
    have e2 : (("" : Str)).length = 0 := by decide +kernel
    omega
section
variable {P : Program} {w : World} {K : PySem.W.Frag} {mg : Str → Option Value} {base : Heap}
abbrev nH : List Str := ["name", "inputs", "outputs", "before", "behind", "output"]
theorem scHd : FnScope nH ["name", "inputs", "outputs"] (defScope sHead) := ⟨rfl, rfl, rfl, by decide +kernel, rfl, by decide +kernel, by decide +kernel⟩
theorem ok_head {f : Addr} {fd : FuncData} (F : Fun K "head_row" "head_row" sHead f fd) : FnOk P w K mg base CX0 1 f fd ["name", "inputs", "outputs"] (spHead K) := by
  refine F.ok scHd (fun vs H Q E h => ?_) (fun cdv A outer s H vs Q E hr h => ?_)
  · obtain ⟨n, a, b, i, o, rfl, _⟩ := h
    rfl
  obtain ⟨name, a, b, ins, outs, rfl, ha, hb, hn, hi, ho, hol, k⟩ := h
  refine ⟨_, pss_cons (ps_set (i := 3) scHd.nd rfl (.inl rfl) (pe_join pe_str (pv 1)))
    (pss_cons (ps_set (i := 4) scHd.nd rfl (.inl rfl) (pe_join pe_str (pe_lc (own := [("output", 5)]) (g := gName 5) rfl scHd.nd (pi_tup (pv 2)) (blkOk_by (own := [("output", 5)]) (N := nH) (sc := defScope sHead) (by decide +kernel)) (fun _ _ _ _ _ => pg_name (i := 5) scHd.nd rfl (Or.inl rfl)) (fun _ _ _ _ _ => pts_nil)
      (fun _ _ _ _ _ => pe_joined (.cons pe_str (.cons (pe_fmt (pv 5)) .nil))))))
    (pss_one (ps_ret (pe_joined (.cons pe_str (.cons (pe_fmt (pv 0)) (.cons pe_str (.cons (pe_fmt (pv 3)) (.cons pe_str (.cons (pe_fmt (pv 4)) (.cons pe_str .nil))))))))))), ?_⟩
  have sz : ∀ {n : Nat}, n ≤ 2000000 → n ≤ sizeLine := fun h => by rw [sizeLine_eq]; omega
  have e1 : ((" " : Str)).length = 1 := by decide +kernel
  have hsum := sum_lens ins
  refine ⟨⟨_, rfl⟩, _, rfl, _, a, ins, rfl, rfl, .inr ha, by rw [e1]; omega, ?_⟩
  refine ⟨⟨_, rfl⟩, _, rfl, b, rfl, ⟨_, hb⟩, fun D hD => ?_⟩
  refine lc_tup (K := K) (a := b) (xs := outs.map V.str) (te := fun σ H Q => tJs [tC (V.str " "), tFmt (tVar 5)] Str.empty σ H fun out H1 => Q (V.str out) H1) (fun i H' => Same H H' ∧ H' D = some (.lst (((outs.take i).map fun o => (" " : Str) ++ o).map V.str))) ⟨upd_new hD, upd_same⟩ (fun i H' _ p => ?_) ?_ ?_
  · rcases hb with (hb | ⟨o, hb⟩) | hb
    · exact .inl (.inl (p.1 _ _ hb))
    · exact .inl (.inr ⟨o, p.1 _ _ hb⟩)
    · exact .inr hb
  · rintro i v H1 hi' ⟨s1, a1⟩
    rw [List.getElem?_map] at hi'
    obtain ⟨x, hx, rfl⟩ := Option.map_eq_some_iff.mp hi'
    have hxl : x.length + 1 ≤ total outs := mem_total (List.mem_of_getElem? hx)
    have tk : outs.take (i + 1) = outs.take i ++ [x] := by rw [List.take_add_one, hx]; rfl
    refine ⟨rfl, " ", rfl, by rw [emp, e1]; exact sz (by omega), _, rfl, .inl ⟨x, rfl, sz (by omega), x, rfl, by rw [emp, sl, e1]; exact sz (by omega), ?_⟩⟩
    refine ⟨_, a1, by rw [List.length_map, List.length_map, List.length_take]; exact Nat.lt_of_le_of_lt (Nat.le_trans (Nat.min_le_right _ _) hol) (by rw [sizeLine_eq]; omega), same_put s1 hD, ?_⟩
    rw [upd_same, tk, emp]
    simp
  rintro H1 ⟨s1, a1⟩
  rw [List.take_of_length_le (by rw [List.length_map]; exact Nat.le_refl _)] at a1
  have z0 : (("" : Str)).length = 0 := by decide +kernel
  have hj1 := join_len " " ins
  have hj2 := join_len "" (outs.map fun o => (" " : Str) ++ o)
  rw [sum_more] at hj2
  rw [e1] at hj1
  have hj1 : (Txt.join " " ins).length ≤ total ins := hj1
  have hs : ((outs.map fun o => (" " : Str) ++ o).map (·.length)).sum = total outs := by
    have z := sum_more outs
    simp only [z0, Nat.add_zero] at z
    exact z
  refine ⟨"", D, outs.map fun o => (" " : Str) ++ o, rfl, rfl, .inl (.of a1), by rw [hs, z0]; omega, ?_⟩
  have l1 : (("block " : Str)).length = 6 := by decide +kernel
  have l2 : (("(" : Str)).length = 1 := by decide +kernel
  have l3 : ((";" : Str)).length = 1 := by decide +kernel
  have l4 : ((")" : Str)).length = 1 := by decide +kernel
  have kk := k H1 s1
  unfold headT at kk
  generalize Txt.join " " ins = before at hj1 kk ⊢
  generalize Txt.join "" (outs.map fun o => (" " : Str) ++ o) = behind at hj2 kk ⊢
  refine ⟨"block ", rfl, by rw [emp, l1]; exact sz (by omega), _, rfl, .inl ⟨name, rfl, sz (by omega), name, rfl, by rw [emp, sl, l1]; exact sz (by omega), "(", rfl, by rw [emp, sl, sl, l1, l2]; exact sz (by omega), _, rfl, .inl ⟨before, rfl, sz (by omega), before, rfl, by rw [emp, sl, sl, sl, l1, l2]; exact sz (by omega), ";", rfl, by rw [emp, sl, sl, sl, sl, l1, l2, l3]; exact sz (by omega), _, rfl,
    .inl ⟨behind, rfl, sz (by omega), behind, rfl, by rw [emp, sl, sl, sl, sl, sl, l1, l2, l3]; exact sz (by omega), ")", rfl, by rw [emp, sl, sl, sl, sl, sl, sl, l1, l2, l3, l4]; exact sz (by omega), ?_⟩⟩⟩⟩
  rw [emp]
  exact kk
end
end K8
namespace K8
open PySem L2 Own StX ClX NdefX
/-- what a head's row says -/
def headName (row : Str) : Str := (Txt.partition (Txt.removeprefix row "block ") "(").1
def headPorts (row : Str) : Str := Txt.removesuffix (Txt.partition (Txt.removeprefix row "block ") "(").2.2 ")"
def headIns (row : Str) : List Str := Txt.words (Txt.partition (headPorts row) ";").1
def headOuts (row : Str) : List Str := Txt.words (Txt.partition (headPorts row) ";").2.2
def isHead (row : Str) : Bool := decide (headT (headName row) (headIns row) (headOuts row) = row)
def spReadHead (K : PySem.W.Frag) : Sp := fun vs H Q _ => ∃ row : Str, vs = [.str row] ∧ row.length ≤ 190000 ∧ (isHead row = false → ∀ H', Same H H' → Q .non H') ∧
  (isHead row = true → ∀ t a b H', Same H H' → H t = none → H' t = some (.tup [.str (headName row), .ref a, .ref b]) → H' a = some (.tup ((headIns row).map V.str)) → H' b = some (.tup ((headOuts row).map V.str)) → Q (.ref t) H')
theorem par_len1 {S : List Nat} : ∀ (l acc : List Nat) {p q : List Nat}, TL.par S acc l = some (p, q) → p.length ≤ acc.length + l.length
  | [], acc, p, q, h => by cases h
  | c :: r, acc, p, q, h => by
    have h : (if TL.pre S (c :: r) = true then some (acc, (c :: r).drop S.length) else TL.par S (acc ++ [c]) r) = some (p, q) := h
    split at h
    · cases h
      omega
    · have := par_len1 r _ h
      rw [List.length_append, List.length_cons, List.length_nil] at this
      rw [List.length_cons]
      omega
theorem part_le (x y : Str) (hy : TL.tl y ≠ []) : (Txt.partition x y).1.length ≤ x.length ∧ (Txt.partition x y).2.2.length ≤ x.length := by
  rw [TL.partition_par x y hy]
  split
  · rename_i a b e
    have h1 := par_len1 _ _ e
    have h2 := par_len _ _ e
    simp only [Str.length] at *
    exact ⟨by simpa using h1, by simpa using h2⟩
  · exact ⟨Nat.le_refl _, Nat.zero_le _⟩
theorem words_total (x : Str) : total (Txt.words x) ≤ x.length + 1 := by
  rw [← sum_lens]
  exact StrLaws.words_weight x
section
variable {P : Program} {w : World} {K : PySem.W.Frag} {mg : Str → Option Value} {base : Heap}
abbrev nR : List Str := ["row", "name", "_", "ports", "before", "behind", "inputs", "outputs"]
theorem scRh : FnScope nR ["row"] (defScope sReadHead) := ⟨rfl, rfl, rfl, by decide +kernel, rfl, by decide +kernel, by decide +kernel⟩
theorem ok_readhead {f fH : Addr} {fd fdH : FuncData} (F : Fun K "read_head" "read_head" sReadHead f fd) (T : Txt K w mg) (GH : FnOk P w K mg base CX0 1 fH fdH ["name", "inputs", "outputs"] (spHead K)) (mH : mg "head_row" = some (.ref fH)) (kH : PySem.W.keepIn K (.ref fH) = true) (bH : Binds K fdH ["name", "inputs", "outputs"] []) :
    FnOk P w K mg base CX0 2 f fd ["row"] (spReadHead K) := by
  refine F.ok scRh (fun vs H Q E h => ?_) (fun cdv A outer s H vs Q E hr h => ?_)
  · obtain ⟨row, rfl, _⟩ := h
    rfl
  obtain ⟨row, rfl, hrow, kN, kS⟩ := h
  refine ⟨_, pss_cons (ps_asg (pe_partition (pe_m1 PySem.F.slot_str_removeprefix PySem.F.type_str_removeprefix mt_removeprefix (pv 0) pe_str) pe_str) (pg_tup (by rfl) (pgs_cons (pg_name (i := 1) scRh.nd rfl (.inl rfl)) (pgs_cons (pg_name (i := 2) scRh.nd rfl (.inl rfl)) (pgs_cons (pg_name (i := 3) scRh.nd rfl (.inl rfl)) pgs_nil)))))
    (pss_cons (ps_asg (pe_partition (pe_m1 PySem.F.slot_str_removesuffix PySem.F.type_str_removesuffix mt_removesuffix (pv 3) pe_str) pe_str) (pg_tup (by rfl) (pgs_cons (pg_name (i := 4) scRh.nd rfl (.inl rfl)) (pgs_cons (pg_name (i := 2) scRh.nd rfl (.inl rfl)) (pgs_cons (pg_name (i := 5) scRh.nd rfl (.inl rfl)) pgs_nil)))))
    (pss_cons (ps_par (i := 6) (j := 7) rfl scRh.nd rfl rfl (by decide) rfl rfl (pa_cons (pe_callTy call_tuple_of (by rfl) T.zt (by decide +kernel) (pa_cons (pe_words (pv 4)) pa_nil)) (pa_cons (pe_callTy call_tuple_of (by rfl) T.zt (by decide +kernel) (pa_cons (pe_words (pv 5)) pa_nil)) pa_nil)) (by rfl))
    (pss_cons (ps_if (pt_cmpR op_ne (pe_call GH hr rfl mH kH bH .nil pass0 (pa_cons (pv 1) (pa_cons (pv 6) (pa_cons (pv 7) pa_nil)))) (pv 0) (nomark _)) (pss_one (ps_ret pe_non)) pss_nil)
    (pss_one (ps_ret (pe_tup (pa_cons (pv 1) (pa_cons (pv 6) (pa_cons (pv 7) pa_nil))))))))), ?_⟩
  have sz : ∀ {n : Nat}, n ≤ 2000000 → n ≤ sizeLine := fun h => by rw [sizeLine_eq]; omega
  have l0 := PyProof.Rows.len_removeprefix row "block "
  have p1 := part_le (Txt.removeprefix row "block ") "(" (by decide +kernel)
  have l1 := PyProof.Rows.len_removesuffix (Txt.partition (Txt.removeprefix row "block ") "(").2.2 ")"
  have p2 := part_le (headPorts row) ";" (by decide +kernel)
  have hname : (headName row).length ≤ 190000 := Nat.le_trans p1.1 (Nat.le_trans l0 hrow)
  have hports : (headPorts row).length ≤ 190000 := Nat.le_trans l1 (Nat.le_trans p1.2 (Nat.le_trans l0 hrow))
  have w1 := words_total (Txt.partition (headPorts row) ";").1
  have w2 := words_total (Txt.partition (headPorts row) ";").2.2
  refine ⟨_, rfl, ⟨_, rfl⟩, _, _, rfl, rfl, sz (by omega), ⟨_, rfl⟩, _, _, rfl, rfl, by decide +kernel, sz (by omega), fun q1 hq1 => ?_⟩
  refine ⟨q1, _, rfl, .of upd_same, rfl, _, _, rfl, _, _, rfl, _, _, rfl, rfl, ?_⟩
  refine ⟨_, rfl, ⟨_, rfl⟩, _, _, rfl, rfl, sz (by omega), ⟨_, rfl⟩, _, _, rfl, rfl, by decide +kernel, sz (by omega), fun q2 hq2 => ?_⟩
  refine ⟨q2, _, rfl, .of upd_same, rfl, _, _, rfl, _, _, rfl, _, _, rfl, rfl, ?_⟩
  have z1 : (Txt.partition (headPorts row) ";").1.length + 2 ≤ sizeLine := sz (by omega)
  have z2 : (Txt.partition (headPorts row) ";").2.2.length + 2 ≤ sizeLine := sz (by omega)
  refine ⟨_, rfl, ⟨_, rfl⟩, _, rfl, rfl, z1, fun q3 hq3 => ⟨q3, _, rfl, .inl ⟨.of upd_same, fun a ha => ?_⟩⟩⟩
  refine ⟨_, rfl, ⟨_, rfl⟩, _, rfl, rfl, z2, fun q4 hq4 => ⟨q4, _, rfl, .inl ⟨.of upd_same, fun b hb => ⟨_, _, rfl, ?_⟩⟩⟩⟩
  have s1 := upd_new (o := HO.tup [V.str (headName row), .str (Txt.partition (Txt.removeprefix row "block ") "(").2.1, .str (Txt.partition (Txt.removeprefix row "block ") "(").2.2]) hq1
  have s2 := upd_new (o := HO.tup [V.str (Txt.partition (headPorts row) ";").1, .str (Txt.partition (headPorts row) ";").2.1, .str (Txt.partition (headPorts row) ";").2.2]) hq2
  have s3 := upd_new (o := HO.lst ((headIns row).map V.str)) hq3
  have s4 := upd_new (o := HO.tup ((headIns row).map V.str)) ha
  have s5 := upd_new (o := HO.lst ((headOuts row).map V.str)) hq4
  have s6 := upd_new (o := HO.tup ((headOuts row).map V.str)) hb
  obtain ⟨H6, hH6⟩ : ∃ H6, H6 = (upd (upd (upd (upd (upd (upd H q1 (HO.tup [V.str (headName row), .str (Txt.partition (Txt.removeprefix row "block ") "(").2.1, .str (Txt.partition (Txt.removeprefix row "block ") "(").2.2])) q2 (HO.tup [V.str (Txt.partition (headPorts row) ";").1, .str (Txt.partition (headPorts row) ";").2.1, .str (Txt.partition (headPorts row) ";").2.2])) q3 (HO.lst ((headIns row).map V.str))) a (HO.tup ((headIns row).map V.str))) q4 (HO.lst ((headOuts row).map V.str))) b (HO.tup ((headOuts row).map V.str))) := ⟨_, rfl⟩
  have sA : Same H H6 := by rw [hH6]; exact s1.trans (s2.trans (s3.trans (s4.trans (s5.trans s6))))
  have ga : H6 a = some (HO.tup ((headIns row).map V.str)) := by rw [hH6]; exact (s5.trans s6) _ _ upd_same
  have gb : H6 b = some (HO.tup ((headOuts row).map V.str)) := by rw [hH6]; exact upd_same
  show tSeq _ _ _ _ (upd (upd (upd (upd (upd (upd H q1 (HO.tup [V.str (headName row), .str (Txt.partition (Txt.removeprefix row "block ") "(").2.1, .str (Txt.partition (Txt.removeprefix row "block ") "(").2.2])) q2 (HO.tup [V.str (Txt.partition (headPorts row) ";").1, .str (Txt.partition (headPorts row) ";").2.1, .str (Txt.partition (headPorts row) ";").2.2])) q3 (HO.lst ((headIns row).map V.str))) a (HO.tup ((headIns row).map V.str))) q4 (HO.lst ((headOuts row).map V.str))) b (HO.tup ((headOuts row).map V.str)))
  rw [← hH6]
  clear hH6
  have w3 : total (headIns row) ≤ 200000 := by
    have e : total (headIns row) = total (Txt.words (Txt.partition (headPorts row) ";").1) := rfl
    omega
  have w4 : total (headOuts row) ≤ 200000 := by
    have e : total (headOuts row) = total (Txt.words (Txt.partition (headPorts row) ";").2.2) := rfl
    omega
  have w5 : (headOuts row).length ≤ 200000 := by
    have e := sum_lens (headOuts row)
    omega
  refine ⟨_, rfl, _, rfl, _, rfl, headName row, a, b, headIns row, headOuts row, rfl, .of ga, .of gb, by omega, w3, w4, w5, fun H7 s7 => ⟨_, rfl, rfl, _, rfl, ?_⟩⟩
  have s8 := sA.trans s7
  by_cases hh : headT (headName row) (headIns row) (headOuts row) = row
  · have e : isHead row = true := decide_eq_true hh
    rw [decide_eq_true (congrArg V.str hh)]
    refine iteF ⟨_, rfl, _, rfl, _, rfl, small1 (by show 3 ≤ 8; decide), fun t ht => ?_⟩
    have s9 := upd_new (o := HO.tup [V.str (headName row), .ref a, .ref b]) ht
    exact kS e t a b _ (s8.trans s9) (s8.free ht) upd_same (s9 _ _ (s7 _ _ ga)) (s9 _ _ (s7 _ _ gb))
  · have e : isHead row = false := decide_eq_false hh
    rw [decide_eq_false (fun z => hh (V.str.inj z))]
    exact iteT (kN e _ s8)
end
end K8
namespace K8
open PySem L2 Own StX ClX NdefX
abbrev sReadPort : Stmt := inClass (top 23) 5
/-- a port as it is read: the part and the name -/
def readPort (parts own : List Str) (x : Str) : Option (Str × Str) :=
  if (Txt.partition x ".").2.1.length = 0 then (if x ∈ own then some (Str.empty, x) else none)
  else if (Txt.partition x ".").1 ∈ parts ∧ isNm (Txt.partition x ".").2.2 = true then some ((Txt.partition x ".").1, (Txt.partition x ".").2.2) else none
/-- the reader's parts: a dict at d -/
def PartsAt (H : Hp) (d : Addr) (ps : List (Str × Str)) : Prop := H d = some (.dK (ps.map fun p => (Sum.inr p.1, V.str p.2)))
theorem val_parts (z : Str) : ∀ ps : List (Str × Str), (valV (ps.map fun p => ((Sum.inr p.1 : Key), V.str p.2)) (Sum.inr z)).isSome = decide (z ∈ ps.map (·.1))
  | [] => rfl
  | p :: r => by
    have ih := val_parts z r
    unfold valV at *
    rw [List.map_cons, List.map_cons, List.find?_cons]
    by_cases h : z = p.1
    · have e : decide ((Sum.inr p.1 : Key) = Sum.inr z) = true := decide_eq_true (by rw [h])
      rw [e, decide_eq_true (by rw [h]; exact List.mem_cons_self)]
      rfl
    · have e : decide ((Sum.inr p.1 : Key) = Sum.inr z) = false := decide_eq_false fun e => h (Sum.inr.inj e).symm
      rw [e]
      show (Option.map _ (List.find? _ _)).isSome = _
      rw [ih]
      refine decide_eq_decide.mpr ⟨fun q => List.mem_cons_of_mem _ q, fun q => ?_⟩
      rcases List.mem_cons.mp q with q | q
      · exact absurd q h
      · exact q
def spReadPort (K : PySem.W.Frag) (C : Addr) : Sp := fun vs H Q _ => ∃ (p dx d o : Addr) (fs : List (Str × V)) (x : Str) (ps : List (Str × Str)) (own : List Str), vs = [.ref p, .str x, .ref o] ∧ H p = some (.ins C dx fs) ∧ fs.lookup ("parts" : Str) = some (.ref d) ∧ PartsAt H d ps ∧
  SqT K H o (own.map V.str) ∧ x.length ≤ 190000 ∧ (readPort (ps.map (·.1)) own x = none → ∀ H', Same H H' → Q .non H') ∧
  (∀ a b, readPort (ps.map (·.1)) own x = some (a, b) → ∀ t H', Same H H' → H t = none → H' t = some (.tup [.str a, .str b]) → Q (.ref t) H')
section
variable {P : Program} {w : World} {K : PySem.W.Frag} {mg : Str → Option Value} {base : Heap} {C : Addr}
abbrev nRP : List Str := ["self", "text", "own_names", "part", "dot", "name"]
theorem scRdP : FnScope nRP ["self", "text", "own_names"] (defScope sReadPort) := ⟨rfl, rfl, rfl, by decide +kernel, rfl, by decide +kernel, by decide +kernel⟩
theorem ok_readport {f fN : Addr} {fd fdN : FuncData} (F : Fun K "_read_port" "DiagramReader._read_port" sReadPort f fd) (cl : Cls K C) (nP : NoAttr K C "parts") (GN : FnOk P w K mg base CX0 1 fN fdN ["value"] spName) (mN : mg "is_name" = some (.ref fN)) (kN : PySem.W.keepIn K (.ref fN) = true) (bN : Binds K fdN ["value"] []) :
    FnOk P w K mg base CX0 2 f fd ["self", "text", "own_names"] (spReadPort K C) := by
  refine F.ok scRdP (fun vs H Q E h => ?_) (fun cdv A outer s H vs Q E hr h => ?_)
  · obtain ⟨p, dx, d, o, fs, x, ps, own, rfl, _⟩ := h
    rfl
  obtain ⟨p, dx, d, o, fs, x, ps, own, rfl, hp, hf, hd, ho, hx, kN', kS⟩ := h
  have hu1 := Nat.lt_of_le_of_lt (Nat.add_le_add_left (show 1 ≤ 64 by decide) _) hr.units
  refine ⟨_, pss_cons (ps_asg (pe_partition (pv 1) pe_str) (pg_tup (by rfl) (pgs_cons (pg_name (i := 3) scRdP.nd rfl (.inl rfl)) (pgs_cons (pg_name (i := 4) scRdP.nd rfl (.inl rfl)) (pgs_cons (pg_name (i := 5) scRdP.nd rfl (.inl rfl)) pgs_nil)))))
    (pss_cons (ps_if (pt_not (pt_truth (pv 4) (by intro _; rfl))) (pss_one (ps_ret (pe_ifExp (pt_cmpR op_in_seq (pv 1) (pv 2) (by rfl)) (pe_tup (pa_cons pe_str (pa_cons (pv 1) pa_nil))) pe_non))) pss_nil)
    (pss_one (ps_ret (pe_ifExp (PW.pt (pw_and (pt_cmp (pc_din hu1 (pv 3) (pe_fld (pv 0) rfl)) (by rfl)) (pw_and1 (pt_val (pe_call GN (hr.mono (by decide)) rfl mN kN bN .nil pass0 (pa_cons (pv 5) pa_nil)))))) (pe_tup (pa_cons (pv 3) (pa_cons (pv 5) pa_nil))) pe_non)))), ?_⟩
  have sz : ∀ {n : Nat}, n ≤ 2000000 → n ≤ sizeLine := fun h => by rw [sizeLine_eq]; omega
  have pl := part_le x "." (by decide +kernel)
  have hsp : (Txt.partition x ".").2.1.length ≤ 1 := by
    rw [TL.partition_par x "." (by decide +kernel)]
    split
    · exact (by decide +kernel : (("." : Str)).length ≤ 1)
    · exact Nat.zero_le _
  obtain ⟨R, eR⟩ : ∃ R, readPort (ps.map (·.1)) own x = R := ⟨_, rfl⟩
  rw [eR] at kN' kS
  unfold readPort at eR
  refine ⟨_, rfl, ⟨_, rfl⟩, _, _, rfl, rfl, by decide +kernel, sz (by omega), fun q hq => ?_⟩
  have s1 := upd_new (o := HO.tup [V.str (Txt.partition x ".").1, .str (Txt.partition x ".").2.1, .str (Txt.partition x ".").2.2]) hq
  have hp1 := s1 _ _ hp
  have hd1 : PartsAt (upd H q (HO.tup [V.str (Txt.partition x ".").1, .str (Txt.partition x ".").2.1, .str (Txt.partition x ".").2.2])) d ps := s1 _ _ hd
  refine ⟨q, _, rfl, .of upd_same, rfl, _, _, rfl, _, _, rfl, _, _, rfl, rfl, ?_⟩
  generalize (Txt.partition x ".").1 = z at *
  generalize (Txt.partition x ".").2.1 = dt at *
  generalize (Txt.partition x ".").2.2 = n at *
  refine ⟨_, rfl, _, ⟨sz (by omega), rfl⟩, ?_⟩
  by_cases h0 : dt.length = 0
  · rw [if_pos h0] at eR
    rw [show ((dt.length : Int) != 0) = false by simp [h0]]
    have flat : (own.map V.str).all flatV = true := List.all_eq_true.mpr fun y hy => by
      obtain ⟨u, _, rfl⟩ := List.mem_map.mp hy
      rfl
    have ho1 : SqT K (upd H q (HO.tup [V.str z, .str dt, .str n])) o (own.map V.str) := by
      rcases ho with (ho | ⟨u, ho⟩) | ho
      · exact .inl (.inl (s1 _ _ ho))
      · exact .inl (.inr ⟨u, s1 _ _ ho⟩)
      · exact .inr ho
    refine iteT ⟨_, rfl, _, rfl, o, _, rfl, .inr ho1, rfl, flat, _, rfl, ?_⟩
    show if inV (.str x) (own.map V.str) = true then _ else _
    rw [inV_strs]
    by_cases hm : x ∈ own
    · rw [if_pos hm] at eR
      rw [decide_eq_true hm]
      refine iteT ⟨_, rfl, small1 (by show 2 ≤ 8; decide), fun t ht => ?_⟩
      exact kS Str.empty x eR.symm t _ (s1.trans (upd_new ht)) (s1.free ht) upd_same
    · rw [if_neg hm] at eR
      rw [decide_eq_false hm]
      exact iteF (kN' eR.symm _ s1)
  · rw [if_neg h0] at eR
    rw [show ((dt.length : Int) != 0) = true by simp [h0]]
    refine iteF ⟨_, rfl, _, rfl, p, C, dx, _, _, rfl, hp1, cl, nP, hf, d, _, rfl, DGet.k (k := Sum.inr z) hd1, _, rfl, ?_⟩
    rw [val_parts]
    by_cases hz : z ∈ ps.map (·.1)
    · rw [decide_eq_true hz]
      refine iteT ⟨_, rfl, n, rfl, sz (by omega), fun H2 s2 => ⟨_, rfl, ?_⟩⟩
      cases hn : isNm n with
      | true =>
        rw [if_pos ⟨hz, hn⟩] at eR
        refine iteT ⟨_, rfl, _, rfl, small1 (by show 2 ≤ 8; decide), fun t ht => ?_⟩
        exact kS z n eR.symm t _ ((s1.trans s2).trans (upd_new ht)) ((s1.trans s2).free ht) upd_same
      | false =>
        rw [if_neg (fun q => by rw [q.2] at hn; cases hn)] at eR
        exact iteF (kN' eR.symm _ (s1.trans s2))
    · rw [if_neg (fun q => hz q.1)] at eR
      rw [decide_eq_false hz]
      exact iteF (kN' eR.symm _ s1)
end
end K8
namespace K8
open PySem L2 Own StX ClX NdefX
abbrev sTakePart : Stmt := inClass (top 23) 3
/-- all but what stands at a is as it was -/
def SameX (a : Addr) (H H' : Hp) : Prop := ∀ b u, b ≠ a → H b = some u → H' b = some u
theorem SameX.of {a : Addr} {H1 H2 : Hp} (h : Same H1 H2) : SameX a H1 H2 := fun b u _ e => h b u e
theorem SameX.put {a : Addr} {H : Hp} {o : HO} : SameX a H (upd H a o) := fun b u n e => by rw [upd_ne n]; exact e
theorem SameX.trans {a : Addr} {H1 H2 H3 : Hp} (h : SameX a H1 H2) (k : SameX a H2 H3) : SameX a H1 H3 := fun b u n e => k b u n (h b u n e)
def partName (row : Str) : Str := (Txt.partition (Txt.removeprefix row "  part ") " = ").1
def partBlock (row : Str) : Str := (Txt.partition (Txt.removeprefix row "  part ") " = ").2.2
def takePart (ps : List (Str × Str)) (row : Str) : Option (List (Str × Str)) :=
  if ps.length < 16 ∧ isNm (partName row) = true ∧ ¬ partName row ∈ ps.map (·.1) ∧ ((readP (partBlock row)).isSome = true ∨ isDN (partBlock row) = true) then some (ps ++ [(partName row, partBlock row)]) else none
def spTakePart (C : Addr) : Sp := fun vs H Q _ => ∃ (p dx d : Addr) (fs : List (Str × V)) (row : Str) (ps : List (Str × Str)), vs = [.ref p, .str row] ∧ H p = some (.ins C dx fs) ∧ fs.lookup ("parts" : Str) = some (.ref d) ∧ fs.lookup ("_max_parts" : Str) = some (.int 16) ∧ PartsAt H d ps ∧ ps.length ≤ 16 ∧ row.length ≤ 190000 ∧
  (takePart ps row = none → ∀ H', Same H H' → Q (.bl false) H') ∧ (∀ ps', takePart ps row = some ps' → ∀ H', SameX d H H' → PartsAt H' d ps' → Q (.bl true) H')
section
variable {P : Program} {w : World} {K : PySem.W.Frag} {mg : Str → Option Value} {base : Heap} {C : Addr}
abbrev nTP : List Str := ["self", "row", "name", "_", "block"]
theorem scTP : FnScope nTP ["self", "row"] (defScope sTakePart) := ⟨rfl, rfl, rfl, by decide +kernel, rfl, by decide +kernel, by decide +kernel⟩
theorem ok_takepart {f fN fI fD : Addr} {fd fdN fdI fdD : FuncData} (F : Fun K "_take_part" "DiagramReader._take_part" sTakePart f fd) (T : Txt K w mg) (cl : Cls K C) (nP : NoAttr K C "parts") (nM : NoAttr K C "_max_parts")
    (GN : FnOk P w K mg base CX0 1 fN fdN ["value"] spName) (mN : mg "is_name" = some (.ref fN)) (kN : PySem.W.keepIn K (.ref fN) = true) (bN : Binds K fdN ["value"] [])
    (GI : FnOk P w K mg base CX0 3 fI fdI ["text"] spIP) (mI : mg "is_primitive" = some (.ref fI)) (kI : PySem.W.keepIn K (.ref fI) = true) (bI : Binds K fdI ["text"] [])
    (GD : FnOk P w K mg base CX0 2 fD fdD ["text"] spDN) (mD : mg "is_diagram_name" = some (.ref fD)) (kD : PySem.W.keepIn K (.ref fD) = true) (bD : Binds K fdD ["text"] []) :
    FnOk P w K mg base CX0 4 f fd ["self", "row"] (spTakePart C) := by
  refine F.ok scTP (fun vs H Q E h => ?_) (fun cdv A outer s H vs Q E hr h => ?_)
  · obtain ⟨p, dx, d, fs, row, ps, rfl, _⟩ := h
    rfl
  obtain ⟨p, dx, d, fs, row, ps, rfl, hp, hf, hm, hd, hpl, hrow, kF, kT⟩ := h
  have hu1 := Nat.lt_of_le_of_lt (Nat.add_le_add_left (show 1 ≤ 64 by decide) _) hr.units
  refine ⟨_, pss_cons (ps_asg (pe_partition (pe_m1 PySem.F.slot_str_removeprefix PySem.F.type_str_removeprefix mt_removeprefix (pv 1) pe_str) pe_str) (pg_tup (by rfl) (pgs_cons (pg_name (i := 2) scTP.nd rfl (.inl rfl)) (pgs_cons (pg_name (i := 3) scTP.nd rfl (.inl rfl)) (pgs_cons (pg_name (i := 4) scTP.nd rfl (.inl rfl)) pgs_nil)))))
    (pss_cons (ps_if (PW.pt (pw_or (pt_cmpR op_ge (pe_callB call_lenD (by rfl) T.zl PySem.boot_len (pa_cons (pe_fld (pv 0) rfl) pa_nil)) (pe_fld (pv 0) rfl) (nomark _)) (pw_or (pt_not (pt_val (pe_call GN (hr.mono (by decide)) rfl mN kN bN .nil pass0 (pa_cons (pv 2) pa_nil)))) (pw_or1 (pt_cmp (pc_din hu1 (pv 2) (pe_fld (pv 0) rfl)) (by rfl)))))) (pss_one (ps_ret pe_bl)) pss_nil)
    (pss_cons (ps_if (PW.pt (pw_and (pt_not (pt_val (pe_call GI hr rfl mI kI bI .nil pass0 (pa_cons (pv 4) pa_nil)))) (pw_and1 (pt_not (pt_val (pe_call GD (hr.mono (by decide)) rfl mD kD bD .nil pass0 (pa_cons (pv 4) pa_nil))))))) (pss_one (ps_ret pe_bl)) pss_nil)
    (pss_cons (ps_dput hu1 (pe_fld (pv 0) rfl) (pv 2) (pv 4) rfl)
    (pss_one (ps_ret pe_bl))))), ?_⟩
  have sz : ∀ {n : Nat}, n ≤ 2000000 → n ≤ sizeLine := fun h => by rw [sizeLine_eq]; omega
  have l0 := PyProof.Rows.len_removeprefix row "  part "
  have pl := part_le (Txt.removeprefix row "  part ") " = " (by decide +kernel)
  obtain ⟨R, eR⟩ : ∃ R, takePart ps row = R := ⟨_, rfl⟩
  rw [eR] at kF kT
  unfold takePart partName partBlock at eR
  refine ⟨_, rfl, ⟨_, rfl⟩, _, _, rfl, rfl, sz (by omega), ⟨_, rfl⟩, _, _, rfl, rfl, by decide +kernel, sz (by omega), fun q hq => ?_⟩
  have s1 := upd_new (o := HO.tup [V.str (Txt.partition (Txt.removeprefix row "  part ") " = ").1, .str (Txt.partition (Txt.removeprefix row "  part ") " = ").2.1, .str (Txt.partition (Txt.removeprefix row "  part ") " = ").2.2]) hq
  have hp1 := s1 _ _ hp
  have hd1 := s1 _ _ hd
  refine ⟨q, _, rfl, .of upd_same, rfl, _, _, rfl, _, _, rfl, _, _, rfl, rfl, ?_⟩
  generalize (Txt.partition (Txt.removeprefix row "  part ") " = ").1 = z at *
  generalize (Txt.partition (Txt.removeprefix row "  part ") " = ").2.1 = dt at *
  generalize (Txt.partition (Txt.removeprefix row "  part ") " = ").2.2 = n at *
  generalize upd H q (HO.tup [V.str z, .str dt, .str n]) = H1 at s1 hp1 hd1 ⊢
  refine ⟨_, rfl, p, C, dx, _, _, rfl, hp1, cl, nP, hf, d, _, rfl, hd1, _, rfl, p, C, dx, _, _, rfl, hp1, cl, nM, hm, _, _, rfl, rfl, _, rfl, ?_⟩
  have hlen : (ps.map fun p => ((Sum.inr p.1 : Key), V.str p.2)).length = ps.length := List.length_map _
  by_cases hl : ps.length < 16
  case neg =>
    rw [if_neg (fun q => hl q.1)] at eR
    rw [decide_eq_true (show ((((ps.map fun p => ((Sum.inr p.1 : Key), V.str p.2)).length : Nat) : Int)) ≥ 16 by rw [hlen]; omega)]
    exact iteT (kF eR.symm _ s1)
  rw [decide_eq_false (show ¬ ((((ps.map fun p => ((Sum.inr p.1 : Key), V.str p.2)).length : Nat) : Int)) ≥ 16 by rw [hlen]; omega)]
  refine iteF ⟨_, rfl, z, rfl, sz (by omega), fun H2 s2 => ⟨_, rfl, ?_⟩⟩
  cases hn : isNm z with
  | false =>
    rw [if_neg (fun q => by rw [q.2.1] at hn; cases hn)] at eR
    exact iteT (kF eR.symm _ (s1.trans s2))
  | true =>
  refine iteF ⟨_, rfl, _, rfl, p, C, dx, _, _, rfl, s2 _ _ hp1, cl, nP, hf, d, _, rfl, DGet.k (k := Sum.inr z) (s2 _ _ hd1), _, rfl, ?_⟩
  rw [val_parts]
  by_cases hz : z ∈ ps.map (·.1)
  · rw [if_neg (fun q => q.2.2.1 hz)] at eR
    rw [decide_eq_true hz]
    exact iteT (kF eR.symm _ (s1.trans s2))
  rw [decide_eq_false hz]
  refine iteF ⟨_, rfl, n, rfl, sz (by omega), fun H3 s3 => ⟨_, rfl, ?_⟩⟩
  have s13 := s1.trans (s2.trans s3)
  have fin : ∀ H4, Same H1 H4 → ((readP n).isSome = true ∨ isDN n = true) → Q (.bl true) (upd H4 d (.dK (putK (ps.map fun p => ((Sum.inr p.1 : Key), V.str p.2)) (Sum.inr z) (.str n)))) := fun H4 s4 hb => by
    rw [if_pos ⟨hl, hn, hz, hb⟩] at eR
    refine kT _ eR.symm _ ((SameX.of (s1.trans s4)).trans SameX.put) ?_
    have e : putK (ps.map fun p => ((Sum.inr p.1 : Key), V.str p.2)) (Sum.inr z) (.str n) = (ps ++ [(z, n)]).map fun p => ((Sum.inr p.1 : Key), V.str p.2) := by
      unfold putK
      rw [if_neg, List.map_append]
      · rfl
      · intro q
        obtain ⟨kv, hkv, e⟩ := List.any_eq_true.mp q
        obtain ⟨p, hp, rfl⟩ := List.mem_map.mp hkv
        exact hz (List.mem_map.mpr ⟨p, hp, Sum.inr.inj (of_decide_eq_true e)⟩)
    rw [e]
    exact upd_same
  have put : ∀ H4, Same H1 H4 → ((readP n).isSome = true ∨ isDN n = true) → sDPut (tFld K (tVar 0) "parts") (tVar 2) (tVar 4) { nx := tRet (tC (.bl true)) { nx := fun _ H' => Q .non H', rt := Q }, rt := Q } [some (.ref p), some (.str row), some (.str z), some (.str dt), some (.str n)] H4 := fun H4 s4 hb => by
    refine ⟨_, rfl, _, rfl, p, C, dx, _, _, rfl, s4 _ _ hp1, cl, nP, hf, _, rfl, d, _, rfl, DPut.k (k := Sum.inr z) (s4 _ _ hd1) (by rw [hlen, sizeLine_eq]; omega), ?_⟩
    exact fin H4 s4 hb
  cases hr1 : (readP n).isSome with
  | true => exact iteF (put H3 (s2.trans s3) (.inl hr1))
  | false =>
    refine iteT ⟨_, rfl, n, rfl, sz (by omega), fun H4 s4 => ⟨_, rfl, ?_⟩⟩
    cases hd2 : isDN n with
    | true => exact iteF (put H4 (s2.trans (s3.trans s4)) (.inr hd2))
    | false =>
      rw [if_neg (fun q => by rcases q.2.2.2 with q | q <;> simp_all)] at eR
      exact iteT (kF eR.symm _ (s13.trans s4))
end
end K8
namespace K8
open PySem L2 Own StX ClX NdefX
abbrev sTakeWire : Stmt := inClass (top 23) 4
abbrev Port := Str × Str
def keyOf (p : Port) : List Key := [Sum.inr p.1, Sum.inr p.2]
/-- the reader's wires: a dict at d from targets to tuples, the sources -/
def WiresAt (H : Hp) (d : Addr) (ws : List (Port × Port)) : Prop := ∃ as : List Addr, as.length = ws.length ∧ H d = some (.dT ((ws.zip as).map fun q => (keyOf q.1.1, V.ref q.2))) ∧ ∀ (i : Nat) (w : Port × Port) (a : Addr), ws[i]? = some w → as[i]? = some a → H a = some (.tup [.str w.2.1, .str w.2.2])
def wireTarget (parts outs : List Str) (row : Str) : Option Port := readPort parts outs (Txt.partition (Txt.removeprefix row "  ") " <- ").1
def wireSource (parts ins : List Str) (row : Str) : Option Port := readPort parts ins (Txt.partition (Txt.removeprefix row "  ") " <- ").2.2
def takeWire (parts ins outs : List Str) (ws : List (Port × Port)) (row : Str) : Option (List (Port × Port)) :=
  if Txt.startswith row "  " = true then
    match wireTarget parts outs row, wireSource parts ins row with
    | some t, some s => if t ∈ ws.map (·.1) then none else some (ws ++ [(t, s)])
    | _, _ => none
  else none
def spTakeWire (K : PySem.W.Frag) (C : Addr) : Sp := fun vs H Q _ => ∃ (p dx d dw o i : Addr) (fs : List (Str × V)) (row : Str) (ps : List (Str × Str)) (ins outs : List Str) (ws : List (Port × Port)), vs = [.ref p, .str row] ∧ H p = some (.ins C dx fs) ∧ fs.lookup ("parts" : Str) = some (.ref d) ∧ fs.lookup ("wires" : Str) = some (.ref dw) ∧ fs.lookup ("_read_port" : Str) = none ∧
  fs.lookup ("inputs" : Str) = some (.ref i) ∧ fs.lookup ("outputs" : Str) = some (.ref o) ∧ PartsAt H d ps ∧ WiresAt H dw ws ∧ SqT K H i (ins.map V.str) ∧ SqT K H o (outs.map V.str) ∧ ws.length ≤ 1000000 ∧ row.length ≤ 190000 ∧
  (takeWire (ps.map (·.1)) ins outs ws row = none → ∀ H', Same H H' → Q (.bl false) H') ∧ (∀ ws', takeWire (ps.map (·.1)) ins outs ws row = some ws' → ∀ H', SameX dw H H' → WiresAt H' dw ws' → Q (.bl true) H')
/-- a port or None -/
def PV (H : Hp) (v : V) (r : Option Port) : Prop := (r = none ∧ v = .non) ∨ ∃ t a b, r = some (a, b) ∧ v = .ref t ∧ H t = some (.tup [.str a, .str b])
theorem PV.same {H H' : Hp} {v : V} {r : Option Port} (h : PV H v r) (s : Same H H') : PV H' v r := by
  rcases h with h | ⟨t, a, b, h1, h2, h3⟩
  · exact .inl h
  · exact .inr ⟨t, a, b, h1, h2, s _ _ h3⟩
theorem sqT_same {K : PySem.W.Frag} {H H' : Hp} {a : Addr} {xs : List V} (e : Same H H') (h : SqT K H a xs) : SqT K H' a xs := by
  rcases h with (h | ⟨o, h⟩) | h
  · exact .inl (.inl (e _ _ h))
  · exact .inl (.inr ⟨o, e _ _ h⟩)
  · exact .inr h
theorem keyOf_inj {a b : Port} (h : keyOf a = keyOf b) : a = b := by
  obtain ⟨a1, a2⟩ := a
  obtain ⟨b1, b2⟩ := b
  unfold keyOf at h
  simp only [List.cons.injEq, Sum.inr.injEq, and_true] at h
  exact Prod.ext h.1 h.2
theorem any_wires (t : Port) : ∀ (ws : List (Port × Port)) (as : List Addr), as.length = ws.length → (((ws.zip as).map fun q => (keyOf q.1.1, V.ref q.2)).any fun kv => decide (kv.1 = keyOf t)) = decide (t ∈ ws.map (·.1))
  | [], _, _ => rfl
  | _ :: _, [], h => by cases h
  | w :: ws, a :: as, h => by
    rw [List.zip_cons_cons, List.map_cons, List.any_cons, any_wires t ws as (Nat.succ.inj h)]
    by_cases e : t = w.1
    · rw [decide_eq_true (congrArg keyOf e.symm : (keyOf w.1) = keyOf t), decide_eq_true (show t ∈ (w :: ws).map (·.1) by rw [e]; exact List.mem_cons_self)]
      rfl
    · rw [decide_eq_false (fun q => e (keyOf_inj q).symm), Bool.false_or]
      refine decide_eq_decide.mpr ⟨fun q => List.mem_cons_of_mem _ q, fun q => ?_⟩
      rcases List.mem_cons.mp q with q | q
      · exact absurd q e
      · exact q
theorem val_any {κ : Type} [DecidableEq κ] (k : κ) : ∀ l : List (κ × V), (valV l k).isSome = l.any fun kv => decide (kv.1 = k)
  | [] => rfl
  | a :: r => by
    have ih := val_any k r
    unfold valV at *
    rw [List.find?_cons, List.any_cons]
    cases h : decide (a.1 = k) with
    | true => rfl
    | false => exact ih
theorem WiresAt.same {H H' : Hp} {d : Addr} {ws : List (Port × Port)} (h : WiresAt H d ws) (s : Same H H') : WiresAt H' d ws := by
  obtain ⟨as, h1, h2, h3⟩ := h
  exact ⟨as, h1, s _ _ h2, fun i w a e1 e2 => s _ _ (h3 i w a e1 e2)⟩
section
variable {P : Program} {w : World} {K : PySem.W.Frag} {mg : Str → Option Value} {base : Heap} {C : Addr}
abbrev nTW : List Str := ["self", "row", "before", "_", "behind", "target", "source"]
theorem scTW : FnScope nTW ["self", "row"] (defScope sTakeWire) := ⟨rfl, rfl, rfl, by decide +kernel, rfl, by decide +kernel, by decide +kernel⟩
theorem ok_takewire {f fR : Addr} {fd fdR : FuncData} (F : Fun K "_take_wire" "DiagramReader._take_wire" sTakeWire f fd) (T : Txt K w mg) (cl : Cls K C) (nW : NoAttr K C "wires") (nI : NoAttr K C "inputs") (nO : NoAttr K C "outputs")
    (me : Meth K C "_read_port" fR) (GR : FnOk P w K mg base CX0 2 fR fdR ["self", "text", "own_names"] (spReadPort K C)) (bR : Binds K fdR ["self", "text", "own_names"] []) :
    FnOk P w K mg base CX0 3 f fd ["self", "row"] (spTakeWire K C) := by
  refine F.ok scTW (fun vs H Q E h => ?_) (fun cdv A outer s H vs Q E hr h => ?_)
  · obtain ⟨p, dx, d, dw, o, i, fs, row, ps, ins, outs, ws, rfl, _⟩ := h
    rfl
  obtain ⟨p, dx, d, dw, o, i, fs, row, ps, ins, outs, ws, rfl, hp, hf, hw, hm, hi, ho, hd, hW, hI, hO, hwl, hrow, kF, kT⟩ := h
  have hu1 := Nat.lt_of_le_of_lt (Nat.add_le_add_left (show 1 ≤ 64 by decide) _) hr.units
  refine ⟨_, pss_cons (ps_if (pt_not (pt_val (pe_m1 PySem.F.slot_str_startswith PySem.F.type_str_startswith mt_startswith (pv 1) pe_str))) (pss_one (ps_ret pe_bl)) pss_nil)
    (pss_cons (ps_asg (pe_partition (pe_m1 PySem.F.slot_str_removeprefix PySem.F.type_str_removeprefix mt_removeprefix (pv 1) pe_str) pe_str) (pg_tup (by rfl) (pgs_cons (pg_name (i := 2) scTW.nd rfl (.inl rfl)) (pgs_cons (pg_name (i := 3) scTW.nd rfl (.inl rfl)) (pgs_cons (pg_name (i := 4) scTW.nd rfl (.inl rfl)) pgs_nil)))))
    (pss_cons (ps_set (i := 5) scTW.nd rfl (.inl rfl) (pe_meth (pv 0) cl me GR hr bR .nil pass0 (pa_cons (pv 2) (pa_cons (pe_fld (pv 0) rfl) pa_nil))))
    (pss_cons (ps_set (i := 6) scTW.nd rfl (.inl rfl) (pe_meth (pv 0) cl me GR hr bR .nil pass0 (pa_cons (pv 4) (pa_cons (pe_fld (pv 0) rfl) pa_nil))))
    (pss_cons (ps_if (PW.pt (pw_or (pt_cmpR op_isN (pv 5) pe_non (nomark _)) (pw_or (pt_cmpR op_isN (pv 6) pe_non (nomark _)) (pw_or1 (pt_cmp (pc_din hu1 (pv 5) (pe_fld (pv 0) rfl)) (by rfl)))))) (pss_one (ps_ret pe_bl)) pss_nil)
    (pss_cons (ps_dput hu1 (pe_fld (pv 0) rfl) (pv 5) (pv 6) rfl)
    (pss_one (ps_ret pe_bl))))))), ?_⟩
  have sz : ∀ {n : Nat}, n ≤ 2000000 → n ≤ sizeLine := fun h => by rw [sizeLine_eq]; omega
  have l0 := PyProof.Rows.len_removeprefix row "  "
  have pl := part_le (Txt.removeprefix row "  ") " <- " (by decide +kernel)
  obtain ⟨R, eR⟩ : ∃ R, takeWire (ps.map (·.1)) ins outs ws row = R := ⟨_, rfl⟩
  rw [eR] at kF kT
  unfold takeWire wireTarget wireSource at eR
  refine ⟨_, rfl, ⟨_, rfl⟩, _, _, rfl, rfl, _, rfl, ?_⟩
  cases hst : Txt.startswith row "  " with
  | false =>
    rw [if_neg (by rw [hst]; exact Bool.false_ne_true)] at eR
    exact iteT (kF eR.symm _ (Same.refl H))
  | true =>
  rw [if_pos hst] at eR
  refine iteF ⟨_, rfl, ⟨_, rfl⟩, _, _, rfl, rfl, sz (by omega), ⟨_, rfl⟩, _, _, rfl, rfl, by decide +kernel, sz (by omega), fun q hq => ?_⟩
  have s1 := upd_new (o := HO.tup [V.str (Txt.partition (Txt.removeprefix row "  ") " <- ").1, .str (Txt.partition (Txt.removeprefix row "  ") " <- ").2.1, .str (Txt.partition (Txt.removeprefix row "  ") " <- ").2.2]) hq
  refine ⟨q, _, rfl, .of upd_same, rfl, _, _, rfl, _, _, rfl, _, _, rfl, rfl, ?_⟩
  generalize (Txt.partition (Txt.removeprefix row "  ") " <- ").1 = z at *
  generalize (Txt.partition (Txt.removeprefix row "  ") " <- ").2.1 = dt at *
  generalize (Txt.partition (Txt.removeprefix row "  ") " <- ").2.2 = n at *
  generalize upd H q (HO.tup [V.str z, .str dt, .str n]) = H1 at s1 ⊢
  refine ⟨_, rfl, p, dx, _, rfl, s1 _ _ hp, hm, _, rfl, _, rfl, p, C, dx, _, _, rfl, s1 _ _ hp, cl, nO, ho, ?_⟩
  have go : ∀ (x : Str) (o : Addr) (own : List Str) (H2 : Hp) (Q2 : VK) (E2 : XK), Same H H2 → SqT K H o (own.map V.str) → x.length ≤ 190000 → (∀ v H3, Same H2 H3 → PV H3 v (readPort (ps.map (·.1)) own x) → Q2 v H3) → spReadPort K C [.ref p, .str x, .ref o] H2 Q2 E2 := fun x o own H2 Q2 E2 s2 hO hx k =>
    ⟨p, dx, d, o, fs, x, ps, own, rfl, s2 _ _ hp, hf, s2 _ _ hd, sqT_same s2 hO, hx, fun e H3 s3 => k _ _ s3 (.inl ⟨e, rfl⟩), fun a b e t H3 s3 _ ht => k _ _ s3 (.inr ⟨t, a, b, e, rfl, ht⟩)⟩
  dsimp only [tNil, List.append_nil]
  refine go z o outs H1 _ _ s1 hO (by omega) fun tv H2 s2 pv1 => ?_
  refine ⟨_, rfl, p, dx, _, rfl, s2 _ _ (s1 _ _ hp), hm, _, rfl, _, rfl, p, C, dx, _, _, rfl, s2 _ _ (s1 _ _ hp), cl, nI, hi, ?_⟩
  dsimp only [tNil, List.append_nil]
  refine go n i ins H2 _ _ (s1.trans s2) hI (by omega) fun sv H3 s3 pv2 => ?_
  have s13 := s1.trans (s2.trans s3)
  rcases pv1 with ⟨er1, rfl⟩ | ⟨t1, a1, b1, er1, rfl, g1⟩
  · rw [er1] at eR
    exact ⟨_, rfl, rfl, _, rfl, iteT (kF eR.symm _ s13)⟩
  refine ⟨_, rfl, rfl, _, rfl, iteF ?_⟩
  rcases pv2 with ⟨er2, rfl⟩ | ⟨t2, a2, b2, er2, rfl, g2⟩
  · rw [er1, er2] at eR
    exact ⟨_, rfl, rfl, _, rfl, iteT (kF eR.symm _ s13)⟩
  rw [er1, er2] at eR
  obtain ⟨as, hal, hwd, hat⟩ := hW.same s13
  refine ⟨_, rfl, rfl, _, rfl, iteF ⟨_, rfl, _, rfl, p, C, dx, _, _, rfl, s13 _ _ hp, cl, nW, hw, dw, _, rfl, DGet.t (k := [Sum.inr a1, Sum.inr b1]) hwd (s3 _ _ g1), _, rfl, ?_⟩⟩
  rw [val_any]
  show if (((ws.zip as).map fun q => (keyOf q.1.1, V.ref q.2)).any fun kv => decide (kv.1 = keyOf (a1, b1))) = true then _ else _
  have han := any_wires (a1, b1) ws as hal
  rw [han]
  by_cases hm : (a1, b1) ∈ ws.map (·.1)
  · rw [decide_eq_true hm]
    dsimp only at eR
    rw [if_pos hm] at eR
    exact iteT (kF eR.symm _ s13)
  rw [decide_eq_false hm]
  dsimp only at eR
  rw [if_neg hm] at eR
  have hzl : ((ws.zip as).map fun q => (keyOf q.1.1, V.ref q.2)).length < sizeLine := by
    rw [List.length_map, List.length_zip, hal, Nat.min_self, sizeLine_eq]
    omega
  refine iteF ⟨_, rfl, _, rfl, p, C, dx, _, _, rfl, s13 _ _ hp, cl, nW, hw, _, rfl, dw, _, rfl, DPut.t (k := keyOf (a1, b1)) hwd (s3 _ _ g1) hzl, ?_⟩
  have hput : putK ((ws.zip as).map fun q => (keyOf q.1.1, V.ref q.2)) (keyOf (a1, b1)) (V.ref t2) = (((ws ++ [((a1, b1), (a2, b2))]).zip (as ++ [t2])).map fun q => (keyOf q.1.1, V.ref q.2)) := by
    unfold putK
    rw [han, decide_eq_false hm, if_neg Bool.false_ne_true, List.zip_append hal.symm, List.map_append]
    rfl
  refine kT _ eR.symm _ ((SameX.of s13).trans SameX.put) ⟨as ++ [t2], by rw [List.length_append, List.length_append, hal]; rfl, by rw [hput]; exact upd_same, fun j v a e1 e2 => ?_⟩
  have hne : ∀ (b : Addr) (xs : List V), H3 b = some (.tup xs) → b ≠ dw := fun b xs hb e => by
    rw [e, hwd] at hb
    cases hb
  by_cases hj : j < ws.length
  · rw [List.getElem?_append_left hj] at e1
    rw [List.getElem?_append_left (by rw [hal]; exact hj)] at e2
    have g := hat j v a e1 e2
    rw [upd_ne (hne a _ g)]
    exact g
  · rw [List.getElem?_append_right (by omega)] at e1
    rw [List.getElem?_append_right (by rw [hal]; omega), hal] at e2
    cases hk : j - ws.length with
    | zero =>
      rw [hk] at e1 e2
      cases e1
      cases e2
      rw [upd_ne (hne t2 _ g2)]
      exact g2
    | succ k =>
      rw [hk] at e1
      cases e1
end
end K8
namespace K8
open PySem L2 Own StX ClX NdefX
abbrev sTakeHead : Stmt := inClass (top 23) 2
def okHead (row : Str) : Prop := isHead row = true ∧ (headIns row).length ≤ 8 ∧ (headOuts row).length ≤ 8 ∧ isDN (headName row) = true ∧ ((headIns row ++ headOuts row).all isNm) = true ∧ (headIns row ++ headOuts row).Nodup
def spTakeHead (C : Addr) : Sp := fun vs H Q _ => ∃ (p dx : Addr) (fs : List (Str × V)) (row : Str), vs = [.ref p, .str row] ∧ H p = some (.ins C dx fs) ∧ fs.lookup ("_max_ports" : Str) = some (.int 8) ∧ fs.length ≤ 20 ∧ row.length ≤ 190000 ∧
  (¬ okHead row → ∀ H', Same H H' → Q (.bl false) H') ∧
  (okHead row → ∀ a b H', SameX p H H' → H' p = some (.ins C dx (putF "outputs" (.ref b) (putF "inputs" (.ref a) (putF "name" (.str (headName row)) fs)))) → H' a = some (.tup ((headIns row).map V.str)) → H' b = some (.tup ((headOuts row).map V.str)) → Q (.bl true) H')
theorem putF_len {f : Str} {v : V} : ∀ fs : List (Str × V), (putF f v fs).length ≤ fs.length + 1
  | [] => Nat.le_refl _
  | (g, u) :: r => by
    have := putF_len (f := f) (v := v) r
    unfold putF
    split
    · simp
    · simp only [List.length_cons]
      omega
section
variable {P : Program} {w : World} {K : PySem.W.Frag} {mg : Str → Option Value} {base : Heap} {C : Addr}
abbrev nTH : List Str := ["self", "row", "head", "name", "inputs", "outputs", "ports", "port"]
theorem scTH : FnScope nTH ["self", "row"] (defScope sTakeHead) := ⟨rfl, rfl, rfl, by decide +kernel, rfl, by decide +kernel, by decide +kernel⟩
theorem ok_takehead {f fH fN fD : Addr} {fd fdH fdN fdD : FuncData} (F : Fun K "_take_head" "DiagramReader._take_head" sTakeHead f fd) (T : Txt K w mg) (mset : mg "set" = none) (cl : Cls K C) (nM : NoAttr K C "_max_ports") (nN : NoAttr K C "name") (nI : NoAttr K C "inputs") (nO : NoAttr K C "outputs")
    (GH : FnOk P w K mg base CX0 2 fH fdH ["row"] (spReadHead K)) (mH : mg "read_head" = some (.ref fH)) (kH : PySem.W.keepIn K (.ref fH) = true) (bH : Binds K fdH ["row"] [])
    (GN : FnOk P w K mg base CX0 1 fN fdN ["value"] spName) (mN : mg "is_name" = some (.ref fN)) (kN : PySem.W.keepIn K (.ref fN) = true) (bN : Binds K fdN ["value"] [])
    (GD : FnOk P w K mg base CX0 2 fD fdD ["text"] spDN) (mD : mg "is_diagram_name" = some (.ref fD)) (kD : PySem.W.keepIn K (.ref fD) = true) (bD : Binds K fdD ["text"] []) :
    FnOk P w K mg base CX0 3 f fd ["self", "row"] (spTakeHead C) := by
  refine F.ok scTH (fun vs H Q E h => ?_) (fun cdv A outer s H vs Q E hr h => ?_)
  · obtain ⟨p, dx, fs, row, rfl, _⟩ := h
    rfl
  obtain ⟨p, dx, fs, row, rfl, hp, hm, hfl, hrow, kF, kT⟩ := h
  refine ⟨_, pss_cons (ps_set (i := 2) scTH.nd rfl (.inl rfl) (pe_call GH hr rfl mH kH bH .nil pass0 (pa_cons (pv 1) pa_nil)))
    (pss_cons (ps_if (pt_cmpR op_isN (pv 2) pe_non (nomark _)) (pss_one (ps_ret pe_bl)) pss_nil)
    (pss_cons (ps_asg (pv 2) (pg_tup (by rfl) (pgs_cons (pg_name (i := 3) scTH.nd rfl (.inl rfl)) (pgs_cons (pg_name (i := 4) scTH.nd rfl (.inl rfl)) (pgs_cons (pg_name (i := 5) scTH.nd rfl (.inl rfl)) pgs_nil)))))
    (pss_join (ps_set (i := 6) scTH.nd rfl (.inl rfl) (pe_op op_catA (pv 4) (pv 5)))
    (pss_cons (ps_if (PW.pt (pw_or (pt_cmpR op_gt (pe_callB call_len_seq (by rfl) T.zl PySem.boot_len (pa_cons (pv 4) pa_nil)) (pe_fld (pv 0) rfl) (nomark _)) (pw_or1 (pt_cmpR op_gt (pe_callB call_len_seq (by rfl) T.zl PySem.boot_len (pa_cons (pv 5) pa_nil)) (pe_fld (pv 0) rfl) (nomark _))))) (pss_one (ps_ret pe_bl)) pss_nil)
    (pss_cons (ps_if (PW.pt (pw_or (pt_not (pt_val (pe_call GD hr rfl mD kD bD .nil pass0 (pa_cons (pv 3) pa_nil)))) (pw_or1 (pt_not (pt_val (pe_callB (cr_all rfl) (by rfl) T.za (by decide +kernel) (pa_cons (pe_lc (own := [("port", 7)]) (g := gName 7) rfl scTH.nd (pi_tup (pv 6)) (blkOk_by (own := [("port", 7)]) (N := nTH) (sc := defScope sTakeHead) (by decide +kernel)) (fun _ _ _ _ _ => pg_name (i := 7) scTH.nd rfl (Or.inl rfl)) (fun _ _ _ _ _ => pts_nil)
        (fun _ _ _ _ _ => pe_call GN (hr.mono (by decide)) rfl mN kN bN .nil pass0 (pa_cons (pv 7) pa_nil))) pa_nil))))))) (pss_one (ps_ret pe_bl)) pss_nil)
    (pss_cons (ps_if (pt_cmpR op_ne (pe_lenSetT rfl rfl T.zl rfl mset (pv 6)) (pe_callB call_len_seq (by rfl) T.zl PySem.boot_len (pa_cons (pv 6) pa_nil)) (nomark _)) (pss_one (ps_ret pe_bl)) pss_nil)
    (pss_cons (ps_asg (pe_tup (pa_cons (pv 3) (pa_cons (pv 4) (pa_cons (pv 5) pa_nil)))) (pg_tup (by rfl) (pgs_cons (pg_fld (pv 0)) (pgs_cons (pg_fld (pv 0)) (pgs_cons (pg_fld (pv 0)) pgs_nil)))))
    (pss_one (ps_ret pe_bl))))))))), ?_⟩
  have sz : ∀ {n : Nat}, n ≤ 2000000 → n ≤ sizeLine := fun h => by rw [sizeLine_eq]; omega
  have l0 := PyProof.Rows.len_removeprefix row "block "
  have p1 := part_le (Txt.removeprefix row "block ") "(" (by decide +kernel)
  have l1 := PyProof.Rows.len_removesuffix (Txt.partition (Txt.removeprefix row "block ") "(").2.2 ")"
  have p2 := part_le (headPorts row) ";" (by decide +kernel)
  have hname : (headName row).length ≤ 190000 := Nat.le_trans p1.1 (Nat.le_trans l0 hrow)
  have hports : (headPorts row).length ≤ 190000 := Nat.le_trans l1 (Nat.le_trans p1.2 (Nat.le_trans l0 hrow))
  have w1 : total (headIns row) ≤ 190001 := Nat.le_trans (words_total _) (by omega)
  have w2 : total (headOuts row) ≤ 190001 := Nat.le_trans (words_total _) (by omega)
  have n1 := sum_lens (headIns row)
  have n2 := sum_lens (headOuts row)
  refine ⟨_, rfl, row, rfl, hrow, fun e H1 s1 => ?_, fun e t a b H1 s1 ht ht1 ga gb => ?_⟩
  · exact ⟨_, rfl, rfl, _, rfl, iteT (kF (fun q => by have z := q.1; rw [e] at z; cases z) _ s1)⟩
  refine ⟨_, rfl, rfl, _, rfl, iteF ?_⟩
  refine ⟨_, rfl, t, _, rfl, .of ht1, rfl, _, _, rfl, _, _, rfl, _, _, rfl, rfl, ?_⟩
  refine ⟨fun σ H2 => ∃ pp, σ = [some (.ref p), some (.str row), some (.ref t), some (.str (headName row)), some (.ref a), some (.ref b), some (.ref pp), none] ∧ Same H1 H2 ∧ SqT K H2 pp ((headIns row ++ headOuts row).map V.str), ?_, ?_⟩
  · refine ⟨_, rfl, _, rfl, a, b, _, _, rfl, rfl, .of ga, .of gb, by rw [List.length_map, List.length_map]; exact sz (by omega), fun e0 => ⟨b, rfl, Same.refl _, ?_⟩, fun e1 e2 => ⟨a, rfl, Same.refl _, ?_⟩, fun e1 e2 pp hpp => ⟨pp, rfl, upd_new hpp, ?_⟩⟩
    · rw [List.map_append, e0]
      exact .of gb
    · rw [List.map_append, e2, List.append_nil]
      exact .of ga
    · rw [List.map_append]
      exact .of upd_same
  rintro σ H2 ⟨pp, rfl, s2, hS⟩
  have hp2 := s2 _ _ (s1 _ _ hp)
  have ga2 := s2 _ _ ga
  have gb2 := s2 _ _ gb
  have s12 := s1.trans s2
  refine ⟨_, rfl, a, _, rfl, .inr (.of ga2), _, rfl, p, C, dx, _, _, rfl, hp2, cl, nM, hm, _, _, rfl, rfl, _, rfl, ?_⟩
  by_cases h8 : (headIns row).length ≤ 8
  case neg =>
    rw [decide_eq_true (show (8 : Int) < ((((headIns row).map V.str).length : Nat) : Int) by rw [List.length_map]; omega)]
    exact iteT (kF (fun q => h8 q.2.1) _ s12)
  rw [decide_eq_false (show ¬ (8 : Int) < ((((headIns row).map V.str).length : Nat) : Int) by rw [List.length_map]; omega)]
  refine iteF ⟨_, rfl, b, _, rfl, .inr (.of gb2), _, rfl, p, C, dx, _, _, rfl, hp2, cl, nM, hm, _, _, rfl, rfl, _, rfl, ?_⟩
  by_cases h9 : (headOuts row).length ≤ 8
  case neg =>
    rw [decide_eq_true (show (8 : Int) < ((((headOuts row).map V.str).length : Nat) : Int) by rw [List.length_map]; omega)]
    exact iteT (kF (fun q => h9 q.2.2.1) _ s12)
  rw [decide_eq_false (show ¬ (8 : Int) < ((((headOuts row).map V.str).length : Nat) : Int) by rw [List.length_map]; omega)]
  refine iteF ⟨_, rfl, headName row, rfl, sz (by omega), fun H3 s3 => ⟨_, rfl, ?_⟩⟩
  have s13 := s12.trans s3
  cases hdn : isDN (headName row) with
  | false => exact iteT (kF (fun q => by have z := q.2.2.2.1; rw [hdn] at z; cases z) _ s13)
  | true =>
  have hS3 := sqT_same s3 hS
  refine iteF ⟨_, rfl, pp, rfl, ⟨_, hS3⟩, fun D hD => ?_⟩
  refine lc_tup (K := K) (a := pp) (xs := (headIns row ++ headOuts row).map V.str) (fun i H' => Same H3 H' ∧ H' D = some (.lst (((headIns row ++ headOuts row).take i).map fun x => V.bl (isNm x)))) ⟨upd_new hD, upd_same⟩ (fun i H' _ q => sqT_same q.1 hS3) ?_ ?_
  · rintro i v H4 hi ⟨s4, a4⟩
    rw [List.getElem?_map] at hi
    obtain ⟨x, hx, rfl⟩ := Option.map_eq_some_iff.mp hi
    have hxl : x.length ≤ 400000 := by
      rcases List.mem_append.mp (List.mem_of_getElem? hx) with z | z
      · have := mem_total z
        omega
      · have := mem_total z
        omega
    have tk : (headIns row ++ headOuts row).take (i + 1) = (headIns row ++ headOuts row).take i ++ [x] := by rw [List.take_add_one, hx]; rfl
    refine ⟨rfl, _, rfl, x, rfl, sz (by omega), fun H5 s5 => ⟨_, s5 _ _ a4, ?_, same_put (s4.trans s5) hD, ?_⟩⟩
    · rw [List.length_map, List.length_take]
      exact Nat.lt_of_le_of_lt (Nat.min_le_right _ _) (by rw [List.length_append, sizeLine_eq]; omega)
    · rw [upd_same, tk]
      simp
  rintro H4 ⟨s4, a4⟩
  rw [List.take_of_length_le (by rw [List.length_map]; exact Nat.le_refl _)] at a4
  refine ⟨D, (headIns row ++ headOuts row).map isNm, rfl, .of (by rw [a4, List.map_map]; rfl), _, rfl, ?_⟩
  have hall : ((headIns row ++ headOuts row).map isNm).all id = (headIns row ++ headOuts row).all isNm := by rw [List.all_map]; rfl
  rw [hall]
  have s14 := s13.trans s4
  cases hnm : (headIns row ++ headOuts row).all isNm with
  | false => exact iteT (kF (fun q => by have z := q.2.2.2.2.1; rw [hnm] at z; cases z) _ s14)
  | true =>
  have hS4 := sqT_same s4 hS3
  have h16 : (headIns row ++ headOuts row).length ≤ 16 := by rw [List.length_append]; omega
  refine iteF ⟨_, rfl, pp, headIns row ++ headOuts row, rfl, hS4, by omega, fun c hc hcn => ⟨_, rfl, pp, _, rfl, .inr hS4, rfl, _, rfl, ?_⟩⟩
  by_cases hnd : (headIns row ++ headOuts row).Nodup
  case neg =>
    rw [decide_eq_false (show ¬ V.int ((c : Nat) : Int) = V.int (((((headIns row ++ headOuts row).map V.str).length : Nat)) : Int) from fun z => hnd (hcn.mp (by
      have z := V.int.inj z
      rw [List.length_map] at z
      omega)))]
    exact iteT (kF (fun q => hnd q.2.2.2.2.2) _ s14)
  rw [decide_eq_true (show V.int ((c : Nat) : Int) = V.int (((((headIns row ++ headOuts row).map V.str).length : Nat)) : Int) by rw [List.length_map, hcn.mpr hnd])]
  have hp4 := s4 _ _ (s3 _ _ hp2)
  refine iteF ⟨_, rfl, _, rfl, _, rfl, small1 (by show 3 ≤ 8; decide), fun t2 ht2 => ?_⟩
  have s5 := upd_new (o := HO.tup [V.str (headName row), .ref a, .ref b]) ht2
  have hp5 := s5 _ _ hp4
  have L1 := putF_len (f := "name") (v := V.str (headName row)) fs
  have L2 := putF_len (f := "inputs") (v := V.ref a) (putF "name" (V.str (headName row)) fs)
  refine ⟨t2, _, rfl, .of upd_same, rfl, _, _, rfl, _, rfl, p, C, dx, _, rfl, hp5, cl, nN, by omega, _, _, rfl, _, rfl, p, C, dx, _, rfl, upd_same, cl, nI, by omega, _, _, rfl, _, rfl, p, C, dx, _, rfl, upd_same, cl, nO, by omega, rfl, ?_⟩
  have hpa : a ≠ p := fun z => by rw [z, s1 _ _ hp] at ga; cases ga
  have hpb : b ≠ p := fun z => by rw [z, s1 _ _ hp] at gb; cases gb
  have s15 := s14.trans s5
  refine kT ⟨e, h8, h9, hdn, hnm, hnd⟩ a b _ ((SameX.of s15).trans (SameX.put.trans (SameX.put.trans SameX.put))) upd_same ?_ ?_
  · rw [upd_ne hpa, upd_ne hpa, upd_ne hpa]
    exact s5 _ _ (s4 _ _ (s3 _ _ ga2))
  · rw [upd_ne hpb, upd_ne hpb, upd_ne hpb]
    exact s5 _ _ (s4 _ _ (s3 _ _ gb2))
end
end K8
namespace K8
open PySem L2 Own StX ClX NdefX
abbrev sTake : Stmt := inClass (top 23) 1
/-- a reader's state -/
structure RS where
  head : Option (Str × List Str × List Str)
  parts : List (Str × Str)
  wires : List (Port × Port)
  done : Bool
instance (row : Str) : Decidable (okHead row) := by unfold okHead; infer_instance
def step (st : RS) (row : Str) : Option RS :=
  match st.head with
  | none => if okHead row then some { st with head := some (headName row, headIns row, headOuts row) } else none
  | some (_, ins, outs) =>
    if st.done = true then none
    else if row = "end" then some { st with done := true }
    else if Txt.startswith row "  part " = true then (if st.wires.isEmpty = true then (takePart st.parts row).map fun ps => { st with parts := ps } else none)
    else (takeWire (st.parts.map (·.1)) ins outs st.wires row).map fun ws => { st with wires := ws }
def fsR (nm i o : V) (d dw : Addr) (dn : Bool) : List (Str × V) := [("name", nm), ("inputs", i), ("outputs", o), ("parts", .ref d), ("wires", .ref dw), ("is_done", .bl dn), ("_max_ports", .int 8), ("_max_parts", .int 16)]
def HeadAt (K : PySem.W.Frag) (H : Hp) (nm : V) (i o : Addr) : Option (Str × List Str × List Str) → Prop
  | none => nm = .non
  | some (n, ins, outs) => nm = .str n ∧ SqT K H i (ins.map V.str) ∧ SqT K H o (outs.map V.str)
def RdAt (K : PySem.W.Frag) (C : Addr) (H : Hp) (p d dw : Addr) (st : RS) : Prop := ∃ (dx : Addr) (nm : V) (i o : Addr), H p = some (.ins C dx (fsR nm (.ref i) (.ref o) d dw st.done)) ∧ PartsAt H d st.parts ∧ WiresAt H dw st.wires ∧ HeadAt K H nm i o st.head ∧ st.parts.length ≤ 16
/-- all but the reader's own three objects is as it was -/
def SameR (p d dw : Addr) (H H' : Hp) : Prop := ∀ b u, b ≠ p → b ≠ d → b ≠ dw → H b = some u → H' b = some u
theorem SameR.of {p d dw : Addr} {H H' : Hp} (h : Same H H') : SameR p d dw H H' := fun b u _ _ _ e => h b u e
theorem SameR.of_p {p d dw : Addr} {H H' : Hp} (h : SameX p H H') : SameR p d dw H H' := fun b u n _ _ e => h b u n e
theorem SameR.of_d {p d dw : Addr} {H H' : Hp} (h : SameX d H H') : SameR p d dw H H' := fun b u _ n _ e => h b u n e
theorem SameR.of_w {p d dw : Addr} {H H' : Hp} (h : SameX dw H H') : SameR p d dw H H' := fun b u _ _ n e => h b u n e
theorem SameR.trans {p d dw : Addr} {H H1 H2 : Hp} (h : SameR p d dw H H1) (k : SameR p d dw H1 H2) : SameR p d dw H H2 := fun b u n1 n2 n3 e => k b u n1 n2 n3 (h b u n1 n2 n3 e)
/-- what stands at a is no tuple -/
def NoTup (H : Hp) (a : Addr) : Prop := ∀ xs, H a ≠ some (.tup xs) ∧ ∀ o, H a ≠ some (.frz o (.tup xs))
theorem sqT_X {K : PySem.W.Frag} {H H' : Hp} {a b : Addr} {xs : List V} (e : SameX a H H') (n : NoTup H a) (h : SqT K H b xs) : SqT K H' b xs := by
  rcases h with (h | ⟨o, h⟩) | h
  · exact .inl (.inl (e _ _ (fun z => (n xs).1 (by rw [← z]; exact h)) h))
  · exact .inl (.inr ⟨o, e _ _ (fun z => (n xs).2 o (by rw [← z]; exact h)) h⟩)
  · exact .inr h
theorem WiresAt.X {H H' : Hp} {a d : Addr} {ws : List (Port × Port)} (h : WiresAt H d ws) (e : SameX a H H') (n : NoTup H a) (nd : d ≠ a) : WiresAt H' d ws := by
  obtain ⟨as, h1, h2, h3⟩ := h
  exact ⟨as, h1, e _ _ nd h2, fun i w b e1 e2 => e _ _ (fun z => (n _).1 (by rw [← z]; exact h3 i w b e1 e2)) (h3 i w b e1 e2)⟩
theorem HeadAt.X {K : PySem.W.Frag} {H H' : Hp} {a i o : Addr} {nm : V} {r : Option (Str × List Str × List Str)} (h : HeadAt K H nm i o r) (e : SameX a H H') (n : NoTup H a) : HeadAt K H' nm i o r := by
  cases r with
  | none => exact h
  | some r =>
    obtain ⟨n1, ins, outs⟩ := r
    exact ⟨h.1, sqT_X e n h.2.1, sqT_X e n h.2.2⟩
theorem takePart_len {ps ps' : List (Str × Str)} {row : Str} (h : takePart ps row = some ps') : ps'.length ≤ 16 := by
  unfold takePart at h
  split at h
  · rename_i q
    cases h
    rw [List.length_append]
    have := q.1
    show ps.length + 1 ≤ 16
    omega
  · cases h
def spTake (K : PySem.W.Frag) (C : Addr) : Sp := fun vs H Q _ => ∃ (p d dw : Addr) (row : Str) (st : RS), vs = [.ref p, .str row] ∧ RdAt K C H p d dw st ∧ st.wires.length ≤ 1000000 ∧ row.length ≤ 190000 ∧
  (step st row = none → ∀ H', Same H H' → Q (.bl false) H') ∧ (∀ st', step st row = some st' → ∀ H', SameR p d dw H H' → RdAt K C H' p d dw st' → Q (.bl true) H')
/-- what the reader's class tells -/
structure RdC (P : Program) (w : World) (K : PySem.W.Frag) (mg : Str → Option Value) (base : Heap) (C : Addr) : Prop where
  cl : Cls K C
  nN : NoAttr K C "name"
  nI : NoAttr K C "inputs"
  nO : NoAttr K C "outputs"
  nP : NoAttr K C "parts"
  nW : NoAttr K C "wires"
  nD : NoAttr K C "is_done"
  nA : NoAttr K C "_max_ports"
  nB : NoAttr K C "_max_parts"
section
variable {P : Program} {w : World} {K : PySem.W.Frag} {mg : Str → Option Value} {base : Heap} {C : Addr}
theorem scTk : FnScope ["self", "row"] ["self", "row"] (defScope sTake) := ⟨rfl, rfl, rfl, by decide +kernel, rfl, by decide +kernel, by decide +kernel⟩
theorem ok_take {f fH fP fW : Addr} {fd fdH fdP fdW : FuncData} (F : Fun K "take" "DiagramReader.take" sTake f fd) (R : RdC P w K mg base C)
    (mH : Meth K C "_take_head" fH) (GH : FnOk P w K mg base CX0 3 fH fdH ["self", "row"] (spTakeHead C)) (bH : Binds K fdH ["self", "row"] [])
    (mP : Meth K C "_take_part" fP) (GP : FnOk P w K mg base CX0 4 fP fdP ["self", "row"] (spTakePart C)) (bP : Binds K fdP ["self", "row"] [])
    (mW : Meth K C "_take_wire" fW) (GW : FnOk P w K mg base CX0 3 fW fdW ["self", "row"] (spTakeWire K C)) (bW : Binds K fdW ["self", "row"] []) :
    FnOk P w K mg base CX0 5 f fd ["self", "row"] (spTake K C) := by
  refine F.ok scTk (fun vs H Q E h => ?_) (fun cdv A outer s H vs Q E hr h => ?_)
  · obtain ⟨p, d, dw, row, st, rfl, _⟩ := h
    rfl
  obtain ⟨p, d, dw, row, st, rfl, hR, hwl, hrow, kF, kT⟩ := h
  refine ⟨_, pss_cons (ps_if (pt_cmpR op_isN (pe_fld (pv 0) rfl) pe_non (nomark _)) (pss_one (ps_ret (pe_meth (pv 0) R.cl mH GH (hr.mono (by decide)) bH .nil pass0 (pa_cons (pv 1) pa_nil)))) pss_nil)
    (pss_cons (ps_if (pt_val (pe_fld (pv 0) rfl)) (pss_one (ps_ret pe_bl)) pss_nil)
    (pss_cons (ps_if (pt_cmpR op_eq (pv 1) pe_str (nomark _)) (pss_cons (ps_fld (pv 0) pe_bl rfl) (pss_one (ps_ret pe_bl))) pss_nil)
    (pss_cons (ps_if (pt_val (pe_m1 PySem.F.slot_str_startswith PySem.F.type_str_startswith mt_startswith (pv 1) pe_str)) (pss_one (ps_ret (pe_and (pe_notW (pe_fld (pv 0) rfl)) (pe_one (pe_meth (pv 0) R.cl mP GP hr bP .nil pass0 (pa_cons (pv 1) pa_nil)))))) pss_nil)
    (pss_one (ps_ret (pe_meth (pv 0) R.cl mW GW (hr.mono (by decide)) bW .nil pass0 (pa_cons (pv 1) pa_nil))))))), ?_⟩
  obtain ⟨dx, nm, i, o, hp, hP, hW, hH, h16⟩ := hR
  obtain ⟨hd0, ps, ws, dn⟩ := st
  dsimp only at hp hP hW hH h16 hwl
  have hP' : H d = some (.dK (ps.map fun p => (Sum.inr p.1, V.str p.2))) := hP
  obtain ⟨wd, hwd⟩ : ∃ kvs, H dw = some (.dT kvs) := ⟨_, hW.choose_spec.2.1⟩
  have npd : d ≠ p := fun z => by rw [z, hp] at hP'; cases hP'
  have npw : dw ≠ p := fun z => by rw [z, hp] at hwd; cases hwd
  have ndw : dw ≠ d := fun z => by rw [z, hP'] at hwd; cases hwd
  have tp : NoTup H p := fun xs => ⟨fun z => by (rw [hp] at z; cases z), fun o z => by (rw [hp] at z; cases z)⟩
  have td : NoTup H d := fun xs => ⟨fun z => by (rw [hP'] at z; cases z), fun o z => by (rw [hP'] at z; cases z)⟩
  have tw : NoTup H dw := fun xs => ⟨fun z => by (rw [hwd] at z; cases z), fun o z => by (rw [hwd] at z; cases z)⟩
  cases hd0 with
  | none =>
    have e : nm = .non := hH
    subst e
    refine ⟨_, rfl, p, C, dx, _, _, rfl, hp, R.cl, R.nN, rfl, rfl, _, rfl, iteT ?_⟩
    refine ⟨_, rfl, p, dx, _, rfl, hp, rfl, _, rfl, ?_⟩
    dsimp only [tNil, List.append_nil]
    refine ⟨p, dx, _, row, rfl, hp, rfl, by show 8 ≤ 20; decide, hrow, fun hk H' s' => ?_, fun hk a b H' s' hp' ha hb => ?_⟩
    · exact kF (by show (if okHead row then _ else none) = none; rw [if_neg hk]) H' s'
    · refine kT ⟨some (headName row, headIns row, headOuts row), ps, ws, dn⟩ (by show (if okHead row then _ else none) = _; rw [if_pos hk]) H' (.of_p s') ⟨dx, .str (headName row), a, b, hp', s' _ _ npd hP, hW.X s' tp npw, ⟨rfl, .of ha, .of hb⟩, h16⟩
  | some r =>
  obtain ⟨n, ins, outs⟩ := r
  obtain ⟨rfl, hi, ho⟩ := hH
  refine ⟨_, rfl, p, C, dx, _, _, rfl, hp, R.cl, R.nN, rfl, rfl, _, rfl, iteF ?_⟩
  refine ⟨_, rfl, p, C, dx, _, _, rfl, hp, R.cl, R.nD, rfl, _, rfl, ?_⟩
  cases dn with
  | true => exact iteT (kF rfl H (Same.refl H))
  | false =>
  refine iteF ⟨_, rfl, rfl, _, rfl, ?_⟩
  by_cases he : row = "end"
  · rw [decide_eq_true (congrArg V.str he)]
    refine iteT ⟨_, rfl, p, C, dx, _, rfl, hp, R.cl, R.nD, by show 8 < 1000; decide, ?_⟩
    refine kT ⟨some (n, ins, outs), ps, ws, true⟩ (by show (if false = true then none else if row = "end" then _ else _) = _; rw [if_neg Bool.false_ne_true, if_pos he]) _ (.of_p SameX.put) ⟨dx, .str n, i, o, upd_same, ?_, hW.X SameX.put tp npw, ⟨rfl, sqT_X SameX.put tp hi, sqT_X SameX.put tp ho⟩, h16⟩
    exact (upd_ne npd).trans hP'
  rw [decide_eq_false (fun z => he (V.str.inj z))]
  have estep : step ⟨some (n, ins, outs), ps, ws, false⟩ row = if Txt.startswith row "  part " = true then (if ws.isEmpty = true then (takePart ps row).map fun ps => (⟨some (n, ins, outs), ps, ws, false⟩ : RS) else none) else (takeWire (ps.map (·.1)) ins outs ws row).map fun ws => (⟨some (n, ins, outs), ps, ws, false⟩ : RS) := by
    show (if false = true then none else if row = "end" then _ else _) = _
    rw [if_neg Bool.false_ne_true, if_neg he]
  rw [estep] at kF kT
  refine iteF ⟨_, rfl, ⟨_, rfl⟩, _, _, rfl, rfl, _, rfl, ?_⟩
  cases hst : Txt.startswith row "  part " with
  | true =>
    rw [if_pos hst] at kF kT
    refine iteT ⟨_, rfl, p, C, dx, _, _, rfl, hp, R.cl, R.nW, rfl, dw, _, rfl, hW.choose_spec.2.1, _, rfl, ?_⟩
    have hem : ((ws.zip hW.choose).map fun q => (keyOf q.1.1, V.ref q.2)).isEmpty = ws.isEmpty := by
      have hl := hW.choose_spec.1
      generalize hW.choose = as at hl
      cases ws <;> cases as <;> first | rfl | cases hl
    rw [hem]
    cases hwe : ws.isEmpty with
    | false =>
      rw [if_neg (by rw [hwe]; exact Bool.false_ne_true)] at kF
      exact iteF (kF rfl H (Same.refl H))
    | true =>
    rw [if_pos hwe] at kF kT
    refine iteT ⟨_, rfl, p, dx, _, rfl, hp, rfl, _, rfl, ?_⟩
    dsimp only [tNil, List.append_nil]
    refine ⟨p, dx, d, _, row, ps, rfl, hp, rfl, rfl, hP, h16, hrow, fun e H' s' => kF (by rw [e]; rfl) H' s', fun ps' e H' s' hP1 => ?_⟩
    refine kT ⟨some (n, ins, outs), ps', ws, false⟩ (by rw [e]; rfl) H' (.of_d s') ⟨dx, .str n, i, o, s' _ _ npd.symm hp, hP1, hW.X s' td ndw, ⟨rfl, sqT_X s' td hi, sqT_X s' td ho⟩, takePart_len e⟩
  | false =>
    rw [if_neg (by rw [hst]; exact Bool.false_ne_true)] at kF kT
    refine iteF ⟨_, rfl, p, dx, _, rfl, hp, rfl, _, rfl, ?_⟩
    dsimp only [tNil, List.append_nil]
    refine ⟨p, dx, d, dw, o, i, _, row, ps, ins, outs, ws, rfl, hp, rfl, rfl, rfl, rfl, rfl, hP, hW, hi, ho, hwl, hrow, fun e H' s' => kF (by rw [e]; rfl) H' s', fun ws' e H' s' hW1 => ?_⟩
    refine kT ⟨some (n, ins, outs), ps, ws', false⟩ (by rw [e]; rfl) H' (.of_w s') ⟨dx, .str n, i, o, s' _ _ npw.symm hp, s' _ _ ndw.symm hP, hW1, ⟨rfl, sqT_X s' tw hi, sqT_X s' tw ho⟩, h16⟩
end
end K8
namespace K8
open PySem L2 Own StX ClX NdefX
/-! ### texts in order -/
def leS (x y : Str) : Prop := x.cps.toList ≤ y.cps.toList
theorem leS_iff {x y : Str} : leS x y ↔ PySem.Spec.ltCps y.cps.toList x.cps.toList = false := by
  rw [PyProof.Rows.ltCps_eq]
  unfold leS
  rw [decide_eq_false_iff_not, List.not_lt]
theorem leS_anti {x y : Str} (h : leS x y) (g : leS y x) : x = y := TL.ext_tl (List.le_antisymm h g)
theorem leS_trans {x y z : Str} (h : leS x y) (g : leS y z) : leS x z := List.le_trans h g
theorem rising_pw : ∀ (l : List Str) (p : Str), PyProof.Rows.risingS p l = true → (p :: l).Pairwise leS
  | [], p, _ => List.pairwise_singleton _ _
  | x :: r, p, h => by
    simp only [PyProof.Rows.risingS, Bool.and_eq_true, Bool.not_eq_true'] at h
    have ih := rising_pw r x h.2
    have hpx : leS p x := leS_iff.mpr h.1
    refine List.pairwise_cons.mpr ⟨fun y hy => ?_, ih⟩
    rcases List.mem_cons.mp hy with rfl | hy
    · exact hpx
    · exact leS_trans hpx ((List.pairwise_cons.mp ih).1 y hy)
theorem sorted_pw {l : List Str} (h : PyProof.Rows.sortedS l = true) : l.Pairwise leS := by
  cases l with
  | nil => exact List.Pairwise.nil
  | cons p r => exact rising_pw r p h
/-- a text put into a rising list -/
def putS (x : Str) : List Str → List Str
  | [] => [x]
  | y :: r => if PySem.Spec.ltCps y.cps.toList x.cps.toList = true then y :: putS x r else x :: y :: r
def sortS : List Str → List Str
  | [] => []
  | x :: r => putS x (sortS r)
theorem putS_perm (x : Str) : ∀ l, (putS x l).Perm (x :: l)
  | [] => List.Perm.refl _
  | y :: r => by
    unfold putS
    split
    · exact ((putS_perm x r).cons y).trans (List.Perm.swap x y r)
    · exact List.Perm.refl _
theorem sortS_perm : ∀ l, (sortS l).Perm l
  | [] => List.Perm.refl _
  | x :: r => (putS_perm x (sortS r)).trans ((sortS_perm r).cons x)
theorem putS_pw (x : Str) : ∀ l, l.Pairwise leS → (putS x l).Pairwise leS
  | [], _ => List.pairwise_singleton _ _
  | y :: r, h => by
    unfold putS
    obtain ⟨h1, h2⟩ := List.pairwise_cons.mp h
    split
    · rename_i q
      refine List.pairwise_cons.mpr ⟨fun z hz => ?_, putS_pw x r h2⟩
      rcases List.mem_cons.mp ((putS_perm x r).mem_iff.mp hz) with rfl | hz
      · have q2 : y.cps.toList < z.cps.toList := by
          rw [PyProof.Rows.ltCps_eq] at q
          exact of_decide_eq_true q
        exact List.le_of_lt q2
      · exact h1 z hz
    · rename_i q
      have hxy : leS x y := leS_iff.mpr (Bool.not_eq_true _ ▸ q)
      refine List.pairwise_cons.mpr ⟨fun z hz => ?_, h⟩
      rcases List.mem_cons.mp hz with rfl | hz
      · exact hxy
      · exact leS_trans hxy (h1 z hz)
theorem sortS_pw : ∀ l, (sortS l).Pairwise leS
  | [] => List.Pairwise.nil
  | x :: r => putS_pw x _ (sortS_pw r)
theorem sortS_eq {l m : List Str} (hl : PyProof.Rows.sortedS l = true) (h : l.Perm m) : l = sortS m :=
  List.Perm.eq_of_pairwise (fun _ _ _ _ => leS_anti) (sorted_pw hl) (sortS_pw m) (h.trans (sortS_perm m).symm)
/-! ### the targets in order -/
def gOf (ws : List (Port × Port)) (p : Str) : List Str := (ws.filter fun w => decide (w.1.1 = p)).map fun w => w.1.2
def orderT (ps : List (Str × Str)) (outs : List Str) (ws : List (Port × Port)) : List Port :=
  (ps.flatMap fun p => (sortS (gOf ws p.1)).map fun n => (p.1, n)) ++ (outs.filter fun o => decide (((Str.empty, o) : Port) ∈ ws.map (·.1))).map fun o => (Str.empty, o)
/-- pairs of texts: tuples at as -/
def PairsAt (H : Hp) (as : List Addr) (ps : List (Str × Str)) : Prop := as.length = ps.length ∧ ∀ (i : Nat) (a : Addr) (p : Str × Str), as[i]? = some a → ps[i]? = some p → H a = some (.tup [.str p.1, .str p.2])
theorem PairsAt.same {H H' : Hp} {as : List Addr} {ps : List (Str × Str)} (h : PairsAt H as ps) (s : Same H H') : PairsAt H' as ps := ⟨h.1, fun i a p e1 e2 => s _ _ (h.2 i a p e1 e2)⟩
theorem PairsAt.keep {H H' : Hp} {as : List Addr} {ps : List (Str × Str)} (h : PairsAt H as ps) (s : ∀ b xs, H b = some (.tup xs) → H' b = some (.tup xs)) : PairsAt H' as ps := ⟨h.1, fun i a p e1 e2 => s _ _ (h.2 i a p e1 e2)⟩
theorem PairsAt.snoc {H : Hp} {as : List Addr} {ps : List (Str × Str)} {t : Addr} {p : Str × Str} (h : PairsAt H as ps) (e : H t = some (.tup [.str p.1, .str p.2])) : PairsAt H (as ++ [t]) (ps ++ [p]) := by
  refine ⟨by rw [List.length_append, List.length_append, h.1]; rfl, fun i a q e1 e2 => ?_⟩
  by_cases hi : i < as.length
  · rw [List.getElem?_append_left hi] at e1
    rw [List.getElem?_append_left (by rw [← h.1]; exact hi)] at e2
    exact h.2 i a q e1 e2
  · rw [List.getElem?_append_right (by omega)] at e1
    rw [List.getElem?_append_right (by rw [← h.1]; omega), ← h.1] at e2
    cases hk : i - as.length with
    | zero =>
      rw [hk] at e1 e2
      cases e1
      cases e2
      exact e
    | succ k =>
      rw [hk] at e1
      cases e1
/-- the dict from parts to lists -/
def nmK (ps : List (Str × Str)) (ls : List Addr) : List (Key × V) := (ps.zip ls).map fun q => (Sum.inr q.1.1, V.ref q.2)
def ListsAt (H0 H : Hp) (ps : List (Str × Str)) (ls : List Addr) (g : Str → List Str) : Prop := ∀ (i : Nat) (p : Str × Str) (l : Addr), ps[i]? = some p → ls[i]? = some l → H0 l = none ∧ H l = some (.lst ((g p.1).map V.str))
theorem nm_snoc {ps : List (Str × Str)} {ls : List Addr} {p : Str × Str} {l : Addr} (h : ls.length = ps.length) : nmK (ps ++ [p]) (ls ++ [l]) = nmK ps ls ++ [(Sum.inr p.1, V.ref l)] := by
  unfold nmK
  rw [List.zip_append h.symm, List.map_append]
  rfl
theorem nm_put {ps : List (Str × Str)} {ls : List Addr} {p : Str × Str} {l : Addr} (h : ls.length = ps.length) (n : ¬ p.1 ∈ ps.map (·.1)) : putK (nmK ps ls) (Sum.inr p.1) (V.ref l) = nmK (ps ++ [p]) (ls ++ [l]) := by
  rw [nm_snoc h]
  unfold putK
  rw [if_neg]
  intro q
  obtain ⟨kv, hkv, e⟩ := List.any_eq_true.mp q
  obtain ⟨⟨r, b⟩, hr, rfl⟩ := List.mem_map.mp hkv
  have e2 : r.1 = p.1 := Sum.inr.inj (of_decide_eq_true e)
  exact n (List.mem_map.mpr ⟨r, (List.of_mem_zip hr).1, e2⟩)
theorem nm_val : ∀ (ps : List (Str × Str)) (ls : List Addr), ls.length = ps.length → (ps.map (·.1)).Nodup → ∀ (i : Nat) (p : Str × Str) (l : Addr), ps[i]? = some p → ls[i]? = some l → valV (nmK ps ls) (Sum.inr p.1) = some (V.ref l)
  | [], _, _, _, i, p, l, e, _ => by cases e
  | _ :: _, [], h, _, _, _, _, _, _ => by cases h
  | q :: ps, m :: ls, h, nd, 0, p, l, e1, e2 => by
    cases e1
    cases e2
    unfold valV nmK
    rw [List.zip_cons_cons, List.map_cons, List.find?_cons, decide_eq_true rfl]
    rfl
  | q :: ps, m :: ls, h, nd, i + 1, p, l, e1, e2 => by
    have ih := nm_val ps ls (Nat.succ.inj h) (List.nodup_cons.mp nd).2 i p l e1 e2
    have hne : ¬ ((Sum.inr q.1 : Key) = Sum.inr p.1) := fun z => (List.nodup_cons.mp nd).1 (by
      have e : q.1 = p.1 := Sum.inr.inj z
      show q.1 ∈ _
      rw [e]
      exact List.mem_map.mpr ⟨p, List.mem_of_getElem? e1, rfl⟩)
    unfold valV nmK at *
    rw [List.zip_cons_cons, List.map_cons, List.find?_cons, decide_eq_false hne]
    exact ih
theorem gOf_snoc {ws : List (Port × Port)} {w : Port × Port} {p : Str} : gOf (ws ++ [w]) p = if w.1.1 = p then gOf ws p ++ [w.1.2] else gOf ws p := by
  unfold gOf
  rw [List.filter_append, List.map_append]
  by_cases h : w.1.1 = p
  · rw [if_pos h]
    simp [h]
  · rw [if_neg h]
    simp [h]
theorem gOf_len (ws : List (Port × Port)) (p : Str) : (gOf ws p).length ≤ ws.length := by
  unfold gOf
  rw [List.length_map]
  exact List.length_filter_le _ _
theorem flat_len {ps : List (Str × Str)} {ws : List (Port × Port)} : (ps.flatMap fun p => (sortS (gOf ws p.1)).map fun n => (p.1, n)).length ≤ ps.length * ws.length := by
  induction ps with
  | nil => exact Nat.zero_le _
  | cons p r ih =>
    rw [List.flatMap_cons, List.length_append, List.length_cons, List.length_map, (sortS_perm _).length_eq, Nat.succ_mul]
    have := gOf_len ws p.1
    omega
end K8
namespace K8
open PySem L2 Own StX ClX NdefX
def spOrder (K : PySem.W.Frag) : Sp := fun vs H Q _ => ∃ (pa o dw : Addr) (as : List Addr) (ps : List (Str × Str)) (outs : List Str) (ws : List (Port × Port)), vs = [.ref pa, .ref o, .ref dw] ∧ SqT K H pa (as.map V.ref) ∧ PairsAt H as ps ∧ SqT K H o (outs.map V.str) ∧ WiresAt H dw ws ∧
  ps.length ≤ 16 ∧ outs.length ≤ 8 ∧ ws.length ≤ 1000000 ∧ (ps.map (·.1)).Nodup ∧ (∀ p ∈ ps, p.1.length ≠ 0) ∧ (∀ w ∈ ws, (w.1.1.length = 0 ∨ w.1.1 ∈ ps.map (·.1)) ∧ w.1.1.length ≤ 200000) ∧
  ∀ L bs H', Same H H' → H' L = some (.lst (bs.map V.ref)) → PairsAt H' bs (orderT ps outs ws) → Q (.ref L) H'
theorem kv_at {ws : List (Port × Port)} {was : List Addr} {i : Nat} {k : List Key} {v : V} (h : ((ws.zip was).map fun q => (keyOf q.1.1, V.ref q.2))[i]? = some (k, v)) : ∃ w, ws[i]? = some w ∧ k = keyOf w.1 := by
  rw [List.getElem?_map] at h
  obtain ⟨⟨w, a⟩, e, h⟩ := Option.map_eq_some_iff.mp h
  have e := (List.getElem?_zip_eq_some.mp e).1
  cases h
  exact ⟨w, e, rfl⟩
theorem tk1 {α : Type} {l : List α} {i : Nat} {x : α} (h : l[i]? = some x) : l.take (i + 1) = l.take i ++ [x] := by rw [List.take_add_one, h]; rfl
section
variable {P : Program} {w : World} {K : PySem.W.Frag} {mg : Str → Option Value} {base : Heap}
abbrev nO : List Str := ["parts", "outputs", "targets", "part", "names", "name", "ordered", "_", "output"]
theorem scO : FnScope nO ["parts", "outputs", "targets"] (defScope sOrder) := ⟨rfl, rfl, rfl, by decide +kernel, rfl, by decide +kernel, by decide +kernel⟩
theorem ok_order {f : Addr} {fd : FuncData} (F : Fun K "order_targets" "order_targets" sOrder f fd) (zso : mg "sorted" = none) : FnOk P w K mg base CX0 1 f fd ["parts", "outputs", "targets"] (spOrder K) := by
  refine F.ok scO (fun vs H Q E h => ?_) (fun cdv A outer s H vs Q E hr h => ?_)
  · obtain ⟨pa, o, dw, as, ps, outs, ws, rfl, _⟩ := h
    rfl
  obtain ⟨pa, o, dw, as, ps, outs, ws, rfl, hpa, hps, ho, hW, h16, ho8, hwl, hnd, hpl, hwk, kk⟩ := h
  have hu1 := Nat.lt_of_le_of_lt (Nat.add_le_add_left (show 1 ≤ 64 by decide) _) hr.units
  refine ⟨_, pss_cons (ps_set (i := 4) scO.nd rfl (.inr rfl) (by exact (pe_dc (own := [("part", 3), ("_", 7)]) (g := gTup K 2 (gCons (gName 3) (gCons (gName 7) gNil))) rfl scO.nd (pi_tup (pv 0)) (blkOk_by (own := [("part", 3), ("_", 7)]) (N := nO) (sc := defScope sOrder) (by decide +kernel)) (fun _ _ _ _ _ => by exact (pg_tup rfl (pgs_cons (pg_name (i := 3) scO.nd rfl (Or.inl rfl)) (pgs_cons (pg_name (i := 7) scO.nd rfl (Or.inl rfl)) pgs_nil)))) (fun _ _ _ _ _ => pts_nil) (fun _ _ _ _ _ => pv 3) (fun _ _ _ _ _ => pe_lst pa_nil))))
    (pss_cons (ps_lock (ps_for PassesOwn.never rfl (pi_keys (pv 2)) (pg_tup (by rfl) (pgs_cons (pg_name (i := 3) scO.nd rfl (.inl rfl)) (pgs_cons (pg_name (i := 5) scO.nd rfl (.inl rfl)) pgs_nil)))
      (pss_one (ps_if (pt_truth (pv 3) (by intro _; rfl)) (pss_one (ps_expr (pe_bm PySem.F.plainAttrs_list PySem.F.slot_list_append PySem.F.type_list_append mt_append (pe_dget hu1 (pv 4) (pv 3) (fun _ _ => rfl)) (pa_cons (pv 5) pa_nil)))) pss_nil))))
    (pss_cons (ps_lock (by exact (ps_setLc2 (i := 6) (own := [("part", 3), ("name", 5)]) (g := gName 3) (g1 := gName 5) (wi1 := iList K (tCB (rSortedL K) (tCons (tDGet (tVar 4) (tVar 3)) tNil))) (vs1 := [5]) rfl scO.nd rfl rfl (sw_true rfl rfl rfl (by decide +kernel)) (pi_keys (pv 4)) (blkOk_by (own := [("part", 3), ("name", 5)]) (N := nO) (sc := defScope sOrder) (by decide +kernel)) (by decide) (fun _ _ _ _ _ => pg_name (i := 3) scO.nd rfl (Or.inl rfl)) (fun _ _ _ _ _ => pts_nil)
      (fun _ _ _ _ _ => by exact (pi_list (pe_callB (id := "sorted") cr_sortedLst (by rfl) zso (by decide +kernel) (pa_cons (pe_dget hu1 (pv 4) (pv 3) (fun _ _ => rfl)) pa_nil)))) (fun _ _ _ _ _ => pg_name (i := 5) scO.nd rfl (Or.inl rfl)) (fun _ _ _ _ _ => pts_nil) (fun _ _ _ _ _ => by exact (pe_tup (pa_cons (pv 3) (pa_cons (pv 5) pa_nil)))))))
    (pss_one (ps_ret (pe_op op_cat (pv 6) (pe_lc (own := [("output", 8)]) (g := gName 8) rfl scO.nd (pi_tup (pv 1)) (blkOk_by (own := [("output", 8)]) (N := nO) (sc := defScope sOrder) (by decide +kernel)) (fun _ _ _ _ _ => pg_name (i := 8) scO.nd rfl (Or.inl rfl)) (fun _ _ _ _ _ => by exact (pts_one (pt_cmp (pc_din hu1 (pe_tup (pa_cons pe_str (pa_cons (pv 8) pa_nil))) (pv 2)) (by rfl))))
      (fun _ _ _ _ _ => by exact (pe_tup (pa_cons pe_str (pa_cons (pv 8) pa_nil)))))))))), ?_⟩
  have sz : ∀ {n : Nat}, n ≤ 16000100 → n ≤ sizeLine := fun h => by rw [sizeLine_eq]; omega
  have hal := hps.1
  -- names = {part: [] for part, _ in parts}
  refine ⟨_, rfl, pa, rfl, ⟨_, hpa⟩, fun dn hdn => ?_⟩
  refine dc_tup (K := K) (a := pa) (xs := as.map V.ref) (fun i H' => Same H H' ∧ ∃ ls : List Addr, ls.length = (ps.take i).length ∧ ls.Nodup ∧ H' dn = some (.dK (nmK (ps.take i) ls)) ∧ ListsAt H H' (ps.take i) ls (fun _ => []))
    ⟨upd_new hdn, [], rfl, List.nodup_nil, upd_same, fun i p l e _ => by cases e⟩ (fun i H' _ q => sqT_same q.1 hpa) ?_ ?_
  · rintro i v H1 hi ⟨s1, ls, hl, hln, hd1, hls⟩
    rw [List.getElem?_map] at hi
    obtain ⟨a, ha, rfl⟩ := Option.map_eq_some_iff.mp hi
    have hilt : i < ps.length := by
      have := (List.getElem?_eq_some_iff.mp ha).1
      omega
    obtain ⟨p, hp⟩ : ∃ p, ps[i]? = some p := ⟨_, List.getElem?_eq_getElem hilt⟩
    have g := s1 _ _ (hps.2 i a p ha hp)
    refine ⟨a, _, rfl, .of g, rfl, _, _, rfl, _, _, rfl, rfl, rfl, ?_⟩
    refine ⟨_, rfl, small1 (by show 0 ≤ 8; decide), fun l hl1 => ⟨_, Sum.inr p.1, rfl, (upd_ne (ne_of_none hd1 hl1)).trans hd1, ?_, same_put (s1.trans (upd_new hl1)) hdn, ls ++ [l], ?_, ?_, ?_, ?_⟩⟩
    · unfold nmK
      rw [List.length_map, List.length_zip, hl, Nat.min_self, List.length_take, sizeLine_eq]
      omega
    · rw [tk1 hp, List.length_append, List.length_append, hl]
      rfl
    · refine List.nodup_append.mpr ⟨hln, List.nodup_cons.mpr ⟨List.not_mem_nil, List.nodup_nil⟩, fun x hx y hy e => ?_⟩
      rw [List.mem_singleton.mp hy] at e
      obtain ⟨j, hj, rfl⟩ := List.getElem_of_mem hx
      have z := (hls j (ps.take i)[j] ls[j] (List.getElem?_eq_getElem (by omega)) (List.getElem?_eq_getElem hj)).2
      rw [e, hl1] at z
      cases z
    · rw [upd_same, tk1 hp, nm_put hl]
      intro hm
      have nd2 : ((ps.take (i + 1)).map (·.1)).Nodup := List.Nodup.sublist ((List.take_sublist _ _).map _) hnd
      rw [tk1 hp, List.map_append] at nd2
      exact (List.nodup_append.mp nd2).2.2 _ hm _ (List.mem_singleton.mpr rfl) rfl
    · intro j q m e1 e2
      rw [tk1 hp] at e1
      have ne1 : m ≠ dn → m ≠ l → upd (upd H1 l (.lst [])) dn (.dK (putK (nmK (ps.take i) ls) (Sum.inr p.1) (V.ref l))) m = H1 m := fun n1 n2 => by rw [upd_ne n1, upd_ne n2]
      by_cases hj : j < ls.length
      · rw [List.getElem?_append_left (by omega)] at e1
        rw [List.getElem?_append_left hj] at e2
        obtain ⟨z1, z2⟩ := hls j q m e1 e2
        refine ⟨z1, (ne1 (fun e => ?_) (ne_of_none z2 hl1)).trans z2⟩
        rw [e, hd1] at z2
        cases z2
      · rw [List.getElem?_append_right (by omega), hl] at e2
        rw [List.getElem?_append_right (by omega)] at e1
        cases hk : j - (ps.take i).length with
        | zero =>
          rw [hk] at e1 e2
          cases e1
          cases e2
          have nld : l ≠ dn := (ne_of_none hd1 hl1).symm
          exact ⟨s1.free hl1, (upd_ne nld).trans upd_same⟩
        | succ k =>
          rw [hk] at e1
          cases e1
  rintro H1 ⟨s1, ls, hl, hln, hd1, hls⟩
  rw [List.take_of_length_le (by rw [List.length_map]; omega)] at hl hd1 hls
  -- for part, name in targets
  obtain ⟨was, hwa, hwd, hwt⟩ := hW
  have hkl : ((ws.zip was).map fun q => (keyOf q.1.1, V.ref q.2)).length = ws.length := by rw [List.length_map, List.length_zip, hwa, Nat.min_self]
  generalize hkvs : ((ws.zip was).map fun q => (keyOf q.1.1, V.ref q.2)) = kvs at hwd hkl
  have ndw : dn ≠ dw := (ne_of_none hwd hdn).symm
  refine ⟨dw, _, s1 _ _ hwd, trivial, fun od => ⟨_, rfl, dw, od, rfl, .inr ⟨kvs, upd_same, ?_⟩⟩⟩
  refine for_it walk_keysT (fun i σ H' => ∃ u v : Option V, σ = [some (.ref pa), some (.ref o), some (.ref dw), u, some (.ref dn), v, none, none, none] ∧ (∀ b z, b ≠ dw → H b = some z → H' b = some z) ∧ H' dw = some (.frz od (.dT kvs)) ∧ H' dn = some (.dK (nmK ps ls)) ∧ ListsAt H H' ps ls (gOf (ws.take i)))
    ⟨none, none, rfl, fun b z n e => (upd_ne n).trans (s1 _ _ e), upd_same, (upd_ne ndw).trans hd1, fun i p l e1 e2 => ?_⟩ (fun i σ H' _ q => ?_) ?turn ?done
  · obtain ⟨z1, z2⟩ := hls i p l e1 e2
    refine ⟨z1, (upd_ne fun e => ?_).trans z2⟩
    rw [e, hwd] at z1
    cases z1
  · obtain ⟨u, v, _, _, z, _⟩ := q
    exact z
  case turn =>
    rintro i x σ H2 H3 hi ⟨u, v, rfl, s2, hf2, hd2, hls2⟩ ⟨rfl, k, vv, q, hk, rfl, hq⟩
    rw [← hkvs] at hk
    obtain ⟨w1, hw1, rfl⟩ := kv_at hk
    have hwm := hwk w1 (List.mem_of_getElem? hw1)
    refine ⟨q, _, rfl, .of hq, rfl, _, _, rfl, _, _, rfl, rfl, ?_⟩
    refine ⟨_, rfl, _, ⟨sz (by have := hwm.2; omega), rfl⟩, ?_⟩
    by_cases h0 : w1.1.1.length = 0
    · rw [show ((w1.1.1.length : Int) != 0) = false by simp [h0]]
      refine iteF ⟨_, _, rfl, s2, hf2, hd2, fun j p l e1 e2 => ?_⟩
      obtain ⟨z1, z2⟩ := hls2 j p l e1 e2
      refine ⟨z1, ?_⟩
      rw [tk1 hw1, gOf_snoc, if_neg (fun e => hpl p (List.mem_of_getElem? e1) (by rw [← e]; exact h0))]
      exact z2
    · rw [show ((w1.1.1.length : Int) != 0) = true by simp [h0]]
      obtain ⟨p1, hp1m, hp1⟩ := List.mem_map.mp (hwm.1.resolve_left h0)
      obtain ⟨j, hj, rfl⟩ := List.getElem_of_mem hp1m
      have hjl : j < ls.length := by omega
      have ej : ps[j]? = some ps[j] := List.getElem?_eq_getElem hj
      have el : ls[j]? = some ls[j] := List.getElem?_eq_getElem hjl
      obtain ⟨z1, z2⟩ := hls2 j _ _ ej el
      have gl : (gOf (ws.take i) ps[j].1).length ≤ 1000000 := Nat.le_trans (gOf_len _ _) (by rw [List.length_take]; omega)
      refine iteT ⟨_, rfl, _, rfl, dn, .ref ls[j], rfl, .inl ⟨_, Sum.inr w1.1.1, .inl hd2, rfl, ?_⟩, .inl ⟨rfl, _, .of z2⟩, _, rfl, ls[j], _, _, rfl, rfl, z2, by rw [List.length_map]; exact Nat.lt_of_le_of_lt gl (by rw [sizeLine_eq]; decide), _, _, rfl, fun b z n e => ?_, ?_, ?_, fun m p l e1 e2 => ?_⟩
      · rw [← hp1, nm_val ps ls hl hnd j _ _ ej el]
      · have nb : b ≠ ls[j] := fun e2 => by rw [e2, z1] at e; cases e
        exact (upd_ne nb).trans (s2 b z n e)
      · have nb : dw ≠ ls[j] := fun e2 => by rw [← e2, hwd] at z1; cases z1
        exact (upd_ne nb).trans hf2
      · have nb : dn ≠ ls[j] := fun e2 => by rw [← e2, hd2] at z2; cases z2
        exact (upd_ne nb).trans hd2
      · obtain ⟨y1, y2⟩ := hls2 m p l e1 e2
        refine ⟨y1, ?_⟩
        rw [tk1 hw1, gOf_snoc]
        by_cases hmj : m = j
        · subst hmj
          rw [ej] at e1
          rw [el] at e2
          cases e1
          cases e2
          rw [if_pos hp1.symm, upd_same, List.map_append]
          rfl
        · have nl : l ≠ ls[j] := fun e => hmj ((List.getElem_inj (h₀ := (List.getElem?_eq_some_iff.mp e2).1) (h₁ := hjl) hln).mp ((List.getElem?_eq_some_iff.mp e2).2.trans e))
          have np : ¬ w1.1.1 = p.1 := fun e => hmj (by
            have e3 : (ps.map (·.1))[m]? = some p.1 := by rw [List.getElem?_map, e1]; rfl
            have e4 : (ps.map (·.1))[j]? = some p.1 := by rw [List.getElem?_map, ej, ← e, ← hp1]; rfl
            have l3 := (List.getElem?_eq_some_iff.mp e3).1
            have l4 := (List.getElem?_eq_some_iff.mp e4).1
            exact (List.getElem_inj (h₀ := l3) (h₁ := l4) hnd).mp ((List.getElem?_eq_some_iff.mp e3).2.trans (List.getElem?_eq_some_iff.mp e4).2.symm))
          rw [if_neg np]
          exact (upd_ne nl).trans y2
  rintro σ H2 ⟨u, v, rfl, s2, hf2, hd2, hls2⟩
  rw [hkl, List.take_length] at hls2
  refine ⟨hf2, ?_⟩
  -- the dict as it was
  have S2 : Same H (upd H2 dw (.dT kvs)) := fun b z e => by
    by_cases hb : b = dw
    · rw [hb] at e ⊢
      rw [upd_same, ← e, hwd]
    · exact (upd_ne hb).trans (s2 b z hb e)
  have hd3 : (upd H2 dw (.dT kvs)) dn = some (.dK (nmK ps ls)) := (upd_ne ndw).trans hd2
  have hls3 : ListsAt H (upd H2 dw (.dT kvs)) ps ls (gOf ws) := fun i p l e1 e2 => by
    obtain ⟨z1, z2⟩ := hls2 i p l e1 e2
    refine ⟨z1, (upd_ne fun e => ?_).trans z2⟩
    rw [e, hwd] at z1
    cases z1
  generalize upd H2 dw (.dT kvs) = H3 at S2 hd3 hls3 ⊢
  -- ordered = [..]
  have hF : ∀ i, ((ps.take i).flatMap fun p => (sortS (gOf ws p.1)).map fun n => (p.1, n)).length ≤ 16000000 := fun i => by
    have h1 := flat_len (ps := ps.take i) (ws := ws)
    have h2 : (ps.take i).length ≤ 16 := Nat.le_trans (by rw [List.length_take]; exact Nat.min_le_right _ _) h16
    have h3 := Nat.mul_le_mul h2 hwl
    exact Nat.le_trans h1 h3
  have hfl : ∀ {a : Addr} {us : List V}, H3 a = some (.tup us) → a ≠ dn := fun {a us} e z => by
    rw [z, hd3] at e
    cases e
  refine ⟨dn, _, hd3, trivial, fun oe => ⟨_, rfl, dn, oe, rfl, .inl ⟨nmK ps ls, upd_same, fun D hD => ?_⟩⟩⟩
  have hDd : D ≠ dn := fun z => by rw [z, upd_same] at hD; cases hD
  have hD3 : H3 D = none := by
    rw [upd_ne hDd] at hD
    exact hD
  have hkn : (nmK ps ls).length = ps.length := by
    unfold nmK
    rw [List.length_map, List.length_zip, hl, Nat.min_self]
  refine out_it walk_keys (fun i H' => (∀ b z, b ≠ dn → H3 b = some z → H' b = some z) ∧ H' dn = some (.frz oe (.dK (nmK ps ls))) ∧ ∃ bs : List Addr, H' D = some (.lst (bs.map V.ref)) ∧ PairsAt H' bs ((ps.take i).flatMap fun p => (sortS (gOf ws p.1)).map fun n => (p.1, n)))
    ⟨fun b z n e => (upd_ne (ne_of_none e hD3)).trans ((upd_ne n).trans e), (upd_ne hDd.symm).trans upd_same, [], upd_same, rfl, fun i a p e _ => by cases e⟩ (fun i H' _ q => q.2.1) ?_ ?_
  · rintro i x H4 H5 hi ⟨s4, hf4, bs, hD4, hb4⟩ ⟨rfl, k, v, hk, rfl⟩
    unfold nmK at hk
    rw [List.getElem?_map] at hk
    obtain ⟨⟨p, l⟩, hz, hk⟩ := Option.map_eq_some_iff.mp hk
    cases hk
    obtain ⟨e1, e2⟩ := List.getElem?_zip_eq_some.mp hz
    have e1 : ps[i]? = some p := e1
    have e2 : ls[i]? = some l := e2
    obtain ⟨z1, z2⟩ := hls3 i p l e1 e2
    have nl : l ≠ dn := fun z => by rw [z, hd3] at z2; cases z2
    have hl4 := s4 _ _ nl z2
    refine ⟨rfl, _, rfl, _, rfl, dn, .ref l, rfl, .inl ⟨_, Sum.inr p.1, .inr ⟨oe, hf4⟩, rfl, (nm_val ps ls hl hnd i p l e1 e2).symm⟩, l, _, rfl, .of hl4, fun ys q hperm hsort hq => ⟨q, rfl, ⟨_, .of upd_same⟩, ?_⟩⟩
    obtain rfl := sortS_eq hsort hperm
    have hqD : q ≠ D := fun z => by rw [z, hD4] at hq; cases hq
    have hqn : q ≠ dn := fun z => by rw [z, hf4] at hq; cases hq
    refine out_it (walk_list (xs := (sortS (gOf ws p.1)).map V.str)) (fun j H' => (∀ b z, b ≠ dn → H3 b = some z → H' b = some z) ∧ H' dn = some (.frz oe (.dK (nmK ps ls))) ∧ H' q = some (.lst ((sortS (gOf ws p.1)).map V.str)) ∧ ∃ bs : List Addr, H' D = some (.lst (bs.map V.ref)) ∧ PairsAt H' bs (((ps.take i).flatMap fun p => (sortS (gOf ws p.1)).map fun n => (p.1, n)) ++ ((sortS (gOf ws p.1)).take j).map fun n => (p.1, n)))
      ⟨fun b z n e => (upd_ne (ne_of_none (s4 b z n e) hq)).trans (s4 b z n e), (upd_ne hqn.symm).trans hf4, upd_same, bs, (upd_ne hqD.symm).trans hD4, ?_⟩ (fun j H' _ z => .of z.2.2.1) ?_ ?_
    · rw [List.take_zero, List.map_nil, List.append_nil]
      exact hb4.same (upd_new hq)
    · rintro j y H6 H7 hj ⟨s6, hf6, hq6, cs, hD6, hc6⟩ ⟨rfl, hy⟩
      rw [List.getElem?_map] at hy
      obtain ⟨n, hn, rfl⟩ := Option.map_eq_some_iff.mp hy
      refine ⟨rfl, _, rfl, _, rfl, small1 (by show 2 ≤ 8; decide), fun t ht => ⟨_, (upd_ne (ne_of_none hD6 ht)).trans hD6, ?_, ?_, ?_, ?_, cs ++ [t], ?_, ?_⟩⟩
      · rw [List.length_map, hc6.1, List.length_append, List.length_map, List.length_take]
        have g1 := hF (i + 1)
        rw [tk1 e1, List.flatMap_append, List.length_append] at g1
        have g2 : ([p].flatMap fun p => (sortS (gOf ws p.1)).map fun n => (p.1, n)).length = (sortS (gOf ws p.1)).length := by simp
        rw [g2] at g1
        exact Nat.lt_of_le_of_lt (show _ ≤ 16000000 by omega) (by rw [sizeLine_eq]; decide)
      · exact fun b z n e => (upd_ne (ne_of_none e hD3)).trans ((upd_ne (ne_of_none (s6 b z n e) ht)).trans (s6 b z n e))
      · exact (upd_ne hDd.symm).trans ((upd_ne (ne_of_none hf6 ht)).trans hf6)
      · exact (upd_ne hqD).trans ((upd_ne (ne_of_none hq6 ht)).trans hq6)
      · rw [upd_same, List.map_append]
        rfl
      · rw [tk1 hn, List.map_append, ← List.append_assoc]
        refine PairsAt.snoc (hc6.keep fun b us e => ?_) ?_
        · have nb : b ≠ D := fun z => by rw [z, hD6] at e; cases e
          exact (upd_ne nb).trans ((upd_ne (ne_of_none e ht)).trans e)
        · exact (upd_ne (ne_of_none hD6 ht).symm).trans upd_same
    · rintro H6 ⟨s6, hf6, hq6, cs, hD6, hc6⟩
      refine ⟨s6, hf6, cs, hD6, ?_⟩
      rw [List.length_map, List.take_length] at hc6
      rw [tk1 e1, List.flatMap_append]
      simpa using hc6
  rintro H4 ⟨s4, hf4, bs, hD4, hb4⟩
  rw [hkn, List.take_length] at hb4
  refine ⟨hf4, ?_⟩
  have S4 : Same H (upd H4 dn (.dK (nmK ps ls))) := fun b z e => by
    have nb := ne_of_none e hdn
    exact (upd_ne nb).trans (s4 b z nb (S2 b z e))
  have hD5 : (upd H4 dn (.dK (nmK ps ls))) D = some (.lst (bs.map V.ref)) := (upd_ne hDd).trans hD4
  have hb5 : PairsAt (upd H4 dn (.dK (nmK ps ls))) bs (ps.flatMap fun p => (sortS (gOf ws p.1)).map fun n => (p.1, n)) := hb4.keep fun b us e => by
    have nb : b ≠ dn := fun z => by rw [z, hf4] at e; cases e
    exact (upd_ne nb).trans e
  generalize upd H4 dn (.dK (nmK ps ls)) = H5 at S4 hD5 hb5 ⊢
  -- .. + [('', output) for output in outputs if ('', output) in targets]
  have hF1 := hF ps.length
  rw [List.take_length] at hF1
  refine ⟨_, rfl, _, rfl, o, rfl, ⟨_, sqT_same S4 ho⟩, fun D2 hD2 => ?_⟩
  refine lc_tup (K := K) (a := o) (xs := outs.map V.str) (fun i H' => Same H5 H' ∧ ∃ cs : List Addr, H' D2 = some (.lst (cs.map V.ref)) ∧ PairsAt H' cs (((outs.take i).filter fun o => decide (((Str.empty, o) : Port) ∈ ws.map (·.1))).map fun o => (Str.empty, o))) ⟨upd_new hD2, [], upd_same, rfl, fun i a p e _ => by cases e⟩ (fun i H' _ q => sqT_same (S4.trans q.1) ho) ?_ ?_
  · rintro i v H6 hi ⟨s6, cs, hD6, hc6⟩
    rw [List.getElem?_map] at hi
    obtain ⟨y, hy, rfl⟩ := Option.map_eq_some_iff.mp hi
    refine ⟨rfl, _, rfl, small1 (by show 2 ≤ 8; decide), fun t ht => ⟨_, rfl, dw, _, rfl, DGet.t (k := keyOf (Str.empty, y)) (((S4.trans s6).trans (upd_new ht)) _ _ hwd) upd_same, _, rfl, ?_⟩⟩
    rw [val_any, ← hkvs, any_wires (Str.empty, y) ws was hwa]
    have cl : cs.length ≤ 8 := by
      rw [hc6.1, List.length_map]
      exact Nat.le_trans (List.length_filter_le _ _) (Nat.le_trans (by rw [List.length_take]; exact Nat.min_le_right _ _) ho8)
    by_cases hm : (((Str.empty, y) : Port) ∈ ws.map (·.1))
    · rw [decide_eq_true hm]
      refine iteT ⟨_, rfl, small1 (by show 2 ≤ 8; decide), fun t2 ht2 => ⟨_, (upd_ne ?_).trans ((upd_ne ?_).trans hD6), by rw [List.length_map]; exact Nat.lt_of_le_of_lt cl (by rw [sizeLine_eq]; decide), ?_, cs ++ [t2], ?_, ?_⟩⟩
      · exact ne_of_none ((upd_ne (ne_of_none hD6 ht)).trans hD6) ht2
      · exact ne_of_none hD6 ht
      · exact same_put (s6.trans ((upd_new ht).trans (upd_new ht2))) hD2
      · rw [upd_same, List.map_append]
        rfl
      · rw [tk1 hy, List.filter_append, List.map_append]
        have ef : ([y].filter fun o => decide (((Str.empty, o) : Port) ∈ ws.map (·.1))) = [y] := by simp [hm]
        rw [ef]
        have hD7 : upd (upd H6 t (.tup [V.str "", .str y])) t2 (.tup [V.str "", .str y]) D2 = some (.lst (cs.map V.ref)) := (upd_ne (ne_of_none ((upd_ne (ne_of_none hD6 ht)).trans hD6) ht2)).trans ((upd_ne (ne_of_none hD6 ht)).trans hD6)
        refine PairsAt.snoc ((hc6.same ((upd_new ht).trans (upd_new (o := HO.tup [V.str "", .str y]) ht2))).keep fun b us e => ?_) ?_
        · have nb : b ≠ D2 := fun z => by rw [z, hD7] at e; cases e
          exact (upd_ne nb).trans e
        · refine (upd_ne fun z => ?_).trans upd_same
          rw [← z, upd_same] at hD7
          cases hD7
    · rw [decide_eq_false hm]
      refine iteF ⟨s6.trans (upd_new ht), cs, (upd_ne (ne_of_none hD6 ht)).trans hD6, ?_⟩
      rw [tk1 hy, List.filter_append]
      have ef : ([y].filter fun o => decide (((Str.empty, o) : Port) ∈ ws.map (·.1))) = [] := by simp [hm]
      rw [ef, List.append_nil]
      exact hc6.same (upd_new ht)
  rintro H6 ⟨s6, cs, hD6, hc6⟩
  rw [List.length_map, List.take_length] at hc6
  refine ⟨D, D2, _, _, rfl, rfl, s6 _ _ hD5, hD6, ?_, fun L hL => ?_⟩
  · have hcl : cs.length ≤ 8 := by
      rw [hc6.1, List.length_map]
      exact Nat.le_trans (List.length_filter_le _ _) ho8
    rw [List.length_map, List.length_map, hb5.1]
    exact sz (by omega)
  refine kk L (bs ++ cs) _ ((S4.trans s6).trans (upd_new hL)) (by rw [upd_same, List.map_append]) ?_
  have hb7 := (hb5.same s6).same (upd_new (o := HO.lst (bs.map V.ref ++ cs.map V.ref)) hL)
  have hc7 := hc6.same (upd_new (o := HO.lst (bs.map V.ref ++ cs.map V.ref)) hL)
  unfold orderT
  refine ⟨by rw [List.length_append, List.length_append, hb7.1, hc7.1], fun i a p e1 e2 => ?_⟩
  by_cases hi : i < bs.length
  · rw [List.getElem?_append_left hi] at e1
    rw [List.getElem?_append_left (by rw [← hb7.1]; exact hi)] at e2
    exact hb7.2 i a p e1 e2
  · rw [List.getElem?_append_right (by omega)] at e1
    rw [List.getElem?_append_right (by rw [← hb7.1]; omega), ← hb7.1] at e2
    exact hc7.2 _ a p e1 e2
end
end K8
namespace K8
open PySem L2 Own StX ClX NdefX
def partT (p : Str × Str) : Str := (("  part " : Str) ++ p.1) ++ " = " ++ p.2
def wireT (w : Port × Port) : Str := (("  " : Str) ++ portT w.1.1 w.1.2) ++ " <- " ++ portT w.2.1 w.2.2
def rowsT (name : Str) (ins outs : List Str) (ps : List (Str × Str)) (ws : List (Port × Port)) : List Str := headT name ins outs :: (ps.map partT ++ (ws.map wireT ++ (["end"] : List Str)))
/-- a diagram's texts are short -/
structure DSm (name : Str) (ins outs : List Str) (ps : List (Str × Str)) (ws : List (Port × Port)) : Prop where
  n : name.length ≤ 8
  il : ins.length ≤ 8
  ol : outs.length ≤ 8
  i : ∀ x ∈ ins, x.length ≤ 8
  o : ∀ x ∈ outs, x.length ≤ 8
  pl : ps.length ≤ 16
  p : ∀ p ∈ ps, p.1.length ≤ 8 ∧ p.2.length ≤ 190000
  wl : ws.length ≤ 170000
  w : ∀ w ∈ ws, (w.1.1.length ≤ 8 ∧ w.1.2.length ≤ 8) ∧ w.2.1.length ≤ 8 ∧ w.2.2.length ≤ 8
theorem total_le {c : Nat} : ∀ {l : List Str}, (∀ x ∈ l, x.length ≤ c) → total l ≤ l.length * (c + 1)
  | [], _ => Nat.zero_le _
  | a :: r, h => by
    have e : total (a :: r) = (a.length + 1) + total r := rfl
    have := total_le (l := r) fun x hx => h x (List.mem_cons_of_mem _ hx)
    have := h a List.mem_cons_self
    rw [List.length_cons, Nat.succ_mul]
    omega
theorem portT_len (a b : Str) : (portT a b).length ≤ a.length + b.length + 1 := by
  unfold portT
  split
  · omega
  · rw [sl, sl, show ((".": Str)).length = 1 by decide +kernel]
    omega
theorem partT_len (p : Str × Str) : (partT p).length = p.1.length + p.2.length + 10 := by
  unfold partT
  rw [sl, sl, sl, show (("  part " : Str)).length = 7 by decide +kernel, show ((" = " : Str)).length = 3 by decide +kernel]
  omega
theorem wireT_len (w : Port × Port) : (wireT w).length ≤ w.1.1.length + w.1.2.length + w.2.1.length + w.2.2.length + 8 := by
  unfold wireT
  have h1 := portT_len w.1.1 w.1.2
  have h2 := portT_len w.2.1 w.2.2
  rw [sl, sl, sl, show (("  " : Str)).length = 2 by decide +kernel, show ((" <- " : Str)).length = 4 by decide +kernel]
  omega
theorem sum_le {c : Nat} : ∀ {l : List Str}, (∀ x ∈ l, x.length ≤ c) → (l.map (·.length)).sum ≤ l.length * c
  | [], _ => Nat.zero_le _
  | a :: r, h => by
    have := sum_le (l := r) fun x hx => h x (List.mem_cons_of_mem _ hx)
    have := h a List.mem_cons_self
    rw [List.map_cons, List.sum_cons, List.length_cons, Nat.succ_mul]
    omega
theorem headT_len {name : Str} {ins outs : List Str} : (headT name ins outs).length ≤ name.length + total ins + total outs + 9 := by
  have hj1 := join_len " " ins
  have hj2 := join_len "" (outs.map fun o => (" " : Str) ++ o)
  rw [sum_more] at hj2
  rw [show ((" " : Str)).length = 1 by decide +kernel] at hj1
  have hj1 : (Txt.join " " ins).length ≤ total ins := hj1
  unfold headT
  rw [sl, sl, sl, sl, sl, sl, show (("block " : Str)).length = 6 by decide +kernel, show (("(" : Str)).length = 1 by decide +kernel, show ((";" : Str)).length = 1 by decide +kernel, show ((")" : Str)).length = 1 by decide +kernel]
  omega
theorem rowsT_len {name : Str} {ins outs : List Str} {ps : List (Str × Str)} {ws : List (Port × Port)} (h : DSm name ins outs ps ws) : ((rowsT name ins outs ps ws).map (·.length)).sum + (rowsT name ins outs ps ws).length ≤ 12000000 := by
  unfold rowsT
  have t1 := total_le h.i
  have t2 := total_le h.o
  have hh := headT_len (name := name) (ins := ins) (outs := outs)
  have p1 := sum_le (c := 190018) (l := ps.map partT) fun x hx => by
    obtain ⟨p, hp, rfl⟩ := List.mem_map.mp hx
    have := h.p p hp
    rw [partT_len]
    omega
  have w1 := sum_le (c := 40) (l := ws.map wireT) fun x hx => by
    obtain ⟨w, hw, rfl⟩ := List.mem_map.mp hx
    have := h.w w hw
    have := wireT_len w
    omega
  have e3 : (("end" : Str)).length = 3 := by decide +kernel
  rw [List.length_map] at p1 w1
  simp only [List.map_cons, List.map_append, List.sum_cons, List.sum_append, List.length_cons, List.length_append, List.map_nil, List.sum_nil, List.length_nil, e3] at *
  have := h.pl
  have := h.wl
  have := h.il
  have := h.ol
  have := h.n
  have a1 := Nat.mul_le_mul_right 190018 h.pl
  have a2 := Nat.mul_le_mul_right 40 h.wl
  have a3 := Nat.mul_le_mul_right (8 + 1) h.il
  have a4 := Nat.mul_le_mul_right (8 + 1) h.ol
  rw [List.length_map, List.length_map]
  omega
/-- pairs of ports: tuples of tuples -/
def WPairsAt (H : Hp) (bs : List Addr) (ws : List (Port × Port)) : Prop := bs.length = ws.length ∧ ∀ (i : Nat) (b : Addr) (w : Port × Port), bs[i]? = some b → ws[i]? = some w → ∃ t s, H b = some (.tup [.ref t, .ref s]) ∧ H t = some (.tup [.str w.1.1, .str w.1.2]) ∧ H s = some (.tup [.str w.2.1, .str w.2.2])
theorem WPairsAt.same {H H' : Hp} {bs : List Addr} {ws : List (Port × Port)} (h : WPairsAt H bs ws) (s : Same H H') : WPairsAt H' bs ws := ⟨h.1, fun i a p e1 e2 => by
  obtain ⟨t, q, z1, z2, z3⟩ := h.2 i a p e1 e2
  exact ⟨t, q, s _ _ z1, s _ _ z2, s _ _ z3⟩⟩
def spRows (K : PySem.W.Frag) : Sp := fun vs H Q _ => ∃ (name : Str) (i o pa wa : Addr) (ins outs : List Str) (as bs : List Addr) (ps : List (Str × Str)) (ws : List (Port × Port)), vs = [.str name, .ref i, .ref o, .ref pa, .ref wa] ∧ SqT K H i (ins.map V.str) ∧ SqT K H o (outs.map V.str) ∧
  SqT K H pa (as.map V.ref) ∧ PairsAt H as ps ∧ SqT K H wa (bs.map V.ref) ∧ WPairsAt H bs ws ∧ DSm name ins outs ps ws ∧ ∀ L H', Same H H' → H' L = some (.lst ((rowsT name ins outs ps ws).map V.str)) → Q (.ref L) H'
section
variable {P : Program} {w : World} {K : PySem.W.Frag} {mg : Str → Option Value} {base : Heap}
abbrev nRw : List Str := ["name", "inputs", "outputs", "parts", "wires", "part_rows", "wire_rows", "part", "block", "target", "source"]
theorem scRw : FnScope nRw ["name", "inputs", "outputs", "parts", "wires"] (defScope sRows) := ⟨rfl, rfl, rfl, by decide +kernel, rfl, by decide +kernel, by decide +kernel⟩
theorem ok_rows {f fH fP : Addr} {fd fdH fdP : FuncData} (F : Fun K "diagram_rows" "diagram_rows" sRows f fd) (GH : FnOk P w K mg base CX0 1 fH fdH ["name", "inputs", "outputs"] (spHead K)) (mH : mg "head_row" = some (.ref fH)) (kH : PySem.W.keepIn K (.ref fH) = true) (bH : Binds K fdH ["name", "inputs", "outputs"] [])
    (GP : FnOk P w K mg base CX0 1 fP fdP ["port"] (spPort K)) (mP : mg "port_text" = some (.ref fP)) (kP : PySem.W.keepIn K (.ref fP) = true) (bP : Binds K fdP ["port"] []) : FnOk P w K mg base CX0 2 f fd ["name", "inputs", "outputs", "parts", "wires"] (spRows K) := by
  refine F.ok scRw (fun vs H Q E h => ?_) (fun cdv A outer s H vs Q E hr h => ?_)
  · obtain ⟨name, i, o, pa, wa, ins, outs, as, bs, ps, ws, rfl, _⟩ := h
    rfl
  obtain ⟨name, i, o, pa, wa, ins, outs, as, bs, ps, ws, rfl, hi, ho, hpa, hps, hwa, hws, hd, k⟩ := h
  refine ⟨_, pss_cons (ps_setLc (i := 5) (own := [("part", 7), ("block", 8)]) (g := gTup K 2 (gCons (gName 7) (gCons (gName 8) gNil))) rfl scRw.nd rfl rfl (sw_true rfl rfl rfl (by decide +kernel)) (pi_tup (pv 3)) (blkOk_by (own := [("part", 7), ("block", 8)]) (N := nRw) (sc := defScope sRows) (by decide +kernel)) (fun _ _ _ _ _ => by exact (pg_tup rfl (pgs_cons (pg_name (i := 7) scRw.nd rfl (Or.inl rfl)) (pgs_cons (pg_name (i := 8) scRw.nd rfl (Or.inl rfl)) pgs_nil)))) (fun _ _ _ _ _ => pts_nil)
      (fun _ _ _ _ _ => by exact (pe_joined (.cons pe_str (.cons (pe_fmt (pv 7)) (.cons pe_str (.cons (pe_fmt (pv 8)) .nil)))))))
    (pss_cons (ps_setLc (i := 6) (own := [("target", 9), ("source", 10)]) (g := gTup K 2 (gCons (gName 9) (gCons (gName 10) gNil))) rfl scRw.nd rfl rfl (sw_true rfl rfl rfl (by decide +kernel)) (pi_tup (pv 4)) (blkOk_by (own := [("target", 9), ("source", 10)]) (N := nRw) (sc := defScope sRows) (by decide +kernel)) (fun _ _ _ _ _ => by exact (pg_tup rfl (pgs_cons (pg_name (i := 9) scRw.nd rfl (Or.inl rfl)) (pgs_cons (pg_name (i := 10) scRw.nd rfl (Or.inl rfl)) pgs_nil)))) (fun _ _ _ _ _ => pts_nil)
      (fun _ _ _ _ _ => by exact (pe_joined (.cons pe_str (.cons (pe_fmt (pe_call GP hr rfl mP kP bP .nil pass0 (pa_cons (pv 9) pa_nil))) (.cons pe_str (.cons (pe_fmt (pe_call GP hr rfl mP kP bP .nil pass0 (pa_cons (pv 10) pa_nil))) .nil)))))))
    (pss_one (ps_ret (pe_lst (pa_cons (pe_call GH hr rfl mH kH bH .nil pass0 (pa_cons (pv 0) (pa_cons (pv 1) (pa_cons (pv 2) pa_nil)))) (pa_star (pv 5) (pa_star (pv 6) (pa_cons pe_str pa_nil)))))))), ?_⟩
  have sz : ∀ {n : Nat}, n ≤ 16000100 → n ≤ sizeLine := fun h => by rw [sizeLine_eq]; omega
  have lp : (("  part " : Str)).length = 7 := by decide +kernel
  have lq : ((" = " : Str)).length = 3 := by decide +kernel
  have lb : (("  " : Str)).length = 2 := by decide +kernel
  have la : ((" <- " : Str)).length = 4 := by decide +kernel
  refine ⟨_, rfl, pa, rfl, ⟨_, hpa⟩, fun D hD => ?_⟩
  refine out_it (walk_tup (xs := as.map V.ref)) (fun j H' => Same H H' ∧ H' D = some (.lst (((ps.take j).map partT).map V.str))) ⟨upd_new hD, upd_same⟩ (fun j H' _ q => sqT_same q.1 hpa) ?_ ?_
  · rintro j x H1 H2 hj ⟨s1, hD1⟩ ⟨rfl, hx⟩
    rw [List.getElem?_map] at hx
    obtain ⟨a, ha, rfl⟩ := Option.map_eq_some_iff.mp hx
    obtain ⟨p, hp⟩ : ∃ p, ps[j]? = some p := ⟨_, List.getElem?_eq_getElem (by have := (List.getElem?_eq_some_iff.mp ha).1; have := hps.1; omega)⟩
    have hm := hd.p p (List.mem_of_getElem? hp)
    refine ⟨a, _, rfl, .of (s1 _ _ (hps.2 j a p ha hp)), rfl, _, _, rfl, _, _, rfl, rfl, rfl, ?_⟩
    refine ⟨"  part ", rfl, by rw [emp, lp]; exact sz (by omega), _, rfl, .inl ⟨p.1, rfl, sz (by omega), p.1, rfl, by rw [emp, sl, lp]; exact sz (by omega), " = ", rfl, by rw [emp, sl, sl, lp, lq]; exact sz (by omega), _, rfl, .inl ⟨p.2, rfl, sz (by omega), p.2, rfl, by rw [emp, sl, sl, sl, lp, lq]; exact sz (by omega), ?_⟩⟩⟩
    refine ⟨_, hD1, by rw [List.length_map, List.length_map, List.length_take]; exact Nat.lt_of_le_of_lt (Nat.le_trans (Nat.min_le_right _ _) hd.pl) (by rw [sizeLine_eq]; decide), same_put s1 hD, ?_⟩
    rw [upd_same, tk1 hp, emp, List.map_append, List.map_append]
    rfl
  rintro H1 ⟨s1, hD1⟩
  rw [List.length_map, hps.1, List.take_length] at hD1
  refine ⟨_, rfl, wa, rfl, ⟨_, sqT_same s1 hwa⟩, fun D2 hD2 => ?_⟩
  refine out_it (walk_tup (xs := bs.map V.ref)) (fun j H' => Same H1 H' ∧ H' D2 = some (.lst (((ws.take j).map wireT).map V.str))) ⟨upd_new hD2, upd_same⟩ (fun j H' _ q => sqT_same (s1.trans q.1) hwa) ?_ ?_
  · rintro j x H2 H3 hj ⟨s2, hD3⟩ ⟨rfl, hx⟩
    rw [List.getElem?_map] at hx
    obtain ⟨b, hb, rfl⟩ := Option.map_eq_some_iff.mp hx
    obtain ⟨w1, hw1⟩ : ∃ w, ws[j]? = some w := ⟨_, List.getElem?_eq_getElem (by have := (List.getElem?_eq_some_iff.mp hb).1; have := hws.1; omega)⟩
    have hm := hd.w w1 (List.mem_of_getElem? hw1)
    obtain ⟨t, sr, z1, z2, z3⟩ := (hws.same (s1.trans s2)).2 j b w1 hb hw1
    have p1 := portT_len w1.1.1 w1.1.2
    have p2 := portT_len w1.2.1 w1.2.2
    refine ⟨b, _, rfl, .of z1, rfl, _, _, rfl, _, _, rfl, rfl, rfl, ?_⟩
    refine ⟨"  ", rfl, by rw [emp, lb]; exact sz (by omega), _, rfl, t, w1.1.1, w1.1.2, rfl, .of z2, by omega, by omega, .inl ⟨_, rfl, sz (by omega), _, rfl, by rw [emp, sl, lb]; exact sz (by omega), " <- ", rfl, by rw [emp, sl, sl, lb, la]; exact sz (by omega), _, rfl, sr, w1.2.1, w1.2.2, rfl, .of z3, by omega, by omega, .inl ⟨_, rfl, sz (by omega), _, rfl, by rw [emp, sl, sl, sl, lb, la]; exact sz (by omega), ?_⟩⟩⟩
    refine ⟨_, hD3, by rw [List.length_map, List.length_map, List.length_take]; exact Nat.lt_of_le_of_lt (Nat.le_trans (Nat.min_le_right _ _) hd.wl) (by rw [sizeLine_eq]; decide), same_put s2 hD2, ?_⟩
    rw [upd_same, tk1 hw1, emp, List.map_append, List.map_append]
    rfl
  rintro H2 ⟨s2, hD3⟩
  rw [List.length_map, hws.1, List.take_length] at hD3
  have t1 := total_le hd.i
  have t2 := total_le hd.o
  have a3 := Nat.mul_le_mul_right (8 + 1) hd.il
  have a4 := Nat.mul_le_mul_right (8 + 1) hd.ol
  have s12 := s1.trans s2
  refine ⟨_, rfl, _, rfl, _, rfl, name, i, o, ins, outs, rfl, sqT_same s12 hi, sqT_same s12 ho, by have := hd.n; omega, by omega, by omega, by have := hd.ol; omega, fun H3 s3 => ?_⟩
  refine ⟨_, rfl, D, _, rfl, .inr (.of (s3 _ _ (s2 _ _ hD1))), _, rfl, D2, _, rfl, .inr (.of (s3 _ _ hD3)), ?_, fun L hL => ?_⟩
  · have := hd.pl
    have := hd.wl
    simp only [List.length_cons, List.length_append, List.length_map, List.length_nil]
    exact sz (by omega)
  · refine k L _ (s12.trans (s3.trans (upd_new hL))) ?_
    rw [upd_same]
    unfold rowsT
    simp only [List.map_cons, List.map_append, List.map_nil]
end
end K8
namespace K8
open PySem L2 Own StX ClX NdefX
abbrev sBI : Stmt := inClass (top 25) 0
abbrev sDI : Stmt := inClass (top 26) 2
def spBI (K : PySem.W.Frag) : Sp := fun vs H Q _ => ∃ (p C dx : Addr) (n i o : V), vs = [.ref p, n, i, o] ∧ H p = some (.ins C dx []) ∧ Cls K C ∧ NoAttr K C "name" ∧ NoAttr K C "inputs" ∧ NoAttr K C "outputs" ∧ Q .non (upd H p (.ins C dx [("name", n), ("inputs", i), ("outputs", o)]))
def fsD (n i o : V) (pa wa : Addr) : List (Str × V) := [("name", n), ("inputs", i), ("outputs", o), ("parts", .ref pa), ("wires", .ref wa)]
def srcOf (ws : List (Port × Port)) (t : Port) : Port := ((ws.find? fun w => decide (w.1 = t)).map (·.2)).getD (Str.empty, Str.empty)
def wiresOf (ps : List (Str × Str)) (outs : List Str) (ws : List (Port × Port)) : List (Port × Port) := (orderT ps outs ws).map fun t => (t, srcOf ws t)
theorem val_wire (t : Port) : ∀ (ws : List (Port × Port)) (was : List Addr), was.length = ws.length → t ∈ ws.map (·.1) → ∃ (j : Nat) (w : Port × Port) (a : Addr), ws[j]? = some w ∧ was[j]? = some a ∧ srcOf ws t = w.2 ∧ valV ((ws.zip was).map fun q => (keyOf q.1.1, V.ref q.2)) (keyOf t) = some (V.ref a)
  | [], _, _, h => by cases h
  | _ :: _, [], h, _ => by cases h
  | w :: ws, a :: was, h, hm => by
    by_cases e : w.1 = t
    · refine ⟨0, w, a, rfl, rfl, ?_, ?_⟩
      · unfold srcOf
        rw [List.find?_cons, decide_eq_true e]
        rfl
      · unfold valV
        rw [List.zip_cons_cons, List.map_cons, List.find?_cons, decide_eq_true (congrArg keyOf e)]
        rfl
    · have hm : t ∈ ws.map (·.1) := (List.mem_cons.mp hm).resolve_left fun z => e z.symm
      obtain ⟨j, w1, b, h1, h2, h3, h4⟩ := val_wire t ws was (Nat.succ.inj h) hm
      refine ⟨j + 1, w1, b, h1, h2, ?_, ?_⟩
      · unfold srcOf at *
        rw [List.find?_cons, decide_eq_false e]
        exact h3
      · unfold valV at *
        rw [List.zip_cons_cons, List.map_cons, List.find?_cons, decide_eq_false fun z => e (keyOf_inj z)]
        exact h4
theorem order_mem {ps : List (Str × Str)} {outs : List Str} {ws : List (Port × Port)} {t : Port} (h : t ∈ orderT ps outs ws) : t ∈ ws.map (·.1) := by
  unfold orderT at h
  rcases List.mem_append.mp h with h | h
  · obtain ⟨p, _, h⟩ := List.mem_flatMap.mp h
    obtain ⟨n, hn, rfl⟩ := List.mem_map.mp h
    have hn := (sortS_perm _).mem_iff.mp hn
    unfold gOf at hn
    obtain ⟨w, hw, rfl⟩ := List.mem_map.mp hn
    obtain ⟨hw, e⟩ := List.mem_filter.mp hw
    have e := of_decide_eq_true e
    exact List.mem_map.mpr ⟨w, hw, Prod.ext e rfl⟩
  · obtain ⟨o, ho, rfl⟩ := List.mem_map.mp h
    exact of_decide_eq_true (List.mem_filter.mp ho).2
theorem order_len (ps : List (Str × Str)) (outs : List Str) (ws : List (Port × Port)) : (orderT ps outs ws).length ≤ ps.length * ws.length + outs.length := by
  unfold orderT
  rw [List.length_append, List.length_map]
  have := flat_len (ps := ps) (ws := ws)
  have := List.length_filter_le (fun o => decide (((Str.empty, o) : Port) ∈ ws.map (·.1))) outs
  omega
theorem WPairsAt.keep {H H' : Hp} {bs : List Addr} {ws : List (Port × Port)} (h : WPairsAt H bs ws) (s : ∀ b us, H b = some (.tup us) → H' b = some (.tup us)) : WPairsAt H' bs ws := ⟨h.1, fun i a p e1 e2 => by
  obtain ⟨t, q, z1, z2, z3⟩ := h.2 i a p e1 e2
  exact ⟨t, q, s _ _ z1, s _ _ z2, s _ _ z3⟩⟩
theorem WPairsAt.snoc {H : Hp} {bs : List Addr} {ws : List (Port × Port)} {b t s : Addr} {w : Port × Port} (h : WPairsAt H bs ws) (e1 : H b = some (.tup [.ref t, .ref s])) (e2 : H t = some (.tup [.str w.1.1, .str w.1.2])) (e3 : H s = some (.tup [.str w.2.1, .str w.2.2])) : WPairsAt H (bs ++ [b]) (ws ++ [w]) := by
  refine ⟨by rw [List.length_append, List.length_append, h.1]; rfl, fun i a q z1 z2 => ?_⟩
  by_cases hi : i < bs.length
  · rw [List.getElem?_append_left hi] at z1
    rw [List.getElem?_append_left (by rw [← h.1]; exact hi)] at z2
    exact h.2 i a q z1 z2
  · rw [List.getElem?_append_right (by omega)] at z1
    rw [List.getElem?_append_right (by rw [← h.1]; omega), ← h.1] at z2
    cases hk : i - bs.length with
    | zero =>
      rw [hk] at z1 z2
      cases z1
      cases z2
      exact ⟨t, s, e1, e2, e3⟩
    | succ k =>
      rw [hk] at z1
      cases z1
/-- what a diagram's class tells -/
structure DgC (K : PySem.W.Frag) (mg : Str → Option Value) (C : Addr) : Prop where
  cl : Cls K C
  nN : NoAttr K C "name"
  nI : NoAttr K C "inputs"
  nO : NoAttr K C "outputs"
  nP : NoAttr K C "parts"
  nW : NoAttr K C "wires"
  sup : mg "super" = none
  zt : mg "tuple" = none
/-- what parts and wires must be for the making of a diagram -/
structure DgOk (outs : List Str) (ps : List (Str × Str)) (ws : List (Port × Port)) : Prop where
  pl : ps.length ≤ 16
  ol : outs.length ≤ 8
  wl : ws.length ≤ 10100
  nd : (ps.map (·.1)).Nodup
  ne : ∀ p ∈ ps, p.1.length ≠ 0
  wk : ∀ w ∈ ws, (w.1.1.length = 0 ∨ w.1.1 ∈ ps.map (·.1)) ∧ w.1.1.length ≤ 200000
def spDI (K : PySem.W.Frag) (C : Addr) : Sp := fun vs H Q _ => ∃ (p dx i o pl dw : Addr) (name : Str) (outs : List Str) (as : List Addr) (ps : List (Str × Str)) (ws : List (Port × Port)), vs = [.ref p, .str name, .ref i, .ref o, .ref pl, .ref dw] ∧ H p = some (.ins C dx []) ∧ SqT K H o (outs.map V.str) ∧
  SqL K H pl (as.map V.ref) ∧ PairsAt H as ps ∧ WiresAt H dw ws ∧ DgOk outs ps ws ∧
  ∀ (pa wa : Addr) (bs : List Addr) H', SameX p H H' → H' p = some (.ins C dx (fsD (.str name) (.ref i) (.ref o) pa wa)) → H' pa = some (.tup (as.map V.ref)) → PairsAt H' as ps → H' wa = some (.tup (bs.map V.ref)) → WPairsAt H' bs (wiresOf ps outs ws) → Q .non H'
def nfDI (cc cda : Addr) : NF := ⟨"__init__", "Diagram.__init__", defArgs sDI, defBody sDI, defScope sDI, [("__class__", cc)], cda⟩
abbrev nDI : List Str := ["self", "name", "inputs", "outputs", "parts", "wires", "__class__", "ordered", "target"]
theorem nsDI : DScope nDI ["self", "name", "inputs", "outputs", "parts", "wires"] (defScope sDI) := dscope_by (by decide +kernel)
theorem ndDI : (nDI : List Str).Nodup := by decide +kernel
structure DIn (K : PySem.W.Frag) (P : Program) (C f cc cda fB : Addr) : Prop where
  ex : ∃ oc od osl doc pm an ct, K.lookup f = some ⟨oc, od, .func (PySem.W.fnX "__init__" "Diagram.__init__" (defArgs sDI) (defBody sDI) (defScope sDI) [(("__class__" : Str), cc)] .none .none doc pm an (.ref cda) ct), osl⟩ ∧
    SupK K P f cda cc C (PySem.W.fnX "__init__" "Diagram.__init__" (defArgs sDI) (defBody sDI) (defScope sDI) [(("__class__" : Str), cc)] .none .none doc pm an (.ref cda) ct) "self"
  code : PySem.W.codeIn K (.ref cda) "Diagram.__init__" = true
  sc : SupC K C C "__init__" fB
section
variable {P : Program} {w : World} {K : PySem.W.Frag} {mg : Str → Option Value} {base : Heap} {C : Addr}
theorem scBI : FnScope ["self", "name", "inputs", "outputs"] ["self", "name", "inputs", "outputs"] (defScope sBI) := ⟨rfl, rfl, rfl, by decide +kernel, rfl, by decide +kernel, by decide +kernel⟩
theorem ok_bi {f : Addr} {fd : FuncData} (F : Fun K "__init__" "Block.__init__" sBI f fd) : FnOk P w K mg base CX0 1 f fd ["self", "name", "inputs", "outputs"] (spBI K) := by
  refine F.ok scBI (fun vs H Q E h => ?_) (fun cdv A outer s H vs Q E hr h => ?_)
  · obtain ⟨p, C, dx, n, i, o, rfl, _⟩ := h
    rfl
  obtain ⟨p, C, dx, n, i, o, rfl, hp, c, n1, n2, n3, k⟩ := h
  refine ⟨_, pss_cons (ps_fld (pv 0) (pv 1) rfl) (pss_cons (ps_fld (pv 0) (pv 2) rfl) (pss_one (ps_fld (pv 0) (pv 3) rfl))), ?_⟩
  refine ⟨_, rfl, _, rfl, p, C, dx, [], rfl, hp, c, n1, (by show 0 < 1000; decide), ?_⟩
  refine ⟨_, rfl, _, rfl, p, C, dx, _, rfl, upd_same, c, n2, (by show 1 < 1000; decide), ?_⟩
  refine ⟨_, rfl, _, rfl, p, C, dx, _, rfl, upd_same, c, n3, (by show 2 < 1000; decide), ?_⟩
  rw [upd_upd, upd_upd]
  exact k
theorem ok_di {f cc cda fB fO : Addr} {fdB fdO : FuncData} (Z : DIn K P C f cc cda fB) (T : DgC K mg C) (GB : FnOk P w K mg base CX0 1 fB fdB ["self", "name", "inputs", "outputs"] (spBI K)) (bB : Binds K fdB ["self", "name", "inputs", "outputs"] [])
    (GO : FnOk P w K mg base CX0 1 fO fdO ["parts", "outputs", "targets"] (spOrder K)) (mO : mg "order_targets" = some (.ref fO)) (kO : PySem.W.keepIn K (.ref fO) = true) (bO : Binds K fdO ["parts", "outputs", "targets"] []) : FnR P w K mg base CX0 2 f (spDI K C) := by
  obtain ⟨oc, od, osl, doc, pm, an, ct, lk, SK⟩ := Z.ex
  have GR : FnR P w K mg base CX0 1 fB (spBI K) := by
    have z := GB.raw bB .nil
    simpa only [List.append_nil] using z
  refine fnr_superC (F := nfDI cc cda) (cc := cc) (D := C) lk Z.code rfl SK.cell nsDI (fun us hl => match us, hl with | [_, _, _, _, _, _], _ => rfl) (fun vs H Q E h => ?_) (fun A outer s H vs Q E hr h => ?_)
  · obtain ⟨p, dx, i, o, pl, dw, name, outs, as, ps, ws, rfl, _⟩ := h
    rfl
  obtain ⟨p, dx, i, o, pl, dw, name, outs, as, ps, ws, rfl, hp, ho, hpl, hps, hW, hd, k⟩ := h
  have hu1 := Nat.lt_of_le_of_lt (Nat.add_le_add_left (show 1 ≤ 64 by decide) _) hr.units
  refine ⟨_, psa_super (self := "self") SK rfl rfl rfl rfl rfl rfl rfl T.sup GR hr pass0 (pa_cons (pv 1) (pa_cons (pv 2) (pa_cons (pv 3) pa_nil))) (psa_of
    (pss_cons (ps_fld (pv 0) (pe_callTy call_tuple_of (by rfl) T.zt (by decide +kernel) (pa_cons (pv 4) pa_nil)) rfl)
    (pss_cons (ps_set (i := 7) ndDI rfl (.inl rfl) (pe_call GO hr rfl mO kO bO .nil pass0 (pa_cons (pe_fld (pv 0) rfl) (pa_cons (pv 3) (pa_cons (pv 5) pa_nil)))))
    (pss_one (ps_fld (pv 0) (pe_callTy call_tuple_of (by rfl) T.zt (by decide +kernel) (pa_cons (pe_lc (own := [("target", 8)]) (g := gName 8) rfl ndDI (pi_list (pv 7)) (blkOk_by (own := [("target", 8)]) (N := nDI) (sc := defScope sDI) (by decide +kernel)) (fun _ _ _ _ _ => pg_name (i := 8) ndDI rfl (Or.inl rfl)) (fun _ _ _ _ _ => pts_nil)
      (fun _ _ _ _ _ => by exact (pe_tup (pa_cons (pv 8) (pa_cons (pe_dget hu1 (pv 5) (pv 8) (fun _ _ => rfl)) pa_nil))))) pa_nil)) rfl))))), ?_⟩
  refine ⟨p, C, dx, [], rfl, hp, Z.sc, _, rfl, _, rfl, _, rfl, p, C, dx, _, _, _, rfl, hp, T.cl, T.nN, T.nI, T.nO, ?_⟩
  have tp : NoTup H p := fun xs => ⟨fun z => by (rw [hp] at z; cases z), fun o z => by (rw [hp] at z; cases z)⟩
  have npw : dw ≠ p := fun z => by
    obtain ⟨was, _, hwd, _⟩ := hW
    rw [z, hp] at hwd
    cases hwd
  have npl : pl ≠ p ∨ True := .inr trivial
  have hpl1 : SqL K (upd H p (.ins C dx [("name", .str name), ("inputs", .ref i), ("outputs", .ref o)])) pl (as.map V.ref) := by
    rcases hpl with (z | ⟨q, z⟩) | z
    · exact .inl (.inl ((upd_ne fun e => by rw [e, hp] at z; cases z).trans z))
    · exact .inl (.inr ⟨q, (upd_ne fun e => by rw [e, hp] at z; cases z).trans z⟩)
    · exact .inr z
  refine ⟨_, rfl, pl, _, rfl, .inl ⟨hpl1, fun pa hpa => ⟨_, rfl, p, C, dx, _, rfl, (upd_ne (ne_of_none upd_same hpa)).trans upd_same, T.cl, T.nP, by show 3 < 1000; decide, ?_⟩⟩⟩
  have nap : pa ≠ p := (ne_of_none upd_same hpa).symm
  have X3 : SameX p H (upd (upd (upd H p (.ins C dx [("name", .str name), ("inputs", .ref i), ("outputs", .ref o)])) pa (.tup (as.map V.ref))) p (.ins C dx (putF "parts" (.ref pa) [("name", .str name), ("inputs", .ref i), ("outputs", .ref o)]))) := SameX.put.trans ((SameX.of (upd_new hpa)).trans SameX.put)
  have hp3 : (upd (upd (upd H p (.ins C dx [("name", .str name), ("inputs", .ref i), ("outputs", .ref o)])) pa (.tup (as.map V.ref))) p (.ins C dx (putF "parts" (.ref pa) [("name", .str name), ("inputs", .ref i), ("outputs", .ref o)]))) p = some (.ins C dx [("name", .str name), ("inputs", .ref i), ("outputs", .ref o), ("parts", .ref pa)]) := upd_same
  have ha3 : (upd (upd (upd H p (.ins C dx [("name", .str name), ("inputs", .ref i), ("outputs", .ref o)])) pa (.tup (as.map V.ref))) p (.ins C dx (putF "parts" (.ref pa) [("name", .str name), ("inputs", .ref i), ("outputs", .ref o)]))) pa = some (.tup (as.map V.ref)) := (upd_ne nap).trans upd_same
  generalize (upd (upd (upd H p (.ins C dx [("name", .str name), ("inputs", .ref i), ("outputs", .ref o)])) pa (.tup (as.map V.ref))) p (.ins C dx (putF "parts" (.ref pa) [("name", .str name), ("inputs", .ref i), ("outputs", .ref o)]))) = H3 at X3 hp3 ha3 ⊢
  have hps3 : PairsAt H3 as ps := hps.keep fun b xs e => X3 _ _ (fun z => by rw [z, hp] at e; cases e) e
  have hW3 : WiresAt H3 dw ws := hW.X X3 tp npw
  have ho3 : SqT K H3 o (outs.map V.str) := sqT_X X3 tp ho
  refine ⟨_, rfl, p, C, dx, _, _, rfl, hp3, T.cl, T.nP, rfl, _, rfl, _, rfl, pa, o, dw, as, ps, outs, ws, rfl, .of ha3, hps3, ho3, hW3, hd.pl, hd.ol, by have := hd.wl; omega, hd.nd, hd.ne, hd.wk, fun L bs H4 s4 hL hb => ?_⟩
  obtain ⟨was, hwa, hwd, hwt⟩ := hW3.same s4
  refine ⟨_, rfl, L, rfl, ⟨_, .of hL⟩, fun D hD => ?_⟩
  refine out_it (walk_list (xs := bs.map V.ref)) (fun j H' => Same H4 H' ∧ ∃ cs : List Addr, H' D = some (.lst (cs.map V.ref)) ∧ WPairsAt H' cs (((orderT ps outs ws).take j).map fun t => (t, srcOf ws t)))
    ⟨upd_new hD, [], upd_same, rfl, fun i a p e _ => by cases e⟩ (fun j H' _ q => .of (q.1 _ _ hL)) ?_ ?_
  · rintro j x H5 H6 hj ⟨s5, cs, hD5, hc5⟩ ⟨rfl, hx⟩
    rw [List.getElem?_map] at hx
    obtain ⟨b, hbj, rfl⟩ := Option.map_eq_some_iff.mp hx
    obtain ⟨t, ht⟩ : ∃ t, (orderT ps outs ws)[j]? = some t := ⟨_, List.getElem?_eq_getElem (by have := (List.getElem?_eq_some_iff.mp hbj).1; have := hb.1; omega)⟩
    have gb := s5 _ _ (hb.2 j b t hbj ht)
    obtain ⟨m, w1, a, e1, e2, e3, e4⟩ := val_wire t ws was hwa (order_mem (List.mem_of_getElem? ht))
    have ga := s5 _ _ (hwt m w1 a e1 e2)
    refine ⟨rfl, _, rfl, _, rfl, _, rfl, dw, .ref a, rfl, by rw [← e4]; exact DGet.t (k := keyOf t) (s5 _ _ hwd) gb, small1 (by show 2 ≤ 8; decide), fun q hq => ⟨_, (upd_ne (ne_of_none hD5 hq)).trans hD5, ?_, same_put (s5.trans (upd_new hq)) hD, cs ++ [q], ?_, ?_⟩⟩
    · rw [List.length_map, hc5.1, List.length_map, List.length_take]
      have g1 := order_len ps outs ws
      have g2 := Nat.mul_le_mul hd.pl hd.wl
      have := hd.ol
      exact Nat.lt_of_le_of_lt (Nat.le_trans (Nat.min_le_right _ _) (show _ ≤ 200000 by omega)) (by rw [sizeLine_eq]; decide)
    · rw [upd_same, List.map_append]
      rfl
    · rw [tk1 ht, List.map_append]
      have keep : ∀ c us, H6 c = some (.tup us) → upd (upd H6 q (.tup [.ref b, .ref a])) D (.lst (cs.map V.ref ++ [.ref q])) c = some (.tup us) := fun c us e => by
        have nb : c ≠ D := fun z => by rw [z, hD5] at e; cases e
        exact (upd_ne nb).trans ((upd_ne (ne_of_none e hq)).trans e)
      refine WPairsAt.snoc (w := (t, srcOf ws t)) (t := b) (s := a) (hc5.keep keep) ?_ (keep _ _ gb) ?_
      · exact (upd_ne (ne_of_none hD5 hq).symm).trans upd_same
      · rw [e3]
        exact keep _ _ ga
  rintro H5 ⟨s5, cs, hD5, hc5⟩
  rw [List.length_map, hb.1, List.take_length] at hc5
  have hp5 := s5 _ _ (s4 _ _ hp3)
  refine ⟨D, _, rfl, .inl ⟨.of hD5, fun wa hwa2 => ⟨_, rfl, p, C, dx, _, rfl, (upd_ne (ne_of_none hp5 hwa2)).trans hp5, T.cl, T.nW, by show 4 < 1000; decide, ?_⟩⟩⟩
  have X6 := X3.trans ((SameX.of ((s4.trans s5).trans (upd_new (o := HO.tup (cs.map V.ref)) hwa2))).trans (SameX.put (o := .ins C dx (fsD (.str name) (.ref i) (.ref o) pa wa))))
  have nq : ∀ b us, H5 b = some (.tup us) → upd (upd H5 wa (.tup (cs.map V.ref))) p (.ins C dx (fsD (.str name) (.ref i) (.ref o) pa wa)) b = some (.tup us) := fun b us e => by
    have nb : b ≠ p := fun z => by rw [z, hp5] at e; cases e
    exact (upd_ne nb).trans ((upd_ne (ne_of_none e hwa2)).trans e)
  refine k pa wa cs _ X6 upd_same (nq _ _ (s5 _ _ (s4 _ _ ha3))) (((hps3.same s4).same s5).keep nq) ?_ (hc5.keep nq)
  exact (upd_ne (ne_of_none hp5 hwa2).symm).trans upd_same
end
end K8
namespace K8
open PySem L2 Own StX ClX NdefX
abbrev sRI : Stmt := inClass (top 23) 0
abbrev sOfR : Stmt := inClass (top 26) 4
/-! ### a reader's states -/
def st0 : RS := ⟨none, [], [], false⟩
structure RInv (st : RS) : Prop where
  h0 : st.head = none → st.parts = [] ∧ st.wires = [] ∧ st.done = false
  h1 : ∀ n ins outs, st.head = some (n, ins, outs) → n.length ≤ 8 ∧ ins.length ≤ 8 ∧ outs.length ≤ 8 ∧ (∀ x ∈ ins, x.length ≤ 8) ∧ ∀ x ∈ outs, x.length ≤ 8
  nd : (st.parts.map (·.1)).Nodup
  p : ∀ p ∈ st.parts, p.1.length ≠ 0 ∧ p.1.length ≤ 8 ∧ p.2.length ≤ 190000
  w : ∀ w ∈ st.wires, (w.1.1.length = 0 ∨ w.1.1 ∈ st.parts.map (·.1)) ∧ (w.1.1.length ≤ 8 ∧ w.1.2.length ≤ 8) ∧ w.2.1.length ≤ 8 ∧ w.2.2.length ≤ 8
theorem isNm_len {x : Str} (h : isNm x = true) : 1 ≤ x.length ∧ x.length ≤ 8 := by
  unfold isNm at h
  simp only [Bool.and_eq_true, decide_eq_true_eq] at h
  exact ⟨h.1.1.1, h.1.1.2⟩
theorem rinv0 : RInv st0 := ⟨fun _ => ⟨rfl, rfl, rfl⟩, fun _ _ _ h => by (cases h), List.nodup_nil, fun p h => by (cases h), fun w h => by (cases h)⟩
theorem readPort_ok {parts own : List Str} {x : Str} {p : Port} (h : readPort parts own x = some p) (ho : ∀ y ∈ own, y.length ≤ 8) (hp : ∀ y ∈ parts, y.length ≤ 8) : (p.1.length = 0 ∨ p.1 ∈ parts) ∧ p.1.length ≤ 8 ∧ p.2.length ≤ 8 := by
  unfold readPort at h
  split at h
  · split at h
    · rename_i hm
      cases h
      exact ⟨.inl rfl, Nat.zero_le _, ho _ hm⟩
    · cases h
  · split at h
    · rename_i hm
      cases h
      exact ⟨.inr hm.1, hp _ hm.1, (isNm_len hm.2).2⟩
    · cases h
theorem step_inv {st st' : RS} {row : Str} (h : RInv st) (hr : row.length ≤ 190000) (e : step st row = some st') : RInv st' ∧ st'.wires.length ≤ st.wires.length + 1 := by
  obtain ⟨hd, ps, ws, dn⟩ := st
  unfold step at e
  cases hd with
  | none =>
    dsimp only at e
    split at e
    · rename_i ok
      cases e
      obtain ⟨z1, z2, z3⟩ := h.h0 rfl
      refine ⟨⟨fun q => by (cases q), fun n ins outs q => ?_, h.nd, h.p, h.w⟩, Nat.le_succ _⟩
      cases q
      have hn : isNm (headName row) = true := by
        have := ok.2.2.2.1
        unfold isDN at this
        rw [Bool.and_eq_true] at this
        exact this.1
      have hall := List.all_eq_true.mp ok.2.2.2.2.1
      exact ⟨(isNm_len hn).2, ok.2.1, ok.2.2.1, fun x hx => (isNm_len (hall x (List.mem_append_left _ hx))).2, fun x hx => (isNm_len (hall x (List.mem_append_right _ hx))).2⟩
    · cases e
  | some r =>
    obtain ⟨n, ins, outs⟩ := r
    dsimp only at e
    obtain ⟨q1, q2, q3, q4, q5⟩ := h.h1 n ins outs rfl
    split at e
    · cases e
    split at e
    · cases e
      exact ⟨⟨fun q => by (cases q), h.h1, h.nd, h.p, h.w⟩, Nat.le_succ _⟩
    split at e
    · split at e
      · cases et : takePart ps row with
        | none => rw [et] at e; cases e
        | some ps' =>
          rw [et] at e
          cases e
          unfold takePart at et
          split at et
          · rename_i ok
            cases et
            have l0 := PyProof.Rows.len_removeprefix row "  part "
            have pl := part_le (Txt.removeprefix row "  part ") " = " (by decide +kernel)
            refine ⟨⟨fun q => by (cases q), h.h1, ?_, fun p hp => ?_, fun w hw => ?_⟩, Nat.le_succ _⟩
            · rw [List.map_append]
              refine List.nodup_append.mpr ⟨h.nd, List.nodup_cons.mpr ⟨List.not_mem_nil, List.nodup_nil⟩, fun a ha b hb z => ?_⟩
              rw [List.mem_singleton.mp hb] at z
              rw [z] at ha
              exact ok.2.2.1 ha
            · rcases List.mem_append.mp hp with hp | hp
              · exact h.p p hp
              · rw [List.mem_singleton.mp hp]
                have := isNm_len ok.2.1
                exact ⟨by show (partName row).length ≠ 0; omega, this.2, Nat.le_trans pl.2 (Nat.le_trans l0 hr)⟩
            · obtain ⟨z1, z2⟩ := h.w w hw
              refine ⟨z1.imp id fun z => ?_, z2⟩
              rw [List.map_append]
              exact List.mem_append_left _ z
          · cases et
      · cases e
    · cases et : takeWire (ps.map (·.1)) ins outs ws row with
      | none => rw [et] at e; cases e
      | some ws' =>
        rw [et] at e
        cases e
        unfold takeWire at et
        split at et
        · split at et
          · rename_i t s e1 e2
            split at et
            · cases et
            · cases et
              have hp8 : ∀ y ∈ ps.map (·.1), y.length ≤ 8 := fun y hy => by
                obtain ⟨p, hp, rfl⟩ := List.mem_map.mp hy
                exact (h.p p hp).2.1
              have k1 := readPort_ok e1 q5 hp8
              have k2 := readPort_ok e2 q4 hp8
              refine ⟨⟨fun q => by (cases q), h.h1, h.nd, h.p, fun w hw => ?_⟩, by rw [List.length_append]; exact Nat.le_refl _⟩
              rcases List.mem_append.mp hw with hw | hw
              · exact h.w w hw
              · rw [List.mem_singleton.mp hw]
                exact ⟨k1.1, k1.2, k2.2⟩
          · cases et
        · cases et
theorem rinv_ok {st : RS} {n : Str} {ins outs : List Str} (h : RInv st) (hh : st.head = some (n, ins, outs)) (h16 : st.parts.length ≤ 16) (hw : st.wires.length ≤ 10100) : DgOk outs st.parts st.wires := by
  obtain ⟨q1, q2, q3, q4, q5⟩ := h.h1 n ins outs hh
  exact ⟨h16, q3, hw, h.nd, fun p hp => (h.p p hp).1, fun w hm => ⟨(h.w w hm).1, by have := (h.w w hm).2.1.1; omega⟩⟩
theorem srcOf_mem {ws : List (Port × Port)} {t : Port} (h : t ∈ ws.map (·.1)) : ∃ w ∈ ws, w.1 = t ∧ srcOf ws t = w.2 := by
  obtain ⟨j, w, a, e1, _, e3, _⟩ := val_wire t ws (ws.map fun _ => (0 : Nat)) (List.length_map _) h
  obtain ⟨w0, hw0, e⟩ := List.mem_map.mp h
  cases hf : ws.find? (fun w => decide (w.1 = t)) with
  | none => exact absurd (decide_eq_true e) (Bool.not_eq_true _ ▸ List.find?_eq_none.mp hf w0 hw0)
  | some w1 =>
    have hf2 := List.find?_some hf
    refine ⟨w1, List.mem_of_find?_eq_some hf, of_decide_eq_true hf2, ?_⟩
    unfold srcOf
    rw [hf]
    rfl
theorem rinv_sm {st : RS} {n : Str} {ins outs : List Str} (h : RInv st) (hh : st.head = some (n, ins, outs)) (h16 : st.parts.length ≤ 16) (hw : st.wires.length ≤ 10100) : DSm n ins outs st.parts (wiresOf st.parts outs st.wires) := by
  obtain ⟨q1, q2, q3, q4, q5⟩ := h.h1 n ins outs hh
  refine ⟨q1, q2, q3, q4, q5, h16, fun p hp => (h.p p hp).2, ?_, fun w hm => ?_⟩
  · unfold wiresOf
    rw [List.length_map]
    have g1 := order_len st.parts outs st.wires
    have g2 := Nat.mul_le_mul h16 hw
    omega
  · unfold wiresOf at hm
    obtain ⟨t, ht, rfl⟩ := List.mem_map.mp hm
    obtain ⟨w, hw, rfl, e⟩ := srcOf_mem (order_mem ht)
    have z := (h.w w hw).2
    exact ⟨z.1, by rw [e]; exact z.2⟩
theorem val_part : ∀ (ps : List (Str × Str)), (ps.map (·.1)).Nodup → ∀ (j : Nat) (p : Str × Str), ps[j]? = some p → valV (ps.map fun p => ((Sum.inr p.1 : Key), V.str p.2)) (Sum.inr p.1) = some (V.str p.2)
  | [], _, _, _, e => by cases e
  | q :: ps, nd, 0, p, e => by
    cases e
    unfold valV
    rw [List.map_cons, List.find?_cons, decide_eq_true rfl]
    rfl
  | q :: ps, nd, j + 1, p, e => by
    have ih := val_part ps (List.nodup_cons.mp nd).2 j p e
    have hne : ¬ ((Sum.inr q.1 : Key) = Sum.inr p.1) := fun z => (List.nodup_cons.mp nd).1 (by
      have e2 : q.1 = p.1 := Sum.inr.inj z
      show q.1 ∈ _
      rw [e2]
      exact List.mem_map.mpr ⟨p, List.mem_of_getElem? e, rfl⟩)
    unfold valV at *
    rw [List.map_cons, List.find?_cons, decide_eq_false hne]
    exact ih
/-- a diagram at y -/
def DgAt (K : PySem.W.Frag) (C : Addr) (H : Hp) (y : Addr) (name : Str) (ins outs : List Str) (ps : List (Str × Str)) (ws : List (Port × Port)) : Prop := ∃ (dx i o pa wa : Addr) (as bs : List Addr), H y = some (.ins C dx (fsD (.str name) (.ref i) (.ref o) pa wa)) ∧ SqT K H i (ins.map V.str) ∧ SqT K H o (outs.map V.str) ∧
  H pa = some (.tup (as.map V.ref)) ∧ PairsAt H as ps ∧ H wa = some (.tup (bs.map V.ref)) ∧ WPairsAt H bs ws
theorem DgAt.same {K : PySem.W.Frag} {C : Addr} {H H' : Hp} {y : Addr} {name : Str} {ins outs : List Str} {ps : List (Str × Str)} {ws : List (Port × Port)} (h : DgAt K C H y name ins outs ps ws) (s : Same H H') : DgAt K C H' y name ins outs ps ws := by
  obtain ⟨dx, i, o, pa, wa, as, bs, h1, h2, h3, h4, h5, h6, h7⟩ := h
  exact ⟨dx, i, o, pa, wa, as, bs, s _ _ h1, sqT_same s h2, sqT_same s h3, s _ _ h4, h5.same s, s _ _ h6, h7.same s⟩
def spRI (K : PySem.W.Frag) (C : Addr) : Sp := fun vs H Q _ => ∃ (p dx : Addr), vs = [.ref p, .int 8, .int 16] ∧ H p = some (.ins C dx []) ∧ ∀ d dw H', SameX p H H' → RdAt K C H' p d dw st0 → H d = none → H dw = none → Q .non H'
def spOf (K : PySem.W.Frag) (CR C : Addr) : Sp := fun vs H Q _ => ∃ (p d dw : Addr) (st : RS) (n : Str) (ins outs : List Str), vs = [.ref C, .ref p] ∧ RdAt K CR H p d dw st ∧ RInv st ∧ st.head = some (n, ins, outs) ∧ st.wires.length ≤ 10100 ∧
  ∀ y H', Same H H' → H y = none → DgAt K C H' y n ins outs st.parts (wiresOf st.parts outs st.wires) → Q (.ref y) H'
section
variable {P : Program} {w : World} {K : PySem.W.Frag} {mg : Str → Option Value} {base : Heap} {C CR : Addr}
theorem scRI : FnScope ["self", "max_ports", "max_parts"] ["self", "max_ports", "max_parts"] (defScope sRI) := ⟨rfl, rfl, rfl, by decide +kernel, rfl, by decide +kernel, by decide +kernel⟩
theorem ok_ri {f : Addr} {fd : FuncData} (F : Fun K "__init__" "DiagramReader.__init__" sRI f fd) (R : RdC P w K mg base C) : FnOk P w K mg base CX0 1 f fd ["self", "max_ports", "max_parts"] (spRI K C) := by
  refine F.ok scRI (fun vs H Q E h => ?_) (fun cdv A outer s H vs Q E hr h => ?_)
  · obtain ⟨p, dx, rfl, _⟩ := h
    rfl
  obtain ⟨p, dx, rfl, hp, k⟩ := h
  refine ⟨_, pss_cons (ps_fld (pv 0) pe_non rfl) (pss_cons (ps_fld (pv 0) (pe_tup pa_nil) rfl) (pss_cons (ps_fld (pv 0) (pe_tup pa_nil) rfl) (pss_cons (ps_fld (pv 0) pe_dnewK rfl) (pss_cons (ps_fld (pv 0) pe_dnewT rfl) (pss_cons (ps_fld (pv 0) pe_bl rfl) (pss_cons (ps_fld (pv 0) (pv 1) rfl) (pss_one (ps_fld (pv 0) (pv 2) rfl)))))))), ?_⟩
  refine ⟨_, rfl, p, C, dx, _, rfl, hp, R.cl, R.nN, by show 0 < 1000; decide, ?_⟩
  refine ⟨small1 (by show 0 ≤ 8; decide), fun i hi => ⟨_, rfl, p, C, dx, _, rfl, (upd_ne (ne_of_none upd_same hi)).trans upd_same, R.cl, R.nI, by show 1 < 1000; decide, ?_⟩⟩
  refine ⟨small1 (by show 0 ≤ 8; decide), fun o ho => ⟨_, rfl, p, C, dx, _, rfl, (upd_ne (ne_of_none upd_same ho)).trans upd_same, R.cl, R.nO, by show 2 < 1000; decide, ?_⟩⟩
  refine fun d hd => ⟨_, rfl, p, C, dx, _, rfl, (upd_ne (ne_of_none upd_same hd)).trans upd_same, R.cl, R.nP, by show 3 < 1000; decide, ?_⟩
  refine fun dw hw => ⟨_, rfl, p, C, dx, _, rfl, (upd_ne (ne_of_none upd_same hw)).trans upd_same, R.cl, R.nW, by show 4 < 1000; decide, ?_⟩
  refine ⟨_, rfl, p, C, dx, _, rfl, upd_same, R.cl, R.nD, by show 5 < 1000; decide, ?_⟩
  refine ⟨_, rfl, _, rfl, p, C, dx, _, rfl, upd_same, R.cl, R.nA, by show 6 < 1000; decide, ?_⟩
  refine ⟨_, rfl, _, rfl, p, C, dx, _, rfl, upd_same, R.cl, R.nB, by show 7 < 1000; decide, ?_⟩
  have npd : d ≠ p := (ne_of_none upd_same hd).symm
  have npw : dw ≠ p := (ne_of_none upd_same hw).symm
  have X1 := SameX.put (a := p) (H := H) (o := .ins C dx [("name", .non)])
  have X2 := X1.trans ((SameX.of (upd_new (o := HO.tup []) hi)).trans (SameX.put (o := .ins C dx [("name", .non), ("inputs", .ref i)])))
  have X3 := X2.trans ((SameX.of (upd_new (o := HO.tup []) ho)).trans (SameX.put (o := .ins C dx [("name", .non), ("inputs", .ref i), ("outputs", .ref o)])))
  have X4 := X3.trans ((SameX.of (upd_new (o := HO.dK []) hd)).trans (SameX.put (o := .ins C dx [("name", .non), ("inputs", .ref i), ("outputs", .ref o), ("parts", .ref d)])))
  have X5 := X4.trans (SameX.of (upd_new (o := HO.dT []) hw))
  have free : ∀ {H1 H2 : Hp} {b : Addr}, SameX p H1 H2 → b ≠ p → H2 b = none → H1 b = none := fun {H1 H2 b} x n e => by
    cases z : H1 b with
    | none => rfl
    | some u => rw [x b u n z] at e; cases e
  refine k d dw _ (X5.trans (SameX.put.trans (SameX.put.trans (SameX.put.trans SameX.put)))) ⟨dx, .non, i, o, upd_same, ?_, ?_, rfl, Nat.zero_le _⟩ (free X3 npd hd) (free X4 npw hw)
  · show (upd _ _ _) d = _
    have nd : d ≠ dw := ne_of_none ((upd_ne npd).trans upd_same) hw
    rw [upd_ne npd, upd_ne npd, upd_ne npd, upd_ne npd, upd_ne nd, upd_ne npd, upd_same]
    rfl
  · refine ⟨[], rfl, ?_, fun j w a e _ => by cases e⟩
    rw [upd_ne npw, upd_ne npw, upd_ne npw, upd_ne npw, upd_same]
    rfl
end
end K8
namespace K8
open PySem L2 Own StX ClX NdefX
abbrev sErr : Stmt := inClass (top 2) 0
abbrev sStr : Stmt := inClass (top 26) 6
/-- InvalidText: its class at CI, its __init__ at fI -/
structure ErrC (K : PySem.W.Frag) (mg : Str → Option Value) (CI fI : Addr) : Prop where
  ox : OexC K CI
  ini : PySem.W.findIn K (.ref CI) "__init__" = some (some (.ref fI))
  ty : PySem.W.typeIn K (.ref fI) = some (.type "function")
  row : PySem.W.findIn K (.ref CI) "row" = some none
  m : mg "InvalidText" = some (.ref CI)
def spErr (K : PySem.W.Frag) (CI : Addr) : Sp := fun vs H Q _ => ∃ (a : Addr) (r : Int), vs = [.ref a, .int r] ∧ H a = some (exo a CI none) ∧ ∀ dx, H dx = none → dx ≠ a → Q .non (upd (upd H dx (exd dx [("row", .int r)])) a (exo a CI (some dx)))
def spStr (K : PySem.W.Frag) (C : Addr) : Sp := fun vs H Q _ => ∃ (y : Addr) (n : Str) (ins outs : List Str) (ps : List (Str × Str)) (ws : List (Port × Port)), vs = [.ref y] ∧ DgAt K C H y n ins outs ps ws ∧ DSm n ins outs ps ws ∧ ∀ H', Same H H' → Q (.str (Txt.join "\n" (rowsT n ins outs ps ws))) H'
section
variable {P : Program} {w : World} {K : PySem.W.Frag} {mg : Str → Option Value} {base : Heap} {C CR CI : Addr}
theorem scEr : FnScope ["self", "row"] ["self", "row"] (defScope sErr) := ⟨rfl, rfl, rfl, by decide +kernel, rfl, by decide +kernel, by decide +kernel⟩
theorem ok_err {f fI : Addr} {fd : FuncData} (F : Fun K "__init__" "InvalidText.__init__" sErr f fd) (T : ErrC K mg CI fI) : FnOk P w K mg base CX0 1 f fd ["self", "row"] (spErr K CI) := by
  refine F.ok scEr (fun vs H Q E h => ?_) (fun cdv A outer s H vs Q E hr h => ?_)
  · obtain ⟨a, r, rfl, _⟩ := h
    rfl
  obtain ⟨a, r, rfl, ha, k⟩ := h
  refine ⟨_, pss_one (ps_ost (pv 0) (pv 1)), ?_⟩
  exact ⟨_, rfl, _, rfl, a, CI, rfl, T.ox, T.row, .inl ⟨ha, fun dx h1 h2 => k dx h1 h2⟩⟩
theorem scSt : FnScope ["self"] ["self"] (defScope sStr) := ⟨rfl, rfl, rfl, by decide +kernel, rfl, by decide +kernel, by decide +kernel⟩
theorem ok_str {f fR : Addr} {fd fdR : FuncData} (F : Fun K "__str__" "Diagram.__str__" sStr f fd) (T : DgC K mg C) (GR : FnOk P w K mg base CX0 2 fR fdR ["name", "inputs", "outputs", "parts", "wires"] (spRows K)) (mR : mg "diagram_rows" = some (.ref fR)) (kR : PySem.W.keepIn K (.ref fR) = true) (bR : Binds K fdR ["name", "inputs", "outputs", "parts", "wires"] []) :
    FnOk P w K mg base CX0 3 f fd ["self"] (spStr K C) := by
  refine F.ok scSt (fun vs H Q E h => ?_) (fun cdv A outer s H vs Q E hr h => ?_)
  · obtain ⟨y, n, ins, outs, ps, ws, rfl, _⟩ := h
    rfl
  obtain ⟨y, n, ins, outs, ps, ws, rfl, hy, hd, k⟩ := h
  obtain ⟨dx, i, o, pa, wa, as, bs, h1, h2, h3, h4, h5, h6, h7⟩ := hy
  refine ⟨_, pss_one (ps_ret (pe_join pe_str (pe_call GR hr rfl mR kR bR .nil pass0 (pa_cons (pe_fld (pv 0) rfl) (pa_cons (pe_fld (pv 0) rfl) (pa_cons (pe_fld (pv 0) rfl) (pa_cons (pe_fld (pv 0) rfl) (pa_cons (pe_fld (pv 0) rfl) pa_nil)))))))), ?_⟩
  refine ⟨⟨_, rfl⟩, _, rfl, y, C, dx, _, _, rfl, h1, T.cl, T.nN, rfl, _, rfl, y, C, dx, _, _, rfl, h1, T.cl, T.nI, rfl, _, rfl, y, C, dx, _, _, rfl, h1, T.cl, T.nO, rfl, _, rfl, y, C, dx, _, _, rfl, h1, T.cl, T.nP, rfl, _, rfl, y, C, dx, _, _, rfl, h1, T.cl, T.nW, rfl, ?_⟩
  refine ⟨n, i, o, pa, wa, ins, outs, as, bs, ps, ws, rfl, h2, h3, .of h4, h5, .of h6, h7, hd, fun L H1 s1 hL => ⟨"\n", L, _, rfl, rfl, .inl (.of hL), ?_, k H1 s1⟩⟩
  have := rowsT_len hd
  rw [show (("\n" : Str)).length = 1 by decide +kernel]
  omega
abbrev nOf : List Str := ["cls", "reader", "parts", "part"]
theorem scOf : FnScope nOf ["cls", "reader"] (defScope sOfR) := ⟨rfl, rfl, rfl, by decide +kernel, rfl, by decide +kernel, by decide +kernel⟩
theorem ok_of {f fI : Addr} {fd : FuncData} (F : Fun K "of_reader" "Diagram.of_reader" sOfR f fd) (R : RdC P w K mg base CR) (M : Mk K C fI) (GI : FnR P w K mg base CX0 2 fI (spDI K C)) : FnOk P w K mg base CX0 4 f fd ["cls", "reader"] (spOf K CR C) := by
  refine F.ok scOf (fun vs H Q E h => ?_) (fun cdv A outer s H vs Q E hr h => ?_)
  · obtain ⟨p, d, dw, st, n, ins, outs, rfl, _⟩ := h
    rfl
  obtain ⟨p, d, dw, st, n, ins, outs, rfl, hR, hI, hh, hwl, k⟩ := h
  have hu1 := Nat.lt_of_le_of_lt (Nat.add_le_add_left (show 1 ≤ 64 by decide) _) hr.units
  refine ⟨_, pss_cons (ps_lock (by exact (ps_setLc (i := 2) (own := [("part", 3)]) (g := gName 3) (te := tTup (tCons (tVar 3) (tCons (tDGet (tFld K (tVar 1) "parts") (tVar 3)) tNil))) rfl scOf.nd rfl rfl (sw_true rfl rfl rfl (by decide +kernel)) (pi_keys (pe_fld (pv 1) rfl)) (blkOk_by (own := [("part", 3)]) (N := nOf) (sc := defScope sOfR) (by decide +kernel)) (fun _ _ _ _ _ => pg_name (i := 3) scOf.nd rfl (Or.inl rfl)) (fun _ _ _ _ _ => pts_nil)
      (fun _ _ _ _ _ => by exact (pe_tup (pa_cons (pv 3) (pa_cons (pe_dget hu1 (pe_fld (pv 1) rfl) (pv 3) (fun _ _ => rfl)) pa_nil)))))))
    (pss_one (ps_ret (pe_makeL (i := 0) M GI hr rfl (.inl rfl) pass0 (pa_cons (pe_fld (pv 1) rfl) (pa_cons (pe_fld (pv 1) rfl) (pa_cons (pe_fld (pv 1) rfl) (pa_cons (pv 2) (pa_cons (pe_fld (pv 1) rfl) pa_nil)))))))), ?_⟩
  obtain ⟨dx, nm, i, o, hp, hP, hW, hH, h16⟩ := hR
  obtain ⟨hd0, ps, ws, dn⟩ := st
  dsimp only at hp hP hW hH h16 hwl hh k
  subst hh
  obtain ⟨rfl, hi, ho⟩ := hH
  have hok := rinv_ok hI rfl h16 hwl
  have hP' : H d = some (.dK (ps.map fun p => (Sum.inr p.1, V.str p.2))) := hP
  have npd : p ≠ d := fun z => by rw [z, hP'] at hp; cases hp
  have hkl : (ps.map fun p => ((Sum.inr p.1 : Key), V.str p.2)).length = ps.length := List.length_map _
  refine ⟨d, _, hP', trivial, fun oe => ⟨_, rfl, p, CR, dx, _, _, rfl, (upd_ne npd).trans hp, R.cl, R.nP, rfl, d, oe, rfl, .inl ⟨_, upd_same, fun D hD => ?_⟩⟩⟩
  have nDd : D ≠ d := fun z => by rw [z, upd_same] at hD; cases hD
  have hD0 : H D = none := by
    rw [upd_ne nDd] at hD
    exact hD
  refine out_it walk_keys (fun j H' => (∀ b z, b ≠ d → H b = some z → H' b = some z) ∧ H' d = some (.frz oe (.dK (ps.map fun p => (Sum.inr p.1, V.str p.2)))) ∧ ∃ bs : List Addr, H' D = some (.lst (bs.map V.ref)) ∧ PairsAt H' bs (ps.take j))
    ⟨fun b z n e => (upd_ne (ne_of_none e hD0)).trans ((upd_ne n).trans e), (upd_ne nDd.symm).trans upd_same, [], upd_same, rfl, fun i a p e _ => by cases e⟩ (fun j H' _ q => q.2.1) ?_ ?_
  · rintro j x H1 H2 hj ⟨s1, hf1, bs, hD1, hb1⟩ ⟨rfl, kk, v, hk, rfl⟩
    rw [List.getElem?_map] at hk
    obtain ⟨q, hq, hk⟩ := Option.map_eq_some_iff.mp hk
    cases hk
    refine ⟨rfl, _, rfl, _, rfl, p, CR, dx, _, _, rfl, s1 _ _ npd hp, R.cl, R.nP, rfl, _, rfl, d, .str q.2, rfl, .inl ⟨_, Sum.inr q.1, .inr ⟨oe, hf1⟩, rfl, (val_part ps hI.nd j q hq).symm⟩, small1 (by show 2 ≤ 8; decide), fun t ht => ⟨_, (upd_ne (ne_of_none hD1 ht)).trans hD1, ?_, ?_, ?_, bs ++ [t], ?_, ?_⟩⟩
    · rw [List.length_map, hb1.1, List.length_take]
      exact Nat.lt_of_le_of_lt (Nat.le_trans (Nat.min_le_right _ _) h16) (by rw [sizeLine_eq]; decide)
    · exact fun b z n e => (upd_ne (ne_of_none e hD0)).trans ((upd_ne (ne_of_none (s1 b z n e) ht)).trans (s1 b z n e))
    · exact (upd_ne nDd.symm).trans ((upd_ne (ne_of_none hf1 ht)).trans hf1)
    · rw [upd_same, List.map_append]
      rfl
    · rw [tk1 hq]
      refine PairsAt.snoc (hb1.keep fun b us e => ?_) ?_
      · have nb : b ≠ D := fun z => by rw [z, hD1] at e; cases e
        exact (upd_ne nb).trans ((upd_ne (ne_of_none e ht)).trans e)
      · exact (upd_ne (ne_of_none hD1 ht).symm).trans upd_same
  rintro H1 ⟨s1, hf1, bs, hD1, hb1⟩
  rw [hkl, List.take_length] at hb1
  refine ⟨hf1, ?_⟩
  have S2 : Same H (upd H1 d (.dK (ps.map fun p => (Sum.inr p.1, V.str p.2)))) := fun b z e => by
    by_cases hb : b = d
    · rw [hb] at e ⊢
      rw [upd_same, ← e, hP']
    · exact (upd_ne hb).trans (s1 b z hb e)
  have hD2 : (upd H1 d (.dK (ps.map fun p => (Sum.inr p.1, V.str p.2)))) D = some (.lst (bs.map V.ref)) := (upd_ne nDd).trans hD1
  have hb2 : PairsAt (upd H1 d (.dK (ps.map fun p => (Sum.inr p.1, V.str p.2)))) bs ps := hb1.keep fun b us e => by
    have nb : b ≠ d := fun z => by rw [z, hf1] at e; cases e
    exact (upd_ne nb).trans e
  generalize upd H1 d (.dK (ps.map fun p => (Sum.inr p.1, V.str p.2))) = H2 at S2 hD2 hb2 ⊢
  have hp2 := S2 _ _ hp
  refine ⟨rfl, _, rfl, p, CR, dx, _, _, rfl, hp2, R.cl, R.nN, rfl, _, rfl, p, CR, dx, _, _, rfl, hp2, R.cl, R.nI, rfl, _, rfl, p, CR, dx, _, _, rfl, hp2, R.cl, R.nO, rfl, _, rfl, _, rfl, p, CR, dx, _, _, rfl, hp2, R.cl, R.nW, rfl, fun y dy hy hdy hne => ?_⟩
  have S3 : Same H2 (upd (upd H2 dy (.own y)) y (.ins C dy [])) := same_put (upd_new hdy) hy
  refine ⟨y, dy, i, o, D, dw, n, outs, bs, ps, ws, rfl, upd_same, sqT_same (S2.trans S3) ho, .of (S3 _ _ hD2), hb2.same S3, (hW.same S2).same S3, hok, fun pa wa cs H' X hy' hpa hps' hwa hws => ⟨rfl, ?_⟩⟩
  have S4 : Same H2 H' := fun b z e => X _ _ (ne_of_none e hy) (S3 _ _ e)
  exact k y H' (S2.trans S4) (S2.free hy) ⟨dy, i, o, pa, wa, bs, cs, hy', sqT_same (S2.trans S4) hi, sqT_same (S2.trans S4) ho, hpa, hps', hwa, hws⟩
end
end K8
namespace K8
open PySem L2 Own StX ClX NdefX
abbrev sParse : Stmt := inClass (top 26) 3
/-- a reader over rows: the number of the first wrong one, or the state at the end -/
def run (st : RS) (k : Nat) : List Str → Nat ⊕ RS
  | [] => if st.done = true then .inr st else .inl k
  | r :: rs => match step st r with
    | none => .inl k
    | some st' => run st' (k + 1) rs
def spParse (K : PySem.W.Frag) (CR C CI : Addr) : Sp := fun vs H Q E => ∃ (x : Str), vs = [.ref C, .str x] ∧ x.length ≤ 16000000 ∧ (Txt.split x "\n").length ≤ 10100 ∧ (∀ r ∈ Txt.split x "\n", r.length ≤ 190000) ∧
  (∀ k, run st0 0 (Txt.split x "\n") = .inl k → ∀ d H', Same H H' → H d = none → H' d = some (.xd [("row", .int (k : Nat))]) → E (.ref CI) (some d) H') ∧
  (∀ st n ins outs, run st0 0 (Txt.split x "\n") = .inr st → st.head = some (n, ins, outs) → DSm n ins outs st.parts (wiresOf st.parts outs st.wires) → ∀ y H', Same H H' → H y = none → DgAt K C H' y n ins outs st.parts (wiresOf st.parts outs st.wires) → Q (.ref y) H')
section
variable {P : Program} {w : World} {K : PySem.W.Frag} {mg : Str → Option Value} {base : Heap} {C CR CI : Addr}
abbrev nPa : List Str := ["cls", "text", "rows", "reader", "number", "row"]
theorem scPa : FnScope nPa ["cls", "text"] (defScope sParse) := ⟨rfl, rfl, rfl, by decide +kernel, rfl, by decide +kernel, by decide +kernel⟩
theorem ok_parse {f fT fI fE gO pO : Addr} {fd fdT fdI fdE : FuncData} {mc : Value} (F : Fun K "parse" "Diagram.parse" sParse f fd) (zl : mg "len" = none) (ze : mg "enumerate" = none) (R : RdC P w K mg base CR)
    (mT : Meth K CR "take" fT) (GT : FnOk P w K mg base CX0 5 fT fdT ["self", "row"] (spTake K CR)) (bT : Binds K fdT ["self", "row"] [])
    (M : Mk K CR fI) (GI : FnOk P w K mg base CX0 1 fI fdI ["self", "max_ports", "max_parts"] (spRI K CR)) (mR : mg "DiagramReader" = some (.ref CR)) (bI : Binds K fdI ["self", "max_ports", "max_parts"] [])
    (cr : CRead K C mc) (v8 : ∃ u, CVal K C mc "MAX_PORTS" (.int 8) u) (v16 : ∃ u, CVal K C mc "MAX_PARTS" (.int 16) u) (cm : CMet K C mc "of_reader" pO gO) (GO : FnR P w K mg base CX0 4 gO (spOf K CR C))
    (Er : ErrC K mg CI fE) (GE : FnOk P w K mg base CX0 1 fE fdE ["self", "row"] (spErr K CI)) (bE : Binds K fdE ["self", "row"] []) : FnOk P w K mg base (L2.CX P w) 6 f fd ["cls", "text"] (spParse K CR C CI) := by
  refine F.okX scPa (fun vs H Q E h => ?_) (fun cdv A outer s H vs Q E hr h => ?_)
  · obtain ⟨x, rfl, _⟩ := h
    rfl
  obtain ⟨x, rfl, hx, hrl, hrr, kE, kS⟩ := h
  obtain ⟨u8, v8⟩ := v8
  obtain ⟨u16, v16⟩ := v16
  refine ⟨_, pss_cons (ps_set (i := 2) scPa.nd rfl (.inl rfl) (pe_split (pv 1) pe_str))
    (pss_cons (ps_set (i := 3) scPa.nd rfl (.inl rfl) (pe_make M GI (hr.mono (by decide)) rfl mR bI .nil pass0 (pa_cons (pe_cval (pv 0)) (pa_cons (pe_cval (pv 0)) pa_nil))))
    (pss_cons (ps_for (passes_of rfl) rfl (pi_enum (by rfl) ze (pa_cons (pv 2) pa_nil)) (pg_tup (by rfl) (pgs_cons (pg_name (i := 4) scPa.nd rfl (.inl rfl)) (pgs_cons (pg_name (i := 5) scPa.nd rfl (.inl rfl)) pgs_nil)))
      (pss_one (ps_if (pt_not (pt_val (pe_meth (pv 3) R.cl mT GT hr bT .nil pass0 (pa_cons (pv 5) pa_nil)))) (pss_one (ps_raise rfl (takes_of rfl rfl rfl rfl) (pmk_oex Er.ox Er.ini Er.ty GE (hr.mono (by decide)) bE .nil pass0 rfl Er.m (pa_cons (pv 4) pa_nil)))) pss_nil)))
    (pss_cons (ps_if (pt_not (pt_val (pe_fld (pv 3) rfl))) (pss_one (ps_raise rfl (takes_of rfl rfl rfl rfl) (pmk_oex Er.ox Er.ini Er.ty GE (hr.mono (by decide)) bE .nil pass0 rfl Er.m (pa_cons (pe_callB call_len_seq (by rfl) zl PySem.boot_len (pa_cons (pv 2) pa_nil)) pa_nil)))) pss_nil)
    (pss_one (ps_ret (pe_cmeth (pv 0) cr cm GO (hr.mono (by decide)) pass0 (pa_cons (pv 3) pa_nil))))))), ?_⟩
  have sz : ∀ {n : Nat}, n ≤ 16000100 → n ≤ sizeLine := fun h => by rw [sizeLine_eq]; omega
  refine ⟨_, rfl, ⟨_, rfl⟩, _, _, rfl, rfl, by decide +kernel, sz (by omega), fun rl hrl0 => ?_⟩
  have s1 := upd_new (o := HO.lst ((Txt.split x "\n").map V.str)) hrl0
  have hl1 : upd H rl (HO.lst ((Txt.split x "\n").map V.str)) rl = some (.lst ((Txt.split x "\n").map V.str)) := upd_same
  generalize upd H rl (HO.lst ((Txt.split x "\n").map V.str)) = H1 at s1 hl1 ⊢
  generalize Txt.split x "\n" = rows at *
  refine ⟨_, rfl, C, mc, .int 8, u8, rfl, cr, v8, _, rfl, C, mc, .int 16, u16, rfl, cr, v16, fun p dx hp hdx hne => ?_⟩
  have S2 : Same H1 (upd (upd H1 dx (.own p)) p (.ins CR dx [])) := same_put (upd_new hdx) hp
  refine ⟨p, dx, rfl, upd_same, fun d dw H2 X2 hR hd0 hw0 => ⟨rfl, ?_⟩⟩
  have s2 : Same H1 H2 := fun b z e => X2 _ _ (ne_of_none e hp) (S2 _ _ e)
  have fd0 : H1 d = none := S2.free hd0
  have fw0 : H1 dw = none := S2.free hw0
  -- the rows
  refine ⟨_, rfl, rl, rows.map V.str, rfl, .of (s2 _ _ hl1), ?_⟩
  refine for_it (walk_enum (xs := rows.map V.str)) (fun i σ H' => ∃ (u v : Option V) (st : RS), σ = [some (.ref C), some (.str x), some (.ref rl), some (.ref p), u, v] ∧ Same H1 H' ∧ RdAt K CR H' p d dw st ∧ RInv st ∧ st.wires.length ≤ i ∧ run st0 0 rows = run st i (rows.drop i))
    ⟨none, none, st0, rfl, s2, hR, rinv0, Nat.le_refl _, rfl⟩ (fun i σ H' _ q => ?_) ?turn1 ?done1
  · obtain ⟨_, _, _, _, z, _⟩ := q
    exact .of (z _ _ hl1)
  case turn1 =>
    rintro i z σ H3 H4 hi ⟨u, v, st, rfl, s3, hR3, hI3, hw3, hrun⟩ ⟨T, a, b, rfl, hT, rfl, ea, eb⟩
    cases ea
    have eb : (rows.map V.str)[i]? = some b := eb
    rw [List.getElem?_map] at eb
    obtain ⟨row, hrow, rfl⟩ := Option.map_eq_some_iff.mp eb
    have hdrop : rows.drop i = row :: rows.drop (i + 1) := by
      obtain ⟨hlt, hget⟩ := List.getElem?_eq_some_iff.mp hrow
      rw [← hget]
      exact List.drop_eq_getElem_cons hlt
    have hrow8 := hrr row (List.mem_of_getElem? hrow)
    have hilt : i < rows.length := (List.getElem?_eq_some_iff.mp hrow).1
    have st4 := upd_new (o := HO.tup [V.int (i : Nat), .str row]) hT
    refine ⟨T, _, rfl, .of upd_same, rfl, _, _, rfl, _, _, rfl, rfl, ?_⟩
    generalize upd H3 T (HO.tup [V.int (i : Nat), .str row]) = H4 at st4 ⊢
    have hR4 : RdAt K CR H4 p d dw st := by
      obtain ⟨dx, nm, i, o, h1, h2, h3, h4, h5⟩ := hR3
      refine ⟨dx, nm, i, o, st4 _ _ h1, st4 _ _ h2, h3.same st4, ?_, h5⟩
      cases hh : st.head with
      | none => rw [hh] at h4; exact h4
      | some r =>
        rw [hh] at h4
        obtain ⟨n, ins, outs⟩ := r
        exact ⟨h4.1, sqT_same st4 h4.2.1, sqT_same st4 h4.2.2⟩
    have hpi := hR4
    obtain ⟨dx3, nm3, i3, o3, hp4, _⟩ := hpi
    refine ⟨_, rfl, p, dx3, _, rfl, hp4, rfl, _, rfl, ?_⟩
    dsimp only [tNil, List.append_nil]
    refine ⟨p, d, dw, row, st, rfl, hR4, by omega, hrow8, fun e H5 s5 => ⟨_, rfl, ?_⟩, fun st' e H5 s5 hR5 => ⟨_, rfl, ?_⟩⟩
    · refine iteT ⟨_, rfl, by show 1 ≤ 1000; decide, fun a ha => ⟨a, (i : Nat), rfl, upd_same, fun dx h1 h2 => ?_⟩⟩
      have hdx : H5 dx = none := by rw [← h1, upd_ne h2]
      have s15 := s1.trans (s3.trans (st4.trans s5))
      refine ⟨rfl, dx, _, upd_same, by rw [upd_ne h2]; exact upd_same, hdx, kE i (by rw [hrun, hdrop]; unfold run; rw [e]) dx _ (fun b u q => ?_) (s15.free hdx) upd_same⟩
      have e1 := s15 b u q
      have hb := ne_of_none e1 ha
      have hd := ne_of_none e1 hdx
      rw [upd_ne hd, del_ne hb, upd_ne hb, upd_ne hd, upd_ne hb]
      exact e1
    · obtain ⟨hI5, hw5⟩ := step_inv hI3 hrow8 e
      refine iteF ⟨_, _, st', rfl, fun b u q => ?_, hR5, hI5, by omega, by rw [hrun, hdrop]; show (match step st row with | none => _ | some st' => _) = _; rw [e]⟩
      have e4 := st4 _ _ (s3 b u q)
      exact s5 b u (ne_of_none q hp) (ne_of_none q fd0) (ne_of_none q fw0) e4
  rintro σ H3 ⟨u, v, st, rfl, s3, hR3, hI3, hw3, hrun⟩
  rw [List.length_map] at hw3 hrun
  rw [List.drop_length] at hrun
  have hpi := hR3
  obtain ⟨dx3, nm3, i3, o3, hp3, _, _, _, h16⟩ := hpi
  refine ⟨_, rfl, p, CR, dx3, _, _, rfl, hp3, R.cl, R.nD, rfl, _, rfl, ?_⟩
  cases hdn : st.done with
  | false =>
    refine iteT ⟨_, rfl, rl, _, rfl, .inl (.of (s3 _ _ hl1)), by show 1 ≤ 1000; decide, fun a ha => ⟨a, (rows.length : Nat), by rw [List.length_map]; rfl, upd_same, fun dx h1 h2 => ?_⟩⟩
    have hdx : H3 dx = none := by rw [← h1, upd_ne h2]
    have s13 := s1.trans s3
    refine ⟨rfl, dx, _, upd_same, by rw [upd_ne h2]; exact upd_same, hdx, kE rows.length (by rw [hrun]; unfold run; rw [hdn]; rfl) dx _ (fun b u q => ?_) (s13.free hdx) upd_same⟩
    have e1 := s13 b u q
    have hb := ne_of_none e1 ha
    have hd := ne_of_none e1 hdx
    rw [upd_ne hd, del_ne hb, upd_ne hb, upd_ne hd, upd_ne hb]
    exact e1
  | true =>
    obtain ⟨⟨n, ins, outs⟩, hh⟩ : ∃ r, st.head = some r := by
      cases hh : st.head with
      | none =>
        have := (hI3.h0 hh).2.2
        rw [hdn] at this
        cases this
      | some r => exact ⟨r, rfl⟩
    refine iteF ⟨_, rfl, rfl, _, rfl, p, d, dw, st, n, ins, outs, rfl, hR3, hI3, hh, by omega, fun y H4 s4 hy hD => ?_⟩
    exact kS st n ins outs (by rw [hrun]; unfold run; rw [hdn]; rfl) hh (rinv_sm hI3 hh h16 (by omega)) y H4 ((s1.trans s3).trans s4) ((s1.trans s3).free hy) hD
end
end K8
namespace K8
open PySem L2 Own StX ClX NdefX
abbrev sTold : Stmt := top 31
abbrev sFeed : Stmt := top 28
abbrev sTakeL : Stmt := top 29
abbrev sPickL : Stmt := top 30
/-- what the law is told of rows: the text again, the number of a wrong row, something else -/
def toldN (rows : List Str) : Option (Option Nat) :=
  match run st0 0 rows with
  | .inl k => some (some k)
  | .inr st => match st.head with
    | some (n, ins, outs) => if Txt.join "\n" (rowsT n ins outs st.parts (wiresOf st.parts outs st.wires)) = Txt.join "\n" rows then some none else none
    | none => none
def toldV : Option (Option Nat) → V
  | some none => .non
  | some (some k) => .int (k : Nat)
  | none => .str "other"
/-- rows that can be joined and split -/
structure RowsOk (rows : List Str) : Prop where
  ne : rows ≠ []
  nl : ∀ r ∈ rows, 10 ∉ TL.tl r
  len : rows.length ≤ 10100
  each : ∀ r ∈ rows, r.length ≤ 190000
  all : (rows.map (·.length)).sum ≤ 1000000
theorem plus1 : ∀ rows : List Str, (rows.map fun t => t.length + 1).sum = (rows.map (·.length)).sum + rows.length
  | [] => rfl
  | a :: r => by
    have := plus1 r
    simp only [List.map_cons, List.sum_cons, List.length_cons]
    omega
def spTold (K : PySem.W.Frag) : Sp := fun vs H Q _ => ∃ (rl : Addr) (rows : List Str), vs = [.ref rl] ∧ SqL K H rl (rows.map V.str) ∧ RowsOk rows ∧ ∀ H', Same H H' → Q (toldV (toldN rows)) H'
def spFeed (K : PySem.W.Frag) : Sp := fun vs H Q _ => ∃ (a : Addr) (ns : List Int) (k : Int), vs = [.ref a, .int k] ∧ SqL K H a (ns.map V.int) ∧ 0 ≤ k ∧ k ≤ 100 ∧
  ∀ p d s, 0 ≤ d → H p = none → Q (.ref p) (upd H p (.lst [.int d, .int s]))
def spTakeL : Sp := fun vs H Q _ => ∃ (a : Addr) (d s m : Int), vs = [.ref a, .int m] ∧ H a = some (.lst [.int d, .int s]) ∧ 0 ≤ d ∧ 0 < m ∧ m ≤ 8589934592 ∧
  ∀ r d' s', 0 ≤ d' → 0 ≤ r → r < m → Q (.int r) (upd H a (.lst [.int d', .int s']))
def spPickS : Sp := fun vs H Q _ => ∃ (a : Addr) (d s : Int) (z : Str), vs = [.ref a, .str z] ∧ H a = some (.lst [.int d, .int s]) ∧ 0 ≤ d ∧ 0 < z.length ∧ z.length ≤ 1000 ∧
  ∀ c d' s', c ∈ z.cps.toList → 0 ≤ d' → Q (.str ⟨#[c]⟩) (upd H a (.lst [.int d', .int s']))
/-- Diagram.parse and str, callable; the error's class -/
structure Par (P : Program) (w : World) (K : PySem.W.Frag) (mg : Str → Option Value) (base : Heap) (CR C CI : Addr) : Prop where
  cm : ∃ mc p g, CRead K C mc ∧ CMet K C mc "parse" p g ∧ FnR P w K mg base (L2.CX P w) 6 g (spParse K CR C CI)
  st : ∃ g, PySem.W.findIn K (.ref C) "__str__" = some (some (.ref g)) ∧ PySem.W.isFn K (.ref g) = true ∧ FnR P w K mg base CX0 3 g (spStr K C)
  ex : PySem.W.exmOne K (.ref CI) (.ref CI) = some true
  xf : XfC K CI
  row : PySem.W.findIn K (.ref CI) "row" = some none
  mI : mg "InvalidText" = some (.ref CI)
  mD : mg "Diagram" = some (.ref C)
  zs : mg "str" = none
def rJn (K : PySem.W.Frag) : V → List V → Hp → VK → Prop := fun x xs H Q => ∃ a p, ∃ ys : List Str, x = .str a ∧ xs = [.ref p] ∧ (SqL K H p (ys.map V.str) ∨ SqT K H p (ys.map V.str)) ∧ (ys.map (·.length)).sum + ys.length * a.length ≤ 16777216 ∧ Q (.str (Txt.join a ys)) H
section
variable {P : Program} {w : World} {K : PySem.W.Frag} {mg : Str → Option Value} {base : Heap} {C CR CI : Addr}
abbrev nTo : List Str := ["rows", "caught", "found", "error"]
theorem scTo : FnScope nTo ["rows"] (defScope sTold) := ⟨rfl, rfl, rfl, by decide +kernel, rfl, by decide +kernel, by decide +kernel⟩
theorem ok_told {f : Addr} {fd : FuncData} (F : Fun K "_law_told" "_law_told" sTold f fd) (Pa : Par P w K mg base CR C CI) : FnOk P w K mg base CX0 7 f fd ["rows"] (spTold K) := by
  refine F.ok scTo (fun vs H Q E h => ?_) (fun cdv A outer s H vs Q E hr h => ?_)
  · obtain ⟨rl, rows, rfl, _⟩ := h
    rfl
  obtain ⟨rl, rows, rfl, hL, ho, k⟩ := h
  have hr5 := hr.mono (show 5 ≤ 6 by decide)
  obtain ⟨mc, pp, gp, cr, cm, G⟩ := Pa.cm
  obtain ⟨gs, fs, is_, GS⟩ := Pa.st
  refine ⟨_, pss_cons (ps_asg (pe_tup (pa_cons pe_non (pa_cons pe_non pa_nil))) (pg_tup (by rfl) (pgs_cons (pg_name (i := 1) scTo.nd rfl (.inl rfl)) (pgs_cons (pg_name (i := 2) scTo.nd rfl (.inl rfl)) pgs_nil))))
    (pss_cons (ps_try_keep (i := 3) (tb := fun W => tAsg (tCMethS C (spParse K CR C CI) (WE W) (tC (.ref C)) (tCons (tM1 (rJn K) (tC (.str "\n")) (tVar 0)) tNil)) (gName 2)) (ts := fun _ _ _ => tAsg (tVar 3) (gName 1)) (Wout := fun _ _ _ _ => False) rfl rfl rfl scTo.nd rfl rfl ⟨rfl, by decide, .inl Pa.mI⟩ takes0
        (fun W pn xe tk _ => pss_one (ps_set (i := 2) scTo.nd rfl (Or.inl rfl) (by exact (pe_cmethS (pe_glob (v := .ref C) rfl Pa.mD rfl) cr cm G hr (fun σ => passAt tk σ) (by exact (pa_cons (pe_join pe_str (pv 0)) pa_nil))))))
        (fun a oe cls d pn hz hf => pss_one (ps_set (i := 1) scTo.nd rfl (Or.inl rfl) (by exact (pv 3)))))
    (pss_cons (ps_if (pt_cmpR op_isN (pv 1) pe_non (nomark _)) (pss_one (ps_ret (pe_ifExp (pt_cmpR op_eq (pe_callTy (call_strO GS hr5 fs is_) (by rfl) Pa.zs (by decide +kernel) (pa_cons (pv 2) pa_nil)) (pe_join pe_str (pv 0)) (nomark _)) pe_non pe_str))) pss_nil)
    (pss_one (ps_ret (pe_xk (pv 1)))))), ?_⟩
  have e1 : (("\n" : Str)).length = 1 := by decide +kernel
  have hj : (rows.map (·.length)).sum + rows.length * (("\n" : Str)).length ≤ 16777216 := by
    have := ho.all
    have := ho.len
    rw [e1]
    omega
  have hjl : (Txt.join "\n" rows).length ≤ 16000000 := by
    have z := join_len "\n" rows
    have z2 := plus1 rows
    rw [e1] at z
    have := ho.all
    have := ho.len
    omega
  have hsp : Txt.split (Txt.join "\n" rows) "\n" = rows := TL.split_join (s := 10) (S := []) (by decide +kernel) (by decide +kernel) ho.ne ho.nl
  refine ⟨small1 (by show 2 ≤ 8; decide), fun t0 ht0 => ⟨t0, _, rfl, .of upd_same, rfl, _, _, rfl, _, _, rfl, rfl, ?_⟩⟩
  have sA := upd_new (o := HO.tup [V.non, V.non]) ht0
  have hLA := sA.seq hL
  refine ⟨rfl, ⟨_, rfl⟩, _, rfl, "\n", rl, rows, rfl, rfl, .inl hLA, hj, Txt.join "\n" rows, rfl, hjl, by rw [hsp]; exact ho.len, by rw [hsp]; exact ho.each, fun kk e d H1 s1 hd hd1 => ?_, fun st n ins outs e hh hsm y H1 s1 hy hD => ?_⟩
  · rw [hsp] at e
    refine ⟨true, Pa.ex, fun _ a ha => ⟨_, rfl, fun hn => ?_⟩, fun q => Bool.noConfusion q⟩
    have had : d ≠ a := ne_of_none hd1 ha
    have hd2 : (upd H1 a (XO (.ref CI) (some d) a)) d = some (.xd [("row", .int (kk : Nat))]) := by rw [upd_ne had]; exact hd1
    refine ⟨_, rfl, rfl, _, rfl, iteF ?_⟩
    refine ⟨_, rfl, a, CI, d, _, .int (kk : Nat), rfl, upd_same, hd2, Pa.xf, Pa.row, rfl, ?_⟩
    have et : toldV (toldN rows) = .int (kk : Nat) := by unfold toldN; rw [e]; rfl
    rw [← et]
    exact k _ (sA.trans (s1.trans (upd_new ha)))
  · rw [hsp] at e
    refine ⟨_, rfl, rfl, _, rfl, iteT ?_⟩
    obtain ⟨dx, i, o, pa, wa, as, bs, h1, hrest⟩ := id hD
    refine ⟨_, rfl, y, dx, _, rfl, h1, y, n, ins, outs, _, _, rfl, hD, hsm, fun H2 s2 => ⟨_, rfl, ?_⟩⟩
    have s12 := sA.trans (s1.trans s2)
    refine ⟨⟨_, rfl⟩, _, rfl, "\n", rl, rows, rfl, rfl, .inl (s12.seq hL), hj, rfl, _, rfl, ?_⟩
    have et : toldN rows = if Txt.join "\n" (rowsT n ins outs st.parts (wiresOf st.parts outs st.wires)) = Txt.join "\n" rows then some none else none := by
      unfold toldN
      rw [e]
      dsimp only
      rw [hh]
    by_cases hq : Txt.join "\n" (rowsT n ins outs st.parts (wiresOf st.parts outs st.wires)) = Txt.join "\n" rows
    · rw [decide_eq_true (congrArg V.str hq)]
      rw [if_pos hq] at et
      rw [et] at k
      exact iteT (k _ s12)
    · rw [decide_eq_false (fun z => hq (V.str.inj z))]
      rw [if_neg hq] at et
      rw [et] at k
      exact iteF (k _ s12)
end
end K8
namespace K8
open PySem L2 Own StX ClX NdefX
theorem cat_le {a b : Str} {n m : Nat} (h : a.length ≤ n) (k : b.length ≤ m) : (a ++ b).length ≤ n + m := by rw [sl]; exact Nat.add_le_add h k
theorem add_le {a b : Str} {n m : Nat} (h : a.length ≤ n) (k : b.length ≤ m) (hs : n + m ≤ 100000) : a.length + b.length ≤ sizeLine := by rw [sizeLine_eq]; omega
theorem small99 {n : Nat} (h : n ≤ 99) : n ≤ sizeLine := by rw [sizeLine_eq]; omega
theorem small9999 {n : Nat} (h : n ≤ 9999) : n ≤ sizeLine := by rw [sizeLine_eq]; omega
theorem tk_le {α : Type} (i : Nat) (l : List α) : (l.take i).length ≤ l.length := List.length_take_le' _ _
theorem w9_len : words9.length = 9 := rfl
def words4 : List Str := ["block", "part", "end", "self"]
theorem w4_len : words4.length = 4 := rfl
theorem w9_le {x : Str} (h : x ∈ words9) : x.length ≤ 200 := by
  have z : ∀ y ∈ words9, y.length ≤ 200 := by decide +kernel
  exact z x h
theorem w4_le {x : Str} (h : x ∈ words4) : x.length ≤ 200 := by
  have z : ∀ y ∈ words4, y.length ≤ 200 := by decide +kernel
  exact z x h

theorem up_le {x : Str} (h : x.length ≤ 200) : (Txt.upper x).length ≤ 600 := by
  have := PyProof.Rows.len_upper x
  omega
theorem flat_le {c : Nat} {f : Str → List Str} : ∀ {l : List Str}, (∀ x ∈ l, (f x).length ≤ c) → (l.flatMap f).length ≤ l.length * c
  | [], _ => Nat.zero_le _
  | a :: r, h => by
    have := flat_le (l := r) fun x hx => h x (List.mem_cons_of_mem _ hx)
    have := h a List.mem_cons_self
    rw [List.flatMap_cons, List.length_append, List.length_cons, Nat.succ_mul]
    omega

def goodHeads (name : Str) : List Str := ([((("block y(" : Str) ++ (Txt.join " " (signsOf "abcdefgh"))) ++ (";)" : Str)), ((("block y(; " : Str) ++ (Txt.join " " (signsOf "abcdefgh"))) ++ (")" : Str)), ("block abcdefgh(;)" : Str), ("block y(abcdefgh;)" : Str)] : List Str) ++ ([((((("block y(" : Str) ++ (Txt.join " " (signsOf "abcdefgh"))) ++ ("; " : Str)) ++ (Txt.join " " (signsOf "ijklmnop"))) ++ (")" : Str))] : List Str) ++ (words9.flatMap fun word => ([((((("block y(" : Str) ++ word) ++ ("; " : Str)) ++ word) ++ ("x)" : Str))] : List Str)) ++ ([((("block " : Str) ++ name) ++ ("(in; out)" : Str)), ("block y(;)" : Str), ("block y(a; b c)" : Str)] : List Str)
abbrev sGh : Stmt := top 32
abbrev nGh : List Str := ["name", "eight", "found", "word"]
def spGh : Sp := fun vs H Q _ => ∃ (name : Str), vs = [.str name] ∧ name.length ≤ 200 ∧ ∀ L H', Same H H' → H' L = some (.lst ((goodHeads name).map V.str)) → Q (.ref L) H'
section
variable {P : Program} {w : World} {K : PySem.W.Frag} {mg : Str → Option Value} {base : Heap}
theorem scGh : FnScope nGh ["name"] (defScope sGh) := ⟨rfl, rfl, rfl, by decide +kernel, rfl, by decide +kernel, by decide +kernel⟩
theorem ok_Gh {f : Addr} {fd : FuncData} (F : Fun K "_law_good_heads" "_law_good_heads" sGh f fd) : FnOk P w K mg base CX0 1 f fd ["name"] spGh := by
  refine F.ok scGh (fun vs H Q E h => ?_) (fun cdv A outer s H vs Q E hr h => ?_)
  · obtain ⟨name, rfl, _⟩ := h
    rfl
  obtain ⟨name, rfl, hn, k⟩ := h
  have hup := up_le hn
  have hupc : name.length ≤ 5592405 := Nat.le_trans hn (by decide)
  refine ⟨_, (pss_join (ps_set (i := 1) scGh.nd rfl (.inl rfl) (pe_joinS hr.hd pe_str pe_str))
    (pss_join (ps_set (i := 2) scGh.nd rfl (.inl rfl) (pe_lst (pa_cons (pe_op op_add_str (pe_op op_add_str pe_str (pv 1)) pe_str) (pa_cons (pe_op op_add_str (pe_op op_add_str pe_str (pv 1)) pe_str) (pa_cons pe_str (pa_cons pe_str pa_nil))))))
    (pss_join (ps_expr (pe_bm PySem.F.plainAttrs_list PySem.F.slot_list_append PySem.F.type_list_append mt_append (pv 2) (pa_cons (pe_op op_add_str (pe_op op_add_str (pe_op op_add_str (pe_op op_add_str pe_str (pv 1)) pe_str) (pe_joinS hr.hd pe_str pe_str)) pe_str) pa_nil)))
    (pss_join (ps_for PassesOwn.never rfl (pi_tup (pe_tup (pa_cons pe_str (pa_cons pe_str (pa_cons pe_str (pa_cons pe_str (pa_cons pe_str (pa_cons pe_str (pa_cons pe_str (pa_cons pe_str (pa_cons pe_str pa_nil))))))))))) (pg_name (i := 3) scGh.nd rfl (.inl rfl)) (pss_one (ps_expr (pe_bm PySem.F.plainAttrs_list PySem.F.slot_list_append PySem.F.type_list_append mt_append (pv 2) (pa_cons (pe_op op_add_str (pe_op op_add_str (pe_op op_add_str (pe_op op_add_str pe_str (pv 3)) pe_str) (pv 3)) pe_str) pa_nil)))))
    (pss_one (ps_ret (pe_op op_cat (pv 2) (pe_lst (pa_cons (pe_op op_add_str (pe_op op_add_str pe_str (pv 0)) pe_str) (pa_cons pe_str (pa_cons pe_str pa_nil))))))))))), ?_⟩
  refine ⟨fun σ' H' => ∃ (u : Option V), σ' = [some (.str name), some (.str (Txt.join " " (signsOf "abcdefgh"))), none, u] ∧ Same H H', ⟨⟨_, rfl⟩, " ", "abcdefgh", rfl, rfl, by decide +kernel, by decide +kernel, none, rfl, Same.refl H⟩, ?_⟩
  rintro σ H1 ⟨u, rfl, s1⟩
  refine ⟨fun σ' H' => ∃ (p_found : Addr) (u : Option V), σ' = [some (.str name), some (.str (Txt.join " " (signsOf "abcdefgh"))), some (.ref p_found), u] ∧ Same H H' ∧ H p_found = none ∧ H' p_found = some (.lst ((([((("block y(" : Str) ++ (Txt.join " " (signsOf "abcdefgh"))) ++ (";)" : Str)), ((("block y(; " : Str) ++ (Txt.join " " (signsOf "abcdefgh"))) ++ (")" : Str)), ("block abcdefgh(;)" : Str), ("block y(abcdefgh;)" : Str)] : List Str)).map V.str)), ⟨_, rfl, _, _, rfl, rfl, by decide +kernel, _, _, rfl, rfl, by decide +kernel, _, rfl, _, _, rfl, rfl, by decide +kernel, _, _, rfl, rfl, by decide +kernel, small99 (by show 4 ≤ 99; decide), fun p hp => ⟨p, u, rfl, s1.trans (upd_new hp), s1.free hp, upd_same⟩⟩, ?_⟩
  rintro σ H2 ⟨p_found, u, rfl, s2, f_found, h_found⟩
  refine ⟨fun σ' H' => ∃ (p_found : Addr) (u : Option V), σ' = [some (.str name), some (.str (Txt.join " " (signsOf "abcdefgh"))), some (.ref p_found), u] ∧ Same H H' ∧ H p_found = none ∧ H' p_found = some (.lst ((([((("block y(" : Str) ++ (Txt.join " " (signsOf "abcdefgh"))) ++ (";)" : Str)), ((("block y(; " : Str) ++ (Txt.join " " (signsOf "abcdefgh"))) ++ (")" : Str)), ("block abcdefgh(;)" : Str), ("block y(abcdefgh;)" : Str)] : List Str) ++ ([((((("block y(" : Str) ++ (Txt.join " " (signsOf "abcdefgh"))) ++ ("; " : Str)) ++ (Txt.join " " (signsOf "ijklmnop"))) ++ (")" : Str))] : List Str)).map V.str)), ⟨_, rfl, .inl ⟨rfl, _, .of h_found⟩, _, rfl, _, _, rfl, rfl, by decide +kernel, _, _, rfl, rfl, by decide +kernel, ⟨_, rfl⟩, " ", "ijklmnop", rfl, rfl, by decide +kernel, by decide +kernel, _, _, rfl, rfl, by decide +kernel, _, _, rfl, rfl, by decide +kernel, p_found, _, _, rfl, rfl, h_found, Nat.lt_of_le_of_lt (show _ ≤ 9999 from by have := w9_len; have := w4_len; simp only [List.length_map, List.length_append, List.length_cons, List.length_nil]; omega) (by rw [sizeLine_eq]; decide), p_found, u, rfl, same_put s2 f_found, f_found, by rw [upd_same]; simp only [List.map_append, List.map_cons, List.map_nil, List.append_assoc]⟩, ?_⟩
  rintro σ H3 ⟨p_found, u, rfl, s3, f_found, h_found⟩
  refine ⟨fun σ' H' => ∃ (p_found : Addr) (u : Option V), σ' = [some (.str name), some (.str (Txt.join " " (signsOf "abcdefgh"))), some (.ref p_found), u] ∧ Same H H' ∧ H p_found = none ∧ H' p_found = some (.lst ((([((("block y(" : Str) ++ (Txt.join " " (signsOf "abcdefgh"))) ++ (";)" : Str)), ((("block y(; " : Str) ++ (Txt.join " " (signsOf "abcdefgh"))) ++ (")" : Str)), ("block abcdefgh(;)" : Str), ("block y(abcdefgh;)" : Str)] : List Str) ++ ([((((("block y(" : Str) ++ (Txt.join " " (signsOf "abcdefgh"))) ++ ("; " : Str)) ++ (Txt.join " " (signsOf "ijklmnop"))) ++ (")" : Str))] : List Str) ++ (words9.flatMap fun word => ([((((("block y(" : Str) ++ word) ++ ("; " : Str)) ++ word) ++ ("x)" : Str))] : List Str))).map V.str)), ⟨small99 (by show 9 ≤ 99; decide), fun t ht => ⟨t, rfl, ⟨_, .of upd_same⟩, for_it (walk_tup (xs := words9.map V.str)) (fun i σ' H' => ∃ (p_found : Addr) (u : Option V), σ' = [some (.str name), some (.str (Txt.join " " (signsOf "abcdefgh"))), some (.ref p_found), u] ∧ Same H H' ∧ H p_found = none ∧ H' p_found = some (.lst ((([((("block y(" : Str) ++ (Txt.join " " (signsOf "abcdefgh"))) ++ (";)" : Str)), ((("block y(; " : Str) ++ (Txt.join " " (signsOf "abcdefgh"))) ++ (")" : Str)), ("block abcdefgh(;)" : Str), ("block y(abcdefgh;)" : Str)] : List Str) ++ ([((((("block y(" : Str) ++ (Txt.join " " (signsOf "abcdefgh"))) ++ ("; " : Str)) ++ (Txt.join " " (signsOf "ijklmnop"))) ++ (")" : Str))] : List Str) ++ ((words9.take i).flatMap fun word => ([((((("block y(" : Str) ++ word) ++ ("; " : Str)) ++ word) ++ ("x)" : Str))] : List Str))).map V.str)) ∧ H' t = some (.tup (words9.map V.str))) ⟨p_found, u, rfl, s3.trans (upd_new ht), f_found, by rw [List.take_zero, List.flatMap_nil, List.append_nil]; exact (upd_ne (ne_of_none h_found ht)).trans h_found, upd_same⟩ (fun i σ H' _ q => ?g4) ?t4 ?d4⟩⟩, ?_⟩
  case g4 =>
    obtain ⟨_, _, _, _, _, _, z⟩ := q
    exact .of z
  case d4 =>
    rintro σ H' ⟨p_found, u, rfl, s, f_found, h_found, _⟩
    rw [List.length_map, List.take_length] at h_found
    exact ⟨p_found, u, rfl, s, f_found, h_found⟩
  case t4 =>
    rintro i x σ Ha Hb hi ⟨p_found, u, rfl, sa, f_found, h_found, hta⟩ ⟨rfl, hx⟩
    rw [List.getElem?_map] at hx
    obtain ⟨word, hwd, rfl⟩ := Option.map_eq_some_iff.mp hx
    have hwl := w9_le (List.mem_of_getElem? hwd)
    have hlen : ((([((("block y(" : Str) ++ (Txt.join " " (signsOf "abcdefgh"))) ++ (";)" : Str)), ((("block y(; " : Str) ++ (Txt.join " " (signsOf "abcdefgh"))) ++ (")" : Str)), ("block abcdefgh(;)" : Str), ("block y(abcdefgh;)" : Str)] : List Str) ++ ([((((("block y(" : Str) ++ (Txt.join " " (signsOf "abcdefgh"))) ++ ("; " : Str)) ++ (Txt.join " " (signsOf "ijklmnop"))) ++ (")" : Str))] : List Str) ++ ((words9.take i).flatMap fun word => ([((((("block y(" : Str) ++ word) ++ ("; " : Str)) ++ word) ++ ("x)" : Str))] : List Str))).map V.str).length < sizeLine := Nat.lt_of_le_of_lt (show _ ≤ 9999 from by have := (List.getElem?_eq_some_iff.mp hwd).1; have q := flat_le (l := words9.take i) (f := fun word => ([((((("block y(" : Str) ++ word) ++ ("; " : Str)) ++ word) ++ ("x)" : Str))] : List Str)) (c := 9) (fun _ _ => Nat.le_of_ble_eq_true rfl); have q2 : (words9.take i).length ≤ 9 := tk_le _ _; simp only [List.length_map, List.length_append, List.length_cons, List.length_nil]; omega) (by rw [sizeLine_eq]; decide)
    exact ⟨_, rfl, .inl ⟨rfl, _, .of h_found⟩, _, rfl, _, _, rfl, rfl, add_le (by decide +kernel : _ ≤ 200) hwl (by decide), _, _, rfl, rfl, add_le (cat_le (by decide +kernel : _ ≤ 200) hwl) (by decide +kernel : _ ≤ 200) (by decide), _, rfl, _, _, rfl, rfl, add_le (cat_le (cat_le (by decide +kernel : _ ≤ 200) hwl) (by decide +kernel : _ ≤ 200)) hwl (by decide), _, _, rfl, rfl, add_le (cat_le (cat_le (cat_le (by decide +kernel : _ ≤ 200) hwl) (by decide +kernel : _ ≤ 200)) hwl) (by decide +kernel : _ ≤ 200) (by decide), p_found, _, _, rfl, rfl, h_found, hlen, p_found, _, rfl, same_put sa f_found, f_found, by rw [upd_same, tk1 hwd]; simp only [List.map_append, List.flatMap_append, List.flatMap_cons, List.flatMap_nil, List.append_nil, List.map_cons, List.map_nil, List.append_assoc], (upd_ne (fun z => by rw [z, h_found] at hta; cases hta)).trans hta⟩
  rintro σ H4 ⟨p_found, u, rfl, s4, f_found, h_found⟩
  exact ⟨_, rfl, _, rfl, _, _, rfl, rfl, add_le (by decide +kernel : _ ≤ 200) hn (by decide), _, _, rfl, rfl, add_le (cat_le (by decide +kernel : _ ≤ 200) hn) (by decide +kernel : _ ≤ 200) (by decide), small99 (by show 3 ≤ 99; decide), fun q hq => ⟨p_found, q, _, _, rfl, rfl, (upd_ne (ne_of_none h_found hq)).trans h_found, upd_same, small9999 (by have := flat_le (l := words9) (f := fun word => ([((((("block y(" : Str) ++ word) ++ ("; " : Str)) ++ word) ++ ("x)" : Str))] : List Str)) (c := 9) (fun _ _ => Nat.le_of_ble_eq_true rfl); have := w9_len; have := w4_len; simp only [List.length_map, List.length_append, List.length_cons, List.length_nil]; omega), fun r hr => k r _ (s4.trans ((upd_new hq).trans (upd_new hr))) (by rw [upd_same]; unfold goodHeads; simp only [List.map_append, List.map_cons, List.map_nil, List.append_assoc])⟩⟩
end
def wrongHeads (name : Str) : List Str := ([((("block y(" : Str) ++ (Txt.join " " (signsOf "abcdefghi"))) ++ (";)" : Str)), ((("block y(; " : Str) ++ (Txt.join " " (signsOf "abcdefghi"))) ++ (")" : Str)), ("block abcdefghi(;)" : Str), ("block y(abcdefghi;)" : Str)] : List Str) ++ (words4.flatMap fun word => ([((("block " : Str) ++ word) ++ ("(;)" : Str)), ((("block y(" : Str) ++ word) ++ (";)" : Str)), ((("block y(; " : Str) ++ word) ++ (")" : Str))] : List Str)) ++ (words9.flatMap fun word => ([((("block " : Str) ++ word) ++ ("(;)" : Str)), ((("block " : Str) ++ word) ++ ("(a; b)" : Str))] : List Str)) ++ ([("block y(a a;)" : Str), ("block y(a; a)" : Str), ("block y(; a a)" : Str), ("block y(;) " : Str), (" block y(;)" : Str)] : List Str) ++ ([("block y (;)" : Str), ("block y(; )" : Str), ("block y( ;)" : Str), ("block y(;  a)" : Str), ("block y(a ;)" : Str), ("block y()" : Str)] : List Str) ++ ([("block y" : Str), ("block (;)" : Str), ("block y(a b;;)" : Str), ("block y(a;b)" : Str), ("Block y(;)" : Str), ("block y(a1;)" : Str)] : List Str) ++ ([("block y((;)" : Str), ((("block " : Str) ++ (Txt.upper name)) ++ ("(;)" : Str)), ("" : Str), ("end" : Str), ("block  y(;)" : Str)] : List Str)
abbrev sWh : Stmt := top 33
abbrev nWh : List Str := ["name", "nine", "found", "word"]
def spWh : Sp := fun vs H Q _ => ∃ (name : Str), vs = [.str name] ∧ name.length ≤ 200 ∧ ∀ L H', Same H H' → H' L = some (.lst ((wrongHeads name).map V.str)) → Q (.ref L) H'
section
variable {P : Program} {w : World} {K : PySem.W.Frag} {mg : Str → Option Value} {base : Heap}
theorem scWh : FnScope nWh ["name"] (defScope sWh) := ⟨rfl, rfl, rfl, by decide +kernel, rfl, by decide +kernel, by decide +kernel⟩
theorem ok_Wh {f : Addr} {fd : FuncData} (F : Fun K "_law_wrong_heads" "_law_wrong_heads" sWh f fd) : FnOk P w K mg base CX0 1 f fd ["name"] spWh := by
  refine F.ok scWh (fun vs H Q E h => ?_) (fun cdv A outer s H vs Q E hr h => ?_)
  · obtain ⟨name, rfl, _⟩ := h
    rfl
  obtain ⟨name, rfl, hn, k⟩ := h
  have hup := up_le hn
  have hupc : name.length ≤ 5592405 := Nat.le_trans hn (by decide)
  refine ⟨_, (pss_join (ps_set (i := 1) scWh.nd rfl (.inl rfl) (pe_joinS hr.hd pe_str pe_str))
    (pss_join (ps_set (i := 2) scWh.nd rfl (.inl rfl) (pe_lst (pa_cons (pe_op op_add_str (pe_op op_add_str pe_str (pv 1)) pe_str) (pa_cons (pe_op op_add_str (pe_op op_add_str pe_str (pv 1)) pe_str) (pa_cons pe_str (pa_cons pe_str pa_nil))))))
    (pss_join (ps_for PassesOwn.never rfl (pi_tup (pe_tup (pa_cons pe_str (pa_cons pe_str (pa_cons pe_str (pa_cons pe_str pa_nil)))))) (pg_name (i := 3) scWh.nd rfl (.inl rfl)) (pss_one (ps_set (i := 2) scWh.nd rfl (.inl rfl) (pe_op op_cat (pv 2) (pe_lst (pa_cons (pe_op op_add_str (pe_op op_add_str pe_str (pv 3)) pe_str) (pa_cons (pe_op op_add_str (pe_op op_add_str pe_str (pv 3)) pe_str) (pa_cons (pe_op op_add_str (pe_op op_add_str pe_str (pv 3)) pe_str) pa_nil))))))))
    (pss_join (ps_for PassesOwn.never rfl (pi_tup (pe_tup (pa_cons pe_str (pa_cons pe_str (pa_cons pe_str (pa_cons pe_str (pa_cons pe_str (pa_cons pe_str (pa_cons pe_str (pa_cons pe_str (pa_cons pe_str pa_nil))))))))))) (pg_name (i := 3) scWh.nd rfl (.inl rfl)) (pss_one (ps_set (i := 2) scWh.nd rfl (.inl rfl) (pe_op op_cat (pv 2) (pe_lst (pa_cons (pe_op op_add_str (pe_op op_add_str pe_str (pv 3)) pe_str) (pa_cons (pe_op op_add_str (pe_op op_add_str pe_str (pv 3)) pe_str) pa_nil)))))))
    (pss_join (ps_set (i := 2) scWh.nd rfl (.inl rfl) (pe_op op_cat (pv 2) (pe_lst (pa_cons pe_str (pa_cons pe_str (pa_cons pe_str (pa_cons pe_str (pa_cons pe_str pa_nil))))))))
    (pss_join (ps_set (i := 2) scWh.nd rfl (.inl rfl) (pe_op op_cat (pv 2) (pe_lst (pa_cons pe_str (pa_cons pe_str (pa_cons pe_str (pa_cons pe_str (pa_cons pe_str (pa_cons pe_str pa_nil)))))))))
    (pss_join (ps_set (i := 2) scWh.nd rfl (.inl rfl) (pe_op op_cat (pv 2) (pe_lst (pa_cons pe_str (pa_cons pe_str (pa_cons pe_str (pa_cons pe_str (pa_cons pe_str (pa_cons pe_str pa_nil)))))))))
    (pss_one (ps_ret (pe_op op_cat (pv 2) (pe_lst (pa_cons pe_str (pa_cons (pe_op op_add_str (pe_op op_add_str pe_str (pe_upper (pv 0))) pe_str) (pa_cons pe_str (pa_cons pe_str (pa_cons pe_str pa_nil)))))))))))))))), ?_⟩
  refine ⟨fun σ' H' => ∃ (u : Option V), σ' = [some (.str name), some (.str (Txt.join " " (signsOf "abcdefghi"))), none, u] ∧ Same H H', ⟨⟨_, rfl⟩, " ", "abcdefghi", rfl, rfl, by decide +kernel, by decide +kernel, none, rfl, Same.refl H⟩, ?_⟩
  rintro σ H1 ⟨u, rfl, s1⟩
  refine ⟨fun σ' H' => ∃ (p_found : Addr) (u : Option V), σ' = [some (.str name), some (.str (Txt.join " " (signsOf "abcdefghi"))), some (.ref p_found), u] ∧ Same H H' ∧ H p_found = none ∧ H' p_found = some (.lst ((([((("block y(" : Str) ++ (Txt.join " " (signsOf "abcdefghi"))) ++ (";)" : Str)), ((("block y(; " : Str) ++ (Txt.join " " (signsOf "abcdefghi"))) ++ (")" : Str)), ("block abcdefghi(;)" : Str), ("block y(abcdefghi;)" : Str)] : List Str)).map V.str)), ⟨_, rfl, _, _, rfl, rfl, by decide +kernel, _, _, rfl, rfl, by decide +kernel, _, rfl, _, _, rfl, rfl, by decide +kernel, _, _, rfl, rfl, by decide +kernel, small99 (by show 4 ≤ 99; decide), fun p hp => ⟨p, u, rfl, s1.trans (upd_new hp), s1.free hp, upd_same⟩⟩, ?_⟩
  rintro σ H2 ⟨p_found, u, rfl, s2, f_found, h_found⟩
  refine ⟨fun σ' H' => ∃ (p_found : Addr) (u : Option V), σ' = [some (.str name), some (.str (Txt.join " " (signsOf "abcdefghi"))), some (.ref p_found), u] ∧ Same H H' ∧ H p_found = none ∧ H' p_found = some (.lst ((([((("block y(" : Str) ++ (Txt.join " " (signsOf "abcdefghi"))) ++ (";)" : Str)), ((("block y(; " : Str) ++ (Txt.join " " (signsOf "abcdefghi"))) ++ (")" : Str)), ("block abcdefghi(;)" : Str), ("block y(abcdefghi;)" : Str)] : List Str) ++ (words4.flatMap fun word => ([((("block " : Str) ++ word) ++ ("(;)" : Str)), ((("block y(" : Str) ++ word) ++ (";)" : Str)), ((("block y(; " : Str) ++ word) ++ (")" : Str))] : List Str))).map V.str)), ⟨small99 (by show 4 ≤ 99; decide), fun t ht => ⟨t, rfl, ⟨_, .of upd_same⟩, for_it (walk_tup (xs := words4.map V.str)) (fun i σ' H' => ∃ (p_found : Addr) (u : Option V), σ' = [some (.str name), some (.str (Txt.join " " (signsOf "abcdefghi"))), some (.ref p_found), u] ∧ Same H H' ∧ H p_found = none ∧ H' p_found = some (.lst ((([((("block y(" : Str) ++ (Txt.join " " (signsOf "abcdefghi"))) ++ (";)" : Str)), ((("block y(; " : Str) ++ (Txt.join " " (signsOf "abcdefghi"))) ++ (")" : Str)), ("block abcdefghi(;)" : Str), ("block y(abcdefghi;)" : Str)] : List Str) ++ ((words4.take i).flatMap fun word => ([((("block " : Str) ++ word) ++ ("(;)" : Str)), ((("block y(" : Str) ++ word) ++ (";)" : Str)), ((("block y(; " : Str) ++ word) ++ (")" : Str))] : List Str))).map V.str)) ∧ H' t = some (.tup (words4.map V.str))) ⟨p_found, u, rfl, s2.trans (upd_new ht), f_found, by rw [List.take_zero, List.flatMap_nil, List.append_nil]; exact (upd_ne (ne_of_none h_found ht)).trans h_found, upd_same⟩ (fun i σ H' _ q => ?g3) ?t3 ?d3⟩⟩, ?_⟩
  case g3 =>
    obtain ⟨_, _, _, _, _, _, z⟩ := q
    exact .of z
  case d3 =>
    rintro σ H' ⟨p_found, u, rfl, s, f_found, h_found, _⟩
    rw [List.length_map, List.take_length] at h_found
    exact ⟨p_found, u, rfl, s, f_found, h_found⟩
  case t3 =>
    rintro i x σ Ha Hb hi ⟨p_found, u, rfl, sa, f_found, h_found, hta⟩ ⟨rfl, hx⟩
    rw [List.getElem?_map] at hx
    obtain ⟨word, hwd, rfl⟩ := Option.map_eq_some_iff.mp hx
    have hwl := w4_le (List.mem_of_getElem? hwd)
    have hlen0 : ((([((("block y(" : Str) ++ (Txt.join " " (signsOf "abcdefghi"))) ++ (";)" : Str)), ((("block y(; " : Str) ++ (Txt.join " " (signsOf "abcdefghi"))) ++ (")" : Str)), ("block abcdefghi(;)" : Str), ("block y(abcdefghi;)" : Str)] : List Str) ++ ((words4.take i).flatMap fun word => ([((("block " : Str) ++ word) ++ ("(;)" : Str)), ((("block y(" : Str) ++ word) ++ (";)" : Str)), ((("block y(; " : Str) ++ word) ++ (")" : Str))] : List Str))).map V.str).length + 3 ≤ sizeLine := small9999 (by have := flat_le (l := words4) (f := fun word => ([((("block " : Str) ++ word) ++ ("(;)" : Str)), ((("block y(" : Str) ++ word) ++ (";)" : Str)), ((("block y(; " : Str) ++ word) ++ (")" : Str))] : List Str)) (c := 9) (fun _ _ => Nat.le_of_ble_eq_true rfl); have := w9_len; have := w4_len; have := (List.getElem?_eq_some_iff.mp hwd).1; have q := flat_le (l := words4.take i) (f := fun word => ([((("block " : Str) ++ word) ++ ("(;)" : Str)), ((("block y(" : Str) ++ word) ++ (";)" : Str)), ((("block y(; " : Str) ++ word) ++ (")" : Str))] : List Str)) (c := 9) (fun _ _ => Nat.le_of_ble_eq_true rfl); have q2 : (words4.take i).length ≤ 4 := tk_le _ _; simp only [List.length_map, List.length_append, List.length_cons, List.length_nil]; omega)
    refine ⟨_, rfl, _, rfl, _, _, rfl, rfl, add_le (by decide +kernel : _ ≤ 200) hwl (by decide), _, _, rfl, rfl, add_le (cat_le (by decide +kernel : _ ≤ 200) hwl) (by decide +kernel : _ ≤ 200) (by decide), _, rfl, _, _, rfl, rfl, add_le (by decide +kernel : _ ≤ 200) hwl (by decide), _, _, rfl, rfl, add_le (cat_le (by decide +kernel : _ ≤ 200) hwl) (by decide +kernel : _ ≤ 200) (by decide), _, rfl, _, _, rfl, rfl, add_le (by decide +kernel : _ ≤ 200) hwl (by decide), _, _, rfl, rfl, add_le (cat_le (by decide +kernel : _ ≤ 200) hwl) (by decide +kernel : _ ≤ 200) (by decide), small99 (by show 3 ≤ 99; decide), fun q hq => ⟨p_found, q, _, _, rfl, rfl, (upd_ne (ne_of_none h_found hq)).trans h_found, upd_same, hlen0, fun r hr => ⟨r, _, rfl, sa.trans ((upd_new hq).trans (upd_new hr)), sa.free ((upd_new hq).free hr), by rw [upd_same, tk1 hwd]; simp only [List.map_append, List.flatMap_append, List.flatMap_cons, List.flatMap_nil, List.append_nil, List.map_cons, List.map_nil, List.append_assoc], ((upd_new hq).trans (upd_new hr)) _ _ hta⟩⟩⟩
  rintro σ H3 ⟨p_found, u, rfl, s3, f_found, h_found⟩
  refine ⟨fun σ' H' => ∃ (p_found : Addr) (u : Option V), σ' = [some (.str name), some (.str (Txt.join " " (signsOf "abcdefghi"))), some (.ref p_found), u] ∧ Same H H' ∧ H p_found = none ∧ H' p_found = some (.lst ((([((("block y(" : Str) ++ (Txt.join " " (signsOf "abcdefghi"))) ++ (";)" : Str)), ((("block y(; " : Str) ++ (Txt.join " " (signsOf "abcdefghi"))) ++ (")" : Str)), ("block abcdefghi(;)" : Str), ("block y(abcdefghi;)" : Str)] : List Str) ++ (words4.flatMap fun word => ([((("block " : Str) ++ word) ++ ("(;)" : Str)), ((("block y(" : Str) ++ word) ++ (";)" : Str)), ((("block y(; " : Str) ++ word) ++ (")" : Str))] : List Str)) ++ (words9.flatMap fun word => ([((("block " : Str) ++ word) ++ ("(;)" : Str)), ((("block " : Str) ++ word) ++ ("(a; b)" : Str))] : List Str))).map V.str)), ⟨small99 (by show 9 ≤ 99; decide), fun t ht => ⟨t, rfl, ⟨_, .of upd_same⟩, for_it (walk_tup (xs := words9.map V.str)) (fun i σ' H' => ∃ (p_found : Addr) (u : Option V), σ' = [some (.str name), some (.str (Txt.join " " (signsOf "abcdefghi"))), some (.ref p_found), u] ∧ Same H H' ∧ H p_found = none ∧ H' p_found = some (.lst ((([((("block y(" : Str) ++ (Txt.join " " (signsOf "abcdefghi"))) ++ (";)" : Str)), ((("block y(; " : Str) ++ (Txt.join " " (signsOf "abcdefghi"))) ++ (")" : Str)), ("block abcdefghi(;)" : Str), ("block y(abcdefghi;)" : Str)] : List Str) ++ (words4.flatMap fun word => ([((("block " : Str) ++ word) ++ ("(;)" : Str)), ((("block y(" : Str) ++ word) ++ (";)" : Str)), ((("block y(; " : Str) ++ word) ++ (")" : Str))] : List Str)) ++ ((words9.take i).flatMap fun word => ([((("block " : Str) ++ word) ++ ("(;)" : Str)), ((("block " : Str) ++ word) ++ ("(a; b)" : Str))] : List Str))).map V.str)) ∧ H' t = some (.tup (words9.map V.str))) ⟨p_found, u, rfl, s3.trans (upd_new ht), f_found, by rw [List.take_zero, List.flatMap_nil, List.append_nil]; exact (upd_ne (ne_of_none h_found ht)).trans h_found, upd_same⟩ (fun i σ H' _ q => ?g4) ?t4 ?d4⟩⟩, ?_⟩
  case g4 =>
    obtain ⟨_, _, _, _, _, _, z⟩ := q
    exact .of z
  case d4 =>
    rintro σ H' ⟨p_found, u, rfl, s, f_found, h_found, _⟩
    rw [List.length_map, List.take_length] at h_found
    exact ⟨p_found, u, rfl, s, f_found, h_found⟩
  case t4 =>
    rintro i x σ Ha Hb hi ⟨p_found, u, rfl, sa, f_found, h_found, hta⟩ ⟨rfl, hx⟩
    rw [List.getElem?_map] at hx
    obtain ⟨word, hwd, rfl⟩ := Option.map_eq_some_iff.mp hx
    have hwl := w9_le (List.mem_of_getElem? hwd)
    have hlen0 : ((([((("block y(" : Str) ++ (Txt.join " " (signsOf "abcdefghi"))) ++ (";)" : Str)), ((("block y(; " : Str) ++ (Txt.join " " (signsOf "abcdefghi"))) ++ (")" : Str)), ("block abcdefghi(;)" : Str), ("block y(abcdefghi;)" : Str)] : List Str) ++ (words4.flatMap fun word => ([((("block " : Str) ++ word) ++ ("(;)" : Str)), ((("block y(" : Str) ++ word) ++ (";)" : Str)), ((("block y(; " : Str) ++ word) ++ (")" : Str))] : List Str)) ++ ((words9.take i).flatMap fun word => ([((("block " : Str) ++ word) ++ ("(;)" : Str)), ((("block " : Str) ++ word) ++ ("(a; b)" : Str))] : List Str))).map V.str).length + 2 ≤ sizeLine := small9999 (by have := flat_le (l := words4) (f := fun word => ([((("block " : Str) ++ word) ++ ("(;)" : Str)), ((("block y(" : Str) ++ word) ++ (";)" : Str)), ((("block y(; " : Str) ++ word) ++ (")" : Str))] : List Str)) (c := 9) (fun _ _ => Nat.le_of_ble_eq_true rfl); have := flat_le (l := words9) (f := fun word => ([((("block " : Str) ++ word) ++ ("(;)" : Str)), ((("block " : Str) ++ word) ++ ("(a; b)" : Str))] : List Str)) (c := 9) (fun _ _ => Nat.le_of_ble_eq_true rfl); have := w9_len; have := w4_len; have := (List.getElem?_eq_some_iff.mp hwd).1; have q := flat_le (l := words9.take i) (f := fun word => ([((("block " : Str) ++ word) ++ ("(;)" : Str)), ((("block " : Str) ++ word) ++ ("(a; b)" : Str))] : List Str)) (c := 9) (fun _ _ => Nat.le_of_ble_eq_true rfl); have q2 : (words9.take i).length ≤ 9 := tk_le _ _; simp only [List.length_map, List.length_append, List.length_cons, List.length_nil]; omega)
    refine ⟨_, rfl, _, rfl, _, _, rfl, rfl, add_le (by decide +kernel : _ ≤ 200) hwl (by decide), _, _, rfl, rfl, add_le (cat_le (by decide +kernel : _ ≤ 200) hwl) (by decide +kernel : _ ≤ 200) (by decide), _, rfl, _, _, rfl, rfl, add_le (by decide +kernel : _ ≤ 200) hwl (by decide), _, _, rfl, rfl, add_le (cat_le (by decide +kernel : _ ≤ 200) hwl) (by decide +kernel : _ ≤ 200) (by decide), small99 (by show 2 ≤ 99; decide), fun q hq => ⟨p_found, q, _, _, rfl, rfl, (upd_ne (ne_of_none h_found hq)).trans h_found, upd_same, hlen0, fun r hr => ⟨r, _, rfl, sa.trans ((upd_new hq).trans (upd_new hr)), sa.free ((upd_new hq).free hr), by rw [upd_same, tk1 hwd]; simp only [List.map_append, List.flatMap_append, List.flatMap_cons, List.flatMap_nil, List.append_nil, List.map_cons, List.map_nil, List.append_assoc], ((upd_new hq).trans (upd_new hr)) _ _ hta⟩⟩⟩
  rintro σ H4 ⟨p_found, u, rfl, s4, f_found, h_found⟩
  refine ⟨fun σ' H' => ∃ (p_found : Addr) (u : Option V), σ' = [some (.str name), some (.str (Txt.join " " (signsOf "abcdefghi"))), some (.ref p_found), u] ∧ Same H H' ∧ H p_found = none ∧ H' p_found = some (.lst ((([((("block y(" : Str) ++ (Txt.join " " (signsOf "abcdefghi"))) ++ (";)" : Str)), ((("block y(; " : Str) ++ (Txt.join " " (signsOf "abcdefghi"))) ++ (")" : Str)), ("block abcdefghi(;)" : Str), ("block y(abcdefghi;)" : Str)] : List Str) ++ (words4.flatMap fun word => ([((("block " : Str) ++ word) ++ ("(;)" : Str)), ((("block y(" : Str) ++ word) ++ (";)" : Str)), ((("block y(; " : Str) ++ word) ++ (")" : Str))] : List Str)) ++ (words9.flatMap fun word => ([((("block " : Str) ++ word) ++ ("(;)" : Str)), ((("block " : Str) ++ word) ++ ("(a; b)" : Str))] : List Str)) ++ ([("block y(a a;)" : Str), ("block y(a; a)" : Str), ("block y(; a a)" : Str), ("block y(;) " : Str), (" block y(;)" : Str)] : List Str)).map V.str)), ⟨_, rfl, small99 (by show 5 ≤ 99; decide), fun q hq => ⟨p_found, q, _, _, rfl, rfl, (upd_ne (ne_of_none h_found hq)).trans h_found, upd_same, small9999 (by have := flat_le (l := words4) (f := fun word => ([((("block " : Str) ++ word) ++ ("(;)" : Str)), ((("block y(" : Str) ++ word) ++ (";)" : Str)), ((("block y(; " : Str) ++ word) ++ (")" : Str))] : List Str)) (c := 9) (fun _ _ => Nat.le_of_ble_eq_true rfl); have := flat_le (l := words9) (f := fun word => ([((("block " : Str) ++ word) ++ ("(;)" : Str)), ((("block " : Str) ++ word) ++ ("(a; b)" : Str))] : List Str)) (c := 9) (fun _ _ => Nat.le_of_ble_eq_true rfl); have := w9_len; have := w4_len; simp only [List.length_map, List.length_append, List.length_cons, List.length_nil]; omega), fun r hr => ⟨r, u, rfl, s4.trans ((upd_new hq).trans (upd_new hr)), s4.free ((upd_new hq).free hr), by rw [upd_same]; simp only [List.map_append, List.map_cons, List.map_nil, List.append_assoc]⟩⟩⟩, ?_⟩
  rintro σ H5 ⟨p_found, u, rfl, s5, f_found, h_found⟩
  refine ⟨fun σ' H' => ∃ (p_found : Addr) (u : Option V), σ' = [some (.str name), some (.str (Txt.join " " (signsOf "abcdefghi"))), some (.ref p_found), u] ∧ Same H H' ∧ H p_found = none ∧ H' p_found = some (.lst ((([((("block y(" : Str) ++ (Txt.join " " (signsOf "abcdefghi"))) ++ (";)" : Str)), ((("block y(; " : Str) ++ (Txt.join " " (signsOf "abcdefghi"))) ++ (")" : Str)), ("block abcdefghi(;)" : Str), ("block y(abcdefghi;)" : Str)] : List Str) ++ (words4.flatMap fun word => ([((("block " : Str) ++ word) ++ ("(;)" : Str)), ((("block y(" : Str) ++ word) ++ (";)" : Str)), ((("block y(; " : Str) ++ word) ++ (")" : Str))] : List Str)) ++ (words9.flatMap fun word => ([((("block " : Str) ++ word) ++ ("(;)" : Str)), ((("block " : Str) ++ word) ++ ("(a; b)" : Str))] : List Str)) ++ ([("block y(a a;)" : Str), ("block y(a; a)" : Str), ("block y(; a a)" : Str), ("block y(;) " : Str), (" block y(;)" : Str)] : List Str) ++ ([("block y (;)" : Str), ("block y(; )" : Str), ("block y( ;)" : Str), ("block y(;  a)" : Str), ("block y(a ;)" : Str), ("block y()" : Str)] : List Str)).map V.str)), ⟨_, rfl, small99 (by show 6 ≤ 99; decide), fun q hq => ⟨p_found, q, _, _, rfl, rfl, (upd_ne (ne_of_none h_found hq)).trans h_found, upd_same, small9999 (by have := flat_le (l := words4) (f := fun word => ([((("block " : Str) ++ word) ++ ("(;)" : Str)), ((("block y(" : Str) ++ word) ++ (";)" : Str)), ((("block y(; " : Str) ++ word) ++ (")" : Str))] : List Str)) (c := 9) (fun _ _ => Nat.le_of_ble_eq_true rfl); have := flat_le (l := words9) (f := fun word => ([((("block " : Str) ++ word) ++ ("(;)" : Str)), ((("block " : Str) ++ word) ++ ("(a; b)" : Str))] : List Str)) (c := 9) (fun _ _ => Nat.le_of_ble_eq_true rfl); have := w9_len; have := w4_len; simp only [List.length_map, List.length_append, List.length_cons, List.length_nil]; omega), fun r hr => ⟨r, u, rfl, s5.trans ((upd_new hq).trans (upd_new hr)), s5.free ((upd_new hq).free hr), by rw [upd_same]; simp only [List.map_append, List.map_cons, List.map_nil, List.append_assoc]⟩⟩⟩, ?_⟩
  rintro σ H6 ⟨p_found, u, rfl, s6, f_found, h_found⟩
  refine ⟨fun σ' H' => ∃ (p_found : Addr) (u : Option V), σ' = [some (.str name), some (.str (Txt.join " " (signsOf "abcdefghi"))), some (.ref p_found), u] ∧ Same H H' ∧ H p_found = none ∧ H' p_found = some (.lst ((([((("block y(" : Str) ++ (Txt.join " " (signsOf "abcdefghi"))) ++ (";)" : Str)), ((("block y(; " : Str) ++ (Txt.join " " (signsOf "abcdefghi"))) ++ (")" : Str)), ("block abcdefghi(;)" : Str), ("block y(abcdefghi;)" : Str)] : List Str) ++ (words4.flatMap fun word => ([((("block " : Str) ++ word) ++ ("(;)" : Str)), ((("block y(" : Str) ++ word) ++ (";)" : Str)), ((("block y(; " : Str) ++ word) ++ (")" : Str))] : List Str)) ++ (words9.flatMap fun word => ([((("block " : Str) ++ word) ++ ("(;)" : Str)), ((("block " : Str) ++ word) ++ ("(a; b)" : Str))] : List Str)) ++ ([("block y(a a;)" : Str), ("block y(a; a)" : Str), ("block y(; a a)" : Str), ("block y(;) " : Str), (" block y(;)" : Str)] : List Str) ++ ([("block y (;)" : Str), ("block y(; )" : Str), ("block y( ;)" : Str), ("block y(;  a)" : Str), ("block y(a ;)" : Str), ("block y()" : Str)] : List Str) ++ ([("block y" : Str), ("block (;)" : Str), ("block y(a b;;)" : Str), ("block y(a;b)" : Str), ("Block y(;)" : Str), ("block y(a1;)" : Str)] : List Str)).map V.str)), ⟨_, rfl, small99 (by show 6 ≤ 99; decide), fun q hq => ⟨p_found, q, _, _, rfl, rfl, (upd_ne (ne_of_none h_found hq)).trans h_found, upd_same, small9999 (by have := flat_le (l := words4) (f := fun word => ([((("block " : Str) ++ word) ++ ("(;)" : Str)), ((("block y(" : Str) ++ word) ++ (";)" : Str)), ((("block y(; " : Str) ++ word) ++ (")" : Str))] : List Str)) (c := 9) (fun _ _ => Nat.le_of_ble_eq_true rfl); have := flat_le (l := words9) (f := fun word => ([((("block " : Str) ++ word) ++ ("(;)" : Str)), ((("block " : Str) ++ word) ++ ("(a; b)" : Str))] : List Str)) (c := 9) (fun _ _ => Nat.le_of_ble_eq_true rfl); have := w9_len; have := w4_len; simp only [List.length_map, List.length_append, List.length_cons, List.length_nil]; omega), fun r hr => ⟨r, u, rfl, s6.trans ((upd_new hq).trans (upd_new hr)), s6.free ((upd_new hq).free hr), by rw [upd_same]; simp only [List.map_append, List.map_cons, List.map_nil, List.append_assoc]⟩⟩⟩, ?_⟩
  rintro σ H7 ⟨p_found, u, rfl, s7, f_found, h_found⟩
  exact ⟨_, rfl, _, rfl, ⟨_, rfl⟩, _, rfl, rfl, hupc, _, _, rfl, rfl, add_le (by decide +kernel : _ ≤ 200) hup (by decide), _, _, rfl, rfl, add_le (cat_le (by decide +kernel : _ ≤ 200) hup) (by decide +kernel : _ ≤ 200) (by decide), small99 (by show 5 ≤ 99; decide), fun q hq => ⟨p_found, q, _, _, rfl, rfl, (upd_ne (ne_of_none h_found hq)).trans h_found, upd_same, small9999 (by have := flat_le (l := words4) (f := fun word => ([((("block " : Str) ++ word) ++ ("(;)" : Str)), ((("block y(" : Str) ++ word) ++ (";)" : Str)), ((("block y(; " : Str) ++ word) ++ (")" : Str))] : List Str)) (c := 9) (fun _ _ => Nat.le_of_ble_eq_true rfl); have := flat_le (l := words9) (f := fun word => ([((("block " : Str) ++ word) ++ ("(;)" : Str)), ((("block " : Str) ++ word) ++ ("(a; b)" : Str))] : List Str)) (c := 9) (fun _ _ => Nat.le_of_ble_eq_true rfl); have := w9_len; have := w4_len; simp only [List.length_map, List.length_append, List.length_cons, List.length_nil]; omega), fun r hr => k r _ (s7.trans ((upd_new hq).trans (upd_new hr))) (by rw [upd_same]; unfold wrongHeads; simp only [List.map_append, List.map_cons, List.map_nil, List.append_assoc])⟩⟩
end
end K8
namespace K8
open PySem L2 Own StX ClX NdefX

def bodies_good (name : Str) : List Str := ([((("  part " : Str) ++ name) ++ (" = add|end" : Str)), ("  part p = const 4294967295|end" : Str), ("  part p = delay 0|end" : Str)] : List Str) ++ ([("  part p = abcdefgh|end" : Str), ("  part add = add|end" : Str), ("  u <- x|  v <- x|end" : Str), ("end" : Str)] : List Str) ++ ([("  part x = add|  x.a <- x|  x.b <- x.out|  u <- x|end" : Str), ("  part y = add|end" : Str)] : List Str) ++ ([("  part u = add|  part v = u|  u.a <- x|  v.u <- u.x|  u <- u.out|  v <- x|end" : Str)] : List Str) ++ ([("  part p = add|  u <- p.out|end" : Str), ("  part p = add|  p.zz <- p.zz|end" : Str), ("  v <- x|end" : Str)] : List Str) ++ (words9.flatMap fun word => ([((((("  part " : Str) ++ word) ++ (" = add|  " : Str)) ++ word) ++ (".a <- x|end" : Str)), ((("  part p = " : Str) ++ word) ++ ("x|end" : Str))] : List Str))
def bodies_first (name : Str) : List Str := ([("  part p = const 4294967296|end" : Str), ("  part p = delay 00|end" : Str), ("  part p = delay|end" : Str), ("" : Str)] : List Str) ++ ([("  part p = add 1|end" : Str), ("  part p = abcdefghi|end" : Str), ("  part p = self|end" : Str), ("  end" : Str)] : List Str) ++ ([("  part end = add|end" : Str), ("  u <- u|end" : Str), ("  x <- x|end" : Str), ("  u <- p.out|end" : Str), ("  u <- w|end" : Str)] : List Str) ++ ([("  p.a <- x|end" : Str), ("|end" : Str), ("end " : Str), ("  u <-x|end" : Str), ("  u <- x |end" : Str), ("   u <- x|end" : Str)] : List Str) ++ ([(" u <- x|end" : Str), ("  part p = const 0123456789|end" : Str), ("  part p = delay 0000000000|end" : Str)] : List Str) ++ ([("  part p=add|end" : Str), ("  part  p = add|end" : Str), ("  part p = add |end" : Str), ("  part p = add = b|end" : Str)] : List Str) ++ ([("  part p = const|end" : Str), ("  part p = sub 5|end" : Str), ("  part p = pick pick|end" : Str)] : List Str)
def bodies_second (name : Str) : List Str := ([("  part p = add|  part p = sub|end" : Str), ("  u <- x|  part p = add|end" : Str), ("  u <- x|  u <- x|end" : Str)] : List Str) ++ ([("  part p = add|  p.self <- x|end" : Str), ("  part p = add|  u <- p|end" : Str), ("end|" : Str), ("end|end" : Str)] : List Str) ++ ([("  part p = add|  u <- p.a.b|end" : Str), ("  part p = add|block c(;)|end" : Str), ("  u <- x" : Str)] : List Str)
def bodies_third (name : Str) : List Str := ([("  part p = add|  p.a <- x|  p.a <- p.a|end" : Str), ("  u <- x|  v <- x" : Str), ("  u <- x|end|  v <- x|end" : Str)] : List Str)
abbrev sBo : Stmt := top 34
abbrev nBo : List Str := ["name", "good", "first", "second", "third", "word"]
def spBo : Sp := fun vs H Q _ => ∃ (name : Str), vs = [.str name] ∧ name.length ≤ 200 ∧ ∀ (L t0 t1 t2 t3 a0 a1 a2 a3 : Addr) H', Same H H' → H' L = some (.lst [.ref t0, .ref t1, .ref t2, .ref t3]) → H' t0 = some (.tup [.non, .ref a0]) → H' t1 = some (.tup [.int 1, .ref a1]) → H' t2 = some (.tup [.int 2, .ref a2]) → H' t3 = some (.tup [.int 3, .ref a3]) → H' a0 = some (.lst ((bodies_good name).map V.str)) → H' a1 = some (.lst ((bodies_first name).map V.str)) → H' a2 = some (.lst ((bodies_second name).map V.str)) → H' a3 = some (.lst ((bodies_third name).map V.str)) → Q (.ref L) H'
section
variable {P : Program} {w : World} {K : PySem.W.Frag} {mg : Str → Option Value} {base : Heap}
theorem scBo : FnScope nBo ["name"] (defScope sBo) := ⟨rfl, rfl, rfl, by decide +kernel, rfl, by decide +kernel, by decide +kernel⟩
theorem ok_Bo {f : Addr} {fd : FuncData} (F : Fun K "_law_bodies" "_law_bodies" sBo f fd) : FnOk P w K mg base CX0 1 f fd ["name"] spBo := by
  refine F.ok scBo (fun vs H Q E h => ?_) (fun cdv A outer s H vs Q E hr h => ?_)
  · obtain ⟨name, rfl, _⟩ := h
    rfl
  obtain ⟨name, rfl, hn, k⟩ := h
  have hup := up_le hn
  have hupc : name.length ≤ 5592405 := Nat.le_trans hn (by decide)
  refine ⟨_, (pss_join (ps_set (i := 1) scBo.nd rfl (.inl rfl) (pe_lst (pa_cons (pe_op op_add_str (pe_op op_add_str pe_str (pv 0)) pe_str) (pa_cons pe_str (pa_cons pe_str pa_nil)))))
    (pss_join (ps_set (i := 1) scBo.nd rfl (.inl rfl) (pe_op op_cat (pv 1) (pe_lst (pa_cons pe_str (pa_cons pe_str (pa_cons pe_str (pa_cons pe_str pa_nil)))))))
    (pss_join (ps_set (i := 1) scBo.nd rfl (.inl rfl) (pe_op op_cat (pv 1) (pe_lst (pa_cons pe_str (pa_cons pe_str pa_nil)))))
    (pss_join (ps_set (i := 1) scBo.nd rfl (.inl rfl) (pe_op op_cat (pv 1) (pe_lst (pa_cons pe_str pa_nil))))
    (pss_join (ps_set (i := 1) scBo.nd rfl (.inl rfl) (pe_op op_cat (pv 1) (pe_lst (pa_cons pe_str (pa_cons pe_str (pa_cons pe_str pa_nil))))))
    (pss_join (ps_set (i := 2) scBo.nd rfl (.inl rfl) (pe_lst (pa_cons pe_str (pa_cons pe_str (pa_cons pe_str (pa_cons pe_str pa_nil))))))
    (pss_join (ps_set (i := 2) scBo.nd rfl (.inl rfl) (pe_op op_cat (pv 2) (pe_lst (pa_cons pe_str (pa_cons pe_str (pa_cons pe_str (pa_cons pe_str pa_nil)))))))
    (pss_join (ps_set (i := 2) scBo.nd rfl (.inl rfl) (pe_op op_cat (pv 2) (pe_lst (pa_cons pe_str (pa_cons pe_str (pa_cons pe_str (pa_cons pe_str (pa_cons pe_str pa_nil))))))))
    (pss_join (ps_set (i := 2) scBo.nd rfl (.inl rfl) (pe_op op_cat (pv 2) (pe_lst (pa_cons pe_str (pa_cons pe_str (pa_cons pe_str (pa_cons pe_str (pa_cons pe_str (pa_cons pe_str pa_nil)))))))))
    (pss_join (ps_set (i := 2) scBo.nd rfl (.inl rfl) (pe_op op_cat (pv 2) (pe_lst (pa_cons pe_str (pa_cons pe_str (pa_cons pe_str pa_nil))))))
    (pss_join (ps_set (i := 2) scBo.nd rfl (.inl rfl) (pe_op op_cat (pv 2) (pe_lst (pa_cons pe_str (pa_cons pe_str (pa_cons pe_str (pa_cons pe_str pa_nil)))))))
    (pss_join (ps_set (i := 3) scBo.nd rfl (.inl rfl) (pe_lst (pa_cons pe_str (pa_cons pe_str (pa_cons pe_str pa_nil)))))
    (pss_join (ps_set (i := 3) scBo.nd rfl (.inl rfl) (pe_op op_cat (pv 3) (pe_lst (pa_cons pe_str (pa_cons pe_str (pa_cons pe_str (pa_cons pe_str pa_nil)))))))
    (pss_join (ps_set (i := 3) scBo.nd rfl (.inl rfl) (pe_op op_cat (pv 3) (pe_lst (pa_cons pe_str (pa_cons pe_str (pa_cons pe_str pa_nil))))))
    (pss_join (ps_set (i := 4) scBo.nd rfl (.inl rfl) (pe_lst (pa_cons pe_str (pa_cons pe_str (pa_cons pe_str pa_nil)))))
    (pss_join (ps_for PassesOwn.never rfl (pi_tup (pe_tup (pa_cons pe_str (pa_cons pe_str (pa_cons pe_str (pa_cons pe_str (pa_cons pe_str (pa_cons pe_str (pa_cons pe_str (pa_cons pe_str (pa_cons pe_str pa_nil))))))))))) (pg_name (i := 5) scBo.nd rfl (.inl rfl)) (pss_one (ps_set (i := 1) scBo.nd rfl (.inl rfl) (pe_op op_cat (pv 1) (pe_lst (pa_cons (pe_op op_add_str (pe_op op_add_str (pe_op op_add_str (pe_op op_add_str pe_str (pv 5)) pe_str) (pv 5)) pe_str) (pa_cons (pe_op op_add_str (pe_op op_add_str pe_str (pv 5)) pe_str) pa_nil)))))))
    (pss_join (ps_set (i := 2) scBo.nd rfl (.inl rfl) (pe_op op_cat (pv 2) (pe_lst (pa_cons pe_str (pa_cons pe_str (pa_cons pe_str pa_nil))))))
    (pss_one (ps_ret (pe_lst (pa_cons (pe_tup (pa_cons pe_non (pa_cons (pv 1) pa_nil))) (pa_cons (pe_tup (pa_cons pe_int (pa_cons (pv 2) pa_nil))) (pa_cons (pe_tup (pa_cons pe_int (pa_cons (pv 3) pa_nil))) (pa_cons (pe_tup (pa_cons pe_int (pa_cons (pv 4) pa_nil))) pa_nil)))))))))))))))))))))))), ?_⟩
  refine ⟨fun σ' H' => ∃ (p_good : Addr) (u : Option V), σ' = [some (.str name), some (.ref p_good), none, none, none, u] ∧ Same H H' ∧ H p_good = none ∧ H' p_good = some (.lst ((([((("  part " : Str) ++ name) ++ (" = add|end" : Str)), ("  part p = const 4294967295|end" : Str), ("  part p = delay 0|end" : Str)] : List Str)).map V.str)), ⟨_, rfl, _, _, rfl, rfl, add_le (by decide +kernel : _ ≤ 200) hn (by decide), _, _, rfl, rfl, add_le (cat_le (by decide +kernel : _ ≤ 200) hn) (by decide +kernel : _ ≤ 200) (by decide), small99 (by show 3 ≤ 99; decide), fun p hp => ⟨p, none, rfl, upd_new hp, hp, upd_same⟩⟩, ?_⟩
  rintro σ H1 ⟨p_good, u, rfl, s1, f_good, h_good⟩
  refine ⟨fun σ' H' => ∃ (p_good : Addr) (u : Option V), σ' = [some (.str name), some (.ref p_good), none, none, none, u] ∧ Same H H' ∧ H p_good = none ∧ H' p_good = some (.lst ((([((("  part " : Str) ++ name) ++ (" = add|end" : Str)), ("  part p = const 4294967295|end" : Str), ("  part p = delay 0|end" : Str)] : List Str) ++ ([("  part p = abcdefgh|end" : Str), ("  part add = add|end" : Str), ("  u <- x|  v <- x|end" : Str), ("end" : Str)] : List Str)).map V.str)), ⟨_, rfl, small99 (by show 4 ≤ 99; decide), fun q hq => ⟨p_good, q, _, _, rfl, rfl, (upd_ne (ne_of_none h_good hq)).trans h_good, upd_same, small9999 (by have := w9_len; have := w4_len; simp only [List.length_map, List.length_append, List.length_cons, List.length_nil]; omega), fun r hr => ⟨r, u, rfl, s1.trans ((upd_new hq).trans (upd_new hr)), s1.free ((upd_new hq).free hr), by rw [upd_same]; simp only [List.map_append, List.map_cons, List.map_nil, List.append_assoc]⟩⟩⟩, ?_⟩
  rintro σ H2 ⟨p_good, u, rfl, s2, f_good, h_good⟩
  refine ⟨fun σ' H' => ∃ (p_good : Addr) (u : Option V), σ' = [some (.str name), some (.ref p_good), none, none, none, u] ∧ Same H H' ∧ H p_good = none ∧ H' p_good = some (.lst ((([((("  part " : Str) ++ name) ++ (" = add|end" : Str)), ("  part p = const 4294967295|end" : Str), ("  part p = delay 0|end" : Str)] : List Str) ++ ([("  part p = abcdefgh|end" : Str), ("  part add = add|end" : Str), ("  u <- x|  v <- x|end" : Str), ("end" : Str)] : List Str) ++ ([("  part x = add|  x.a <- x|  x.b <- x.out|  u <- x|end" : Str), ("  part y = add|end" : Str)] : List Str)).map V.str)), ⟨_, rfl, small99 (by show 2 ≤ 99; decide), fun q hq => ⟨p_good, q, _, _, rfl, rfl, (upd_ne (ne_of_none h_good hq)).trans h_good, upd_same, small9999 (by have := w9_len; have := w4_len; simp only [List.length_map, List.length_append, List.length_cons, List.length_nil]; omega), fun r hr => ⟨r, u, rfl, s2.trans ((upd_new hq).trans (upd_new hr)), s2.free ((upd_new hq).free hr), by rw [upd_same]; simp only [List.map_append, List.map_cons, List.map_nil, List.append_assoc]⟩⟩⟩, ?_⟩
  rintro σ H3 ⟨p_good, u, rfl, s3, f_good, h_good⟩
  refine ⟨fun σ' H' => ∃ (p_good : Addr) (u : Option V), σ' = [some (.str name), some (.ref p_good), none, none, none, u] ∧ Same H H' ∧ H p_good = none ∧ H' p_good = some (.lst ((([((("  part " : Str) ++ name) ++ (" = add|end" : Str)), ("  part p = const 4294967295|end" : Str), ("  part p = delay 0|end" : Str)] : List Str) ++ ([("  part p = abcdefgh|end" : Str), ("  part add = add|end" : Str), ("  u <- x|  v <- x|end" : Str), ("end" : Str)] : List Str) ++ ([("  part x = add|  x.a <- x|  x.b <- x.out|  u <- x|end" : Str), ("  part y = add|end" : Str)] : List Str) ++ ([("  part u = add|  part v = u|  u.a <- x|  v.u <- u.x|  u <- u.out|  v <- x|end" : Str)] : List Str)).map V.str)), ⟨_, rfl, small99 (by show 1 ≤ 99; decide), fun q hq => ⟨p_good, q, _, _, rfl, rfl, (upd_ne (ne_of_none h_good hq)).trans h_good, upd_same, small9999 (by have := w9_len; have := w4_len; simp only [List.length_map, List.length_append, List.length_cons, List.length_nil]; omega), fun r hr => ⟨r, u, rfl, s3.trans ((upd_new hq).trans (upd_new hr)), s3.free ((upd_new hq).free hr), by rw [upd_same]; simp only [List.map_append, List.map_cons, List.map_nil, List.append_assoc]⟩⟩⟩, ?_⟩
  rintro σ H4 ⟨p_good, u, rfl, s4, f_good, h_good⟩
  refine ⟨fun σ' H' => ∃ (p_good : Addr) (u : Option V), σ' = [some (.str name), some (.ref p_good), none, none, none, u] ∧ Same H H' ∧ H p_good = none ∧ H' p_good = some (.lst ((([((("  part " : Str) ++ name) ++ (" = add|end" : Str)), ("  part p = const 4294967295|end" : Str), ("  part p = delay 0|end" : Str)] : List Str) ++ ([("  part p = abcdefgh|end" : Str), ("  part add = add|end" : Str), ("  u <- x|  v <- x|end" : Str), ("end" : Str)] : List Str) ++ ([("  part x = add|  x.a <- x|  x.b <- x.out|  u <- x|end" : Str), ("  part y = add|end" : Str)] : List Str) ++ ([("  part u = add|  part v = u|  u.a <- x|  v.u <- u.x|  u <- u.out|  v <- x|end" : Str)] : List Str) ++ ([("  part p = add|  u <- p.out|end" : Str), ("  part p = add|  p.zz <- p.zz|end" : Str), ("  v <- x|end" : Str)] : List Str)).map V.str)), ⟨_, rfl, small99 (by show 3 ≤ 99; decide), fun q hq => ⟨p_good, q, _, _, rfl, rfl, (upd_ne (ne_of_none h_good hq)).trans h_good, upd_same, small9999 (by have := w9_len; have := w4_len; simp only [List.length_map, List.length_append, List.length_cons, List.length_nil]; omega), fun r hr => ⟨r, u, rfl, s4.trans ((upd_new hq).trans (upd_new hr)), s4.free ((upd_new hq).free hr), by rw [upd_same]; simp only [List.map_append, List.map_cons, List.map_nil, List.append_assoc]⟩⟩⟩, ?_⟩
  rintro σ H5 ⟨p_good, u, rfl, s5, f_good, h_good⟩
  refine ⟨fun σ' H' => ∃ (p_good : Addr) (p_first : Addr) (u : Option V), σ' = [some (.str name), some (.ref p_good), some (.ref p_first), none, none, u] ∧ Same H H' ∧ H p_good = none ∧ H' p_good = some (.lst ((([((("  part " : Str) ++ name) ++ (" = add|end" : Str)), ("  part p = const 4294967295|end" : Str), ("  part p = delay 0|end" : Str)] : List Str) ++ ([("  part p = abcdefgh|end" : Str), ("  part add = add|end" : Str), ("  u <- x|  v <- x|end" : Str), ("end" : Str)] : List Str) ++ ([("  part x = add|  x.a <- x|  x.b <- x.out|  u <- x|end" : Str), ("  part y = add|end" : Str)] : List Str) ++ ([("  part u = add|  part v = u|  u.a <- x|  v.u <- u.x|  u <- u.out|  v <- x|end" : Str)] : List Str) ++ ([("  part p = add|  u <- p.out|end" : Str), ("  part p = add|  p.zz <- p.zz|end" : Str), ("  v <- x|end" : Str)] : List Str)).map V.str)) ∧ H p_first = none ∧ H' p_first = some (.lst ((([("  part p = const 4294967296|end" : Str), ("  part p = delay 00|end" : Str), ("  part p = delay|end" : Str), ("" : Str)] : List Str)).map V.str)) ∧ p_good ≠ p_first, ⟨small99 (by show 4 ≤ 99; decide), fun p hp => ⟨p_good, p, u, rfl, s5.trans (upd_new hp), f_good, (upd_ne (ne_of_none h_good hp)).trans h_good, s5.free hp, upd_same, ne_of_none h_good hp⟩⟩, ?_⟩
  rintro σ H6 ⟨p_good, p_first, u, rfl, s6, f_good, h_good, f_first, h_first, d_good_first⟩
  refine ⟨fun σ' H' => ∃ (p_good : Addr) (p_first : Addr) (u : Option V), σ' = [some (.str name), some (.ref p_good), some (.ref p_first), none, none, u] ∧ Same H H' ∧ H p_good = none ∧ H' p_good = some (.lst ((([((("  part " : Str) ++ name) ++ (" = add|end" : Str)), ("  part p = const 4294967295|end" : Str), ("  part p = delay 0|end" : Str)] : List Str) ++ ([("  part p = abcdefgh|end" : Str), ("  part add = add|end" : Str), ("  u <- x|  v <- x|end" : Str), ("end" : Str)] : List Str) ++ ([("  part x = add|  x.a <- x|  x.b <- x.out|  u <- x|end" : Str), ("  part y = add|end" : Str)] : List Str) ++ ([("  part u = add|  part v = u|  u.a <- x|  v.u <- u.x|  u <- u.out|  v <- x|end" : Str)] : List Str) ++ ([("  part p = add|  u <- p.out|end" : Str), ("  part p = add|  p.zz <- p.zz|end" : Str), ("  v <- x|end" : Str)] : List Str)).map V.str)) ∧ H p_first = none ∧ H' p_first = some (.lst ((([("  part p = const 4294967296|end" : Str), ("  part p = delay 00|end" : Str), ("  part p = delay|end" : Str), ("" : Str)] : List Str) ++ ([("  part p = add 1|end" : Str), ("  part p = abcdefghi|end" : Str), ("  part p = self|end" : Str), ("  end" : Str)] : List Str)).map V.str)) ∧ p_good ≠ p_first, ⟨_, rfl, small99 (by show 4 ≤ 99; decide), fun q hq => ⟨p_first, q, _, _, rfl, rfl, (upd_ne (ne_of_none h_first hq)).trans h_first, upd_same, small9999 (by have := w9_len; have := w4_len; simp only [List.length_map, List.length_append, List.length_cons, List.length_nil]; omega), fun r hr => ⟨p_good, r, u, rfl, s6.trans ((upd_new hq).trans (upd_new hr)), f_good, ((upd_new hq).trans (upd_new hr)) _ _ h_good, s6.free ((upd_new hq).free hr), by rw [upd_same]; simp only [List.map_append, List.map_cons, List.map_nil, List.append_assoc], ne_of_none ((upd_new hq) _ _ h_good) hr⟩⟩⟩, ?_⟩
  rintro σ H7 ⟨p_good, p_first, u, rfl, s7, f_good, h_good, f_first, h_first, d_good_first⟩
  refine ⟨fun σ' H' => ∃ (p_good : Addr) (p_first : Addr) (u : Option V), σ' = [some (.str name), some (.ref p_good), some (.ref p_first), none, none, u] ∧ Same H H' ∧ H p_good = none ∧ H' p_good = some (.lst ((([((("  part " : Str) ++ name) ++ (" = add|end" : Str)), ("  part p = const 4294967295|end" : Str), ("  part p = delay 0|end" : Str)] : List Str) ++ ([("  part p = abcdefgh|end" : Str), ("  part add = add|end" : Str), ("  u <- x|  v <- x|end" : Str), ("end" : Str)] : List Str) ++ ([("  part x = add|  x.a <- x|  x.b <- x.out|  u <- x|end" : Str), ("  part y = add|end" : Str)] : List Str) ++ ([("  part u = add|  part v = u|  u.a <- x|  v.u <- u.x|  u <- u.out|  v <- x|end" : Str)] : List Str) ++ ([("  part p = add|  u <- p.out|end" : Str), ("  part p = add|  p.zz <- p.zz|end" : Str), ("  v <- x|end" : Str)] : List Str)).map V.str)) ∧ H p_first = none ∧ H' p_first = some (.lst ((([("  part p = const 4294967296|end" : Str), ("  part p = delay 00|end" : Str), ("  part p = delay|end" : Str), ("" : Str)] : List Str) ++ ([("  part p = add 1|end" : Str), ("  part p = abcdefghi|end" : Str), ("  part p = self|end" : Str), ("  end" : Str)] : List Str) ++ ([("  part end = add|end" : Str), ("  u <- u|end" : Str), ("  x <- x|end" : Str), ("  u <- p.out|end" : Str), ("  u <- w|end" : Str)] : List Str)).map V.str)) ∧ p_good ≠ p_first, ⟨_, rfl, small99 (by show 5 ≤ 99; decide), fun q hq => ⟨p_first, q, _, _, rfl, rfl, (upd_ne (ne_of_none h_first hq)).trans h_first, upd_same, small9999 (by have := w9_len; have := w4_len; simp only [List.length_map, List.length_append, List.length_cons, List.length_nil]; omega), fun r hr => ⟨p_good, r, u, rfl, s7.trans ((upd_new hq).trans (upd_new hr)), f_good, ((upd_new hq).trans (upd_new hr)) _ _ h_good, s7.free ((upd_new hq).free hr), by rw [upd_same]; simp only [List.map_append, List.map_cons, List.map_nil, List.append_assoc], ne_of_none ((upd_new hq) _ _ h_good) hr⟩⟩⟩, ?_⟩
  rintro σ H8 ⟨p_good, p_first, u, rfl, s8, f_good, h_good, f_first, h_first, d_good_first⟩
  refine ⟨fun σ' H' => ∃ (p_good : Addr) (p_first : Addr) (u : Option V), σ' = [some (.str name), some (.ref p_good), some (.ref p_first), none, none, u] ∧ Same H H' ∧ H p_good = none ∧ H' p_good = some (.lst ((([((("  part " : Str) ++ name) ++ (" = add|end" : Str)), ("  part p = const 4294967295|end" : Str), ("  part p = delay 0|end" : Str)] : List Str) ++ ([("  part p = abcdefgh|end" : Str), ("  part add = add|end" : Str), ("  u <- x|  v <- x|end" : Str), ("end" : Str)] : List Str) ++ ([("  part x = add|  x.a <- x|  x.b <- x.out|  u <- x|end" : Str), ("  part y = add|end" : Str)] : List Str) ++ ([("  part u = add|  part v = u|  u.a <- x|  v.u <- u.x|  u <- u.out|  v <- x|end" : Str)] : List Str) ++ ([("  part p = add|  u <- p.out|end" : Str), ("  part p = add|  p.zz <- p.zz|end" : Str), ("  v <- x|end" : Str)] : List Str)).map V.str)) ∧ H p_first = none ∧ H' p_first = some (.lst ((([("  part p = const 4294967296|end" : Str), ("  part p = delay 00|end" : Str), ("  part p = delay|end" : Str), ("" : Str)] : List Str) ++ ([("  part p = add 1|end" : Str), ("  part p = abcdefghi|end" : Str), ("  part p = self|end" : Str), ("  end" : Str)] : List Str) ++ ([("  part end = add|end" : Str), ("  u <- u|end" : Str), ("  x <- x|end" : Str), ("  u <- p.out|end" : Str), ("  u <- w|end" : Str)] : List Str) ++ ([("  p.a <- x|end" : Str), ("|end" : Str), ("end " : Str), ("  u <-x|end" : Str), ("  u <- x |end" : Str), ("   u <- x|end" : Str)] : List Str)).map V.str)) ∧ p_good ≠ p_first, ⟨_, rfl, small99 (by show 6 ≤ 99; decide), fun q hq => ⟨p_first, q, _, _, rfl, rfl, (upd_ne (ne_of_none h_first hq)).trans h_first, upd_same, small9999 (by have := w9_len; have := w4_len; simp only [List.length_map, List.length_append, List.length_cons, List.length_nil]; omega), fun r hr => ⟨p_good, r, u, rfl, s8.trans ((upd_new hq).trans (upd_new hr)), f_good, ((upd_new hq).trans (upd_new hr)) _ _ h_good, s8.free ((upd_new hq).free hr), by rw [upd_same]; simp only [List.map_append, List.map_cons, List.map_nil, List.append_assoc], ne_of_none ((upd_new hq) _ _ h_good) hr⟩⟩⟩, ?_⟩
  rintro σ H9 ⟨p_good, p_first, u, rfl, s9, f_good, h_good, f_first, h_first, d_good_first⟩
  refine ⟨fun σ' H' => ∃ (p_good : Addr) (p_first : Addr) (u : Option V), σ' = [some (.str name), some (.ref p_good), some (.ref p_first), none, none, u] ∧ Same H H' ∧ H p_good = none ∧ H' p_good = some (.lst ((([((("  part " : Str) ++ name) ++ (" = add|end" : Str)), ("  part p = const 4294967295|end" : Str), ("  part p = delay 0|end" : Str)] : List Str) ++ ([("  part p = abcdefgh|end" : Str), ("  part add = add|end" : Str), ("  u <- x|  v <- x|end" : Str), ("end" : Str)] : List Str) ++ ([("  part x = add|  x.a <- x|  x.b <- x.out|  u <- x|end" : Str), ("  part y = add|end" : Str)] : List Str) ++ ([("  part u = add|  part v = u|  u.a <- x|  v.u <- u.x|  u <- u.out|  v <- x|end" : Str)] : List Str) ++ ([("  part p = add|  u <- p.out|end" : Str), ("  part p = add|  p.zz <- p.zz|end" : Str), ("  v <- x|end" : Str)] : List Str)).map V.str)) ∧ H p_first = none ∧ H' p_first = some (.lst ((([("  part p = const 4294967296|end" : Str), ("  part p = delay 00|end" : Str), ("  part p = delay|end" : Str), ("" : Str)] : List Str) ++ ([("  part p = add 1|end" : Str), ("  part p = abcdefghi|end" : Str), ("  part p = self|end" : Str), ("  end" : Str)] : List Str) ++ ([("  part end = add|end" : Str), ("  u <- u|end" : Str), ("  x <- x|end" : Str), ("  u <- p.out|end" : Str), ("  u <- w|end" : Str)] : List Str) ++ ([("  p.a <- x|end" : Str), ("|end" : Str), ("end " : Str), ("  u <-x|end" : Str), ("  u <- x |end" : Str), ("   u <- x|end" : Str)] : List Str) ++ ([(" u <- x|end" : Str), ("  part p = const 0123456789|end" : Str), ("  part p = delay 0000000000|end" : Str)] : List Str)).map V.str)) ∧ p_good ≠ p_first, ⟨_, rfl, small99 (by show 3 ≤ 99; decide), fun q hq => ⟨p_first, q, _, _, rfl, rfl, (upd_ne (ne_of_none h_first hq)).trans h_first, upd_same, small9999 (by have := w9_len; have := w4_len; simp only [List.length_map, List.length_append, List.length_cons, List.length_nil]; omega), fun r hr => ⟨p_good, r, u, rfl, s9.trans ((upd_new hq).trans (upd_new hr)), f_good, ((upd_new hq).trans (upd_new hr)) _ _ h_good, s9.free ((upd_new hq).free hr), by rw [upd_same]; simp only [List.map_append, List.map_cons, List.map_nil, List.append_assoc], ne_of_none ((upd_new hq) _ _ h_good) hr⟩⟩⟩, ?_⟩
  rintro σ H10 ⟨p_good, p_first, u, rfl, s10, f_good, h_good, f_first, h_first, d_good_first⟩
  refine ⟨fun σ' H' => ∃ (p_good : Addr) (p_first : Addr) (u : Option V), σ' = [some (.str name), some (.ref p_good), some (.ref p_first), none, none, u] ∧ Same H H' ∧ H p_good = none ∧ H' p_good = some (.lst ((([((("  part " : Str) ++ name) ++ (" = add|end" : Str)), ("  part p = const 4294967295|end" : Str), ("  part p = delay 0|end" : Str)] : List Str) ++ ([("  part p = abcdefgh|end" : Str), ("  part add = add|end" : Str), ("  u <- x|  v <- x|end" : Str), ("end" : Str)] : List Str) ++ ([("  part x = add|  x.a <- x|  x.b <- x.out|  u <- x|end" : Str), ("  part y = add|end" : Str)] : List Str) ++ ([("  part u = add|  part v = u|  u.a <- x|  v.u <- u.x|  u <- u.out|  v <- x|end" : Str)] : List Str) ++ ([("  part p = add|  u <- p.out|end" : Str), ("  part p = add|  p.zz <- p.zz|end" : Str), ("  v <- x|end" : Str)] : List Str)).map V.str)) ∧ H p_first = none ∧ H' p_first = some (.lst ((([("  part p = const 4294967296|end" : Str), ("  part p = delay 00|end" : Str), ("  part p = delay|end" : Str), ("" : Str)] : List Str) ++ ([("  part p = add 1|end" : Str), ("  part p = abcdefghi|end" : Str), ("  part p = self|end" : Str), ("  end" : Str)] : List Str) ++ ([("  part end = add|end" : Str), ("  u <- u|end" : Str), ("  x <- x|end" : Str), ("  u <- p.out|end" : Str), ("  u <- w|end" : Str)] : List Str) ++ ([("  p.a <- x|end" : Str), ("|end" : Str), ("end " : Str), ("  u <-x|end" : Str), ("  u <- x |end" : Str), ("   u <- x|end" : Str)] : List Str) ++ ([(" u <- x|end" : Str), ("  part p = const 0123456789|end" : Str), ("  part p = delay 0000000000|end" : Str)] : List Str) ++ ([("  part p=add|end" : Str), ("  part  p = add|end" : Str), ("  part p = add |end" : Str), ("  part p = add = b|end" : Str)] : List Str)).map V.str)) ∧ p_good ≠ p_first, ⟨_, rfl, small99 (by show 4 ≤ 99; decide), fun q hq => ⟨p_first, q, _, _, rfl, rfl, (upd_ne (ne_of_none h_first hq)).trans h_first, upd_same, small9999 (by have := w9_len; have := w4_len; simp only [List.length_map, List.length_append, List.length_cons, List.length_nil]; omega), fun r hr => ⟨p_good, r, u, rfl, s10.trans ((upd_new hq).trans (upd_new hr)), f_good, ((upd_new hq).trans (upd_new hr)) _ _ h_good, s10.free ((upd_new hq).free hr), by rw [upd_same]; simp only [List.map_append, List.map_cons, List.map_nil, List.append_assoc], ne_of_none ((upd_new hq) _ _ h_good) hr⟩⟩⟩, ?_⟩
  rintro σ H11 ⟨p_good, p_first, u, rfl, s11, f_good, h_good, f_first, h_first, d_good_first⟩
  refine ⟨fun σ' H' => ∃ (p_good : Addr) (p_first : Addr) (p_second : Addr) (u : Option V), σ' = [some (.str name), some (.ref p_good), some (.ref p_first), some (.ref p_second), none, u] ∧ Same H H' ∧ H p_good = none ∧ H' p_good = some (.lst ((([((("  part " : Str) ++ name) ++ (" = add|end" : Str)), ("  part p = const 4294967295|end" : Str), ("  part p = delay 0|end" : Str)] : List Str) ++ ([("  part p = abcdefgh|end" : Str), ("  part add = add|end" : Str), ("  u <- x|  v <- x|end" : Str), ("end" : Str)] : List Str) ++ ([("  part x = add|  x.a <- x|  x.b <- x.out|  u <- x|end" : Str), ("  part y = add|end" : Str)] : List Str) ++ ([("  part u = add|  part v = u|  u.a <- x|  v.u <- u.x|  u <- u.out|  v <- x|end" : Str)] : List Str) ++ ([("  part p = add|  u <- p.out|end" : Str), ("  part p = add|  p.zz <- p.zz|end" : Str), ("  v <- x|end" : Str)] : List Str)).map V.str)) ∧ H p_first = none ∧ H' p_first = some (.lst ((([("  part p = const 4294967296|end" : Str), ("  part p = delay 00|end" : Str), ("  part p = delay|end" : Str), ("" : Str)] : List Str) ++ ([("  part p = add 1|end" : Str), ("  part p = abcdefghi|end" : Str), ("  part p = self|end" : Str), ("  end" : Str)] : List Str) ++ ([("  part end = add|end" : Str), ("  u <- u|end" : Str), ("  x <- x|end" : Str), ("  u <- p.out|end" : Str), ("  u <- w|end" : Str)] : List Str) ++ ([("  p.a <- x|end" : Str), ("|end" : Str), ("end " : Str), ("  u <-x|end" : Str), ("  u <- x |end" : Str), ("   u <- x|end" : Str)] : List Str) ++ ([(" u <- x|end" : Str), ("  part p = const 0123456789|end" : Str), ("  part p = delay 0000000000|end" : Str)] : List Str) ++ ([("  part p=add|end" : Str), ("  part  p = add|end" : Str), ("  part p = add |end" : Str), ("  part p = add = b|end" : Str)] : List Str)).map V.str)) ∧ H p_second = none ∧ H' p_second = some (.lst ((([("  part p = add|  part p = sub|end" : Str), ("  u <- x|  part p = add|end" : Str), ("  u <- x|  u <- x|end" : Str)] : List Str)).map V.str)) ∧ p_good ≠ p_first ∧ p_good ≠ p_second ∧ p_first ≠ p_second, ⟨small99 (by show 3 ≤ 99; decide), fun p hp => ⟨p_good, p_first, p, u, rfl, s11.trans (upd_new hp), f_good, (upd_ne (ne_of_none h_good hp)).trans h_good, f_first, (upd_ne (ne_of_none h_first hp)).trans h_first, s11.free hp, upd_same, d_good_first, ne_of_none h_good hp, ne_of_none h_first hp⟩⟩, ?_⟩
  rintro σ H12 ⟨p_good, p_first, p_second, u, rfl, s12, f_good, h_good, f_first, h_first, f_second, h_second, d_good_first, d_good_second, d_first_second⟩
  refine ⟨fun σ' H' => ∃ (p_good : Addr) (p_first : Addr) (p_second : Addr) (u : Option V), σ' = [some (.str name), some (.ref p_good), some (.ref p_first), some (.ref p_second), none, u] ∧ Same H H' ∧ H p_good = none ∧ H' p_good = some (.lst ((([((("  part " : Str) ++ name) ++ (" = add|end" : Str)), ("  part p = const 4294967295|end" : Str), ("  part p = delay 0|end" : Str)] : List Str) ++ ([("  part p = abcdefgh|end" : Str), ("  part add = add|end" : Str), ("  u <- x|  v <- x|end" : Str), ("end" : Str)] : List Str) ++ ([("  part x = add|  x.a <- x|  x.b <- x.out|  u <- x|end" : Str), ("  part y = add|end" : Str)] : List Str) ++ ([("  part u = add|  part v = u|  u.a <- x|  v.u <- u.x|  u <- u.out|  v <- x|end" : Str)] : List Str) ++ ([("  part p = add|  u <- p.out|end" : Str), ("  part p = add|  p.zz <- p.zz|end" : Str), ("  v <- x|end" : Str)] : List Str)).map V.str)) ∧ H p_first = none ∧ H' p_first = some (.lst ((([("  part p = const 4294967296|end" : Str), ("  part p = delay 00|end" : Str), ("  part p = delay|end" : Str), ("" : Str)] : List Str) ++ ([("  part p = add 1|end" : Str), ("  part p = abcdefghi|end" : Str), ("  part p = self|end" : Str), ("  end" : Str)] : List Str) ++ ([("  part end = add|end" : Str), ("  u <- u|end" : Str), ("  x <- x|end" : Str), ("  u <- p.out|end" : Str), ("  u <- w|end" : Str)] : List Str) ++ ([("  p.a <- x|end" : Str), ("|end" : Str), ("end " : Str), ("  u <-x|end" : Str), ("  u <- x |end" : Str), ("   u <- x|end" : Str)] : List Str) ++ ([(" u <- x|end" : Str), ("  part p = const 0123456789|end" : Str), ("  part p = delay 0000000000|end" : Str)] : List Str) ++ ([("  part p=add|end" : Str), ("  part  p = add|end" : Str), ("  part p = add |end" : Str), ("  part p = add = b|end" : Str)] : List Str)).map V.str)) ∧ H p_second = none ∧ H' p_second = some (.lst ((([("  part p = add|  part p = sub|end" : Str), ("  u <- x|  part p = add|end" : Str), ("  u <- x|  u <- x|end" : Str)] : List Str) ++ ([("  part p = add|  p.self <- x|end" : Str), ("  part p = add|  u <- p|end" : Str), ("end|" : Str), ("end|end" : Str)] : List Str)).map V.str)) ∧ p_good ≠ p_first ∧ p_good ≠ p_second ∧ p_first ≠ p_second, ⟨_, rfl, small99 (by show 4 ≤ 99; decide), fun q hq => ⟨p_second, q, _, _, rfl, rfl, (upd_ne (ne_of_none h_second hq)).trans h_second, upd_same, small9999 (by have := w9_len; have := w4_len; simp only [List.length_map, List.length_append, List.length_cons, List.length_nil]; omega), fun r hr => ⟨p_good, p_first, r, u, rfl, s12.trans ((upd_new hq).trans (upd_new hr)), f_good, ((upd_new hq).trans (upd_new hr)) _ _ h_good, f_first, ((upd_new hq).trans (upd_new hr)) _ _ h_first, s12.free ((upd_new hq).free hr), by rw [upd_same]; simp only [List.map_append, List.map_cons, List.map_nil, List.append_assoc], d_good_first, ne_of_none ((upd_new hq) _ _ h_good) hr, ne_of_none ((upd_new hq) _ _ h_first) hr⟩⟩⟩, ?_⟩
  rintro σ H13 ⟨p_good, p_first, p_second, u, rfl, s13, f_good, h_good, f_first, h_first, f_second, h_second, d_good_first, d_good_second, d_first_second⟩
  refine ⟨fun σ' H' => ∃ (p_good : Addr) (p_first : Addr) (p_second : Addr) (u : Option V), σ' = [some (.str name), some (.ref p_good), some (.ref p_first), some (.ref p_second), none, u] ∧ Same H H' ∧ H p_good = none ∧ H' p_good = some (.lst ((([((("  part " : Str) ++ name) ++ (" = add|end" : Str)), ("  part p = const 4294967295|end" : Str), ("  part p = delay 0|end" : Str)] : List Str) ++ ([("  part p = abcdefgh|end" : Str), ("  part add = add|end" : Str), ("  u <- x|  v <- x|end" : Str), ("end" : Str)] : List Str) ++ ([("  part x = add|  x.a <- x|  x.b <- x.out|  u <- x|end" : Str), ("  part y = add|end" : Str)] : List Str) ++ ([("  part u = add|  part v = u|  u.a <- x|  v.u <- u.x|  u <- u.out|  v <- x|end" : Str)] : List Str) ++ ([("  part p = add|  u <- p.out|end" : Str), ("  part p = add|  p.zz <- p.zz|end" : Str), ("  v <- x|end" : Str)] : List Str)).map V.str)) ∧ H p_first = none ∧ H' p_first = some (.lst ((([("  part p = const 4294967296|end" : Str), ("  part p = delay 00|end" : Str), ("  part p = delay|end" : Str), ("" : Str)] : List Str) ++ ([("  part p = add 1|end" : Str), ("  part p = abcdefghi|end" : Str), ("  part p = self|end" : Str), ("  end" : Str)] : List Str) ++ ([("  part end = add|end" : Str), ("  u <- u|end" : Str), ("  x <- x|end" : Str), ("  u <- p.out|end" : Str), ("  u <- w|end" : Str)] : List Str) ++ ([("  p.a <- x|end" : Str), ("|end" : Str), ("end " : Str), ("  u <-x|end" : Str), ("  u <- x |end" : Str), ("   u <- x|end" : Str)] : List Str) ++ ([(" u <- x|end" : Str), ("  part p = const 0123456789|end" : Str), ("  part p = delay 0000000000|end" : Str)] : List Str) ++ ([("  part p=add|end" : Str), ("  part  p = add|end" : Str), ("  part p = add |end" : Str), ("  part p = add = b|end" : Str)] : List Str)).map V.str)) ∧ H p_second = none ∧ H' p_second = some (.lst ((([("  part p = add|  part p = sub|end" : Str), ("  u <- x|  part p = add|end" : Str), ("  u <- x|  u <- x|end" : Str)] : List Str) ++ ([("  part p = add|  p.self <- x|end" : Str), ("  part p = add|  u <- p|end" : Str), ("end|" : Str), ("end|end" : Str)] : List Str) ++ ([("  part p = add|  u <- p.a.b|end" : Str), ("  part p = add|block c(;)|end" : Str), ("  u <- x" : Str)] : List Str)).map V.str)) ∧ p_good ≠ p_first ∧ p_good ≠ p_second ∧ p_first ≠ p_second, ⟨_, rfl, small99 (by show 3 ≤ 99; decide), fun q hq => ⟨p_second, q, _, _, rfl, rfl, (upd_ne (ne_of_none h_second hq)).trans h_second, upd_same, small9999 (by have := w9_len; have := w4_len; simp only [List.length_map, List.length_append, List.length_cons, List.length_nil]; omega), fun r hr => ⟨p_good, p_first, r, u, rfl, s13.trans ((upd_new hq).trans (upd_new hr)), f_good, ((upd_new hq).trans (upd_new hr)) _ _ h_good, f_first, ((upd_new hq).trans (upd_new hr)) _ _ h_first, s13.free ((upd_new hq).free hr), by rw [upd_same]; simp only [List.map_append, List.map_cons, List.map_nil, List.append_assoc], d_good_first, ne_of_none ((upd_new hq) _ _ h_good) hr, ne_of_none ((upd_new hq) _ _ h_first) hr⟩⟩⟩, ?_⟩
  rintro σ H14 ⟨p_good, p_first, p_second, u, rfl, s14, f_good, h_good, f_first, h_first, f_second, h_second, d_good_first, d_good_second, d_first_second⟩
  refine ⟨fun σ' H' => ∃ (p_good : Addr) (p_first : Addr) (p_second : Addr) (p_third : Addr) (u : Option V), σ' = [some (.str name), some (.ref p_good), some (.ref p_first), some (.ref p_second), some (.ref p_third), u] ∧ Same H H' ∧ H p_good = none ∧ H' p_good = some (.lst ((([((("  part " : Str) ++ name) ++ (" = add|end" : Str)), ("  part p = const 4294967295|end" : Str), ("  part p = delay 0|end" : Str)] : List Str) ++ ([("  part p = abcdefgh|end" : Str), ("  part add = add|end" : Str), ("  u <- x|  v <- x|end" : Str), ("end" : Str)] : List Str) ++ ([("  part x = add|  x.a <- x|  x.b <- x.out|  u <- x|end" : Str), ("  part y = add|end" : Str)] : List Str) ++ ([("  part u = add|  part v = u|  u.a <- x|  v.u <- u.x|  u <- u.out|  v <- x|end" : Str)] : List Str) ++ ([("  part p = add|  u <- p.out|end" : Str), ("  part p = add|  p.zz <- p.zz|end" : Str), ("  v <- x|end" : Str)] : List Str)).map V.str)) ∧ H p_first = none ∧ H' p_first = some (.lst ((([("  part p = const 4294967296|end" : Str), ("  part p = delay 00|end" : Str), ("  part p = delay|end" : Str), ("" : Str)] : List Str) ++ ([("  part p = add 1|end" : Str), ("  part p = abcdefghi|end" : Str), ("  part p = self|end" : Str), ("  end" : Str)] : List Str) ++ ([("  part end = add|end" : Str), ("  u <- u|end" : Str), ("  x <- x|end" : Str), ("  u <- p.out|end" : Str), ("  u <- w|end" : Str)] : List Str) ++ ([("  p.a <- x|end" : Str), ("|end" : Str), ("end " : Str), ("  u <-x|end" : Str), ("  u <- x |end" : Str), ("   u <- x|end" : Str)] : List Str) ++ ([(" u <- x|end" : Str), ("  part p = const 0123456789|end" : Str), ("  part p = delay 0000000000|end" : Str)] : List Str) ++ ([("  part p=add|end" : Str), ("  part  p = add|end" : Str), ("  part p = add |end" : Str), ("  part p = add = b|end" : Str)] : List Str)).map V.str)) ∧ H p_second = none ∧ H' p_second = some (.lst ((([("  part p = add|  part p = sub|end" : Str), ("  u <- x|  part p = add|end" : Str), ("  u <- x|  u <- x|end" : Str)] : List Str) ++ ([("  part p = add|  p.self <- x|end" : Str), ("  part p = add|  u <- p|end" : Str), ("end|" : Str), ("end|end" : Str)] : List Str) ++ ([("  part p = add|  u <- p.a.b|end" : Str), ("  part p = add|block c(;)|end" : Str), ("  u <- x" : Str)] : List Str)).map V.str)) ∧ H p_third = none ∧ H' p_third = some (.lst ((([("  part p = add|  p.a <- x|  p.a <- p.a|end" : Str), ("  u <- x|  v <- x" : Str), ("  u <- x|end|  v <- x|end" : Str)] : List Str)).map V.str)) ∧ p_good ≠ p_first ∧ p_good ≠ p_second ∧ p_good ≠ p_third ∧ p_first ≠ p_second ∧ p_first ≠ p_third ∧ p_second ≠ p_third, ⟨small99 (by show 3 ≤ 99; decide), fun p hp => ⟨p_good, p_first, p_second, p, u, rfl, s14.trans (upd_new hp), f_good, (upd_ne (ne_of_none h_good hp)).trans h_good, f_first, (upd_ne (ne_of_none h_first hp)).trans h_first, f_second, (upd_ne (ne_of_none h_second hp)).trans h_second, s14.free hp, upd_same, d_good_first, d_good_second, ne_of_none h_good hp, d_first_second, ne_of_none h_first hp, ne_of_none h_second hp⟩⟩, ?_⟩
  rintro σ H15 ⟨p_good, p_first, p_second, p_third, u, rfl, s15, f_good, h_good, f_first, h_first, f_second, h_second, f_third, h_third, d_good_first, d_good_second, d_good_third, d_first_second, d_first_third, d_second_third⟩
  refine ⟨fun σ' H' => ∃ (p_good : Addr) (p_first : Addr) (p_second : Addr) (p_third : Addr) (u : Option V), σ' = [some (.str name), some (.ref p_good), some (.ref p_first), some (.ref p_second), some (.ref p_third), u] ∧ Same H H' ∧ H p_good = none ∧ H' p_good = some (.lst ((([((("  part " : Str) ++ name) ++ (" = add|end" : Str)), ("  part p = const 4294967295|end" : Str), ("  part p = delay 0|end" : Str)] : List Str) ++ ([("  part p = abcdefgh|end" : Str), ("  part add = add|end" : Str), ("  u <- x|  v <- x|end" : Str), ("end" : Str)] : List Str) ++ ([("  part x = add|  x.a <- x|  x.b <- x.out|  u <- x|end" : Str), ("  part y = add|end" : Str)] : List Str) ++ ([("  part u = add|  part v = u|  u.a <- x|  v.u <- u.x|  u <- u.out|  v <- x|end" : Str)] : List Str) ++ ([("  part p = add|  u <- p.out|end" : Str), ("  part p = add|  p.zz <- p.zz|end" : Str), ("  v <- x|end" : Str)] : List Str) ++ (words9.flatMap fun word => ([((((("  part " : Str) ++ word) ++ (" = add|  " : Str)) ++ word) ++ (".a <- x|end" : Str)), ((("  part p = " : Str) ++ word) ++ ("x|end" : Str))] : List Str))).map V.str)) ∧ H p_first = none ∧ H' p_first = some (.lst ((([("  part p = const 4294967296|end" : Str), ("  part p = delay 00|end" : Str), ("  part p = delay|end" : Str), ("" : Str)] : List Str) ++ ([("  part p = add 1|end" : Str), ("  part p = abcdefghi|end" : Str), ("  part p = self|end" : Str), ("  end" : Str)] : List Str) ++ ([("  part end = add|end" : Str), ("  u <- u|end" : Str), ("  x <- x|end" : Str), ("  u <- p.out|end" : Str), ("  u <- w|end" : Str)] : List Str) ++ ([("  p.a <- x|end" : Str), ("|end" : Str), ("end " : Str), ("  u <-x|end" : Str), ("  u <- x |end" : Str), ("   u <- x|end" : Str)] : List Str) ++ ([(" u <- x|end" : Str), ("  part p = const 0123456789|end" : Str), ("  part p = delay 0000000000|end" : Str)] : List Str) ++ ([("  part p=add|end" : Str), ("  part  p = add|end" : Str), ("  part p = add |end" : Str), ("  part p = add = b|end" : Str)] : List Str)).map V.str)) ∧ H p_second = none ∧ H' p_second = some (.lst ((([("  part p = add|  part p = sub|end" : Str), ("  u <- x|  part p = add|end" : Str), ("  u <- x|  u <- x|end" : Str)] : List Str) ++ ([("  part p = add|  p.self <- x|end" : Str), ("  part p = add|  u <- p|end" : Str), ("end|" : Str), ("end|end" : Str)] : List Str) ++ ([("  part p = add|  u <- p.a.b|end" : Str), ("  part p = add|block c(;)|end" : Str), ("  u <- x" : Str)] : List Str)).map V.str)) ∧ H p_third = none ∧ H' p_third = some (.lst ((([("  part p = add|  p.a <- x|  p.a <- p.a|end" : Str), ("  u <- x|  v <- x" : Str), ("  u <- x|end|  v <- x|end" : Str)] : List Str)).map V.str)) ∧ p_good ≠ p_first ∧ p_good ≠ p_second ∧ p_good ≠ p_third ∧ p_first ≠ p_second ∧ p_first ≠ p_third ∧ p_second ≠ p_third, ⟨small99 (by show 9 ≤ 99; decide), fun t ht => ⟨t, rfl, ⟨_, .of upd_same⟩, for_it (walk_tup (xs := words9.map V.str)) (fun i σ' H' => ∃ (p_good : Addr) (p_first : Addr) (p_second : Addr) (p_third : Addr) (u : Option V), σ' = [some (.str name), some (.ref p_good), some (.ref p_first), some (.ref p_second), some (.ref p_third), u] ∧ Same H H' ∧ H p_good = none ∧ H' p_good = some (.lst ((([((("  part " : Str) ++ name) ++ (" = add|end" : Str)), ("  part p = const 4294967295|end" : Str), ("  part p = delay 0|end" : Str)] : List Str) ++ ([("  part p = abcdefgh|end" : Str), ("  part add = add|end" : Str), ("  u <- x|  v <- x|end" : Str), ("end" : Str)] : List Str) ++ ([("  part x = add|  x.a <- x|  x.b <- x.out|  u <- x|end" : Str), ("  part y = add|end" : Str)] : List Str) ++ ([("  part u = add|  part v = u|  u.a <- x|  v.u <- u.x|  u <- u.out|  v <- x|end" : Str)] : List Str) ++ ([("  part p = add|  u <- p.out|end" : Str), ("  part p = add|  p.zz <- p.zz|end" : Str), ("  v <- x|end" : Str)] : List Str) ++ ((words9.take i).flatMap fun word => ([((((("  part " : Str) ++ word) ++ (" = add|  " : Str)) ++ word) ++ (".a <- x|end" : Str)), ((("  part p = " : Str) ++ word) ++ ("x|end" : Str))] : List Str))).map V.str)) ∧ H p_first = none ∧ H' p_first = some (.lst ((([("  part p = const 4294967296|end" : Str), ("  part p = delay 00|end" : Str), ("  part p = delay|end" : Str), ("" : Str)] : List Str) ++ ([("  part p = add 1|end" : Str), ("  part p = abcdefghi|end" : Str), ("  part p = self|end" : Str), ("  end" : Str)] : List Str) ++ ([("  part end = add|end" : Str), ("  u <- u|end" : Str), ("  x <- x|end" : Str), ("  u <- p.out|end" : Str), ("  u <- w|end" : Str)] : List Str) ++ ([("  p.a <- x|end" : Str), ("|end" : Str), ("end " : Str), ("  u <-x|end" : Str), ("  u <- x |end" : Str), ("   u <- x|end" : Str)] : List Str) ++ ([(" u <- x|end" : Str), ("  part p = const 0123456789|end" : Str), ("  part p = delay 0000000000|end" : Str)] : List Str) ++ ([("  part p=add|end" : Str), ("  part  p = add|end" : Str), ("  part p = add |end" : Str), ("  part p = add = b|end" : Str)] : List Str)).map V.str)) ∧ H p_second = none ∧ H' p_second = some (.lst ((([("  part p = add|  part p = sub|end" : Str), ("  u <- x|  part p = add|end" : Str), ("  u <- x|  u <- x|end" : Str)] : List Str) ++ ([("  part p = add|  p.self <- x|end" : Str), ("  part p = add|  u <- p|end" : Str), ("end|" : Str), ("end|end" : Str)] : List Str) ++ ([("  part p = add|  u <- p.a.b|end" : Str), ("  part p = add|block c(;)|end" : Str), ("  u <- x" : Str)] : List Str)).map V.str)) ∧ H p_third = none ∧ H' p_third = some (.lst ((([("  part p = add|  p.a <- x|  p.a <- p.a|end" : Str), ("  u <- x|  v <- x" : Str), ("  u <- x|end|  v <- x|end" : Str)] : List Str)).map V.str)) ∧ p_good ≠ p_first ∧ p_good ≠ p_second ∧ p_good ≠ p_third ∧ p_first ≠ p_second ∧ p_first ≠ p_third ∧ p_second ≠ p_third ∧ H' t = some (.tup (words9.map V.str))) ⟨p_good, p_first, p_second, p_third, u, rfl, s15.trans (upd_new ht), f_good, by rw [List.take_zero, List.flatMap_nil, List.append_nil]; exact (upd_ne (ne_of_none h_good ht)).trans h_good, f_first, (upd_ne (ne_of_none h_first ht)).trans h_first, f_second, (upd_ne (ne_of_none h_second ht)).trans h_second, f_third, (upd_ne (ne_of_none h_third ht)).trans h_third, d_good_first, d_good_second, d_good_third, d_first_second, d_first_third, d_second_third, upd_same⟩ (fun i σ H' _ q => ?g16) ?t16 ?d16⟩⟩, ?_⟩
  case g16 =>
    obtain ⟨_, _, _, _, _, _, _, _, _, _, _, _, _, _, _, _, _, _, _, _, _, z⟩ := q
    exact .of z
  case d16 =>
    rintro σ H' ⟨p_good, p_first, p_second, p_third, u, rfl, s, f_good, h_good, f_first, h_first, f_second, h_second, f_third, h_third, d_good_first, d_good_second, d_good_third, d_first_second, d_first_third, d_second_third, _⟩
    rw [List.length_map, List.take_length] at h_good
    exact ⟨p_good, p_first, p_second, p_third, u, rfl, s, f_good, h_good, f_first, h_first, f_second, h_second, f_third, h_third, d_good_first, d_good_second, d_good_third, d_first_second, d_first_third, d_second_third⟩
  case t16 =>
    rintro i x σ Ha Hb hi ⟨p_good, p_first, p_second, p_third, u, rfl, sa, f_good, h_good, f_first, h_first, f_second, h_second, f_third, h_third, d_good_first, d_good_second, d_good_third, d_first_second, d_first_third, d_second_third, hta⟩ ⟨rfl, hx⟩
    rw [List.getElem?_map] at hx
    obtain ⟨word, hwd, rfl⟩ := Option.map_eq_some_iff.mp hx
    have hwl := w9_le (List.mem_of_getElem? hwd)
    have hlen0 : ((([((("  part " : Str) ++ name) ++ (" = add|end" : Str)), ("  part p = const 4294967295|end" : Str), ("  part p = delay 0|end" : Str)] : List Str) ++ ([("  part p = abcdefgh|end" : Str), ("  part add = add|end" : Str), ("  u <- x|  v <- x|end" : Str), ("end" : Str)] : List Str) ++ ([("  part x = add|  x.a <- x|  x.b <- x.out|  u <- x|end" : Str), ("  part y = add|end" : Str)] : List Str) ++ ([("  part u = add|  part v = u|  u.a <- x|  v.u <- u.x|  u <- u.out|  v <- x|end" : Str)] : List Str) ++ ([("  part p = add|  u <- p.out|end" : Str), ("  part p = add|  p.zz <- p.zz|end" : Str), ("  v <- x|end" : Str)] : List Str) ++ ((words9.take i).flatMap fun word => ([((((("  part " : Str) ++ word) ++ (" = add|  " : Str)) ++ word) ++ (".a <- x|end" : Str)), ((("  part p = " : Str) ++ word) ++ ("x|end" : Str))] : List Str))).map V.str).length + 2 ≤ sizeLine := small9999 (by have := flat_le (l := words9) (f := fun word => ([((((("  part " : Str) ++ word) ++ (" = add|  " : Str)) ++ word) ++ (".a <- x|end" : Str)), ((("  part p = " : Str) ++ word) ++ ("x|end" : Str))] : List Str)) (c := 9) (fun _ _ => Nat.le_of_ble_eq_true rfl); have := w9_len; have := w4_len; have := (List.getElem?_eq_some_iff.mp hwd).1; have q := flat_le (l := words9.take i) (f := fun word => ([((((("  part " : Str) ++ word) ++ (" = add|  " : Str)) ++ word) ++ (".a <- x|end" : Str)), ((("  part p = " : Str) ++ word) ++ ("x|end" : Str))] : List Str)) (c := 9) (fun _ _ => Nat.le_of_ble_eq_true rfl); have q2 : (words9.take i).length ≤ 9 := tk_le _ _; simp only [List.length_map, List.length_append, List.length_cons, List.length_nil]; omega)
    refine ⟨_, rfl, _, rfl, _, _, rfl, rfl, add_le (by decide +kernel : _ ≤ 200) hwl (by decide), _, _, rfl, rfl, add_le (cat_le (by decide +kernel : _ ≤ 200) hwl) (by decide +kernel : _ ≤ 200) (by decide), _, rfl, _, _, rfl, rfl, add_le (cat_le (cat_le (by decide +kernel : _ ≤ 200) hwl) (by decide +kernel : _ ≤ 200)) hwl (by decide), _, _, rfl, rfl, add_le (cat_le (cat_le (cat_le (by decide +kernel : _ ≤ 200) hwl) (by decide +kernel : _ ≤ 200)) hwl) (by decide +kernel : _ ≤ 200) (by decide), _, rfl, _, _, rfl, rfl, add_le (by decide +kernel : _ ≤ 200) hwl (by decide), _, _, rfl, rfl, add_le (cat_le (by decide +kernel : _ ≤ 200) hwl) (by decide +kernel : _ ≤ 200) (by decide), small99 (by show 2 ≤ 99; decide), fun q hq => ⟨p_good, q, _, _, rfl, rfl, (upd_ne (ne_of_none h_good hq)).trans h_good, upd_same, hlen0, fun r hr => ⟨r, p_first, p_second, p_third, _, rfl, sa.trans ((upd_new hq).trans (upd_new hr)), sa.free ((upd_new hq).free hr), by rw [upd_same, tk1 hwd]; simp only [List.map_append, List.flatMap_append, List.flatMap_cons, List.flatMap_nil, List.append_nil, List.map_cons, List.map_nil, List.append_assoc], f_first, ((upd_new hq).trans (upd_new hr)) _ _ h_first, f_second, ((upd_new hq).trans (upd_new hr)) _ _ h_second, f_third, ((upd_new hq).trans (upd_new hr)) _ _ h_third, (ne_of_none ((upd_new hq) _ _ h_first) hr).symm, (ne_of_none ((upd_new hq) _ _ h_second) hr).symm, (ne_of_none ((upd_new hq) _ _ h_third) hr).symm, d_first_second, d_first_third, d_second_third, ((upd_new hq).trans (upd_new hr)) _ _ hta⟩⟩⟩
  rintro σ H16 ⟨p_good, p_first, p_second, p_third, u, rfl, s16, f_good, h_good, f_first, h_first, f_second, h_second, f_third, h_third, d_good_first, d_good_second, d_good_third, d_first_second, d_first_third, d_second_third⟩
  refine ⟨fun σ' H' => ∃ (p_good : Addr) (p_first : Addr) (p_second : Addr) (p_third : Addr) (u : Option V), σ' = [some (.str name), some (.ref p_good), some (.ref p_first), some (.ref p_second), some (.ref p_third), u] ∧ Same H H' ∧ H p_good = none ∧ H' p_good = some (.lst ((([((("  part " : Str) ++ name) ++ (" = add|end" : Str)), ("  part p = const 4294967295|end" : Str), ("  part p = delay 0|end" : Str)] : List Str) ++ ([("  part p = abcdefgh|end" : Str), ("  part add = add|end" : Str), ("  u <- x|  v <- x|end" : Str), ("end" : Str)] : List Str) ++ ([("  part x = add|  x.a <- x|  x.b <- x.out|  u <- x|end" : Str), ("  part y = add|end" : Str)] : List Str) ++ ([("  part u = add|  part v = u|  u.a <- x|  v.u <- u.x|  u <- u.out|  v <- x|end" : Str)] : List Str) ++ ([("  part p = add|  u <- p.out|end" : Str), ("  part p = add|  p.zz <- p.zz|end" : Str), ("  v <- x|end" : Str)] : List Str) ++ (words9.flatMap fun word => ([((((("  part " : Str) ++ word) ++ (" = add|  " : Str)) ++ word) ++ (".a <- x|end" : Str)), ((("  part p = " : Str) ++ word) ++ ("x|end" : Str))] : List Str))).map V.str)) ∧ H p_first = none ∧ H' p_first = some (.lst ((([("  part p = const 4294967296|end" : Str), ("  part p = delay 00|end" : Str), ("  part p = delay|end" : Str), ("" : Str)] : List Str) ++ ([("  part p = add 1|end" : Str), ("  part p = abcdefghi|end" : Str), ("  part p = self|end" : Str), ("  end" : Str)] : List Str) ++ ([("  part end = add|end" : Str), ("  u <- u|end" : Str), ("  x <- x|end" : Str), ("  u <- p.out|end" : Str), ("  u <- w|end" : Str)] : List Str) ++ ([("  p.a <- x|end" : Str), ("|end" : Str), ("end " : Str), ("  u <-x|end" : Str), ("  u <- x |end" : Str), ("   u <- x|end" : Str)] : List Str) ++ ([(" u <- x|end" : Str), ("  part p = const 0123456789|end" : Str), ("  part p = delay 0000000000|end" : Str)] : List Str) ++ ([("  part p=add|end" : Str), ("  part  p = add|end" : Str), ("  part p = add |end" : Str), ("  part p = add = b|end" : Str)] : List Str) ++ ([("  part p = const|end" : Str), ("  part p = sub 5|end" : Str), ("  part p = pick pick|end" : Str)] : List Str)).map V.str)) ∧ H p_second = none ∧ H' p_second = some (.lst ((([("  part p = add|  part p = sub|end" : Str), ("  u <- x|  part p = add|end" : Str), ("  u <- x|  u <- x|end" : Str)] : List Str) ++ ([("  part p = add|  p.self <- x|end" : Str), ("  part p = add|  u <- p|end" : Str), ("end|" : Str), ("end|end" : Str)] : List Str) ++ ([("  part p = add|  u <- p.a.b|end" : Str), ("  part p = add|block c(;)|end" : Str), ("  u <- x" : Str)] : List Str)).map V.str)) ∧ H p_third = none ∧ H' p_third = some (.lst ((([("  part p = add|  p.a <- x|  p.a <- p.a|end" : Str), ("  u <- x|  v <- x" : Str), ("  u <- x|end|  v <- x|end" : Str)] : List Str)).map V.str)) ∧ p_good ≠ p_first ∧ p_good ≠ p_second ∧ p_good ≠ p_third ∧ p_first ≠ p_second ∧ p_first ≠ p_third ∧ p_second ≠ p_third, ⟨_, rfl, small99 (by show 3 ≤ 99; decide), fun q hq => ⟨p_first, q, _, _, rfl, rfl, (upd_ne (ne_of_none h_first hq)).trans h_first, upd_same, small9999 (by have := w9_len; have := w4_len; simp only [List.length_map, List.length_append, List.length_cons, List.length_nil]; omega), fun r hr => ⟨p_good, r, p_second, p_third, u, rfl, s16.trans ((upd_new hq).trans (upd_new hr)), f_good, ((upd_new hq).trans (upd_new hr)) _ _ h_good, s16.free ((upd_new hq).free hr), by rw [upd_same]; simp only [List.map_append, List.map_cons, List.map_nil, List.append_assoc], f_second, ((upd_new hq).trans (upd_new hr)) _ _ h_second, f_third, ((upd_new hq).trans (upd_new hr)) _ _ h_third, ne_of_none ((upd_new hq) _ _ h_good) hr, d_good_second, d_good_third, (ne_of_none ((upd_new hq) _ _ h_second) hr).symm, (ne_of_none ((upd_new hq) _ _ h_third) hr).symm, d_second_third⟩⟩⟩, ?_⟩
  rintro σ H17 ⟨p_good, p_first, p_second, p_third, u, rfl, s17, f_good, h_good, f_first, h_first, f_second, h_second, f_third, h_third, d_good_first, d_good_second, d_good_third, d_first_second, d_first_third, d_second_third⟩
  refine ⟨_, rfl, small99 (by show 2 ≤ 99; decide), fun t0 ht0 => ⟨_, rfl, small99 (by show 2 ≤ 99; decide), fun t1 ht1 => ⟨_, rfl, small99 (by show 2 ≤ 99; decide), fun t2 ht2 => ⟨_, rfl, small99 (by show 2 ≤ 99; decide), fun t3 ht3 => ⟨small99 (by show 4 ≤ 99; decide), fun L hL => ?_⟩⟩⟩⟩⟩
  have e0 := upd_new (o := HO.tup [V.non, .ref p_good]) ht0
  have e1 := upd_new (o := HO.tup [V.int 1, .ref p_first]) ht1
  have e2 := upd_new (o := HO.tup [V.int 2, .ref p_second]) ht2
  have e3 := upd_new (o := HO.tup [V.int 3, .ref p_third]) ht3
  have eL := upd_new (o := HO.lst [V.ref t0, V.ref t1, V.ref t2, V.ref t3]) hL
  exact k L t0 t1 t2 t3 p_good p_first p_second p_third _ (s17.trans (e0.trans (e1.trans (e2.trans (e3.trans eL))))) upd_same ((e1.trans (e2.trans (e3.trans eL))) _ _ upd_same) ((e2.trans (e3.trans eL)) _ _ upd_same) ((e3.trans eL) _ _ upd_same) (eL _ _ upd_same) ((e0.trans (e1.trans (e2.trans (e3.trans eL)))) _ _ h_good) ((e0.trans (e1.trans (e2.trans (e3.trans eL)))) _ _ h_first) ((e0.trans (e1.trans (e2.trans (e3.trans eL)))) _ _ h_second) ((e0.trans (e1.trans (e2.trans (e3.trans eL)))) _ _ h_third)
end
end K8
namespace K8
open PySem L2 Own StX ClX NdefX
abbrev sMany : Stmt := top 35
def pt (name : Str) (k : Nat) : Str := ((("  part " : Str) ++ ⟨#[97 + k]⟩) ++ cutS name none (some 7)) ++ (" = add" : Str)
def pts (name : Str) : List Str := (List.range 17).map (pt name)
structure ManyOk (name : Str) : Prop where
  r1 : RowsOk ((["block y(;)"] : List Str) ++ (pts name).take 16 ++ (["end"] : List Str))
  t1 : toldN ((["block y(;)"] : List Str) ++ (pts name).take 16 ++ (["end"] : List Str)) = some none
  r2 : RowsOk ((["block y(;)"] : List Str) ++ pts name ++ (["end"] : List Str))
  t2 : toldN ((["block y(;)"] : List Str) ++ pts name ++ (["end"] : List Str)) = some (some 17)
  r3 : RowsOk ["block y(;)"]
  t3 : toldN ["block y(;)"] = some (some 1)
  r4 : RowsOk ((["block y(;)"] : List Str) ++ (List.replicate 9999 (["end"] : List Str)).flatten)
  t4 : toldN ((["block y(;)"] : List Str) ++ (List.replicate 9999 (["end"] : List Str)).flatten) = some (some 2)
  r5 : RowsOk ["block y(;)", ("  " : Str) ++ repT "u" 99999]
  t5 : toldN ["block y(;)", ("  " : Str) ++ repT "u" 99999] = some (some 1)
  r6 : RowsOk ["block y(;)", ("  part p = const " : Str) ++ repT "9" 5000]
  t6 : toldN ["block y(;)", ("  part p = const " : Str) ++ repT "9" 5000] = some (some 1)
  r7 : RowsOk [repT " " 9999]
  t7 : toldN [repT " " 9999] = some (some 0)
def spMany : Sp := fun vs H Q _ => ∃ (name : Str), vs = [.str name] ∧ name.length ≤ 200 ∧ ManyOk name ∧ ∀ H', Same H H' → Q (.bl true) H'
section
variable {P : Program} {w : World} {K : PySem.W.Frag} {mg : Str → Option Value} {base : Heap}
theorem scFe : FnScope ["script", "k", "cell", "digits", "state"] ["script", "k"] (defScope sFeed) := ⟨rfl, rfl, rfl, by decide +kernel, rfl, by decide +kernel, by decide +kernel⟩
theorem ok_feed {f : Addr} {fd : FuncData} (F : Fun K "_law_feed" "_law_feed" sFeed f fd) (mlen : mg "len" = none) (mmax : mg "max" = none) (mabs : mg "abs" = none) : FnOk P w K mg base CX0 1 f fd ["script", "k"] (spFeed K) := by
  refine F.ok scFe (fun vs H Q E h => ?_) (fun cdv A outer s H vs Q E hr h => ?_)
  · obtain ⟨a, ns, k, rfl, _⟩ := h
    rfl
  obtain ⟨a, ns, k, rfl, hS, h0, h1, q⟩ := h
  refine ⟨_, pss_join (ps_set (i := 2) scFe.nd rfl (.inl rfl) (pe_ifExp (pt_cmpR op_lt (pv 1) (pe_callB call_len_seq (by rfl) mlen PySem.boot_len (pa_cons (pv 0) pa_nil)) (nomark _)) (pe_ix ix_list (pv 0) (pv 1) (fun _ _ => rfl)) (pe_op op_add (pe_op op_mul pe_int (pv 1)) pe_int)))
    (pss_cons (ps_set (i := 3) scFe.nd rfl (.inl rfl) (pe_callB (call_max2 rfl) (by rfl) mmax (by decide +kernel) (pa_cons pe_int (pa_cons (pe_op op_sub (pe_callB call_abs (by rfl) mabs (by decide +kernel) (pa_cons (pv 2) pa_nil)) (pe_op op_pow pe_int pe_int)) pa_nil))))
    (pss_cons (ps_set (i := 4) scFe.nd rfl (.inl rfl) (pe_op op_mod (pe_op op_add (pe_op op_add (pe_op op_mul (pv 2) pe_int) (pe_op op_mul pe_int (pv 1))) pe_int) pe_int))
    (pss_one (ps_ret (pe_lst (pa_cons (pv 3) (pa_cons (pv 4) pa_nil))))))), ?_⟩
  refine ⟨fun σ H' => H' = H ∧ ∃ c : Int, σ = [some (.ref a), some (.int k), some (.int c), none, none], ?_, ?_⟩
  · refine ⟨_, rfl, _, rfl, a, _, rfl, .inl hS, _, _, rfl, rfl, _, rfl, ?_⟩
    by_cases hc : k < (ns.map V.int).length
    · rw [decide_eq_true hc]
      have hj : k.toNat < ns.length := by rw [List.length_map] at hc; omega
      exact iteT ⟨_, rfl, _, rfl, a, _, _, .int (ns[k.toNat]), rfl, rfl, hS, at_of (j := k.toNat) (by omega) (by simp [hj]), rfl, _, rfl⟩
    · rw [decide_eq_false hc]
      exact iteF ⟨_, rfl, _, _, rfl, rfl, .inl ⟨by decide, by decide⟩, _, _, rfl, rfl, rfl, _, rfl⟩
  rintro σ H' ⟨rfl, c, rfl⟩
  refine ⟨_, rfl, _, rfl, _, _, rfl, rfl, ⟨by decide, by decide, by decide⟩, _, _, rfl, rfl, _, _, rfl, ?_⟩
  refine ⟨_, rfl, _, _, rfl, rfl, .inr ⟨by decide, by decide⟩, _, rfl, _, _, rfl, rfl, .inl ⟨by decide, by decide⟩, _, _, rfl, rfl, _, _, rfl, rfl, _, _, rfl, rfl, (by show (0 : Int) < 2305843009213693951; decide), ?_⟩
  refine ⟨_, rfl, _, rfl, small1 (by show 2 ≤ 8; decide), fun p hp => q p _ _ ?_ hp⟩
  split <;> omega
theorem scTkL : FnScope ["feed", "many", "digit"] ["feed", "many"] (defScope sTakeL) := ⟨rfl, rfl, rfl, by decide +kernel, rfl, by decide +kernel, by decide +kernel⟩
theorem log_many {m : Int} (h : 0 < m) (h2 : m ≤ 8589934592) : m.natAbs.log2 < 9000 := by
  have h2 : m.natAbs < 2 ^ 34 := by omega
  exact Nat.lt_trans (PySem.Flt.log2_lt_of (by decide) h2) (by decide)
theorem ok_takeL {f : Addr} {fd : FuncData} (F : Fun K "_law_take" "_law_take" sTakeL f fd) : FnOk P w K mg base CX0 1 f fd ["feed", "many"] spTakeL := by
  refine F.ok scTkL (fun vs H Q E h => ?_) (fun cdv A outer s H vs Q E hr h => ?_)
  · obtain ⟨a, d, s, m, rfl, _⟩ := h
    rfl
  obtain ⟨a, d, s, m, rfl, ha, h0, hm, hm2, k⟩ := h
  have at0 : ∀ x y : Int, atI [V.int x, V.int y] 0 = some (.int x) := fun x y => at_of (j := 0) rfl rfl
  have at1 : ∀ x y : Int, atI [V.int x, V.int y] 1 = some (.int y) := fun x y => at_of (j := 1) rfl rfl
  have ix0 : ixN 2 0 = some 0 := by decide +kernel
  have ix1 : ixN 2 1 = some 1 := by decide +kernel
  refine ⟨_, pss_cons (ps_if (pt_cmpR op_gt (pe_ix ix_list (pv 0) pe_int (fun _ _ => rfl)) pe_int (nomark _))
      (pss_cons (ps_set (i := 2) scTkL.nd rfl (.inl rfl) (pe_op op_mod (pe_ix ix_list (pv 0) pe_int (fun _ _ => rfl)) (pv 1)))
      (pss_cons (ps_asg (pe_op op_fdivW (pe_ix ix_list (pv 0) pe_int (fun _ _ => rfl)) (pv 1)) (pg_sub (pv 0) pe_int set_list))
      (pss_one (ps_ret (pv 2))))) pss_nil)
    (pss_cons (ps_asg (pe_op op_mod (pe_op op_add (pe_op op_mul (pe_ix ix_list (pv 0) pe_int (fun _ _ => rfl)) pe_int) pe_int) pe_int) (pg_sub (pv 0) pe_int set_list))
    (pss_one (ps_ret (pe_op op_mod (pe_op op_fdiv (pe_ix ix_list (pv 0) pe_int (fun _ _ => rfl)) pe_int) (pv 1))))), ?_⟩
  refine ⟨_, rfl, a, _, _, _, rfl, rfl, .of ha, at0 _ _, _, _, rfl, rfl, _, rfl, ?_⟩
  by_cases hc : 0 < d
  · rw [decide_eq_true hc]
    refine iteT ⟨_, rfl, a, _, _, _, rfl, rfl, .of ha, at0 _ _, _, rfl, _, _, rfl, rfl, hm, ?_⟩
    refine ⟨_, rfl, a, _, _, _, rfl, rfl, .of ha, at0 _ _, _, rfl, _, _, rfl, rfl, ⟨hm, log_many hm hm2⟩, _, rfl, a, _, _, 0, rfl, rfl, ha, ix0, ?_⟩
    exact ⟨_, rfl, k _ _ s (Int.ediv_nonneg h0 (by omega)) (Int.emod_nonneg _ (by omega)) (Int.emod_lt_of_pos _ hm)⟩
  · rw [decide_eq_false hc]
    refine iteF ⟨_, rfl, a, _, _, _, rfl, rfl, .of ha, at1 _ _, _, _, rfl, rfl, .inr ⟨by decide, by decide⟩, _, _, rfl, rfl, _, _, rfl, rfl, (by show (0 : Int) < 2305843009213693951; decide), _, rfl, a, _, _, 1, rfl, rfl, ha, ix1, ?_⟩
    refine ⟨_, rfl, a, _, _, _, rfl, rfl, .of upd_same, at1 _ _, _, _, rfl, rfl, ⟨by decide, by decide⟩, _, rfl, _, _, rfl, rfl, hm, ?_⟩
    exact k _ d _ h0 (Int.emod_nonneg _ (by omega)) (Int.emod_lt_of_pos _ hm)

theorem scPk : FnScope ["feed", "some"] ["feed", "some"] (defScope sPickL) := ⟨rfl, rfl, rfl, by decide +kernel, rfl, by decide +kernel, by decide +kernel⟩
theorem ok_picks {f fT : Addr} {fd fdT : FuncData} (F : Fun K "_law_pick" "_law_pick" sPickL f fd) (GT : FnOk P w K mg base CX0 1 fT fdT ["feed", "many"] spTakeL) (mT : mg "_law_take" = some (.ref fT)) (kT : PySem.W.keepIn K (.ref fT) = true) (bT : Binds K fdT ["feed", "many"] []) (mlen : mg "len" = none) :
    FnOk P w K mg base CX0 2 f fd ["feed", "some"] spPickS := by
  refine F.ok scPk (fun vs H Q E h => ?_) (fun cdv A outer s H vs Q E hr h => ?_)
  · obtain ⟨a, d, s, z, rfl, _⟩ := h
    rfl
  obtain ⟨a, d, s, z, rfl, ha, h0, hz0, hz1, k⟩ := h
  refine ⟨_, pss_one (ps_ret (pe_ix ix_str (pv 1) (pe_call GT hr rfl mT kT bT .nil pass0 (pa_cons (pv 0) (pa_cons (pe_callB call_len_str (by rfl) mlen PySem.boot_len (pa_cons (pv 1) pa_nil)) pa_nil))) (fun _ _ => rfl))), ?_⟩
  have hzs : z.length ≤ sizeLine := by rw [sizeLine_eq]; omega
  refine ⟨_, rfl, _, rfl, _, rfl, z, rfl, hzs, a, d, s, z.length, rfl, ha, h0, by omega, by omega, fun r d' s' hd hr0 hr1 => ?_⟩
  have hj : r.toNat < z.cps.toList.length := by
    rw [Array.length_toList]
    show r.toNat < z.length
    omega
  exact ⟨z, r, z.cps.toList[r.toNat], rfl, rfl, hzs, by (have q := atI_nat (xs := z.cps.toList) (j := r.toNat) (List.getElem?_eq_getElem hj); rwa [Int.toNat_of_nonneg hr0] at q), k _ d' s' (List.getElem_mem _) hd⟩
abbrev nMy : List Str := ["name", "parts", "k"]
theorem scMy : FnScope nMy ["name"] (defScope sMany) := ⟨rfl, rfl, rfl, by decide +kernel, rfl, by decide +kernel, by decide +kernel⟩
theorem ok_many {f fT : Addr} {fd fdT : FuncData} (F : Fun K "_law_many_right" "_law_many_right" sMany f fd) (GT : FnOk P w K mg base CX0 7 fT fdT ["rows"] (spTold K)) (mT : mg "_law_told" = some (.ref fT)) (kT : PySem.W.keepIn K (.ref fT) = true) (bT : Binds K fdT ["rows"] []) (mrange : mg "range" = none) :
    FnOk P w K mg base CX0 8 f fd ["name"] spMany := by
  refine F.ok scMy (fun vs H Q E h => ?_) (fun cdv A outer s H vs Q E hr h => ?_)
  · obtain ⟨name, rfl, _⟩ := h
    rfl
  obtain ⟨name, rfl, hn, M, k⟩ := h
  refine ⟨_, pss_join (ps_setLc (i := 1) (own := [("k", 2)]) (g := gName 2) rfl scMy.nd rfl rfl (sw_true rfl rfl rfl (by decide +kernel)) (pi_range1 rfl mrange (pa_cons pe_int pa_nil)) (blkOk_by (own := [("k", 2)]) (N := nMy) (sc := defScope sMany) (by decide +kernel)) (fun _ _ _ _ _ => pg_name (i := 2) scMy.nd rfl (Or.inl rfl)) (fun _ _ _ _ _ => pts_nil)
      (fun _ _ _ _ _ => by exact (pe_op op_add_str (pe_op op_add_str (pe_op op_add_str pe_str (pe_ix ix_str pe_str (pv 2) (fun _ _ => rfl))) (pe_slice sl_str (pv 0) po_none (po_some pe_int))) pe_str)))
    (pss_cons (ps_if (pt_cmpR op_notN (pe_call GT hr rfl mT kT bT .nil pass0 (pa_cons (pe_op op_cat (pe_op op_cat (pe_lst (pa_cons pe_str pa_nil)) (pe_slice sl_list (pv 1) po_none (po_some pe_int))) (pe_lst (pa_cons pe_str pa_nil))) pa_nil)) pe_non (nomark _)) (pss_one (ps_ret pe_bl)) pss_nil)
    (pss_cons (ps_if (PW.pt (pw_or (pt_cmpR op_ne (pe_call GT hr rfl mT kT bT .nil pass0 (pa_cons (pe_op op_cat (pe_op op_cat (pe_lst (pa_cons pe_str pa_nil)) (pv 1)) (pe_lst (pa_cons pe_str pa_nil))) pa_nil)) pe_int (nomark _)) (pw_or1 (pt_cmpR op_ne (pe_call GT hr rfl mT kT bT .nil pass0 (pa_cons (pe_lst (pa_cons pe_str pa_nil)) pa_nil)) pe_int (nomark _))))) (pss_one (ps_ret pe_bl)) pss_nil)
    (pss_cons (ps_if (PW.pt (pw_or (pt_cmpR op_ne (pe_call GT hr rfl mT kT bT .nil pass0 (pa_cons (pe_op op_cat (pe_lst (pa_cons pe_str pa_nil)) (pe_op op_rep (pe_lst (pa_cons pe_str pa_nil)) pe_int)) pa_nil)) pe_int (nomark _)) (pw_or1 (pt_cmpR op_ne (pe_call GT hr rfl mT kT bT .nil pass0 (pa_cons (pe_lst (pa_cons pe_str (pa_cons (pe_op op_add_str pe_str (pe_op op_mul_strN pe_str pe_int)) pa_nil))) pa_nil)) pe_int (nomark _))))) (pss_one (ps_ret pe_bl)) pss_nil)
    (pss_one (ps_ret (pe_and (pe_cmpR op_eq (pe_call GT hr rfl mT kT bT .nil pass0 (pa_cons (pe_lst (pa_cons pe_str (pa_cons (pe_op op_add_str pe_str (pe_op op_mul_strN pe_str pe_int)) pa_nil))) pa_nil)) pe_int (nomark _)) (pe_one (pe_cmpR op_eq (pe_call GT hr rfl mT kT bT .nil pass0 (pa_cons (pe_lst (pa_cons (pe_op op_mul_strN pe_str pe_int) pa_nil)) pa_nil)) pe_int (nomark _))))))))), ?_⟩
  have sz : ∀ {n : Nat}, n ≤ 16000100 → n ≤ sizeLine := fun h => by rw [sizeLine_eq]; omega
  have lp : (("  part " : Str)).length = 7 := by decide +kernel
  have lq : ((" = add" : Str)).length = 6 := by decide +kernel
  have lc : ∀ k : Nat, ((⟨#[97 + k]⟩ : Str)).length = 1 := fun _ => rfl
  have hcut : (cutS name none (some 7)).length ≤ 200 := Nat.le_trans (cutS_length _ _ _) hn
  have hat : ∀ k < 17, (("abcdefghijklmnopq" : Str)).cps.toList[k]? = some (97 + k) := by decide +kernel
  have hpl : (pts name).length = 17 := by unfold pts; rw [List.length_map, List.length_range]
  refine ⟨fun σ' H' => ∃ p, σ' = [some (.str name), some (.ref p), none] ∧ Same H H' ∧ H' p = some (.lst ((pts name).map V.str)), ?_, ?_⟩
  · refine ⟨17, rfl, by decide, by decide, fun D hD => ?_⟩
    refine out_it (walk_range (lo := 0) (n := 17)) (fun i H' => Same H H' ∧ H' D = some (.lst ((((List.range 17).take i).map (pt name)).map V.str))) ⟨upd_new hD, upd_same⟩ (fun _ _ _ _ => trivial) ?_ ?_
    · rintro i x H1 H2 hi ⟨s1, hD1⟩ ⟨rfl, rfl⟩
      have hr1 : (List.range 17)[i]? = some i := by rw [List.getElem?_range hi]
      refine ⟨rfl, _, rfl, "abcdefghijklmnopq", (0 + (i : Int)), 97 + i, rfl, rfl, by decide +kernel, by (rw [Int.zero_add]; exact atI_nat (hat i hi)), _, _, rfl, rfl, sz (by rw [lp, lc]; omega), _, rfl, 7, rfl, name, rfl, sz (by omega), _, _, rfl, rfl, sz (by rw [sl, lp, lc]; omega), _, _, rfl, rfl, sz (by rw [sl, sl, lp, lc, lq]; omega), ?_⟩
      refine ⟨_, hD1, by rw [List.length_map, List.length_map, List.length_take, List.length_range]; exact Nat.lt_of_le_of_lt (Nat.min_le_right _ _) (by rw [sizeLine_eq]; decide), same_put s1 hD, ?_⟩
      rw [upd_same, tk1 hr1]
      simp only [List.map_append, List.map_cons, List.map_nil]
      rfl
    · rintro H1 ⟨s1, hD1⟩
      rw [show (List.range 17).take 17 = List.range 17 from rfl] at hD1
      exact ⟨D, rfl, s1, hD1⟩
  rintro σ H1 ⟨p, rfl, s1, hp⟩
  have hcv : cutV ((pts name).map V.str) none (some 16) = ((pts name).take 16).map V.str := by
    unfold cutV
    rw [List.length_map, hpl, show HT.sIx 17 0 none = 0 from rfl, show HT.sIx 17 17 (some 16) = 16 by decide, List.drop_zero, List.map_take]
  -- sixteen parts
  refine ⟨small1 (by show 1 ≤ 8; decide), fun a1 h1 => ⟨_, rfl, 16, rfl, p, _, rfl, .of ((upd_new h1) _ _ hp), fun a2 h2 => ?_⟩⟩
  rw [hcv] at *
  have q2 := (upd_new (o := HO.lst [V.str "block y(;)"]) h1).trans (upd_new (o := HO.lst (((pts name).take 16).map V.str)) h2)
  refine ⟨a1, a2, _, _, rfl, rfl, (upd_new h2) _ _ upd_same, upd_same, ?_, fun a3 h3 => ⟨small1 (by show 1 ≤ 8; decide), fun a4 h4 => ⟨a3, a4, _, _, rfl, rfl, (upd_new h4) _ _ upd_same, upd_same, ?_, fun a5 h5 => ?_⟩⟩⟩
  · rw [List.length_map, List.length_take, hpl]
    exact small99 (by show 1 + min 16 17 ≤ 99; decide)
  · rw [List.length_append, List.length_map, List.length_take, hpl]
    exact small99 (by show 1 + min 16 17 + 1 ≤ 99; decide)
  have q5 := s1.trans (q2.trans ((upd_new (o := HO.lst ([V.str "block y(;)"] ++ ((pts name).take 16).map V.str)) h3).trans ((upd_new (o := HO.lst [V.str "end"]) h4).trans (upd_new (o := HO.lst ([V.str "block y(;)"] ++ ((pts name).take 16).map V.str ++ [V.str "end"])) h5))))
  refine ⟨a5, ((["block y(;)"] : List Str) ++ (pts name).take 16 ++ (["end"] : List Str)), rfl, .of (by rw [upd_same]; simp only [List.map_append, List.map_cons, List.map_nil]), M.r1, fun H2 s2 => ⟨rfl, _, rfl, ?_⟩⟩
  rw [M.t1]
  show if (!decide (V.non = V.non)) = true then _ else _
  rw [decide_eq_true rfl]
  have S2 := q5.trans s2
  have hp2 := s2 _ _ ((q2.trans ((upd_new (o := HO.lst ([V.str "block y(;)"] ++ ((pts name).take 16).map V.str)) h3).trans ((upd_new (o := HO.lst [V.str "end"]) h4).trans (upd_new (o := HO.lst ([V.str "block y(;)"] ++ ((pts name).take 16).map V.str ++ [V.str "end"])) h5)))) _ _ hp)
  clear q5 s2 q2
  refine iteF ?_
  -- seventeen
  refine ⟨small1 (by show 1 ≤ 8; decide), fun b1 k1 => ⟨_, rfl, b1, p, _, _, rfl, rfl, upd_same, (upd_new k1) _ _ hp2, ?_, fun b2 k2 => ⟨small1 (by show 1 ≤ 8; decide), fun b3 k3 => ⟨b2, b3, _, _, rfl, rfl, (upd_new k3) _ _ upd_same, upd_same, ?_, fun b4 k4 => ?_⟩⟩⟩⟩
  · rw [List.length_map, hpl]
    exact small99 (by show 1 + 17 ≤ 99; decide)
  · rw [List.length_append, List.length_map, hpl]
    exact small99 (by show 1 + 17 + 1 ≤ 99; decide)
  refine ⟨b4, ((["block y(;)"] : List Str) ++ pts name ++ (["end"] : List Str)), rfl, .of (by rw [upd_same]; simp only [List.map_append, List.map_cons, List.map_nil]), M.r2, fun H3 s3 => ⟨?_, _, rfl, ?_⟩⟩
  · rw [M.t2]
    rfl
  rw [M.t2]
  show if (!decide (V.int 17 = V.int 17)) = true then _ else _
  rw [decide_eq_true rfl]
  have S3 := S2.trans ((upd_new (o := HO.lst [V.str "block y(;)"]) k1).trans ((upd_new (o := HO.lst ([V.str "block y(;)"] ++ (pts name).map V.str)) k2).trans ((upd_new (o := HO.lst [V.str "end"]) k3).trans ((upd_new (o := HO.lst ([V.str "block y(;)"] ++ (pts name).map V.str ++ [V.str "end"])) k4).trans s3))))
  refine iteF ⟨small1 (by show 1 ≤ 8; decide), fun c1 l1 => ⟨c1, ["block y(;)"], rfl, .of upd_same, M.r3, fun H4 s4 => ⟨?_, _, rfl, ?_⟩⟩⟩
  · rw [M.t3]
    rfl
  rw [M.t3]
  show if (!decide (V.int 1 = V.int 1)) = true then _ else _
  rw [decide_eq_true rfl]
  have S4 := S3.trans ((upd_new l1).trans s4)
  -- many rows
  refine iteF ⟨small1 (by show 1 ≤ 8; decide), fun d1 m1 => ⟨small1 (by show 1 ≤ 8; decide), fun d2 m2 => ⟨d2, 9999, _, rfl, rfl, upd_same, by decide, by decide, sz (by show 1 * 9999 ≤ 16000100; decide), fun d3 m3 => ⟨d1, d3, _, _, rfl, rfl, (upd_new m3) _ _ ((upd_new m2) _ _ upd_same), upd_same, ?_, fun d4 m4 => ?_⟩⟩⟩⟩
  · rw [show (9999 : Int).toNat = 9999 from rfl]
    rw [List.length_flatten, List.map_replicate, List.sum_replicate_nat]
    exact sz (by show 1 + 9999 * 1 ≤ 16000100; decide)
  refine ⟨d4, ((["block y(;)"] : List Str) ++ (List.replicate 9999 (["end"] : List Str)).flatten), rfl, .of (by
    rw [upd_same, show (9999 : Int).toNat = 9999 from rfl, List.map_append, List.map_flatten, List.map_replicate]
    rfl), M.r4, fun H5 s5 => ⟨?_, _, rfl, ?_⟩⟩
  · rw [M.t4]
    rfl
  rw [M.t4]
  show if (!decide (V.int 2 = V.int 2)) = true then _ else _
  rw [decide_eq_true rfl]
  have S5 := S4.trans ((upd_new m1).trans ((upd_new m2).trans ((upd_new m3).trans ((upd_new m4).trans s5))))
  have hu : (repT "u" 99999).length = 99999 := by
    rw [repT_len, show (("u" : Str)).length = 1 by decide +kernel]
    rfl
  refine iteF ⟨"u", 99999, rfl, rfl, by decide, by decide, by decide +kernel, by decide +kernel, _, _, rfl, rfl, by rw [hu, show (("  " : Str)).length = 2 by decide +kernel]; exact sz (by decide), small1 (by show 2 ≤ 8; decide), fun e1 n1 => ⟨e1, ["block y(;)", ("  " : Str) ++ repT "u" 99999], rfl, .of upd_same, M.r5, fun H6 s6 => ⟨?_, _, rfl, ?_⟩⟩⟩
  · rw [M.t5]
    rfl
  rw [M.t5]
  show if (!decide (V.int 1 = V.int 1)) = true then _ else _
  rw [decide_eq_true rfl]
  have S6 := S5.trans ((upd_new n1).trans s6)
  have h9 : (repT "9" 5000).length = 5000 := by
    rw [repT_len, show (("9" : Str)).length = 1 by decide +kernel]
    rfl
  refine iteF ⟨"9", 5000, rfl, rfl, by decide, by decide, by decide +kernel, by decide +kernel, _, _, rfl, rfl, by rw [h9, show (("  part p = const " : Str)).length = 17 by decide +kernel]; exact sz (by decide), small1 (by show 2 ≤ 8; decide), fun f1 o1 => ⟨f1, ["block y(;)", ("  part p = const " : Str) ++ repT "9" 5000], rfl, .of upd_same, M.r6, fun H7 s7 => ⟨?_, _, rfl, ?_⟩⟩⟩
  · rw [M.t6]
    rfl
  rw [M.t6]
  show if decide (V.int 1 = V.int 1) = true then _ else _
  rw [decide_eq_true rfl]
  have S7 := S6.trans ((upd_new o1).trans s7)
  refine iteT ⟨" ", 9999, rfl, rfl, by decide, by decide, by decide +kernel, by decide +kernel, small1 (by show 1 ≤ 8; decide), fun g1 p1 => ⟨g1, [repT " " 9999], rfl, .of upd_same, M.r7, fun H8 s8 => ⟨?_, ?_⟩⟩⟩
  · rw [M.t7]
    rfl
  rw [M.t7]
  show Q (V.bl (decide (V.int 0 = V.int 0))) H8
  rw [decide_eq_true rfl]
  exact k H8 (S7.trans ((upd_new p1).trans s8))
end
end K8
namespace K8
open PySem L2 Own StX ClX NdefX
abbrev sLaw : Stmt := top 36
def letters : Str := "acdefghijklmnopqrstuvwxyz"
def rowsB (t : Str) : List Str := (["block y(x; u v)"] : List Str) ++ Txt.split t "|"
structure NameOk (name : Str) : Prop where
  len : name.length ≤ 200
  good : ∀ r ∈ goodHeads name, RowsOk [r, "end"] ∧ toldN [r, "end"] = some none
  wrong : ∀ r ∈ wrongHeads name, RowsOk [r, "end"] ∧ toldN [r, "end"] = some (some 0)
  b0 : ∀ t ∈ bodies_good name, t.length ≤ 1000 ∧ RowsOk (rowsB t) ∧ toldN (rowsB t) = some none
  b1 : ∀ t ∈ bodies_first name, t.length ≤ 1000 ∧ RowsOk (rowsB t) ∧ toldN (rowsB t) = some (some 1)
  b2 : ∀ t ∈ bodies_second name, t.length ≤ 1000 ∧ RowsOk (rowsB t) ∧ toldN (rowsB t) = some (some 2)
  b3 : ∀ t ∈ bodies_third name, t.length ≤ 1000 ∧ RowsOk (rowsB t) ∧ toldN (rowsB t) = some (some 3)
  many : ManyOk name
def spLaw (K : PySem.W.Frag) : Sp := fun vs H Q _ => ∃ (a : Addr) (ns : List Int), vs = [.ref a] ∧ SqL K H a (ns.map V.int) ∧ ns.length ≤ 63 ∧ ∀ H', Q (.bl true) H'
section
variable {P : Program} {w : World} {K : PySem.W.Frag} {mg : Str → Option Value} {base : Heap}
abbrev nL : List Str := ["script", "k", "feed", "name", "due", "texts", "text", "row"]
theorem scL : FnScope nL ["script"] (defScope sLaw) := ⟨rfl, rfl, rfl, by decide +kernel, rfl, by decide +kernel, by decide +kernel⟩
theorem ok_law {f fF fT fP fG fW fB fM fR : Addr} {fd fdF fdT fdP fdG fdW fdB fdM fdR : FuncData} (F : Fun K "law" "law" sLaw f fd)
    (GF : FnOk P w K mg base CX0 1 fF fdF ["script", "k"] (spFeed K)) (mF : mg "_law_feed" = some (.ref fF)) (kF : PySem.W.keepIn K (.ref fF) = true) (bF : Binds K fdF ["script", "k"] [])
    (GT : FnOk P w K mg base CX0 1 fT fdT ["feed", "many"] spTakeL) (mT : mg "_law_take" = some (.ref fT)) (kT : PySem.W.keepIn K (.ref fT) = true) (bT : Binds K fdT ["feed", "many"] [])
    (GP : FnOk P w K mg base CX0 2 fP fdP ["feed", "some"] spPickS) (mP : mg "_law_pick" = some (.ref fP)) (kP : PySem.W.keepIn K (.ref fP) = true) (bP : Binds K fdP ["feed", "some"] [])
    (GG : FnOk P w K mg base CX0 1 fG fdG ["name"] spGh) (mG : mg "_law_good_heads" = some (.ref fG)) (kG : PySem.W.keepIn K (.ref fG) = true) (bG : Binds K fdG ["name"] [])
    (GW : FnOk P w K mg base CX0 1 fW fdW ["name"] spWh) (mW : mg "_law_wrong_heads" = some (.ref fW)) (kW : PySem.W.keepIn K (.ref fW) = true) (bW : Binds K fdW ["name"] [])
    (GB : FnOk P w K mg base CX0 1 fB fdB ["name"] spBo) (mB : mg "_law_bodies" = some (.ref fB)) (kB : PySem.W.keepIn K (.ref fB) = true) (bB : Binds K fdB ["name"] [])
    (GM : FnOk P w K mg base CX0 8 fM fdM ["name"] spMany) (mM : mg "_law_many_right" = some (.ref fM)) (kM : PySem.W.keepIn K (.ref fM) = true) (bM : Binds K fdM ["name"] [])
    (GR : FnOk P w K mg base CX0 7 fR fdR ["rows"] (spTold K)) (mR : mg "_law_told" = some (.ref fR)) (kR : PySem.W.keepIn K (.ref fR) = true) (bR : Binds K fdR ["rows"] [])
    (mlen : mg "len" = none) (mmax : mg "max" = none) (mmin : mg "min" = none) (mrange : mg "range" = none)
    (hN : ∀ c ∈ letters.cps.toList, ∀ r : Int, 0 ≤ r → r < 8 → NameOk (repT ⟨#[c]⟩ (1 + r))) : FnOk P w K mg base CX0 9 f fd ["script"] (spLaw K) := by
  refine F.ok scL (fun vs H Q E h => ?_) (fun cdv A outer s H vs Q E hr h => ?_)
  · obtain ⟨a, ns, rfl, _⟩ := h
    rfl
  obtain ⟨a, ns, rfl, hS, hlen, k⟩ := h
  have hu := hr.units
  refine ⟨_, pss_cons (ps_for PassesOwn.never rfl (pi_range1 rfl mrange (pa_cons (pe_callB (call_max2 rfl) (by rfl) mmax (by decide +kernel) (pa_cons pe_int (pa_cons (pe_callB (call_min2 rfl) (by rfl) mmin (by decide +kernel) (pa_cons pe_int (pa_cons (pe_callB call_len_seq (by rfl) mlen PySem.boot_len (pa_cons (pv 0) pa_nil)) pa_nil))) pa_nil))) pa_nil)) (pg_name (i := 1) scL.nd rfl (.inl rfl))
      (pss_cons (ps_set (i := 2) scL.nd rfl (.inl rfl) (pe_call GF (hr.mono (by decide)) rfl mF kF bF .nil pass0 (pa_cons (pv 0) (pa_cons (pv 1) pa_nil))))
      (pss_join (ps_set (i := 3) scL.nd rfl (.inl rfl) (pe_op op_mul_strN (pe_call GP (hr.mono (by decide)) rfl mP kP bP .nil pass0 (pa_cons (pv 2) (pa_cons pe_str pa_nil))) (pe_op op_add pe_int (pe_call GT (hr.mono (by decide)) rfl mT kT bT .nil pass0 (pa_cons (pv 2) (pa_cons pe_int pa_nil))))))
      (pss_cons (ps_if (pt_cmpR (op_neD hu) (pe_lc (own := [("row", 7)]) (g := gName 7) rfl scL.nd (pi_list (pe_call GG (hr.mono (by decide)) rfl mG kG bG .nil pass0 (pa_cons (pv 3) pa_nil))) (blkOk_by (own := [("row", 7)]) (N := nL) (sc := defScope sLaw) (by decide +kernel)) (fun _ _ _ _ _ => pg_name (i := 7) scL.nd rfl (Or.inl rfl))
          (fun _ _ _ _ _ => by exact (pts_one (pt_cmpR op_notN (pe_call GR (hr.mono (by decide)) rfl mR kR bR .nil pass0 (pa_cons (pe_lst (pa_cons (pv 7) (pa_cons pe_str pa_nil))) pa_nil)) pe_non (nomark _)))) (fun _ _ _ _ _ => by exact (pv 7))) (pe_lst pa_nil) (nomark _)) (pss_one (ps_ret pe_bl)) pss_nil)
      (pss_cons (ps_if (pt_cmpR (op_neD hu) (pe_lc (own := [("row", 7)]) (g := gName 7) rfl scL.nd (pi_list (pe_call GW (hr.mono (by decide)) rfl mW kW bW .nil pass0 (pa_cons (pv 3) pa_nil))) (blkOk_by (own := [("row", 7)]) (N := nL) (sc := defScope sLaw) (by decide +kernel)) (fun _ _ _ _ _ => pg_name (i := 7) scL.nd rfl (Or.inl rfl))
          (fun _ _ _ _ _ => by exact (pts_one (pt_cmpR op_ne (pe_call GR (hr.mono (by decide)) rfl mR kR bR .nil pass0 (pa_cons (pe_lst (pa_cons (pv 7) (pa_cons pe_str pa_nil))) pa_nil)) pe_int (nomark _)))) (fun _ _ _ _ _ => by exact (pv 7))) (pe_lst pa_nil) (nomark _)) (pss_one (ps_ret pe_bl)) pss_nil)
      (pss_cons (ps_for PassesOwn.never rfl (pi_list (pe_call GB (hr.mono (by decide)) rfl mB kB bB .nil pass0 (pa_cons (pv 3) pa_nil))) (pg_tup (by rfl) (pgs_cons (pg_name (i := 4) scL.nd rfl (.inl rfl)) (pgs_cons (pg_name (i := 5) scL.nd rfl (.inl rfl)) pgs_nil)))
        (pss_one (ps_for PassesOwn.never rfl (pi_list (pv 5)) (pg_name (i := 6) scL.nd rfl (.inl rfl))
          (pss_one (ps_if (pt_cmpR op_ne (pe_call GR (hr.mono (by decide)) rfl mR kR bR .nil pass0 (pa_cons (pe_op op_cat (pe_lst (pa_cons pe_str pa_nil)) (pe_split (pv 6) pe_str)) pa_nil)) (pv 4) (nomark _)) (pss_one (ps_ret pe_bl)) pss_nil)))))
      (pss_one (ps_if (pt_not (pt_val (pe_call GM hr rfl mM kM bM .nil pass0 (pa_cons (pv 3) pa_nil)))) (pss_one (ps_ret pe_bl)) pss_nil))))))))
    (pss_one (ps_ret pe_bl)), ?_⟩
  refine ⟨_, rfl, a, _, rfl, .inl hS, _, _, rfl, _, _, rfl, _, rfl, by split <;> split <;> omega, by split <;> split <;> omega, ?_⟩
  refine for_range (lo := 0) (fun i σ H1 => ∃ v1 v2 v3 v4 v5 v6 v7 : Option V, σ = [some (.ref a), v1, v2, v3, v4, v5, v6, v7] ∧ Same H H1) ⟨_, _, _, _, _, _, _, rfl, Same.refl _⟩ ?turn1 ?done1
  case done1 =>
    rintro σ H1 ⟨v1, v2, v3, v4, v5, v6, v7, rfl, s1⟩
    exact k H1
  rintro i σ H1 hi ⟨v1, v2, v3, v4, v5, v6, v7, rfl, s1⟩
  have hi6 : i < 64 := by
    have hi := hi
    rw [List.length_map] at hi
    split at hi <;> split at hi <;> omega
  clear hi
  refine ⟨_, rfl, _, rfl, a, ns, _, rfl, s1.seq hS, by omega, by omega, fun p d0 st0 hd0 hp => ?_⟩
  have hHp : H p = none := s1.free hp
  refine ⟨fun σ H3 => ∃ name, σ = [some (.ref a), some (.int (0 + (i : Int))), some (.ref p), some (.str name), v4, v5, v6, v7] ∧ Same H H3 ∧ NameOk name, ?_, ?_⟩
  · refine ⟨_, rfl, p, d0, st0, _, rfl, upd_same, hd0, by decide +kernel, by decide +kernel, fun c d1 st1 hc hd1 => ?_⟩
    refine ⟨_, rfl, p, d1, st1, 8, rfl, upd_same, hd1, by decide, by decide, fun r d2 st2 hd2 h0 h8 => ⟨_, _, rfl, rfl, ?_⟩⟩
    refine ⟨⟨#[c]⟩, 1 + r, rfl, rfl, by omega, by omega, by show 0 < 1; decide, by show 1 ≤ 100; decide, _, rfl, ?_, hN c hc r h0 h8⟩
    exact same_put (same_put (same_put s1 hHp) hHp) hHp
  rintro σ H3 ⟨name, rfl, s3, hn⟩
  -- the good heads
  refine ⟨_, rfl, name, rfl, hn.len, fun L H4 s4 hL => ⟨L, rfl, ⟨_, .of hL⟩, fun D hD => ?_⟩⟩
  refine out_it (walk_list (xs := (goodHeads name).map V.str)) (fun j H' => Same H4 H' ∧ H' D = some (.lst [])) ⟨upd_new hD, upd_same⟩ (fun j H' _ q => .of (q.1 _ _ hL)) ?_ ?_
  · rintro j x H5 H6 hj ⟨s5, hD5⟩ ⟨rfl, hx⟩
    rw [List.getElem?_map] at hx
    obtain ⟨row, hrow, rfl⟩ := Option.map_eq_some_iff.mp hx
    obtain ⟨o1, o2⟩ := hn.good row (List.mem_of_getElem? hrow)
    refine ⟨rfl, _, rfl, small1 (by show 2 ≤ 8; decide), fun q hq => ⟨q, [row, "end"], rfl, .of upd_same, o1, fun H7 s7 => ⟨rfl, _, rfl, ?_⟩⟩⟩
    rw [o2]
    show if (!decide (V.non = V.non)) = true then _ else _
    rw [decide_eq_true rfl]
    exact iteF ⟨s5.trans ((upd_new hq).trans s7), s7 _ _ ((upd_ne (ne_of_none hD5 hq)).trans hD5)⟩
  rintro H5 ⟨s5, hD5⟩
  refine ⟨small1 (by show 0 ≤ 8; decide), fun e0 he0 => ⟨.list [], .list [], .lst (.of ((upd_new he0) _ _ hD5)) .nil, .lst (.of upd_same) .nil, rfl, rfl, _, rfl, iteF ?_⟩⟩
  have s6 := s3.trans (s4.trans (s5.trans (upd_new (o := HO.lst []) he0)))
  generalize upd H5 e0 (HO.lst []) = H6 at s6 ⊢
  clear s5 hD5 he0 hD hL s4 s3
  -- the wrong heads
  refine ⟨_, rfl, name, rfl, hn.len, fun L2 H7 s7 hL2 => ⟨L2, rfl, ⟨_, .of hL2⟩, fun D2 hD2 => ?_⟩⟩
  refine out_it (walk_list (xs := (wrongHeads name).map V.str)) (fun j H' => Same H7 H' ∧ H' D2 = some (.lst [])) ⟨upd_new hD2, upd_same⟩ (fun j H' _ q => .of (q.1 _ _ hL2)) ?_ ?_
  · rintro j x H8 H9 hj ⟨s8, hD8⟩ ⟨rfl, hx⟩
    rw [List.getElem?_map] at hx
    obtain ⟨row, hrow, rfl⟩ := Option.map_eq_some_iff.mp hx
    obtain ⟨o1, o2⟩ := hn.wrong row (List.mem_of_getElem? hrow)
    refine ⟨rfl, _, rfl, small1 (by show 2 ≤ 8; decide), fun q hq => ⟨q, [row, "end"], rfl, .of upd_same, o1, fun H10 s10 => ⟨?_, _, rfl, ?_⟩⟩⟩
    · rw [o2]
      rfl
    rw [o2]
    show if (!decide (V.int 0 = V.int 0)) = true then _ else _
    rw [decide_eq_true rfl]
    exact iteF ⟨s8.trans ((upd_new hq).trans s10), s10 _ _ ((upd_ne (ne_of_none hD8 hq)).trans hD8)⟩
  rintro H8 ⟨s8, hD8⟩
  refine ⟨small1 (by show 0 ≤ 8; decide), fun e0 he0 => ⟨.list [], .list [], .lst (.of ((upd_new he0) _ _ hD8)) .nil, .lst (.of upd_same) .nil, rfl, rfl, _, rfl, iteF ?_⟩⟩
  have s9 := s6.trans (s7.trans (s8.trans (upd_new (o := HO.lst []) he0)))
  generalize upd H8 e0 (HO.lst []) = H9 at s9 ⊢
  clear s8 hD8 he0 hD2 hL2 s7 s6
  -- the bodies
  refine ⟨_, rfl, name, rfl, hn.len, fun L3 t0 t1 t2 t3 a0 a1 a2 a3 HA sA hL3 ht0 ht1 ht2 ht3 ha0 ha1 ha2 ha3 => ⟨L3, rfl, ⟨_, .of hL3⟩, ?_⟩⟩
  have s9A := s9.trans sA
  refine for_it (walk_list (xs := [V.ref t0, V.ref t1, V.ref t2, V.ref t3])) (fun j σ H' => ∃ w4 w5 w6 w7 : Option V, σ = [some (.ref a), some (.int (0 + (i : Int))), some (.ref p), some (.str name), w4, w5, w6, w7] ∧ Same HA H') ⟨_, _, _, _, rfl, Same.refl _⟩ (fun j σ H' _ q => ?_) ?turn2 ?done2
  · obtain ⟨_, _, _, _, _, z⟩ := q
    exact .of (z _ _ hL3)
  case done2 =>
    rintro σ HB ⟨w4, w5, w6, w7, rfl, sB⟩
    refine ⟨_, rfl, name, rfl, hn.len, hn.many, fun HC sC => ⟨_, rfl, iteF ⟨_, _, _, _, _, _, _, rfl, s9A.trans (sB.trans sC)⟩⟩⟩
  case turn2 =>
    rintro j x σ HB HB' hj ⟨w4, w5, w6, w7, rfl, sB⟩ ⟨rfl, hx⟩
    obtain ⟨tv, al, texts, code, rfl, hcode, htv, hal, hall⟩ : ∃ (tv al : Addr) (texts : List Str) (code : Option (Option Nat)), x = .ref tv ∧ (code = some none ∨ ∃ n, code = some (some n)) ∧ HA tv = some (.tup [toldV code, .ref al]) ∧ HA al = some (.lst (texts.map V.str)) ∧ ∀ t ∈ texts, t.length ≤ 1000 ∧ RowsOk (rowsB t) ∧ toldN (rowsB t) = code := by
      have hj4 : j < 4 := hj
      have hx : ([V.ref t0, V.ref t1, V.ref t2, V.ref t3] : List V)[j]? = some x := hx
      match j, hj4, hx with
      | 0, _, hx =>
        cases hx
        exact ⟨t0, a0, bodies_good name, some none, rfl, .inl rfl, ht0, ha0, hn.b0⟩
      | 1, _, hx =>
        cases hx
        exact ⟨t1, a1, bodies_first name, some (some 1), rfl, .inr ⟨_, rfl⟩, ht1, ha1, hn.b1⟩
      | 2, _, hx =>
        cases hx
        exact ⟨t2, a2, bodies_second name, some (some 2), rfl, .inr ⟨_, rfl⟩, ht2, ha2, hn.b2⟩
      | 3, _, hx =>
        cases hx
        exact ⟨t3, a3, bodies_third name, some (some 3), rfl, .inr ⟨_, rfl⟩, ht3, ha3, hn.b3⟩
    refine ⟨tv, _, rfl, .of (sB _ _ htv), rfl, _, _, rfl, _, _, rfl, rfl, ?_⟩
    refine ⟨_, rfl, al, rfl, ⟨_, .of (sB _ _ hal)⟩, ?_⟩
    refine for_it (walk_list (xs := texts.map V.str)) (fun m σ H' => ∃ u6 u7 : Option V, σ = [some (.ref a), some (.int (0 + (i : Int))), some (.ref p), some (.str name), some (toldV code), some (.ref al), u6, u7] ∧ Same HA H') ⟨_, _, rfl, sB⟩ (fun m σ H' _ q => ?_) ?turn3 ?done3
    · obtain ⟨_, _, _, z⟩ := q
      exact .of (z _ _ hal)
    case done3 =>
      rintro σ HC ⟨u6, u7, rfl, sC⟩
      exact ⟨_, _, _, _, rfl, sC⟩
    case turn3 =>
      rintro m x σ HC HC' hm ⟨u6, u7, rfl, sC⟩ ⟨rfl, hx⟩
      rw [List.getElem?_map] at hx
      obtain ⟨text, htx, rfl⟩ := Option.map_eq_some_iff.mp hx
      obtain ⟨o0, o1, o2⟩ := hall text (List.mem_of_getElem? htx)
      refine ⟨small1 (by show 1 ≤ 8; decide), fun q1 h1 => ⟨_, rfl, ⟨_, rfl⟩, _, _, rfl, rfl, by decide +kernel, by rw [sizeLine_eq]; omega, fun q2 h2 => ⟨q1, q2, _, _, rfl, rfl, (upd_new h2) _ _ upd_same, upd_same, ?_, fun q3 h3 => ⟨q3, rowsB text, rfl, .of (by rw [upd_same]; unfold rowsB; rw [List.map_append]; rfl), o1, fun HD sD => ⟨_, rfl, ?_, _, rfl, ?_⟩⟩⟩⟩⟩
      · have z := o1.len
        unfold rowsB at z
        rw [List.length_append] at z
        rw [List.length_map, sizeLine_eq]
        have : (["block y(x; u v)"] : List Str).length = 1 := rfl
        show 1 + _ ≤ _
        omega
      · rw [o2]
        rcases hcode with rfl | ⟨n, rfl⟩ <;> rfl
      · rw [o2, decide_eq_true rfl]
        exact iteF ⟨_, _, rfl, sC.trans ((upd_new h1).trans ((upd_new h2).trans ((upd_new h3).trans sD)))⟩
end
end K8
namespace K8
open PySem L2 Own StX ClX NdefX
theorem app3 (a b c : Str) : a ++ b ++ c = a ++ (b ++ c) := TL.ext_tl (by rw [TL.tl_append, TL.tl_append, TL.tl_append, TL.tl_append, List.append_assoc])
theorem sub_take (x y : Str) : Builtin.Str.subAt x y 0 = decide (x.cps.toList.take y.length = y.cps.toList) := by
  have e : (x.cps.extract 0 (0 + y.length)).toList = x.cps.toList.take y.length := by simp
  rw [Bool.eq_iff_iff, decide_eq_true_eq, ← e]
  unfold Builtin.Str.subAt
  constructor
  · intro h
    exact congrArg Array.toList (eq_of_beq h)
  · intro h
    exact beq_iff_eq.mpr (Array.toList_inj.mp h)
theorem sub_app (a b : Str) : Builtin.Str.subAt (a ++ b) a 0 = true := by
  rw [sub_take, decide_eq_true_eq]
  have e : (a ++ b).cps.toList = a.cps.toList ++ b.cps.toList := TL.tl_append a b
  rw [e, List.take_append_of_le_length (by rw [Array.length_toList]; exact Nat.le_refl _)]
  rw [List.take_of_length_le (by rw [Array.length_toList]; exact Nat.le_refl _)]
theorem starts_app (a b : Str) : Txt.startswith (a ++ b) a = true := by
  unfold Txt.startswith
  rw [sub_app, Bool.and_true, decide_eq_true_eq, sl]
  omega
theorem rmp_app (a b : Str) : Txt.removeprefix (a ++ b) a = b := by
  rw [StrLaws.removeprefix_eq, sub_app, Bool.and_true, if_pos (by rw [decide_eq_true_eq, sl]; omega)]
  have e : (a ++ b).cps.toList = a.cps.toList ++ b.cps.toList := TL.tl_append a b
  have la : a.cps.toList.length = a.length := Array.length_toList
  have lb : b.cps.toList.length = b.length := Array.length_toList
  refine TL.ext_tl ?_
  show ((((a ++ b).cps.toList.drop a.length).take ((a ++ b).length - a.length)).toArray).toList = b.cps.toList
  rw [e, List.drop_append_of_le_length (by omega), sl, List.drop_of_length_le (by omega), List.nil_append, Nat.add_sub_cancel_left, List.take_of_length_le (by omega)]
theorem nm_tl {x : Str} (h : isNm x = true) {c : Nat} (hc : c ∈ TL.tl x) : 97 ≤ c ∧ c ≤ 122 := by
  unfold isNm at h
  rw [Bool.and_eq_true] at h
  have z := List.all_eq_true.mp h.2 c hc
  unfold isL at z
  rw [Bool.and_eq_true, decide_eq_true_eq, decide_eq_true_eq] at z
  exact z
def partR (n b : Str) : Str := ("  part " : Str) ++ (n ++ " = " ++ b)
theorem partT_R (n b : Str) : partT (n, b) = partR n b := by
  unfold partT partR
  show (("  part " : Str) ++ n) ++ " = " ++ b = _
  rw [app3, app3, app3]
theorem part_parts {n : Str} (b : Str) (h : 32 ∉ TL.tl n) : partName (partR n b) = n ∧ partBlock (partR n b) = b := by
  unfold partName partBlock partR
  rw [rmp_app, TL.partition_app (y := " = ") (s := 32) (S := [61, 32]) (by decide +kernel) h]
  exact ⟨rfl, rfl⟩
theorem part_step {st : RS} {r : Str × List Str × List Str} (n b : Str) (hh : st.head = some r) (hw : st.wires = []) (hd : st.done = false) (h : 32 ∉ TL.tl n) : step st (partR n b) = (takePart st.parts (partR n b)).map fun ps => { st with parts := ps } := by
  obtain ⟨hd0, ps, ws, dn⟩ := st
  subst hh
  subst hw
  subst hd
  obtain ⟨a, i, o⟩ := r
  unfold step
  dsimp only
  have hs : Txt.startswith (partR n b) "  part " = true := starts_app _ _
  have he : ¬ partR n b = "end" := fun z => by
    rw [z] at hs
    exact absurd hs (by decide +kernel)
  rw [if_neg Bool.false_ne_true, if_neg he, if_pos hs, if_pos (show ([] : List (Port × Port)).isEmpty = true from rfl)]
theorem part_ok {ps : List (Str × Str)} {n b : Str} (hn : isNm n = true) (hm : ¬ n ∈ ps.map (·.1)) (hl : ps.length < 16) (hb : (readP b).isSome = true ∨ isDN b = true) : takePart ps (partR n b) = some (ps ++ [(n, b)]) := by
  have h32 : 32 ∉ TL.tl n := fun z => by have := nm_tl hn z; omega
  obtain ⟨e1, e2⟩ := part_parts b h32
  unfold takePart
  rw [e1, e2, if_pos ⟨hl, hn, hm, hb⟩]
/-! ### the parts of the law -/
def nk (name : Str) (k : Nat) : Str := ⟨#[97 + k]⟩ ++ cutS name none (some 7)
theorem pt_R (name : Str) (k : Nat) : pt name k = partR (nk name k) "add" := by
  unfold pt partR nk
  rw [show ((" = add" : Str)) = (" = " : Str) ++ "add" by decide +kernel]
  simp only [app3]
theorem nk_ne {name : Str} {j k : Nat} (h : nk name j = nk name k) : j = k := by
  have e := congrArg (fun x : Str => x.cps.toList.head?) h
  have e1 : ∀ i, (nk name i).cps.toList.head? = some (97 + i) := fun i => by
    show (TL.tl (nk name i)).head? = _
    unfold nk
    rw [TL.tl_append]
    rfl
  simp only [e1] at e
  have := Option.some.inj e
  omega
def stY : RS := ⟨some ("y", [], []), [], [], false⟩
def psOf (name : Str) (l : List Nat) : List (Str × Str) := l.map fun k => (nk name k, ("add" : Str))
theorem run_parts {name : Str} (hn : ∀ k < 17, isNm (nk name k) = true) : ∀ (l : List Nat) (a k : Nat) (rest : List Str), l = List.range' a l.length → a + l.length ≤ 16 →
    run ⟨some ("y", [], []), psOf name (List.range a), [], false⟩ k (l.map (pt name) ++ rest) = run ⟨some ("y", [], []), psOf name (List.range (a + l.length)), [], false⟩ (k + l.length) rest
  | [], a, k, rest, _, _ => rfl
  | x :: l, a, k, rest, e, hl => by
    rw [List.length_cons, List.range'_succ] at e
    obtain ⟨rfl, e2⟩ := List.cons.inj e
    rw [List.length_cons] at hl
    have hx : x < 17 := by omega
    have h1 := hn x hx
    have h32 : 32 ∉ TL.tl (nk name x) := fun z => by have := nm_tl h1 z; omega
    have hm : ¬ nk name x ∈ (psOf name (List.range x)).map (·.1) := fun z => by
      unfold psOf at z
      rw [List.map_map] at z
      obtain ⟨j, hj, ej⟩ := List.mem_map.mp z
      have := List.mem_range.mp hj
      have := nk_ne ej
      omega
    have hpl : (psOf name (List.range x)).length < 16 := by
      unfold psOf
      rw [List.length_map, List.length_range]
      omega
    have ih := run_parts hn l (x + 1) (k + 1) rest e2 (by omega)
    have hs : step ⟨some ("y", [], []), psOf name (List.range x), [], false⟩ (pt name x) = some ⟨some ("y", [], []), psOf name (List.range (x + 1)), [], false⟩ := by
      rw [pt_R, part_step (r := ("y", [], [])) _ _ rfl rfl rfl h32, part_ok h1 hm hpl (.inl (by decide +kernel))]
      unfold psOf
      rw [List.range_succ, List.map_append]
      rfl
    rw [List.map_cons, List.cons_append, run, hs]
    dsimp only
    rw [ih, List.length_cons]
    have e3 : x + 1 + l.length = x + (l.length + 1) := by omega
    have e4 : k + 1 + l.length = k + (l.length + 1) := by omega
    rw [e3, e4]
theorem step_y : step st0 "block y(;)" = some stY := by
  have h : (match step st0 "block y(;)" with | some ⟨some (n, i, o), ps, ws, d⟩ => decide (n = "y" ∧ i = [] ∧ o = [] ∧ ps = [] ∧ d = false) && ws.isEmpty | _ => false) = true := by decide +kernel
  revert h
  cases step st0 "block y(;)" with
  | none => exact fun h => by cases h
  | some st =>
    obtain ⟨hd, ps, ws, d⟩ := st
    cases hd with
    | none => exact fun h => by cases h
    | some r =>
      obtain ⟨n, i, o⟩ := r
      intro h
      rw [Bool.and_eq_true, decide_eq_true_eq] at h
      obtain ⟨⟨rfl, rfl, rfl, rfl, rfl⟩, hw⟩ := h
      rw [List.isEmpty_iff.mp hw]
      rfl
theorem run_y (rest : List Str) : run st0 0 ((["block y(;)"] : List Str) ++ rest) = run stY 1 rest := by
  rw [List.singleton_append, run, step_y]
end K8
namespace K8
open PySem L2 Own StX ClX NdefX
theorem order_nil (ps : List (Str × Str)) : wiresOf ps [] [] = [] := by
  unfold wiresOf orderT gOf
  have e : (ps.flatMap fun p => (sortS ((([] : List (Port × Port)).filter fun w => decide (w.1.1 = p.1)).map fun w => w.1.2)).map fun n => (p.1, n)) = [] := by
    induction ps with
    | nil => rfl
    | cons p r ih =>
      rw [List.flatMap_cons, ih]
      rfl
  rw [e]
  rfl
theorem many_t1 {name : Str} (hn : ∀ k < 17, isNm (nk name k) = true) : toldN (((["block y(;)"] : List Str) ++ (pts name).take 16 ++ (["end"] : List Str))) = some none := by
  have e : (pts name).take 16 = (List.range' 0 16).map (pt name) := by
    unfold pts
    rw [← List.map_take]
    rfl
  have hr := run_parts hn (List.range' 0 16) 0 1 ["end"] (by rw [List.length_range']) (by rw [List.length_range']; decide)
  have hR : run st0 0 ((["block y(;)"] : List Str) ++ (pts name).take 16 ++ (["end"] : List Str)) = .inr ⟨some ("y", [], []), psOf name (List.range 16), [], true⟩ := by
    rw [List.append_assoc, run_y, e]
    show run ⟨some ("y", [], []), psOf name (List.range 0), [], false⟩ 1 _ = _
    rw [hr, List.length_range']
    rfl
  unfold toldN
  rw [hR]
  dsimp only
  rw [if_pos]
  rw [order_nil]
  congr 1
  unfold rowsT
  rw [show headT "y" [] [] = "block y(;)" by decide +kernel, e]
  have e2 : (psOf name (List.range 16)).map partT = (List.range' 0 16).map (pt name) := by
    unfold psOf
    rw [List.map_map, List.range_eq_range']
    refine List.map_congr_left fun k _ => ?_
    rw [pt_R, ← partT_R]
    rfl
  rw [e2]
  rfl
theorem many_t2 {name : Str} (hn : ∀ k < 17, isNm (nk name k) = true) : toldN (((["block y(;)"] : List Str) ++ pts name ++ (["end"] : List Str))) = some (some 17) := by
  have e : pts name = (List.range' 0 16).map (pt name) ++ [pt name 16] := by
    unfold pts
    rw [List.range_eq_range']
    rfl
  have hr := run_parts hn (List.range' 0 16) 0 1 ([pt name 16] ++ (["end"] : List Str)) (by rw [List.length_range']) (by rw [List.length_range']; decide)
  have h1 := hn 16 (by decide)
  have h32 : 32 ∉ TL.tl (nk name 16) := fun z => by have := nm_tl h1 z; omega
  have hs : step ⟨some ("y", [], []), psOf name (List.range 16), [], false⟩ (pt name 16) = none := by
    rw [pt_R, part_step (r := ("y", [], [])) _ _ rfl rfl rfl h32]
    unfold takePart
    rw [if_neg]
    · rfl
    · intro q
      have q1 : (psOf name (List.range 16)).length < 16 := q.1
      unfold psOf at q1
      rw [List.length_map, List.length_range] at q1
      exact absurd q1 (by decide)
  have hR : run st0 0 ((["block y(;)"] : List Str) ++ pts name ++ (["end"] : List Str)) = .inl 17 := by
    rw [List.append_assoc, run_y, e, List.append_assoc]
    show run ⟨some ("y", [], []), psOf name (List.range 0), [], false⟩ 1 _ = _
    rw [hr, List.length_range']
    show run _ 17 (pt name 16 :: _) = _
    rw [run, hs]
  unfold toldN
  rw [hR]
end K8
namespace K8
open PySem L2 Own StX ClX NdefX
theorem run_2 {st st' : RS} {k : Nat} {r : Str} {rest : List Str} (h : step st r = some st') : run st k (r :: rest) = run st' (k + 1) rest := by rw [run, h]
theorem many_t4 : toldN ((["block y(;)"] : List Str) ++ (List.replicate 9999 (["end"] : List Str)).flatten) = some (some 2) := by
  have e : step stY "end" = some { stY with done := true } := by
    unfold step stY
    dsimp only
    rw [if_neg Bool.false_ne_true, if_pos rfl]
  have e3 : step { stY with done := true } "end" = none := by
    unfold step stY
    dsimp only
    rw [if_pos rfl]
  have e2 : (List.replicate 9999 (["end"] : List Str)).flatten = ("end" : Str) :: ("end" : Str) :: (List.replicate 9997 (["end"] : List Str)).flatten := by
    rw [List.replicate_succ, List.replicate_succ, List.flatten_cons, List.flatten_cons, List.singleton_append, List.singleton_append]
  have hR : run st0 0 ((["block y(;)"] : List Str) ++ (List.replicate 9999 (["end"] : List Str)).flatten) = .inl 2 := by
    rw [run_y, e2, run_2 e, run, e3]
  unfold toldN
  rw [hR]
end K8
namespace K8
open PySem L2 Own StX ClX NdefX
theorem rep1 (c : Nat) (n : Nat) : (repT ⟨#[c]⟩ (n : Int)).cps.toList = List.replicate n c := by
  rw [repT_tl, Int.toNat_natCast]
  induction n with
  | zero => rfl
  | succ n ih => rw [List.replicate_succ, List.flatten_cons, ih, List.replicate_succ]; rfl
theorem rep2 (c : Nat) (n : Nat) (m : Int) (h : m = (n : Int)) : TL.tl (repT ⟨#[c]⟩ m) = List.replicate n c := by rw [h]; exact rep1 c n
theorem u_tl : TL.tl (repT "u" 99999) = List.replicate 99999 117 := by
  rw [show ("u" : Str) = ⟨#[117]⟩ by decide +kernel]
  exact rep2 117 99999 99999 (by decide)
theorem s_tl : TL.tl (repT " " 9999) = List.replicate 9999 32 := by
  rw [show (" " : Str) = ⟨#[32]⟩ by decide +kernel]
  exact rep2 32 9999 9999 (by decide)
theorem rep_not {n c d : Nat} {x : Str} (h : TL.tl x = List.replicate n c) (k : d ≠ c) : d ∉ TL.tl x := fun z => by
  rw [h] at z
  exact k (List.mem_replicate.mp z).2
end K8
namespace K8
open PySem L2 Own StX ClX NdefX
theorem starts_not {x y : Str} (h : ¬ x.cps.toList.take y.length = y.cps.toList) : Txt.startswith x y = false := by
  unfold Txt.startswith
  rw [sub_take, decide_eq_false h, Bool.and_false]
theorem wire_no {x : Str} (h : Txt.startswith (("  " : Str) ++ x) "  part " = false) (he : ¬ ("  " : Str) ++ x = "end") (n32 : 32 ∉ TL.tl x) (n46 : 46 ∉ TL.tl x) : step stY (("  " : Str) ++ x) = none := by
  unfold step stY
  dsimp only
  rw [if_neg Bool.false_ne_true, if_neg he, if_neg (by rw [h]; exact Bool.false_ne_true)]
  unfold takeWire
  rw [if_pos (starts_app _ _)]
  unfold wireTarget
  rw [rmp_app, TL.partition_none (y := " <- ") (s := 32) (S := [60, 45, 32]) (by decide +kernel) n32]
  unfold readPort
  rw [TL.partition_none (y := ".") (s := 46) (S := []) (by decide +kernel) n46, if_pos (show ((x, Str.empty, Str.empty) : Str × Str × Str).2.1.length = 0 from rfl), if_neg (fun z => nomatch z)]
  rfl
theorem two_row {r : Str} (h : step stY r = none) : toldN ["block y(;)", r] = some (some 1) := by
  have hR : run st0 0 ((["block y(;)"] : List Str) ++ [r]) = .inl 1 := by rw [run_y, run, h]
  unfold toldN
  rw [show (["block y(;)", r] : List Str) = (["block y(;)"] : List Str) ++ [r] from rfl, hR]
theorem rep_head {n c : Nat} {x : Str} (h : TL.tl x = List.replicate n c) : (("  " : Str) ++ x).cps.toList = 32 :: 32 :: List.replicate n c := by
  show TL.tl _ = _
  rw [TL.tl_append, h, show TL.tl ("  " : Str) = [32, 32] by decide +kernel]
  rw [List.cons_append, List.cons_append, List.nil_append]
theorem wire_rep {n : Nat} {x : Str} (h : TL.tl x = List.replicate n 117) (hn : 5 ≤ n) : step stY (("  " : Str) ++ x) = none := by
  have hT := rep_head h
  refine wire_no (starts_not ?_) (fun z => ?_) (rep_not h (by decide)) (rep_not h (by decide))
  · rw [hT, show (("  part " : Str)).length = 7 by decide +kernel, List.take_succ_cons, List.take_succ_cons, List.take_replicate, Nat.min_eq_left hn]
    decide +kernel
  · have e : (("end" : Str)).cps.toList.head? = some 32 := by rw [← z, hT]; rfl
    exact absurd e (by decide +kernel)
theorem many_t5 : toldN ["block y(;)", ("  " : Str) ++ repT "u" 99999] = some (some 1) := two_row (wire_rep u_tl (by decide))
theorem headT_ge (n : Str) (i o : List Str) : n.length + 9 ≤ (headT n i o).length := by
  unfold headT
  rw [sl, sl, sl, sl, sl, sl, show (("block " : Str)).length = 6 by decide +kernel, show (("(" : Str)).length = 1 by decide +kernel, show ((";" : Str)).length = 1 by decide +kernel, show ((")" : Str)).length = 1 by decide +kernel]
  omega
theorem head_no {x : Str} (n40 : 40 ∉ TL.tl x) (hp : Txt.removeprefix x "block " = x) : step st0 x = none := by
  unfold step st0
  dsimp only
  rw [if_neg]
  intro ok
  have h := ok.1
  unfold isHead at h
  have h := congrArg Str.length (of_decide_eq_true h)
  have g := headT_ge (headName x) (headIns x) (headOuts x)
  rw [h] at g
  unfold headName at g
  rw [hp, TL.partition_none (y := "(") (s := 40) (S := []) (by decide +kernel) n40] at g
  dsimp only at g
  omega
theorem one_row {r : Str} (h : step st0 r = none) : toldN [r] = some (some 0) := by
  have hR : run st0 0 [r] = .inl 0 := by rw [run, h]
  unfold toldN
  rw [hR]
theorem prefix_no {n : Nat} {x : Str} (h : TL.tl x = List.replicate n 32) (hn : 6 ≤ n) : Txt.removeprefix x "block " = x := by
  rw [StrLaws.removeprefix_eq, if_neg]
  rw [sub_take]
  have : ¬ x.cps.toList.take (("block " : Str)).length = (("block " : Str)).cps.toList := by
    rw [show x.cps.toList = List.replicate n 32 from h, show (("block " : Str)).length = 6 by decide +kernel, List.take_replicate, Nat.min_eq_left hn]
    decide +kernel
  rw [decide_eq_false this, Bool.and_false]
  exact Bool.false_ne_true
theorem many_t7 : toldN [repT " " 9999] = some (some 0) := one_row (head_no (rep_not s_tl (by decide)) (prefix_no s_tl (by decide)))
theorem const_no {x : Str} (h : 10 < x.length) : step stY (("  part p = const " : Str) ++ x) = none := by
  have eR : ("  part p = const " : Str) ++ x = partR "p" (("const" : Str) ++ " " ++ x) := by
    unfold partR
    rw [show ("  part p = const " : Str) = ("  part " : Str) ++ ("p" ++ " = " ++ ("const" ++ " ")) by decide +kernel]
    simp only [app3]
  rw [eR, part_step (r := ("y", [], [])) _ _ rfl rfl rfl (by decide +kernel)]
  unfold takePart
  obtain ⟨e1, e2⟩ := part_parts (n := "p") (("const" : Str) ++ " " ++ x) (by decide +kernel)
  rw [e2, if_neg]
  · rfl
  · intro q
    have hr : readV x = none := by
      unfold readV
      rw [if_neg]
      intro z
      unfold dig10 at z
      rw [Bool.and_eq_true, Bool.and_eq_true, decide_eq_true_eq, decide_eq_true_eq] at z
      omega
    have hp : Txt.partition (("const" : Str) ++ " " ++ x) " " = (("const" : Str), (" " : Str), x) := TL.partition_app (y := " ") (s := 32) (S := []) (a := "const") (b := x) (by decide +kernel) (by decide +kernel)
    rcases q.2.2.2 with q | q
    · unfold readP at q
      rw [hp] at q
      dsimp only at q
      rw [hr, if_pos (show ("const" : Str) ∈ words9 by decide +kernel), if_pos (.inl rfl)] at q
      cases q
    · unfold isDN at q
      rw [Bool.and_eq_true] at q
      have := isNm_len q.1
      rw [sl] at this
      omega
theorem many_t6 : toldN ["block y(;)", ("  part p = const " : Str) ++ repT "9" 5000] = some (some 1) := by
  refine two_row (const_no ?_)
  rw [repT_len, show (("9" : Str)).length = 1 by decide +kernel, show (5000 : Int).toNat = 5000 from rfl]
  decide
end K8
namespace K8
open PySem L2 Own StX ClX NdefX
def rowsOkB (rows : List Str) : Bool := !rows.isEmpty && rows.all (fun r => !(TL.tl r).contains 10 && decide (r.length ≤ 190000)) && decide (rows.length ≤ 10100) && decide ((rows.map (·.length)).sum ≤ 1000000)
theorem rowsOk_of {rows : List Str} (h : rowsOkB rows = true) : RowsOk rows := by
  unfold rowsOkB at h
  simp only [Bool.and_eq_true, Bool.not_eq_true', decide_eq_true_eq, List.all_eq_true] at h
  obtain ⟨⟨⟨h1, h2⟩, h3⟩, h4⟩ := h
  refine ⟨fun z => by (rw [z] at h1; cases h1), fun r hr hm => ?_, h3, fun r hr => (h2 r hr).2, h4⟩
  have z := (h2 r hr).1
  rw [List.contains_iff_mem.mpr hm] at z
  cases z
def chk (rows : List Str) (v : Option (Option Nat)) : Bool := rowsOkB rows && decide (toldN rows = v)
theorem chk_of {rows : List Str} {v : Option (Option Nat)} (h : chk rows v = true) : RowsOk rows ∧ toldN rows = v := by
  unfold chk at h
  rw [Bool.and_eq_true, decide_eq_true_eq] at h
  exact ⟨rowsOk_of h.1, h.2⟩
def chkT (v : Option (Option Nat)) (t : Str) : Bool := decide (t.length ≤ 1000) && chk ((["block y(x; u v)"] : List Str) ++ Txt.split t "|") v
def goodH (name : Str) : Str := (("block " : Str) ++ name) ++ "(in; out)"
def wrongH (name : Str) : Str := (("block " : Str) ++ Txt.upper name) ++ "(;)"
def goodP (name : Str) : Str := (("  part " : Str) ++ name) ++ " = add|end"
def goodA : List Str := (goodHeads Str.empty).take 14
def wrongA : List Str := (wrongHeads Str.empty).take 51
def bodyA : List Str := (bodies_good Str.empty).drop 1
theorem good_eq (name : Str) : goodHeads name = goodA ++ ([goodH name, "block y(;)", "block y(a; b c)"] : List Str) := rfl
theorem wrong_eq (name : Str) : wrongHeads name = wrongA ++ (["block y((;)", wrongH name, "", "end", "block  y(;)"] : List Str) := rfl
theorem body_eq (name : Str) : bodies_good name = goodP name :: bodyA := rfl
def names (l : List Nat) : List Str := l.flatMap fun c => (List.range 8).map fun (m : Nat) => repT ⟨#[c]⟩ (1 + (m : Int))
def chkN (name : Str) : Bool := decide (name.length ≤ 8) && isDN name && !(TL.tl (Txt.upper name)).contains 40 && !(TL.tl (Txt.upper name)).contains 10 && decide ((Txt.upper name).length ≤ 100) && !isNm (Txt.upper name) && (List.range 17).all fun k => isNm (nk name k)
end K8
namespace K8
open PySem L2 Own StX ClX NdefX
theorem all_cut {p : Str → Bool} {l : List Str} (n : Nat) (h : (l.take n).all p = true) (k : (l.drop n).all p = true) : l.all p = true := by
  rw [← List.take_append_drop n l, List.all_append, h, k]
  rfl
theorem goodA_ok : goodA.all (fun r => chk [r, "end"] (some none)) = true := by decide +kernel
theorem wrongA_ok : wrongA.all (fun r => chk [r, "end"] (some (some 0))) = true := by decide +kernel
theorem restG_ok : (["block y(;)", "block y(a; b c)"] : List Str).all (fun r => chk [r, "end"] (some none)) = true := by decide +kernel
theorem restW_ok : (["block y((;)", "", "end", "block  y(;)"] : List Str).all (fun r => chk [r, "end"] (some (some 0))) = true := by decide +kernel
theorem names_ok1 : (names [97, 99, 100, 101, 102, 103, 104, 105]).all chkN = true := by decide +kernel
theorem names_ok2 : (names [106, 107, 108, 109, 110, 111, 112, 113, 114]).all chkN = true := by decide +kernel
theorem names_ok3 : (names [115, 116, 117, 118, 119, 120, 121, 122]).all chkN = true := by decide +kernel
end K8
namespace K8
open PySem L2 Own StX ClX NdefX
theorem all_cut2 {p : Str → Bool} {l : List Str} (n : Nat) (h : (l.take n).all p = true) (k : (l.drop n).all p = true) : l.all p = true := by
  rw [← List.take_append_drop n l, List.all_append, h, k]
  rfl
theorem bo0_0 : (((bodyA).drop 0).take 6).all (chkT (some none)) = true := by decide +kernel
theorem bo0_6 : (((bodyA).drop 6).take 6).all (chkT (some none)) = true := by decide +kernel
theorem bo0_12 : (((bodyA).drop 12).take 6).all (chkT (some none)) = true := by decide +kernel
theorem bo0_18 : (((bodyA).drop 18).take 6).all (chkT (some none)) = true := by decide +kernel
theorem bo0_24 : ((bodyA).drop 24).all (chkT (some none)) = true := by decide +kernel
theorem bo0_ok : (bodyA).all (chkT (some none)) = true := by
  have h24 : ((bodyA).drop 24).all (chkT (some none)) = true := bo0_24
  have h18 : ((bodyA).drop 18).all (chkT (some none)) = true := all_cut2 6 bo0_18 (by rw [List.drop_drop]; exact h24)
  have h12 : ((bodyA).drop 12).all (chkT (some none)) = true := all_cut2 6 bo0_12 (by rw [List.drop_drop]; exact h18)
  have h6 : ((bodyA).drop 6).all (chkT (some none)) = true := all_cut2 6 bo0_6 (by rw [List.drop_drop]; exact h12)
  have h0 : ((bodyA).drop 0).all (chkT (some none)) = true := all_cut2 6 bo0_0 (by rw [List.drop_drop]; exact h6)
  exact h0
end K8
namespace K8
open PySem L2 Own StX ClX NdefX
theorem all_cut3 {p : Str → Bool} {l : List Str} (n : Nat) (h : (l.take n).all p = true) (k : (l.drop n).all p = true) : l.all p = true := by
  rw [← List.take_append_drop n l, List.all_append, h, k]
  rfl
theorem bo1_0 : (((bodies_first Str.empty).drop 0).take 6).all (chkT (some (some 1))) = true := by decide +kernel
theorem bo1_6 : (((bodies_first Str.empty).drop 6).take 6).all (chkT (some (some 1))) = true := by decide +kernel
theorem bo1_12 : (((bodies_first Str.empty).drop 12).take 6).all (chkT (some (some 1))) = true := by decide +kernel
theorem bo1_18 : (((bodies_first Str.empty).drop 18).take 6).all (chkT (some (some 1))) = true := by decide +kernel
theorem bo1_24 : ((bodies_first Str.empty).drop 24).all (chkT (some (some 1))) = true := by decide +kernel
theorem bo1_ok : (bodies_first Str.empty).all (chkT (some (some 1))) = true := by
  have h24 : ((bodies_first Str.empty).drop 24).all (chkT (some (some 1))) = true := bo1_24
  have h18 : ((bodies_first Str.empty).drop 18).all (chkT (some (some 1))) = true := all_cut3 6 bo1_18 (by rw [List.drop_drop]; exact h24)
  have h12 : ((bodies_first Str.empty).drop 12).all (chkT (some (some 1))) = true := all_cut3 6 bo1_12 (by rw [List.drop_drop]; exact h18)
  have h6 : ((bodies_first Str.empty).drop 6).all (chkT (some (some 1))) = true := all_cut3 6 bo1_6 (by rw [List.drop_drop]; exact h12)
  have h0 : ((bodies_first Str.empty).drop 0).all (chkT (some (some 1))) = true := all_cut3 6 bo1_0 (by rw [List.drop_drop]; exact h6)
  exact h0
end K8
namespace K8
open PySem L2 Own StX ClX NdefX
theorem all_cut4 {p : Str → Bool} {l : List Str} (n : Nat) (h : (l.take n).all p = true) (k : (l.drop n).all p = true) : l.all p = true := by
  rw [← List.take_append_drop n l, List.all_append, h, k]
  rfl
theorem bo2_0 : (((bodies_second Str.empty).drop 0).take 6).all (chkT (some (some 2))) = true := by decide +kernel
theorem bo2_6 : ((bodies_second Str.empty).drop 6).all (chkT (some (some 2))) = true := by decide +kernel
theorem bo2_ok : (bodies_second Str.empty).all (chkT (some (some 2))) = true := by
  have h6 : ((bodies_second Str.empty).drop 6).all (chkT (some (some 2))) = true := bo2_6
  have h0 : ((bodies_second Str.empty).drop 0).all (chkT (some (some 2))) = true := all_cut4 6 bo2_0 (by rw [List.drop_drop]; exact h6)
  exact h0
theorem bo3_0 : ((bodies_third Str.empty).drop 0).all (chkT (some (some 3))) = true := by decide +kernel
theorem bo3_ok : (bodies_third Str.empty).all (chkT (some (some 3))) = true := by
  have h0 : ((bodies_third Str.empty).drop 0).all (chkT (some (some 3))) = true := bo3_0
  exact h0
end K8
namespace K8
open PySem L2 Own StX ClX NdefX
theorem rows_by {rows : List Str} (c : Nat) (ne : rows ≠ []) (h : ∀ r ∈ rows, 10 ∉ TL.tl r ∧ r.length ≤ c) (hl : rows.length ≤ 10100) (hc : c ≤ 190000) (hs : rows.length * c ≤ 1000000) : RowsOk rows :=
  ⟨ne, fun r hr => (h r hr).1, hl, fun r hr => Nat.le_trans (h r hr).2 hc, Nat.le_trans (sum_le fun r hr => (h r hr).2) hs⟩
theorem nl_app {a b : Str} (h : 10 ∉ TL.tl a) (k : 10 ∉ TL.tl b) : 10 ∉ TL.tl (a ++ b) := fun z => by
  rw [TL.tl_append] at z
  rcases List.mem_append.mp z with z | z
  · exact h z
  · exact k z
theorem nl_nm {x : Str} (h : isNm x = true) : 10 ∉ TL.tl x := fun z => by have := nm_tl h z; omega
theorem rows2 {a : Str} (h : 10 ∉ TL.tl a) (hl : a.length ≤ 1000) : RowsOk [a, "end"] := by
  refine rows_by 1000 (fun z => by cases z) (fun r hr => ?_) (by show 2 ≤ 10100; decide) (by decide) (by show 2 * 1000 ≤ 1000000; decide)
  rcases List.mem_cons.mp hr with rfl | hr
  · exact ⟨h, hl⟩
  · rw [List.mem_singleton.mp hr]
    exact ⟨by decide +kernel, by decide +kernel⟩
/-! ### a good head -/
theorem goodH_R (name : Str) : goodH name = ("block " : Str) ++ (name ++ "(" ++ "in; out)") := by
  unfold goodH
  rw [show ("(in; out)" : Str) = ("(" : Str) ++ "in; out)" by decide +kernel]
  simp only [app3]
theorem good_parts {name : Str} (h : 40 ∉ TL.tl name) : headName (goodH name) = name ∧ headIns (goodH name) = (["in"] : List Str) ∧ headOuts (goodH name) = (["out"] : List Str) := by
  have hp : Txt.partition (Txt.removeprefix (goodH name) "block ") "(" = (name, ("(" : Str), ("in; out)" : Str)) := by
    rw [goodH_R, rmp_app]
    exact TL.partition_app (y := "(") (s := 40) (S := []) (by decide +kernel) h
  have hq : headPorts (goodH name) = ("in; out" : Str) := by
    unfold headPorts
    rw [hp]
    exact (by decide +kernel : Txt.removesuffix ("in; out)" : Str) ")" = "in; out")
  refine ⟨?_, ?_, ?_⟩
  · unfold headName
    rw [hp]
  · unfold headIns
    rw [hq]
    decide +kernel
  · unfold headOuts
    rw [hq]
    decide +kernel
theorem good_headT (name : Str) : headT name ["in"] ["out"] = goodH name := by
  rw [goodH_R]
  unfold headT
  rw [show Txt.join " " ["in"] = ("in" : Str) by decide +kernel, show Txt.join "" ((["out"] : List Str).map fun o => (" " : Str) ++ o) = (" out" : Str) by decide +kernel, show ("in; out)" : Str) = ("in" : Str) ++ (";" ++ (" out" ++ ")")) by decide +kernel]
  simp only [app3]
theorem step_end {r : Str × List Str × List Str} {ps : List (Str × Str)} {ws : List (Port × Port)} : step ⟨some r, ps, ws, false⟩ "end" = some ⟨some r, ps, ws, true⟩ := by
  obtain ⟨n, i, o⟩ := r
  unfold step
  dsimp only
  rw [if_neg Bool.false_ne_true, if_pos rfl]
theorem good_told {name : Str} (hd : isDN name = true) : toldN [goodH name, "end"] = some none := by
  have hn : isNm name = true := by
    unfold isDN at hd
    rw [Bool.and_eq_true] at hd
    exact hd.1
  obtain ⟨e1, e2, e3⟩ := good_parts (name := name) (fun z => by have := nm_tl hn z; omega)
  have ok : okHead (goodH name) := by
    refine ⟨?_, ?_, ?_, ?_, ?_, ?_⟩
    · unfold isHead
      rw [e1, e2, e3, good_headT]
      exact decide_eq_true rfl
    · rw [e2]; decide
    · rw [e3]; decide
    · rw [e1]; exact hd
    · rw [e2, e3]; decide +kernel
    · rw [e2, e3]; decide +kernel
  have hs : step st0 (goodH name) = some ⟨some (name, ["in"], ["out"]), [], [], false⟩ := by
    unfold step st0
    dsimp only
    rw [if_pos ok, e1, e2, e3]
  have hR : run st0 0 [goodH name, "end"] = .inr ⟨some (name, ["in"], ["out"]), [], [], true⟩ := by
    rw [run_2 hs, run_2 step_end]
    rfl
  unfold toldN
  rw [hR]
  dsimp only
  rw [if_pos]
  rw [show wiresOf [] ["out"] [] = [] from rfl]
  unfold rowsT
  rw [good_headT]
  rfl
/-! ### a wrong one -/
theorem wrong_told {name : Str} (h : 40 ∉ TL.tl (Txt.upper name)) (hd : isNm (Txt.upper name) = false) : toldN [wrongH name, "end"] = some (some 0) := by
  have e1 : headName (wrongH name) = Txt.upper name := by
    unfold headName wrongH
    rw [show ("(;)" : Str) = ("(" : Str) ++ ";)" by decide +kernel, app3, rmp_app, ← app3, TL.partition_app (y := "(") (s := 40) (S := []) (by decide +kernel) h]
  have hs : step st0 (wrongH name) = none := by
    unfold step st0
    dsimp only
    rw [if_neg]
    intro ok
    have z := ok.2.2.2.1
    rw [e1] at z
    unfold isDN at z
    rw [hd] at z
    cases z
  have hR : run st0 0 [wrongH name, "end"] = .inl 0 := by rw [run, hs]
  unfold toldN
  rw [hR]
end K8
namespace K8
open PySem L2 Own StX ClX NdefX
/-! ### a body with a part of this name -/
def stX : RS := ⟨some ("y", ["x"], ["u", "v"]), [], [], false⟩
theorem step_x : step st0 "block y(x; u v)" = some stX := by
  have h : (match step st0 "block y(x; u v)" with | some ⟨some (n, i, o), ps, ws, d⟩ => decide (n = "y" ∧ i = (["x"] : List Str) ∧ o = (["u", "v"] : List Str) ∧ ps = [] ∧ d = false) && ws.isEmpty | _ => false) = true := by decide +kernel
  revert h
  cases step st0 "block y(x; u v)" with
  | none => exact fun h => by cases h
  | some st =>
    obtain ⟨hd, ps, ws, d⟩ := st
    cases hd with
    | none => exact fun h => by cases h
    | some r =>
      obtain ⟨n, i, o⟩ := r
      intro h
      rw [Bool.and_eq_true, decide_eq_true_eq] at h
      obtain ⟨⟨rfl, rfl, rfl, rfl, rfl⟩, hw⟩ := h
      rw [List.isEmpty_iff.mp hw]
      rfl
theorem goodP_rows {name : Str} (h : 124 ∉ TL.tl name) : rowsB (goodP name) = (["block y(x; u v)", partR name "add", "end"] : List Str) := by
  have e : goodP name = Txt.join "|" [partR name "add", "end"] := by
    rw [TL.join_eq]
    show goodP name = partR name "add" ++ "|" ++ "end"
    unfold goodP partR
    rw [show (" = add|end" : Str) = (" = " : Str) ++ ("add" ++ ("|" ++ "end")) by decide +kernel]
    simp only [app3]
  unfold rowsB
  rw [e, TL.split_join (y := "|") (s := 124) (S := []) (by decide +kernel) (by decide +kernel) (fun z => by cases z) (fun p hp => ?_)]
  · rfl
  · rcases List.mem_cons.mp hp with rfl | hp
    · unfold partR
      intro z
      rw [TL.tl_append, TL.tl_append, TL.tl_append] at z
      rcases List.mem_append.mp z with z | z
      · exact absurd z (by decide +kernel)
      rcases List.mem_append.mp z with z | z
      · rcases List.mem_append.mp z with z | z
        · exact h z
        · exact absurd z (by decide +kernel)
      · exact absurd z (by decide +kernel)
    · rw [List.mem_singleton.mp hp]
      decide +kernel
theorem goodP_told {name : Str} (hn : isNm name = true) : toldN ["block y(x; u v)", partR name "add", "end"] = some none := by
  have h32 : 32 ∉ TL.tl name := fun z => by have := nm_tl hn z; omega
  have hs : step stX (partR name "add") = some ⟨some ("y", ["x"], ["u", "v"]), [(name, "add")], [], false⟩ := by
    rw [part_step (r := ("y", ["x"], ["u", "v"])) _ _ rfl rfl rfl h32, show stX.parts = [] from rfl, part_ok hn (by intro z; cases z) (by show 0 < 16; decide) (.inl (by decide +kernel))]
    rfl
  have hR : run st0 0 ["block y(x; u v)", partR name "add", "end"] = .inr ⟨some ("y", ["x"], ["u", "v"]), [(name, "add")], [], true⟩ := by
    rw [run_2 step_x, run_2 hs, run_2 step_end]
    rfl
  unfold toldN
  rw [hR]
  dsimp only
  rw [if_pos]
  rw [show wiresOf [(name, "add")] ["u", "v"] [] = [] from rfl]
  unfold rowsT
  rw [show headT "y" ["x"] ["u", "v"] = ("block y(x; u v)" : Str) by decide +kernel]
  rw [show ([(name, ("add" : Str))] : List (Str × Str)).map partT = [partT (name, "add")] from rfl, partT_R]
  rfl
end K8
namespace K8
open PySem L2 Own StX ClX NdefX
/-! ### all together -/
theorem pt_ok {name : Str} {k : Nat} (h : isNm (nk name k) = true) : 10 ∉ TL.tl (pt name k) ∧ (pt name k).length ≤ 100 := by
  rw [pt_R]
  unfold partR
  refine ⟨nl_app (by decide +kernel) (nl_app (nl_app (nl_nm h) (by decide +kernel)) (by decide +kernel)), ?_⟩
  have := isNm_len h
  rw [sl, sl, sl, show (("  part " : Str)).length = 7 by decide +kernel, show ((" = " : Str)).length = 3 by decide +kernel, show (("add" : Str)).length = 3 by decide +kernel]
  omega
end K8
namespace K8
open PySem L2 Own StX ClX NdefX
theorem ry : 10 ∉ TL.tl ("block y(;)" : Str) ∧ ("block y(;)" : Str).length ≤ 100 := by decide +kernel
theorem re : 10 ∉ TL.tl ("end" : Str) ∧ ("end" : Str).length ≤ 100 := by decide +kernel
theorem pts_len (name : Str) : (pts name).length = 17 := by unfold pts; rw [List.length_map, List.length_range]
theorem pts_ok {name : Str} (hn : ∀ k < 17, isNm (nk name k) = true) : ∀ r ∈ pts name, 10 ∉ TL.tl r ∧ r.length ≤ 100 := fun r hr => by
  unfold pts at hr
  obtain ⟨k, hk, rfl⟩ := List.mem_map.mp hr
  exact pt_ok (hn k (List.mem_range.mp hk))
theorem rep_nl {n c : Nat} {x : Str} (h : TL.tl x = List.replicate n c) (k : c ≠ 10) : 10 ∉ TL.tl x := rep_not h k.symm
theorem rep_lens {n : Nat} {x : Str} {m : Int} (hx : x.length = 1) (h : m = (n : Int)) : (repT x m).length = n := by rw [repT_len, hx, h, Int.toNat_natCast, Nat.mul_one]
theorem app_ne {α : Type} (x : α) (l : List α) : [x] ++ l ≠ [] := fun z => by cases z
theorem many_r1 {name : Str} (hn : ∀ k < 17, isNm (nk name k) = true) : RowsOk (((["block y(;)"] : List Str) ++ (pts name).take 16 ++ (["end"] : List Str))) := by
  have hl : ((["block y(;)"] : List Str) ++ (pts name).take 16 ++ (["end"] : List Str)).length = 18 := by
    rw [List.length_append, List.length_append, List.length_take, pts_len]
    rfl
  refine rows_by 100 (by rw [List.append_assoc]; exact app_ne _ _) (fun r hr => ?_) (by rw [hl]; decide) (by decide) (by rw [hl]; decide)
  rcases List.mem_append.mp hr with hr | hr
  · rcases List.mem_append.mp hr with hr | hr
    · rw [List.mem_singleton.mp hr]; exact ry
    · exact pts_ok hn r (List.mem_of_mem_take hr)
  · rw [List.mem_singleton.mp hr]; exact re
theorem many_r2 {name : Str} (hn : ∀ k < 17, isNm (nk name k) = true) : RowsOk (((["block y(;)"] : List Str) ++ pts name ++ (["end"] : List Str))) := by
  have hl : ((["block y(;)"] : List Str) ++ pts name ++ (["end"] : List Str)).length = 19 := by
    rw [List.length_append, List.length_append, pts_len]
    rfl
  refine rows_by 100 (by rw [List.append_assoc]; exact app_ne _ _) (fun r hr => ?_) (by rw [hl]; decide) (by decide) (by rw [hl]; decide)
  rcases List.mem_append.mp hr with hr | hr
  · rcases List.mem_append.mp hr with hr | hr
    · rw [List.mem_singleton.mp hr]; exact ry
    · exact pts_ok hn r hr
  · rw [List.mem_singleton.mp hr]; exact re
theorem many_r3 : RowsOk ["block y(;)"] := rows_by 100 (fun z => by cases z) (fun r hr => by rw [List.mem_singleton.mp hr]; exact ry) (by decide) (by decide) (by decide)
theorem many_t3 : toldN ["block y(;)"] = some (some 1) := by decide +kernel
theorem two_ok {r : Str} (c : Nat) (h : 10 ∉ TL.tl r) (hl : r.length ≤ c) (h1 : 100 ≤ c) (h2 : c ≤ 190000) : RowsOk ["block y(;)", r] := by
  refine rows_by c (fun z => by cases z) (fun x hx => ?_) (by show 2 ≤ 10100; decide) h2 (by show 2 * c ≤ 1000000; omega)
  rcases List.mem_cons.mp hx with rfl | hx
  · exact ⟨ry.1, Nat.le_trans ry.2 h1⟩
  · rw [List.mem_singleton.mp hx]
    exact ⟨h, hl⟩
end K8
namespace K8
open PySem L2 Own StX ClX NdefX
theorem flat_mem {n : Nat} {x r : Str} (h : r ∈ ([x] : List Str) ++ (List.replicate n (["end"] : List Str)).flatten) : r = x ∨ r = "end" := by
  rcases List.mem_append.mp h with h | h
  · exact .inl (List.mem_singleton.mp h)
  · obtain ⟨l, hl, h⟩ := List.mem_flatten.mp h
    rw [(List.mem_replicate.mp hl).2] at h
    exact .inr (List.mem_singleton.mp h)
theorem flat_length (n : Nat) (x : Str) : (([x] : List Str) ++ (List.replicate n (["end"] : List Str)).flatten).length = n + 1 := by
  rw [List.length_append, List.length_flatten, List.map_replicate, List.sum_replicate_nat]
  show 1 + n * 1 = n + 1
  omega
theorem flat_rows {n : Nat} (hn : n ≤ 9999) : RowsOk ((["block y(;)"] : List Str) ++ (List.replicate n (["end"] : List Str)).flatten) := by
  refine rows_by 99 (app_ne _ _) (fun r hr => ?_) (by rw [flat_length]; omega) (by decide) (by rw [flat_length]; omega)
  rcases flat_mem hr with rfl | rfl
  · exact ⟨ry.1, by decide +kernel⟩
  · exact ⟨re.1, by decide +kernel⟩
end K8
namespace K8
open PySem L2 Own StX ClX NdefX
theorem many_r5 : RowsOk ["block y(;)", ("  " : Str) ++ repT "u" 99999] := by
  refine two_ok 100001 (nl_app (by decide +kernel) (rep_nl u_tl (by decide))) ?_ (by decide) (by decide)
  rw [sl, rep_lens (n := 99999) (by decide +kernel) (by decide), show (("  " : Str)).length = 2 by decide +kernel]
  decide
theorem many_r6 : RowsOk ["block y(;)", ("  part p = const " : Str) ++ repT "9" 5000] := by
  have t9 : TL.tl (repT "9" 5000) = List.replicate 5000 57 := by
    rw [show ("9" : Str) = ⟨#[57]⟩ by decide +kernel]
    exact rep2 57 5000 5000 (by decide)
  refine two_ok 10000 (nl_app (by decide +kernel) (rep_nl t9 (by decide))) ?_ (by decide) (by decide)
  rw [sl, rep_lens (n := 5000) (by decide +kernel) (by decide), show (("  part p = const " : Str)).length = 17 by decide +kernel]
  decide
theorem many_r7 : RowsOk [repT " " 9999] := by
  refine rows_by 10000 (fun z => by cases z) (fun r hr => ?_) (by show 1 ≤ 10100; decide) (by decide) (by show 1 * 10000 ≤ 1000000; decide)
  rw [List.mem_singleton.mp hr]
  refine ⟨rep_nl s_tl (by decide), ?_⟩
  rw [rep_lens (n := 9999) (by decide +kernel) (by decide)]
  decide
end K8
namespace K8
open PySem L2 Own StX ClX NdefX
theorem many_ok {name : Str} (hn : ∀ k < 17, isNm (nk name k) = true) : ManyOk name :=
  ⟨many_r1 hn, many_t1 hn, many_r2 hn, many_t2 hn, many_r3, many_t3, flat_rows (by decide), many_t4, many_r5, many_t5, many_r6, many_t6, many_r7, many_t7⟩
end K8
namespace K8
open PySem L2 Own StX ClX NdefX
theorem chk_all {v : Option (Option Nat)} {l : List Str} (h : l.all (fun r => chk [r, "end"] v) = true) {r : Str} (hr : r ∈ l) : RowsOk [r, "end"] ∧ toldN [r, "end"] = v := chk_of (List.all_eq_true.mp h r hr)
theorem chkT_all {v : Option (Option Nat)} {l : List Str} (h : l.all (chkT v) = true) {t : Str} (ht : t ∈ l) : t.length ≤ 1000 ∧ RowsOk (rowsB t) ∧ toldN (rowsB t) = v := by
  have z := List.all_eq_true.mp h t ht
  unfold chkT at z
  rw [Bool.and_eq_true, decide_eq_true_eq] at z
  exact ⟨z.1, chk_of z.2⟩
theorem name_of {name : Str} (h : chkN name = true) : NameOk name := by
  unfold chkN at h
  simp only [Bool.and_eq_true, Bool.not_eq_true', decide_eq_true_eq, List.all_eq_true, List.mem_range] at h
  obtain ⟨⟨⟨⟨⟨⟨hl, hd⟩, h40⟩, h10⟩, hul⟩, hu⟩, hk⟩ := h
  have hn : isNm name = true := by
    unfold isDN at hd
    rw [Bool.and_eq_true] at hd
    exact hd.1
  have n40 : 40 ∉ TL.tl (Txt.upper name) := fun z => by
    rw [List.contains_iff_mem.mpr z] at h40
    cases h40
  have n10 : 10 ∉ TL.tl (Txt.upper name) := fun z => by
    rw [List.contains_iff_mem.mpr z] at h10
    cases h10
  refine ⟨by omega, fun r hr => ?_, fun r hr => ?_, fun t ht => ?_, fun t ht => chkT_all bo1_ok ht, fun t ht => chkT_all bo2_ok ht, fun t ht => chkT_all bo3_ok ht, many_ok hk⟩
  · rw [good_eq] at hr
    rcases List.mem_append.mp hr with hr | hr
    · exact chk_all goodA_ok hr
    · rcases List.mem_cons.mp hr with rfl | hr
      · refine ⟨rows2 ?_ ?_, good_told hd⟩
        · unfold goodH
          exact nl_app (nl_app (by decide +kernel) (nl_nm hn)) (by decide +kernel)
        · unfold goodH
          rw [sl, sl, show (("block " : Str)).length = 6 by decide +kernel, show (("(in; out)" : Str)).length = 9 by decide +kernel]
          omega
      · exact chk_all restG_ok hr
  · rw [wrong_eq] at hr
    rcases List.mem_append.mp hr with hr | hr
    · exact chk_all wrongA_ok hr
    · rcases List.mem_cons.mp hr with rfl | hr
      · exact chk_all restW_ok List.mem_cons_self
      rcases List.mem_cons.mp hr with rfl | hr
      · refine ⟨rows2 ?_ ?_, wrong_told n40 hu⟩
        · unfold wrongH
          exact nl_app (nl_app (by decide +kernel) n10) (by decide +kernel)
        · unfold wrongH
          rw [sl, sl, show (("block " : Str)).length = 6 by decide +kernel, show (("(;)" : Str)).length = 3 by decide +kernel]
          omega
      · exact chk_all restW_ok (List.mem_cons_of_mem _ hr)
  · rw [body_eq] at ht
    rcases List.mem_cons.mp ht with rfl | ht
    · rw [goodP_rows (fun z => by have := nm_tl hn z; omega)]
      refine ⟨?_, ?_, goodP_told hn⟩
      · unfold goodP
        rw [sl, sl, show (("  part " : Str)).length = 7 by decide +kernel, show ((" = add|end" : Str)).length = 10 by decide +kernel]
        omega
      · refine rows_by 1000 (fun z => by cases z) (fun r hr => ?_) (by show 3 ≤ 10100; decide) (by decide) (by show 3 * 1000 ≤ 1000000; decide)
        rcases List.mem_cons.mp hr with rfl | hr
        · exact ⟨by decide +kernel, by decide +kernel⟩
        rcases List.mem_cons.mp hr with rfl | hr
        · unfold partR
          refine ⟨nl_app (by decide +kernel) (nl_app (nl_app (nl_nm hn) (by decide +kernel)) (by decide +kernel)), ?_⟩
          rw [sl, sl, sl, show (("  part " : Str)).length = 7 by decide +kernel, show ((" = " : Str)).length = 3 by decide +kernel, show (("add" : Str)).length = 3 by decide +kernel]
          omega
        · rw [List.mem_singleton.mp hr]
          exact ⟨by decide +kernel, by decide +kernel⟩
    · exact chkT_all bo0_ok ht
theorem names_mem {l : List Nat} (h : (names l).all chkN = true) {c : Nat} (hc : c ∈ l) {r : Int} (h0 : 0 ≤ r) (h8 : r < 8) : NameOk (repT ⟨#[c]⟩ (1 + r)) := by
  refine name_of (List.all_eq_true.mp h _ ?_)
  unfold names
  refine List.mem_flatMap.mpr ⟨c, hc, List.mem_map.mpr ⟨r.toNat, List.mem_range.mpr (by omega), ?_⟩⟩
  rw [Int.toNat_of_nonneg h0]
theorem name_ok : ∀ c ∈ letters.cps.toList, ∀ r : Int, 0 ≤ r → r < 8 → NameOk (repT ⟨#[c]⟩ (1 + r)) := fun c hc r h0 h8 => by
  have e : letters.cps.toList = [97, 99, 100, 101, 102, 103, 104, 105] ++ [106, 107, 108, 109, 110, 111, 112, 113, 114] ++ [115, 116, 117, 118, 119, 120, 121, 122] := by decide +kernel
  rw [e] at hc
  rcases List.mem_append.mp hc with hc | hc
  · rcases List.mem_append.mp hc with hc | hc
    · exact names_mem names_ok1 hc h0 h8
    · exact names_mem names_ok2 hc h0 h8
  · exact names_mem names_ok3 hc h0 h8
end K8
namespace K8
open PySem L2 Own StX ClX NdefX
theorem all_mk {w : World} {K : PySem.W.Frag} {h : Heap} {mg : Str → Option Value} {fa C B : Addr} (X : K.In h) (G : h.Ns mainGlobals mg) (hfa : mg "law" = some (.ref fa))
    {CR CI : Addr} {fNA : Addr} {odNA anNA : Option Addr} {slNA : Array (Option Value)} {ocNA kVNA dcNA pmNA cdNA ctNA : Value} {fDN : Addr} {odDN anDN : Option Addr} {slDN : Array (Option Value)} {ocDN kVDN dcDN pmDN cdDN ctDN : Value} {fRV : Addr} {odRV anRV : Option Addr} {slRV : Array (Option Value)} {ocRV kVRV dcRV pmRV cdRV ctRV : Value} {fRP : Addr} {odRP anRP : Option Addr} {slRP : Array (Option Value)} {ocRP kVRP dcRP pmRP cdRP ctRP : Value} {fIP : Addr} {odIP anIP : Option Addr} {slIP : Array (Option Value)} {ocIP kVIP dcIP pmIP cdIP ctIP : Value} {fHR : Addr} {odHR anHR : Option Addr} {slHR : Array (Option Value)} {ocHR kVHR dcHR pmHR cdHR ctHR : Value} {fPT : Addr} {odPT anPT : Option Addr} {slPT : Array (Option Value)} {ocPT kVPT dcPT pmPT cdPT ctPT : Value} {fRW : Addr} {odRW anRW : Option Addr} {slRW : Array (Option Value)} {ocRW kVRW dcRW pmRW cdRW ctRW : Value} {fRH : Addr} {odRH anRH : Option Addr} {slRH : Array (Option Value)} {ocRH kVRH dcRH pmRH cdRH ctRH : Value} {fOT : Addr} {odOT anOT : Option Addr} {slOT : Array (Option Value)} {ocOT kVOT dcOT pmOT cdOT ctOT : Value} {fRI : Addr} {odRI anRI : Option Addr} {slRI : Array (Option Value)} {ocRI kVRI dcRI pmRI cdRI ctRI : Value} {fTA : Addr} {odTA anTA : Option Addr} {slTA : Array (Option Value)} {ocTA kVTA dcTA pmTA cdTA ctTA : Value} {fTH : Addr} {odTH anTH : Option Addr} {slTH : Array (Option Value)} {ocTH kVTH dcTH pmTH cdTH ctTH : Value} {fTP : Addr} {odTP anTP : Option Addr} {slTP : Array (Option Value)} {ocTP kVTP dcTP pmTP cdTP ctTP : Value} {fTW : Addr} {odTW anTW : Option Addr} {slTW : Array (Option Value)} {ocTW kVTW dcTW pmTW cdTW ctTW : Value} {fPO : Addr} {odPO anPO : Option Addr} {slPO : Array (Option Value)} {ocPO kVPO dcPO pmPO cdPO ctPO : Value} {fBI : Addr} {odBI anBI : Option Addr} {slBI : Array (Option Value)} {ocBI kVBI dcBI pmBI cdBI ctBI : Value} {fPA : Addr} {odPA anPA : Option Addr} {slPA : Array (Option Value)} {ocPA kVPA dcPA pmPA cdPA ctPA : Value} {pPA : Addr} {restPA : List Value} {fOF : Addr} {odOF anOF : Option Addr} {slOF : Array (Option Value)} {ocOF kVOF dcOF pmOF cdOF ctOF : Value} {pOF : Addr} {restOF : List Value} {fST : Addr} {odST anST : Option Addr} {slST : Array (Option Value)} {ocST kVST dcST pmST cdST ctST : Value} {fDI cc cda : Addr} {odPI anPI cldPI cddPI : Option Addr} {slPI cslPI ccsPI : Array (Option Value)} {ocPI dcPI pmPI ctPI clPI cclPI : Value} {vsPI : Array Value} {tfPI : Tok} {cdD : ClassData} {tv8 tv16 : Tok} {tkM tkD tkW tkL tkE : Tok} {dP dW dE : Addr} {esP : Array DictEntry} {nP nW nE : Nat} {ddW ddE : Option Addr} {slW slE : Array (Option Value)} {tW1 tW2 tE1 tE2 tE3 tE4 : Tok} {kk1 : Tok} {kk2 : Tok} {kk3 : Tok} {kk4 : Tok} {kk5 : Tok} {kk6 : Tok} {kk7 : Tok} {kk8 : Tok} {kk9 : Tok} {t1 : Addr} {t2 : Addr} {t3 : Addr} {t4 : Addr} {t5 : Addr} {t6 : Addr} {t7 : Addr} {t8 : Addr} {t9 : Addr} {BE NE : Addr} {nmE qE : Str} {bsE subE : List Value} {snE : List Str} {abE : Bool} {colE : Option Bool} {ddEE : Option Addr} {k0E k1E k2E k3E k5E : Option Value} {fER : Addr} {odER anER : Option Addr} {slER : Array (Option Value)} {ocER kVER dcER pmER cdER ctER : Value} {fFE : Addr} {odFE anFE : Option Addr} {slFE : Array (Option Value)} {ocFE kVFE dcFE pmFE cdFE ctFE : Value} {fTK : Addr} {odTK anTK : Option Addr} {slTK : Array (Option Value)} {ocTK kVTK dcTK pmTK cdTK ctTK : Value} {fPK : Addr} {odPK anPK : Option Addr} {slPK : Array (Option Value)} {ocPK kVPK dcPK pmPK cdPK ctPK : Value} {fTO : Addr} {odTO anTO : Option Addr} {slTO : Array (Option Value)} {ocTO kVTO dcTO pmTO cdTO ctTO : Value} {fGH : Addr} {odGH anGH : Option Addr} {slGH : Array (Option Value)} {ocGH kVGH dcGH pmGH cdGH ctGH : Value} {fWH : Addr} {odWH anWH : Option Addr} {slWH : Array (Option Value)} {ocWH kVWH dcWH pmWH cdWH ctWH : Value} {fBO : Addr} {odBO anBO : Option Addr} {slBO : Array (Option Value)} {ocBO kVBO dcBO pmBO cdBO ctBO : Value} {fMY : Addr} {odMY anMY : Option Addr} {slMY : Array (Option Value)} {ocMY kVMY dcMY pmMY cdMY ctMY : Value} {fLA : Addr} {odLA anLA : Option Addr} {slLA : Array (Option Value)} {ocLA kVLA dcLA pmLA cdLA ctLA : Value}
    (aC : PySem.W.nsIn K mainGlobals "Diagram" = some (some (.ref C)))
    (aB : PySem.W.nsIn K mainGlobals "Block" = some (some (.ref B)))
    (aCR : PySem.W.nsIn K mainGlobals "DiagramReader" = some (some (.ref CR)))
    (aCI : PySem.W.nsIn K mainGlobals "InvalidText" = some (some (.ref CI)))
    (aNA : PySem.W.nsIn K mainGlobals "is_name" = some (some (.ref fNA)))
    (lNA : K.lookup fNA = some ⟨ocNA, odNA, .func (PySem.W.fnOf "is_name" "is_name" (defArgs sName) (defBody sName) (defScope sName) .none kVNA dcNA pmNA anNA cdNA ctNA), slNA⟩)
    (cNA : PySem.W.codeIn K cdNA "is_name" = true)
    (kNA : PySem.W.keepIn K (.ref fNA) = true)
    (aDN : PySem.W.nsIn K mainGlobals "is_diagram_name" = some (some (.ref fDN)))
    (lDN : K.lookup fDN = some ⟨ocDN, odDN, .func (PySem.W.fnOf "is_diagram_name" "is_diagram_name" (defArgs sDN) (defBody sDN) (defScope sDN) .none kVDN dcDN pmDN anDN cdDN ctDN), slDN⟩)
    (cDN : PySem.W.codeIn K cdDN "is_diagram_name" = true)
    (kDN : PySem.W.keepIn K (.ref fDN) = true)
    (aRV : PySem.W.nsIn K mainGlobals "read_value" = some (some (.ref fRV)))
    (lRV : K.lookup fRV = some ⟨ocRV, odRV, .func (PySem.W.fnOf "read_value" "read_value" (defArgs sRV) (defBody sRV) (defScope sRV) .none kVRV dcRV pmRV anRV cdRV ctRV), slRV⟩)
    (cRV : PySem.W.codeIn K cdRV "read_value" = true)
    (kRV : PySem.W.keepIn K (.ref fRV) = true)
    (aRP : PySem.W.nsIn K mainGlobals "read_primitive" = some (some (.ref fRP)))
    (lRP : K.lookup fRP = some ⟨ocRP, odRP, .func (PySem.W.fnOf "read_primitive" "read_primitive" (defArgs sRP) (defBody sRP) (defScope sRP) .none kVRP dcRP pmRP anRP cdRP ctRP), slRP⟩)
    (cRP : PySem.W.codeIn K cdRP "read_primitive" = true)
    (kRP : PySem.W.keepIn K (.ref fRP) = true)
    (aIP : PySem.W.nsIn K mainGlobals "is_primitive" = some (some (.ref fIP)))
    (lIP : K.lookup fIP = some ⟨ocIP, odIP, .func (PySem.W.fnOf "is_primitive" "is_primitive" (defArgs sIP) (defBody sIP) (defScope sIP) .none kVIP dcIP pmIP anIP cdIP ctIP), slIP⟩)
    (cIP : PySem.W.codeIn K cdIP "is_primitive" = true)
    (kIP : PySem.W.keepIn K (.ref fIP) = true)
    (aHR : PySem.W.nsIn K mainGlobals "head_row" = some (some (.ref fHR)))
    (lHR : K.lookup fHR = some ⟨ocHR, odHR, .func (PySem.W.fnOf "head_row" "head_row" (defArgs sHead) (defBody sHead) (defScope sHead) .none kVHR dcHR pmHR anHR cdHR ctHR), slHR⟩)
    (cHR : PySem.W.codeIn K cdHR "head_row" = true)
    (kHR : PySem.W.keepIn K (.ref fHR) = true)
    (aPT : PySem.W.nsIn K mainGlobals "port_text" = some (some (.ref fPT)))
    (lPT : K.lookup fPT = some ⟨ocPT, odPT, .func (PySem.W.fnOf "port_text" "port_text" (defArgs sPort) (defBody sPort) (defScope sPort) .none kVPT dcPT pmPT anPT cdPT ctPT), slPT⟩)
    (cPT : PySem.W.codeIn K cdPT "port_text" = true)
    (kPT : PySem.W.keepIn K (.ref fPT) = true)
    (aRW : PySem.W.nsIn K mainGlobals "diagram_rows" = some (some (.ref fRW)))
    (lRW : K.lookup fRW = some ⟨ocRW, odRW, .func (PySem.W.fnOf "diagram_rows" "diagram_rows" (defArgs sRows) (defBody sRows) (defScope sRows) .none kVRW dcRW pmRW anRW cdRW ctRW), slRW⟩)
    (cRW : PySem.W.codeIn K cdRW "diagram_rows" = true)
    (kRW : PySem.W.keepIn K (.ref fRW) = true)
    (aRH : PySem.W.nsIn K mainGlobals "read_head" = some (some (.ref fRH)))
    (lRH : K.lookup fRH = some ⟨ocRH, odRH, .func (PySem.W.fnOf "read_head" "read_head" (defArgs sReadHead) (defBody sReadHead) (defScope sReadHead) .none kVRH dcRH pmRH anRH cdRH ctRH), slRH⟩)
    (cRH : PySem.W.codeIn K cdRH "read_head" = true)
    (kRH : PySem.W.keepIn K (.ref fRH) = true)
    (aOT : PySem.W.nsIn K mainGlobals "order_targets" = some (some (.ref fOT)))
    (lOT : K.lookup fOT = some ⟨ocOT, odOT, .func (PySem.W.fnOf "order_targets" "order_targets" (defArgs sOrder) (defBody sOrder) (defScope sOrder) .none kVOT dcOT pmOT anOT cdOT ctOT), slOT⟩)
    (cOT : PySem.W.codeIn K cdOT "order_targets" = true)
    (kOT : PySem.W.keepIn K (.ref fOT) = true)
    (aRI : PySem.W.findIn K (.ref CR) "__init__" = some (some (.ref fRI)))
    (iRI : PySem.W.isFn K (.ref fRI) = true)
    (lRI : K.lookup fRI = some ⟨ocRI, odRI, .func (PySem.W.fnOf "__init__" "DiagramReader.__init__" (defArgs sRI) (defBody sRI) (defScope sRI) .none kVRI dcRI pmRI anRI cdRI ctRI), slRI⟩)
    (cRI : PySem.W.codeIn K cdRI "DiagramReader.__init__" = true)
    (kRI : PySem.W.keepIn K (.ref fRI) = true)
    (aTA : PySem.W.findIn K (.ref CR) "take" = some (some (.ref fTA)))
    (iTA : PySem.W.isFn K (.ref fTA) = true)
    (lTA : K.lookup fTA = some ⟨ocTA, odTA, .func (PySem.W.fnOf "take" "DiagramReader.take" (defArgs sTake) (defBody sTake) (defScope sTake) .none kVTA dcTA pmTA anTA cdTA ctTA), slTA⟩)
    (cTA : PySem.W.codeIn K cdTA "DiagramReader.take" = true)
    (kTA : PySem.W.keepIn K (.ref fTA) = true)
    (aTH : PySem.W.findIn K (.ref CR) "_take_head" = some (some (.ref fTH)))
    (iTH : PySem.W.isFn K (.ref fTH) = true)
    (lTH : K.lookup fTH = some ⟨ocTH, odTH, .func (PySem.W.fnOf "_take_head" "DiagramReader._take_head" (defArgs sTakeHead) (defBody sTakeHead) (defScope sTakeHead) .none kVTH dcTH pmTH anTH cdTH ctTH), slTH⟩)
    (cTH : PySem.W.codeIn K cdTH "DiagramReader._take_head" = true)
    (kTH : PySem.W.keepIn K (.ref fTH) = true)
    (aTP : PySem.W.findIn K (.ref CR) "_take_part" = some (some (.ref fTP)))
    (iTP : PySem.W.isFn K (.ref fTP) = true)
    (lTP : K.lookup fTP = some ⟨ocTP, odTP, .func (PySem.W.fnOf "_take_part" "DiagramReader._take_part" (defArgs sTakePart) (defBody sTakePart) (defScope sTakePart) .none kVTP dcTP pmTP anTP cdTP ctTP), slTP⟩)
    (cTP : PySem.W.codeIn K cdTP "DiagramReader._take_part" = true)
    (kTP : PySem.W.keepIn K (.ref fTP) = true)
    (aTW : PySem.W.findIn K (.ref CR) "_take_wire" = some (some (.ref fTW)))
    (iTW : PySem.W.isFn K (.ref fTW) = true)
    (lTW : K.lookup fTW = some ⟨ocTW, odTW, .func (PySem.W.fnOf "_take_wire" "DiagramReader._take_wire" (defArgs sTakeWire) (defBody sTakeWire) (defScope sTakeWire) .none kVTW dcTW pmTW anTW cdTW ctTW), slTW⟩)
    (cTW : PySem.W.codeIn K cdTW "DiagramReader._take_wire" = true)
    (kTW : PySem.W.keepIn K (.ref fTW) = true)
    (aPO : PySem.W.findIn K (.ref CR) "_read_port" = some (some (.ref fPO)))
    (iPO : PySem.W.isFn K (.ref fPO) = true)
    (lPO : K.lookup fPO = some ⟨ocPO, odPO, .func (PySem.W.fnOf "_read_port" "DiagramReader._read_port" (defArgs sReadPort) (defBody sReadPort) (defScope sReadPort) .none kVPO dcPO pmPO anPO cdPO ctPO), slPO⟩)
    (cPO : PySem.W.codeIn K cdPO "DiagramReader._read_port" = true)
    (kPO : PySem.W.keepIn K (.ref fPO) = true)
    (aBI : PySem.W.findIn K (.ref B) "__init__" = some (some (.ref fBI)))
    (iBI : PySem.W.isFn K (.ref fBI) = true)
    (lBI : K.lookup fBI = some ⟨ocBI, odBI, .func (PySem.W.fnOf "__init__" "Block.__init__" (defArgs sBI) (defBody sBI) (defScope sBI) .none kVBI dcBI pmBI anBI cdBI ctBI), slBI⟩)
    (cBI : PySem.W.codeIn K cdBI "Block.__init__" = true)
    (kBI : PySem.W.keepIn K (.ref fBI) = true)
    (aPA : PySem.W.findCls K (.ref C) (.type "type") "parse" = some (.get (.builtin "classmethod.__get__") (.ref pPA) .none (.ref C)))
    (rPA : PySem.W.recIn K pPA "classmethod" = some (.ref fPA :: restPA))
    (iPA : PySem.W.fnIn K fPA = true)
    (lPA : K.lookup fPA = some ⟨ocPA, odPA, .func (PySem.W.fnOf "parse" "Diagram.parse" (defArgs sParse) (defBody sParse) (defScope sParse) .none kVPA dcPA pmPA anPA cdPA ctPA), slPA⟩)
    (cPA : PySem.W.codeIn K cdPA "Diagram.parse" = true)
    (kPA : PySem.W.keepIn K (.ref fPA) = true)
    (aOF : PySem.W.findCls K (.ref C) (.type "type") "of_reader" = some (.get (.builtin "classmethod.__get__") (.ref pOF) .none (.ref C)))
    (rOF : PySem.W.recIn K pOF "classmethod" = some (.ref fOF :: restOF))
    (iOF : PySem.W.fnIn K fOF = true)
    (lOF : K.lookup fOF = some ⟨ocOF, odOF, .func (PySem.W.fnOf "of_reader" "Diagram.of_reader" (defArgs sOfR) (defBody sOfR) (defScope sOfR) .none kVOF dcOF pmOF anOF cdOF ctOF), slOF⟩)
    (cOF : PySem.W.codeIn K cdOF "Diagram.of_reader" = true)
    (kOF : PySem.W.keepIn K (.ref fOF) = true)
    (aST : PySem.W.findIn K (.ref C) "__str__" = some (some (.ref fST)))
    (iST : PySem.W.isFn K (.ref fST) = true)
    (lST : K.lookup fST = some ⟨ocST, odST, .func (PySem.W.fnOf "__str__" "Diagram.__str__" (defArgs sStr) (defBody sStr) (defScope sStr) .none kVST dcST pmST anST cdST ctST), slST⟩)
    (cST : PySem.W.codeIn K cdST "Diagram.__str__" = true)
    (kST : PySem.W.keepIn K (.ref fST) = true)
    (aPI : PySem.W.findIn K (.ref C) "__init__" = some (some (.ref fDI)))
    (iPI : PySem.W.isFn K (.ref fDI) = true)
    (lPI : K.lookup fDI = some ⟨ocPI, odPI, .func (PySem.W.fnX "__init__" "Diagram.__init__" (defArgs sDI) (defBody sDI) (defScope sDI) [(("__class__" : Str), cc)] .none .none dcPI pmPI anPI (.ref cda) ctPI), slPI⟩)
    (cPI : PySem.W.codeIn K (.ref cda) "Diagram.__init__" = true)
    (lcd : K.lookup cda = some ⟨cclPI, cddPI, .fields vsPI, ccsPI⟩)
    (vcd : vsPI[2]? = some (.str PySem.Challenge.pw_stepblocks_k08_bounds_of_texts.main.file tfPI))
    (lcc : K.lookup cc = some ⟨clPI, cldPI, .cell (some (.ref C)), cslPI⟩)
    (tpa : PySem.W.nsIn K PySem.cStatics "thirdparty.any" = some none)
    (sbs : PySem.W.mroIn K C (.ref C) = some true)
    (sat : PySem.W.ks_superIn K C C "__init__" = some (some (.ref fBI)))
    (sty : PySem.W.typeIn K (.ref fBI) = some (.type "function"))
    (sdc : PySem.W.clsIn K C = some cdD)
    (sfi : PySem.W.fnIn K fBI = true)
    (pg : PySem.W.plainGet K C Str.empty = true)
    (hd : PySem.W.hasDictIn K C = true)
    (po : PySem.W.plainOver K C = true)
    (sa : PySem.W.findIn K (.ref C) "__setattr__" = some (some (.builtin "object.__setattr__")))
    (mk : PySem.W.makesIn K C = true)
    (kc : PySem.W.keepIn K (.ref C) = true)
    (pgR : PySem.W.plainGet K CR Str.empty = true)
    (hdR : PySem.W.hasDictIn K CR = true)
    (poR : PySem.W.plainOver K CR = true)
    (saR : PySem.W.findIn K (.ref CR) "__setattr__" = some (some (.builtin "object.__setattr__")))
    (mkR : PySem.W.makesIn K CR = true)
    (kcR : PySem.W.keepIn K (.ref CR) = true)
    (rdC : PySem.W.readsIn K C (.type "type") = true)
    (gaC : PySem.W.specialIn K (.ref C) "__getattribute__" = some (some (.builtin "type.__getattribute__")))
    (v8 : PySem.W.findCls K (.ref C) (.type "type") "MAX_PORTS" = some (.val (.int 8 tv8)))
    (v16 : PySem.W.findCls K (.ref C) (.type "type") "MAX_PARTS" = some (.val (.int 16 tv16)))
    (gnN : PySem.W.findIn K (.ref C) "name" = some none)
    (gnI : PySem.W.findIn K (.ref C) "inputs" = some none)
    (gnO : PySem.W.findIn K (.ref C) "outputs" = some none)
    (gnP : PySem.W.findIn K (.ref C) "parts" = some none)
    (gnW : PySem.W.findIn K (.ref C) "wires" = some none)
    (rN : PySem.W.findIn K (.ref CR) "name" = some none)
    (rI : PySem.W.findIn K (.ref CR) "inputs" = some none)
    (rO : PySem.W.findIn K (.ref CR) "outputs" = some none)
    (rP : PySem.W.findIn K (.ref CR) "parts" = some none)
    (rW : PySem.W.findIn K (.ref CR) "wires" = some none)
    (rD : PySem.W.findIn K (.ref CR) "is_done" = some none)
    (rA : PySem.W.findIn K (.ref CR) "_max_ports" = some none)
    (rB : PySem.W.findIn K (.ref CR) "_max_parts" = some none)
    (aMo : PySem.W.nsIn K mainGlobals "MODULUS" = some (some (.int 4294967296 tkM)))
    (aMd : PySem.W.nsIn K mainGlobals "MOST_DIGITS" = some (some (.int 10 tkD)))
    (aDg : PySem.W.nsIn K mainGlobals "DIGITS" = some (some (.str "0123456789" tkW)))
    (aLe : PySem.W.nsIn K mainGlobals "LETTERS" = some (some (.str "abcdefghijklmnopqrstuvwxyz" tkL)))
    (aMl : PySem.W.nsIn K mainGlobals "MOST_LETTERS" = some (some (.int 8 tkE)))
    (aP : PySem.W.nsIn K mainGlobals "PRIMITIVE_PORTS" = some (some (.ref dP)))
    (lP : K.lookup dP = some ⟨.type "dict", none, .dict esP nP, #[]⟩)
    (qP : PySem.W.KeysLit w.params esP.toList)
    (oP : (dP == sysModules) = false)
    (kP : esP.toList.map (·.key) = [.str "const" kk1, .str "add" kk2, .str "sub" kk3, .str "mul" kk4, .str "less" kk5, .str "equal" kk6, .str "pick" kk7, .str "divide" kk8, .str "delay" kk9])
    (aW : PySem.W.nsIn K mainGlobals "WORDS_WITH_VALUE" = some (some (.ref dW)))
    (lW : K.lookup dW = some ⟨.type "tuple", ddW, .seq #[.str "const" tW1, .str "delay" tW2] nW, slW⟩)
    (aE : PySem.W.nsIn K mainGlobals "RESERVED_WORDS" = some (some (.ref dE)))
    (lE : K.lookup dE = some ⟨.type "tuple", ddE, .seq #[.str "block" tE1, .str "part" tE2, .str "end" tE3, .str "self" tE4] nE, slE⟩)
    (u1 : PySem.W.nsIn K dP "const" = some (some (.ref t1)))
    (u2 : PySem.W.nsIn K dP "add" = some (some (.ref t2)))
    (u3 : PySem.W.nsIn K dP "sub" = some (some (.ref t3)))
    (u4 : PySem.W.nsIn K dP "mul" = some (some (.ref t4)))
    (u5 : PySem.W.nsIn K dP "less" = some (some (.ref t5)))
    (u6 : PySem.W.nsIn K dP "equal" = some (some (.ref t6)))
    (u7 : PySem.W.nsIn K dP "pick" = some (some (.ref t7)))
    (u8 : PySem.W.nsIn K dP "divide" = some (some (.ref t8)))
    (u9 : PySem.W.nsIn K dP "delay" = some (some (.ref t9)))
    (zsuper : PySem.W.nsIn K mainGlobals "super" = some none)
    (zlen : PySem.W.nsIn K mainGlobals "len" = some none)
    (zall : PySem.W.nsIn K mainGlobals "all" = some none)
    (zint : PySem.W.nsIn K mainGlobals "int" = some none)
    (zstr : PySem.W.nsIn K mainGlobals "str" = some none)
    (ztuple : PySem.W.nsIn K mainGlobals "tuple" = some none)
    (zisinstance : PySem.W.nsIn K mainGlobals "isinstance" = some none)
    (zset : PySem.W.nsIn K mainGlobals "set" = some none)
    (zsorted : PySem.W.nsIn K mainGlobals "sorted" = some none)
    (zenumerate : PySem.W.nsIn K mainGlobals "enumerate" = some none)
    (zmax : PySem.W.nsIn K mainGlobals "max" = some none)
    (zmin : PySem.W.nsIn K mainGlobals "min" = some none)
    (zabs : PySem.W.nsIn K mainGlobals "abs" = some none)
    (zrange : PySem.W.nsIn K mainGlobals "range" = some none)
    (aBE : PySem.W.nsIn K mainGlobals "BlockError" = some (some (.ref BE)))
    (xE : K.lookup CI = some (excClassObj nmE qE CI NE bsE [.ref BE, .type "ValueError", .type "Exception", .type "BaseException", .type "object"] true snE subE abE colE ddEE k0E k1E k2E k3E k5E "ValueError.__new__"))
    (eSa : PySem.W.findIn K (.ref CI) "__setattr__" = some (some (.builtin "object.__setattr__")))
    (eGa : PySem.W.findIn K (.ref CI) "__getattribute__" = some (some (.builtin "BaseException.__getattribute__")))
    (eGg : PySem.W.findIn K (.ref CI) "__getattr__" = some none)
    (eRow : PySem.W.findIn K (.ref CI) "row" = some none)
    (eEx : PySem.W.subIn K (.ref CI) (.type "BaseException") = some true)
    (eTy : PySem.W.typeIn K (.ref CI) = some (.type "type"))
    (eK : PySem.W.keepIn K (.ref CI) = true)
    (eHd : PySem.W.hasDictIn K CI = true)
    (eSelf : PySem.W.subIn K (.ref CI) (.ref CI) = some true)
    (aER : PySem.W.findIn K (.ref CI) "__init__" = some (some (.ref fER)))
    (iER : PySem.W.isFn K (.ref fER) = true)
    (lER : K.lookup fER = some ⟨ocER, odER, .func (PySem.W.fnOf "__init__" "InvalidText.__init__" (defArgs sErr) (defBody sErr) (defScope sErr) .none kVER dcER pmER anER cdER ctER), slER⟩)
    (cER : PySem.W.codeIn K cdER "InvalidText.__init__" = true)
    (kER : PySem.W.keepIn K (.ref fER) = true)
    (tER : PySem.W.typeIn K (.ref fER) = some (.type "function"))
    (aFE : PySem.W.nsIn K mainGlobals "_law_feed" = some (some (.ref fFE)))
    (lFE : K.lookup fFE = some ⟨ocFE, odFE, .func (PySem.W.fnOf "_law_feed" "_law_feed" (defArgs sFeed) (defBody sFeed) (defScope sFeed) .none kVFE dcFE pmFE anFE cdFE ctFE), slFE⟩)
    (cFE : PySem.W.codeIn K cdFE "_law_feed" = true)
    (kFE : PySem.W.keepIn K (.ref fFE) = true)
    (aTK : PySem.W.nsIn K mainGlobals "_law_take" = some (some (.ref fTK)))
    (lTK : K.lookup fTK = some ⟨ocTK, odTK, .func (PySem.W.fnOf "_law_take" "_law_take" (defArgs sTakeL) (defBody sTakeL) (defScope sTakeL) .none kVTK dcTK pmTK anTK cdTK ctTK), slTK⟩)
    (cTK : PySem.W.codeIn K cdTK "_law_take" = true)
    (kTK : PySem.W.keepIn K (.ref fTK) = true)
    (aPK : PySem.W.nsIn K mainGlobals "_law_pick" = some (some (.ref fPK)))
    (lPK : K.lookup fPK = some ⟨ocPK, odPK, .func (PySem.W.fnOf "_law_pick" "_law_pick" (defArgs sPickL) (defBody sPickL) (defScope sPickL) .none kVPK dcPK pmPK anPK cdPK ctPK), slPK⟩)
    (cPK : PySem.W.codeIn K cdPK "_law_pick" = true)
    (kPK : PySem.W.keepIn K (.ref fPK) = true)
    (aTO : PySem.W.nsIn K mainGlobals "_law_told" = some (some (.ref fTO)))
    (lTO : K.lookup fTO = some ⟨ocTO, odTO, .func (PySem.W.fnOf "_law_told" "_law_told" (defArgs sTold) (defBody sTold) (defScope sTold) .none kVTO dcTO pmTO anTO cdTO ctTO), slTO⟩)
    (cTO : PySem.W.codeIn K cdTO "_law_told" = true)
    (kTO : PySem.W.keepIn K (.ref fTO) = true)
    (aGH : PySem.W.nsIn K mainGlobals "_law_good_heads" = some (some (.ref fGH)))
    (lGH : K.lookup fGH = some ⟨ocGH, odGH, .func (PySem.W.fnOf "_law_good_heads" "_law_good_heads" (defArgs sGh) (defBody sGh) (defScope sGh) .none kVGH dcGH pmGH anGH cdGH ctGH), slGH⟩)
    (cGH : PySem.W.codeIn K cdGH "_law_good_heads" = true)
    (kGH : PySem.W.keepIn K (.ref fGH) = true)
    (aWH : PySem.W.nsIn K mainGlobals "_law_wrong_heads" = some (some (.ref fWH)))
    (lWH : K.lookup fWH = some ⟨ocWH, odWH, .func (PySem.W.fnOf "_law_wrong_heads" "_law_wrong_heads" (defArgs sWh) (defBody sWh) (defScope sWh) .none kVWH dcWH pmWH anWH cdWH ctWH), slWH⟩)
    (cWH : PySem.W.codeIn K cdWH "_law_wrong_heads" = true)
    (kWH : PySem.W.keepIn K (.ref fWH) = true)
    (aBO : PySem.W.nsIn K mainGlobals "_law_bodies" = some (some (.ref fBO)))
    (lBO : K.lookup fBO = some ⟨ocBO, odBO, .func (PySem.W.fnOf "_law_bodies" "_law_bodies" (defArgs sBo) (defBody sBo) (defScope sBo) .none kVBO dcBO pmBO anBO cdBO ctBO), slBO⟩)
    (cBO : PySem.W.codeIn K cdBO "_law_bodies" = true)
    (kBO : PySem.W.keepIn K (.ref fBO) = true)
    (aMY : PySem.W.nsIn K mainGlobals "_law_many_right" = some (some (.ref fMY)))
    (lMY : K.lookup fMY = some ⟨ocMY, odMY, .func (PySem.W.fnOf "_law_many_right" "_law_many_right" (defArgs sMany) (defBody sMany) (defScope sMany) .none kVMY dcMY pmMY anMY cdMY ctMY), slMY⟩)
    (cMY : PySem.W.codeIn K cdMY "_law_many_right" = true)
    (kMY : PySem.W.keepIn K (.ref fMY) = true)
    (aLA : PySem.W.nsIn K mainGlobals "law" = some (some (.ref fLA)))
    (lLA : K.lookup fLA = some ⟨ocLA, odLA, .func (PySem.W.fnOf "law" "law" (defArgs sLaw) (defBody sLaw) (defScope sLaw) .none kVLA dcLA pmLA anLA cdLA ctLA), slLA⟩)
    (cLA : PySem.W.codeIn K cdLA "law" = true)
    (kLA : PySem.W.keepIn K (.ref fLA) = true) :
    ∃ fd : FuncData, (∀ (s : Shared) (v : Value), BindsTo s fd ⟨[v], []⟩ [("script", v)]) ∧ ∀ base : Heap, K.In base → base.Ns mainGlobals mg → FnOk PySem.Challenge.pw_stepblocks_k08_bounds_of_texts w K mg base CX0 9 fa fd ["script"] (spLaw K) := by
  have e := hfa.symm.trans (PySem.W.mg_of X G aLA)
  cases e
  have D : KDict K w dP esP nP := ⟨lP, qP, oP⟩
  have keysP : ∀ e ∈ esP.toList, ∃ x t, e.key = .str x t ∧ x ∈ words9 := fun e he => by
    have z : e.key ∈ esP.toList.map (·.key) := List.mem_map_of_mem he
    rw [kP] at z
    simp only [List.mem_cons, List.not_mem_nil, or_false] at z
    rcases z with z | z | z | z | z | z | z | z | z <;> exact ⟨_, _, z, by decide +kernel⟩
  have T : Txt K w mg := by
    refine ⟨⟨dP, esP, nP, PySem.W.mg_of X G aP, D, fun z hz => ?_, fun z hz => miss_of lP keysP hz⟩,
      ⟨dW, PySem.W.mg_of X G aW, fun H => .inr ⟨_, _, _, lW, rfl, rfl, (by decide +kernel : 2 ≤ sizeLine), .cons ⟨_, rfl⟩ (.cons ⟨_, rfl⟩ .nil)⟩⟩, ⟨_, PySem.W.mg_of X G aDg⟩, ⟨_, PySem.W.mg_of X G aMd⟩, ⟨_, PySem.W.mg_of X G aMo⟩, ⟨_, PySem.W.mg_of X G aLe⟩, ⟨_, PySem.W.mg_of X G aMl⟩,
      ⟨dE, PySem.W.mg_of X G aE, fun H => .inr ⟨_, _, _, lE, rfl, rfl, (by decide +kernel : 4 ≤ sizeLine), .cons ⟨_, rfl⟩ (.cons ⟨_, rfl⟩ (.cons ⟨_, rfl⟩ (.cons ⟨_, rfl⟩ .nil)))⟩⟩,
      PySem.W.mg_none_of X G zisinstance, PySem.W.mg_none_of X G zlen, PySem.W.mg_none_of X G zall, PySem.W.mg_none_of X G zint, PySem.W.mg_none_of X G zstr, PySem.W.mg_none_of X G ztuple⟩
    simp only [words9, List.mem_cons, List.not_mem_nil, or_false] at hz
    rcases hz with rfl | rfl | rfl | rfl | rfl | rfl | rfl | rfl | rfl
    · exact ⟨_, u1⟩
    · exact ⟨_, u2⟩
    · exact ⟨_, u3⟩
    · exact ⟨_, u4⟩
    · exact ⟨_, u5⟩
    · exact ⟨_, u6⟩
    · exact ⟨_, u7⟩
    · exact ⟨_, u8⟩
    · exact ⟨_, u9⟩
  have FNA := fun_mk (st := sName) lNA cNA kNA
  have bNA := FNA.binds (ps := ["value"]) fun _ _ _ _ _ _ us hl => match us, hl with | [_], _ => rfl
  have FDN := fun_mk (st := sDN) lDN cDN kDN
  have bDN := FDN.binds (ps := ["text"]) fun _ _ _ _ _ _ us hl => match us, hl with | [_], _ => rfl
  have FRV := fun_mk (st := sRV) lRV cRV kRV
  have bRV := FRV.binds (ps := ["text"]) fun _ _ _ _ _ _ us hl => match us, hl with | [_], _ => rfl
  have FRP := fun_mk (st := sRP) lRP cRP kRP
  have bRP := FRP.binds (ps := ["text"]) fun _ _ _ _ _ _ us hl => match us, hl with | [_], _ => rfl
  have FIP := fun_mk (st := sIP) lIP cIP kIP
  have bIP := FIP.binds (ps := ["text"]) fun _ _ _ _ _ _ us hl => match us, hl with | [_], _ => rfl
  have FHR := fun_mk (st := sHead) lHR cHR kHR
  have bHR := FHR.binds (ps := ["name", "inputs", "outputs"]) fun _ _ _ _ _ _ us hl => match us, hl with | [_, _, _], _ => rfl
  have FPT := fun_mk (st := sPort) lPT cPT kPT
  have bPT := FPT.binds (ps := ["port"]) fun _ _ _ _ _ _ us hl => match us, hl with | [_], _ => rfl
  have FRW := fun_mk (st := sRows) lRW cRW kRW
  have bRW := FRW.binds (ps := ["name", "inputs", "outputs", "parts", "wires"]) fun _ _ _ _ _ _ us hl => match us, hl with | [_, _, _, _, _], _ => rfl
  have FRH := fun_mk (st := sReadHead) lRH cRH kRH
  have bRH := FRH.binds (ps := ["row"]) fun _ _ _ _ _ _ us hl => match us, hl with | [_], _ => rfl
  have FOT := fun_mk (st := sOrder) lOT cOT kOT
  have bOT := FOT.binds (ps := ["parts", "outputs", "targets"]) fun _ _ _ _ _ _ us hl => match us, hl with | [_, _, _], _ => rfl
  have FRI := fun_mk (st := sRI) lRI cRI kRI
  have bRI := FRI.binds (ps := ["self", "max_ports", "max_parts"]) fun _ _ _ _ _ _ us hl => match us, hl with | [_, _, _], _ => rfl
  have FTA := fun_mk (st := sTake) lTA cTA kTA
  have bTA := FTA.binds (ps := ["self", "row"]) fun _ _ _ _ _ _ us hl => match us, hl with | [_, _], _ => rfl
  have FTH := fun_mk (st := sTakeHead) lTH cTH kTH
  have bTH := FTH.binds (ps := ["self", "row"]) fun _ _ _ _ _ _ us hl => match us, hl with | [_, _], _ => rfl
  have FTP := fun_mk (st := sTakePart) lTP cTP kTP
  have bTP := FTP.binds (ps := ["self", "row"]) fun _ _ _ _ _ _ us hl => match us, hl with | [_, _], _ => rfl
  have FTW := fun_mk (st := sTakeWire) lTW cTW kTW
  have bTW := FTW.binds (ps := ["self", "row"]) fun _ _ _ _ _ _ us hl => match us, hl with | [_, _], _ => rfl
  have FPO := fun_mk (st := sReadPort) lPO cPO kPO
  have bPO := FPO.binds (ps := ["self", "text", "own_names"]) fun _ _ _ _ _ _ us hl => match us, hl with | [_, _, _], _ => rfl
  have FBI := fun_mk (st := sBI) lBI cBI kBI
  have bBI := FBI.binds (ps := ["self", "name", "inputs", "outputs"]) fun _ _ _ _ _ _ us hl => match us, hl with | [_, _, _, _], _ => rfl
  have FPA := fun_mk (st := sParse) lPA cPA kPA
  have bPA := FPA.binds (ps := ["cls", "text"]) fun _ _ _ _ _ _ us hl => match us, hl with | [_, _], _ => rfl
  have FOF := fun_mk (st := sOfR) lOF cOF kOF
  have bOF := FOF.binds (ps := ["cls", "reader"]) fun _ _ _ _ _ _ us hl => match us, hl with | [_, _], _ => rfl
  have FST := fun_mk (st := sStr) lST cST kST
  have bST := FST.binds (ps := ["self"]) fun _ _ _ _ _ _ us hl => match us, hl with | [_], _ => rfl
  have FER := fun_mk (st := sErr) lER cER kER
  have bER := FER.binds (ps := ["self", "row"]) fun _ _ _ _ _ _ us hl => match us, hl with | [_, _], _ => rfl
  have FFE := fun_mk (st := sFeed) lFE cFE kFE
  have bFE := FFE.binds (ps := ["script", "k"]) fun _ _ _ _ _ _ us hl => match us, hl with | [_, _], _ => rfl
  have FTK := fun_mk (st := sTakeL) lTK cTK kTK
  have bTK := FTK.binds (ps := ["feed", "many"]) fun _ _ _ _ _ _ us hl => match us, hl with | [_, _], _ => rfl
  have FPK := fun_mk (st := sPickL) lPK cPK kPK
  have bPK := FPK.binds (ps := ["feed", "some"]) fun _ _ _ _ _ _ us hl => match us, hl with | [_, _], _ => rfl
  have FTO := fun_mk (st := sTold) lTO cTO kTO
  have bTO := FTO.binds (ps := ["rows"]) fun _ _ _ _ _ _ us hl => match us, hl with | [_], _ => rfl
  have FGH := fun_mk (st := sGh) lGH cGH kGH
  have bGH := FGH.binds (ps := ["name"]) fun _ _ _ _ _ _ us hl => match us, hl with | [_], _ => rfl
  have FWH := fun_mk (st := sWh) lWH cWH kWH
  have bWH := FWH.binds (ps := ["name"]) fun _ _ _ _ _ _ us hl => match us, hl with | [_], _ => rfl
  have FBO := fun_mk (st := sBo) lBO cBO kBO
  have bBO := FBO.binds (ps := ["name"]) fun _ _ _ _ _ _ us hl => match us, hl with | [_], _ => rfl
  have FMY := fun_mk (st := sMany) lMY cMY kMY
  have bMY := FMY.binds (ps := ["name"]) fun _ _ _ _ _ _ us hl => match us, hl with | [_], _ => rfl
  have FLA := fun_mk (st := sLaw) lLA cLA kLA
  have bLA := FLA.binds (ps := ["script"]) fun _ _ _ _ _ _ us hl => match us, hl with | [_], _ => rfl
  refine ⟨PySem.W.fnOf "law" "law" (defArgs sLaw) (defBody sLaw) (defScope sLaw) .none kVLA dcLA pmLA anLA cdLA ctLA, fun s v => .of_eq rfl, fun base _ _ => ?_⟩
  have GNA : FnOk PySem.Challenge.pw_stepblocks_k08_bounds_of_texts w K mg base CX0 1 fNA _ ["value"] spName := ok_name FNA T
  have GDN : FnOk PySem.Challenge.pw_stepblocks_k08_bounds_of_texts w K mg base CX0 2 fDN _ ["text"] spDN := ok_dn FDN T GNA (PySem.W.mg_of X G aNA) kNA bNA
  have GRV : FnOk PySem.Challenge.pw_stepblocks_k08_bounds_of_texts w K mg base CX0 1 fRV _ ["text"] spRV := ok_rv FRV T
  have GRP : FnOk PySem.Challenge.pw_stepblocks_k08_bounds_of_texts w K mg base CX0 2 fRP _ ["text"] spRP := ok_rp FRP T GRV (PySem.W.mg_of X G aRV) kRV bRV
  have GIP : FnOk PySem.Challenge.pw_stepblocks_k08_bounds_of_texts w K mg base CX0 3 fIP _ ["text"] spIP := ok_ip FIP GRP (PySem.W.mg_of X G aRP) kRP bRP
  have GHR : FnOk PySem.Challenge.pw_stepblocks_k08_bounds_of_texts w K mg base CX0 1 fHR _ ["name", "inputs", "outputs"] (spHead K) := ok_head FHR 
  have GPT : FnOk PySem.Challenge.pw_stepblocks_k08_bounds_of_texts w K mg base CX0 1 fPT _ ["port"] (spPort K) := ok_port FPT 
  have GRW : FnOk PySem.Challenge.pw_stepblocks_k08_bounds_of_texts w K mg base CX0 2 fRW _ ["name", "inputs", "outputs", "parts", "wires"] (spRows K) := ok_rows FRW GHR (PySem.W.mg_of X G aHR) kHR bHR GPT (PySem.W.mg_of X G aPT) kPT bPT
  have GRH : FnOk PySem.Challenge.pw_stepblocks_k08_bounds_of_texts w K mg base CX0 2 fRH _ ["row"] (spReadHead K) := ok_readhead FRH T GHR (PySem.W.mg_of X G aHR) kHR bHR
  have GOT : FnOk PySem.Challenge.pw_stepblocks_k08_bounds_of_texts w K mg base CX0 1 fOT _ ["parts", "outputs", "targets"] (spOrder K) := ok_order FOT (PySem.W.mg_none_of X G zsorted)
  have clR : Cls K CR := ⟨pgR, hdR, poR, saR⟩
  have R : RdC PySem.Challenge.pw_stepblocks_k08_bounds_of_texts w K mg base CR := ⟨clR, rN, rI, rO, rP, rW, rD, rA, rB⟩
  have Dg : DgC K mg C := ⟨⟨pg, hd, po, sa⟩, gnN, gnI, gnO, gnP, gnW, PySem.W.mg_none_of X G zsuper, PySem.W.mg_none_of X G ztuple⟩
  have GRI : FnOk PySem.Challenge.pw_stepblocks_k08_bounds_of_texts w K mg base CX0 1 fRI _ ["self", "max_ports", "max_parts"] (spRI K CR) := ok_ri FRI R
  have GPO : FnOk PySem.Challenge.pw_stepblocks_k08_bounds_of_texts w K mg base CX0 2 fPO _ ["self", "text", "own_names"] (spReadPort K CR) := ok_readport FPO clR rP GNA (PySem.W.mg_of X G aNA) kNA bNA
  have GTW : FnOk PySem.Challenge.pw_stepblocks_k08_bounds_of_texts w K mg base CX0 3 fTW _ ["self", "row"] (spTakeWire K CR) := ok_takewire FTW T clR rW rI rO ⟨aPO, iPO, kPO⟩ GPO bPO
  have GTP : FnOk PySem.Challenge.pw_stepblocks_k08_bounds_of_texts w K mg base CX0 4 fTP _ ["self", "row"] (spTakePart CR) := ok_takepart FTP T clR rP rB GNA (PySem.W.mg_of X G aNA) kNA bNA GIP (PySem.W.mg_of X G aIP) kIP bIP GDN (PySem.W.mg_of X G aDN) kDN bDN
  have GTH : FnOk PySem.Challenge.pw_stepblocks_k08_bounds_of_texts w K mg base CX0 3 fTH _ ["self", "row"] (spTakeHead CR) := ok_takehead FTH T (PySem.W.mg_none_of X G zset) clR rA rN rI rO GRH (PySem.W.mg_of X G aRH) kRH bRH GNA (PySem.W.mg_of X G aNA) kNA bNA GDN (PySem.W.mg_of X G aDN) kDN bDN
  have GTA : FnOk PySem.Challenge.pw_stepblocks_k08_bounds_of_texts w K mg base CX0 5 fTA _ ["self", "row"] (spTake K CR) := ok_take FTA R ⟨aTH, iTH, kTH⟩ GTH bTH ⟨aTP, iTP, kTP⟩ GTP bTP ⟨aTW, iTW, kTW⟩ GTW bTW
  have DI : DIn K PySem.Challenge.pw_stepblocks_k08_bounds_of_texts C fDI cc cda fBI := ⟨⟨_, _, _, _, _, _, _, lPI, ⟨_, _, _, lPI⟩, ⟨_, rfl, rfl⟩, ⟨_, _, _, _, _, _, lcd, vcd, beq_self_eq_true _⟩, ⟨_, _, _, lcc⟩, by decide +kernel, tpa⟩, cPI, ⟨sbs, sat, sty, ⟨_, sdc⟩, sfi⟩⟩
  have GB : FnOk PySem.Challenge.pw_stepblocks_k08_bounds_of_texts w K mg base CX0 1 fBI _ ["self", "name", "inputs", "outputs"] (spBI K) := ok_bi FBI
  have GI := ok_di DI Dg GB bBI GOT (PySem.W.mg_of X G aOT) kOT bOT
  have GOF : FnOk PySem.Challenge.pw_stepblocks_k08_bounds_of_texts w K mg base CX0 4 fOF _ ["cls", "reader"] (spOf K CR C) := ok_of FOF R ⟨mk, aPI, iPI, kc⟩ GI
  have raw : ∀ {k : Nat} {f : Addr} {fd : FuncData} {ps : List Str} {sp : Sp}, FnOk PySem.Challenge.pw_stepblocks_k08_bounds_of_texts w K mg base CX0 k f fd ps sp → Binds K fd ps [] → FnR PySem.Challenge.pw_stepblocks_k08_bounds_of_texts w K mg base CX0 k f sp := fun g b => by
    have z := g.raw b .nil
    simpa only [List.append_nil] using z
  have Er : ErrC K mg CI fER := ⟨⟨⟨nmE, qE, NE, bsE, _, snE, subE, abE, colE, ddEE, k0E, k1E, k2E, k3E, k5E, xE, by rfl⟩, eSa, eEx, eTy, eK⟩, aER, tER, eRow, PySem.W.mg_of X G aCI⟩
  have GER : FnOk PySem.Challenge.pw_stepblocks_k08_bounds_of_texts w K mg base CX0 1 fER _ ["self", "row"] (spErr K CI) := ok_err FER Er
  have cr : CRead K C (.type "type") := ⟨rdC, gaC⟩
  have GPA : FnOk PySem.Challenge.pw_stepblocks_k08_bounds_of_texts w K mg base (L2.CX PySem.Challenge.pw_stepblocks_k08_bounds_of_texts w) 6 fPA _ ["cls", "text"] (spParse K CR C CI) := ok_parse FPA (PySem.W.mg_none_of X G zlen) (PySem.W.mg_none_of X G zenumerate) R ⟨aTA, iTA, kTA⟩ GTA bTA ⟨mkR, aRI, iRI, kcR⟩ GRI (PySem.W.mg_of X G aCR) bRI cr ⟨_, v8, ⟨_, rfl⟩⟩ ⟨_, v16, ⟨_, rfl⟩⟩ ⟨aOF, ⟨_, rOF⟩, iOF⟩ (raw GOF bOF) Er GER bER
  have rawX : FnR PySem.Challenge.pw_stepblocks_k08_bounds_of_texts w K mg base (L2.CX PySem.Challenge.pw_stepblocks_k08_bounds_of_texts w) 6 fPA (spParse K CR C CI) := by
    have z := GPA.raw bPA .nil
    simpa only [List.append_nil] using z
  have GST : FnOk PySem.Challenge.pw_stepblocks_k08_bounds_of_texts w K mg base CX0 3 fST _ ["self"] (spStr K C) := ok_str FST Dg GRW (PySem.W.mg_of X G aRW) kRW bRW
  have Pa : Par PySem.Challenge.pw_stepblocks_k08_bounds_of_texts w K mg base CR C CI := ⟨⟨.type "type", pPA, fPA, cr, ⟨aPA, ⟨_, rPA⟩, iPA⟩, rawX⟩, ⟨fST, aST, iST, raw GST bST⟩, PySem.W.exm_ref eEx eHd eTy eSelf, ⟨eGa, eGg, eEx, eHd⟩, eRow, PySem.W.mg_of X G aCI, PySem.W.mg_of X G aC, PySem.W.mg_none_of X G zstr⟩
  have GTO : FnOk PySem.Challenge.pw_stepblocks_k08_bounds_of_texts w K mg base CX0 7 fTO _ ["rows"] (spTold K) := ok_told FTO Pa
  have GFE : FnOk PySem.Challenge.pw_stepblocks_k08_bounds_of_texts w K mg base CX0 1 fFE _ ["script", "k"] (spFeed K) := ok_feed FFE (PySem.W.mg_none_of X G zlen) (PySem.W.mg_none_of X G zmax) (PySem.W.mg_none_of X G zabs)
  have GTK : FnOk PySem.Challenge.pw_stepblocks_k08_bounds_of_texts w K mg base CX0 1 fTK _ ["feed", "many"] spTakeL := ok_takeL FTK 
  have GPK : FnOk PySem.Challenge.pw_stepblocks_k08_bounds_of_texts w K mg base CX0 2 fPK _ ["feed", "some"] spPickS := ok_picks FPK GTK (PySem.W.mg_of X G aTK) kTK bTK (PySem.W.mg_none_of X G zlen)
  have GGH : FnOk PySem.Challenge.pw_stepblocks_k08_bounds_of_texts w K mg base CX0 1 fGH _ ["name"] spGh := ok_Gh FGH 
  have GWH : FnOk PySem.Challenge.pw_stepblocks_k08_bounds_of_texts w K mg base CX0 1 fWH _ ["name"] spWh := ok_Wh FWH 
  have GBO : FnOk PySem.Challenge.pw_stepblocks_k08_bounds_of_texts w K mg base CX0 1 fBO _ ["name"] spBo := ok_Bo FBO 
  have GMY : FnOk PySem.Challenge.pw_stepblocks_k08_bounds_of_texts w K mg base CX0 8 fMY _ ["name"] spMany := ok_many FMY GTO (PySem.W.mg_of X G aTO) kTO bTO (PySem.W.mg_none_of X G zrange)
  exact ok_law FLA GFE (PySem.W.mg_of X G aFE) kFE bFE GTK (PySem.W.mg_of X G aTK) kTK bTK GPK (PySem.W.mg_of X G aPK) kPK bPK GGH (PySem.W.mg_of X G aGH) kGH bGH GWH (PySem.W.mg_of X G aWH) kWH bWH GBO (PySem.W.mg_of X G aBO) kBO bBO GMY (PySem.W.mg_of X G aMY) kMY bMY GTO (PySem.W.mg_of X G aTO) kTO bTO (PySem.W.mg_none_of X G zlen) (PySem.W.mg_none_of X G zmax) (PySem.W.mg_none_of X G zmin) (PySem.W.mg_none_of X G zrange) name_ok
theorem walk {l : PySem.W.OpenLaw} {q : Program} {loose : List Str} {XP : (Str → Option Value) → Heap → Prop} {YP : World → Heap → Prop} {d : DefRec} {K : Params → PySem.W.Frag} (hn : l.most = some 63) (hdf : d.params.defaults = [])
    (hY : ∀ (w : World) (h : Heap), YP w h → (K w.params).In h)
    (F : ∀ (w : World) (mg : Str → Option Value) (fa : Addr) (h : Heap), (K w.params).In h → h.Ns mainGlobals mg → mg d.name = some (.ref fa) →
      ∃ fd : FuncData, (∀ (s : Shared) (u : Value), BindsTo s fd ⟨[u], []⟩ [("script", u)]) ∧ ∀ base : Heap, (K w.params).In base → base.Ns mainGlobals mg → FnOk l.prog w (K w.params) mg base CX0 9 fa fd ["script"] (spLaw (K w.params))) :
    PySem.W.WalkO q loose XP YP l.row.toRowW d [] (fun f vs => PySem.call f vs) :=
  L2.walk_of (n := 63) (k := 9) (x := "script") (CX := fun _ => CX0) (sp := fun w => spLaw (K w.params)) hn (by decide) hdf ⟨rfl, by decide, by decide⟩ hY F (fun _ _ a ns hl _ hS => ⟨a, ns, rfl, hS, hl, fun _ => rfl⟩) fun _ _ _ _ _ z => z
end K8
open PySem PySem.W PyProof.Rows
set_option maxRecDepth 100000 in
set_option maxHeartbeats 0 in
theorem PySem.Challenge.cw_stepblocks_k08_bounds_of_texts_holds : PySem.Challenge.rw_stepblocks_k08_bounds_of_texts.Holds := by
  w_on; o_law; k_head; (case hw => w_witness2)
  k_fill
  refine K8.walk (l := PySem.Challenge.rw_stepblocks_k08_bounds_of_texts) rfl rfl (fun w h Y => PySem.W.kIn_of Y) ?F
  case F =>
    intro w mg fa h KX G hmg
    refine' K8.all_mk KX G hmg ?aC ?aB ?aCR ?aCI ?aNA ?lNA ?cNA ?kNA ?aDN ?lDN ?cDN ?kDN ?aRV ?lRV ?cRV ?kRV ?aRP ?lRP ?cRP ?kRP ?aIP ?lIP ?cIP ?kIP ?aHR ?lHR ?cHR ?kHR ?aPT ?lPT ?cPT ?kPT ?aRW ?lRW ?cRW ?kRW ?aRH ?lRH ?cRH ?kRH ?aOT ?lOT ?cOT ?kOT ?aRI ?iRI ?lRI ?cRI ?kRI ?aTA ?iTA ?lTA ?cTA ?kTA ?aTH ?iTH ?lTH ?cTH ?kTH ?aTP ?iTP ?lTP ?cTP ?kTP ?aTW ?iTW ?lTW ?cTW ?kTW ?aPO ?iPO ?lPO ?cPO ?kPO ?aBI ?iBI ?lBI ?cBI ?kBI ?aPA ?rPA ?iPA ?lPA ?cPA ?kPA ?aOF ?rOF ?iOF ?lOF ?cOF ?kOF ?aST ?iST ?lST ?cST ?kST ?aPI ?iPI ?lPI ?cPI ?lcd ?vcd ?lcc ?tpa ?sbs ?sat ?sty ?sdc ?sfi ?pg ?hd ?po ?sa ?mk ?kc ?pgR ?hdR ?poR ?saR ?mkR ?kcR ?rdC ?gaC ?v8 ?v16 ?gnN ?gnI ?gnO ?gnP ?gnW ?rN ?rI ?rO ?rP ?rW ?rD ?rA ?rB ?aMo ?aMd ?aDg ?aLe ?aMl ?aP ?lP ?qP ?oP ?kP ?aW ?lW ?aE ?lE ?u1 ?u2 ?u3 ?u4 ?u5 ?u6 ?u7 ?u8 ?u9 ?zsuper ?zlen ?zall ?zint ?zstr ?ztuple ?zisinstance ?zset ?zsorted ?zenumerate ?zmax ?zmin ?zabs ?zrange ?aBE ?xE ?eSa ?eGa ?eGg ?eRow ?eEx ?eTy ?eK ?eHd ?eSelf ?aER ?iER ?lER ?cER ?kER ?tER ?aFE ?lFE ?cFE ?kFE ?aTK ?lTK ?cTK ?kTK ?aPK ?lPK ?cPK ?kPK ?aTO ?lTO ?cTO ?kTO ?aGH ?lGH ?cGH ?kGH ?aWH ?lWH ?cWH ?kWH ?aBO ?lBO ?cBO ?kBO ?aMY ?lMY ?cMY ?kMY ?aLA ?lLA ?cLA ?kLA
    (case aC => k_is); (case aB => k_is); (case aCR => k_is); (case aCI => k_is); (case aNA => k_is); (case lNA => k_is); (case cNA => k_is); (case kNA => k_is)
    (case aDN => k_is); (case lDN => k_is); (case cDN => k_is); (case kDN => k_is); (case aRV => k_is); (case lRV => k_is); (case cRV => k_is); (case kRV => k_is)
    (case aRP => k_is); (case lRP => k_is); (case cRP => k_is); (case kRP => k_is); (case aIP => k_is); (case lIP => k_is); (case cIP => k_is); (case kIP => k_is)
    (case aHR => k_is); (case lHR => k_is); (case cHR => k_is); (case kHR => k_is); (case aPT => k_is); (case lPT => k_is); (case cPT => k_is); (case kPT => k_is)
    (case aRW => k_is); (case lRW => k_is); (case cRW => k_is); (case kRW => k_is); (case aRH => k_is); (case lRH => k_is); (case cRH => k_is); (case kRH => k_is)
    (case aOT => k_is); (case lOT => k_is); (case cOT => k_is); (case kOT => k_is); (case aRI => k_is); (case iRI => k_is); (case lRI => k_is); (case cRI => k_is)
    (case kRI => k_is); (case aTA => k_is); (case iTA => k_is); (case lTA => k_is); (case cTA => k_is); (case kTA => k_is); (case aTH => k_is); (case iTH => k_is)
    (case lTH => k_is); (case cTH => k_is); (case kTH => k_is); (case aTP => k_is); (case iTP => k_is); (case lTP => k_is); (case cTP => k_is); (case kTP => k_is)
    (case aTW => k_is); (case iTW => k_is); (case lTW => k_is); (case cTW => k_is); (case kTW => k_is); (case aPO => k_is); (case iPO => k_is); (case lPO => k_is)
    (case cPO => k_is); (case kPO => k_is); (case aBI => k_is); (case iBI => k_is); (case lBI => k_is); (case cBI => k_is); (case kBI => k_is); (case aPA => k_is)
    (case rPA => k_is); (case iPA => k_is); (case lPA => k_is); (case cPA => k_is); (case kPA => k_is); (case aOF => k_is); (case rOF => k_is); (case iOF => k_is)
    (case lOF => k_is); (case cOF => k_is); (case kOF => k_is); (case aST => k_is); (case iST => k_is); (case lST => k_is); (case cST => k_is); (case kST => k_is)
    (case aPI => k_is); (case iPI => k_is); (case lPI => k_is); (case cPI => k_is); (case lcd => k_is); (case vcd => exact rfl); (case lcc => k_is); (case tpa => k_is)
    (case sbs => k_is); (case sat => ks_is); (case sty => k_is); (case sdc => k_is); (case sfi => k_is); (case pg => k_is); (case hd => k_is); (case po => k_is)
    (case sa => k_is); (case mk => k_is); (case kc => k_is); (case pgR => k_is); (case hdR => k_is); (case poR => k_is); (case saR => k_is); (case mkR => k_is)
    (case kcR => k_is); (case rdC => k_is); (case gaC => k_is); (case v8 => k_is); (case v16 => k_is); (case gnN => k_is); (case gnI => k_is); (case gnO => k_is)
    (case gnP => k_is); (case gnW => k_is); (case rN => k_is); (case rI => k_is); (case rO => k_is); (case rP => k_is); (case rW => k_is); (case rD => k_is)
    (case rA => k_is); (case rB => k_is); (case aMo => k_is); (case aMd => k_is); (case aDg => k_is); (case aLe => k_is); (case aMl => k_is); (case aP => k_is)
    (case lP => k_is); (case qP => k_keys); (case oP => decide); (case kP => exact rfl); (case aW => k_is); (case lW => k_is); (case aE => k_is); (case lE => k_is)
    (case u1 => k_is); (case u2 => k_is); (case u3 => k_is); (case u4 => k_is); (case u5 => k_is); (case u6 => k_is); (case u7 => k_is); (case u8 => k_is)
    (case u9 => k_is); (case zsuper => k_is); (case zlen => k_is); (case zall => k_is); (case zint => k_is); (case zstr => k_is); (case ztuple => k_is); (case zisinstance => k_is)
    (case zset => k_is); (case zsorted => k_is); (case zenumerate => k_is); (case zmax => k_is); (case zmin => k_is); (case zabs => k_is); (case zrange => k_is); (case aBE => k_is)
    (case xE => k_is); (case eSa => k_is); (case eGa => k_is); (case eGg => k_is); (case eRow => k_is); (case eEx => k_is); (case eTy => k_is); (case eK => k_is)
    (case eHd => k_is); (case eSelf => k_is); (case aER => k_is); (case iER => k_is); (case lER => k_is); (case cER => k_is); (case kER => k_is); (case tER => k_is)
    (case aFE => k_is); (case lFE => k_is); (case cFE => k_is); (case kFE => k_is); (case aTK => k_is); (case lTK => k_is); (case cTK => k_is); (case kTK => k_is)
    (case aPK => k_is); (case lPK => k_is); (case cPK => k_is); (case kPK => k_is); (case aTO => k_is); (case lTO => k_is); (case cTO => k_is); (case kTO => k_is)
    (case aGH => k_is); (case lGH => k_is); (case cGH => k_is); (case kGH => k_is); (case aWH => k_is); (case lWH => k_is); (case cWH => k_is); (case kWH => k_is)
    (case aBO => k_is); (case lBO => k_is); (case cBO => k_is); (case kBO => k_is); (case aMY => k_is); (case lMY => k_is); (case cMY => k_is); (case kMY => k_is)
    (case aLA => k_is); (case lLA => k_is); (case cLA => k_is); (case kLA => k_is)
