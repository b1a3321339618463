import PyProof.Rows.All
import Wide.All
import OpenK.AllK
import Wide.FinOn
import KE.KSuper
import HandS.Nested
import HandS.ClsMeth
import HandS.Star
import HandS.Ends
import HandS.Words
import HandS.List
import HandS.Exc
import HandS.ExcIs
import HandS.ExcField
import HandS.ExcInit
import HandS.WordsExc
import HandS.ExcValue
import HandS.Strs
import PyProof.Rows.SortShellAny
import HandS.TupLen
import HandS.Walk
import HandS.TupAny
import HandS.Style
import KE.KRevSl
import PyProof.P3In
import PyProof.TupleOfStr
import PyProof.FactsAll.dict
import PyProof.EqKinds
import HandS.MapObj
import PyProof.Rows.ListStrD
import HandS.IsInst
import HandS.ForMost
import HandS.Wide
import HandS.More
import HandS.RaiseMore
import HandS.NoneIn
import PyProof.StrLawsRepr
import PySem.Challenge.RW_stepblocks_k22_interfaces_judged
set_option Elab.async false
set_option linter.all false
set_option maxRecDepth 100000
set_option maxHeartbeats 8000000
/-! OwnA: super().__init__ of plain classes; a class held by a local, made; a def held by a local, called with a star. -/
namespace Own
open PySem PySem.Spec PyProof.Rows L2 NdefX ClX StX

/-! ### a block at its own code -/
structure PSA (X : Cx) (b0 : List Stmt) (sts : List Stmt) (t : TS) : Prop where
  run : ∀ (pins : List (Addr × Obj)) (s : Shared) (σ : L2.St) (H : Hp) (D : Ends), Inv X pins σ H s → t D σ H → _root_.PySem.wpAt (model X.prog X.w) X.A (.func b0 X.env) (execs sts X.env) (SP X pins D) X.xe s
theorem psa_of {X : Cx} {b0 sts : List Stmt} {t : TS} (h : PSs X sts t) : PSA X b0 sts t := ⟨fun pins s σ H D I q => wpAt_of_wpAny (h.run pins s σ H D I q)⟩
theorem psa_cons {X : Cx} {b0 rest : List Stmt} {st : Stmt} {t u : TS} (h1 : PS X st t) (h2 : PSA X b0 rest u) : PSA X b0 (st :: rest) (tSeq t u) := by
  refine ⟨fun pins s σ H D I q => PySem.ks_wpAt_execs_cons (wpAt_of_wpAny (thn (h1.run pins s σ H { D with nx := u D } I q) fun f s' hs => ?_))⟩
  cases f with
  | next =>
    obtain ⟨σ', H', I', q'⟩ := hs
    exact h2.run pins s' σ' H' D I' q'
  | brk => exact hs
  | cont => exact hs
  | ret u => exact hs

/-! ### super().m(e, ..) as a statement -/
/-- what the text says: the def's first parameter is slot 0; D: the class whose body holds the def; f2: the next class's method -/
structure SupK (K : PySem.W.Frag) (prog : Program) (f cda cc D : Addr) (fd : FuncData) (sf : Str) : Prop where
  fn : ∃ oc od osl, K.lookup f = some ⟨oc, od, .func fd, osl⟩
  par : ∃ ar, (fd.params.posonlyargs ++ fd.params.args).head? = some ar ∧ ar.arg = sf
  code : ∃ ccl cdd vs ccs file tf, K.lookup cda = some ⟨ccl, cdd, .fields vs, ccs⟩ ∧ vs[2]? = some (.str file tf) ∧ ((prog.main.file : Str) == file) = true
  cell : ∃ cl cld csl, K.lookup cc = some ⟨cl, cld, .cell (some (.ref D)), csl⟩
  top : (prog.main.scope.names.lookup ("super" : Str)).isSome = false
  st : PySem.W.nsIn K PySem.cStatics "thirdparty.any" = some none
/-- of an instance's class C -/
structure SupC (K : PySem.W.Frag) (C D : Addr) (m : Str) (f2 : Addr) : Prop where
  sub : PySem.W.mroIn K C (.ref D) = some true
  at_ : PySem.W.ks_superIn K C D m = some (some (.ref f2))
  ty : PySem.W.typeIn K (.ref f2) = some (.type "function")
  dcl : ∃ cdD, PySem.W.clsIn K D = some cdD
  fi : PySem.W.fnIn K f2 = true
def tSuper (K : PySem.W.Frag) (D : Addr) (m : Str) (f2 : Addr) (sp : Sp) (E : XK) (t : TA) : TS := fun D' σ H => ∃ x C dx fs, σ[0]? = some (some (.ref x)) ∧ H x = some (.ins C dx fs) ∧ SupC K C D m f2 ∧
  t σ H fun vs H1 => sp (.ref x :: vs) H1 (fun _ H2 => D'.nx σ H2) E
theorem psa_super {X : Cx} {CX : CXT} {k : Nat} {b0 rest : List Stmt} {p0 p1 apos pos spos : Pos} {m self : Str} {e : Expr} {es : List Expr} {t : TA} {u : TS} {f cda cc D f2 : Addr} {fd : FuncData} {sp : Sp} {E : XK} {pl : Sem Bool}
    (SK : SupK X.K X.prog f cda cc D fd self) (hfu : X.env.func = some f) (hco : X.env.code = .ref cda) (hcl : X.env.cells.lookup ("__class__" : Str) = some cc)
    (hks : X.env.kindOf "super" = some .globalImplicit) (hkc : X.env.kindOf "__class__" = some .free) (hN : X.N[0]? = some self) (hka : X.env.kindOf self = some .local) (hms : X.mg "super" = none)
    (F : FnR X.prog X.w X.K X.mg X.base CX k f2 sp) (hr : Room k X.A) (hx : Passes CX X E) (ha : PA X (e :: es) t) (hu : PSA X b0 rest u)
    (hm1 : (m == ("__class__" : Str)) = false := by decide +kernel)
    (hi : interactive X.env = false := by rfl) (hsw : swapsWith (.Call (.Attribute (.Call (.Name "super" p0) [] [] p1) m apos) (e :: es) [] pos) none spos.line X.env = pure false := by rfl)
    (hst : starEach (e :: es) X.env = (false, eval e X.env) :: starEach es X.env := by rfl) (hpl : (backTo pos (starEach es X.env)).any (·.1) = false := by rfl)
    (ht : eval (.Call (.Attribute (.Call (.Name "super" p0) [] [] p1) m apos) (e :: es) [] pos) X.env = (do
      let ov ← attributeBase (.Call (.Name "super" p0) [] [] p1) m X.env (eval (.Call (.Name "super" p0) [] [] p1) X.env)
      standAt apos.atName
      let (f, first) ← holding [ov] (getMethod ov m pl)
      callWith pos f first (backTo pos (starEach (e :: es) X.env)) []) := by rfl) :
    PSA X b0 (.Expr (.Call (.Attribute (.Call (.Name "super" p0) [] [] p1) m apos) (e :: es) [] pos) spos :: rest) (tSeq (tSuper X.K D m f2 sp E t) u) := by
  refine ⟨fun pins s σ H Dn I q => ?_⟩
  obtain ⟨x, C, dx, fs, hσ, hH, SC, q⟩ := q
  have KX := I.kIn
  obtain ⟨oc, od, osl, hf⟩ := SK.fn
  obtain ⟨ar, har, hself⟩ := SK.par
  obtain ⟨ccl, cdd, vs, ccs, file, tf, hcode, hvs, hfile⟩ := SK.code
  obtain ⟨cl, cld, csl, hcell⟩ := SK.cell
  obtain ⟨cdD, hD⟩ := SC.dcl
  obtain ⟨oD, hD1, hD2⟩ : ∃ oD, s.heap.get? D = some oD ∧ oD.data = .cls cdD := by
    unfold PySem.W.clsIn at hD
    split at hD
    · rename_i c d cd' sl ho
      cases hD
      exact ⟨_, KX _ _ ho, rfl⟩
    · cases hD
  obtain ⟨mA, O, rr, _, _, _⟩ := ins_get I.hok hH
  obtain ⟨odx, J, _⟩ := O.look
  obtain ⟨ml, hn, hl⟩ := id I.loc
  have hself' : ml ar.arg = some (.ref x) := by
    obtain ⟨w', rw', lk⟩ := hl 0 self (.ref x) hN hσ (.inl hka)
    rcases lk with ⟨_, e1⟩ | ⟨e1, _⟩
    · rw [hself, e1]
      exact congrArg some rw'
    · rw [hka] at e1
      rcases e1 with z | z <;> cases z
  obtain ⟨mb, hb1, hb2⟩ := I.mod.blt
  refine PySem.ks_wpAt_execs_cons (PySem.ks_wpAt_Expr_any (Q := fun f s' => match f with | .next => _root_.PySem.wpAt (model X.prog X.w) X.A (.func b0 X.env) (execs rest X.env) (SP X pins Dn) X.xe s' | f => SP X pins Dn f s') ?_ hi hsw)
  refine PySem.ks_wpAt_MethodCall (pl := pl) ?_ ht
  have e0 : s = ⟨s.heap, s.gens, s.drawn, s.toks, s.os⟩ := rfl
  refine PySem.ks_wpAt_super_base hks hkc hm1 hfu (KX _ _ hf) rfl har hco (KX _ _ hcode) rfl hvs hfile SK.top ?_
  refine PySem.W.ks_loadName_global I.ok.kind hks (Calls.loadGlobal_builtin (by rw [I.ok.glob]; exact I.mod.glob.keeps I.bk) hms (by rw [I.ok.blt]; exact hb1.keeps I.bk) ((hb2 "super" (by decide)).trans (by decide +kernel : bootBuiltins "super" = some (.type "super"))) ⟨rfl, ?_⟩)
  refine wpAny_loadName_free I.ok.kind hkc hcl ⟨_, KX _ _ hcell, rfl⟩ ?_
  refine wpAny_loadName_local I.ok.kind (by rw [hself]; exact hka) hn hself' ?_
  rw [e0]
  refine PySem.ks_wpAny_isType_cls hD1 hD2 ⟨rfl, ?_⟩
  refine PySem.ks_wpAny_call_super hD1 hD2 J.at_ J.cls (fun c e => ?_) (PySem.W.looks_mroIn KX SC.sub) (fun h' e k => ?_)
  · have z := J.no
    unfold PySem.W.notCls at z
    rw [e] at z
    exact Bool.noConfusion z
  have I1 : Inv X ((s.heap.objs.size, PySem.W.ks_superObj D x C) :: pins) σ H { s with heap := h', toks := s.toks } := pin_new I k (Nat.le_refl _) e (fun v z => nomatch z)
  have KX1 := I1.kIn
  cases hc : PySem.W.clsIn X.K C with
  | none =>
    have z := SC.at_
    unfold PySem.W.ks_superIn at z
    rw [hc] at z
    cases z
  | some cd =>
    have hm := SC.at_
    unfold PySem.W.ks_superIn at hm
    rw [hc] at hm
    obtain ⟨of, hof, hofc⟩ : ∃ of, h'.get? f2 = some of ∧ of.cls = .type "function" := by
      have ht' : (X.K.lookup f2).map (·.cls) = some (.type "function") := SC.ty
      cases z : X.K.lookup f2 with
      | none => rw [z] at ht'; cases ht'
      | some of => rw [z] at ht'; exact ⟨of, KX1 _ _ z, Option.some.inj ht'⟩
    refine PySem.ks_wpAny_getMethod_super e (PySem.W.looks_opaque KX1 SK.st) (l₀ := cd.mro) ?_ rfl KX1 hm hof hofc (PySem.W.ks_ne KX J hc) hm1 ?_
    · exact fun A Q E s k q => wpAny_bind ((PySem.W.looks_clsIn KX1 hc) A _ E s k (wpAny_pure q))
    have I2 : Inv X ((h'.objs.size, PySem.W.methodObj (.ref f2) (.ref x)) :: (s.heap.objs.size, PySem.W.ks_superObj D x C) :: pins) σ H { s with heap := h'.push (PySem.W.methodObj (.ref f2) (.ref x)), toks := s.toks + 1 } :=
      pin_new (s := { s with heap := h', toks := s.toks }) I1 (fun _ _ z => Heap.get?_push_of_some _ z) (Nat.le_refl _) (Heap.get?_push_size h' rfl) (fun v z => nomatch z)
    have hq := pin_at I2
    have hL : h'.objs.size ≠ X.env.locals := (I2.pin (h'.objs.size, PySem.W.methodObj (.ref f2) (.ref x)) (List.mem_append_right _ List.mem_cons_self)).2.2.1
    have hb0 : X.base.get? h'.objs.size = none := base_none I1 (Nat.le_refl _)
    refine PySem.W.callWith_M (K := X.K) (h₀ := X.base) (first := []) I.ok.mod.kin (news_at hL hb0 hq) List.mem_cons_self SC.fi (thn (ha.run pos _ _ σ H _ I2 q) fun us s3 ⟨vs3, H2, I3, rv, q2⟩ => ⟨⟨pin_at I3, I3.kIn⟩, ?_⟩) hst hpl
    have z := wpAny_call (PySem.W.method_call (pin_at I3) (run_fnR (us := .ref x :: us) (vs := .ref x :: vs3) F hr hx I3 (.cons rfl rv) q2))
    refine thn z fun v4 s4 ⟨v5, H5, I5, _, q5⟩ => ?_
    exact hu.run pins s4 σ H5 Dn (unpin (unpin I5)) q5

/-! ### a def with the cell __class__, by its body -/
theorem fnr_super {CX : CXT} {P : Program} {w : World} {K : PySem.W.Frag} {mg : Str → Option Value} {base : Heap} {k : Nat} {f cc D : Addr} {F : NF} {N ps : List Str} {sp : Sp} {oc doc pm ct : Value} {od an : Option Addr} {osl : Array (Option Value)}
    (lk : K.lookup f = some ⟨oc, od, .func (PySem.W.fnX F.name F.qual F.params F.body F.scope F.cl .none .none doc pm an (.ref F.c) ct), osl⟩) (hcd : PySem.W.codeIn K (.ref F.c) F.qual = true) (hcl : F.cl = [(("__class__" : Str), cc)])
    (hcell : ∃ cl cld csl, K.lookup cc = some ⟨cl, cld, .cell (some (.ref D)), csl⟩) (S : NScope N ps ["__class__"] F.scope)
    (hb : ∀ (us : List Value), us.length = ps.length → bindArgs (PySem.W.fnX F.name F.qual F.params F.body F.scope F.cl .none .none doc pm an (.ref F.c) ct) ⟨us, []⟩ = pure (ps.zip us))
    (len : ∀ vs H Q E, sp vs H Q E → vs.length = ps.length)
    (hbody : ∀ (A : Around) (outer : List Env) (s : Shared) (H : Hp) (vs : List V) (Q : VK) (E : XK), Room k (A.deeper (envF F f s.heap.objs.size)) → sp vs H Q E →
      ∃ t, PSA (ncx CX P w K mg base N F f A outer s H E) F.body F.body t ∧ t { nx := fun _ H' => Q .non H', rt := Q } (startF N vs [some (.ref D)]) H) :
    FnR P w K mg base CX (k + 1) f sp := by
  intro A outer s H us vs Q E hr e0 r hsp
  have hl := len _ _ _ _ hsp
  have KB : K.In base := e0.mod.kin
  have KX : K.In s.heap := KB.keeps fun b o e => (e0.bs b o e).1
  have lim : s.heap.NoLimit := e0.mod.nolimit.keeps fun b o e => (e0.bs b o e).1
  obtain ⟨cl, cld, csl, hc⟩ := hcell
  have hcl1 : ∀ y c, F.cl.lookup y = some c → y = "__class__" ∧ c = cc := fun y c e => by
    rw [hcl] at e
    by_cases hy : y = ("__class__" : Str)
    · subst hy
      have e2 : some cc = some c := by
        rw [← e]
        simp [List.lookup]
      exact ⟨rfl, (Option.some.inj e2).symm⟩
    · have hb0 : (y == ("__class__" : Str)) = false := beq_eq_false_iff_ne.mpr hy
      rw [List.lookup_cons, hb0] at e
      cases e
  have C : CellsAt F.cl ["__class__"] [some (.ref D)] s.heap H := by
    refine ⟨rfl, fun y c e => ?_, fun x y c e1 e2 => ?_, fun i y e => ?_⟩
    · obtain ⟨_, rfl⟩ := hcl1 y c e
      exact ⟨(e0.bs _ _ (KB _ _ hc)).2, some (.ref D), ⟨_, KX _ _ hc, rfl⟩⟩
    · exact (hcl1 x c e1).1.trans (hcl1 y c e2).1.symm
    · cases i with
      | zero =>
        cases e
        refine ⟨cc, by rw [hcl]; simp [List.lookup], fun v e2 => ?_⟩
        cases e2
        exact ⟨.ref D, rfl, ⟨_, KX _ _ hc, rfl⟩⟩
      | succ i => cases e
  refine codeAny_call_function hr.depth (KX _ _ lk) rfl S.co S.gen rfl (PySem.W.codeRec_of KX hcd) ?_
  rw [hb us (by rw [← r.length]; exact hl)]
  refine wpAny_pure (wpAny_newFunctionEnv S.nocell (fun ⟨n, _⟩ hy => S.par n (List.of_mem_zip hy).1) (fun h₁ hns hsb => ⟨lim.fresh _ hsb, ?_⟩) S.kind)
  show codeAny _ _ (.func F.body (envF F f s.heap.objs.size)) _ _
  refine PySem.ks_codeAny_funcAt ?_
  have kp : ∀ b o, s.heap.get? b = some o → h₁.get? b = some o := fun b o e => hsb.extBut b o (Nat.ne_of_lt (Heap.lt_size e)) (Heap.get?_push_of_some _ e)
  obtain ⟨t, ht, hq⟩ := hbody A outer s H vs Q E (hr.deeper _) hsp
  have I : Inv (ncx CX P w K mg base N F f A outer s H E) [] (startF N vs [some (.ref D)]) H { s with heap := h₁, toks := s.toks + (ps.zip us).length } := inv_startN S hr.hd e0 hl r C hns kp
  refine PySem.ks_wpAt_mono (ht.run [] _ (startF N vs [some (.ref D)]) H _ I hq) (fun fl s' hs => ?_) fun e s' hs => hs
  have fin : ∀ {σ' : L2.St} {H' : Hp} {v : V} {u : Value}, Inv (ncx CX P w K mg base N F f A outer s H E) [] σ' H' s' → L2.RelV v u → Q v H' → CE outer P w H s Q u s' :=
    fun {σ' H' v u} J rv q => ⟨v, H', J.os, J.bare, J.base, J.hok, rv, q⟩
  cases fl with
  | ret u =>
    obtain ⟨v, σ', H', J, rv, q⟩ := hs
    exact fin J rv q
  | next =>
    obtain ⟨σ', H', J, q⟩ := hs
    exact fin (v := V.non) (u := Value.none) J rfl q
  | brk =>
    obtain ⟨_, _, _, q⟩ := hs
    exact False.elim q
  | cont =>
    obtain ⟨_, _, _, q⟩ := hs
    exact False.elim q

/-! ### ways joined behind a statement -/
def tJoin (t u : TS) : TS := fun D σ H => ∃ Mid : L2.St → Hp → Prop, t { D with nx := Mid } σ H ∧ ∀ σ' H', Mid σ' H' → u D σ' H'
theorem pss_join {X : Cx} {st : Stmt} {rest : List Stmt} {t u : TS} (h1 : PS X st t) (h2 : PSs X rest u) : PSs X (st :: rest) (tJoin t u) := by
  refine ⟨fun pins s σ H D I h => ?_⟩
  obtain ⟨Mid, q1, q2⟩ := h
  refine wpAny_execs_cons (thn (h1.run pins s σ H _ I q1) fun f s' hs => ?_)
  cases f with
  | next =>
    obtain ⟨σ', H', I', m⟩ := hs
    exact h2.run pins s' σ' H' D I' (q2 σ' H' m)
  | brk => exact hs
  | cont => exact hs
  | ret u => exact hs

/-! ### x(e, ..), x a local that holds the class at C -/
section
variable {X : Cx} {CX : CXT} {k i : Nat} {f C : Addr} {sp : Sp} {E : XK} {x : Str} {e : Expr} {es : List Expr} {te : TE} {t : TA} {p pos sp_ : Pos}
def tMakeL (i : Nat) (C : Addr) (sp : Sp) (E : XK) (t : TA) : TE := fun σ H Q => σ[i]? = some (some (.ref C)) ∧ tMakeR C sp E t σ H Q
theorem pe_makeL (M : Mk X.K C f) (F : FnR X.prog X.w X.K X.mg X.base CX k f sp) (hr : Room (k + 1) X.A) (hN : X.N[i]? = some x) (hv : Vis X.env.scope x) (hx : Passes CX X E) (ha : PA X (e :: es) t)
    (hdb : (x == ("__debug__" : Str)) = false := by decide) (hcd : (x == ("__classdict__" : Str)) = false := by decide)
    (he : starEach (e :: es) X.env = (false, eval e X.env) :: starEach es X.env := by rfl) (hpl : (backTo pos (starEach es X.env)).any (·.1) = false := by rfl) : PE X (.Call (.Name x p) (e :: es) [] pos) (tMakeL i C sp E t) := by
  refine ⟨fun pins s σ H Q I h => ?_⟩
  obtain ⟨hs, h⟩ := h
  refine wpAny_Call_Name_kw (thn ((pe_var (pos := p) hN hv hdb hcd).run pins s σ H (fun v H1 => v = .ref C ∧ H1 = H) I ⟨.ref C, hs, rfl, rfl⟩) fun u s1 ⟨v, H1, I1, r1, q1⟩ => ?_)
  obtain ⟨rfl, rfl⟩ := q1
  cases r1
  refine PySem.W.callWith_K (h₀ := X.base) I.ok.mod.kin M.kp (thn (ha.run pos pins s1 σ _ _ I1 h) fun us s2 ⟨vs, H2, I2, r, q⟩ => ⟨I2.kIn, ?_⟩) he hpl
  exact run_makeR M F hr hx I2 r q
/-- x(*y), x a local that holds one of several defs -/
def tCallLS (X : Cx) (CX : CXT) (k i : Nat) (E : XK) (te : TE) : TE := fun σ H Q => ∃ f sp, σ[i]? = some (some (.ref f)) ∧ FnR X.prog X.w X.K X.mg X.base CX k f sp ∧ PySem.W.keepIn X.K (.ref f) = true ∧
  te σ H fun y H1 => ∃ a xs, y = V.ref a ∧ (SqT X.K H1 a xs ∨ SqL X.K H1 a xs) ∧ sp xs H1 Q E
theorem pe_callLS (hr : Room k X.A) (hN : X.N[i]? = some x) (hv : Vis X.env.scope x) (hx : Passes CX X E) (he : PE X e te) (hdb : (x == ("__debug__" : Str)) = false := by decide) (hcd : (x == ("__classdict__" : Str)) = false := by decide)
    (hst : starEach [.Starred e sp_] X.env = [(true, eval e X.env)] := by rfl) : PE X (.Call (.Name x p) [.Starred e sp_] [] pos) (tCallLS X CX k i E te) := by
  refine ⟨fun pins s σ H Q I h => ?_⟩
  obtain ⟨f, sp, hs, F, hk, h⟩ := h
  refine wpAny_Call_Name_kw (thn ((pe_var (pos := p) hN hv hdb hcd).run pins s σ H (fun v H1 => v = .ref f ∧ H1 = H) I ⟨.ref f, hs, rfl, rfl⟩) fun u s1 ⟨v, H1, I1, r1, q1⟩ => ?_)
  obtain ⟨rfl, rfl⟩ := q1
  cases r1
  refine PySem.W.callWith_S (h₀ := X.base) I.ok.mod.kin hk (thn (he.run pins s1 σ _ _ I1 h) fun v s2 ⟨y, H2, I2, ry, a, xs, ey, hxs, q⟩ => ?_) hst
  subst ey
  obtain rfl : v = Value.ref a := ry
  exact star_any I2 hxs fun us s3 I3 rv => ⟨I3.kIn, wpAny_call (run_fnR F hr hx I3 rv q)⟩
end
end Own
/-! OwnB: defs that ask that no repr runs around them; repr of data; str of an own instance. -/
namespace Own
open PySem PySem.Spec PyProof.Rows L2
/-! ### repr of data: where no repr runs around -/
theorem call_reprD {X : Cx} (hg : X.A.guards = some []) (hu : X.A.units + 64 < cLine) : CallR X (.builtin "repr") (fun xs H Q => ∃ (a : Addr) (d : PyData), xs = [.ref a] ∧ Dp X.K H (.ref a) d ∧ d.showable = true ∧ d.hasDict = false ∧ d.depth ≤ 60 ∧ d.shown.length ≤ sizeLine ∧ Q (.str d.shown) H) := by
  intro pins s σ H xs us Q I r h
  obtain ⟨a, d, rfl, hd, hs, hn, h60, hz, q⟩ := h
  obtain ⟨u, rfl, ru⟩ := vals1 r
  have hu' : u = .ref a := ru
  subst hu'
  obtain ⟨as, rd⟩ := Dp.reads I d _ _ hd rfl
  exact repr_of_reads' rd hs (PyData.noDict_hsm hn) hg (by omega) (fun _ _ e => e) (fun h' u tk hk => ⟨.str d.shown, H, I.kept hk, ⟨u, rfl⟩, q⟩) hz
/-! ### str(o) by the class's own __str__ -/
theorem call_strO {X : Cx} {C f : Addr} {k : Nat} {sp : Sp} (F : FnR X.prog X.w X.K X.mg X.base CX0 k f sp) (hr : Room (k + 2) X.A) (hs : PySem.W.findIn X.K (.ref C) "__str__" = some (some (.ref f))) (hf : PySem.W.isFn X.K (.ref f) = true) :
    CallR X (.type "str") (fun xs H Q => ∃ (x dx : Addr) (fs : List (Str × V)), xs = [.ref x] ∧ H x = some (.ins C dx fs) ∧ sp [.ref x] H (fun v H' => ∃ y, v = .str y ∧ Q v H') E0) := by
  intro pins s σ H xs us Q I r h
  obtain ⟨x, dx, fs, rfl, hx, q⟩ := h
  obtain ⟨u, rfl, ru⟩ := vals1 r
  have hu' : u = .ref x := ru
  subst hu'
  obtain ⟨mA, O, _⟩ := ins_get I.hok hx
  obtain ⟨od, J, _⟩ := O.look
  refine PySem.W.kso_call (hr.in1.in1.units0) I.kIn J hs hf (wpAny_call (codeAny_mono (F X.A.in1.in1 X.stack s H [.ref x] [.ref x] _ E0 hr.in1.in1 I.env0.in1.in1 (.cons rfl .nil) q) fun r s' hq => ?_))
  cases r with
  | error e => exact False.elim hq
  | ok fl =>
    cases fl with
    | ret u =>
      obtain ⟨v, H', I', rv, ⟨y, rfl, q'⟩⟩ := I.after hq
      obtain ⟨t, rfl⟩ := rv
      exact ⟨.str y, H', I', ⟨t, rfl⟩, q'⟩
    | next => exact False.elim hq
    | brk => exact False.elim hq
    | cont => exact False.elim hq
/-! ### a def that is called where no repr runs -/
structure FnG (P : Program) (w : World) (K : PySem.W.Frag) (mg : Str → Option Value) (base : Heap) (CX : CXT) (k : Nat) (f : Addr) (fd : FuncData) (ps : List Str) (sp : Sp) : Prop where
  len : ∀ vs H Q E, sp vs H Q E → vs.length = ps.length
  run : ∀ (A : Around) (outer : List Env) (s : Shared) (H : Hp) (args : Args) (us : List Value) (vs : List V) (Q : VK) (E : XK), A.guards = some [] → Room k A → Env0 P w K mg base A outer s H → BindsTo s fd args (ps.zip us) → Vals vs us → sp vs H Q E →
    codeAny (model P w) A (.call (.ref f) args) (CR CX outer P w H s Q E) s
theorem fng_of {CX : CXT} {P : Program} {w : World} {K : PySem.W.Frag} {mg : Str → Option Value} {base : Heap} {k : Nat} {f : Addr} {name qual : Str} {params : Arguments} {body : List Stmt} {scope : Scope} {dV kV doc pm cdv ct oc : Value} {an od : Option Addr}
    {osl : Array (Option Value)} {N ps : List Str} {sp : Sp} (lk : K.lookup f = some ⟨oc, od, .func (PySem.W.fnOf name qual params body scope dV kV doc pm an cdv ct), osl⟩) (hcd : PySem.W.codeIn K cdv qual = true) (S : FnScope N ps scope)
    (len : ∀ vs H Q E, sp vs H Q E → vs.length = ps.length)
    (hbody : ∀ (A : Around) (outer : List Env) (s : Shared) (H : Hp) (vs : List V) (Q : VK) (E : XK), (A.deeper (envOfC qual scope s.heap.objs.size f cdv)).guards = some [] → Room k (A.deeper (envOfC qual scope s.heap.objs.size f cdv)) → sp vs H Q E →
      ∃ t, PSs (cxOf CX P w K mg base N qual scope f cdv A outer s H E) body t ∧ t { nx := fun _ H' => Q .non H', rt := Q } (start N vs) H) :
    FnG P w K mg base CX (k + 1) f (PySem.W.fnOf name qual params body scope dV kV doc pm an cdv ct) ps sp := by
  refine ⟨len, fun A outer s H args us vs Q E hg hr e0 hb r hsp => ?_⟩
  have hl := len _ _ _ _ hsp
  have KX : K.In s.heap := e0.mod.kin.keeps fun b o e => (e0.bs b o e).1
  have lim : s.heap.NoLimit := e0.mod.nolimit.keeps fun b o e => (e0.bs b o e).1
  have hkind : ∀ y ∈ ps.zip us, scope.names.lookup y.1 = some .local ∨ (scope.names.lookup y.1 = some .cell ∧ ((cellsFrom (s.heap.objs.size + 1) scope.names []).lookup y.1).isSome = true) := fun ⟨n, v⟩ hy => by
    rcases S.par n (List.of_mem_zip hy).1 with q | q
    · exact .inl q
    · exact .inr ⟨q, PySem.W.cellsFrom_some _ _ _ (.inl q)⟩
  refine codeAny_call_function hr.depth (KX _ _ lk) rfl S.co S.gen rfl (PySem.W.codeRec_of KX hcd) (hb _ _ _ _ ?_)
  refine wpAny_newFunctionEnv_cells S.kind hkind fun env he s1 x => ?_
  subst he
  refine ⟨lim.keeps x.toInCall.keep, codeAny_func ?_⟩
  obtain ⟨t, ht, hq⟩ := hbody A outer s H vs Q E hg (hr.deeper _) hsp
  have I : Inv (cxOf CX P w K mg base N qual scope f cdv A outer s H E) [] (start N vs) H s1 := inv_start S hr.hd e0 hl r x
  refine wpAny_mono (ht.run [] s1 (start N vs) H _ I hq) (fun fl s' hs => ?_) fun e s' hs => hs
  have fin : ∀ {σ' : L2.St} {H' : Hp} {v : V} {u : Value}, Inv (cxOf CX P w K mg base N qual scope f cdv A outer s H E) [] σ' H' s' → RelV v u → Q v H' → CE outer P w H s Q u s' :=
    fun {σ' H' v u} J rv q => ⟨v, H', J.os, J.bare, J.base, J.hok, rv, q⟩
  cases fl with
  | ret u =>
    obtain ⟨v, σ', H', J, rv, q⟩ := hs
    exact fin J rv q
  | next =>
    obtain ⟨σ', H', J, q⟩ := hs
    exact fin (v := V.non) (u := Value.none) J rfl q
  | brk =>
    obtain ⟨_, _, _, q⟩ := hs
    exact False.elim q
  | cont =>
    obtain ⟨_, _, _, q⟩ := hs
    exact False.elim q
theorem fun_okG {P : Program} {w : World} {K : PySem.W.Frag} {mg : Str → Option Value} {base : Heap} {x qual : Str} {st : Stmt} {f : Addr} {fd : FuncData} {N ps : List Str} {k : Nat} {sp : Sp} (F : Fun K x qual st f fd) (S : FnScope N ps (defScope st)) (len : ∀ vs H Q E, sp vs H Q E → vs.length = ps.length)
    (hbody : ∀ (cdv : Value) (A : Around) (outer : List Env) (s : Shared) (H : Hp) (vs : List V) (Q : VK) (E : XK), (A.deeper (envOfC qual (defScope st) s.heap.objs.size f cdv)).guards = some [] → Room k (A.deeper (envOfC qual (defScope st) s.heap.objs.size f cdv)) → sp vs H Q E →
      ∃ t, PSs (cxOf CX0 P w K mg base N qual (defScope st) f cdv A outer s H E).nox (defBody st) t ∧ t { nx := fun _ H' => Q .non H', rt := Q } (start N vs) H) : FnG P w K mg base CX0 (k + 1) f fd ps sp := by
  obtain ⟨oc, od, kV, doc, pm, an, cdv, ct, osl, rfl, lk, hcd⟩ := F.ex
  refine fng_of lk hcd S len fun A outer s H vs Q E hg hr hsp => ?_
  obtain ⟨t, h, q⟩ := hbody cdv A outer s H vs Q E hg hr hsp
  exact ⟨t, h.nox, q⟩
/-! ### the law's end for such a def -/
theorem law_callG {P : Program} {w : World} {K : PySem.W.Frag} {mg mb : Str → Option Value} {CX : CXT} {k : Nat} {fa a : Addr} {fd : FuncData} {x : Str} {sp : Sp} {s₁ : Shared} {vs : List Value} {ns : List Int}
    (KX : K.In s₁.heap) (hns : s₁.heap.Ns mainGlobals mg) (hb : s₁.heap.Ns builtinsNs mb) (hbb : ∀ x : Str, x ≠ "__name__" → mb x = bootBuiltins x) (hlim : s₁.heap.NoLimit) (hg : s₁.gens = #[])
    (ha : s₁.heap.get? a = some { cls := .type "list", data := .seq vs.toArray }) (hi : IntsAre vs ns) (hl : ns.length ≤ sizeLine) (hr : Room k callerA)
    (F : ∀ base : Heap, K.In base → base.Ns mainGlobals mg → FnG P w K mg base CX k fa fd [x] sp) (hbind : ∀ (s : Shared) (u : Value), BindsTo s fd ⟨[u], []⟩ [(x, u)])
    (hsp : ∀ H : Hp, Only H → SqL K H a (ns.map V.int) → sp [.ref a] H (fun v _ => v = .bl true) fun _ _ _ => False)
    (hCX : ∀ H e s', CX [] H s₁ (fun _ _ _ => False) e s' → False) :
    codeAny (model P w) callerA (.call (.ref fa) ⟨[.ref a], []⟩) (fun r s' => r = .ok (.ret (.bool true)) ∧ OldK s₁.heap s'.heap ∧ s'.os = s₁.os ∧ AllBare s'.gens) s₁ := by
  have rv := vals_ints hi
  have lenV := hi.length
  have core : ∀ H : Hp, Only H → SqL K H a (ns.map V.int) → HOk P w H s₁.heap → (∀ b, H b ≠ none → b = a) → (H a ≠ none → K.lookup a = none) →
      codeAny (model P w) callerA (.call (.ref fa) ⟨[.ref a], []⟩) (fun r s' => r = .ok (.ret (.bool true)) ∧ OldK s₁.heap s'.heap ∧ s'.os = s₁.os ∧ AllBare s'.gens) s₁ := by
    intro H hO hS hok hA hK
    have base_of : ∀ {b : Addr} {o : Obj}, s₁.heap.get? b = some o → H b = none → (hidT s₁.heap H).get? b = some o := fun e n => hidT_get e n
    have noA : ∀ {b : Addr} {o : Obj} {es : Array DictEntry} {ep : Nat}, s₁.heap.get? b = some o → o.data = .dict es ep → H b = none := fun {b o es ep} e d => by
      cases q : H b with
      | none => rfl
      | some u =>
        have e' : b = a := hA b (by rw [q]; simp)
        subst e'
        rw [ha] at e; cases e
        have d' : Data.seq vs.toArray _ = Data.dict es ep := d
        cases d'
    have nsK : ∀ {b : Addr} {m : Str → Option Value}, s₁.heap.Ns b m → (hidT s₁.heap H).Ns b m := fun {b m} ⟨o, es, ep, e, d, r⟩ => ⟨o, es, ep, base_of e (noA e d), d, r⟩
    have hKb : K.In (hidT s₁.heap H) := fun b o e => base_of (KX b o e) (by
      cases q : H b with
      | none => rfl
      | some u =>
        have e' : b = a := hA b (by rw [q]; simp)
        subst e'
        rw [hK (by rw [q]; simp)] at e; cases e)
    have hM : Mod K mg (hidT s₁.heap H) := ⟨hKb, nsK hns, ⟨mb, nsK hb, hbb⟩, let ⟨mc, h1, h2⟩ := hlim; ⟨mc, nsK h1, h2⟩⟩
    have e0 : Env0 P w K mg (hidT s₁.heap H) callerA [] s₁ H := ⟨rfl, hM, fun b o e => of_hidT e, Nat.le_of_eq (hidT_size _ _), trivial, fun b hb => absurd (show b ∈ ([] : List Addr) from hb) (by simp), hok, .of_eq hg⟩
    refine codeAny_mono ((F _ hKb (nsK hns)).run callerA [] s₁ H ⟨[.ref a], []⟩ [.ref a] [.ref a] _ _ rfl hr e0 (hbind s₁ (.ref a)) (.cons rfl .nil) (hsp H hO hS)) fun r s' h => ?_
    cases r with
    | error e => exact (hCX H e s' h).elim
    | ok fl =>
      cases fl with
      | next => exact False.elim h
      | brk => exact False.elim h
      | cont => exact False.elim h
      | ret u =>
        obtain ⟨v, H', os, bare, un, hok', r', q⟩ := h
        have q' : v = .bl true := q
        subst q'
        obtain rfl : u = Value.bool true := r'
        refine ⟨rfl, OldK.of_keep fun b o e => ?_, os, bare⟩
        cases q : H b with
        | none => exact un.keep b o e q (by intro z; exact absurd (show b ∈ ([] : List Addr) from z) (by simp)) (by simp)
        | some u =>
          rcases hO b with z | ⟨ob, xs, z⟩
          · rw [q] at z; cases z
          · have z2 := un.frzs b ob _ z
            obtain ⟨e1, _⟩ := hok b _ z
            obtain ⟨e2, _⟩ := hok' b _ z2
            rw [e] at e1; cases e1
            exact e2
  cases hk : K.lookup a with
  | some o =>
    have e := KX a o hk
    rw [ha] at e
    cases e
    refine core (fun _ => none) (fun _ => .inl rfl) (.inr ⟨_, vs.toArray, _, hk, rfl, rfl, rfl, by rw [List.size_toArray, lenV]; exact hl, by simpa using rv⟩) (fun b u z => by have z' : (none : Option HO) = some u := z; cases z') (fun b z => absurd rfl z) fun z => absurd rfl z
  | none =>
    refine core (fun b => if b = a then some (.frz { cls := .type "list", data := .seq vs.toArray } (.lst (ns.map V.int))) else none) (fun b => ?_) (.inl (.inr ⟨{ cls := .type "list", data := .seq vs.toArray }, if_pos rfl⟩)) (fun b u z => ?_) (fun b z => ?_) fun _ => hk
    · by_cases hb : b = a
      · exact .inr ⟨_, _, if_pos hb⟩
      · exact .inl (if_neg hb)
    · by_cases hb : b = a
      · have z' := (if_pos hb).symm.trans z
        cases z'
        subst hb
        exact ⟨ha, by rw [List.length_map]; exact hl, vs, _, rv, ha⟩
      · have z' := (if_neg hb).symm.trans z
        cases z'
    · by_cases hb : b = a
      · exact hb
      · exact absurd (if_neg hb) z
theorem walk_ofG {l : PySem.W.OpenLaw} {n k : Nat} {q : Program} {loose : List Str} {XP : (Str → Option Value) → Heap → Prop} {YP : World → Heap → Prop} {d : DefRec} {K : Params → PySem.W.Frag} {sp : World → Sp} {x : Str}
    (hn : l.most = some n) (hn2 : n ≤ sizeLine) (hdf : d.params.defaults = []) (hr : Room k callerA)
    (hY : ∀ (w : World) (h : Heap), YP w h → (K w.params).In h)
    (F : ∀ (w : World) (mg : Str → Option Value) (fa : Addr) (h : Heap), (K w.params).In h → h.Ns mainGlobals mg → mg d.name = some (.ref fa) →
      ∃ fd : FuncData, (∀ (s : Shared) (u : Value), BindsTo s fd ⟨[u], []⟩ [(x, u)]) ∧
        ∀ base : Heap, (K w.params).In base → base.Ns mainGlobals mg → FnG l.prog w (K w.params) mg base CX0 k fa fd [x] (sp w))
    (hsp : ∀ (w : World) (H : Hp) (a : Addr) (ns : List Int), ns.length ≤ n → Only H → SqL (K w.params) H a (ns.map V.int) → sp w [.ref a] H (fun v _ => v = .bl true) fun _ _ _ => False) :
    PySem.W.WalkO q loose XP YP l.row.toRowW d [] (fun f vs => PySem.call f vs) := by
  refine Att.attach_call hn hdf fun w s₀ s₁ mg mb fa o pm cd doc a vs ns G Y ho hd hcd hmg hobj hints hlen hg => ?_
  have KX := hY w _ Y
  obtain ⟨fd, hb, hF⟩ := F w mg fa _ KX G.T.g hmg
  exact law_callG KX G.T.g G.T.b G.T.builtins G.T.nolimit hg hobj hints (Nat.le_trans hlen hn2) hr hF hb (fun H hO hS => hsp w H a ns hlen hO hS) fun H e s' z => z
/-! ### a written dict has no other key -/
theorem miss_of {K : PySem.W.Frag} {d : Addr} {es : Array DictEntry} {n : Nat} (l : K.lookup d = some ⟨.type "dict", none, .dict es n, #[]⟩) {ks : List Str} (hk : ∀ e ∈ es.toList, ∃ x t, e.key = .str x t ∧ x ∈ ks) {z : Str} (hz : ¬ z ∈ ks) : PySem.W.nsIn K d z = some none := by
  unfold PySem.W.nsIn
  rw [l]
  dsimp only
  have h1 : es.toList.find? (·.key.isStr z) = none := by
    rw [List.find?_eq_none]
    intro e he
    obtain ⟨x, t, e1, e2⟩ := hk e he
    rw [e1, PySem.W.isStr_of]
    intro q
    obtain ⟨t', e3⟩ := Value.isStrOf_shape q
    cases e3
    exact hz e2
  have h2 : es.toList.any (·.refKey) = false := by
    rw [List.any_eq_false]
    intro e he
    obtain ⟨x, t, e1, e2⟩ := hk e he
    simp [DictEntry.refKey, e1]
  rw [h1, h2]
  rfl
end Own
/-! OwnC: a caught exception that is kept behind its except suite. -/
namespace Own
open PySem PySem.Spec PyProof.Rows L2
/-- a caught exception of the class cls, its dict at d, kept at a -/
def XO (cls : Value) (d : Option Addr) (a : Addr) : HO := .ext fun h => ∃ (oe : Obj) (vs : Array Value), h.get? a = some oe ∧ Zc cls d oe ∧ oe.data = .fields vs
theorem xo_ok {P : Program} {w : World} {H : Hp} {h : Heap} {a : Addr} {cls : Value} {d : Option Addr} {oe : Obj} {vs : Array Value} (e : h.get? a = some oe) (z : Zc cls d oe) (q : oe.data = .fields vs) : ObjOk P w H h a (XO cls d a) :=
  ⟨⟨oe, vs, e, z, q⟩, ⟨oe, e⟩, fun _ _ ⟨o, v, q, r⟩ k => ⟨o, v, k o q, r⟩⟩
theorem xo_at {P : Program} {w : World} {H : Hp} {h : Heap} {a : Addr} {cls : Value} {d : Option Addr} (x : HOk P w H h) (e : H a = some (XO cls d a)) : ∃ (oe : Obj) (vs : Array Value), h.get? a = some oe ∧ Zc cls d oe ∧ oe.data = .fields vs := by
  have z : ObjOk P w H h a (.ext fun h => ∃ (oe : Obj) (vs : Array Value), h.get? a = some oe ∧ Zc cls d oe ∧ oe.data = .fields vs) := x a _ e
  exact z.1
section
variable {X : Cx} {pins : List (Addr × Obj)} {σ : L2.St} {H : Hp} {s : Shared}
/-- an object of the heap that was not there at the entry and is not tracked yet is tracked now -/
theorem keepX (I : Inv X pins σ H s) {a : Addr} {oe : Obj} {vs : Array Value} {cls : Value} {d : Option Addr} (n0 : X.s_0.heap.get? a = none) (he : s.heap.get? a = some oe) (hz : Zc cls d oe) (hd : oe.data = .fields vs) (na : H a = none) (nL : a ≠ X.env.locals)
    (np : ∀ p ∈ X.pn ++ pins, p.1 ≠ a) : Inv X pins σ (upd H a (XO cls d a)) s := by
  refine ⟨I.ok, I.os, I.bare, ⟨I.base.keep, I.base.slot, fun b o e n hx => ?_, I.base.there, fun b xs e => ?_, fun b o u e => ?_, fun b ps e => ?_⟩, I.loc, I.cell, ?_, fun x c e => ?_, fun p hp => ?_, I.hok.laidN (fun _ _ z => z) na (xo_ok he hz hd), I.len⟩
  · have hb : b ≠ a := fun z => by rw [z, n0] at e; cases e
    rw [upd_ne hb]
    exact I.base.free b o e n hx
  · have z := I.base.tups b xs e
    rw [upd_ne (ne_of_none z na)]
    exact z
  · have z := I.base.frzs b o u e
    rw [upd_ne (ne_of_none z na)]
    exact z
  · obtain ⟨m, z⟩ := I.base.tbls b ps e
    exact ⟨m, by rw [upd_ne (ne_of_none z na)]; exact z⟩
  · rw [upd_ne nL.symm]
    exact I.free
  · obtain ⟨v, o, ho, hv⟩ := I.cell x c e
    have hc : c ≠ a := fun z => by
      rw [z, he] at ho
      cases ho
      rw [hd] at hv
      cases hv
    rw [upd_ne hc]
    exact I.freeC x c e
  · obtain ⟨e, n, ne, nf, q⟩ := I.pin p hp
    exact ⟨e, by rw [upd_ne (np p hp)]; exact n, ne, nf, q⟩
end
end Own
namespace Own
open PySem PySem.Spec PySem.Calls PyProof.Rows PySem.W
/-- an attribute that is asked for (getAttr?) of an exception of an own class and comes from a descriptor of the class: the descriptor's call decides -/
theorem exc_ask {prog : Program} {w : World} {A : Around} {E : Value → Shared → Prop} {s : Shared} {K : Frag} {x D : Addr} {ox : Obj} {od : Option Obj} {name : Str} {g u : Value} {Q : Option Value → Shared → Prop} (C : L2.ExcC K D)
    (hf : findObj K D od name = some (.bind g u)) (X : K.In s.heap) (I : InstAt s.heap x ox D od)
    (call_ : ∀ (B : Around) (E' : Value → Shared → Prop) (Q' : Value → Shared → Prop), (∀ v, v = Value.ref D → Q' v { s with toks := s.toks + 1 }) → wpAny (model prog w) B (call g [u, .ref x, .ref D]) Q' E' { s with toks := s.toks + 1 })
    (h : Q (some (.ref D)) { s with toks := s.toks + 1 }) : wpAny (model prog w) A (getAttr? (.ref x) name) Q E s := by
  have nob : (Value.builtin "BaseException.__getattribute__" == Value.builtin "object.__getattribute__") = false := by decide +kernel
  obtain ⟨hp, gs, d, t, os⟩ := s
  have cls := I.type (M := model prog w)
  have below : Looks (model prog w) hp (isInstance (.ref x) (.type "BaseException")) true := cls.andThen (looks_subIn X C.hs)
  unfold getAttr? getAttrBy? getAttrBy
  refine wpAny_bind (wpAny_mkText (wpAny_bind (wpAny_attempt (wpAny_holding (wpAny_bind (cls.at (wpAny_bind ((looks_findIn (M := model prog w) X C.hg).at ?_))))))))
  dsimp only
  rw [nob, Bool.and_false, if_neg Bool.false_ne_true]
  unfold getAttrByItsOwn hookBefore
  refine wpAny_bind ?_
  rw [if_pos (show onTheHeap (Value.ref D) = true from rfl)]
  refine (looks_findIn (M := model prog w) X C.hk).at (wpAny_bind (wpAny_attempt (wpAny_holding ?_)))
  unfold callGetattribute
  rw [Bool.false_and, if_neg Bool.false_ne_true]
  unfold boundAndCalled
  rw [PySem.F.excAttr_ValueError.ga.bind (.ref x)]
  refine wpAny_bind (wpAny_pure (wpAny_call (codeAny_call_builtin PySem.F.excAttr_ValueError.ga.plain PySem.F.entry_bexc_ga ?_)))
  refine @check_slot (model prog w) _ _ ⟨hp, gs, d, t + 1, os⟩ "BaseException.__getattribute__" "BaseException" "__getattribute__" (.ref x) [.str name t] [] _ (by decide +kernel) (by decide +kernel) below (PySem.F.args_bexc_ga (.ref x) (.str name t)) ?_
  unfold Builtin.«object.__getattribute__»
  refine wpAny_bind (wpAny_of_eq (a := ((Value.ref x : Value), [Value.str name t])) (by first | rfl | (simp only [slotArgs]; rfl)) ?_)
  refine wpAny_bind (wpAny_pure (wpAny_bind (cls.at (wpAny_bind ((looks_find (M := model prog w) X I hf).at (wpAny_bind (wpAny_holding (call_ _ _ _ fun v hv => ?_))))))))
  subst hv
  refine wpAny_pure ?_
  show wpAny _ _ (handedOut (.ref D)) _ _ _
  rw [handedOut_of (v := .ref D) rfl]
  first
    | exact wpAny_pure (wpAny_pure h)
    | exact wpAny_pure h
    | exact wpAny_pure (wpAny_bind (wpAny_pure (wpAny_pure h)))
theorem kitx_excD {K : Frag} {x D : Addr} {ox : Obj} {od : Obj} (C : L2.ExcC K D) : KitX K (.ref x) (.ref D) (fun h => InstAt h x ox D (some od)) := by
  have Z := handS_kitx_exc (x := x) (ox := ox) C.hg C.hk C.hs C.hd C.ha C.hn C.ht C.hm
  refine ⟨fun _ _ _ I => I.type, fun _ _ X I => ?_, fun h tp dd its n sl X htp => Z.ne h tp dd its n sl X htp, fun X I k => exc_ask C (findObj_data ?_ C.ha C.hn C.ht) X I (fun B E' Q' hq => wpAny_call (class_get X I C.hm (hq _ rfl))) k⟩
  · obtain ⟨cdD, hcD, _⟩ := any_some C.hd
    unfold clsIn at hcD
    split at hcD
    · rename_i c' d' cd' sl' ho
      intro A' Q' E' s' k q
      unfold isType loadHead
      exact wpAny_bind (wpAny_loadPart (k _ _ (X _ _ ho)) (wpAny_pure q))
    · cases hcD
  · obtain ⟨cd, hc, _⟩ := any_some C.hd
    rw [hc]
    rfl
end Own
namespace Own
open PySem PySem.Spec PyProof.Rows L2
/-- isinstance(x, c), x a kept exception with a dict -/
def rIsX (K : PySem.W.Frag) : List V → Hp → VK → Prop := fun xs H Q => ∃ (a D dd : Addr) (fs : List (Str × V)) (c : V) (cv : Value) (b : Bool), xs = [.ref a, c] ∧ H a = some (XO (.ref D) (some dd) a) ∧ H dd = some (.xd fs) ∧ ExcC K D ∧ (∀ u, RelV c u → u = cv) ∧ PySem.W.kitOne K (.ref D) cv = some b ∧ Q (.bl b) H
theorem xo_inst {X : Cx} {pins : List (Addr × Obj)} {σ : L2.St} {H : Hp} {s : Shared} {a D dd : Addr} {fs : List (Str × V)} (I : Inv X pins σ H s) (ha : H a = some (XO (.ref D) (some dd) a)) (hd : H dd = some (.xd fs)) :
    ∃ (oe od : Obj), PySem.W.InstAt s.heap a oe D (some od) ∧ ∃ mA : Str → Option Value, (∀ f, PySem.W.lookIn f od = some (mA f)) ∧ ∀ f, RelO (fs.lookup f) (mA f) := by
  obtain ⟨oe, vs, he, hz, hv⟩ := xo_at I.hok ha
  have hx : ObjOk X.prog X.w H s.heap dd (.xd fs) := I.hok dd _ hd
  obtain ⟨mA, hns, hr⟩ := hx
  obtain ⟨od, ho, hl⟩ := lookIn_ns hns
  exact ⟨oe, od, ⟨he, hz.1, by unfold PySem.W.notCls; rw [hv] <;> rfl, by rw [hz.2]; exact ho⟩, mA, hl, hr⟩
theorem call_isX {X : Cx} : CallR X (.builtin "isinstance") (rIsX X.K) := by
  intro pins s σ H xs us Q I r h
  obtain ⟨a, D, dd, fs, c, cv, b, rfl, ha, hd, C, hcv, e, q⟩ := h
  obtain ⟨u1, u2, rfl, r1, r2⟩ := vals2 r
  obtain rfl : u1 = Value.ref a := r1
  obtain rfl := hcv _ r2
  obtain ⟨oe, od, J, _⟩ := xo_inst I ha hd
  exact PySem.W.kia_one (kitx_excD C) I.kIn J e (fun z => nomatch z) fun tk => ⟨.bl b, H, I.kept (t' := tk) fun _ _ z => z, rfl, q⟩
/-- x.f, x a kept exception -/
def tXk (K : PySem.W.Frag) (f : Str) (te : TE) : TE := fun σ H Q => te σ H fun x H1 => ∃ (a D dd : Addr) (fs : List (Str × V)) (v : V), x = .ref a ∧ H1 a = some (XO (.ref D) (some dd) a) ∧ H1 dd = some (.xd fs) ∧ XfC K D ∧ PySem.W.findIn K (.ref D) f = some none ∧ fs.lookup f = some v ∧ Q v H1
theorem pe_xk {X : Cx} {e : Expr} {te : TE} {pos : Pos} {n : Str} (he : PE X e te) (hb : attributeBase e n X.env (eval e X.env) = eval e X.env := by rfl) : PE X (.Attribute e n pos) (tXk X.K n te) := by
  refine ⟨fun pins s σ H Q I h => ?_⟩
  refine attr_of hb (thn (he.run pins s σ H _ I h) fun u s1 hh => ?_)
  obtain ⟨x, H1, I1, rx, a, D, dd, fs, v, ex, ha, hd, T, hno, l, q⟩ := hh
  subst ex
  obtain rfl : u = Value.ref a := rx
  obtain ⟨oe, od, J, mA, hl, hr⟩ := xo_inst I1 ha hd
  obtain ⟨u, hu, ru⟩ := RelO.some_of (v := v) (o := mA n) (by rw [← l]; exact hr n)
  exact PySem.HandSPX.exc_get I1.kIn J T.ga T.gg T.exC (PySem.W.findObj_own T.hdC hno rfl (by rw [hl, hu])) (handed_of ru) ⟨v, H1, I1.tok _, ru, q⟩
end Own
namespace Own
open PySem PySem.Spec PyProof.Rows L2
/-- the ends of an except suite whose exception is kept at a: the clause's name (slot i) goes, the exception stands -/
def keptE (i : Nat) (a : Addr) (cls : Value) (d : Option Addr) (D : Ends) : Ends where
  nx := fun σ' H' => H' a = none → D.nx (σ'.set i none) (upd H' a (XO cls d a))
  rt := fun v H' => H' a = none → D.rt v (upd H' a (XO cls d a))
  bk := fun σ' H' => H' a = none → D.bk (σ'.set i none) (upd H' a (XO cls d a))
  ct := fun σ' H' => H' a = none → D.ct (σ'.set i none) (upd H' a (XO cls d a))
/-- what a clause 'except x as n' (slot i is n's) that keeps its exception wishes of an exception of the body -/
def wAsK (K : PySem.W.Frag) (c : Value) (i : Nat) (ts : Addr → Value → Option Addr → TS) (Wout : WX) (D : Ends) : WX := fun cls d σ H =>
  ∃ b, PySem.W.exmOne K cls c = some b ∧ (b = true → ∀ a, H a = none → ts a cls d (keptE i a cls d D) (σ.set i (some (.ref a))) H) ∧ (b = false → Wout cls d σ H)
section
variable {X : Cx} {x n : Str} {c : Value} {i : Nat} {body suite : List Stmt} {b₀ : Stmt} {np pos pos' : Pos} {tb : WX → TS} {ts : Addr → Value → Option Addr → TS} {Wout : WX}
/-- an end of the body of a try is one of the try -/
theorem sp_try {pins : List (Addr × Obj)} {xe : Value → Shared → Prop} {D : Ends} {s : Shared} (ok : X.Ok) : ∀ f : Flow, SP (X.tr (X.pn ++ pins) xe) [] D f s → SP X pins D f s
  | .next, ⟨_, _, J, q⟩ => ⟨_, _, J.ofTry ok, q⟩
  | .brk, ⟨_, _, J, q⟩ => ⟨_, _, J.ofTry ok, q⟩
  | .cont, ⟨_, _, J, q⟩ => ⟨_, _, J.ofTry ok, q⟩
  | .ret _, ⟨_, _, _, J, r, q⟩ => ⟨_, _, _, J.ofTry ok, r, q⟩
/-- an end of the suite, the name let go, is one of the try; the exception is tracked from here on -/
theorem sp_kept {pins : List (Addr × Obj)} {D : Ends} {a : Addr} {oe : Obj} {vs : Array Value} {cls : Value} {d : Option Addr} {s : Shared} {E : Value → Shared → Prop} (ok : X.Ok) (hN : X.N.Nodup) (hi : X.N[i]? = some n) (hl : X.env.kindOf n = some .local)
    (z : Zc cls d oe) (hd : oe.data = .fields vs) (n0 : X.s_0.heap.get? a = none) (nL : a ≠ X.env.locals) (np : ∀ p ∈ X.pn ++ pins, p.1 ≠ a) (f : Flow) (h : SP (X.suite a ((a, oe) :: (X.pn ++ pins))) [] (keptE i a cls d D) f s) :
    wpAny (model X.prog X.w) X.A (do bindName X.env n .none; unbindBehindTheSuite X.env n pos') (fun _ s7 => SP X pins D f s7) E s := by
  have go : ∀ {σ : L2.St} {H : Hp}, Inv (X.suite a ((a, oe) :: (X.pn ++ pins))) [] σ H s → (∀ s7, H a = none → Inv X pins (σ.set i none) (upd H a (XO cls d a)) s7 → SP X pins D f s7) →
      wpAny (model X.prog X.w) X.A (do bindName X.env n .none; unbindBehindTheSuite X.env n pos') (fun _ s7 => SP X pins D f s7) E s := fun {σ H} S q => by
    refine gone_ok (X := X.suite a ((a, oe) :: (X.pn ++ pins))) S hN hi hl fun s7 S7 => ?_
    have p7 := S7.pin (a, oe) (List.mem_append_left _ List.mem_cons_self)
    exact q s7 p7.2.1 (keepX (S7.unsuite ok) n0 p7.1 z hd p7.2.1 nL np)
  revert go
  revert h
  cases f with
  | next => exact fun ⟨σ, H, S, q⟩ go => go S fun s7 e J => ⟨_, _, J, q e⟩
  | brk => exact fun ⟨σ, H, S, q⟩ go => go S fun s7 e J => ⟨_, _, J, q e⟩
  | cont => exact fun ⟨σ, H, S, q⟩ go => go S fun s7 e J => ⟨_, _, J, q e⟩
  | ret u => exact fun ⟨v, σ, H, S, r, q⟩ go => go S fun s7 e J => ⟨_, _, _, J, r, q e⟩
/-- a caught exception is a new object -/
theorem caught_new {pins : List (Addr × Obj)} {σ : L2.St} {H : Hp} {sI : Shared} {B : Heap} {a : Addr} (J : Inv X pins σ H sI) (hex : X.ex = []) (nb : ∀ b o, sI.heap.get? b = some o → b ∉ frs X.stack → B.get? b = some o) (Ba : B.get? a = none) (nfr : a ∉ frs X.stack) :
    X.s_0.heap.get? a = none ∧ ∀ p ∈ X.pn ++ pins, p.1 ≠ a := by
  have nI : ∀ o, sI.heap.get? a ≠ some o := fun o e => by
    have z := nb a o e nfr
    rw [Ba] at z
    cases z
  refine ⟨?_, fun p hp z => nI p.2 (by rw [← z]; exact (J.pin p hp).1)⟩
  cases e : X.s_0.heap.get? a with
  | none => rfl
  | some o =>
    obtain ⟨o', z⟩ := J.base.there a o e (by rw [hex]; exact fun z => nomatch z)
    exact absurd z (nI o')
/-- try: body / except x as n: suite, where the suite lets its exception out into a name or a list: it is kept -/
theorem ps_try_keep (hs : X.stack = X.env :: X.outer) (hf : X.env.frame = some X.env.locals) (hex : X.ex = []) (hN : X.N.Nodup) (hi : X.N[i]? = some n) (hln : X.env.kindOf n = some .local) (hc : Names X x c) (tk : Takes X Wout)
    (hb : ∀ (W : WX) (pn : List (Addr × Obj)) (xe : Value → Shared → Prop), Takes (X.tr pn xe) W → PassesOwn (model X.prog X.w) X.A X.env xe → PSs (X.tr pn xe) body (tb W))
    (hsu : ∀ (a : Addr) (oe : Obj) (cls : Value) (d : Option Addr) (pn : List (Addr × Obj)), Zc cls d oe → (∃ vs, oe.data = .fields vs) → PSs (X.suite a ((a, oe) :: pn)) (b₀ :: suite) (ts a cls d)) :
    PS X (.Try body [.ExceptHandler (some (.Name x np)) (some n) (b₀ :: suite) pos'] [] [] pos) (fun D σ H => tb (wAsK X.K c i ts Wout D) D σ H) := by
  refine ⟨fun pins s σ H D I h => wpAny_Try_except ?_⟩
  have ok := I.ok
  refine wpAny_mono ((hb (wAsK X.K c i ts Wout D) (X.pn ++ pins) (fun e s₁ => wpAny (model X.prog X.w) X.A (noteFrame e X.env) (fun _ s₂ => wpAny (model X.prog X.w) X.A (setFlight e none) (fun _ s₃ =>
    wpAny (model X.prog X.w) X.A (handleBy e X.env [.ExceptHandler (some (.Name x np)) (some n) (b₀ :: suite) pos']) (SP X pins D) X.xe s₃) X.xe s₂) X.xe s₁) (fun u s' air => ?_) PassesOwn.looking).run [] s σ H D (I.toTry _) h) (fun f s1 e => ?_) (fun e s1 he => he)
  case refine_2 =>
    have e := sp_try ok f e
    cases f with
    | next => exact wpAny_execs_nil e
    | brk => exact e
    | cont => exact e
    | ret u => exact e
  obtain ⟨a, B, sI, ps, τ, G, cls, d, rfl, JT, nb, up, sky, na, os, ag, b, hmatch, yes, no⟩ := air
  have J : Inv X pins τ G sI := JT.ofTry ok
  show wpAny (model X.prog X.w) X.A (noteFrame (.ref a) X.env) _ _ _
  refine Sky.land (outer := X.outer) Zc.steady (by rw [ok.frames, hs]) hf (by rw [← hs]; exact sky) fun h3 fl3 up3 => ?_
  have nfr : a ∉ frs (X.env :: X.outer) := fun hm => by
    obtain ⟨o3, v3, e3, _, d3⟩ := fl3.there
    obtain ⟨_, o', e', hnf⟩ := fl3.2.2.1.mem hm
    cases e3.symm.trans e'
    exact hnf _ d3
  obtain ⟨n0, apart⟩ := caught_new J hex nb fl3.2.1 (by rw [hs]; exact nfr)
  have nL : a ≠ X.env.locals := fun z => nfr (List.mem_filterMap.mpr ⟨X.env, List.mem_cons_self, by rw [hf, z]⟩)
  have nF : a ∉ X.fs := fun hm => by
    obtain ⟨e, he, q⟩ := List.mem_filterMap.mp hm
    exact nfr (List.mem_filterMap.mpr ⟨e, List.mem_cons_of_mem _ he, q⟩)
  have J3 : Inv X pins τ G { s' with heap := h3 } := J.landed nb fl3.1 (up.trans up3) os ag
  obtain ⟨o3, v3, e3, z3, d3⟩ := fl3.there
  have S3 := J3.suite e3 d3 na nL nF
  have hcls : ∀ {Q : Value → Shared → Prop} {E : Value → Shared → Prop}, Q c { s' with heap := h3 } → wpAny (model X.prog X.w) (X.A.mark (some (.ref a))) (eval (.Name x np) X.env) Q E { s' with heap := h3 } := fun {Q E} q => by
    obtain ⟨hg, hdb, hm | ⟨hm, hv, hnn⟩⟩ := hc
    · exact ld_glob (X := X.suite a ((a, o3) :: (X.pn ++ pins))) S3 hg hm q hdb
    · exact ld_blt (X := X.suite a ((a, o3) :: (X.pn ++ pins))) S3 hg hm hv q hnn hdb
  refine wpAny_handleBy_cons (codeAny_handlers_test (hcls ((PySem.W.exm_one (M := model X.prog X.w) J3.kIn (fun A Q E s k q => wpAny_typeOf_ref (k _ _ e3) (by rw [z3.1]; exact q)) hmatch).here ?_))) (by intro q; cases q)
  cases b with
  | true =>
    refine codeAny_handlers_suite_as (HandSPX.lands_againZ fl3 fun h4 fl4 up4 => ?_)
    obtain ⟨o4, v4, e4, z4, d4⟩ := fl4.there
    have S4 := Inv.suite (J.landed (s' := { s' with heap := h4 }) nb fl4.1 ((up.trans up3).trans up4) os ag) e4 d4 na nL nF
    refine store_ok (X := X.suite a ((a, o4) :: (X.pn ++ pins))) (v := .ref a) S4 hN hi (.inl hln) rfl (fun s5 S5 => ?_) (.inr hln)
    exact wpAny_mono ((hsu a o4 cls d (X.pn ++ pins) z4 ⟨_, d4⟩).run [] s5 _ G _ S5 (yes rfl a na)) (fun f s6 q => sp_kept ok hN hi hln z4 d4 n0 nL apart f q) fun _ _ z => False.elim z
  | false =>
    show wpAny _ X.A (handleBy (.ref a) X.env []) _ _ _
    refine wpAny_handleBy_nil ?_
    obtain ⟨_, _, _, oe, vs, T, oT, _, he, hz, hd, h1, _⟩ := id fl3
    unfold PySem.passOn
    refine wpAny_bind (wpAny_field he hd h1 ?_)
    rw [if_neg (show ¬ ((Value.ref T == Value.none) = true) from by simp)]
    have out : wpAny (model X.prog X.w) X.A (setFlight (.ref a) X.env.frame) (fun _ s4 => wpAny (model X.prog X.w) X.A (throw (.ref a) : Sem Flow) (SP X pins D) X.xe s4) X.xe { s' with heap := h3 } := by
      rw [hf]
      exact HandSPX.setFlight_upZ fl3 fun h4 held up4 => wpAny_throw (tk _ _ ⟨a, B, sI, pins, τ, G, cls, d, rfl, J, nb, (up.trans up3).trans up4, .inr (.inr (by rw [hs]; exact held)), na, os, ag, no rfl⟩)
    first
      | exact wpAny_bind (wpAny_pure (wpAny_bind out))
      | exact wpAny_bind out
end
end Own
namespace Own
open PySem PySem.Spec PyProof.Rows L2 ClX
/-- a classmethod called off its class, which may raise (what it lets out may speak of the slots) -/
def tCMethS (C : Addr) (sp : Sp) (E : L2.St → XK) (ta : TE) (t : TA) : TE := fun σ H Q => ta σ H fun x H1 => x = .ref C ∧ t σ H1 fun vs H2 => sp (.ref C :: vs) H2 Q (E σ)
theorem pe_cmethS {X : Cx} {CX : CXT} {k : Nat} {C p g : Addr} {mc : Value} {sp : Sp} {E : L2.St → XK} {o e : Expr} {es : List Expr} {m : Str} {pos apos : Pos} {ta : TE} {t : TA} {pl : Sem Bool} (he : PE X o ta) (r : CRead X.K C mc) (c : CMet X.K C mc m p g)
    (F : FnR X.prog X.w X.K X.mg X.base CX k g sp) (hr : Room k X.A) (hx : ∀ σ, PassesAt CX X σ (E σ)) (ha : PA X (e :: es) t)
    (hst : starEach (e :: es) X.env = (false, eval e X.env) :: starEach es X.env := by rfl) (hpl : (backTo pos (starEach es X.env)).any (·.1) = false := by rfl)
    (ht : eval (.Call (.Attribute o m apos) (e :: es) [] pos) X.env = (do
      let ov ← eval o X.env
      standAt apos.atName
      let (f, first) ← holding [ov] (getMethod ov m pl)
      callWith pos f first (backTo pos (starEach (e :: es) X.env)) (backToKw pos (keywordEach [] X.env))) := by rfl) :
    PE X (.Call (.Attribute o m apos) (e :: es) [] pos) (tCMethS C sp E ta t) := by
  refine ⟨fun pins s σ H Q I h => ?_⟩
  refine PySem.W.methodCall_KW (pl := pl) (thn (he.run pins s σ H _ I h) fun u s1 ⟨x, H1, I1, rx, ex, q⟩ => ?_) ht
  subst ex
  obtain rfl : u = Value.ref C := rx
  refine getmethcm_ok I1 r c fun s2 I2 => ?_
  refine callwith_cm I2 (base_none I1 (Nat.le_refl _)) c.fi (thn (ha.run pos _ s2 σ H1 _ I2 q) fun us s3 ⟨vs, H2, I3, rv, q2⟩ => ⟨⟨pin_at I3, I3.kIn⟩, ?_⟩) hst hpl
  have z : wpAny (model X.prog X.w) X.A (call (.ref s1.heap.objs.size) us) (EP X ((s1.heap.objs.size, PySem.W.methodObj (.ref g) (.ref C)) :: pins) σ Q) X.xe s3 := by
    refine wpAny_call (PySem.W.method_call (pin_at I3) (codeAny_mono (F X.A X.stack s3 H2 (.ref C :: us) (.ref C :: vs) Q (E σ) hr I3.env0 (.cons rfl rv) q2) fun r s' hq => ?_))
    cases r with
    | error e => exact hx σ _ H2 s3 e s' I3 hq
    | ok fl =>
      cases fl with
      | ret u => exact I3.after hq
      | next => exact False.elim hq
      | brk => exact False.elim hq
      | cont => exact False.elim hq
  exact thn z fun _ _ y => unpinE y
end Own
/-! OwnD: sets of texts, made of a tuple or a list of any length. -/
namespace Own
open PySem PySem.Spec PySem.Calls PyProof.Rows
/-- a set that holds exactly the texts of xs; c tells by its size whether they differ -/
def SetT (prog : Program) (w : World) (h : Heap) (S : Addr) (xs : List Str) : Prop := ∃ c, h.SetOf (strKind prog w) S (fun k => decide (k ∈ xs)) c ∧ c ≤ xs.length ∧ (c = xs.length ↔ xs.Nodup)
theorem SetT.move {prog : Program} {w : World} {h h' : Heap} {S : Addr} {xs : List Str} (T : SetT prog w h S xs) (k : ∀ o, h.get? S = some o → h'.get? S = some o) : SetT prog w h' S xs := by
  obtain ⟨c, ⟨o, es, ep, t, ho, rest⟩, r⟩ := T
  exact ⟨c, ⟨o, es, ep, t, k o ho, rest⟩, r⟩
theorem SetT.more {prog : Program} {w : World} {h' : Heap} {S : Addr} {xs : List Str} {x : Str} {c : Nat} (hc : c ≤ xs.length) (hn : c = xs.length ↔ xs.Nodup)
    (T : h'.SetOf (strKind prog w) S (fun k => decide (k ∈ xs) || decide (k = x)) (if decide (x ∈ xs) then c else c + 1)) : SetT prog w h' S (xs ++ [x]) := by
  refine ⟨if decide (x ∈ xs) then c else c + 1, SetOf_congr T (fun k => by simp [List.mem_append]) rfl, ?_, ?_⟩
  · rw [List.length_append]
    split
    · exact Nat.le_trans hc (Nat.le_add_right _ _)
    · exact Nat.succ_le_succ hc
  · rw [List.length_append, List.length_singleton, List.nodup_append]
    by_cases hx : x ∈ xs
    · rw [decide_eq_true hx, if_pos rfl]
      refine ⟨fun e => by omega, fun e => ?_⟩
      exact absurd rfl (e.2.2 x hx x List.mem_cons_self)
    · rw [decide_eq_false hx, if_neg Bool.false_ne_true]
      refine ⟨fun e => ⟨hn.mp (by omega), by simp, fun a ha b hb => ?_⟩, fun e => by rw [hn.mpr e.1]⟩
      rw [List.mem_singleton] at hb
      subst hb
      exact fun z => hx (z ▸ ha)
section
variable {prog : Program} {w : World} {A : Around} {R : Result → Shared → Prop} {I : Addr} {fp wr : List Addr} {G : Array GenState → Array GenState → Prop} {n : Nat} {P : Nat → Value → Prop} {St : Nat → Shared → Prop}
/-- the loop that fills it -/
theorem fill_texts (W : WalksS prog w A.in1 I fp wr G n P St) (S : Addr) (hS : S ∉ fp) (xs : List Str) (hl : xs.length = n) (hb : n + 1 < scanBound) (hv : ∀ i v, P i v → ∃ x t, xs[i]? = some x ∧ v = .str x t) :
    ∀ (left i : Nat) (s : Shared), i + left = n → St i s → SetT prog w s.heap S (xs.take i) → (∀ s', Moved (S :: wr) G s s' → SetT prog w s'.heap S xs → R (.ok (.ret .none)) s') →
      codeAny (model prog w) A (.builtin "set.update.loop" ⟨[.ref S, .ref I], []⟩) R s := by
  have nw : S ∉ wr := fun h => hS (W.sub _ h)
  have up : ∀ b ∈ wr, b ∈ S :: wr := fun b hb => List.mem_cons_of_mem _ hb
  intro left
  induction left with
  | zero =>
    intro i s e hst T k
    have e : i = n := e
    subst e
    refine codeAny_builtin F.entry_set_update_loop ?_
    rw [Around.under_plainId F.plain_set_update_loop _]
    show wpAny _ A.in1 (pyNext (.ref I) >>= _) _ _ s
    refine wpAny_bind (W.done s _ _ hst fun s' m => wpAny_pure (k s' (m.mono up) ?_))
    rw [List.take_of_length_le (Nat.le_of_eq hl)] at T
    exact T.move fun o e => m.heap S o nw e
  | succ left ih =>
    intro i s e hst T k
    refine codeAny_builtin F.entry_set_update_loop ?_
    rw [Around.under_plainId F.plain_set_update_loop _]
    show wpAny _ A.in1 (pyNext (.ref I) >>= _) _ _ s
    refine wpAny_bind (W.item i s _ _ (by omega) hst fun v s' pv hst' m => ?_)
    obtain ⟨x, t, hx, rfl⟩ := hv i v pv
    obtain ⟨c, T1, hc, hn⟩ := T.move (h' := s'.heap) fun o e => m.heap S o nw e
    have lt : (xs.take i).length = i := by rw [List.length_take]; omega
    show wpAny _ A.in1 (holding [Value.str x t] (setAdd S (.str x t)) >>= _) _ _ s'
    refine wpAny_bind (wpAny_holding ?_)
    unfold setAdd
    refine wpAny_holding (wpAny_bind ((strKind prog w).pyHash (k := x) (strKind_is _ _ _ _) ?_))
    refine wpAny_setAddHashed_of (knd := strKind prog w) (s := { s' with toks := s'.toks + 1 }) (strKind_is _ _ _ _) rfl T1 (by rw [lt] at hc; omega) fun h' sb T2 => ?_
    have T3 : SetT prog w h' S (xs.take (i + 1)) := by
      rw [List.take_add_one, hx]
      exact SetT.more hc hn T2
    refine wpAny_pure ⟨plainId_quiet F.plain_set_update_loop _, ih (i + 1) _ (by omega) (W.frame _ s' _ _ hst' (Nat.le_succ _) fun b hb o e => ?_) T3 fun s2 m2 T4 => k s2 (Moved.trans W.gtrans ((m.mono up).then_heap (Nat.le_succ _) fun b o nb e => ?_) m2) T4⟩
    · rw [sb.2 b fun z => hS (z ▸ hb)]
      exact e
    · rw [sb.2 b fun z => nb (z ▸ List.mem_cons_self)]
      exact e
end
end Own
namespace Own
open PySem PySem.Spec PySem.Calls PyProof.Rows L2 SS
section
variable {prog : Program} {w : World} {A : Around} {E : Value → Shared → Prop} {s : Shared}
abbrev freshSet (led : Bool) : Obj := { cls := .type "set", dict := none, data := .set #[] 0 (.fresh 0 0 led) }
/-- set(x): what __init__ does at the fresh set decides -/
theorem call_set_by {x : Value} {Q : Value → Shared → Prop}
    (fill : ∀ led : Bool, wpAny (model prog w) A.in1.in1 (Builtin.«set.__init__» ⟨[.ref s.heap.objs.size, x], []⟩)
        (fun fin s' => match fin with | .done f => wants (fun r s₂ => r = .none ∧ Q (.ref s.heap.objs.size) s₂) E (.ok f) s' | .again c' => c'.quiet = true ∧ codeAny (model prog w) A.in1 c' (wants (fun r s₂ => r = .none ∧ Q (.ref s.heap.objs.size) s₂) E) s')
        (fun e s' => wants (fun r s₂ => r = .none ∧ Q (.ref s.heap.objs.size) s₂) E (.error e) s') { s with heap := s.heap.push (freshSet led) }) :
    wpAny (model prog w) A (call (.type "set") [x]) Q E s := by
  obtain ⟨c, tl, hmro⟩ := PySem.F.called_set.mro
  have hmade := PySem.F.called_set.made
  have hsub := PySem.F.called_set.sub
  have h1 := PySem.F.called_set.notType
  have h2 := PySem.F.called_set.canCreate
  have hct := PySem.F.typeCall_set_1 x
  refine wpAny_call (codeAny_of_tree ?_)
  show wpAny _ _ (callAny (.type "set") _) _ _ _
  refine wpAny_pure ⟨Code.quiet_builtin _ (by decide +kernel), codeAny_builtin PySem.F.entry_type_call ?_⟩
  rw [Around.under_plain (weight_type_call_type "set" [x] []) rfl]
  repeat (any_goals (first | assumption | wp_step))

  refine codeAny_mono (code_set_new_1 x (E := E) (Q₁ := fun obj s₁ => ∃ led : Bool, obj = .ref s.heap.objs.size ∧ s₁ = { s with heap := s.heap.push (freshSet led) }) fun led => ⟨led, rfl, rfl⟩) fun r s₁ hr => ?_
  cases r with
  | error e => exact hr
  | ok fl =>
    cases fl with
    | ret obj =>
      obtain ⟨led, rfl, rfl⟩ := hr
      have hT : Shared.TypeIs { s with heap := s.heap.push (freshSet led) } (.ref s.heap.objs.size) "set" := ⟨_, Heap.get?_push_size _ rfl, rfl⟩
      have hli := PySem.F.called_set.init.lookup
      have hbi := PySem.F.called_set.init.bind (.ref s.heap.objs.size)
      repeat (any_goals (first | assumption | wp_step))

      refine codeAny_mono (codeAny_call_builtin PySem.F.called_set.init.plain PySem.F.entry_set_init (check_set_init_1 hT (fill led))) fun r₂ s₂ hr₂ => ?_
      cases r₂ with
      | error e => exact hr₂
      | ok fl₂ =>
        cases fl₂ with
        | ret r =>
          obtain ⟨rfl, hq⟩ := hr₂
          repeat (any_goals (first | assumption | wp_step))
        | _ => exact hr₂.elim
    | _ => exact hr.elim
/-- set(l), l a tuple of texts -/
theorem call_set_texts {l : Addr} {items : Array Value} {xs : List Str} {Q : Value → Shared → Prop} (hh : A.handled = none) (hl : s.heap.IsTuple l items) (hi : StrsAre items.toList xs) (hb : xs.length + 1 < scanBound)
    (h : ∀ (h' : Heap) (tk : Nat), SetT prog w h' s.heap.objs.size xs → (∀ b o, b < s.heap.objs.size → s.heap.get? b = some o → h'.get? b = some o) → Q (.ref s.heap.objs.size) { s with heap := h', toks := tk }) :
    wpAny (model prog w) A (call (.type "set") [.ref l]) Q E s := by
  refine call_set_by fun led => ?_
  obtain ⟨hp, g, d, tk, os⟩ := s
  dsimp only at hl h ⊢
  have hS : (hp.push { cls := .type "set", dict := none, data := .set #[] 0 (.fresh 0 0 led) }).get? hp.objs.size = some { cls := .type "set", dict := none, data := .set #[] 0 (.fresh 0 0 led) } := Heap.get?_push_size _ rfl
  have hT : Shared.TypeIs ⟨hp.push { cls := .type "set", dict := none, data := .set #[] 0 (.fresh 0 0 led) }, g, d, tk, os⟩ (.ref hp.objs.size) "set" := ⟨_, hS, rfl⟩
  have hl1 : (hp.push { cls := .type "set", dict := none, data := .set #[] 0 (.fresh 0 0 led) }).IsTuple l items := hl.push _
  obtain ⟨⟨ocls, odict, odata, oslots⟩, hol, hcl, nl, hdl⟩ := id hl1
  simp only at hcl hdl
  subst hcl
  subst hdl
  have hsls := PySem.F.sub_tuple_set
  have hslf := PySem.F.sub_tuple_frozenset
  have hne : (Value.type "tuple" == Value.type "dict") = false := by decide
  unfold Builtin.«set.__init__» noKeywords Builtin.Frozenset.updateFrom
  generalize hPI : pyIter = PI
  wp_walk
  subst hPI
  refine wpAny_pyIter_tuple hl1 (wpAny_bind (wpAny_runValue ?_))
  have lS : l < hp.objs.size := let ⟨_, e, _⟩ := hl; Heap.lt_size e
  have zI : (hp.push (freshSet led)).objs.size = hp.objs.size + 1 := Heap.size_push ..
  have len : xs.length = items.size := by rw [← StrsAre.len_eq hi, Array.length_toList]
  refine fill_texts ((Walks.tuple (A := A.in1.in1.in1) (by simp [hh]) _ l (by rw [zI]; exact Nat.ne_of_lt (Nat.lt_succ_of_lt lS)) items).toS) hp.objs.size (by
      rw [zI]
      simp only [List.mem_cons, List.not_mem_nil, or_false, not_or]
      exact ⟨Nat.ne_of_lt (Nat.lt_succ_self _), Nat.ne_of_gt lS⟩) xs len (by rw [← len]; exact hb) (fun i v e => ?_) items.size 0 _ (by omega) ⟨⟨_, Heap.get?_push_size _ rfl, rfl, rfl⟩, hl1.push _⟩ ?_ fun s' m T => ?_
  · obtain ⟨t, e2⟩ := strs_at hi i v (by rw [Array.getElem?_toList]; exact e)
    have hi' : i < xs.length := by rw [len]; exact (Array.getElem?_eq_some_iff.mp e).1
    refine ⟨xs[i], t, List.getElem?_eq_getElem hi', ?_⟩
    rw [e2, List.getD_eq_getElem?_getD, List.getElem?_eq_getElem hi'] <;> rfl
  · refine ⟨0, SetOf_congr ((setObjOf_fresh (knd := strKind prog w) led).setOf (Heap.get?_push_of_some _ hS) (by unfold scanBound; omega)) (fun k => by simp) rfl, Nat.zero_le _, by simp⟩
  · obtain ⟨h', g', d', tk', os'⟩ := s'
    obtain rfl : g' = g := m.gens
    obtain rfl : d' = d := m.drawn
    obtain rfl : os' = os := m.os
    refine wpAny_pure ?_
    show wpAny _ _ (ret Value.none) _ _ _
    refine wpAny_pure ⟨rfl, h h' tk' T fun b o hb e => ?_⟩
    refine m.heap b o ?_ (Heap.get?_push_of_some _ (Heap.get?_push_of_some _ e))
    rw [zI]
    simp only [List.mem_cons, List.not_mem_nil, or_false, not_or]
    exact ⟨Nat.ne_of_lt hb, Nat.ne_of_lt (Nat.lt_succ_of_lt hb)⟩
end
end Own
namespace Own
open PySem PySem.Spec PyProof.Rows L2
/-- len(set(a)), a a tuple of texts: the number is told by whether they differ -/
def tLenSetT (K : PySem.W.Frag) (ta : TE) : TE := fun σ H Q => ta σ H fun x H1 => ∃ (l : Addr) (xs : List Str), x = .ref l ∧ SqT K H1 l (xs.map V.str) ∧ xs.length ≤ 1000 ∧
  ∀ c : Nat, c ≤ xs.length → (c = xs.length ↔ xs.Nodup) → Q (.int (c : Nat)) H1
theorem pe_lenSetT {X : Cx} {a : Expr} {ta : TE} {p p2 q pos : Pos} (hc : X.calm = true) (hg : Gl X "len") (hm : X.mg "len" = none) (hg2 : Gl X "set") (hm2 : X.mg "set" = none) (ha : PE X a ta)
    (na : starEach [a] X.env = (false, eval a X.env) :: starEach [] X.env := by rfl) : PE X (.Call (.Name "len" p) [.Call (.Name "set" p2) [a] [] q] [] pos) (tLenSetT X.K ta) := by
  refine ⟨fun pins s σ H Q I h => Call_ (ld_blt I hg hm boot_len ?_)⟩
  refine PyProof.Rows.callWith_builtin1 (PyProof.Rows.args_cons ?_ rfl) rfl rfl
  refine Call_ (ld_blt I hg2 hm2 boot_set ?_)
  refine PyProof.Rows.callWith_type1 (PyProof.Rows.args_cons (thn (ha.run pins s σ H _ I h) fun v s1 ⟨x, H1, I1, r1, l, xs, ex, ht, hl, k⟩ => PyProof.Rows.args_nil ?_) na) na rfl
  subst ex
  obtain rfl : v = Value.ref l := r1
  obtain ⟨its, r, pl, _⟩ := I1.tuple ht
  refine call_set_texts (I1.ok.hd hc) pl (by simpa using strsAre_of r) (by unfold scanBound; omega) fun h' tk T keep => PyProof.Rows.args_nil ?_
  obtain ⟨c, ⟨o, es, ep, t, ho, hex, hd, _, _, _, hf, hn⟩, hc1, hc2⟩ := T
  have I2 : Inv X pins σ H1 { s1 with heap := h', toks := tk } := I1.kept fun b o e => keep b o (Heap.lt_size e) e
  exact call_len_set ho hex hd hf (by rw [hn]; omega) ⟨.int (c : Nat), H1, I2.tok _, ⟨_, by rw [hn]⟩, k c hc1 hc2⟩
end Own
/-! OwnE: sorted(t), t a tuple of texts. -/
namespace Own
open PySem PySem.Spec PySem.Calls PyProof.Rows L2
section
variable {prog : Program} {w : World} {A : Around} {E : Value → Shared → Prop} {s : Shared}
/-- the items of a tuple, collected -/
theorem collect_tuple {l : Addr} {vs : List Value} {Q : List Value → Shared → Prop} (hl : s.heap.IsTuple l vs.toArray) (hz : vs.length ≤ sizeLine)
    (h : Q vs { s with heap := (s.heap.push (seqObj "list" #[] 0)).update s.heap.objs.size (Obj.mapSeq (· ++ vs.toArray)) }) : wpAny (model prog w) A (collect (.ref l)) Q E s := by
  obtain ⟨o, ho, hc, n, hd⟩ := hl
  have fresh : (s.heap.push (seqObj "list" #[] 0)).get? s.heap.objs.size = some (seqObj "list" #[] 0) := Heap.get?_push_size _ rfl
  have there : (s.heap.push (seqObj "list" #[] 0)).get? l = some o := Heap.get?_push_of_some _ ho
  have size : ((#[] : Array Value) ++ vs.toArray).size ≤ sizeLine + 1 := by simp only [Array.size_append, List.size_toArray, List.length_nil]; omega
  unfold collect
  refine wpAny_bind (wpAny_runValue (codeAny_builtin entry_proto_collect' ?_))
  show wpAny _ _ (do again (.builtin "list.__iadd__" ⟨[← newList [], .ref l], []⟩)) _ _ s
  refine wpAny_bind (wpAny_newList (wpAny_pure ⟨Code.quiet_builtin _ (by decide +kernel), codeAny_builtin entry_list_iadd' ?_⟩))
  show wpAny _ _ (Builtin.List.listExtendWith (.ref s.heap.objs.size) (.ref l) (.ref s.heap.objs.size)) _ _ { s with heap := s.heap.push (seqObj "list" #[] 0) }
  unfold Builtin.List.listExtendWith
  refine wpAny_bind (wpAny_typeOf (T := "tuple") ⟨o, there, hc⟩ ?_)
  rw [if_pos (show _ = true by rw [show (Value.type "tuple" == Value.type "tuple") = true from rfl]; simp)]
  refine wpAny_bind (listItems_at there hd (wpAny_bind (listItems_at (xs := #[]) (n := 0) fresh rfl ?_)))
  rw [if_neg (by simp)]
  refine wpAny_bind (listUpdate_at (xs := #[]) (n := 0) fresh rfl (wpAny_pure ?_) (Nat.zero_le _) size)
  show wpAny (model prog w) A (do
      let o ← load s.heap.objs.size
      match o.data with
      | .seq xs _ => pure xs.toList
      | _ => unsupported "internal:collect") Q E { s with heap := (s.heap.push (seqObj "list" #[] 0)).update s.heap.objs.size (Obj.mapSeq (· ++ vs.toArray)) }
  refine wpAny_bind (wpAny_load (get?_update_seq fresh _) ?_)
  show wpAny _ _ (pure ((#[] : Array Value) ++ vs.toArray).toList) Q E _
  rw [show ((#[] : Array Value) ++ vs.toArray).toList = vs by simp]
  exact wpAny_pure h
theorem sorted_texts {l : Addr} {vs : List Value} {xs : List Str} {Q : Value → Shared → Prop} (hl : s.heap.IsTuple l vs.toArray) (hS : StrsAre vs xs) (hz : vs.length ≤ sizeLine)
    (h : ∀ (out : Array Value) (ys : List Str), StrsAre out.toList ys → ys.Perm xs → sortedS ys = true → Q (.ref (s.heap.objs.size + 1)) { s with heap := sortedAll s.heap vs out }) :
    wpAny (model prog w) A (call (.builtin "sorted") [.ref l]) Q E s := by
  refine Calls.call_function_entry kind_sorted plain_sorted entry_sorted (args_sorted1 _) ?_
  unfold Builtin.«sorted»
  refine wpAny_bind (m := checkCount "sorted" 1 1 _) (wpAny_pure (wpAny_bind (collect_tuple hl hz (wpAny_bind (wpAny_newList ?_)))))
  have size : ((s.heap.push (seqObj "list" #[] 0)).update s.heap.objs.size (Obj.mapSeq (· ++ vs.toArray))).objs.size = s.heap.objs.size + 1 := by rw [Heap.size_update, size_push']
  have new : (((s.heap.push (seqObj "list" #[] 0)).update s.heap.objs.size (Obj.mapSeq (· ++ vs.toArray))).push (seqObj "list" vs.toArray 0)).get? (s.heap.objs.size + 1) = some (seqObj "list" vs.toArray 0) := by
    rw [← size]
    exact Heap.get?_push_size _ rfl
  show wpAny _ _ _ _ _ { s with heap := ((s.heap.push (seqObj "list" #[] 0)).update s.heap.objs.size (Obj.mapSeq (· ++ vs.toArray))).push (seqObj "list" vs.toArray 0) }
  rw [size]
  refine wpAny_bind (wpAny_holding (wpAny_call_entry slot_list_sort ⟨_, new, rfl⟩ entry_list_sort (list_sort_treeKAny strKind_oneLt new hS.keysOf (fun v₁ v₂ rest e => keyKind_strs (by rw [← e]; exact hS)) hz fun st' hp hs => ⟨_, rfl, ?_⟩) (args_list_sort _)))
  obtain ⟨ys, h1, h2, h3⟩ := sorted_out_str hS hp hs
  exact wpAny_pure ⟨_, rfl, h _ ys h1 h2 h3⟩
end
def rSortedT (K : PySem.W.Frag) : List V → Hp → VK → Prop := fun vs H Q => ∃ (a : Addr) (xs : List Str), vs = [V.ref a] ∧ SqT K H a (xs.map V.str) ∧
  ∀ (ys : List Str) (p : Addr), ys.Perm xs → sortedS ys = true → H p = none → Q (.ref p) (upd H p (.lst (ys.map V.str)))
theorem cr_sortedTup {X : Cx} : CallR X (.builtin "sorted") (rSortedT X.K) := by
  intro pins s σ H vs us Q I r h
  obtain ⟨a, xs, rfl, ht, q⟩ := h
  obtain ⟨its, rv, hl, hz⟩ := I.tuple ht
  rw [Vals.ref1 r]
  refine sorted_texts hl rv.strs (by rw [← rv.length]; exact hz) fun out ys h1 h2 h3 => ?_
  obtain ⟨ep, he⟩ := PyProof.Rows.sortedAll_at s.heap its out
  have len : (ys.map V.str).length ≤ sizeLine := by
    rw [List.length_map] at hz
    rw [List.length_map, h2.length_eq]
    exact hz
  exact ⟨.ref _, upd H (s.heap.objs.size + 1) (.lst (ys.map V.str)), I.laid (t' := s.toks) (fun _ _ => PyProof.Rows.sortedAll_old) (Nat.le_succ _) ⟨len, out.toList, ep, vals_of_strs h1, he⟩, rfl, q ys _ h2 h3 (I.hok.fresh (Nat.le_succ _))⟩
/-- sorted of a list of texts, of any length -/
def rSortedL (K : PySem.W.Frag) : List V → Hp → VK → Prop := fun vs H Q => ∃ (a : Addr) (xs : List Str), vs = [V.ref a] ∧ SqL K H a (xs.map V.str) ∧
  ∀ (ys : List Str) (p : Addr), ys.Perm xs → sortedS ys = true → H p = none → Q (.ref p) (upd H p (.lst (ys.map V.str)))
theorem cr_sortedLst {X : Cx} : CallR X (.builtin "sorted") (rSortedL X.K) := by
  intro pins s σ H vs us Q I r h
  obtain ⟨a, xs, rfl, ht, q⟩ := h
  obtain ⟨its, rv, hl, hz⟩ := I.list ht
  rw [Vals.ref1 r]
  refine PyProof.Rows.sorted_strsAny hl.isList rv.strs (by rw [← rv.length]; exact hz) fun out ys h1 h2 h3 => ?_
  obtain ⟨ep, he⟩ := PyProof.Rows.sortedAll_at s.heap its out
  have len : (ys.map V.str).length ≤ sizeLine := by
    rw [List.length_map] at hz
    rw [List.length_map, h2.length_eq]
    exact hz
  exact ⟨.ref _, upd H (s.heap.objs.size + 1) (.lst (ys.map V.str)), I.laid (t' := s.toks) (fun _ _ => PyProof.Rows.sortedAll_old) (Nat.le_succ _) ⟨len, out.toList, ep, vals_of_strs h1, he⟩, rfl, q ys _ h2 h3 (I.hok.fresh (Nat.le_succ _))⟩
/-- .. of ints -/
def rSortedN (K : PySem.W.Frag) : List V → Hp → VK → Prop := fun vs H Q => ∃ (a : Addr) (ns : List Int), vs = [V.ref a] ∧ SqL K H a (ns.map V.int) ∧
  ∀ (ms : List Int) (p : Addr), ms.Perm ns → ms.Pairwise (· ≤ ·) → H p = none → Q (.ref p) (upd H p (.lst (ms.map V.int)))
theorem cr_sortedInt {X : Cx} : CallR X (.builtin "sorted") (rSortedN X.K) := by
  intro pins s σ H vs us Q I r h
  obtain ⟨a, ns, rfl, ht, q⟩ := h
  obtain ⟨its, rv, hl, hz⟩ := I.list ht
  rw [Vals.ref1 r]
  have hi := rv.ints
  refine PyProof.Rows.sorted_intsAny hl.isList hi (by rw [← rv.length]; exact hz) fun out ms h1 h2 h3 => ?_
  obtain ⟨ep, he⟩ := PyProof.Rows.sortedAll_at s.heap its out
  have len : (ms.map V.int).length ≤ sizeLine := by
    rw [List.length_map] at hz
    rw [List.length_map, h2.length_eq]
    exact hz
  exact ⟨.ref _, upd H (s.heap.objs.size + 1) (.lst (ms.map V.int)), I.laid (t' := s.toks) (fun _ _ => PyProof.Rows.sortedAll_old) (Nat.le_succ _) ⟨len, out.toList, ep, vals_of_ints h1, he⟩, rfl, q ms _ h2 h3 (I.hok.fresh (Nat.le_succ _))⟩
end Own
/-! OwnF: a field as a target (a.f, b.g = ..). -/
namespace Own
open PySem PySem.Spec PyProof.Rows L2
/-- o.f = .. as a target -/
def gFld (K : PySem.W.Frag) (f : Str) (ta : TE) : TG := fun v σ H Q => ta σ H fun x H1 => ∃ a C dx fs, x = .ref a ∧ H1 a = some (.ins C dx fs) ∧ Cls K C ∧ NoAttr K C f ∧ fs.length < 1000 ∧ Q σ (upd H1 a (.ins C dx (putF f v fs)))
theorem pg_fld {X : Cx} {o : Expr} {ta : TE} {f : Str} {pos : Pos} (ha : PE X o ta) : PG X (.Attribute o f pos) (gFld X.K f ta) := by
  refine ⟨fun pins s σ H v u Q I r h => ?_⟩
  rw [PySem.assign_Attribute]
  refine wpAny_bind (wpAny_holding (thn (ha.run pins s σ H _ I h) fun ov s1 ⟨x, H1, I1, rx, a, C, dx, fs, ex, ea, c, n, l, q⟩ => ?_))
  subst ex
  obtain rfl : ov = Value.ref a := rx
  exact wpAny_bind (wpAny_standAt (wpAny_bind (wpAny_holding (setattr_ok I1 ea c n l r fun s2 I2 => wpAny_release ⟨σ, _, I2, q⟩))))
end Own
/-! OwnG: the truth of a dict with tuple keys. -/
namespace Own
open PySem PySem.Spec PyProof.Rows L2
section
variable {prog : Program} {w : World} {K : Type} [DecidableEq K] {knd : HeapKind prog w K} {A : Around} {E : Value → Shared → Prop} {s : Shared}
theorem truth_dictH {d : Addr} {xs : List (K × Addr × Value)} {Q : Bool → Shared → Prop} (hd : (d == sysModules) = false) (dd : s.heap.DictOfH knd d xs) (fit : (xs.length : Int) < 2 ^ 63) (q : ∀ s', s' = { s with toks := s.toks + 1 + 1 } → Q (!xs.isEmpty) s') :
    wpAny (model prog w) A (truthy (.ref d)) Q E s := by
  have q := q _ rfl
  have ne : ((xs.length : Int) != 0) = !xs.isEmpty := by cases xs <;> simp <;> omega
  have tl : wpAny (model prog w) A (runValue (.builtin "len" ⟨[.ref d], []⟩)) (fun r t => r = .int xs.length (s.toks + 1) ∧ Q (!xs.isEmpty) t) E s := by
    refine wpAny_runValue (codeAny_builtin entry_len (by
      rw [Around.under_plainId plain_len _]
      refine wpAny_mono (wpAny_len_body_dictH (Q := fun r t => r = .int xs.length (s.toks + 1) ∧ Q (!xs.isEmpty) t) hd dd fit ⟨rfl, q⟩) (fun fin t z => ?_) fun _ _ e => e
      obtain ⟨r, rfl, z⟩ := z
      exact z))
  have ty := dd.typeIs
  unfold truthy
  first
    | refine wpAny_bind (wpAny_callSpecial?_none (name := Str.ofString "__bool__") ty noBool_dict ?_)
    | refine wpAny_bind (wpAny_pure (wpAny_bind (wpAny_callSpecial?_none (name := Str.ofString "__bool__") ty noBool_dict ?_)))
  first
    | refine wpAny_bind (wpAny_specialOf (name := Str.ofString "__len__") ty F.slot_dict_len.lookup ?_)
    | refine wpAny_bind (wpAny_pure (wpAny_bind (wpAny_specialOf (name := Str.ofString "__len__") ty F.slot_dict_len.lookup ?_)))
  first
    | exact wpAny_bind (wpAny_mono tl (fun r t z => by obtain ⟨rfl, z⟩ := z; exact wpAny_pure (ne ▸ z)) fun _ _ e => e)
    | exact wpAny_bind (wpAny_pure (wpAny_bind (wpAny_mono tl (fun r t z => by obtain ⟨rfl, z⟩ := z; exact wpAny_pure (ne ▸ z)) fun _ _ e => e)))
end
/-- not e, e a dict with tuple keys -/
def tNotW (ta : TE) : TE := fun σ H Q => ta σ H fun x H1 => ∃ (a : Addr) (kvs : List (List Key × V)), x = .ref a ∧ H1 a = some (.dT kvs) ∧ Q (.bl kvs.isEmpty) H1
theorem pe_notW {X : Cx} {a : Expr} {ta : TE} {pos : Pos} (ha : PE X a ta) : PE X (.UnaryOp .Not a pos) (tNotW ta) := by
  refine ⟨fun pins s σ H Q I h => ?_⟩
  refine UnaryOp_ (thn (ha.run pins s σ H _ I h) fun v s1 ⟨x, H1, I1, r1, p, kvs, ex, hp, q⟩ => ?_)
  subst ex
  obtain rfl : v = .ref p := r1
  obtain ⟨z, hd, ys, rel, dd⟩ := dt_of I1.hok hp
  have hl : kvs.length = ys.length := Paired.length rel
  have he : (!ys.isEmpty) = !kvs.isEmpty := by
    cases kvs <;> cases ys <;> first | rfl | (simp at hl)
  refine not_of (truth_dictH hd dd (by rw [← hl]; rw [sizeLine_eq] at z; omega) fun t et => ?_)
  rw [et, he]
  exact ⟨.bl (!(!kvs.isEmpty)), H1, I1.tok _, rfl, by rw [Bool.not_not]; exact q⟩
end Own
/-! OwnH: a walk whose turn is any statement of the heap; the second source of a comprehension. -/
namespace Own
open PySem PySem.Spec PyProof.Rows L2
theorem out_it {J : It} {n : Nat} {G : Hp → Prop} {Y : Nat → Hp → V → Hp → Prop} (w : Walk J n G Y) {S : Hp} {Qd : Hp → Prop} {B : (Hp → Prop) → V → Hp → Prop} (Pv : Nat → Hp → Prop) (h0 : Pv 0 S) (hG : ∀ i H, i ≤ n → Pv i H → G H)
    (hs : ∀ i x H H', i < n → Pv i H → Y i H x H' → B (Pv (i + 1)) x H') (hd : ∀ H, Pv n H → Qd H) :
    ∃ W : Nat → Nat → Hp → Prop, (∃ m, W 0 m S) ∧ ∀ i m H, W i m H → (J.stop i H ∧ Qd H) ∨ (J.go i H ∧ ∃ Nx : Hp → Prop, (∀ H', Nx H' → ∃ m', m' < m ∧ W (i + 1) m' H') ∧ ∀ x H', J.yld i H x H' → B Nx x H') := by
  refine ⟨fun i m H => m + i = n ∧ Pv i H, ⟨n, rfl, h0⟩, fun i m H hw => ?_⟩
  obtain ⟨hm, p⟩ := hw
  have hi : i ≤ n := by omega
  have q := hG i H hi p
  by_cases hlt : i < n
  · refine .inr ⟨w.goes i H hlt q, Pv (i + 1), fun H' p' => ⟨n - (i + 1), by omega, by omega, p'⟩, fun x H' y => ?_⟩
    exact hs i x H H' hlt p (w.yields i H x H' hlt q y)
  · have e : i = n := by omega
    subst e
    exact .inl ⟨w.stops H q, hd H p⟩
end Own
/-! tuples whose objects are known to have no dict: tuple(l) makes them, their methods can be called -/
namespace Own
open PySem PySem.Spec PyProof.Rows L2
def IxT (H : Hp) (a : Addr) (xs : List V) : Prop := ∃ o : Obj, H a = some (.frz o (.tup xs)) ∧ o.cls = .type "tuple" ∧ o.dict = none
theorem IxT.sq {K : PySem.W.Frag} {H : Hp} {a : Addr} {xs : List V} (h : IxT H a xs) : SqT K H a xs := by
  obtain ⟨o, h, _⟩ := h
  exact .inl (.inr ⟨o, h⟩)
section
variable {X : Cx}
/-- tuple(l), l a list -/
def rTupIx (K : PySem.W.Frag) : List V → Hp → VK → Prop := fun xs H Q => ∃ p ys, xs = [.ref p] ∧ SqL K H p ys ∧ ∀ l o, H l = none → o.cls = .type "tuple" → o.dict = none → Q (.ref l) (upd H l (.frz o (.tup ys)))
theorem call_tuple_ix : CallR X (.type "tuple") (rTupIx X.K) := by
  intro pins s σ H xs us Q I r h
  obtain ⟨p, ys, rfl, hq, q⟩ := h
  obtain ⟨u, rfl, rx⟩ := vals1 r
  cases rx
  obtain ⟨its, r', pl, hz⟩ := I.list hq
  have hlen := r'.length
  refine call_tuple_list pl.isList (fun h' kp => ?_) (by simp only [List.size_toArray] <;> omega)
  have I1 : Inv X pins σ H { s with heap := h' } := I.kept (t' := s.toks) kp
  have I2 : Inv X pins σ (upd H h'.objs.size (.frz { cls := .type "tuple", data := .seq its.toArray } (.tup ys))) { s with heap := h'.push { cls := .type "tuple", data := .seq its.toArray } } :=
    I1.laid (t' := s.toks) (fun b o e => Heap.get?_push_of_some _ e) (Nat.le_refl _) (show ObjOk X.prog X.w _ _ _ (.frz _ (.tup ys)) from ⟨Heap.get?_push_size _ rfl, hz, its, r', IsTup.new _ _⟩)
  exact ⟨.ref h'.objs.size, _, I2, rfl, q _ _ (I1.hok.fresh (Nat.le_refl _)) rfl rfl⟩
theorem ix_ty {pins : List (Addr × Obj)} {σ : L2.St} {H : Hp} {s : Shared} {x : V} {v : Value} (I : Inv X pins σ H s) (r : RelV x v) (ty : ∃ a xs, x = .ref a ∧ IxT H a xs) :
    s.TypeIs v "tuple" ∧ ∀ a, v = .ref a → ∃ ob, s.heap.get? a = some ob ∧ ob.dict = none := by
  obtain ⟨a, xs, rfl, o, h, hc, hd⟩ := ty
  cases (show v = Value.ref a from r)
  obtain ⟨g, _⟩ := (show ObjOk X.prog X.w H s.heap a (.frz o (.tup xs)) from I.hok a _ h)
  exact ⟨⟨o, g, hc⟩, fun b e => by cases e; exact ⟨o, g, hd⟩⟩
def rTIx (K : PySem.W.Frag) : V → List V → Hp → VK → Prop := fun x xs H Q => ∃ p, ∃ ys : List Str, ∃ z j, x = .ref p ∧ xs = [.str z] ∧ SqT K H p (ys.map V.str) ∧ ys[j]? = some z ∧ (∀ m, m < j → ys[m]? ≠ some z) ∧ Q (.int (j : Nat)) H
theorem mt_tix : MtR X "tuple.index" (rTIx X.K) := mt_tup_index
def tTM (r : V → List V → Hp → VK → Prop) (to : TE) (t : TA) : TE := fun σ H Q => to σ H fun x H1 => (∃ a xs, x = .ref a ∧ IxT H1 a xs) ∧ t σ H1 fun xs H2 => r x xs H2 Q
theorem pe_tm {o e : Expr} {es : List Expr} {to : TE} {t : TA} {name : Str} {apos cpos : Pos} {id : String} {r : V → List V → Hp → VK → Prop} (slot : Slot "tuple" name id) (hty : typeOf (.builtin id) = pure (.type "method_descriptor")) (hm : MtR X id r) (ho : PE X o to) (ha : PA X (e :: es) t)
    (hbase : attributeBase o name X.env (eval o X.env) = eval o X.env := by rfl)
    (hfew : ((backTo cpos (starEach (e :: es) X.env)).all (fun x => !x.1) && (backToKw cpos (keywordEach [] X.env)).all (fun x => x.1.isSome)
      && decide ((e :: es).length + ([] : List Keyword).length + (if ([] : List Keyword).isEmpty then 0 else 1) < 30)) = true := by rfl)
    (hline : (apos.endLine == cpos.line) = true := by rfl) (hs : starEach (e :: es) X.env = (false, eval e X.env) :: starEach es X.env := by rfl) (hplain : (backTo cpos (starEach es X.env)).any (·.1) = false := by rfl) :
    PE X (.Call (.Attribute o name apos) (e :: es) [] cpos) (tTM r to t) := by
  refine ⟨fun pins s σ H Q I h => ?_⟩
  refine wpAny_Call_method_late hbase hfew hline rfl (thn (ho.run pins s σ H _ I h) fun v s1 ⟨x, H1, I1, r1, ty, q1⟩ => ?_)
  obtain ⟨h1, h2⟩ := ix_ty I1 r1 ty
  refine ⟨"tuple", id, PySem.F.plainAttrs_tuple, slot, hty, h1, h2, ?_⟩
  have hA := ha.run cpos pins s1 σ H1 _ I1 q1
  rw [hs] at hA ⊢
  refine Calls.callWith_builtin (by show (false || (backTo cpos (starEach es X.env)).any (·.1)) = false; rw [hplain] <;> rfl) (Calls.evalArgs_plain ?_)
  exact thn hA fun us s2 ⟨vs, H2, I2, r2, q2⟩ => hm pins s2 σ H2 x vs v us Q I2 r1 r2 q2
end
end Own
/-! tuples without a dict, made by displays, slices, sums, of a list, of a text; a dict against a text -/
namespace PySem.SeqAt
open AutoSeq1 (wpAny_loadPart')
open MeetsSeq
theorem dict_eq_declines_str (l : Addr) (es : Array DictEntry) (n : Nat) (dd : Option Addr) (sl : Array (Option Value)) (b : Str) (u : Tok) :
    Meets (Builtin.«dict.__eq__» ⟨[.ref l, .str b u], []⟩) (fun _ R s => s.heap.get? l = some { cls := .type "dict", dict := dd, data := .dict es n, slots := sl } ∧ R (.ok (.ret .notImplemented)) s) :=
  .of_wp fun prog w A R s h => by obtain ⟨hp, g, d, tk, os⟩ := s; obtain ⟨hl, h⟩ := h; have f1 := F.sub_str_dict; wp_walk using wpAny_loadPart' hl, wpAny_load hl; exact ⟨_, rfl, h⟩
theorem str_eq_declines_dict_str (b : Str) (u : Tok) (l : Addr) (es : Array DictEntry) (n : Nat) (dd : Option Addr) (sl : Array (Option Value)) :
    Meets (Builtin.«str.__eq__» ⟨[.str b u, .ref l], []⟩) (fun _ R s => s.heap.get? l = some { cls := .type "dict", dict := dd, data := .dict es n, slots := sl } ∧ R (.ok (.ret .notImplemented)) s) :=
  .of_wp fun prog w A R s h => by obtain ⟨hp, g, d, tk, os⟩ := s; obtain ⟨hl, h⟩ := h; wp_walk using wpAny_loadPart' hl, wpAny_load hl; exact ⟨_, rfl, h⟩
section
variable {A : Around} {s : Shared}
theorem RcAt.dict_str {l : Addr} {o : Obj} {es : Array DictEntry} {n : Nat} (b : Str) (u : Tok) (hl : s.heap.get? l = some o) (hc : o.cls = .type "dict") (hd : o.data = .dict es n) (hu : A.units < cLine) : RcAt A s (.ref l) (.str b u) false := fun prog w E Q h => by
  obtain ⟨cls, dd, data, sl⟩ := o
  simp only at hc hd
  subst hc hd
  exact rc_eq_decline_or (k := false) ⟨_, hl, rfl⟩ (typeIs_str s b u) (by decide) F.sub_str_dict F.slot_dict_eq F.slot_str_eq_refl
    (fun _ hq => call_meets F.slot_dict_eq ⟨_, hl, rfl⟩ F.entry_dict_eq (F.args_dict_eq_2 _ _) (dict_eq_declines_str l es n dd sl b u) ⟨hl, hq⟩)
    (fun _ hq => call_meets F.slot_str_eq_refl (typeIs_str s b u) F.entry_str_eq (F.args_str_eq_2 _ _) (str_eq_declines_dict_str b u l es n dd sl) ⟨hl, hq⟩)
    (fun _ hq => wpAny_of_eq (rfl : isSame (.ref l) (.str b u) = pure false) hq) (.inr hu) h
theorem EqAt.dict_str {l : Addr} {o : Obj} {es : Array DictEntry} {n : Nat} (b : Str) (u : Tok) (hl : s.heap.get? l = some o) (hc : o.cls = .type "dict") (hd : o.data = .dict es n) (hu : A.units < cLine) : EqAt A s (.ref l) (.str b u) false := fun prog w E Q h => by
  unfold eqBool
  refine wpAny_holding ?_
  refine wpAny_ite_split (fun hab => absurd (eq_of_beq hab) nofun) (fun _ => ?_)
  exact wpAny_bind (RcAt.dict_str b u hl hc hd hu prog w E _ (wpAny_truthy_bool h))
end
end PySem.SeqAt
namespace Own
open PySem PySem.Spec PyProof.Rows L2
/-! ### t[::-1] -/
section
open HT
variable {prog : Program} {w : World} {A : Around} {E : Value → Shared → Prop} {s : Shared}
theorem sliceApplied_back {sl : Addr} {t : Tok} {n : Nat} {Q : Int × Int × Nat → Shared → Prop} (hs : s.heap.IsSliceOf sl .none .none (.int (-1) t))
    (h : Q ((n : Int) - 1, -1, n) s) : wpAny (model prog w) A (Builtin.Slice.sliceApplied (.ref sl) (pure (n : Int))) Q E s := by
  obtain ⟨os, hos, hcs, hds⟩ := id hs
  unfold Builtin.Slice.sliceApplied Builtin.Slice.sliceFields
  refine wpAny_bind (wpAny_bind (wpAny_field hos hds (x := .none) rfl (wpAny_bind (wpAny_field hos hds (x := .none) rfl (wpAny_bind (wpAny_field hos hds (x := .int (-1) t) rfl (wpAny_pure ?_)))))))
  refine wpAny_bind (slicePart_int ?_)
  show wpAny _ _ (if ((-1 : Int) == 0) = true then _ else _) _ _ s
  rw [if_neg (by decide)]
  refine wpAny_bind (slicePart_none (wpAny_bind (slicePart_none (wpAny_bind (wpAny_pure ?_)))))
  show wpAny _ _ (pure ((n : Int) - 1, (-1 : Int), Builtin.Slice.slicePlaces ((n : Int) - 1) (-1) (-1))) _ _ s
  have e : Builtin.Slice.slicePlaces ((n : Int) - 1) (-1) (-1) = n := by
    unfold Builtin.Slice.slicePlaces
    have h1 : ¬ ((-1 : Int) > 0) := by decide
    simp only [h1, if_false]
    rw [show (- -1 : Int) = 1 by decide, Int.ediv_one]
    split <;> omega
  rw [e]
  exact wpAny_pure h
theorem pick_back (xs : Array Value) : ((List.range xs.size).filterMap fun (m : Nat) => xs[((xs.size : Int) - 1 + (m : Int) * -1).toNat]?).toArray = xs.toList.reverse.toArray := by
  have e : ((List.range xs.size).filterMap fun (m : Nat) => xs[((xs.size : Int) - 1 + (m : Int) * -1).toNat]?) = ((List.range xs.size).map fun k => xs.size - 1 - k).filterMap (xs[·]?) := by
    rw [List.filterMap_map]
    have z : ∀ l : List Nat, (∀ m ∈ l, m < xs.size) → (l.filterMap fun (m : Nat) => xs[((xs.size : Int) - 1 + (m : Int) * -1).toNat]?) = l.filterMap ((fun x => xs[x]?) ∘ fun k => xs.size - 1 - k) := by
      intro l
      induction l with
      | nil => exact fun _ => rfl
      | cons m r ih =>
        intro h
        have hm := h m List.mem_cons_self
        have e : ((xs.size : Int) - 1 + (m : Int) * -1).toNat = xs.size - 1 - m := by omega
        rw [List.filterMap_cons, List.filterMap_cons, e, ih fun k hk => h k (List.mem_cons_of_mem _ hk)]
        rfl
    exact z _ fun m hm => List.mem_range.mp hm
  rw [e, PySem.W.krv_range, List.filterMap_reverse, PySem.W.krv_all]
theorem getItem_tuple_back {t sl : Addr} {items : Array Value} {tk : Tok} {Q : Value → Shared → Prop} (ht : IsTup s.heap t items) (hs : s.heap.IsSliceOf sl .none .none (.int (-1) tk))
    (h : Q (.ref s.heap.objs.size) { s with heap := s.heap.push { cls := .type "tuple", data := .seq items.toList.reverse.toArray } })
    (hsz : items.size ≤ sizeLine) : wpAny (model prog w) A (getItem (.ref t) (.ref sl)) Q E s := by
  have htake : sizeOk (.seq items.toList.reverse.toArray) := by
    show items.toList.reverse.toArray.size ≤ sizeLine
    rw [List.size_toArray, List.length_reverse, Array.length_toList]
    omega
  obtain ⟨os, hos, hcs, hds⟩ := id hs
  have hTs : s.TypeIs (.ref sl) "slice" := ⟨os, hos, hcs⟩
  unfold getItem
  try with_reducible refine wpAny_holding ?_
  first | refine wpAny_bind (wpAny_pure ?_) | skip
  refine wpAny_bind (wpAny_sequenceKey ht.typeIs (by decide) ?_)
  refine wpAny_bind (wpAny_callSpecial?_slot (name := Str.ofString "__getitem__") ht.typeIs PyProof.Rows.slot_tuple_getitem
    (wpAny_call_entry PyProof.Rows.slot_tuple_getitem ht.typeIs entry_tuple_getitem ?_ (args_tuple_getitem _ _)))
  show wpAny _ _ (Builtin.Tuple.tupleItemsOf (.ref t) >>= _) _ _ s
  refine wpAny_bind (tupleItemsOf_ ht ?_)
  refine wpAny_bind (wpAny_typeOf hTs ?_)
  rw [if_pos (by decide)]
  refine wpAny_bind (sliceApplied_back hs ?_)
  have hno : ¬ ((((items.size : Int) - 1) == 0 && (-1 : Int) == 1 && items.size == items.size) = true) := by
    intro q
    rw [Bool.and_eq_true, Bool.and_eq_true] at q
    exact absurd q.1.2 (by decide)
  show wpAny _ _ (if ((((items.size : Int) - 1) == 0 && (-1 : Int) == 1 && items.size == items.size) = true) then _ else _) _ _ s
  rw [if_neg hno, pick_back]
  first
    | exact wpAny_bind (m := Builtin.Tuple.tupleExact _) (wpAny_newObj_type (wpAny_pure ⟨_, rfl, wpAny_pure h⟩) htake)
    | exact wpAny_bind (m := Builtin.Tuple.tupleExact _) (wpAny_newObj_type (wpAny_bind (wpAny_pure (wpAny_pure ⟨_, rfl, wpAny_pure h⟩))) htake)
    | exact wpAny_bind (wpAny_bind (m := Builtin.Tuple.tupleExact _) (wpAny_newObj_type (wpAny_pure (wpAny_pure ⟨_, rfl, wpAny_pure h⟩)) htake))
    | exact wpAny_bind (wpAny_bind (m := Builtin.Tuple.tupleExact _) (wpAny_newObj_type (wpAny_pure ⟨_, rfl, wpAny_pure h⟩) htake))
end
/-! ### the rules -/
/-- a tuple ys stands at some p, all else as before -/
def Got (H : Hp) (ys : List V) (Q : VK) : Prop := ∀ p H', Same H H' → IxT H' p ys → Q (.ref p) H'
theorem Got.here {H : Hp} {a : Addr} {ys : List V} {Q : VK} (g : Got H ys Q) (h : IxT H a ys) : Q (.ref a) H := g a H (Same.refl H) h
theorem Got.new {H : Hp} {p : Addr} {ys : List V} {o : Obj} {Q : VK} (g : Got H ys Q) (h : H p = none) (hc : o.cls = .type "tuple") (hd : o.dict = none) : Q (.ref p) (upd H p (.frz o (.tup ys))) :=
  g p _ (fun b u e => by rw [upd_ne (ne_of_none e h)]; exact e) ⟨o, upd_same, hc, hd⟩
section
variable {X : Cx} {es : List Expr} {t : TA} {pos : Pos}
theorem laidF {pins : List (Addr × Obj)} {σ : L2.St} {H : Hp} {s : Shared} {ys : List V} {us : List Value} {Q : VK} (I : Inv X pins σ H s) (r : Vals ys us) (hz : ys.length ≤ sizeLine) (q : Got H ys Q) :
    EP X pins σ Q (.ref s.heap.objs.size) { s with heap := s.heap.push { cls := .type "tuple", data := .seq us.toArray } } := by
  have I2 : Inv X pins σ (upd H s.heap.objs.size (.frz { cls := .type "tuple", data := .seq us.toArray } (.tup ys))) { s with heap := s.heap.push { cls := .type "tuple", data := .seq us.toArray } } :=
    I.laid (t' := s.toks) (fun b o e => Heap.get?_push_of_some _ e) (Nat.le_refl _) (show ObjOk X.prog X.w _ _ _ (.frz _ (.tup ys)) from ⟨Heap.get?_push_size _ rfl, hz, us, r, IsTup.new _ _⟩)
  exact ⟨.ref s.heap.objs.size, _, I2, rfl, q.new (I.hok.fresh (Nat.le_refl _)) rfl rfl⟩
def tTupF (t : TA) : TE := fun σ H Q => t σ H fun xs H1 => xs.length ≤ sizeLine ∧ Got H1 xs Q
theorem pe_tupF {x1} (h : PA X es t) : PE X (.Tuple es x1 pos) (tTupF t) := by
  refine ⟨fun pins s σ H Q I hq => ?_⟩
  refine wpAny_Tuple_spliced (thn (h.run pos pins s σ H _ I hq) fun us s1 ⟨xs, H1, I1, r, z, q⟩ => ⟨by rw [← r.length]; exact z, ?_⟩)
  exact laidF I1 r z q
/-- t[lo:hi] -/
def rSlF (K : PySem.W.Frag) : V → Option Int → Option Int → Hp → VK → Prop := fun x lo hi H Q => ∃ a xs, x = .ref a ∧ IxT H a xs ∧ Got H (cutV xs lo hi) Q
theorem cutV_whole {xs : List V} {lo hi : Option Int} (h : HT.sIx xs.length 0 lo = 0 ∧ HT.sIx xs.length xs.length hi = xs.length) : cutV xs lo hi = xs := by
  unfold cutV
  rw [h.1, h.2, List.drop_zero, Nat.sub_zero, List.take_length]
theorem sl_tupF : SlR X (rSlF X.K) := by
  intro pins s σ H x v vl vu lo hi sl Q I rx hs pl pu h
  obtain ⟨a, xs, rfl, hx, q⟩ := h
  cases rx
  obtain ⟨its, r, ht, hz⟩ := I.tuple hx.sq
  have hlen : its.toArray.size = xs.length := by rw [List.size_toArray]; exact r.length.symm
  refine ⟨"tuple", _, PyProof.Rows.slot_tuple_getitem.lookup, ht.typeIs, ?_⟩
  by_cases hw : HT.sIx xs.length 0 lo = 0 ∧ HT.sIx xs.length xs.length hi = xs.length
  · rw [cutV_whole hw] at q
    exact getItem_tuple_whole ht hs pl pu (by rw [hlen]; exact hw) ⟨.ref a, H, I, rfl, q.here hx⟩
  · refine HT.getItem_tuple_cut ht hs pl pu (by rw [hlen]; exact hw) ?_ (by rw [hlen]; exact hz)
    rw [hlen]
    exact laidF I ((r.drop (HT.sIx xs.length 0 lo)).take (HT.sIx xs.length xs.length hi - HT.sIx xs.length 0 lo)) (Nat.le_trans (cutV_length xs lo hi) hz) q
/-- t[::-1] -/
def tBackF (te : TE) : TE := fun σ H Q => te σ H fun x H1 => ∃ a xs, x = .ref a ∧ IxT H1 a xs ∧ Got H1 xs.reverse Q
theorem pe_backF {e : Expr} {te : TE} {p1 p2 p3 pos : Pos} {j : Nat} (he : PE X e te) : PE X (.Subscript e (.Slice none none (some (.UnaryOp .USub (.Constant (.int 1) j p1) p2)) p3) pos) (tBackF te) := by
  refine ⟨fun pins s σ H Q I h => ?_⟩
  refine Subscript_ (thn (he.run pins s σ H _ I h) fun v s1 ⟨x, H1, I1, r1, a, xs, ex, hx, q1⟩ => ?_)
  subst ex
  cases r1
  refine wpAny_Slice (thn (po_none.run pins s1 σ H1 (fun o H2 => o = none ∧ H2 = H1) I1 ⟨rfl, rfl⟩) fun vl s2 ⟨l, H2, I2, pl, el, e2⟩ => ?_)
  subst el e2
  refine thn (po_none.run pins s2 σ H2 (fun o H3 => o = none ∧ H3 = H2) I2 ⟨rfl, rfl⟩) fun vu s3 ⟨u, H3, I3, pu, eu, e3⟩ => ?_
  subst eu e3
  have hst : PO X (some (.UnaryOp .USub (.Constant (.int 1) j p1) p2)) (tPart (tUn (rU fun i => .int (-i)) (tC (.int 1)))) := po_some (pe_un un_neg pe_int)
  refine thn (hst.run pins s3 σ H3 (fun o H4 => o = some (-1) ∧ H4 = H3) I3 ⟨1, rfl, -1, rfl, rfl, rfl⟩) fun vs s4 ⟨o, H4, I4, ps, eo, e4⟩ => ?_
  subst eo e4
  cases pl
  cases pu
  obtain ⟨tk, rfl⟩ : ∃ tk, vs = Value.int (-1) tk := by cases ps; exact ⟨_, rfl⟩
  have I5 : Inv X pins σ H4 { s4 with heap := s4.heap.push { cls := .type "slice", data := .fields #[.none, .none, .int (-1) tk] } } := I4.kept (t' := s4.toks) fun b ob q => Heap.get?_push_of_some _ q
  obtain ⟨its, r, ht, hz⟩ := I5.tuple hx.sq
  have hlen := r.length
  show wpAny (model X.prog X.w) X.A (subscriptTail e (.Slice none none (some (.UnaryOp .USub (.Constant (.int 1) j p1) p2)) p3) (.ref a) (.ref s4.heap.objs.size)) (EP X pins σ Q) X.xe { s4 with heap := s4.heap.push { cls := .type "slice", data := .fields #[.none, .none, .int (-1) tk] } }
  refine tail_any (ops := [.ref a, .ref s4.heap.objs.size]) ht.typeIs (PyProof.Rows.slot_tuple_getitem.lookup) ?_ (by with_unfolding_all rfl)
  refine getItem_tuple_back ht (Heap.IsSliceOf.new _ .none .none (.int (-1) tk)) ?_ (by rw [List.size_toArray]; omega)
  exact laidF I5 r.reverse (by rw [List.length_reverse]; exact hz) q1
/-- t + u -/
def rCatF (K : PySem.W.Frag) : R2 := fun x y H Q => ∃ a b xs ys, x = .ref a ∧ y = .ref b ∧ IxT H a xs ∧ IxT H b ys ∧ xs.length + ys.length ≤ sizeLine ∧ Got H (xs ++ ys) Q
theorem op_catF : OpR X (binaryOp .Add) (rCatF X.K) := by
  intro pins s σ H x y v u Q I rx ry h
  obtain ⟨a, b, xs, ys, rfl, rfl, ha, hb, hz, q⟩ := h
  by_cases hx : xs = []
  · exact op_catA pins s σ H _ _ v u Q I rx ry ⟨a, b, xs, ys, rfl, rfl, ha.sq, hb.sq, hz, fun e => q.here (by rw [e]; exact hb), fun n => absurd hx n, fun n => absurd hx n⟩
  by_cases hy : ys = []
  · exact op_catA pins s σ H _ _ v u Q I rx ry ⟨a, b, xs, ys, rfl, rfl, ha.sq, hb.sq, hz, fun e => absurd e hx, fun _ e => q.here (by rw [e, List.append_nil]; exact ha), fun _ n => absurd hy n⟩
  cases rx
  cases ry
  obtain ⟨its, r1, p1, _⟩ := I.tuple ha.sq
  obtain ⟨its2, r2, p2, _⟩ := I.tuple hb.sq
  refine HT.cat_tup p1 p2 (fun z => hx (r1.nil_iff.mp z)) (fun z => absurd (r2.nil_iff.mp z) hy) (fun z => ?_) (by rw [← r1.length, ← r2.length]; exact hz)
  exact laidF I (r1.append r2) (by rw [List.length_append]; exact hz) q
/-- tuple(l), tuple(text) -/
def rTupL (K : PySem.W.Frag) : List V → Hp → VK → Prop := fun xs H Q => ∃ p ys, xs = [.ref p] ∧ SqL K H p ys ∧ Got H ys Q
theorem call_tupL : CallR X (.type "tuple") (rTupL X.K) := by
  intro pins s σ H xs us Q I r h
  obtain ⟨p, ys, rfl, hq, q⟩ := h
  exact call_tuple_ix pins s σ H _ us Q I r ⟨p, ys, rfl, hq, fun l o hl hc hd => q.new hl hc hd⟩
end
end Own
/-! OwnI: a def with the cell __class__ and cells of its own (parameters that a comprehension reads). -/
namespace Own
open PySem PySem.Spec PyProof.Rows L2 NdefX ClX StX
theorem cells_acc : ∀ (names : List (Str × NameKind)) (n : Nat) (acc : List (Str × Addr)), cellsFrom n names acc = cellsFrom n names [] ++ acc
  | [], _, _ => rfl
  | (x, k) :: r, n, acc => by
    unfold cellsFrom
    split
    · rw [cells_acc r (n + 1) ((x, n) :: acc), cells_acc r (n + 1) [(x, n)], List.append_assoc]
      rfl
    · exact cells_acc r n acc
section
variable {M : Model} {A : Around} {E : Value → Shared → Prop} {s₀ s : Shared} {m cm : Str → Option Value} {env : Env} {cs : List (Str × Addr)}
theorem put_local {n : Str} {v : Value} {Q : Unit → Shared → Prop} (x : InCallC s₀ env.locals m cs cm s) (hk : env.scope.kind = .function) (hl : env.kindOf n = some .local) (q : ∀ t, InCallC s₀ env.locals (fun y => if y = n then some v else m y) cs cm t → Q () t) :
    wpAny M A (storeName env n v) Q E s := by
  have old := x.toInCall.fresh
  obtain ⟨g, tk, es⟩ := x.toInCall.same
  refine wpAny_storeName_local hl x.toInCall.ns (fun h' hn sb => q _ ⟨⟨?_, hn, ?_, old⟩, ?_, x.apart, x.above⟩) (by rw [hk]; rfl)
  · rw [es]
    exact ⟨h', _, rfl⟩
  · intro b o e
    have lt := Nat.lt_of_lt_of_le (Heap.lt_size e) old
    exact sb.extBut b o (Nat.ne_of_lt lt) (x.toInCall.keep b o e)
  · intro k c e
    have ab := x.above k c (mem_of_lookup e)
    exact (x.cell k c e).sameBut sb (Nat.ne_of_gt ab)
theorem put_cell {n : Str} {c : Addr} {v : Value} {Q : Unit → Shared → Prop} (x : InCallC s₀ env.locals m cs cm s) (hk : env.scope.kind = .function) (hl : env.kindOf n = some .cell) (hc : env.cells.lookup n = some c) (hc' : cs.lookup n = some c)
    (q : ∀ t, InCallC s₀ env.locals m cs (fun y => if y = n then some v else cm y) t → Q () t) : wpAny M A (storeName env n v) Q E s := by
  have ab := x.above n c (mem_of_lookup hc')
  obtain ⟨g, tk, es⟩ := x.toInCall.same
  refine wpAny_storeName_cell hk hl hc (x.cell n c hc') fun h' hn sb => q _ ⟨⟨?_, ?_, ?_, x.toInCall.fresh⟩, ?_, x.apart, x.above⟩
  · rw [es]
    exact ⟨h', _, rfl⟩
  · exact x.toInCall.ns.sameBut sb (Nat.ne_of_lt ab)
  · intro b o e
    have lt := Nat.lt_trans (Nat.lt_of_lt_of_le (Heap.lt_size e) x.toInCall.fresh) ab
    exact sb.extBut b o (Nat.ne_of_lt lt) (x.toInCall.keep b o e)
  · intro k d e
    by_cases hkn : k = n
    · subst hkn
      rw [hc'] at e
      cases e
      rw [if_pos rfl]
      exact hn
    · rw [if_neg hkn]
      refine (x.cell k d e).sameBut sb fun z => ?_
      rw [z] at e
      exact hkn (name_of_addr x.apart (mem_of_lookup e) (mem_of_lookup hc'))
theorem put_all (f : Str × Value → PUnit → Sem (ForInStep PUnit)) (hf : ∀ n v u, f (n, v) u = (do storeName env n v; pure (.yield ⟨⟩))) (hk : env.scope.kind = .function) (sub : ∀ n c, cs.lookup n = some c → env.cells.lookup n = some c) :
    ∀ (bs : List (Str × Value)) (m cm : Str → Option Value) (s : Shared) (Q : PUnit → Shared → Prop), InCallC s₀ env.locals m cs cm s → (∀ x ∈ bs, env.kindOf x.1 = some .local ∨ (env.kindOf x.1 = some .cell ∧ ∃ c, cs.lookup x.1 = some c)) →
      (∀ t, InCallC s₀ env.locals (bindL env.kindOf bs m) cs (bindC env.kindOf bs cm) t → Q ⟨⟩ t) → wpAny M A (forIn bs ⟨⟩ f) Q E s
  | [], m, cm, s, Q, x, _, q => by
    rw [List.forIn_nil]
    exact wpAny_pure (q s x)
  | (n, v) :: r, m, cm, s, Q, x, kinds, q => by
    have tl : ∀ y ∈ r, env.kindOf y.1 = some .local ∨ (env.kindOf y.1 = some .cell ∧ ∃ c, cs.lookup y.1 = some c) := fun y hy => kinds y (List.mem_cons_of_mem _ hy)
    rw [List.forIn_cons, hf]
    rcases kinds (n, v) List.mem_cons_self with hl | ⟨hl, c, hc⟩
    · refine wpAny_bind (wpAny_bind (put_local x hk hl fun t y => wpAny_pure (put_all f hf hk sub r _ _ t Q y tl fun u z => q u ?_)))
      rw [show bindL env.kindOf ((n, v) :: r) m = _ from rfl, show bindC env.kindOf ((n, v) :: r) cm = _ from rfl]
      unfold bindL bindC
      rw [if_pos hl, if_pos hl]
      exact z
    · have nl : ¬ env.kindOf n = some .local := by rw [hl]; decide
      refine wpAny_bind (wpAny_bind (put_cell x hk hl (sub n c hc) hc fun t y => wpAny_pure (put_all f hf hk sub r _ _ t Q y tl fun u z => q u ?_)))
      unfold bindL bindC
      rw [if_neg nl, if_neg nl]
      exact z
end
theorem look_app {α : Type} : ∀ {l r : List (Str × α)} {n : Str} {c : α}, l.lookup n = some c → (l ++ r).lookup n = some c
  | (k, v) :: l, r, n, c, h => by
    rw [List.lookup_cons] at h
    rw [List.cons_append, List.lookup_cons]
    cases hb : n == k with
    | true => rw [hb] at h; exact h
    | false =>
      rw [hb] at h
      exact look_app h
/-- its names: the parameters, then __class__, then its locals; parameters may be cells -/
structure DScope (N ps : List Str) (sc : Scope) : Prop where
  kind : sc.kind = .function
  co : sc.isCoroutine = false
  gen : sc.isGenerator = false
  nd : N.Nodup
  pre : N.take (ps.length + 1) = ps ++ (["__class__"] : List Str)
  par : ∀ x ∈ ps, sc.names.lookup x = some .local ∨ sc.names.lookup x = some .cell
  free : ∀ y ∈ sc.names, y.2 = .free → y.1 = "__class__"
  frk : sc.names.lookup ("__class__" : Str) = some .free
  noc : ∀ y ∈ sc.names, y.2 = .cell → y.1 ≠ "__class__"
def dscB (N ps : List Str) (sc : Scope) : Bool :=
  decide (sc.kind = .function) && !sc.isCoroutine && !sc.isGenerator && decide N.Nodup && decide (N.take (ps.length + 1) = ps ++ (["__class__"] : List Str)) && ps.all (fun x => decide (sc.names.lookup x = some .local) || decide (sc.names.lookup x = some .cell)) && sc.names.all (fun y => !decide (y.2 = .free) || decide (y.1 = "__class__")) && decide (sc.names.lookup ("__class__" : Str) = some .free) && sc.names.all (fun y => !decide (y.2 = .cell) || decide (y.1 ≠ "__class__"))
theorem dscope_by {N ps : List Str} {sc : Scope} (h : dscB N ps sc = true) : DScope N ps sc := by
  unfold dscB at h
  simp only [Bool.and_eq_true, Bool.not_eq_true', decide_eq_true_eq, List.all_eq_true, Bool.or_eq_true, decide_eq_false_iff_not] at h
  obtain ⟨⟨⟨⟨⟨⟨⟨⟨h1, h2⟩, h3⟩, h4⟩, h5⟩, h6⟩, h7⟩, h8⟩, h9⟩ := h
  exact ⟨h1, h2, h3, h4, h5, h6, fun y hy e => (h7 y hy).elim (fun z => absurd e z) id, h8, fun y hy e => (h9 y hy).elim (fun z => absurd e z) id⟩
abbrev envD (F : NF) (f L : Addr) : Env := PySem.W.envX F.qual F.scope L f (.ref F.c) (cellsFrom (L + 1) F.scope.names [] ++ F.cl)
def dcx (CX : CXT) (P : Program) (w : World) (K : PySem.W.Frag) (mg : Str → Option Value) (base : Heap) (N : List Str) (F : NF) (f : Addr) (A : Around) (outer : List Env) (s : Shared) (H : Hp) (E : XK) : Cx :=
  { ncx CX P w K mg base N F f A outer s H E with A := A.deeper (envD F f s.heap.objs.size), env := envD F f s.heap.objs.size, stack := envD F f s.heap.objs.size :: outer, xe := fun e s' => wpAny (model P w) (A.deeper (envD F f s.heap.objs.size)) (leaving (envD F f s.heap.objs.size) e) (fun _ s'' => CX outer H s E e s'') (fun e' s'' => CX outer H s E e' s'') s' }
section
variable {CX : CXT} {P : Program} {w : World} {K : PySem.W.Frag} {mg : Str → Option Value} {base : Heap} {N ps : List Str} {F : NF} {f cc D : Addr} {A : Around} {outer : List Env} {s s1 : Shared} {H : Hp} {E : XK} {us : List Value} {vs : List V}
theorem inv_startD (S : DScope N ps F.scope) (hd : A.handled = none) (e0 : Env0 P w K mg base A outer s H) (hl : vs.length = ps.length) (r : Vals vs us) (hcl : F.cl = [(("__class__" : Str), cc)]) (hc0 : H cc = none) (hc1 : s.heap.IsCell cc (some (.ref D)))
    (x : InCallC s s.heap.objs.size (bindL (envD F f s.heap.objs.size).kindOf (ps.zip us) fun _ => none) (cellsFrom (s.heap.objs.size + 1) F.scope.names []) (bindC (envD F f s.heap.objs.size).kindOf (ps.zip us) fun _ => none) s1) :
    Inv (dcx CX P w K mg base N F f A outer s H E) [] (startF N vs [some (.ref D)]) H s1 := by
  have hpl : ps.length + 1 ≤ N.length := by
    have q := congrArg List.length S.pre
    rw [List.length_take, List.length_append] at q
    have : (["__class__"] : List Str).length = 1 := rfl
    omega
  obtain ⟨h1, tk, rfl, hk⟩ := x.done
  have noA : ∀ b : Addr, b ∉ (dcx CX P w K mg base N F f A outer s H E).ex := fun b z => absurd (show b ∈ ([] : List Addr) from z) (by simp)
  have ccell : h1.IsCell cc (some (.ref D)) := by
    obtain ⟨o, ho, hd⟩ := hc1
    exact ⟨o, hk _ _ ho, hd⟩
  have cclt : cc < s.heap.objs.size := by
    obtain ⟨o, ho, _⟩ := hc1
    exact Heap.lt_size ho
  -- the two kinds of cells
  have split : ∀ y c, (cellsFrom (s.heap.objs.size + 1) F.scope.names [] ++ F.cl).lookup y = some c → (cellsFrom (s.heap.objs.size + 1) F.scope.names []).lookup y = some c ∨ (y = "__class__" ∧ c = cc) := fun y c e => by
    rw [List.lookup_append] at e
    cases q : (cellsFrom (s.heap.objs.size + 1) F.scope.names []).lookup y with
    | some d =>
      rw [q] at e
      exact .inl e
    | none =>
      rw [q, hcl] at e
      have e : ([(("__class__" : Str), cc)] : List (Str × Addr)).lookup y = some c := e
      rw [List.lookup_cons] at e
      cases hb : y == ("__class__" : Str) with
      | true =>
        rw [hb] at e
        cases e
        exact .inr ⟨beq_iff_eq.mp hb, rfl⟩
      | false =>
        rw [hb] at e
        cases e
  have noown : (cellsFrom (s.heap.objs.size + 1) F.scope.names []).lookup ("__class__" : Str) = none := by
    cases q : (cellsFrom (s.heap.objs.size + 1) F.scope.names []).lookup ("__class__" : Str) with
    | none => rfl
    | some d =>
      exfalso
      have z : ∀ (names : List (Str × NameKind)) (n : Nat) (acc : List (Str × Addr)) (y : Str) (d : Addr), (y, d) ∈ cellsFrom n names acc → (y, d) ∈ acc ∨ (y, NameKind.cell) ∈ names := by
        intro names
        induction names with
        | nil => exact fun n acc y d h => .inl h
        | cons p r ih =>
          obtain ⟨a, k⟩ := p
          intro n acc y d h
          unfold cellsFrom at h
          split at h
          · rename_i hkc
            rcases ih _ _ _ _ h with q | q
            · rcases List.mem_cons.mp q with q | q
              · cases q
                exact .inr (by rw [eq_of_beq hkc]; exact List.mem_cons_self)
              · exact .inl q
            · exact .inr (List.mem_cons_of_mem _ q)
          · rcases ih _ _ _ _ h with q | q
            · exact .inl q
            · exact .inr (List.mem_cons_of_mem _ q)
      rcases z _ _ _ _ _ (mem_of_lookup q) with q | q
      · cases q
      · exact S.noc _ q rfl rfl
  have mine : (cellsFrom (s.heap.objs.size + 1) F.scope.names [] ++ F.cl).lookup ("__class__" : Str) = some cc := by
    rw [List.lookup_append, noown, hcl]
    simp [List.lookup]
  have ab : ∀ y c, (cellsFrom (s.heap.objs.size + 1) F.scope.names []).lookup y = some c → s.heap.objs.size < c := fun y c e => x.above y c (mem_of_lookup e)
  refine ⟨⟨e0.mod, S.kind, rfl, rfl, Nat.le_refl _, fun y z c e1 e2 => ?_, fun y hy => ?_, fun y c z _ => ?_, fun _ => hd, Around.frames_deeper e0.frames, .inr ⟨rfl, rfl⟩, fun b z => absurd z (noA b), e0.bs, e0.bsz, fun b _ _ => noA b, fun b z => absurd z (noA b), e0.funs, e0.frf⟩,
    rfl, e0.bare, Un.kept hk, ⟨_, x.toInCall.ns, fun i y v e1 e2 e3 => ?_⟩, fun y c e => ?_, e0.hok.fresh (Nat.le_refl _), fun y c e => ?_, fun p hp => absurd (show p ∈ ([] : List (Addr × Obj)) from hp) (by simp), e0.hok.kept hk, ?_⟩
  · rcases split y c e1 with q1 | ⟨q1, q2⟩ <;> rcases split z c e2 with p1 | ⟨p1, p2⟩
    · exact name_of_addr x.apart (mem_of_lookup q1) (mem_of_lookup p1)
    · have := ab _ _ q1
      rw [p2] at this
      exact absurd (Nat.lt_trans cclt this) (Nat.lt_irrefl _)
    · have := ab _ _ p1
      rw [q2] at this
      exact absurd (Nat.lt_trans cclt this) (Nat.lt_irrefl _)
    · rw [q1, p1]
  · have hy : F.scope.names.lookup y = some .cell ∨ F.scope.names.lookup y = some .free := hy
    rcases hy with hy | hy
    · obtain ⟨c, e⟩ := cell_has (n := s.heap.objs.size + 1) hy
      exact ⟨c, look_app e⟩
    · have e : y = "__class__" := S.free _ (mem_of_lookup hy) rfl
      exact ⟨cc, by rw [e]; exact mine⟩
  · have z : false = true := z
    cases z
  · have e1 : N[i]? = some y := e1
    unfold startF at e2
    by_cases h1 : i < ps.length
    · have hq : (ps ++ (["__class__"] : List Str))[i]? = some y := by
        rw [← S.pre, List.getElem?_take_of_lt (by omega)]
        exact e1
      rw [List.getElem?_append_left h1] at hq
      rw [List.getElem?_append_left (by rw [List.length_map]; omega), List.getElem?_map] at e2
      obtain ⟨a, ha, ea⟩ := Option.map_eq_some_iff.mp e2
      cases ea
      obtain ⟨u, hu, rv⟩ := r.get ha
      have ndP : ps.Nodup := by
        have q := S.nd.sublist (List.take_sublist (ps.length + 1) N)
        rw [S.pre] at q
        exact (List.nodup_append.mp q).1
      refine ⟨u, rv, ?_⟩
      rcases S.par y (List.mem_of_getElem? hq) with k | k
      · exact .inl ⟨k, bindL_get ndP hq hu k⟩
      · obtain ⟨c, e⟩ := cell_has (n := s.heap.objs.size + 1) k
        refine .inr ⟨.inl k, c, look_app e, ?_⟩
        have q := x.cell y c e
        rw [bindC_get ndP hq hu (by show F.scope.names.lookup y ≠ _; rw [k]; decide)] at q
        exact q
    · rw [List.getElem?_append_right (by rw [List.length_map]; omega), List.length_map, hl] at e2
      by_cases h2 : i = ps.length
      · have hq : (ps ++ (["__class__"] : List Str))[i]? = some y := by
          rw [← S.pre, List.getElem?_take_of_lt (by omega)]
          exact e1
        rw [h2, List.getElem?_append_right (Nat.le_refl _), Nat.sub_self] at hq
        rw [h2, Nat.sub_self] at e2
        cases hq
        cases e2
        exact ⟨.ref D, rfl, .inr ⟨.inr S.frk, cc, mine, ccell⟩⟩
      · obtain ⟨j, hj⟩ : ∃ j, i - ps.length = j + 1 := ⟨i - ps.length - 1, by omega⟩
        rw [hj, List.singleton_append, List.getElem?_cons_succ, List.getElem?_replicate] at e2
        split at e2 <;> cases e2
  · rcases split y c e with q | ⟨q1, q2⟩
    · exact ⟨_, x.cell y c q⟩
    · exact ⟨_, by rw [q2]; exact ccell⟩
  · rcases split y c e with q | ⟨q1, q2⟩
    · exact e0.hok.fresh (Nat.le_of_lt (ab y c q))
    · rw [q2]
      exact hc0
  · unfold startF
    show _ = N.length
    rw [List.length_append, List.length_append, List.length_map, List.length_replicate]
    have : ([some (.ref D)] : List (Option V)).length = 1 := rfl
    omega
theorem env_clo {M : Model} {B : Around} {E' : Value → Shared → Prop} {binds : List (Str × Value)} {Q : Env → Shared → Prop} (S : DScope N ps F.scope) (hkind : ∀ x ∈ binds, F.scope.names.lookup x.1 = some .local ∨ F.scope.names.lookup x.1 = some .cell)
    (q : ∀ t, InCallC s s.heap.objs.size (bindL (envD F f s.heap.objs.size).kindOf binds fun _ => none) (cellsFrom (s.heap.objs.size + 1) F.scope.names []) (bindC (envD F f s.heap.objs.size).kindOf binds fun _ => none) t → Q (envD F f s.heap.objs.size) t) :
    wpAny M B (newFunctionEnv F.scope mainGlobals F.cl binds (F.qual ++ ".<locals>.") (some f) (.ref F.c) none builtinsNs) Q E' s := by
  simp only [newFunctionEnv, Option.isSome_none, Bool.false_eq_true, if_false]
  refine wpAny_bind (wpAny_alloc (wpAny_bind (wpAny_layCells _ (fun name kind cells => by cases z : kind == NameKind.cell <;> simp [z]) _ _ _ _ ?_)))
  have cok := cellsFrom_ok F.scope.names (s.heap.push { cls := .type "frame", data := .dict #[] }) (s.heap.objs.size + 1) [] ⟨fun _ _ z => (nomatch z), List.Pairwise.nil⟩ (by rw [Heap.size_push]; exact Nat.le_refl _)
  have size : (s.heap.push { cls := .type "frame", data := .dict #[] }).objs.size = s.heap.objs.size + 1 := Heap.size_push ..
  rw [size] at cok
  rw [show ({ s with heap := s.heap.push { cls := .type "frame", data := .dict #[] } } : Shared).heap.objs.size = s.heap.objs.size + 1 from size, cells_acc]
  have start : InCallC s s.heap.objs.size (fun _ => none) (cellsFrom (s.heap.objs.size + 1) F.scope.names []) (fun _ => none) { s with heap := pushCells (s.heap.push { cls := .type "frame", data := .dict #[] }) F.scope.names } :=
    ⟨⟨⟨_, _, rfl⟩, (Heap.Ns.new s.heap (.type "frame")).keeps (pushCells_keeps _ _), fun b o e => pushCells_keeps _ _ b o (Heap.get?_push_of_some _ e), Nat.le_refl _⟩, fun n c e => (cok.empty n c (mem_of_lookup e)).1, cok.apart, fun n c e => (cok.empty n c e).2⟩
  refine wpAny_bind (put_all (s₀ := s) (env := envD F f s.heap.objs.size) (cs := cellsFrom (s.heap.objs.size + 1) F.scope.names []) _ (fun _ _ _ => rfl) S.kind (fun n c e => look_app e) binds (fun _ => none) (fun _ => none) _ _ start (fun y hy => ?_) fun t x => wpAny_pure (q t x))
  rcases hkind y hy with z | z
  · exact .inl z
  · exact .inr ⟨z, cell_has z⟩
theorem fnr_superC {k : Nat} {sp : Sp} {oc doc pm ct : Value} {od an : Option Addr} {osl : Array (Option Value)}
    (lk : K.lookup f = some ⟨oc, od, .func (PySem.W.fnX F.name F.qual F.params F.body F.scope F.cl .none .none doc pm an (.ref F.c) ct), osl⟩) (hcd : PySem.W.codeIn K (.ref F.c) F.qual = true) (hcl : F.cl = [(("__class__" : Str), cc)])
    (hcell : ∃ cl cld csl, K.lookup cc = some ⟨cl, cld, .cell (some (.ref D)), csl⟩) (S : DScope N ps F.scope)
    (hb : ∀ (us : List Value), us.length = ps.length → bindArgs (PySem.W.fnX F.name F.qual F.params F.body F.scope F.cl .none .none doc pm an (.ref F.c) ct) ⟨us, []⟩ = pure (ps.zip us))
    (len : ∀ vs H Q E, sp vs H Q E → vs.length = ps.length)
    (hbody : ∀ (A : Around) (outer : List Env) (s : Shared) (H : Hp) (vs : List V) (Q : VK) (E : XK), Room k (A.deeper (envD F f s.heap.objs.size)) → sp vs H Q E →
      ∃ t, PSA (dcx CX P w K mg base N F f A outer s H E) F.body F.body t ∧ t { nx := fun _ H' => Q .non H', rt := Q } (startF N vs [some (.ref D)]) H) :
    FnR P w K mg base CX (k + 1) f sp := by
  intro A outer s H us vs Q E hr e0 r hsp
  have hl := len _ _ _ _ hsp
  have KB : K.In base := e0.mod.kin
  have KX : K.In s.heap := KB.keeps fun b o e => (e0.bs b o e).1
  have lim : s.heap.NoLimit := e0.mod.nolimit.keeps fun b o e => (e0.bs b o e).1
  obtain ⟨cl, cld, csl, hc⟩ := hcell
  refine codeAny_call_function hr.depth (KX _ _ lk) rfl S.co S.gen rfl (PySem.W.codeRec_of KX hcd) ?_
  rw [hb us (by rw [← r.length]; exact hl)]
  refine wpAny_pure (env_clo (f := f) S (fun ⟨n, _⟩ hy => S.par n (List.of_mem_zip hy).1) fun s1 x => ⟨lim.keeps x.toInCall.keep, ?_⟩)
  show codeAny _ _ (.func F.body (envD F f s.heap.objs.size)) _ _
  refine PySem.ks_codeAny_funcAt ?_
  obtain ⟨t, ht, hq⟩ := hbody A outer s H vs Q E (hr.deeper _) hsp
  have I : Inv (dcx CX P w K mg base N F f A outer s H E) [] (startF N vs [some (.ref D)]) H s1 := inv_startD S hr.hd e0 hl r hcl (e0.bs _ _ (KB _ _ hc)).2 ⟨_, KX _ _ hc, rfl⟩ x
  refine PySem.ks_wpAt_mono (ht.run [] _ (startF N vs [some (.ref D)]) H _ I hq) (fun fl t hs => ?_) fun e t hs => hs
  have fin : ∀ {σ' : L2.St} {H' : Hp} {v : V} {u : Value}, Inv (dcx CX P w K mg base N F f A outer s H E) [] σ' H' t → L2.RelV v u → Q v H' → CE outer P w H s Q u t :=
    fun {σ' H' v u} J rv q => ⟨v, H', J.os, J.bare, J.base, J.hok, rv, q⟩
  cases fl with
  | next =>
    obtain ⟨σ', H', J, q⟩ := hs
    exact fin (v := V.non) (u := Value.none) J rfl q
  | ret u =>
    obtain ⟨v, σ', H', J, rv, q⟩ := hs
    exact fin J rv q
  | cont =>
    obtain ⟨_, _, _, q⟩ := hs
    exact False.elim q
  | brk =>
    obtain ⟨_, _, _, q⟩ := hs
    exact False.elim q
end
end Own
/-! OwnJ: sep.join(a text). -/
namespace Own
open PySem PySem.Spec PyProof.Rows L2
theorem strs_by : ∀ (vs : List Value) (ys : List Str), vs.length = ys.length → (∀ (i : Nat) (v : Value), vs[i]? = some v → ∃ (y : Str) (t : Tok), ys[i]? = some y ∧ v = .str y t) → StrsAre vs ys
  | [], [], _, _ => .nil
  | [], _ :: _, h, _ => by cases h
  | _ :: _, [], h, _ => by cases h
  | v :: vs, y :: ys, h, k => by
    obtain ⟨z, t, e1, e2⟩ := k 0 v rfl
    cases e1
    subst e2
    exact .cons y t (strs_by vs ys (Nat.succ.inj h) fun i v e => k (i + 1) v e)
def signsOf (y : Str) : List Str := y.cps.toList.map fun c => ⟨#[c]⟩
section
variable {prog : Program} {w : World} {A : Around} {E : Value → Shared → Prop} {s : Shared}
theorem join_signs {x y : Str} {t u : Tok} {Q : Value → Shared → Prop} (hh : A.handled = none) (hy : y.cps.size ≤ sizeLine) (hok : ((signsOf y).map (·.length)).sum + (signsOf y).length * x.length ≤ 16777216)
    (hq : ∀ s' : Shared, (∀ b o, s.heap.get? b = some o → s'.heap.get? b = some o) → s'.gens = s.gens → s'.drawn = s.drawn → s'.os = s.os → ∀ t' k, Q (.str (Txt.join x (signsOf y)) t') { s' with toks := k }) :
    wpAny (model prog w) A (call (.builtin "str.join") [.str x t, .str y u]) Q E s := by
  refine wpAny_call (codeAny_call_builtin F.slot_str_join.plain F.entry_str_join (F.slot_str_join.check _ _ _ _ _ _ _ _ (typeIs_str _ _ _) (F.args_str_join_2 _ _) ?_))
  show wpAny _ A.in1 (typeOf (.str y u) >>= fun ty => _) _ _ s
  refine wpAny_bind (wpAny_typeOf (T := "str") (v := .str y u) rfl ?_)
  show wpAny _ A.in1 ((pyIter (.str y u)).tryCatch _ >>= fun it => collect it >>= fun items => joinTail x items) _ _ s
  refine wpAny_bind (wpAny_tryCatch (wpAny_pyIter_strU ?_))
  have hI : ({ s with heap := s.heap.push { cls := .type (strIterType y), data := .fields #[.str y u, .int 0 0] } } : Shared).heap.IsStrIter s.heap.objs.size (strIterType y) y u 0 := ⟨_, Heap.get?_push_size _ rfl, rfl, rfl⟩
  have hT : strIterType y = "str_ascii_iterator" ∨ strIterType y = "str_iterator" := by
    unfold strIterType
    split
    · exact .inl rfl
    · exact .inr rfl
  refine wpAny_bind (wpAny_collect_strIter hh hT hI (fun s' acc k1 k2 k3 k4 items => ?_) hy)
  have hS : StrsAre acc.toList (signsOf y) := by
    refine strs_by _ _ ?_ fun i v e => ?_
    · unfold signsOf
      rw [List.length_map, Array.length_toList, Array.length_toList, items.1]
    · obtain ⟨c, q, e1, e2⟩ := items.2 i v (by rw [← Array.getElem?_toList]; exact e)
      refine ⟨⟨#[c]⟩, q, ?_, e2⟩
      unfold signsOf
      rw [List.getElem?_map, Array.getElem?_toList, e1]
      rfl
  obtain ⟨l, hl, ht⟩ := strsAre_values hS
  rw [hl]
  rw [← ht] at hok hq
  have ok := joinOk_of hok
  unfold JoinOk at ok
  rw [Bool.not_eq_true'] at ok
  have g : Gives (joinTail x (strValues l)) (joinMade x l) := by
    have z := gives_joinTail x l ok
    cases l with
    | nil => exact z
    | cons p r =>
      cases r with
      | nil => exact z
      | cons q r => exact z
  refine g prog w A (wants Q E) s' (post_join l ⟨joinFit_length ok, hq s' (fun b o e => k1 b o (Nat.ne_of_lt (Heap.lt_size e)) (Heap.get?_push_of_some _ e)) k2 k3 k4⟩)
end
/-- sep.join(y), y a text -/
theorem mt_joinS {X : Cx} (hh : X.A.handled = none) : MtR X "str.join" (fun x xs H Q => ∃ a y : Str, x = .str a ∧ xs = [.str y] ∧ y.cps.size ≤ 1000 ∧ a.length ≤ 1000 ∧ Q (.str (Txt.join a (signsOf y))) H) := by
  intro pins s σ H x xs v us Q I rx rs h
  obtain ⟨a, y, rfl, rfl, hy, ha, q⟩ := h
  obtain ⟨t, rfl⟩ := rx
  cases rs with
  | cons r1 rs =>
    cases rs
    obtain ⟨u, rfl⟩ := r1
    have hl : (signsOf y).length = y.cps.size := by unfold signsOf; rw [List.length_map, Array.length_toList]
    have hs : ((signsOf y).map (·.length)).sum ≤ (signsOf y).length * 1 := by
      unfold signsOf
      generalize y.cps.toList = l
      induction l with
      | nil => exact Nat.zero_le _
      | cons c r ih =>
        simp only [List.map_cons, List.sum_cons, List.length_cons]
        have : ((⟨#[c]⟩ : Str)).length = 1 := rfl
        omega
    refine join_signs hh (by rw [sizeLine_eq]; omega) ?_ fun s' k1 k2 k3 k4 t' k => ?_
    · have := Nat.mul_le_mul (show (signsOf y).length ≤ 1000 by omega) ha
      omega
    · obtain ⟨h', g', d', n', o'⟩ := s'
      have e2 : g' = s.gens := k2
      have e3 : d' = s.drawn := k3
      have e4 : o' = s.os := k4
      subst e2
      subst e3
      subst e4
      exact ⟨.str _, H, I.kept (t' := k) k1, ⟨t', rfl⟩, q⟩
theorem pe_joinS {X : Cx} {o e : Expr} {to te : TE} {apos pos : Pos} (hh : X.A.handled = none) (ho : PE X o to) (he : PE X e te) (hs : starEach [e] X.env = [(false, eval e X.env)] := by rfl) (hbase : attributeBase o "join" X.env (eval o X.env) = eval o X.env := by rfl) (hline : (apos.endLine == pos.line) = true := by rfl) :
    PE X (.Call (.Attribute o "join" apos) [e] [] pos) (tM1 (fun x xs H Q => ∃ a y : Str, x = .str a ∧ xs = [.str y] ∧ y.cps.size ≤ 1000 ∧ a.length ≤ 1000 ∧ Q (.str (Txt.join a (signsOf y))) H) to te) :=
  pe_m1 F.slot_str_join F.type_str_join (mt_joinS hh) ho he hs hbase hline
end Own
/-! OwnO: list(a text). -/
namespace Own
open PySem PySem.Spec PyProof.Rows L2
theorem call_list_text {X : Cx} (hc : X.calm = true) : CallR X (.type "list") (fun xs H Q => ∃ x : Str, xs = [.str x] ∧ x.length ≤ 1000 ∧ ∀ p, H p = none → Q (.ref p) (upd H p (.lst ((signsOf x).map V.str)))) := by
  intro pins s σ H xs us Q I r h
  obtain ⟨x, rfl, hx, q⟩ := h
  obtain ⟨u, rfl, ru⟩ := vals1 r
  obtain ⟨t, rfl⟩ := ru
  have hx2 : x.cps.size ≤ 1000 := hx
  refine call_list_str (I.ok.hd hc) x t (hn := by rw [sizeLine_eq]; omega) fun h' tk acc c k hS hacc => ?_
  have hA : StrsAre acc.toList (signsOf x) := by
    refine strs_by _ _ ?_ fun i v e => ?_
    · unfold signsOf
      rw [List.length_map, Array.length_toList, Array.length_toList, hacc.1]
    · obtain ⟨c, u, e1, e2⟩ := hacc.2 i v (by rw [← Array.getElem?_toList]; exact e)
      refine ⟨⟨#[c]⟩, u, ?_, e2⟩
      unfold signsOf
      rw [List.getElem?_map, Array.getElem?_toList, e1]
      rfl
  have len : ((signsOf x).map V.str).length ≤ sizeLine := by
    rw [List.length_map]
    unfold signsOf
    rw [List.length_map, Array.length_toList, sizeLine_eq]
    omega
  exact ⟨.ref _, upd H s.heap.objs.size (.lst ((signsOf x).map V.str)), I.laid (t' := tk) k (Nat.le_refl _) ⟨len, acc.toList, c, vals_of_strs hA, by rw [Array.toArray_toList]; exact hS⟩, rfl, q _ (I.hok.fresh (Nat.le_refl _))⟩
end Own
/-! any value: tuples without dicts, lists, dicts of texts and ints; reads of it, repr, in, == with texts -/
namespace Own
open PySem PySem.Spec PyProof.Rows L2
def SameX (a : Addr) (H H' : Hp) : Prop := ∀ b u, b ≠ a → H b = some u → H' b = some u
theorem SameX.of {a : Addr} {H1 H2 : Hp} (h : Same H1 H2) : SameX a H1 H2 := fun b u _ e => h b u e
theorem SameX.put {a : Addr} {H : Hp} {o : HO} : SameX a H (upd H a o) := fun b u n e => by rw [upd_ne n]; exact e
theorem SameX.trans {a : Addr} {H1 H2 H3 : Hp} (h : SameX a H1 H2) (k : SameX a H2 H3) : SameX a H1 H3 := fun b u n e => k b u n (h b u n e)
theorem SameX.new {a p : Addr} {o : HO} {H H1 : Hp} (h : SameX a H H1) (hn : H p = none) : SameX a H (upd H1 p o) := fun b u n e => by
  rw [upd_ne (ne_of_none e hn)]
  exact h b u n e
theorem SameX.refl (a : Addr) (H : Hp) : SameX a H H := fun _ _ _ e => e
theorem ixT_same {H H' : Hp} {a : Addr} {xs : List V} (e : Same H H') (h : IxT H a xs) : IxT H' a xs := by
  obtain ⟨o, h1, h2⟩ := h
  exact ⟨o, e _ _ h1, h2⟩
theorem ixT_sameX {N : Addr} {H H' : Hp} {a : Addr} {xs : List V} (e : SameX N H H') (n : a ≠ N) (h : IxT H a xs) : IxT H' a xs := by
  obtain ⟨o, h1, h2⟩ := h
  exact ⟨o, e _ _ n h1, h2⟩
theorem ixT_ne {N : Addr} {H : Hp} {a : Addr} {xs l : List V} (h : IxT H a xs) (e : H N = some (.lst l)) : a ≠ N := fun z => by
  obtain ⟨o, h1, _⟩ := h
  rw [z, e] at h1
  cases h1
/-- what stays, but at N -/
def SameN (N : List Addr) (H H' : Hp) : Prop := ∀ b u, b ∉ N → H b = some u → H' b = some u
theorem SameN.of {N : List Addr} {H1 H2 : Hp} (h : Same H1 H2) : SameN N H1 H2 := fun b u _ e => h b u e
theorem SameN.X {N : List Addr} {a : Addr} {H1 H2 : Hp} (m : a ∈ N) (h : SameX a H1 H2) : SameN N H1 H2 := fun b u n e => h b u (fun z => n (z ▸ m)) e
theorem ixT_sameN {N : List Addr} {H H' : Hp} {a : Addr} {xs : List V} (e : SameN N H H') (n : a ∉ N) (h : IxT H a xs) : IxT H' a xs := by
  obtain ⟨o, h1, h2⟩ := h
  exact ⟨o, e _ _ n h1, h2⟩
def kvH (kvs : List (Str × Int)) : HO := .dK (kvs.map fun p => (Sum.inr p.1, V.int p.2))
def kvD (kvs : List (Str × Int)) : PyData := .dict (kvs.map fun p => (PyData.str p.1, PyData.int p.2))
mutual
inductive Dq (N : List Addr) (H : Hp) : V → PyData → Prop where
  | non : Dq N H .non .none
  | bl (b : Bool) : Dq N H (.bl b) (.bool b)
  | int (i : Int) : Dq N H (.int i) (.int i)
  | str (x : Str) : Dq N H (.str x) (.str x)
  | lst {a : Addr} {xs : List V} {ds : List PyData} (n : a ∉ N) (m : a ≠ sysModules) (h : H a = some (.lst xs)) (t : DqAll N H xs ds) : Dq N H (.ref a) (.list ds)
  | tup {a : Addr} {xs : List V} {ds : List PyData} (n : a ∉ N) (h : IxT H a xs) (t : DqAll N H xs ds) : Dq N H (.ref a) (.tuple ds)
  | dic {a : Addr} {kvs : List (Str × Int)} {ds : List (PyData × PyData)} (n : a ∉ N) (h : H a = some (kvH kvs)) (e : PyData.dict ds = kvD kvs) : Dq N H (.ref a) (.dict ds)
inductive DqAll (N : List Addr) (H : Hp) : List V → List PyData → Prop where
  | nil : DqAll N H [] []
  | cons {x : V} {xs : List V} {d : PyData} {ds : List PyData} (h : Dq N H x d) (t : DqAll N H xs ds) : DqAll N H (x :: xs) (d :: ds)
end
mutual
theorem dq_X {N : List Addr} {H H' : Hp} (e : SameN N H H') : ∀ (d : PyData) (v : V), Dq N H v d → Dq N H' v d
  | .none, _, h => by cases h; exact .non
  | .bool b, _, h => by cases h; exact .bl b
  | .int i, _, h => by cases h; exact .int i
  | .str x, _, h => by cases h; exact .str x
  | .list ds, _, h => by
    cases h with
    | lst n m h1 h2 => exact .lst n m (e _ _ n h1) (dq_Xs e ds _ h2)
  | .tuple ds, _, h => by
    cases h with
    | tup n h1 h2 => exact .tup n (ixT_sameN e n h1) (dq_Xs e ds _ h2)
  | .dict kvs, _, h => by
    cases h with
    | dic n h1 h2 => exact .dic n (e _ _ n h1) h2
theorem dq_Xs {N : List Addr} {H H' : Hp} (e : SameN N H H') : ∀ (ds : List PyData) (vs : List V), DqAll N H vs ds → DqAll N H' vs ds
  | [], _, h => by cases h; exact .nil
  | d :: ds, _, h => by
    cases h with
    | cons h1 h2 => exact .cons (dq_X e d _ h1) (dq_Xs e ds _ h2)
end
theorem dq_same {N : List Addr} {H H' : Hp} (e : Same H H') {d : PyData} {v : V} (h : Dq N H v d) : Dq N H' v d := dq_X (.of e) d v h
theorem dq_sames {N : List Addr} {H H' : Hp} (e : Same H H') {d : List PyData} {v : List V} (h : DqAll N H v d) : DqAll N H' v d := dq_Xs (.of e) d v h
theorem DqAll.len {N : List Addr} {H : Hp} : ∀ {vs : List V} {ds : List PyData}, DqAll N H vs ds → vs.length = ds.length
  | _, _, .nil => rfl
  | _, _, .cons _ t => congrArg (· + 1) t.len
theorem DqAll.get {N : List Addr} {H : Hp} : ∀ {vs : List V} {ds : List PyData}, DqAll N H vs ds → ∀ (i : Nat) (v : V), vs[i]? = some v → ∃ d, ds[i]? = some d ∧ Dq N H v d
  | _, _, .nil, i, v, h => by simp at h
  | _, _, .cons h _, 0, v, e => by cases e; exact ⟨_, rfl, h⟩
  | _, _, .cons _ t, i + 1, v, e => by
    obtain ⟨d, h1, h2⟩ := t.get i v (by simpa using e)
    exact ⟨d, by simpa using h1, h2⟩
theorem DqAll.app {N : List Addr} {H : Hp} : ∀ {vs ws : List V} {ds es : List PyData}, DqAll N H vs ds → DqAll N H ws es → DqAll N H (vs ++ ws) (ds ++ es)
  | _, _, _, _, .nil, k => k
  | _, _, _, _, .cons h t, k => .cons h (t.app k)
theorem DqAll.tk {N : List Addr} {H : Hp} : ∀ {vs : List V} {ds : List PyData} (n : Nat), DqAll N H vs ds → DqAll N H (vs.take n) (ds.take n)
  | _, _, 0, _ => .nil
  | _, _, _ + 1, .nil => .nil
  | _, _, n + 1, .cons h t => .cons h (t.tk n)
theorem DqAll.dr {N : List Addr} {H : Hp} : ∀ {vs : List V} {ds : List PyData} (n : Nat), DqAll N H vs ds → DqAll N H (vs.drop n) (ds.drop n)
  | _, _, 0, k => k
  | _, _, _ + 1, .nil => .nil
  | _, _, n + 1, .cons h t => t.dr n
theorem DqAll.rv {N : List Addr} {H : Hp} : ∀ {vs : List V} {ds : List PyData}, DqAll N H vs ds → DqAll N H vs.reverse ds.reverse
  | _, _, .nil => .nil
  | _, _, .cons h t => by
    rw [List.reverse_cons, List.reverse_cons]
    exact t.rv.app (.cons h .nil)
theorem DqAll.st {N : List Addr} {H : Hp} {v : V} {d : PyData} (k : Dq N H v d) : ∀ {vs : List V} {ds : List PyData} (n : Nat), DqAll N H vs ds → DqAll N H (vs.set n v) (ds.set n d)
  | _, _, _, .nil => .nil
  | _, _, 0, .cons h t => .cons k t
  | _, _, n + 1, .cons h t => .cons h (t.st k n)
theorem dq_strs {N : List Addr} {H : Hp} : ∀ l : List Str, DqAll N H (l.map V.str) (l.map PyData.str)
  | [] => .nil
  | x :: r => .cons (.str x) (dq_strs r)
theorem strs_dq {N : List Addr} {H : Hp} : ∀ (l : List Str) (vs : List V), DqAll N H vs (l.map PyData.str) → vs = l.map V.str
  | [], _, h => by cases h; rfl
  | x :: r, _, h => by
    cases h with
    | cons h t =>
      cases h
      rw [strs_dq r _ t]
      rfl
def isStr : PyData → Bool
  | .str _ => true
  | _ => false
def isTup : PyData → Bool
  | .tuple _ => true
  | _ => false
/-- isinstance with str and tuple -/
theorem dq_ty {N : List Addr} {K : PySem.W.Frag} {H : Hp} {v : V} {d : PyData} (h : Dq N H v d) : ∃ t, TyX K H v t ∧ PySem.W.kitOne K t (.type "str") = some (isStr d) ∧ PySem.W.kitOne K t (.type "tuple") = some (isTup d) := by
  cases h with
  | non => exact ⟨_, .base .non, rfl, rfl⟩
  | bl b => exact ⟨_, .base (.bl b), rfl, rfl⟩
  | int i => exact ⟨_, .base (.int i), rfl, rfl⟩
  | str x => exact ⟨_, .base (.str x), rfl, rfl⟩
  | lst _ _ h1 _ => exact ⟨_, .base (.lst h1), rfl, rfl⟩
  | tup _ h1 _ =>
    obtain ⟨o, h1, _⟩ := h1
    exact ⟨_, .fTuple h1, rfl, rfl⟩
  | dic _ h1 _ => exact ⟨_, .base (.dK h1), rfl, rfl⟩
section
variable {X : Cx} {pins : List (Addr × Obj)} {σ : L2.St} {H : Hp} {s : Shared} {N : List Addr}
theorem kv_reads {P : Program} {w : World} (h : Heap) : ∀ (kvs : List (Str × Int)) (vs : List (Key × Value)) (es : List DictEntry), KV (kvs.map fun p => ((Sum.inr p.1 : Key), V.int p.2)) vs → Pairs (mixKind P w) es vs →
    ReadsAll h (es.map (·.key)) ((kvs.map fun p => (PyData.str p.1, PyData.int p.2)).map (·.1)) [] ∧ ReadsAll h (es.map (·.val)) ((kvs.map fun p => (PyData.str p.1, PyData.int p.2)).map (·.2)) []
  | [], _, _, r, p => by
    cases r
    cases p
    exact ⟨.nil, .nil⟩
  | (x, i) :: kvs, _, _, r, p => by
    cases r with
    | cons r1 rt =>
      cases p with
      | cons k1 v1 pt =>
        obtain ⟨a, b⟩ := kv_reads h kvs _ _ rt pt
        obtain ⟨e1, t, e2⟩ := r1
        rw [← e1] at k1
        have k2 : keyIs (Sum.inr x) _ = true := k1
        rcases keyIs_shape k2 with ⟨_, _, z, _⟩ | ⟨y, u, z, e3⟩
        · exact nomatch z
        · have z := Sum.inr.inj z
          subst z
          refine ⟨?_, ?_⟩
          · have q := ReadsAll.cons (Reads.str (h := h) x u) a
            rw [← e3] at q
            exact q
          · have q := ReadsAll.cons (Reads.int (h := h) i t) b
            rw [← e2, ← v1] at q
            exact q
mutual
theorem Dq.reads (I : Inv X pins σ H s) : ∀ (d : PyData) (v : V) (u : Value), Dq N H v d → RelV v u → ∃ as, Reads s.heap u d as ∧ sysModules ∉ as
  | .none, _, _, h, r => by
    cases h
    cases r
    exact ⟨_, Reads.none, List.not_mem_nil⟩
  | .bool b, _, _, h, r => by
    cases h
    cases r
    exact ⟨_, Reads.bool b, List.not_mem_nil⟩
  | .int i, _, _, h, r => by
    cases h
    obtain ⟨t, rfl⟩ := r
    exact ⟨_, Reads.int i t, List.not_mem_nil⟩
  | .str x, _, _, h, r => by
    cases h
    obtain ⟨t, rfl⟩ := r
    exact ⟨_, Reads.str x t, List.not_mem_nil⟩
  | .list ds, _, _, h, r => by
    cases h with
    | lst _ m hs ha =>
      cases r
      obtain ⟨its, rv, ⟨o, n, ho, hc, _, hd⟩, _⟩ := I.list (.of hs)
      obtain ⟨as, hr, hn⟩ := Dq.readsAll I ds _ its ha rv
      exact ⟨_, Reads.list ho hc hd hr, fun z => (List.mem_cons.mp z).elim (fun e => m e.symm) hn⟩
  | .tuple ds, _, _, h, r => by
    cases h with
    | tup _ hs ha =>
      cases r
      obtain ⟨its, rv, ⟨o, ho, hc, n, hd⟩, _⟩ := I.tuple hs.sq
      obtain ⟨as, hr, hn⟩ := Dq.readsAll I ds _ its ha rv
      exact ⟨_, Reads.tuple ho hc hd hr, hn⟩
  | .dict _, _, _, h, r => by
    cases h with
    | @dic a kvs _ _ hs e =>
      cases r
      obtain ⟨_, hm, vs, kv, o, es, ep, ho, hx, hd, _, hp, _⟩ := dk_of I.hok hs
      obtain ⟨q1, q2⟩ := kv_reads s.heap kvs vs es.toList kv hp
      rw [show PyData.dict _ = kvD kvs from e]
      refine ⟨_, Reads.dict ho hx.1 hd q1 q2, ?_⟩
      intro z
      have z : sysModules = a := by simpa using z
      rw [z] at hm
      exact absurd hm (by simp)
theorem Dq.readsAll (I : Inv X pins σ H s) : ∀ (ds : List PyData) (vs : List V) (us : List Value), DqAll N H vs ds → Vals vs us → ∃ as, ReadsAll s.heap us ds as ∧ sysModules ∉ as
  | [], _, _, h, r => by
    cases h
    cases r
    exact ⟨_, ReadsAll.nil, List.not_mem_nil⟩
  | d :: ds, _, _, h, r => by
    cases h with
    | cons h1 h2 =>
      cases r with
      | cons r1 r2 =>
        obtain ⟨as, q1, n1⟩ := Dq.reads I d _ _ h1 r1
        obtain ⟨bs, q2, n2⟩ := Dq.readsAll I ds _ _ h2 r2
        exact ⟨_, ReadsAll.cons q1 q2, fun z => (List.mem_append.mp z).elim n1 n2⟩
end
end
section
variable {X : Cx}
/-- repr -/
theorem call_reprQ (hg : X.A.guards = some []) (hu : X.A.units + 64 < cLine) : CallR X (.builtin "repr") (fun xs H Q => ∃ (N : List Addr) (a : Addr) (d : PyData), xs = [.ref a] ∧ Dq N H (.ref a) d ∧ d.showable = true ∧ d.depth ≤ 60 ∧ d.shown.length ≤ sizeLine ∧ Q (.str d.shown) H) := by
  intro pins s σ H xs us Q I r h
  obtain ⟨N, a, d, rfl, hd, hs, h60, hz, q⟩ := h
  obtain ⟨u, rfl, ru⟩ := vals1 r
  have hu' : u = .ref a := ru
  subst hu'
  obtain ⟨as, rd, hn⟩ := Dq.reads I d _ _ hd rfl
  exact repr_of_reads' rd hs (fun _ => hn) hg (by omega) (fun _ _ e => e) (fun h' u tk hk => ⟨.str d.shown, H, I.kept hk, ⟨u, rfl⟩, q⟩) hz
/-- an element against a text -/
def isS (z : Str) : PyData → Bool
  | .str x => x == z
  | _ => false
def isSv (z : Str) : Value → Bool
  | .str x _ => x == z
  | _ => false
theorem dq_eqS {N : List Addr} {pins : List (Addr × Obj)} {σ : L2.St} {H : Hp} {s : Shared} (I : Inv X pins σ H s) {A : Around} (hu : A.units < cLine) {v : V} {u : Value} {d : PyData} (z : Str) (t : Tok) (h : Dq N H v d) (r : RelV v u) :
    SeqAt.EqAt A s u (.str z t) (isS z d) ∧ isSv z u = isS z d := by
  cases h with
  | non => cases r; exact ⟨SeqAt.EqAt.none_str z t, rfl⟩
  | bl b => cases r; exact ⟨SeqAt.EqAt.bool_str b z t, rfl⟩
  | int i => obtain ⟨t', rfl⟩ := r; exact ⟨SeqAt.EqAt.int_str i t' z t, rfl⟩
  | str x => obtain ⟨t', rfl⟩ := r; exact ⟨SeqAt.EqAt.str_str x t' z t, rfl⟩
  | lst _ _ h1 _ =>
    cases r
    obtain ⟨its, rv, pl, _⟩ := I.list (.of h1)
    exact ⟨SeqAt.EqAt.list_str z t pl.isList hu, rfl⟩
  | tup _ h1 _ =>
    cases r
    obtain ⟨its, rv, pl, _⟩ := I.tuple h1.sq
    exact ⟨SeqAt.EqAt.tuple_str z t pl hu, rfl⟩
  | @dic a kvs _ _ h1 _ =>
    cases r
    obtain ⟨_, hm, vs, kv, o, es, ep, ho, hx, hd, _, hp, _⟩ := dk_of I.hok h1
    exact ⟨SeqAt.EqAt.dict_str z t ho hx.1 hd hu, rfl⟩
theorem dq_anyS {N : List Addr} {pins : List (Addr × Obj)} {σ : L2.St} {H : Hp} {s : Shared} (I : Inv X pins σ H s) {A : Around} (hu : A.units < cLine) (z : Str) (t : Tok) : ∀ {vs : List V} {us : List Value} {ds : List PyData}, DqAll N H vs ds → Vals vs us →
    (∀ u ∈ us, SeqAt.EqAt A s u (.str z t) (isSv z u)) ∧ us.any (isSv z) = ds.any (isS z)
  | _, _, _, .nil, r => by
    cases r
    exact ⟨fun _ h => (by cases h), rfl⟩
  | _, _, _, .cons h ht, r => by
    cases r with
    | cons r1 r2 =>
      obtain ⟨a, b⟩ := dq_anyS I hu z t ht r2
      obtain ⟨c, d⟩ := dq_eqS I hu z t h r1
      refine ⟨fun u hm => ?_, by rw [List.any_cons, List.any_cons, b, d]⟩
      rcases List.mem_cons.mp hm with rfl | hm
      · rw [d]; exact c
      · exact a u hm
def rInD (K : PySem.W.Frag) : R2 := fun x y H Q => ∃ N z a xs ds, x = .str z ∧ y = .ref a ∧ IxT H a xs ∧ DqAll N H xs ds ∧ Q (.bl (ds.any (isS z))) H
theorem op_inD (hu : X.A.units + 1 < cLine) : OpR X (compareOp .In) (rInD X.K) := by
  intro pins s σ H x y v u Q I rx ry h
  obtain ⟨N, z, a, xs, ds, rfl, rfl, hx, hd, q⟩ := h
  cases ry
  obtain ⟨t, rfl⟩ := rx
  obtain ⟨its, r, pl, hz⟩ := I.tuple hx.sq
  obtain ⟨q1, q2⟩ := dq_anyS (A := X.A.in1) I hu z t hd r
  refine SeqAt.in_tupleAt (isSv z) pl (fun w hw => q1 w (by simpa using hw)) ⟨.bl _, H, I, rfl, ?_⟩
  rw [show its.toArray.any (isSv z) = its.any (isSv z) by simp, q2]
  exact q
def eqSs : List PyData → List Str → Bool
  | [], [] => true
  | d :: ds, n :: ns => isS n d && eqSs ds ns
  | _, _ => false
theorem isS_iff {n : Str} {d : PyData} : isS n d = true ↔ d = .str n := by
  cases d with
  | str x =>
    show (x == n) = true ↔ _
    rw [beq_iff_eq]
    exact ⟨fun e => by rw [e], fun e => PyData.str.inj e⟩
  | _ => exact ⟨fun z => (by cases z), fun z => (by cases z)⟩
theorem eqSs_iff : ∀ {ds : List PyData} {ns : List Str}, eqSs ds ns = true ↔ ds = ns.map PyData.str
  | [], [] => ⟨fun _ => rfl, fun _ => rfl⟩
  | [], _ :: _ => ⟨fun z => (by cases z), fun z => (by cases z)⟩
  | _ :: _, [] => ⟨fun z => (by cases z), fun z => (by cases z)⟩
  | d :: ds, n :: ns => by
    show (isS n d && eqSs ds ns) = true ↔ d :: ds = .str n :: ns.map PyData.str
    rw [Bool.and_eq_true, isS_iff, eqSs_iff, List.cons.injEq]
theorem eqSs_len : ∀ {ds : List PyData} {ns : List Str}, ds.length ≠ ns.length → eqSs ds ns = false := fun {ds ns} h => by
  cases e : eqSs ds ns with
  | false => rfl
  | true => exact absurd (by rw [eqSs_iff.mp e, List.length_map]) h
/-- a list of any values == a list of texts -/
def rEqLS (K : PySem.W.Frag) : R2 := fun x y H Q => ∃ N a b xs ds, ∃ ns : List Str, x = .ref a ∧ y = .ref b ∧ H a = some (.lst xs) ∧ DqAll N H xs ds ∧ H b = some (.lst (ns.map V.str)) ∧ Q (.bl (eqSs ds ns)) H
theorem strsOf {ns : List Str} : ∀ {us : List Value}, Vals (ns.map V.str) us → us.length = ns.length ∧ ∀ (j : Nat) (x : Str), ns[j]? = some x → ∃ t, us[j]? = some (.str x t) := by
  intro us r
  refine ⟨by have := r.length; rw [List.length_map] at this; exact this.symm, fun j x h => ?_⟩
  obtain ⟨u, h1, t, e⟩ := Vals.get (i := j) (x := V.str x) r (by rw [List.getElem?_map, h]; rfl)
  subst e
  exact ⟨t, h1⟩
theorem all_eqS : ∀ (ds : List PyData) (ns : List Str), ds.length = ns.length → (List.range ds.length).all (fun j => isS (ns.getD j Str.empty) (ds.getD j .none)) = eqSs ds ns
  | [], [], _ => rfl
  | [], _ :: _, h => nomatch h
  | _ :: _, [], h => nomatch h
  | d :: ds, n :: ns, h => by
    have ih := all_eqS ds ns (Nat.succ.inj h)
    rw [List.length_cons, List.range_succ_eq_map, List.all_cons, List.all_map]
    have e : ((fun j => isS ((n :: ns).getD j Str.empty) ((d :: ds).getD j .none)) ∘ Nat.succ) = fun j => isS (ns.getD j Str.empty) (ds.getD j .none) := by
      funext j
      rfl
    rw [e, ih]
    rfl
theorem op_eqLS (hu : X.A.units + 1 < cLine) : OpR X (compareOp .Eq) (rEqLS X.K) := by
  intro pins s σ H x y v u Q I rx ry h
  obtain ⟨N, a, b, xs, ds, ns, rfl, rfl, ha, hd, hb, q⟩ := h
  cases rx
  cases ry
  obtain ⟨its, r1, p1, _⟩ := I.list (.of ha)
  obtain ⟨its2, r2, p2, _⟩ := I.list (.of hb)
  have l1 : its.length = ds.length := by rw [← r1.length, hd.len]
  obtain ⟨l2, g2⟩ := strsOf r2
  have hu0 : X.A.units < cLine := by omega
  by_cases hl : ds.length = ns.length
  · have hsz : its.toArray.size = its2.toArray.size := by rw [List.size_toArray, List.size_toArray, l1, l2, hl]
    have rc : SeqAt.RcAt X.A s (.ref a) (.ref b) ((List.range its.toArray.size).all (fun j => isS (ns.getD j Str.empty) (ds.getD j .none))) := SeqAt.RcAt.lists p1.isList p2.isList hsz hu0 fun j j1 j2 => by
      have k1 : j < its.length := by simpa using j1
      have k2 : j < its2.length := by simpa using j2
      have kn : j < ns.length := by omega
      have kx : j < xs.length := by rw [hd.len]; omega
      obtain ⟨t, e2⟩ := g2 j _ (List.getElem?_eq_getElem kn)
      obtain ⟨d, e3, dq⟩ := hd.get j _ (List.getElem?_eq_getElem kx)
      obtain ⟨u1, e1, rr⟩ := Vals.get (i := j) r1 (List.getElem?_eq_getElem kx)
      have z1 : its.toArray[j] = u1 := by
        have : its[j]? = some its[j] := List.getElem?_eq_getElem k1
        rw [e1] at this
        simpa using (Option.some.inj this).symm
      have z2 : its2.toArray[j] = .str ns[j] t := by
        have : its2[j]? = some its2[j] := List.getElem?_eq_getElem k2
        rw [e2] at this
        simpa using (Option.some.inj this).symm
      rw [z1, z2, List.getD_eq_getElem?_getD, List.getElem?_eq_getElem kn, List.getD_eq_getElem?_getD, e3]
      exact (dq_eqS (A := X.A.in1) I hu ns[j] t dq rr).1
    refine rc X.prog X.w X.xe _ ⟨.bl _, H, I, rfl, ?_⟩
    rw [List.size_toArray, l1, all_eqS ds ns hl]
    exact q
  · have rc : SeqAt.RcAt X.A s (.ref a) (.ref b) false := SeqAt.RcAt.lists_lengths p1.isList p2.isList (by
      rw [List.size_toArray, List.size_toArray, l1, l2]
      exact bne_iff_ne.mpr hl) hu0
    refine rc X.prog X.w X.xe _ ⟨.bl _, H, I, rfl, ?_⟩
    rw [eqSs_len hl] at q
    exact q
/-! ### new lists that are no sys.modules -/
def tLstN (t : TA) : TE := fun σ H Q => t σ H fun xs H1 => xs.length ≤ sizeLine ∧ ∀ p, H1 p = none → p ≠ sysModules → Q (.ref p) (upd H1 p (.lst xs))
theorem pe_lstN {es : List Expr} {t : TA} {pos : Pos} (h : PA X es t) : PE X (.List es pos) (tLstN t) := by
  refine ⟨fun pins s σ H Q I hq => ?_⟩
  refine wpAny_List_spliced (thn (h.run pos pins s σ H _ I hq) fun us s1 ⟨xs, H1, I1, r, z, q⟩ => ⟨by rw [← r.length]; exact z, ?_⟩)
  have hf : H1 s1.heap.objs.size = none := I1.hok.fresh (Nat.le_refl _)
  refine ⟨.ref s1.heap.objs.size, upd H1 s1.heap.objs.size (.lst xs), I1.laid (t' := s1.toks) (fun b u e => Heap.get?_push_of_some _ e) (Nat.le_refl _) ?_, rfl, q _ hf (Nat.ne_of_gt I1.big)⟩
  exact ⟨z, us, 0, r, Heap.get?_push_size _ rfl⟩
def rListN (K : PySem.W.Frag) : List V → Hp → VK → Prop := fun xs H Q => ∃ p ys, xs = [.ref p] ∧ SqT K H p ys ∧ ∀ l, H l = none → l ≠ sysModules → Q (.ref l) (upd H l (.lst ys))
theorem call_listN : CallR X (.type "list") (rListN X.K) := by
  intro pins s σ H xs us Q I r h
  obtain ⟨p, ys, rfl, hq, q⟩ := h
  obtain ⟨u, rfl, rx⟩ := vals1 r
  cases rx
  obtain ⟨its, r', pl, hz⟩ := I.tuple hq
  have hlen := r'.length
  obtain ⟨o, ho, hc, n, hd⟩ := pl
  exact call_list_seq p (.inr rfl) ho hc hd (fun h' c' kp e => 
    ⟨.ref s.heap.objs.size, _, I.laid (t' := s.toks) kp (Nat.le_refl _) (show ObjOk X.prog X.w _ h' _ (.lst ys) from ⟨hz, its, c', r', e⟩), rfl, q _ (I.hok.fresh (Nat.le_refl _)) (Nat.ne_of_gt I.big)⟩) (by simp only [List.size_toArray] <;> omega)
/-- tuple(text) -/
def rTupS : List V → Hp → VK → Prop := fun xs H Q => ∃ x : Str, xs = [.str x] ∧ x.length ≤ 1000 ∧ Got H ((signsOf x).map V.str) Q
theorem call_tupS (hc : X.calm = true) : CallR X (.type "tuple") rTupS := by
  intro pins s σ H xs us Q I r h
  obtain ⟨x, rfl, hx, q⟩ := h
  obtain ⟨u, rfl, ru⟩ := vals1 r
  obtain ⟨t, rfl⟩ := ru
  have hx2 : x.cps.size ≤ 1000 := hx
  refine call_tuple_str (I.ok.hd hc) x t (hsz := by rw [sizeLine_eq]; omega) fun h' tk acc k hacc => ?_
  have hA : StrsAre acc.toList (signsOf x) := by
    refine strs_by _ _ ?_ fun i v e => ?_
    · unfold signsOf
      rw [List.length_map, Array.length_toList, Array.length_toList, hacc.1]
    · obtain ⟨c, u, e1, e2⟩ := hacc.2 i v (by rw [← Array.getElem?_toList]; exact e)
      refine ⟨⟨#[c]⟩, u, ?_, e2⟩
      unfold signsOf
      rw [List.getElem?_map, Array.getElem?_toList, e1]
      rfl
  have len : ((signsOf x).map V.str).length ≤ sizeLine := by
    rw [List.length_map]
    unfold signsOf
    rw [List.length_map, Array.length_toList, sizeLine_eq]
    omega
  have z := laidF (Q := Q) (I.kept (h' := h') (t' := tk) k) (vals_of_strs hA) len q
  rw [Array.toArray_toList] at z
  exact z
end
end Own
namespace K22
open PySem L2 Own StX ClX NdefX
/-! ### the text by places -/
def top (i : Nat) : Stmt := PySem.Challenge.pw_stepblocks_k22_interfaces_judged.main.body.getD i (.Pass ⟨0, 0, 0, 0⟩)
abbrev sName : Stmt := top 5
abbrev sPorts : Stmt := top 6
abbrev sIface : Stmt := top 15
abbrev sStep : Stmt := top 16
abbrev sSel : Stmt := top 17
abbrev sFeed : Stmt := top 19
abbrev sTakeL : Stmt := top 20
abbrev sPickL : Stmt := top 21
abbrev sMade : Stmt := top 22
abbrev sNameL : Stmt := top 23
abbrev sPortsL : Stmt := top 24
abbrev sIfaceL : Stmt := top 25
abbrev sWide : Stmt := top 26
abbrev sBentT : Stmt := top 27
abbrev sBent : Stmt := top 28
abbrev sBounds : Stmt := top 29
abbrev sLaw : Stmt := top 30
theorem small1 {n : Nat} (h : n ≤ 8) : n ≤ sizeLine := Nat.le_trans h (by decide)
theorem big {n : Nat} (h : n ≤ 100000) : n ≤ sizeLine := by rw [sizeLine_eq]; omega
theorem lt1 {n : Nat} (h : n ≤ 100000) : n < sizeLine := by rw [sizeLine_eq]; omega
theorem upd_new {H : Hp} {p : Addr} {o : HO} (h : H p = none) : Same H (upd H p o) := fun b u e => by
  rw [upd_ne (ne_of_none e h)]
  exact e
theorem same_put {H H1 : Hp} {p : Addr} {o : HO} (s : Same H H1) (h : H p = none) : Same H (upd H1 p o) := fun b u e => by
  rw [upd_ne (ne_of_none e h)]
  exact s b u e
theorem sqT_same {K : PySem.W.Frag} {H H' : Hp} {a : Addr} {xs : List V} (e : Same H H') (h : SqT K H a xs) : SqT K H' a xs := by
  rcases h with (h | ⟨o, h⟩) | h
  · exact .inl (.inl (e _ _ h))
  · exact .inl (.inr ⟨o, e _ _ h⟩)
  · exact .inr h
theorem tk1 {α : Type} {l : List α} {i : Nat} {a : α} (h : l[i]? = some a) : l.take (i + 1) = l.take i ++ [a] := by rw [List.take_add_one, h]; rfl
/-! ### names -/
def reserved : List Str := ["block", "part", "end", "self"]
def isL (c : Nat) : Bool := decide (97 ≤ c) && decide (c ≤ 122)
def isNm (x : Str) : Bool := decide (1 ≤ x.length) && decide (x.length ≤ 8) && !decide (x ∈ reserved) && x.cps.toList.all isL
def isNmD : PyData → Bool
  | .str x => isNm x
  | _ => false
/-- what the texts module has -/
structure Txt (K : PySem.W.Frag) (mg : Str → Option Value) : Prop where
  le : ∃ t, mg "LETTERS" = some (.str "abcdefghijklmnopqrstuvwxyz" t)
  ml : ∃ t, mg "MOST_LETTERS" = some (.int 8 t)
  re : ∃ a, mg "RESERVED_WORDS" = some (.ref a) ∧ ∀ H, SqT K H a (reserved.map V.str)
  is_ : mg "isinstance" = none
  zl : mg "len" = none
  za : mg "all" = none
  zs : mg "str" = none
  zt : mg "tuple" = none
theorem isL_in (c : Nat) : decide (c ∈ (("abcdefghijklmnopqrstuvwxyz" : Str)).cps.toList) = isL c := by
  have e : (("abcdefghijklmnopqrstuvwxyz" : Str)).cps.toList = (List.range 26).map (· + 97) := by decide +kernel
  rw [e]
  unfold isL
  by_cases h : 97 ≤ c ∧ c ≤ 122
  · rw [decide_eq_true h.1, decide_eq_true h.2]
    exact decide_eq_true (List.mem_map.mpr ⟨c - 97, List.mem_range.mpr (by omega), by omega⟩)
  · have : ¬ c ∈ (List.range 26).map (· + 97) := fun hm => by
      obtain ⟨k, hk, rfl⟩ := List.mem_map.mp hm
      have := List.mem_range.mp hk
      omega
    rw [decide_eq_false this]
    by_cases h1 : 97 ≤ c
    · rw [decide_eq_true h1, decide_eq_false (fun h2 => h ⟨h1, h2⟩)]
      rfl
    · rw [decide_eq_false h1]
      rfl
theorem inV_strs (z : Str) (l : List Str) : inV (.str z) (l.map V.str) = decide (z ∈ l) := by
  induction l with
  | nil => rfl
  | cons a r ih =>
    show (eqV (.str a) (.str z) || inV (.str z) (r.map V.str)) = _
    rw [ih]
    have e : eqV (.str a) (.str z) = decide (z = a) := by
      show (a == z) = _
      by_cases h : z = a
      · rw [decide_eq_true h, h]
        exact beq_self_eq_true _
      · rw [decide_eq_false h]
        exact beq_eq_false_iff_ne.mpr fun q => h q.symm
    rw [e]
    by_cases h : z = a
    · simp [h]
    · simp [h]
theorem isNm_len {x : Str} (h : isNm x = true) : 1 ≤ x.length ∧ x.length ≤ 8 := by
  unfold isNm at h
  simp only [Bool.and_eq_true, decide_eq_true_eq] at h
  exact ⟨h.1.1.1, h.1.1.2⟩
def spName : Sp := fun vs H Q _ => ∃ (N : List Addr) (v : V) (d : PyData), vs = [v] ∧ Dq N H v d ∧ (∀ x, d = .str x → x.length ≤ 100) ∧ ∀ H', Same H H' → Q (.bl (isNmD d)) H'
section
variable {P : Program} {w : World} {K : PySem.W.Frag} {mg : Str → Option Value} {base : Heap}
abbrev nN : List Str := ["value", "letter"]
theorem scN : FnScope nN ["value"] (defScope sName) := ⟨rfl, rfl, rfl, by decide +kernel, rfl, by decide +kernel, by decide +kernel⟩
theorem ok_name {f : Addr} {fd : FuncData} (F : Fun K "is_name" "is_name" sName f fd) (T : Txt K mg) : FnOk P w K mg base CX0 1 f fd ["value"] spName := by
  refine F.ok scN (fun vs H Q E h => ?_) (fun cdv A outer s H vs Q E hr h => ?_)
  · obtain ⟨N, v, d, rfl, _⟩ := h
    rfl
  obtain ⟨N, v, d, rfl, hd, hz, k⟩ := h
  obtain ⟨tL, mL⟩ := T.le
  obtain ⟨tM, mM⟩ := T.ml
  obtain ⟨aR, mR, hR⟩ := T.re
  refine ⟨_, pss_cons (ps_if (PW.pt (pw_or (pt_not (pt_val (pe_callB (id := "isinstance") call_isi (by rfl) T.is_ (by decide +kernel) (pa_cons (pv 0) (pa_cons (pe_bltn (v := .ty "str") rfl T.zs PyProof.Rows.Boot.«str» rfl) pa_nil)))))
        (pw_or1 (pt_not (pt_chain op_le op_le pe_int (pe_callB call_len_str (by rfl) T.zl PySem.boot_len (pa_cons (pv 0) pa_nil)) (pe_glob (v := .int 8) rfl mM ⟨_, rfl⟩)))))) (pss_one (ps_ret pe_bl)) pss_nil)
    (pss_one (ps_ret (pe_and (pe_cmpR op_notIn_seq (pv 0) (pe_glob (v := .ref aR) rfl mR rfl) (by rfl)) (pe_one (pe_callB (cr_all rfl) (by rfl) T.za (by decide +kernel) (pa_cons (pe_lc (own := [("letter", 1)]) (g := gName 1) rfl scN.nd (pi_str (pv 0)) (blkOk_by (own := [("letter", 1)]) (N := nN) (sc := defScope sName) (by decide +kernel)) (fun _ _ _ _ _ => pg_name (i := 1) scN.nd rfl (Or.inl rfl)) (fun _ _ _ _ _ => pts_nil)
        (fun _ _ _ _ _ => pe_cmpR op_in_sign (pv 1) (pe_glob (v := .str "abcdefghijklmnopqrstuvwxyz") rfl mL ⟨_, rfl⟩) (by rfl))) pa_nil)))))), ?_⟩
  obtain ⟨t, ty, ks, _⟩ := dq_ty (K := K) hd
  refine ⟨_, rfl, v, _, t, _, isStr d, rfl, .ty "str", ty, ks, _, rfl, ?_⟩
  by_cases hs : isStr d = true
  case neg =>
    have e1 : isStr d = false := by simpa using hs
    have e2 : isNmD d = false := by cases d <;> first | rfl | exact absurd rfl hs
    rw [e1]
    refine iteT ?_
    rw [← e2]
    exact k H (Same.refl H)
  obtain ⟨x, rfl⟩ : ∃ x, d = .str x := by cases d <;> first | exact ⟨_, rfl⟩ | cases hs
  cases hd
  have hx0 := hz x rfl
  have hx : x.length ≤ sizeLine := big (by omega)
  have hsz : x.cps.toList.length = x.length := by simp [Str.length]
  refine iteF ⟨_, rfl, _, rfl, hx, _, _, rfl, rfl, _, rfl, ?_⟩
  have back : ∀ H', Same H H' → isNm x = false → Q (.bl false) H' := fun H' s' e => by
    have z := k H' s'
    rw [show isNmD (.str x) = isNm x from rfl, e] at z
    exact z
  by_cases h1 : (1 : Int) ≤ (x.length : Int)
  case neg =>
    rw [decide_eq_false h1]
    refine iteF ⟨_, rfl, iteT (back H (Same.refl H) ?_)⟩
    unfold isNm
    rw [decide_eq_false (show ¬ 1 ≤ x.length by omega)]
    rfl
  rw [decide_eq_true h1]
  refine iteT ⟨_, _, rfl, rfl, _, rfl, ?_⟩
  by_cases h2 : (x.length : Int) ≤ 8
  case neg =>
    rw [decide_eq_false h2]
    refine iteT (back H (Same.refl H) ?_)
    unfold isNm
    rw [decide_eq_false (show ¬ x.length ≤ 8 by omega), Bool.and_false]
    rfl
  rw [decide_eq_true h2]
  refine iteF ⟨_, rfl, aR, _, rfl, .inr (hR H), rfl, rfl, _, rfl, ?_⟩
  show if (!inV (.str x) (reserved.map V.str)) = true then _ else _
  rw [inV_strs]
  by_cases h3 : x ∈ reserved
  · rw [decide_eq_true h3]
    refine iteF (back H (Same.refl H) ?_)
    unfold isNm
    rw [decide_eq_true h3, Bool.not_true, Bool.and_false, Bool.false_and]
  rw [decide_eq_false h3]
  refine iteT ⟨_, rfl, x, rfl, fun D hD => ?_⟩
  refine lc_it walk_str (fun i H' => Same H H' ∧ H' D = some (.lst ((x.cps.toList.take i).map fun c => V.bl (isL c)))) ⟨upd_new hD, upd_same⟩ (fun _ _ _ _ => True.intro) ?_ ?_
  · rintro i v H1 H2 hi ⟨s1, a1⟩ ⟨rfl, c, hc, rfl⟩
    have hc' : x.cps.toList[i]? = some c := by simpa using hc
    refine ⟨rfl, ?_⟩
    refine ⟨_, rfl, c, _, rfl, rfl, ?_⟩
    rw [isL_in]
    have hl : ((x.cps.toList.take i).map fun c => V.bl (isL c)).length < sizeLine := by
      rw [List.length_map, List.length_take]
      exact lt1 (by omega)
    refine ⟨_, a1, hl, same_put s1 hD, ?_⟩
    rw [upd_same, List.take_succ, hc']
    simp
  rintro H1 ⟨s1, a1⟩
  rw [List.take_of_length_le (show x.cps.toList.length ≤ x.cps.size by simp)] at a1
  refine ⟨D, x.cps.toList.map isL, rfl, .of (by rw [a1, List.map_map]; rfl), ?_⟩
  have hall : (x.cps.toList.map isL).all id = x.cps.toList.all isL := by rw [List.all_map]; rfl
  rw [hall]
  have z := k H1 s1
  have e : isNm x = x.cps.toList.all isL := by
    unfold isNm
    rw [decide_eq_true (show 1 ≤ x.length by omega), decide_eq_true (show x.length ≤ 8 by omega), decide_eq_false h3]
    simp
  rw [show isNmD (.str x) = isNm x from rfl, e] at z
  exact z
end
/-! ### names in a tuple; bounded values -/
def namesL : List PyData → Option (List Str)
  | [] => some []
  | .str x :: r => if isNm x = true then (namesL r).map (x :: ·) else none
  | _ :: _ => none
def namesOf : PyData → Option (List Str)
  | .tuple ds => namesL ds
  | _ => none
theorem namesL_str (x : Str) (r : List PyData) : namesL (.str x :: r) = if isNm x = true then (namesL r).map (x :: ·) else none := rfl
theorem namesL_all : ∀ ds : List PyData, ds.all isNmD = (namesL ds).isSome
  | [] => rfl
  | d :: r => by
    rw [List.all_cons, namesL_all r]
    cases d with
    | str x =>
      rw [namesL_str, show isNmD (.str x) = isNm x from rfl]
      by_cases h : isNm x = true
      · rw [h, if_pos rfl, Option.isSome_map, Bool.true_and]
      · rw [if_neg h]
        have : isNm x = false := by simpa using h
        rw [this]
        rfl
    | _ => rfl
theorem namesL_eq : ∀ {ds : List PyData} {xs : List Str}, namesL ds = some xs → ds = xs.map PyData.str ∧ ∀ x ∈ xs, isNm x = true
  | [], xs, h => by
    cases h
    exact ⟨rfl, fun _ h => by cases h⟩
  | d :: r, xs, h => by
    cases d with
    | str x =>
      rw [namesL_str] at h
      by_cases hx : isNm x = true
      · rw [if_pos hx] at h
        obtain ⟨l, e, rfl⟩ := Option.map_eq_some_iff.mp h
        obtain ⟨a, b⟩ := namesL_eq e
        refine ⟨by rw [a]; rfl, fun y hy => ?_⟩
        rcases List.mem_cons.mp hy with rfl | hy
        · exact hx
        · exact b y hy
      · rw [if_neg hx] at h
        cases h
    | _ => cases h
theorem namesL_of : ∀ {xs : List Str}, (∀ x ∈ xs, isNm x = true) → namesL (xs.map PyData.str) = some xs
  | [], _ => rfl
  | x :: r, h => by
    show namesL (.str x :: r.map PyData.str) = _
    rw [namesL_str, namesL_of fun y hy => h y (List.mem_cons_of_mem _ hy), if_pos (h x List.mem_cons_self)]
    rfl
def Asc (x : Str) : Prop := ∀ c ∈ x.cps.toList, c < 128
/-- the odd ones -/
def Atom (d : PyData) : Prop := d = .none ∨ (∃ b, d = .bool b) ∨ (∃ i, d = .int i ∧ 0 ≤ i ∧ i < 10) ∨ (∃ x, d = .str x ∧ x.length ≤ 9 ∧ Asc x) ∨ d = kvD [] ∨ d = kvD [("i", 1)] ∨
  d = .list [] ∨ d = .list [.str "i"] ∨ d = .tuple [] ∨ d = .tuple [.str "i"] ∨ d = .tuple [.str "p"] ∨ d = .tuple [.tuple [], .tuple []] ∨ d = .tuple [.tuple [.str "p"], .tuple []]
def Ok : Nat → PyData → Prop
  | 0, d => Atom d
  | k + 1, d => Ok k d ∨ ∃ ds, (d = .tuple ds ∨ d = .list ds) ∧ ds.length ≤ 12 ∧ ∀ e ∈ ds, Ok k e
theorem Ok.up {k : Nat} {d : PyData} (h : Ok k d) : Ok (k + 1) d := .inl h
theorem asc1 (c : Nat) (h : c < 128) : Asc ⟨#[c]⟩ := fun e he => by
  have : e = c := by simpa using he
  omega
theorem atom_p : Atom (.str "p") := .inr (.inr (.inr (.inl ⟨_, rfl, by decide +kernel, asc1 112 (by decide)⟩)))
theorem atom_i : Atom (.str "i") := .inr (.inr (.inr (.inl ⟨_, rfl, by decide +kernel, asc1 105 (by decide)⟩)))
theorem atom_e : Atom (.tuple []) := by unfold Atom; simp
theorem atom_tp : Atom (.tuple [.str "p"]) := by unfold Atom; simp
theorem Ok.kids : ∀ {k : Nat} {ds : List PyData}, Ok k (.tuple ds) → ds.length ≤ 12 ∧ ∀ e ∈ ds, Ok k e
  | 0, ds, h => by
    rcases h with h | ⟨_, h⟩ | ⟨_, h, _⟩ | ⟨_, h, _⟩ | h | h | h | h | h | h | h | h | h
    · cases h
    · cases h
    · cases h
    · cases h
    · cases h
    · cases h
    · cases h
    · cases h
    · cases h
      exact ⟨by decide, fun _ h => by cases h⟩
    · cases h
      exact ⟨by decide, fun e he => by rw [List.mem_singleton.mp he]; exact atom_i⟩
    · cases h
      exact ⟨by decide, fun e he => by rw [List.mem_singleton.mp he]; exact atom_p⟩
    · cases h
      refine ⟨by decide, fun e he => ?_⟩
      simp only [List.mem_cons, List.not_mem_nil, or_false, or_self] at he
      rw [he]
      exact atom_e
    · cases h
      refine ⟨by decide, fun e he => ?_⟩
      simp only [List.mem_cons, List.not_mem_nil, or_false] at he
      rcases he with rfl | rfl
      · exact atom_tp
      · exact atom_e
  | k + 1, ds, h => by
    rcases h with h | ⟨es, h | h, hl, hk⟩
    · obtain ⟨a, b⟩ := Ok.kids h
      exact ⟨a, fun e he => (b e he).up⟩
    · cases h
      exact ⟨hl, fun e he => (hk e he).up⟩
    · cases h
theorem Ok.str : ∀ {k : Nat} {x : Str}, Ok k (.str x) → x.length ≤ 9
  | 0, x, h => by
    rcases h with h | ⟨_, h⟩ | ⟨_, h, _⟩ | ⟨_, h, h1, _⟩ | h | h | h | h | h | h | h | h | h
    all_goals first | (cases h; exact h1) | cases h
  | k + 1, x, h => by
    rcases h with h | ⟨es, h | h, _⟩
    · exact Ok.str h
    · cases h
    · cases h
end K22
namespace K22
open PySem L2 Own StX ClX NdefX
theorem names_at {N : List Addr} {H : Hp} {v : V} {d : PyData} {xs : List Str} (h : Dq N H v d) (e : namesOf d = some xs) : ∃ a, v = .ref a ∧ a ∉ N ∧ IxT H a (xs.map V.str) ∧ d = .tuple (xs.map PyData.str) ∧ ∀ x ∈ xs, isNm x = true := by
  cases d with
  | tuple ds =>
    obtain ⟨e1, e2⟩ := namesL_eq (show namesL ds = some xs from e)
    subst e1
    cases h with
    | @tup a vs _ n h1 h2 =>
      rw [strs_dq _ _ h2] at h1
      exact ⟨a, rfl, n, h1, rfl, e2⟩
  | _ => cases e
/-- at most eight names -/
def pOk (d : PyData) : Bool := match namesOf d with
  | some xs => decide (xs.length ≤ 8)
  | none => false
def ndOk (d e : PyData) : Bool := match namesOf d, namesOf e with
  | some xs, some ys => decide (xs ++ ys).Nodup
  | _, _ => false
def portsOk (d e : PyData) : Bool := pOk d && pOk e && ndOk d e
theorem pOk_names {d : PyData} (h : pOk d = true) : ∃ xs, namesOf d = some xs ∧ xs.length ≤ 8 := by
  unfold pOk at h
  cases e : namesOf d with
  | none => rw [e] at h; cases h
  | some xs =>
    rw [e] at h
    exact ⟨xs, rfl, of_decide_eq_true h⟩
theorem pOk_eq {d : PyData} {xs : List Str} (h : namesOf d = some xs) : pOk d = decide (xs.length ≤ 8) := by
  unfold pOk
  rw [h]
theorem ndOk_eq {d e : PyData} {xs ys : List Str} (h : namesOf d = some xs) (k : namesOf e = some ys) : ndOk d e = decide (xs ++ ys).Nodup := by
  unfold ndOk
  rw [h, k]
def spPorts : Sp := fun vs H Q _ => ∃ (N : List Addr) (v w : V) (d e : PyData), vs = [v, w, .int 8] ∧ Dq N H v d ∧ Dq N H w e ∧ Ok 4 d ∧ Ok 4 e ∧ ∀ H', Same H H' → Q (.bl (portsOk d e)) H'
section
variable {P : Program} {w : World} {K : PySem.W.Frag} {mg : Str → Option Value} {base : Heap}
abbrev nPo : List Str := ["inputs", "outputs", "most", "value", "name"]
theorem scPo : FnScope nPo ["inputs", "outputs", "most"] (defScope sPorts) := ⟨rfl, rfl, rfl, by decide +kernel, rfl, by decide +kernel, by decide +kernel⟩
theorem ok_ports {f fN : Addr} {fd fdN : FuncData} (F : Fun K "are_port_names" "are_port_names" sPorts f fd) (T : Txt K mg) (zse : mg "set" = none) (GN : FnOk P w K mg base CX0 1 fN fdN ["value"] spName) (mN : mg "is_name" = some (.ref fN)) (kN : PySem.W.keepIn K (.ref fN) = true) (bN : Binds K fdN ["value"] []) :
    FnOk P w K mg base CX0 2 f fd ["inputs", "outputs", "most"] spPorts := by
  refine F.ok scPo (fun vs H Q E h => ?_) (fun cdv A outer s H vs Q E hr h => ?_)
  · obtain ⟨N, i, o, _, _, rfl, _⟩ := h
    rfl
  obtain ⟨N, i, o, d, e, rfl, hi, ho, okd, oke, k⟩ := h
  refine ⟨_, pss_cons (ps_for PassesOwn.never rfl (pi_tup (pe_tup (pa_cons (pv 0) (pa_cons (pv 1) pa_nil)))) (pg_name (i := 3) scPo.nd rfl (.inl rfl))
      (pss_one (ps_if (PW.pt (pw_or (pt_not (pt_val (pe_callB (id := "isinstance") call_isi (by rfl) T.is_ (by decide +kernel) (pa_cons (pv 3) (pa_cons (pe_bltn (v := .ty "tuple") rfl T.zt PyProof.Rows.Boot.«tuple» rfl) pa_nil)))))
        (pw_or (pt_cmpR op_gt (pe_callB call_len_seq (by rfl) T.zl PySem.boot_len (pa_cons (pv 3) pa_nil)) (pv 2) (nomark _))
        (pw_or1 (pt_not (pt_val (pe_callB (cr_all rfl) (by rfl) T.za (by decide +kernel) (pa_cons (pe_lc (own := [("name", 4)]) (g := gName 4) rfl scPo.nd (pi_tup (pv 3)) (blkOk_by (own := [("name", 4)]) (N := nPo) (sc := defScope sPorts) (by decide +kernel)) (fun _ _ _ _ _ => pg_name (i := 4) scPo.nd rfl (Or.inl rfl)) (fun _ _ _ _ _ => pts_nil)
          (fun _ _ _ _ _ => pe_call GN hr rfl mN kN bN .nil pass0 (pa_cons (pv 4) pa_nil))) pa_nil)))))))) (pss_one (ps_ret pe_bl)) pss_nil)))
    (pss_one (ps_ret (pe_cmpR op_eq (pe_lenSetT rfl rfl T.zl rfl zse (pe_op op_catF (pv 0) (pv 1))) (pe_op op_add (pe_callB call_len_seq (by rfl) T.zl PySem.boot_len (pa_cons (pv 0) pa_nil)) (pe_callB call_len_seq (by rfl) T.zl PySem.boot_len (pa_cons (pv 1) pa_nil))) (nomark _)))), ?_⟩
  refine ⟨_, rfl, _, rfl, small1 (by show 2 ≤ 8; decide), fun t ht => ?_⟩
  have s1 := upd_new (o := HO.tup [i, o]) ht
  have g1 := upd_same (H := H) (a := t) (o := HO.tup [i, o])
  generalize upd H t (HO.tup [i, o]) = H1 at s1 g1 ⊢
  have item : ∀ {j : Nat} {x : V}, [i, o][j]? = some x → ∃ c, Dq N H x c ∧ Ok 4 c ∧ [d, e][j]? = some c := fun {j x} hx => by
    match j, hx with
    | 0, hx => cases hx; exact ⟨d, hi, okd, rfl⟩
    | 1, hx => cases hx; exact ⟨e, ho, oke, rfl⟩
  have bad : ∀ {j : Nat} {c : PyData}, [d, e][j]? = some c → pOk c = false → portsOk d e = false := fun {j c} hx hc => by
    unfold portsOk
    match j, hx with
    | 0, hx => cases hx; rw [hc]; rfl
    | 1, hx => cases hx; rw [hc, Bool.and_false]; rfl
  refine ⟨t, rfl, ⟨_, .of g1⟩, for_tup (K := K) (a := t) (xs := [i, o]) (fun j σ H2 => ∃ u3, σ = [some i, some o, some (.int 8), u3, none] ∧ Same H1 H2 ∧ ∀ m c, m < j → [d, e][m]? = some c → pOk c = true) ⟨_, rfl, Same.refl _, fun m c z => absurd z (Nat.not_lt_zero m)⟩ (fun j σ H2 _ q => by
      obtain ⟨_, _, s, _⟩ := q
      exact .of (s _ _ g1)) ?turn ?done⟩
  case turn =>
    rintro j x σ H2 hx ⟨u3, rfl, s2, okj⟩
    obtain ⟨c, hc, okc, hcj⟩ := item hx
    have s12 := s1.trans s2
    have hc2 := dq_same s12 hc
    obtain ⟨ty, tyx, _, kt⟩ := dq_ty (K := K) hc2
    have ret : ∀ H', Same H H' → pOk c = false → Q (.bl false) H' := fun H' s' z => by
      have q := k H' s'
      rw [bad hcj z] at q
      exact q
    refine ⟨_, rfl, x, _, ty, _, isTup c, rfl, .ty "tuple", tyx, kt, _, rfl, ?_⟩
    by_cases htp : isTup c = true
    case neg =>
      have e1 : isTup c = false := by simpa using htp
      have e2 : pOk c = false := by cases c <;> first | rfl | exact absurd rfl htp
      rw [e1]
      exact iteT (ret H2 s12 e2)
    obtain ⟨cs, rfl⟩ : ∃ cs, c = .tuple cs := by cases c <;> first | exact ⟨_, rfl⟩ | cases htp
    cases hc2 with
    | @tup b xs _ n h1 h2 =>
    have hkids := okc.kids
    refine iteF ⟨_, rfl, b, _, rfl, .inr h1.sq, _, rfl, _, _, rfl, rfl, _, rfl, ?_⟩
    by_cases h8 : ((xs.length : Nat) : Int) > 8
    · rw [decide_eq_true h8]
      refine iteT (ret H2 s12 ?_)
      unfold pOk
      cases en : namesOf (.tuple cs) with
      | none => rfl
      | some ys =>
        obtain ⟨e1, _⟩ := namesL_eq (show namesL cs = some ys from en)
        have e2 := h2.len
        rw [e1, List.length_map] at e2
        exact decide_eq_false (by omega)
    rw [decide_eq_false h8]
    refine iteF ⟨_, rfl, b, rfl, ⟨_, h1.sq⟩, fun D hD => ?_⟩
    refine lc_tup (K := K) (a := b) (xs := xs) (fun m H' => Same H2 H' ∧ H' D = some (.lst (((cs.take m).map fun c => V.bl (isNmD c))))) ⟨upd_new hD, upd_same⟩ (fun m H' _ p => sqT_same p.1 h1.sq) ?_ ?_
    · rintro m v H3 hm ⟨s3, a3⟩
      obtain ⟨y, hy, hyd⟩ := h2.get m v hm
      refine ⟨rfl, _, rfl, N, v, y, rfl, dq_same s3 hyd, fun x ex => ?_, fun H4 s4 => ⟨_, s4 _ _ a3, lt1 ?_, same_put (s3.trans s4) hD, ?_⟩⟩
      · subst ex
        have := (hkids.2 _ (List.mem_of_getElem? hy)).str
        omega
      · rw [List.length_map, List.length_take]
        have := hkids.1
        omega
      · rw [upd_same, tk1 hy, List.map_append]
        rfl
    rintro H3 ⟨s3, a3⟩
    rw [h2.len, List.take_length] at a3
    refine ⟨D, cs.map isNmD, rfl, .of (by rw [a3, List.map_map]; rfl), _, rfl, ?_⟩
    have e2 : (cs.map isNmD).all id = (namesL cs).isSome := by rw [List.all_map, ← namesL_all]; rfl
    rw [e2]
    cases en : namesL cs with
    | none => exact iteT (ret H3 (s12.trans s3) (by unfold pOk; rw [show namesOf (.tuple cs) = namesL cs from rfl, en]))
    | some ys =>
      refine iteF ⟨_, rfl, s2.trans s3, fun m c' hm hc' => ?_⟩
      by_cases hmj : m < j
      · exact okj m c' hmj hc'
      · have : m = j := by omega
        subst this
        rw [hcj] at hc'
        cases hc'
        rw [pOk_eq (show namesOf (.tuple cs) = some ys from en)]
        obtain ⟨e1, _⟩ := namesL_eq en
        have e2 := h2.len
        rw [e1, List.length_map] at e2
        exact decide_eq_true (by omega)
  rintro σ H2 ⟨u3, rfl, s2, okj⟩
  have p1 := okj 0 d (by show 0 < 2; decide) rfl
  have p2 := okj 1 e (by show 1 < 2; decide) rfl
  obtain ⟨ins, en1, l1⟩ := pOk_names p1
  obtain ⟨outs, en2, l2⟩ := pOk_names p2
  have s3 := s1.trans s2
  obtain ⟨a, rfl, _, ha, _⟩ := names_at (dq_same s3 hi) en1
  obtain ⟨b, rfl, _, hb, _⟩ := names_at (dq_same s3 ho) en2
  have res : portsOk d e = decide (ins ++ outs).Nodup := by
    unfold portsOk
    rw [p1, p2, ndOk_eq en1 en2]
    rfl
  rw [res] at k
  refine ⟨_, rfl, _, rfl, a, b, _, _, rfl, rfl, ha, hb, by rw [List.length_map, List.length_map]; exact big (by omega), fun p H4 s4 hp => ?_⟩
  refine ⟨p, ins ++ outs, rfl, (by rw [List.map_append]; exact hp.sq), by rw [List.length_append]; omega, fun c hle hc => ⟨_, rfl, a, _, rfl, .inr (ixT_same s4 ha).sq, _, rfl, b, _, rfl, .inr (ixT_same s4 hb).sq, _, _, rfl, rfl, rfl, ?_⟩⟩
  have fin := k H4 (s3.trans s4)
  rw [List.length_map, List.length_map]
  by_cases hn : (ins ++ outs).Nodup
  · rw [decide_eq_true hn] at fin
    have := hc.mpr hn
    rw [List.length_append] at this
    rw [decide_eq_true (congrArg V.int (by omega))]
    exact fin
  · rw [decide_eq_false hn] at fin
    have nc : ¬ c = (ins ++ outs).length := fun z => hn (hc.mp z)
    rw [List.length_append] at nc
    rw [decide_eq_false fun z => nc (by have := V.int.inj z; omega)]
    exact fin
/-! ### _is_selection -/
def selOf (ns : List Str) : PyData → Bool
  | .tuple ds => eqSs ds (ns.filter fun n => ds.any (isS n))
  | _ => false
def spSel : Sp := fun vs H Q _ => ∃ (N : List Addr) (v : V) (d : PyData) (b : Addr) (ns : List Str), vs = [v, .ref b] ∧ Dq N H v d ∧ IxT H b (ns.map V.str) ∧ ns.length ≤ 1000 ∧ ∀ H', Same H H' → Q (.bl (selOf ns d)) H'
theorem scSe : FnScope ["value", "names", "name"] ["value", "names"] (defScope sSel) := ⟨rfl, rfl, rfl, by decide +kernel, rfl, by decide +kernel, by decide +kernel⟩
theorem ok_sel {f : Addr} {fd : FuncData} (F : Fun K "_is_selection" "_is_selection" sSel f fd) (T : Txt K mg) (ml : mg "list" = none) : FnOk P w K mg base CX0 1 f fd ["value", "names"] spSel := by
  refine F.ok scSe (fun vs H Q E h => ?_) (fun cdv A outer s H vs Q E hr h => ?_)
  · obtain ⟨N, v, d, b, ns, rfl, _⟩ := h
    rfl
  obtain ⟨N, v, d, b, ns, rfl, hd, hb, hbl, k⟩ := h
  have hu := hr.units
  have hu1 := Nat.lt_of_le_of_lt (Nat.add_le_add_left (show 1 ≤ 64 by decide) _) hu
  refine ⟨_, pss_one (ps_ret (pe_and (pe_callB (id := "isinstance") call_isi (by rfl) T.is_ (by decide +kernel) (pa_cons (pv 0) (pa_cons (pe_bltn (v := .ty "tuple") rfl T.zt PyProof.Rows.Boot.«tuple» rfl) pa_nil))) (pe_one (pe_cmpR (show OpR _ (compareOp .Eq) (rEqLS K) from op_eqLS hu1) (pe_callTy call_list_of (by rfl) ml (by decide +kernel) (pa_cons (pv 0) pa_nil))
      (pe_lc (own := [("name", 2)]) (g := gName 2) rfl scSe.nd (pi_tup (pv 1)) (blkOk_by (own := [("name", 2)]) (N := ["value", "names", "name"]) (sc := defScope sSel) (by decide +kernel)) (fun _ _ _ _ _ => pg_name (i := 2) scSe.nd rfl (Or.inl rfl)) (fun _ _ _ _ _ => pts_one (pt_cmpR (show OpR _ (compareOp .In) (rInD K) from op_inD hu1) (pv 2) (pv 0) (by rfl)))
        (fun _ _ _ _ _ => pv 2)) (nomark _))))), ?_⟩
  obtain ⟨ty, tyx, _, kt⟩ := dq_ty (K := K) hd
  refine ⟨_, rfl, v, _, ty, _, isTup d, rfl, .ty "tuple", tyx, kt, _, rfl, ?_⟩
  by_cases htp : isTup d = true
  case neg =>
    have e1 : isTup d = false := by simpa using htp
    have e2 : selOf ns d = false := by cases d <;> first | rfl | exact absurd rfl htp
    rw [e1]
    refine iteF ?_
    have z := k H (Same.refl H)
    rw [e2] at z
    exact z
  obtain ⟨cs, rfl⟩ : ∃ cs, d = .tuple cs := by cases d <;> first | exact ⟨_, rfl⟩ | cases htp
  cases hd with
  | @tup a xs _ n h1 h2 =>
  refine iteT ⟨_, rfl, a, _, rfl, .inr h1.sq, fun l hl => ?_⟩
  have s2 := upd_new (o := HO.lst xs) hl
  have gl : (upd H l (.lst xs)) l = some (.lst xs) := upd_same
  show tLc _ _ _ _ _ _ (upd H l (.lst xs)) _
  generalize upd H l (.lst xs) = H2 at s2 gl ⊢
  refine ⟨_, rfl, b, rfl, ⟨_, (ixT_same s2 hb).sq⟩, fun D hD => ?_⟩
  refine lc_tup (K := K) (a := b) (xs := ns.map V.str) (fun i H' => Same H2 H' ∧ H' D = some (.lst (((ns.take i).filter fun n => cs.any (isS n)).map V.str))) ⟨upd_new hD, upd_same⟩ (fun i H' _ p => (ixT_same p.1 (ixT_same s2 hb)).sq) ?_ ?_
  · rintro i v H3 hi ⟨s3, a3⟩
    rw [List.getElem?_map] at hi
    obtain ⟨x, hx, rfl⟩ := Option.map_eq_some_iff.mp hi
    refine ⟨rfl, _, rfl, _, rfl, N, x, a, xs, cs, rfl, rfl, ixT_same (s2.trans s3) h1, dq_sames (s2.trans s3) h2, _, rfl, ?_⟩
    rw [tk1 hx]
    cases hm : cs.any (isS x) with
    | true =>
      refine iteT ⟨_, rfl, _, a3, ?_, same_put s3 hD, ?_⟩
      · rw [List.length_map]
        refine Nat.lt_of_le_of_lt (Nat.le_trans (List.length_filter_le _ _) (by rw [List.length_take]; exact Nat.le_trans (Nat.min_le_right _ _) hbl)) (by rw [sizeLine_eq]; omega)
      · rw [upd_same, List.filter_append]
        simp [hm]
    | false =>
      refine iteF ⟨s3, ?_⟩
      rw [a3, List.filter_append]
      simp [hm]
  rintro H3 ⟨s3, a3⟩
  rw [List.take_of_length_le (by rw [List.length_map]; exact Nat.le_refl _)] at a3
  exact ⟨N, l, D, xs, cs, _, rfl, rfl, s3 _ _ gl, dq_sames (s2.trans s3) h2, a3, k H3 (s2.trans s3)⟩
end
/-- a selection is a tuple of names of the list -/
theorem sel_names {ns : List Str} {d : PyData} (hn : ∀ x ∈ ns, isNm x = true) (h : selOf ns d = true) : ∃ xs, namesOf d = some xs ∧ d = .tuple (xs.map PyData.str) ∧ xs.Sublist ns := by
  cases d with
  | tuple ds =>
    have e := eqSs_iff.mp (show eqSs ds (ns.filter fun n => ds.any (isS n)) = true from h)
    have hx : ∀ x ∈ ns.filter fun n => ds.any (isS n), isNm x = true := fun x hx => hn x (List.mem_filter.mp hx).1
    refine ⟨ns.filter fun n => ds.any (isS n), ?_, congrArg PyData.tuple e, List.filter_sublist⟩
    have q := namesL_of hx
    rw [← e] at q
    exact q
  | _ => cases h
/-! ### _is_step_function -/
def noneIn : PyData → Bool
  | .tuple [] => true
  | _ => false
def stepOk (ins outs : List Str) : PyData → Bool
  | .tuple [n, m] => selOf outs n && !noneIn n && selOf ins m
  | _ => false
def spStep : Sp := fun vs H Q _ => ∃ (N : List Addr) (v : V) (d : PyData) (i o : Addr) (ins outs : List Str), vs = [v, .ref i, .ref o] ∧ Dq N H v d ∧ IxT H i (ins.map V.str) ∧ IxT H o (outs.map V.str) ∧ ins.length ≤ 1000 ∧ outs.length ≤ 1000 ∧ (∀ x ∈ outs, isNm x = true) ∧ ∀ H', Same H H' → Q (.bl (stepOk ins outs d)) H'
section
variable {P : Program} {w : World} {K : PySem.W.Frag} {mg : Str → Option Value} {base : Heap}
abbrev nS : List Str := ["value", "inputs", "outputs", "names", "needs"]
theorem scSt : FnScope nS ["value", "inputs", "outputs"] (defScope sStep) := ⟨rfl, rfl, rfl, by decide +kernel, rfl, by decide +kernel, by decide +kernel⟩
theorem ok_step {f fS : Addr} {fd fdS : FuncData} (F : Fun K "_is_step_function" "_is_step_function" sStep f fd) (T : Txt K mg) (GS : FnOk P w K mg base CX0 1 fS fdS ["value", "names"] spSel) (mS : mg "_is_selection" = some (.ref fS)) (kS : PySem.W.keepIn K (.ref fS) = true) (bS : Binds K fdS ["value", "names"] []) :
    FnOk P w K mg base CX0 2 f fd ["value", "inputs", "outputs"] spStep := by
  refine F.ok scSt (fun vs H Q E h => ?_) (fun cdv A outer s H vs Q E hr h => ?_)
  · obtain ⟨N, v, d, i, o, ins, outs, rfl, _⟩ := h
    rfl
  obtain ⟨N, v, d, i, o, ins, outs, rfl, hd, hi, ho, hil, hol, hon, k⟩ := h
  refine ⟨_, pss_cons (ps_if (PW.pt (pw_or (pt_not (pt_val (pe_callB (id := "isinstance") call_isi (by rfl) T.is_ (by decide +kernel) (pa_cons (pv 0) (pa_cons (pe_bltn (v := .ty "tuple") rfl T.zt PyProof.Rows.Boot.«tuple» rfl) pa_nil)))))
        (pw_or1 (pt_cmpR op_ne (pe_callB call_len_seq (by rfl) T.zl PySem.boot_len (pa_cons (pv 0) pa_nil)) pe_int (nomark _))))) (pss_one (ps_ret pe_bl)) pss_nil)
    (pss_cons (ps_asg (pv 0) (pg_tup (by rfl) (pgs_cons (pg_name (i := 3) scSt.nd rfl (.inl rfl)) (pgs_cons (pg_name (i := 4) scSt.nd rfl (.inl rfl)) pgs_nil))))
    (pss_one (ps_ret (pe_and (pe_call GS hr rfl mS kS bS .nil pass0 (pa_cons (pv 3) (pa_cons (pv 2) pa_nil))) (pe_and (pe_cmpR op_gt (pe_callB call_len_seq (by rfl) T.zl PySem.boot_len (pa_cons (pv 3) pa_nil)) pe_int (nomark _)) (pe_one (pe_call GS hr rfl mS kS bS .nil pass0 (pa_cons (pv 4) (pa_cons (pv 1) pa_nil))))))))), ?_⟩
  obtain ⟨ty, tyx, _, kt⟩ := dq_ty (K := K) hd
  refine ⟨_, rfl, v, _, ty, _, isTup d, rfl, .ty "tuple", tyx, kt, _, rfl, ?_⟩
  by_cases hs : isTup d = true
  case neg =>
    have e1 : isTup d = false := by simpa using hs
    have e2 : stepOk ins outs d = false := by cases d <;> first | rfl | exact absurd rfl hs
    rw [e1]
    refine iteT ?_
    rw [← e2]
    exact k H (Same.refl H)
  obtain ⟨ds, rfl⟩ : ∃ ds, d = .tuple ds := by cases d <;> first | exact ⟨_, rfl⟩ | cases hs
  cases hd with
  | @tup p xs _ n h1 h2 =>
  refine iteF ⟨_, rfl, p, _, rfl, .inr h1.sq, rfl, _, rfl, ?_⟩
  by_cases h22 : ds.length = 2
  case neg =>
    have e2 : stepOk ins outs (.tuple ds) = false := by
      match ds, h22 with
      | [], _ => rfl
      | [_], _ => rfl
      | _ :: _ :: _ :: _, _ => rfl
    rw [decide_eq_false (show ¬ V.int ((xs.length : Nat) : Int) = V.int 2 from fun e => h22 (by
      have z : ((xs.length : Nat) : Int) = 2 := V.int.inj e
      rw [h2.len] at z
      omega))]
    refine iteT ?_
    rw [← e2]
    exact k H (Same.refl H)
  obtain ⟨nn, m, rfl⟩ : ∃ n m, ds = [n, m] := by
    match ds, h22 with
    | [n, m], _ => exact ⟨n, m, rfl⟩
  cases h2 with
  | cons q1 t1 =>
  cases t1 with
  | cons q2 t2 =>
  cases t2
  rename_i x y
  refine iteF ⟨_, rfl, p, _, rfl, h1.sq, rfl, _, _, rfl, _, _, rfl, rfl, ?_⟩
  refine ⟨_, rfl, _, rfl, N, x, nn, o, outs, rfl, q1, ho, hol, fun H1 s1 => ⟨_, rfl, ?_⟩⟩
  cases c1 : selOf outs nn with
  | false =>
    refine iteF ?_
    have z := k H1 s1
    simp only [stepOk, c1, Bool.false_and] at z
    exact z
  | true =>
    obtain ⟨ys, ey, eyd, _⟩ := sel_names hon c1
    obtain ⟨ax, rfl, _, hax, _, _⟩ := names_at q1 ey
    refine iteT ⟨_, rfl, ax, _, rfl, .inr (ixT_same s1 hax).sq, _, _, rfl, rfl, _, rfl, ?_⟩
    have eg : decide (((0 : Int)) < (((ys.map V.str).length : Nat) : Int)) = !noneIn nn := by
      rw [List.length_map, eyd]
      cases ys with
      | nil => rfl
      | cons a r => exact decide_eq_true (by rw [List.length_cons]; omega)
    show if decide (((0 : Int)) < (((ys.map V.str).length : Nat) : Int)) = true then _ else _
    rw [eg]
    cases hg : noneIn nn with
    | false =>
      refine iteT ⟨_, rfl, _, rfl, N, y, m, i, ins, rfl, dq_same s1 q2, ixT_same s1 hi, hil, fun H2 s2 => ?_⟩
      have z := k H2 (s1.trans s2)
      simp only [stepOk, c1, hg, Bool.not_false, Bool.true_and] at z
      exact z
    | true =>
      refine iteF ?_
      have z := k H1 s1
      simp only [stepOk, c1, hg, Bool.not_true, Bool.and_false, Bool.false_and] at z
      exact z
end
end K22
namespace K22
open PySem L2 Own StX ClX NdefX
/-! ### texts and ints in order -/
theorem eqv_strs : ∀ l m : List Str, PyData.eqvAll (l.map PyData.str) (m.map PyData.str) = decide (l = m)
  | [], [] => rfl
  | [], _ :: _ => rfl
  | _ :: _, [] => rfl
  | x :: l, y :: m => by
    simp only [List.map_cons, PyData.eqvAll, PyData.eqv, eqv_strs l m]
    by_cases h : x = y
    · subst h
      simp
    · rw [show (x == y) = false from beq_eq_false_iff_ne.mpr h, decide_eq_false (fun e => h (List.cons.inj e).1)]
      rfl
theorem eqv_ints : ∀ l m : List Int, PyData.eqvAll (l.map PyData.int) (m.map PyData.int) = decide (l = m)
  | [], [] => rfl
  | [], _ :: _ => rfl
  | _ :: _, [] => rfl
  | x :: l, y :: m => by
    simp only [List.map_cons, PyData.eqvAll, PyData.eqv, eqv_ints l m]
    by_cases h : x = y
    · subst h
      simp
    · rw [show (x == y) = false from beq_eq_false_iff_ne.mpr h, decide_eq_false (fun e => h (List.cons.inj e).1)]
      rfl
theorem nm_ok {x : Str} (h : isNm x = true) : PyData.canLay0 (.str x) = true := by
  unfold isNm at h
  rw [Bool.and_eq_true] at h
  show (x.cps.all (· < 0x110000)) = true
  rw [← Array.all_toList]
  refine List.all_eq_true.mpr fun c hc => ?_
  have z := List.all_eq_true.mp h.2 c hc
  unfold isL at z
  simp only [Bool.and_eq_true, decide_eq_true_eq] at z
  exact decide_eq_true (by omega)
theorem strs_shaped (l : List Str) (h : ∀ x ∈ l, isNm x = true) : SeqAt.shaped (.list (l.map PyData.str)) = true := by
  have h1 : ∀ l : List Str, (∀ c ∈ l, isNm c = true) → PyData.canLayAll0 (l.map PyData.str) = true ∧ PyData.depthAll (l.map PyData.str) ≤ 1 := by
    intro l
    induction l with
    | nil => exact fun _ => ⟨rfl, Nat.zero_le _⟩
    | cons c r ih =>
      intro h
      obtain ⟨a, b⟩ := ih fun d hd => h d (List.mem_cons_of_mem _ hd)
      refine ⟨?_, ?_⟩
      · simp only [List.map_cons, PyData.canLayAll0, a, nm_ok (h c List.mem_cons_self), Bool.and_self]
      · simp only [List.map_cons, PyData.depthAll, PyData.depth]
        omega
  obtain ⟨a, b⟩ := h1 l h
  unfold SeqAt.shaped
  rw [Bool.and_eq_true]
  refine ⟨by simpa only [PyData.canLay0] using a, decide_eq_true ?_⟩
  simp only [PyData.depth]
  omega
theorem dp_strs {K : PySem.W.Frag} {H : Hp} : ∀ l : List Str, DpAll K H (l.map V.str) (l.map PyData.str)
  | [] => .nil
  | x :: r => .cons (.str x) (dp_strs r)
theorem ints_shaped (l : List Int) : SeqAt.shaped (.list (l.map PyData.int)) = true := by
  have h1 : ∀ l : List Int, PyData.canLayAll0 (l.map PyData.int) = true ∧ PyData.depthAll (l.map PyData.int) ≤ 1 := by
    intro l
    induction l with
    | nil => exact ⟨rfl, Nat.zero_le _⟩
    | cons c r ih =>
      obtain ⟨a, b⟩ := ih
      refine ⟨?_, ?_⟩
      · simp only [List.map_cons, PyData.canLayAll0, a, PyData.canLay0, Bool.and_self]
      · simp only [List.map_cons, PyData.depthAll, PyData.depth]
        omega
  obtain ⟨a, b⟩ := h1 l
  unfold SeqAt.shaped
  rw [Bool.and_eq_true]
  refine ⟨by simpa only [PyData.canLay0] using a, decide_eq_true ?_⟩
  simp only [PyData.depth]
  omega
theorem dp_ints {K : PySem.W.Frag} {H : Hp} : ∀ l : List Int, DpAll K H (l.map V.int) (l.map PyData.int)
  | [] => .nil
  | x :: r => .cons (.int x) (dp_ints r)
def leS (x y : Str) : Prop := x.cps.toList ≤ y.cps.toList
theorem leS_iff {x y : Str} : leS x y ↔ PySem.Spec.ltCps y.cps.toList x.cps.toList = false := by
  rw [PyProof.Rows.ltCps_eq]
  unfold leS
  rw [decide_eq_false_iff_not, List.not_lt]
theorem leS_anti {x y : Str} (h : leS x y) (g : leS y x) : x = y := TL.ext_tl (List.le_antisymm h g)
theorem leS_trans {x y z : Str} (h : leS x y) (g : leS y z) : leS x z := List.le_trans h g
theorem rising_pw : ∀ (l : List Str) (p : Str), PyProof.Rows.risingS p l = true → (p :: l).Pairwise leS
  | [], p, _ => List.pairwise_singleton _ _
  | x :: r, p, h => by
    simp only [PyProof.Rows.risingS, Bool.and_eq_true, Bool.not_eq_true'] at h
    have ih := rising_pw r x h.2
    have hpx : leS p x := leS_iff.mpr h.1
    refine List.pairwise_cons.mpr ⟨fun y hy => ?_, ih⟩
    rcases List.mem_cons.mp hy with rfl | hy
    · exact hpx
    · exact leS_trans hpx ((List.pairwise_cons.mp ih).1 y hy)
theorem sorted_pw {l : List Str} (h : PyProof.Rows.sortedS l = true) : l.Pairwise leS := by
  cases l with
  | nil => exact List.Pairwise.nil
  | cons p r => exact rising_pw r p h
theorem strs_perm {l m n o : List Str} (hl : PyProof.Rows.sortedS l = true) (hm : PyProof.Rows.sortedS m = true) (h1 : l.Perm n) (h2 : m.Perm o) : decide (l = m) = decide (n.Perm o) :=
  decide_eq_decide.mpr ⟨fun e => h1.symm.trans ((List.Perm.of_eq e).trans h2), fun h => List.Perm.eq_of_pairwise (fun _ _ _ _ => leS_anti) (sorted_pw hl) (sorted_pw hm) (h1.trans (h.trans h2.symm))⟩
theorem ints_perm {fs ms : List Int} (h1 : ms.Perm fs) (h2 : ms.Pairwise (· ≤ ·)) : decide (fs = ms) = decide (fs.Pairwise (· ≤ ·)) :=
  decide_eq_decide.mpr ⟨fun e => by rw [e]; exact h2, fun h => List.Perm.eq_of_pairwise (fun _ _ _ _ h1 h2 => Int.le_antisymm h1 h2) h h2 h1.symm⟩
theorem idx_at : ∀ (l : List Str) (x : Str), x ∈ l → l[l.idxOf x]? = some x ∧ ∀ m, m < l.idxOf x → l[m]? ≠ some x
  | [], x, h => by cases h
  | a :: l, x, h => by
    by_cases e : a = x
    · subst e
      rw [List.idxOf_cons_self]
      exact ⟨rfl, fun m hm => by cases hm⟩
    · have hx : x ∈ l := (List.mem_cons.mp h).resolve_left fun z => e z.symm
      obtain ⟨h1, h2⟩ := idx_at l x hx
      have hi : (a :: l).idxOf x = l.idxOf x + 1 := by
        rw [List.idxOf_cons, show (a == x) = false from beq_eq_false_iff_ne.mpr e]
        rfl
      rw [hi]
      refine ⟨h1, fun m hm => ?_⟩
      cases m with
      | zero => exact fun z => e (Option.some.inj z)
      | succ m => exact h2 m (by omega)
theorem at0 {l : List Str} (h : l ≠ []) : atI (l.map V.str) 0 = some (.str (l.headD Str.empty)) := by
  cases l with
  | nil => exact absurd rfl h
  | cons a r => simp [atI, ixN]
theorem head_mem {l : List Str} (h : l ≠ []) : l.headD Str.empty ∈ l := by
  cases l with
  | nil => exact absurd rfl h
  | cons a r => exact List.mem_cons_self
/-! ### interfaces -/
def stepNames : PyData → List Str
  | .tuple [n, _] => (namesOf n).getD []
  | _ => []
def firstsOf (outs : List Str) (ps : List PyData) : List Int := ps.map fun p => ((outs.idxOf ((stepNames p).headD Str.empty) : Nat) : Int)
def namedOf (ps : List PyData) : List Str := ps.flatMap stepNames
def tailOk (outs : List Str) (ps : List PyData) : Bool := decide ((firstsOf outs ps).Pairwise (· ≤ ·)) && decide ((namedOf ps).Perm outs)
def restOk (a b : PyData) (ps : List PyData) : Bool := match namesOf a, namesOf b with
  | some ins, some outs => ps.all (stepOk ins outs) && tailOk outs ps
  | _, _ => false
def if3 (a b : PyData) : PyData → Bool
  | .tuple ps => portsOk a b && restOk a b ps
  | _ => false
def ifOk : PyData → Bool
  | .tuple [a, b, c] => if3 a b c
  | _ => false
theorem if3_bad {a b : PyData} (h : portsOk a b = false) (c : PyData) : if3 a b c = false := by
  cases c with
  | tuple ps =>
    show (portsOk a b && restOk a b ps) = false
    rw [h]
    rfl
  | _ => rfl
theorem restOk_eq {a b : PyData} {ps : List PyData} {ins outs : List Str} (h : namesOf a = some ins) (k : namesOf b = some outs) : restOk a b ps = (ps.all (stepOk ins outs) && tailOk outs ps) := by
  unfold restOk
  rw [h, k]
theorem step_parts {ins outs : List Str} {d : PyData} (hi : ∀ x ∈ ins, isNm x = true) (ho : ∀ x ∈ outs, isNm x = true) (h : stepOk ins outs d = true) :
    ∃ n m ys zs, d = .tuple [n, m] ∧ namesOf n = some ys ∧ ys ≠ [] ∧ ys.Sublist outs ∧ stepNames d = ys ∧ namesOf m = some zs ∧ zs.Sublist ins := by
  match d, h with
  | .tuple [n, m], h =>
    have h : (selOf outs n && !noneIn n && selOf ins m) = true := h
    rw [Bool.and_eq_true, Bool.and_eq_true] at h
    obtain ⟨ys, e1, e2, e3⟩ := sel_names ho h.1.1
    obtain ⟨zs, e4, _, e6⟩ := sel_names hi h.2
    refine ⟨n, m, ys, zs, rfl, e1, fun z => ?_, e3, by show (namesOf n).getD [] = ys; rw [e1]; rfl, e4, e6⟩
    subst z
    have z := h.1.2
    rw [e2] at z
    cases z
/-- Diagram.MAX_PORTS -/
structure Dia (K : PySem.W.Frag) (mg : Str → Option Value) : Prop where
  ex : ∃ C mc u, mg "Diagram" = some (.ref C) ∧ CRead K C mc ∧ CVal K C mc "MAX_PORTS" (.int 8) u
def spIface : Sp := fun vs H Q _ => ∃ (N : List Addr) (v : V) (d : PyData), vs = [v] ∧ Dq N H v d ∧ Ok 4 d ∧ ∀ H', Same H H' → Q (.bl (ifOk d)) H'
section
variable {P : Program} {w : World} {K : PySem.W.Frag} {mg : Str → Option Value} {base : Heap}
abbrev nIf : List Str := ["value", "inputs", "outputs", "profile", "step", "names", "_", "firsts", "name", "named"]
theorem scIf : FnScope nIf ["value"] (defScope sIface) := ⟨rfl, rfl, rfl, by decide +kernel, rfl, by decide +kernel, by decide +kernel⟩
theorem ok_iface {f fP fS : Addr} {fd fdP fdS : FuncData} (F : Fun K "is_interface" "is_interface" sIface f fd) (T : Txt K mg) (Di : Dia K mg) (zso : mg "sorted" = none)
    (GP : FnOk P w K mg base CX0 2 fP fdP ["inputs", "outputs", "most"] spPorts) (mP : mg "are_port_names" = some (.ref fP)) (kP : PySem.W.keepIn K (.ref fP) = true) (bP : Binds K fdP ["inputs", "outputs", "most"] [])
    (GS : FnOk P w K mg base CX0 2 fS fdS ["value", "inputs", "outputs"] spStep) (mS : mg "_is_step_function" = some (.ref fS)) (kS : PySem.W.keepIn K (.ref fS) = true) (bS : Binds K fdS ["value", "inputs", "outputs"] []) :
    FnOk P w K mg base CX0 3 f fd ["value"] spIface := by
  refine F.ok scIf (fun vs H Q E h => ?_) (fun cdv A outer s H vs Q E hr h => ?_)
  · obtain ⟨N, v, d, rfl, _⟩ := h
    rfl
  obtain ⟨N, v, d, rfl, hd, okd, k⟩ := h
  have hu := hr.units
  obtain ⟨C, mc, uC, mC, rC, vC⟩ := Di.ex
  refine ⟨_, pss_cons (ps_if (PW.pt (pw_or (pt_not (pt_val (pe_callB (id := "isinstance") call_isi (by rfl) T.is_ (by decide +kernel) (pa_cons (pv 0) (pa_cons (pe_bltn (v := .ty "tuple") rfl T.zt PyProof.Rows.Boot.«tuple» rfl) pa_nil)))))
        (pw_or1 (pt_cmpR op_ne (pe_callB call_len_seq (by rfl) T.zl PySem.boot_len (pa_cons (pv 0) pa_nil)) pe_int (nomark _))))) (pss_one (ps_ret pe_bl)) pss_nil)
    (pss_cons (ps_asg (pv 0) (pg_tup (by rfl) (pgs_cons (pg_name (i := 1) scIf.nd rfl (.inr rfl)) (pgs_cons (pg_name (i := 2) scIf.nd rfl (.inr rfl)) (pgs_cons (pg_name (i := 3) scIf.nd rfl (.inl rfl)) pgs_nil)))))
    (pss_cons (ps_if (PW.pt (pw_or (pt_not (pt_val (pe_call GP hr rfl mP kP bP .nil pass0 (pa_cons (pv 1) (pa_cons (pv 2) (pa_cons (pe_cval (pe_glob (v := .ref C) rfl mC rfl)) pa_nil))))))
        (pw_or1 (pt_not (pt_val (pe_callB (id := "isinstance") call_isi (by rfl) T.is_ (by decide +kernel) (pa_cons (pv 3) (pa_cons (pe_bltn (v := .ty "tuple") rfl T.zt PyProof.Rows.Boot.«tuple» rfl) pa_nil)))))))) (pss_one (ps_ret pe_bl)) pss_nil)
    (pss_cons (ps_if (pt_not (pt_val (pe_callB (cr_all rfl) (by rfl) T.za (by decide +kernel) (pa_cons (pe_lc (own := [("step", 4)]) (g := gName 4) rfl scIf.nd (pi_tup (pv 3)) (blkOk_by (own := [("step", 4)]) (N := nIf) (sc := defScope sIface) (by decide +kernel)) (fun _ _ _ _ _ => pg_name (i := 4) scIf.nd rfl (Or.inl rfl)) (fun _ _ _ _ _ => pts_nil)
          (fun _ _ _ _ _ => pe_call GS hr rfl mS kS bS .nil pass0 (pa_cons (pv 4) (pa_cons (pv 1) (pa_cons (pv 2) pa_nil))))) pa_nil)))) (pss_one (ps_ret pe_bl)) pss_nil)
    (pss_cons (ps_setLc (i := 7) (own := [("names", 5), ("_", 6)]) (g := gTup K 2 (gCons (gName 5) (gCons (gName 6) gNil))) rfl scIf.nd rfl rfl (sw_true rfl rfl rfl (by decide +kernel)) (pi_tup (pv 3)) (blkOk_by (own := [("names", 5), ("_", 6)]) (N := nIf) (sc := defScope sIface) (by decide +kernel)) (fun _ _ _ _ _ => by exact (pg_tup rfl (pgs_cons (pg_name (i := 5) scIf.nd rfl (Or.inl rfl)) (pgs_cons (pg_name (i := 6) scIf.nd rfl (Or.inl rfl)) pgs_nil)))) (fun _ _ _ _ _ => pts_nil)
      (fun _ _ _ _ _ => by exact (pe_tm PySem.F.slot_tuple_index PySem.F.type_tuple_index (show MtR _ "tuple.index" (rTIx K) from mt_tix) (pv 2) (pa_cons (pe_ix (show IxR _ (rIxT K) from ix_tup) (pv 5) pe_int (fun _ _ => rfl)) pa_nil))))
    (pss_cons (ps_setLc2 (i := 9) (own := [("names", 5), ("_", 6), ("name", 8)]) (g := gTup K 2 (gCons (gName 5) (gCons (gName 6) gNil))) (g1 := gName 8) (wi1 := iTup K (tVar 5)) (vs1 := [8]) rfl scIf.nd rfl rfl (sw_true rfl rfl rfl (by decide +kernel)) (pi_tup (pv 3)) (blkOk_by (own := [("names", 5), ("_", 6), ("name", 8)]) (N := nIf) (sc := defScope sIface) (by decide +kernel)) (by decide) (fun _ _ _ _ _ => by exact (pg_tup rfl (pgs_cons (pg_name (i := 5) scIf.nd rfl (Or.inl rfl)) (pgs_cons (pg_name (i := 6) scIf.nd rfl (Or.inl rfl)) pgs_nil)))) (fun _ _ _ _ _ => pts_nil)
      (fun _ _ _ _ _ => by exact (pi_tup (pv 5))) (fun _ _ _ _ _ => pg_name (i := 8) scIf.nd rfl (Or.inl rfl)) (fun _ _ _ _ _ => pts_nil) (fun _ _ _ _ _ => pv 8))
    (pss_one (ps_ret (pe_and (pe_cmpR (op_eqD hu) (pv 7) (pe_callB (id := "sorted") cr_sortedInt (by rfl) zso (by decide +kernel) (pa_cons (pv 7) pa_nil)) (nomark _)) (pe_one (pe_cmpR (op_eqD hu) (pe_callB (id := "sorted") cr_sortedLst (by rfl) zso (by decide +kernel) (pa_cons (pv 9) pa_nil)) (pe_callB (id := "sorted") cr_sortedTup (by rfl) zso (by decide +kernel) (pa_cons (pv 2) pa_nil)) (nomark _))))))))))), ?_⟩
  have fail : ∀ H', Same H H' → ifOk d = false → Q (.bl false) H' := fun H' s' e => by
    have z := k H' s'
    rw [e] at z
    exact z
  obtain ⟨ty, tyx, _, kt⟩ := dq_ty (K := K) hd
  refine ⟨_, rfl, v, _, ty, _, isTup d, rfl, .ty "tuple", tyx, kt, _, rfl, ?_⟩
  by_cases hs : isTup d = true
  case neg =>
    have e1 : isTup d = false := by simpa using hs
    rw [e1]
    exact iteT (fail H (Same.refl H) (by cases d <;> first | rfl | exact absurd rfl hs))
  obtain ⟨ds, rfl⟩ : ∃ ds, d = .tuple ds := by cases d <;> first | exact ⟨_, rfl⟩ | cases hs
  obtain ⟨hkl, hkids⟩ := okd.kids
  cases hd with
  | @tup p0 xs _ n h1 h2 =>
  refine iteF ⟨_, rfl, p0, _, rfl, .inr h1.sq, rfl, _, rfl, ?_⟩
  by_cases h3 : ds.length = 3
  case neg =>
    have e2 : ifOk (.tuple ds) = false := by
      match ds, h3 with
      | [], _ => rfl
      | [_], _ => rfl
      | [_, _], _ => rfl
      | _ :: _ :: _ :: _ :: _, _ => rfl
    rw [decide_eq_false (show ¬ V.int ((xs.length : Nat) : Int) = V.int 3 from fun e => h3 (by
      have z : ((xs.length : Nat) : Int) = 3 := V.int.inj e
      rw [h2.len] at z
      omega))]
    exact iteT (fail H (Same.refl H) e2)
  obtain ⟨a, b, c, rfl⟩ : ∃ a b c, ds = [a, b, c] := by
    match ds, h3 with
    | [a, b, c], _ => exact ⟨a, b, c, rfl⟩
  cases h2 with
  | cons qa t1 =>
  cases t1 with
  | cons qb t2 =>
  cases t2 with
  | cons qc t3 =>
  cases t3
  rename_i va vb vc
  have oka := hkids a (by simp)
  have okb := hkids b (by simp)
  have okc := hkids c (by simp)
  refine iteF ⟨_, rfl, p0, _, rfl, h1.sq, rfl, _, _, rfl, _, _, rfl, _, _, rfl, rfl, ?_⟩
  refine ⟨_, rfl, _, rfl, C, mc, .int 8, uC, rfl, rC, vC, N, va, vb, a, b, rfl, qa, qb, oka, okb, fun H1 s1 => ⟨_, rfl, ?_⟩⟩
  cases hpo : portsOk a b with
  | false =>
    exact iteT (fail H1 s1 (if3_bad hpo c))
  | true =>
  have qc1 := dq_same s1 qc
  obtain ⟨tyc, tycx, _, ktc⟩ := dq_ty (K := K) qc1
  refine iteF ⟨_, rfl, vc, _, tyc, _, isTup c, rfl, .ty "tuple", tycx, ktc, _, rfl, ?_⟩
  by_cases hsc : isTup c = true
  case neg =>
    have e1 : isTup c = false := by simpa using hsc
    rw [e1]
    exact iteT (fail H1 s1 (by cases c <;> first | rfl | exact absurd rfl hsc))
  obtain ⟨ps, rfl⟩ : ∃ ps, c = .tuple ps := by cases c <;> first | exact ⟨_, rfl⟩ | cases hsc
  have hpl := okc.kids.1
  cases qc1 with
  | @tup p ws _ np hp1 hps =>
  obtain ⟨hpo1, hnd⟩ := Bool.and_eq_true_iff.mp hpo
  obtain ⟨hpa, hpb⟩ := Bool.and_eq_true_iff.mp hpo1
  obtain ⟨ins, en1, l1⟩ := pOk_names hpa
  obtain ⟨outs, en2, l2⟩ := pOk_names hpb
  obtain ⟨i, rfl, _, hi, _, hin⟩ := names_at (dq_same s1 qa) en1
  obtain ⟨o, rfl, _, ho, _, hon⟩ := names_at (dq_same s1 qb) en2
  have res : ifOk (.tuple [a, b, .tuple ps]) = (ps.all (stepOk ins outs) && tailOk outs ps) := by
    show (portsOk a b && restOk a b ps) = _
    rw [hpo, restOk_eq en1 en2]
    rfl
  -- the step functions
  refine iteF ⟨_, rfl, p, rfl, ⟨_, hp1.sq⟩, fun D hD => ?_⟩
  refine lc_tup (K := K) (a := p) (xs := ws) (fun m H' => Same H1 H' ∧ H' D = some (.lst ((ps.take m).map fun d => V.bl (stepOk ins outs d)))) ⟨upd_new hD, upd_same⟩ (fun m H' _ q => (ixT_same q.1 hp1).sq) ?_ ?_
  · rintro m x H3 hm ⟨s3, a3⟩
    obtain ⟨y, hy, hyd⟩ := hps.get m x hm
    refine ⟨rfl, _, rfl, _, rfl, _, rfl, N, x, y, i, o, ins, outs, rfl, dq_same s3 hyd, ixT_same s3 hi, ixT_same s3 ho, by omega, by omega, hon, fun H4 s4 => ⟨_, s4 _ _ a3, lt1 ?_, same_put (s3.trans s4) hD, ?_⟩⟩
    · rw [List.length_map, List.length_take]
      omega
    · rw [upd_same, tk1 hy, List.map_append]
      rfl
  rintro H3 ⟨s3, a3⟩
  rw [hps.len, List.take_length] at a3
  refine ⟨D, ps.map (stepOk ins outs), rfl, .of (by rw [a3, List.map_map]; rfl), _, rfl, ?_⟩
  have e2 : (ps.map (stepOk ins outs)).all id = ps.all (stepOk ins outs) := by rw [List.all_map]; rfl
  rw [e2]
  have s13 := s1.trans s3
  cases hall : ps.all (stepOk ins outs) with
  | false => exact iteT (fail H3 s13 (by rw [res, hall]; rfl))
  | true =>
  rw [hall, Bool.true_and] at res
  have hstep : ∀ d ∈ ps, stepOk ins outs d = true := fun d hd => List.all_eq_true.mp hall d hd
  have hp3 := ixT_same s3 hp1
  have ho3 := ixT_same s3 ho
  have hps3 := dq_sames s3 hps
  -- firsts
  refine iteF ⟨_, rfl, p, rfl, ⟨_, hp3.sq⟩, fun D1 hD1 => ?_⟩
  refine out_it (walk_tup (xs := ws)) (fun m H' => Same H3 H' ∧ H' D1 = some (.lst ((firstsOf outs (ps.take m)).map V.int))) ⟨upd_new hD1, upd_same⟩ (fun m H' _ q => (ixT_same q.1 hp3).sq) ?_ ?_
  · rintro m x H4 H5 hm ⟨s4, a4⟩ ⟨rfl, hx⟩
    obtain ⟨y, hy, hyd⟩ := hps3.get m x hx
    obtain ⟨n1, m1, ys, zs, rfl, en, hne, hsub, esn, _, _⟩ := step_parts hin hon (hstep y (List.mem_of_getElem? hy))
    cases dq_same s4 hyd with
    | @tup q us _ nq hq hqs =>
    cases hqs with
    | cons q1 tt =>
    cases tt with
    | cons q2 tt2 =>
    cases tt2
    obtain ⟨ax, rfl, _, hax, _, _⟩ := names_at q1 en
    have hh : ys.headD Str.empty ∈ outs := hsub.subset (head_mem hne)
    obtain ⟨z1, z2⟩ := idx_at outs _ hh
    refine ⟨q, _, rfl, hq.sq, rfl, _, _, rfl, _, _, rfl, rfl, rfl, ?_⟩
    refine ⟨_, rfl, ⟨o, _, rfl, ixT_same s4 ho3⟩, _, rfl, ax, _, 0, _, rfl, rfl, hax.sq, at0 hne, o, outs, _, _, rfl, rfl, (ixT_same s4 ho3).sq, z1, z2, _, a4, lt1 ?_, same_put s4 hD1, ?_⟩
    · rw [List.length_map]
      unfold firstsOf
      rw [List.length_map, List.length_take]
      omega
    · rw [upd_same, tk1 hy]
      unfold firstsOf
      rw [List.map_append, List.map_append, List.map_cons, esn]
      rfl
  rintro H4 ⟨s4, a4⟩
  rw [hps.len, List.take_length] at a4
  have s14 := s13.trans s4
  have hp4 := ixT_same s4 hp3
  have hps4 := dq_sames s4 hps3
  -- named
  have hsubs : ∀ d ∈ ps, (stepNames d).length ≤ 8 := fun d hd => by
    obtain ⟨_, _, ys, _, _, _, _, hsub, esn, _, _⟩ := step_parts hin hon (hstep d hd)
    rw [esn]
    have := hsub.length_le
    omega
  have hflat : ∀ l : List PyData, (∀ d ∈ l, (stepNames d).length ≤ 8) → (namedOf l).length ≤ 8 * l.length := by
    intro l
    induction l with
    | nil => exact fun _ => Nat.zero_le _
    | cons d r ih =>
      intro hl
      have h1 := ih fun e he => hl e (List.mem_cons_of_mem _ he)
      have h2 := hl d List.mem_cons_self
      unfold namedOf at h1 ⊢
      rw [List.flatMap_cons, List.length_append, List.length_cons]
      omega
  refine ⟨_, rfl, p, rfl, ⟨_, hp4.sq⟩, fun D2 hD2 => ?_⟩
  refine out_it (walk_tup (xs := ws)) (fun m H' => Same H4 H' ∧ H' D2 = some (.lst ((namedOf (ps.take m)).map V.str))) ⟨upd_new hD2, upd_same⟩ (fun m H' _ q => (ixT_same q.1 hp4).sq) ?_ ?_
  · rintro m x H5 H6 hm ⟨s5, a5⟩ ⟨rfl, hx⟩
    obtain ⟨y, hy, hyd⟩ := hps4.get m x hx
    obtain ⟨n1, m1, ys, zs, rfl, en, hne, hsub, esn, _, _⟩ := step_parts hin hon (hstep y (List.mem_of_getElem? hy))
    have hml := (List.getElem?_eq_some_iff.mp hy).1
    cases hyd with
    | @tup q us _ nq hq hqs =>
    cases hqs with
    | cons q1 tt =>
    cases tt with
    | cons q2 tt2 =>
    cases tt2
    obtain ⟨ax, rfl, _, hax, _, _⟩ := names_at q1 en
    refine ⟨q, _, rfl, (ixT_same s5 hq).sq, rfl, _, _, rfl, _, _, rfl, rfl, rfl, ?_⟩
    refine ⟨_, rfl, ax, rfl, ⟨_, (ixT_same s5 hax).sq⟩, ?_⟩
    have hyl : ys.length ≤ 8 := by
      have := hsub.length_le
      omega
    have hnl : (namedOf (ps.take m)).length ≤ 8 * 12 := by
      have z := hflat (ps.take m) fun d hd => hsubs d (List.mem_of_mem_take hd)
      rw [List.length_take] at z
      omega
    refine out_it (walk_tup (xs := ys.map V.str)) (fun j H' => Same H4 H' ∧ H' D2 = some (.lst ((namedOf (ps.take m) ++ ys.take j).map V.str))) ⟨s5, by rw [List.take_zero, List.append_nil]; exact a5⟩ (fun j H' _ q => (ixT_same q.1 hax).sq) ?_ ?_
    · rintro j z H7 H8 hj ⟨s7, a7⟩ ⟨rfl, hz⟩
      rw [List.getElem?_map] at hz
      obtain ⟨nm, hnm, rfl⟩ := Option.map_eq_some_iff.mp hz
      refine ⟨rfl, _, rfl, _, a7, lt1 ?_, same_put s7 hD2, ?_⟩
      · rw [List.length_map, List.length_append, List.length_take]
        omega
      · rw [upd_same, tk1 hnm]
        simp
    rintro H7 ⟨s7, a7⟩
    rw [List.length_map, List.take_length] at a7
    refine ⟨s7, ?_⟩
    rw [a7, tk1 hy]
    unfold namedOf
    rw [List.flatMap_append]
    simp [esn]
  rintro H5 ⟨s5, a5⟩
  rw [hps.len, List.take_length] at a5
  have f5 := s5 _ _ a4
  have s15 := s14.trans s5
  refine ⟨_, rfl, _, rfl, D1, firstsOf outs ps, rfl, .of f5, fun ms q hperm hpw hq => ?_⟩
  have s6 := upd_new (o := HO.lst (ms.map V.int)) hq
  refine ⟨.list ((firstsOf outs ps).map PyData.int), .list (ms.map PyData.int), .lst (.of (s6 _ _ f5)) (dp_ints _), .lst (.of upd_same) (dp_ints _), ints_shaped _, ints_shaped _, _, rfl, ?_⟩
  show if PyData.eqvAll _ _ = true then _ else _
  rw [eqv_ints, ints_perm hperm hpw]
  have a6 := s6 _ _ a5
  have s16 := s15.trans s6
  generalize upd H5 q (HO.lst (ms.map V.int)) = H6 at s6 a6 s16 ⊢
  by_cases hfp : (firstsOf outs ps).Pairwise (· ≤ ·)
  case neg =>
    rw [decide_eq_false hfp]
    refine iteF (fail H6 s16 ?_)
    rw [res]
    unfold tailOk
    rw [decide_eq_false hfp]
    rfl
  rw [decide_eq_true hfp]
  have res2 : ifOk (.tuple [a, b, .tuple ps]) = decide ((namedOf ps).Perm outs) := by
    rw [res]
    unfold tailOk
    rw [decide_eq_true hfp]
    rfl
  have hnn : ∀ x ∈ namedOf ps, isNm x = true := fun x hx => by
    obtain ⟨d, hd, hx⟩ := List.mem_flatMap.mp hx
    obtain ⟨_, _, ys, _, _, _, _, hsub, esn, _, _⟩ := step_parts hin hon (hstep d hd)
    rw [esn] at hx
    exact hon x (hsub.subset hx)
  refine iteT ⟨_, rfl, D2, namedOf ps, rfl, .of a6, fun ys q1 hp1 hs1 hq1 => ⟨_, rfl, o, outs, rfl, (ixT_same (s4.trans (s5.trans (s6.trans (upd_new hq1)))) ho3).sq, fun zs q2 hp2 hs2 hq2 => ?_⟩⟩
  have hyn : ∀ x ∈ ys, isNm x = true := fun x hx => hnn x (hp1.mem_iff.mp hx)
  have hzn : ∀ x ∈ zs, isNm x = true := fun x hx => hon x (hp2.mem_iff.mp hx)
  refine ⟨.list (ys.map PyData.str), .list (zs.map PyData.str), .lst (.of ((upd_new hq2) _ _ upd_same)) (dp_strs _), .lst (.of upd_same) (dp_strs _), strs_shaped _ hyn, strs_shaped _ hzn, ?_⟩
  show Q (.bl (PyData.eqvAll _ _)) _
  rw [eqv_strs, strs_perm hs1 hs2 hp1 hp2, ← res2]
  exact k _ (s16.trans ((upd_new hq1).trans (upd_new hq2)))
end
end K22
namespace K22
open PySem L2 Own StX ClX NdefX
theorem signs_dq (N : List Addr) (H : Hp) : ∀ l : List Nat, DqAll N H (l.map fun c => V.str ⟨#[c]⟩) (l.map fun c => PyData.str ⟨#[c]⟩)
  | [] => .nil
  | c :: r => .cons (.str _) (signs_dq N H r)
theorem eqSs_nil (l : List PyData) : eqSs l [] = l.isEmpty := by
  cases l <;> rfl
section
variable {P : Program} {w : World} {K : PySem.W.Frag} {mg : Str → Option Value} {base : Heap}
abbrev nNL : List Str := ["value", "letter"]
theorem scNL : FnScope nNL ["value"] (defScope sNameL) := ⟨rfl, rfl, rfl, by decide +kernel, rfl, by decide +kernel, by decide +kernel⟩
theorem ok_nameL {f : Addr} {fd : FuncData} (F : Fun K "_law_is_name" "_law_is_name" sNameL f fd) (T : Txt K mg) : FnOk P w K mg base CX0 1 f fd ["value"] spName := by
  refine F.ok scNL (fun vs H Q E h => ?_) (fun cdv A outer s H vs Q E hr h => ?_)
  · obtain ⟨N, v, d, rfl, _⟩ := h
    rfl
  obtain ⟨N, v, d, rfl, hd, hz, k⟩ := h
  have hu := hr.units
  have hu1 := Nat.lt_of_le_of_lt (Nat.add_le_add_left (show 1 ≤ 64 by decide) _) hu
  refine ⟨_, pss_cons (ps_if (PW.pt (pw_or (pt_not (pt_val (pe_callB (id := "isinstance") call_isi (by rfl) T.is_ (by decide +kernel) (pa_cons (pv 0) (pa_cons (pe_bltn (v := .ty "str") rfl T.zs PyProof.Rows.Boot.«str» rfl) pa_nil)))))
        (pw_or (pt_not (pt_chain op_le op_le pe_int (pe_callB call_len_str (by rfl) T.zl PySem.boot_len (pa_cons (pv 0) pa_nil)) pe_int))
        (pw_or1 (pt_cmpR (show OpR _ (compareOp .In) (rIn K false) from op_in_seq) (pv 0) (pe_tup (pa_cons pe_str (pa_cons pe_str (pa_cons pe_str (pa_cons pe_str pa_nil))))) (by rfl)))))) (pss_one (ps_ret pe_bl)) pss_nil)
    (pss_one (ps_ret (pe_cmpR (show OpR _ (compareOp .Eq) (rEqLS K) from op_eqLS hu1) (pe_lc (own := [("letter", 1)]) (g := gName 1) rfl scNL.nd (pi_str (pv 0)) (blkOk_by (own := [("letter", 1)]) (N := nNL) (sc := defScope sNameL) (by decide +kernel)) (fun _ _ _ _ _ => pg_name (i := 1) scNL.nd rfl (Or.inl rfl)) (fun _ _ _ _ _ => pts_one (pt_cmpR op_notIn_sign (pv 1) pe_str (by rfl)))
        (fun _ _ _ _ _ => pv 1)) (pe_lst pa_nil) (nomark _)))), ?_⟩
  obtain ⟨t, ty, ks, _⟩ := dq_ty (K := K) hd
  refine ⟨_, rfl, v, _, t, _, isStr d, rfl, .ty "str", ty, ks, _, rfl, ?_⟩
  by_cases hs : isStr d = true
  case neg =>
    have e1 : isStr d = false := by simpa using hs
    have e2 : isNmD d = false := by cases d <;> first | rfl | exact absurd rfl hs
    rw [e1]
    refine iteT ?_
    rw [← e2]
    exact k H (Same.refl H)
  obtain ⟨x, rfl⟩ : ∃ x, d = .str x := by cases d <;> first | exact ⟨_, rfl⟩ | cases hs
  cases hd
  have hx0 := hz x rfl
  have hx : x.length ≤ sizeLine := big (by omega)
  have hsz : x.cps.toList.length = x.length := by simp [Str.length]
  refine iteF ⟨_, rfl, _, rfl, hx, _, _, rfl, rfl, _, rfl, ?_⟩
  have back : ∀ H', Same H H' → isNm x = false → Q (.bl false) H' := fun H' s' e => by
    have z := k H' s'
    rw [show isNmD (.str x) = isNm x from rfl, e] at z
    exact z
  by_cases h1 : (1 : Int) ≤ (x.length : Int)
  case neg =>
    rw [decide_eq_false h1]
    refine iteF ⟨_, rfl, iteT (back H (Same.refl H) ?_)⟩
    unfold isNm
    rw [decide_eq_false (show ¬ 1 ≤ x.length by omega)]
    rfl
  rw [decide_eq_true h1]
  refine iteT ⟨_, _, rfl, rfl, _, rfl, ?_⟩
  by_cases h2 : (x.length : Int) ≤ 8
  case neg =>
    rw [decide_eq_false h2]
    refine iteT (back H (Same.refl H) ?_)
    unfold isNm
    rw [decide_eq_false (show ¬ x.length ≤ 8 by omega), Bool.and_false]
    rfl
  rw [decide_eq_true h2]
  refine iteF ⟨_, rfl, small1 (by show 4 ≤ 8; decide), fun t ht => ?_⟩
  have s1 := upd_new (o := HO.tup [V.str "block", V.str "part", V.str "end", V.str "self"]) ht
  have g1 : (upd H t (.tup [V.str "block", V.str "part", V.str "end", V.str "self"])) t = some (.tup (reserved.map V.str)) := upd_same
  generalize upd H t (.tup [V.str "block", V.str "part", V.str "end", V.str "self"]) = H1 at s1 g1 ⊢
  refine ⟨t, reserved.map V.str, rfl, .inr (.of g1), rfl, rfl, _, rfl, ?_⟩
  show if inV (.str x) (reserved.map V.str) = true then _ else _
  rw [inV_strs]
  by_cases h3 : x ∈ reserved
  · rw [decide_eq_true h3]
    refine iteT (back H1 s1 ?_)
    unfold isNm
    rw [decide_eq_true h3, Bool.not_true, Bool.and_false, Bool.false_and]
  rw [decide_eq_false h3]
  refine iteF ⟨_, rfl, x, rfl, fun D hD => ?_⟩
  refine lc_it walk_str (fun i H' => Same H1 H' ∧ H' D = some (.lst (((x.cps.toList.take i).filter fun c => !isL c).map fun c => V.str ⟨#[c]⟩))) ⟨upd_new hD, upd_same⟩ (fun _ _ _ _ => True.intro) ?_ ?_
  · rintro i v H2 H3 hi ⟨s2, a2⟩ ⟨rfl, c, hc, rfl⟩
    have hc' : x.cps.toList[i]? = some c := by simpa using hc
    refine ⟨rfl, _, rfl, c, _, rfl, rfl, _, rfl, ?_⟩
    rw [isL_in, tk1 hc']
    cases hm : isL c with
    | false =>
      refine iteT ⟨_, rfl, _, a2, ?_, same_put s2 hD, ?_⟩
      · rw [List.length_map]
        exact lt1 (Nat.le_trans (List.length_filter_le _ _) (by rw [List.length_take]; omega))
      · rw [upd_same, List.filter_append]
        simp [hm]
    | true =>
      refine iteF ⟨s2, ?_⟩
      rw [a2, List.filter_append]
      simp [hm]
  rintro H2 ⟨s2, a2⟩
  rw [List.take_of_length_le (show x.cps.toList.length ≤ x.cps.size by simp)] at a2
  refine ⟨small1 (by show 0 ≤ 8; decide), fun q hq => ?_⟩
  have s3 := upd_new (o := HO.lst []) hq
  refine ⟨N, D, q, _, (x.cps.toList.filter fun c => !isL c).map fun c => PyData.str ⟨#[c]⟩, [], rfl, rfl, s3 _ _ a2, signs_dq N _ _, upd_same, ?_⟩
  have z := k _ (s1.trans (s2.trans s3))
  have e : isNm x = (x.cps.toList.filter fun c => !isL c).isEmpty := by
    unfold isNm
    rw [decide_eq_true (show 1 ≤ x.length by omega), decide_eq_true (show x.length ≤ 8 by omega), decide_eq_false h3]
    simp only [Bool.not_false, Bool.and_self, Bool.true_and]
    rw [Bool.eq_iff_iff, List.all_eq_true, List.isEmpty_iff, List.filter_eq_nil_iff]
    exact ⟨fun h c hc => by rw [h c hc]; decide, fun h c hc => by
      have := h c hc
      simpa using this⟩
  rw [show isNmD (.str x) = isNm x from rfl, e] at z
  rw [eqSs_nil, List.isEmpty_map]
  exact z
/-! ### the law's ports -/
end
def lpOk (d : PyData) : Bool := match namesOf d with
  | some xs => decide (xs.length ≤ 8) && decide xs.Nodup
  | none => false
theorem lpOk_eq {d : PyData} {xs : List Str} (h : namesOf d = some xs) : lpOk d = (decide (xs.length ≤ 8) && decide xs.Nodup) := by
  unfold lpOk
  rw [h]
theorem lpOk_names {d : PyData} (h : lpOk d = true) : ∃ xs, namesOf d = some xs ∧ xs.length ≤ 8 ∧ xs.Nodup := by
  unfold lpOk at h
  cases e : namesOf d with
  | none => rw [e] at h; cases h
  | some xs =>
    rw [e] at h
    have h : (decide (xs.length ≤ 8) && decide xs.Nodup) = true := h
    rw [Bool.and_eq_true, decide_eq_true_eq, decide_eq_true_eq] at h
    exact ⟨xs, rfl, h.1, h.2⟩
def spPortsL : Sp := fun vs H Q _ => ∃ (N : List Addr) (v : V) (d : PyData), vs = [v] ∧ Dq N H v d ∧ Ok 4 d ∧ ∀ H', Same H H' → Q (.bl (lpOk d)) H'
section
variable {P : Program} {w : World} {K : PySem.W.Frag} {mg : Str → Option Value} {base : Heap}
abbrev nPL : List Str := ["value", "one"]
theorem scPL : FnScope nPL ["value"] (defScope sPortsL) := ⟨rfl, rfl, rfl, by decide +kernel, rfl, by decide +kernel, by decide +kernel⟩
theorem ok_portsL {f fN : Addr} {fd fdN : FuncData} (F : Fun K "_law_are_ports" "_law_are_ports" sPortsL f fd) (T : Txt K mg) (zse : mg "set" = none) (GN : FnOk P w K mg base CX0 1 fN fdN ["value"] spName) (mN : mg "_law_is_name" = some (.ref fN)) (kN : PySem.W.keepIn K (.ref fN) = true) (bN : Binds K fdN ["value"] []) :
    FnOk P w K mg base CX0 2 f fd ["value"] spPortsL := by
  refine F.ok scPL (fun vs H Q E h => ?_) (fun cdv A outer s H vs Q E hr h => ?_)
  · obtain ⟨N, v, d, rfl, _⟩ := h
    rfl
  obtain ⟨N, v, d, rfl, hd, okd, k⟩ := h
  refine ⟨_, pss_cons (ps_if (PW.pt (pw_or (pt_not (pt_val (pe_callB (id := "isinstance") call_isi (by rfl) T.is_ (by decide +kernel) (pa_cons (pv 0) (pa_cons (pe_bltn (v := .ty "tuple") rfl T.zt PyProof.Rows.Boot.«tuple» rfl) pa_nil)))))
        (pw_or (pt_cmpR op_gt (pe_callB call_len_seq (by rfl) T.zl PySem.boot_len (pa_cons (pv 0) pa_nil)) pe_int (nomark _))
        (pw_or1 (pt_not (pt_val (pe_callB (cr_all rfl) (by rfl) T.za (by decide +kernel) (pa_cons (pe_lc (own := [("one", 1)]) (g := gName 1) rfl scPL.nd (pi_tup (pv 0)) (blkOk_by (own := [("one", 1)]) (N := nPL) (sc := defScope sPortsL) (by decide +kernel)) (fun _ _ _ _ _ => pg_name (i := 1) scPL.nd rfl (Or.inl rfl)) (fun _ _ _ _ _ => pts_nil)
          (fun _ _ _ _ _ => pe_call GN hr rfl mN kN bN .nil pass0 (pa_cons (pv 1) pa_nil))) pa_nil)))))))) (pss_one (ps_ret pe_bl)) pss_nil)
    (pss_one (ps_ret (pe_cmpR op_eq (pe_lenSetT rfl rfl T.zl rfl zse (pv 0)) (pe_callB call_len_seq (by rfl) T.zl PySem.boot_len (pa_cons (pv 0) pa_nil)) (nomark _)))), ?_⟩
  have ret : ∀ H', Same H H' → lpOk d = false → Q (.bl false) H' := fun H' s' z => by
    have q := k H' s'
    rw [z] at q
    exact q
  obtain ⟨ty, tyx, _, kt⟩ := dq_ty (K := K) hd
  refine ⟨_, rfl, v, _, ty, _, isTup d, rfl, .ty "tuple", tyx, kt, _, rfl, ?_⟩
  by_cases htp : isTup d = true
  case neg =>
    have e1 : isTup d = false := by simpa using htp
    rw [e1]
    exact iteT (ret H (Same.refl H) (by cases d <;> first | rfl | exact absurd rfl htp))
  obtain ⟨cs, rfl⟩ : ∃ cs, d = .tuple cs := by cases d <;> first | exact ⟨_, rfl⟩ | cases htp
  obtain ⟨hkl, hkids⟩ := okd.kids
  cases hd with
  | @tup b xs _ n h1 h2 =>
  refine iteF ⟨_, rfl, b, _, rfl, .inr h1.sq, _, _, rfl, rfl, _, rfl, ?_⟩
  have lenN : ∀ ys, namesL cs = some ys → xs.length = ys.length := fun ys en => by
    obtain ⟨e1, _⟩ := namesL_eq en
    have e2 := h2.len
    rw [e1, List.length_map] at e2
    exact e2
  by_cases h8 : ((xs.length : Nat) : Int) > 8
  · rw [decide_eq_true h8]
    refine iteT (ret H (Same.refl H) ?_)
    cases en : namesL cs with
    | none => unfold lpOk; rw [show namesOf (.tuple cs) = namesL cs from rfl, en]
    | some ys =>
      rw [lpOk_eq (show namesOf (.tuple cs) = some ys from en), decide_eq_false (by have := lenN ys en; omega)]
      rfl
  rw [decide_eq_false h8]
  refine iteF ⟨_, rfl, b, rfl, ⟨_, h1.sq⟩, fun D hD => ?_⟩
  refine lc_tup (K := K) (a := b) (xs := xs) (fun m H' => Same H H' ∧ H' D = some (.lst (((cs.take m).map fun c => V.bl (isNmD c))))) ⟨upd_new hD, upd_same⟩ (fun m H' _ p => sqT_same p.1 h1.sq) ?_ ?_
  · rintro m v H3 hm ⟨s3, a3⟩
    obtain ⟨y, hy, hyd⟩ := h2.get m v hm
    refine ⟨rfl, _, rfl, N, v, y, rfl, dq_same s3 hyd, fun x ex => ?_, fun H4 s4 => ⟨_, s4 _ _ a3, lt1 ?_, same_put (s3.trans s4) hD, ?_⟩⟩
    · subst ex
      have := (hkids _ (List.mem_of_getElem? hy)).str
      omega
    · rw [List.length_map, List.length_take]
      omega
    · rw [upd_same, tk1 hy, List.map_append]
      rfl
  rintro H3 ⟨s3, a3⟩
  rw [h2.len, List.take_length] at a3
  refine ⟨D, cs.map isNmD, rfl, .of (by rw [a3, List.map_map]; rfl), _, rfl, ?_⟩
  have e2 : (cs.map isNmD).all id = (namesL cs).isSome := by rw [List.all_map, ← namesL_all]; rfl
  rw [e2]
  cases en : namesL cs with
  | none => exact iteT (ret H3 s3 (by unfold lpOk; rw [show namesOf (.tuple cs) = namesL cs from rfl, en]))
  | some ys =>
    have hl := lenN ys en
    obtain ⟨e1, _⟩ := namesL_eq en
    have h1' := h1
    rw [show xs = ys.map V.str from strs_dq _ _ (e1 ▸ h2)] at h1'
    have res := lpOk_eq (show namesOf (.tuple cs) = some ys from en)
    rw [decide_eq_true (show ys.length ≤ 8 by omega), Bool.true_and] at res
    rw [res] at k
    refine iteF ⟨_, rfl, b, ys, rfl, (ixT_same s3 h1').sq, by omega, fun c hle hc => ⟨_, rfl, b, _, rfl, .inr (ixT_same s3 h1').sq, rfl, ?_⟩⟩
    have fin := k H3 s3
    rw [List.length_map]
    by_cases hn : ys.Nodup
    · rw [decide_eq_true hn] at fin
      rw [decide_eq_true (congrArg V.int (by have := hc.mpr hn; omega))]
      exact fin
    · rw [decide_eq_false hn] at fin
      rw [decide_eq_false fun z => hn (hc.mp (by have := V.int.inj z; omega))]
      exact fin
end
end K22
namespace K22
open PySem L2 Own StX ClX NdefX
/-! ### the law's steps are the program's -/
theorem any_strs (x : Str) (l : List Str) : (l.map PyData.str).any (isS x) = decide (x ∈ l) := by
  induction l with
  | nil => rfl
  | cons a r ih =>
    rw [List.map_cons, List.any_cons, ih]
    show ((a == x) || _) = _
    by_cases h : a = x
    · subst h
      simp
    · rw [show (a == x) = false from beq_eq_false_iff_ne.mpr h, Bool.false_or]
      exact decide_eq_decide.mpr ⟨fun z => List.mem_cons_of_mem _ z, fun z => (List.mem_cons.mp z).resolve_left fun e => h e.symm⟩
theorem eqSs_strs (l m : List Str) : eqSs (l.map PyData.str) m = decide (m = l) := by
  by_cases h : m = l
  · rw [decide_eq_true h, h]
    exact eqSs_iff.mpr rfl
  · rw [decide_eq_false h]
    cases e : eqSs (l.map PyData.str) m with
    | false => rfl
    | true =>
      have z := eqSs_iff.mp e
      exact absurd (List.map_inj_right (fun a b q => PyData.str.inj q) |>.mp z).symm h
theorem strs_flat (l : List Str) : (l.map V.str).all flatV = true := List.all_eq_true.mpr fun y hy => by
  obtain ⟨z, _, rfl⟩ := List.mem_map.mp hy
  rfl
theorem sel_strs {outs xs : List Str} {n : PyData} (h : namesOf n = some xs) (hd : n = .tuple (xs.map PyData.str)) : selOf outs n = decide ((outs.filter fun x => decide (x ∈ xs)) = xs) := by
  subst hd
  show eqSs (xs.map PyData.str) (outs.filter fun x => (xs.map PyData.str).any (isS x)) = _
  rw [eqSs_strs]
  have e : (fun x => (xs.map PyData.str).any (isS x)) = fun x => decide (x ∈ xs) := by
    funext x
    exact any_strs x xs
  rw [e]
theorem lp_sel {outs : List Str} {n : PyData} (ho : ∀ x ∈ outs, isNm x = true) (hl : outs.length ≤ 8) (hn : outs.Nodup) (h : selOf outs n = true) : lpOk n = true := by
  obtain ⟨xs, e, _, hs⟩ := sel_names ho h
  rw [lpOk_eq e, decide_eq_true (hs.nodup hn), decide_eq_true (by have := hs.length_le; omega)]
  rfl
def spIfaceL : Sp := spIface
/-- the tuple of names, as data -/
theorem tup_shaped (l : List Str) (h : ∀ x ∈ l, isNm x = true) : SeqAt.shaped (.tuple (l.map PyData.str)) = true := by
  have z := strs_shaped l h
  unfold SeqAt.shaped at z ⊢
  rw [Bool.and_eq_true, decide_eq_true_eq] at z ⊢
  simp only [PyData.canLay0, PyData.depth] at z ⊢
  exact z
section
variable {P : Program} {w : World} {K : PySem.W.Frag} {mg : Str → Option Value} {base : Heap}
abbrev nIL : List Str := ["value", "computed", "firsts", "function", "outputs", "needs", "one"]
theorem scIL : FnScope nIL ["value"] (defScope sIfaceL) := ⟨rfl, rfl, rfl, by decide +kernel, rfl, by decide +kernel, by decide +kernel⟩
theorem ok_ifaceL {f fP : Addr} {fd fdP : FuncData} (F : Fun K "_law_is_interface" "_law_is_interface" sIfaceL f fd) (T : Txt K mg) (zso : mg "sorted" = none) (zse : mg "set" = none) (ml : mg "list" = none)
    (GP : FnOk P w K mg base CX0 2 fP fdP ["value"] spPortsL) (mP : mg "_law_are_ports" = some (.ref fP)) (kP : PySem.W.keepIn K (.ref fP) = true) (bP : Binds K fdP ["value"] []) :
    FnOk P w K mg base CX0 3 f fd ["value"] spIface := by
  refine F.ok scIL (fun vs H Q E h => ?_) (fun cdv A outer s H vs Q E hr h => ?_)
  · obtain ⟨N, v, d, rfl, _⟩ := h
    rfl
  obtain ⟨N, v, d, rfl, hd, okd, k⟩ := h
  have hu := hr.units
  have hu1 := Nat.lt_of_le_of_lt (Nat.add_le_add_left (show 1 ≤ 64 by decide) _) hu
  refine ⟨_, (pss_cons (ps_if (PW.pt (pw_or (pt_not (pt_val (pe_callB (id := "isinstance") call_isi (by rfl) T.is_ (by decide +kernel) (pa_cons (pv 0) (pa_cons (pe_bltn (v := .ty "tuple") rfl T.zt PyProof.Rows.Boot.«tuple» rfl) pa_nil))))) (pw_or (pt_cmpR op_ne (pe_callB call_len_seq (by rfl) T.zl PySem.boot_len (pa_cons (pv 0) pa_nil)) pe_int (nomark _)) (pw_or1 (pt_not (pt_val (pe_callB (id := "isinstance") call_isi (by rfl) T.is_ (by decide +kernel) (pa_cons (pe_ix (show IxR _ (rIxT K) from ix_tup) (pv 0) pe_int (fun _ _ => rfl)) (pa_cons (pe_bltn (v := .ty "tuple") rfl T.zt PyProof.Rows.Boot.«tuple» rfl) pa_nil))))))))) (pss_one (ps_ret pe_bl)) pss_nil)
    (pss_cons (ps_if (PW.pt (pw_or (pt_not (pt_val (pe_call GP hr rfl mP kP bP .nil pass0 (pa_cons (pe_ix (show IxR _ (rIxT K) from ix_tup) (pv 0) pe_int (fun _ _ => rfl)) pa_nil)))) (pw_or1 (pt_not (pt_val (pe_call GP hr rfl mP kP bP .nil pass0 (pa_cons (pe_ix (show IxR _ (rIxT K) from ix_tup) (pv 0) pe_int (fun _ _ => rfl)) pa_nil))))))) (pss_one (ps_ret pe_bl)) pss_nil)
    (pss_cons (ps_if (pt_cmpR op_ne (pe_lenSetT rfl rfl T.zl rfl zse (pe_op op_catF (pe_ix (show IxR _ (rIxT K) from ix_tup) (pv 0) pe_int (fun _ _ => rfl)) (pe_ix (show IxR _ (rIxT K) from ix_tup) (pv 0) pe_int (fun _ _ => rfl)))) (pe_callB call_len_seq (by rfl) T.zl PySem.boot_len (pa_cons (pe_op op_catF (pe_ix (show IxR _ (rIxT K) from ix_tup) (pv 0) pe_int (fun _ _ => rfl)) (pe_ix (show IxR _ (rIxT K) from ix_tup) (pv 0) pe_int (fun _ _ => rfl))) pa_nil)) (nomark _)) (pss_one (ps_ret pe_bl)) pss_nil)
    (pss_cons (ps_set (i := 1) scIL.nd rfl (.inl rfl) (pe_lst pa_nil))
    (pss_cons (ps_set (i := 2) scIL.nd rfl (.inl rfl) (pe_lst pa_nil))
    (pss_cons (ps_for PassesOwn.never rfl (pi_tup (pe_ix (show IxR _ (rIxT K) from ix_tup) (pv 0) pe_int (fun _ _ => rfl))) (pg_name (i := 3) scIL.nd rfl (.inl rfl))
      (pss_cons (ps_if (PW.pt (pw_or (pt_not (pt_val (pe_callB (id := "isinstance") call_isi (by rfl) T.is_ (by decide +kernel) (pa_cons (pv 3) (pa_cons (pe_bltn (v := .ty "tuple") rfl T.zt PyProof.Rows.Boot.«tuple» rfl) pa_nil))))) (pw_or1 (pt_cmpR op_ne (pe_callB call_len_seq (by rfl) T.zl PySem.boot_len (pa_cons (pv 3) pa_nil)) pe_int (nomark _))))) (pss_one (ps_ret pe_bl)) pss_nil)
    (pss_cons (ps_asg (pv 3) (pg_tup (by rfl) (pgs_cons (pg_name (i := 4) scIL.nd rfl (.inr rfl)) (pgs_cons (pg_name (i := 5) scIL.nd rfl (.inr rfl)) pgs_nil))))
    (pss_cons (ps_if (PW.pt (pw_or (pt_not (pt_val (pe_call GP hr rfl mP kP bP .nil pass0 (pa_cons (pv 4) pa_nil)))) (pw_or (pt_not (pt_val (pe_call GP hr rfl mP kP bP .nil pass0 (pa_cons (pv 5) pa_nil)))) (pw_or1 (pt_cmpR (op_eqD hu) (pv 4) (pe_tup pa_nil) (nomark _)))))) (pss_one (ps_ret pe_bl)) pss_nil)
    (pss_cons (ps_if (pt_cmpR (op_neD hu) (pe_lc (own := [("one", 6)]) (g := gName 6) rfl scIL.nd (pi_tup (pe_ix (show IxR _ (rIxT K) from ix_tup) (pv 0) pe_int (fun _ _ => rfl))) (blkOk_by (own := [("one", 6)]) (N := nIL) (sc := defScope sIfaceL) (by decide +kernel)) (fun _ _ _ _ _ => pg_name (i := 6) scIL.nd rfl (Or.inl rfl)) (fun _ _ _ _ _ => pts_one (pt_cmpR (show OpR _ (compareOp .In) (rIn K false) from op_in_seq) (pv 6) (pv 4) (by rfl)))
          (fun _ _ _ _ _ => pv 6)) (pe_callTy call_list_of (by rfl) ml (by decide +kernel) (pa_cons (pv 4) pa_nil)) (nomark _)) (pss_one (ps_ret pe_bl)) pss_nil)
    (pss_cons (ps_if (pt_cmpR (op_neD hu) (pe_lc (own := [("one", 6)]) (g := gName 6) rfl scIL.nd (pi_tup (pe_ix (show IxR _ (rIxT K) from ix_tup) (pv 0) pe_int (fun _ _ => rfl))) (blkOk_by (own := [("one", 6)]) (N := nIL) (sc := defScope sIfaceL) (by decide +kernel)) (fun _ _ _ _ _ => pg_name (i := 6) scIL.nd rfl (Or.inl rfl)) (fun _ _ _ _ _ => pts_one (pt_cmpR (show OpR _ (compareOp .In) (rIn K false) from op_in_seq) (pv 6) (pv 5) (by rfl)))
          (fun _ _ _ _ _ => pv 6)) (pe_callTy call_list_of (by rfl) ml (by decide +kernel) (pa_cons (pv 5) pa_nil)) (nomark _)) (pss_one (ps_ret pe_bl)) pss_nil)
    (pss_cons (ps_set (i := 1) scIL.nd rfl (.inl rfl) (pe_op op_cat (pv 1) (pe_callTy call_list_of (by rfl) ml (by decide +kernel) (pa_cons (pv 4) pa_nil))))
    (pss_one (ps_expr (pe_bm PySem.F.plainAttrs_list PySem.F.slot_list_append PySem.F.type_list_append mt_append (pv 2) (pa_cons (pe_tm PySem.F.slot_tuple_index PySem.F.type_tuple_index (show MtR _ "tuple.index" (rTIx K) from mt_tix) (pe_ix (show IxR _ (rIxT K) from ix_tup) (pv 0) pe_int (fun _ _ => rfl)) (pa_cons (pe_ix (show IxR _ (rIxT K) from ix_tup) (pv 4) pe_int (fun _ _ => rfl)) pa_nil)) pa_nil)))))))))))
    (pss_one (ps_ret (pe_and (pe_cmpR (op_eqD hu) (pe_callB (id := "sorted") cr_sortedLst (by rfl) zso (by decide +kernel) (pa_cons (pv 1) pa_nil)) (pe_callB (id := "sorted") cr_sortedTup (by rfl) zso (by decide +kernel) (pa_cons (pe_ix (show IxR _ (rIxT K) from ix_tup) (pv 0) pe_int (fun _ _ => rfl)) pa_nil)) (nomark _)) (pe_one (pe_cmpR (op_eqD hu) (pv 2) (pe_callB (id := "sorted") cr_sortedInt (by rfl) zso (by decide +kernel) (pa_cons (pv 2) pa_nil)) (nomark _)))))))))))), ?_⟩
  have fail : ∀ H', Same H H' → ifOk d = false → Q (.bl false) H' := fun H' s' e => by
    have z := k H' s'
    rw [e] at z
    exact z
  obtain ⟨ty, tyx, _, kt⟩ := dq_ty (K := K) hd
  refine ⟨_, rfl, v, _, ty, _, isTup d, rfl, .ty "tuple", tyx, kt, _, rfl, ?_⟩
  by_cases hs : isTup d = true
  case neg =>
    have e1 : isTup d = false := by simpa using hs
    rw [e1]
    exact iteT (fail H (Same.refl H) (by cases d <;> first | rfl | exact absurd rfl hs))
  obtain ⟨ds, rfl⟩ : ∃ ds, d = .tuple ds := by cases d <;> first | exact ⟨_, rfl⟩ | cases hs
  obtain ⟨hkl, hkids⟩ := okd.kids
  cases hd with
  | @tup p0 xs _ n h1 h2 =>
  refine iteF ⟨_, rfl, p0, _, rfl, .inr h1.sq, rfl, _, rfl, ?_⟩
  by_cases h3 : ds.length = 3
  case neg =>
    have e2 : ifOk (.tuple ds) = false := by
      match ds, h3 with
      | [], _ => rfl
      | [_], _ => rfl
      | [_, _], _ => rfl
      | _ :: _ :: _ :: _ :: _, _ => rfl
    rw [decide_eq_false (show ¬ V.int ((xs.length : Nat) : Int) = V.int 3 from fun e => h3 (by
      have z : ((xs.length : Nat) : Int) = 3 := V.int.inj e
      rw [h2.len] at z
      omega))]
    exact iteT (fail H (Same.refl H) e2)
  obtain ⟨a, b, c, rfl⟩ : ∃ a b c, ds = [a, b, c] := by
    match ds, h3 with
    | [a, b, c], _ => exact ⟨a, b, c, rfl⟩
  cases h2 with
  | cons qa t1 =>
  cases t1 with
  | cons qb t2 =>
  cases t2 with
  | cons qc t3 =>
  cases t3
  rename_i va vb vc
  have oka := hkids a (by simp)
  have okb := hkids b (by simp)
  have okc := hkids c (by simp)
  obtain ⟨tyc, tycx, _, ktc⟩ := dq_ty (K := K) qc
  refine iteF ⟨_, rfl, p0, _, 2, vc, rfl, rfl, (ixT_same (Same.refl H) h1).sq, rfl, vc, _, tyc, _, isTup c, rfl, .ty "tuple", tycx, ktc, _, rfl, ?_⟩
  by_cases hsc : isTup c = true
  case neg =>
    have e1 : isTup c = false := by simpa using hsc
    rw [e1]
    exact iteT (fail H (Same.refl H) (by cases c <;> first | rfl | exact absurd rfl hsc))
  obtain ⟨ps, rfl⟩ : ∃ ps, c = .tuple ps := by cases c <;> first | exact ⟨_, rfl⟩ | cases hsc
  obtain ⟨hpl, hpk⟩ := okc.kids
  cases qc with
  | @tup p ws _ np hp1 hps =>
  have resP : portsOk a b = false → ifOk (.tuple [a, b, .tuple ps]) = false := fun z => by
    show (portsOk a b && _) = false
    rw [z]
    rfl
  refine iteF ⟨_, rfl, p0, _, 0, va, rfl, rfl, (ixT_same (Same.refl H) h1).sq, rfl, N, va, a, rfl, qa, oka, fun H1 s1 => ⟨_, rfl, ?_⟩⟩
  cases hla : lpOk a with
  | false =>
    refine iteT (fail H1 s1 (resP ?_))
    cases z : portsOk a b with
    | false => rfl
    | true =>
      unfold portsOk at z
      rw [Bool.and_eq_true, Bool.and_eq_true] at z
      obtain ⟨ins, en1, l1⟩ := pOk_names z.1.1
      obtain ⟨outs, en2, l2⟩ := pOk_names z.1.2
      have zz := z.2
      rw [ndOk_eq en1 en2, decide_eq_true_eq] at zz
      rw [lpOk_eq en1, decide_eq_true l1, decide_eq_true (List.nodup_append.mp zz).1] at hla
      cases hla
  | true =>
  refine iteF ⟨_, rfl, p0, _, 1, vb, rfl, rfl, (ixT_same s1 h1).sq, rfl, N, vb, b, rfl, dq_same s1 qb, okb, fun H2 s2 => ⟨_, rfl, ?_⟩⟩
  have s12 := s1.trans s2
  cases hlb : lpOk b with
  | false =>
    refine iteT (fail H2 s12 (resP ?_))
    cases z : portsOk a b with
    | false => rfl
    | true =>
      unfold portsOk at z
      rw [Bool.and_eq_true, Bool.and_eq_true] at z
      obtain ⟨ins, en1, l1⟩ := pOk_names z.1.1
      obtain ⟨outs, en2, l2⟩ := pOk_names z.1.2
      have zz := z.2
      rw [ndOk_eq en1 en2, decide_eq_true_eq] at zz
      rw [lpOk_eq en2, decide_eq_true l2, decide_eq_true (List.nodup_append.mp zz).2.1] at hlb
      cases hlb
  | true =>
  obtain ⟨ins, en1, l1, nd1⟩ := lpOk_names hla
  obtain ⟨outs, en2, l2, nd2⟩ := lpOk_names hlb
  obtain ⟨i, rfl, _, hi, _, hin⟩ := names_at (dq_same s12 qa) en1
  obtain ⟨o, rfl, _, ho, _, hon⟩ := names_at (dq_same s12 qb) en2
  have hpo : portsOk a b = decide (ins ++ outs).Nodup := by
    unfold portsOk
    rw [pOk_eq en1, pOk_eq en2, ndOk_eq en1 en2, decide_eq_true l1, decide_eq_true l2]
    rfl
  have lio : (ins ++ outs).length ≤ 16 := by rw [List.length_append]; omega
  refine iteF ⟨_, rfl, p0, _, 0, .ref i, rfl, rfl, (ixT_same s12 h1).sq, rfl, _, rfl, p0, _, 1, .ref o, rfl, rfl, (ixT_same s12 h1).sq, rfl, i, o, _, _, rfl, rfl, hi, ho, by rw [List.length_map, List.length_map]; exact big (by omega), fun p2 H3 s3 hp2 => ?_⟩
  refine ⟨p2, ins ++ outs, rfl, (by rw [List.map_append]; exact hp2.sq), by omega, fun cc hle hcc => ?_⟩
  have s13 := s12.trans s3
  refine ⟨_, rfl, p0, _, 0, .ref i, rfl, rfl, (ixT_same s13 h1).sq, rfl, _, rfl, p0, _, 1, .ref o, rfl, rfl, (ixT_same s13 h1).sq, rfl, i, o, _, _, rfl, rfl, ixT_same s3 hi, ixT_same s3 ho, by rw [List.length_map, List.length_map]; exact big (by omega), fun p3 H4 s4 hp3 => ⟨p3, _, rfl, .inr hp3.sq, rfl, _, rfl, ?_⟩⟩
  have s14 := s13.trans s4
  rw [List.length_append, List.length_map, List.length_map]
  by_cases hn : (ins ++ outs).Nodup
  case neg =>
    have z : ¬ cc = (ins ++ outs).length := fun e => hn (hcc.mp e)
    rw [List.length_append] at z
    rw [decide_eq_false fun e => z (by have := V.int.inj e; omega)]
    exact iteT (fail H4 s14 (resP (by rw [hpo, decide_eq_false hn])))
  have zc := hcc.mpr hn
  rw [List.length_append] at zc
  rw [decide_eq_true (congrArg V.int (by omega))]
  rw [decide_eq_true hn] at hpo
  have res : ifOk (.tuple [a, b, .tuple ps]) = (ps.all (stepOk ins outs) && tailOk outs ps) := by
    show (portsOk a b && restOk a b ps) = _
    rw [hpo, restOk_eq en1 en2]
    rfl
  refine iteF ⟨small1 (by show 0 ≤ 8; decide), fun L1 hL1 => ⟨small1 (by show 0 ≤ 8; decide), fun L2 hL2 => ?_⟩⟩
  have s5 := (upd_new (o := HO.lst []) hL1).trans (upd_new (o := HO.lst []) hL2)
  have f1 := (upd_new (o := HO.lst []) hL2) _ _ (upd_same (H := H4) (a := L1) (o := HO.lst []))
  have f2 := upd_same (H := upd H4 L1 (HO.lst [])) (a := L2) (o := HO.lst [])
  have n12 : L1 ≠ L2 := ne_of_none (upd_same (H := H4) (a := L1) (o := HO.lst [])) hL2
  have n4 : H4 L2 = none := (upd_new (o := HO.lst []) hL1).free hL2
  generalize upd (upd H4 L1 (HO.lst [])) L2 (HO.lst []) = H5 at s5 f1 f2 ⊢
  have s15 := s14.trans s5
  have i5 := ixT_same (s3.trans (s4.trans s5)) hi
  have o5 := ixT_same (s3.trans (s4.trans s5)) ho
  refine ⟨_, rfl, p0, _, 2, .ref p, rfl, rfl, (ixT_same s15 h1).sq, rfl, p, rfl, ⟨_, (ixT_same s15 hp1).sq⟩, for_tup (K := K) (a := p) (xs := ws) (fun m σ H' => ∃ (L : Addr) (u3 u4 u5 : Option V), σ = [some (.ref p0), some (.ref L), some (.ref L2), u3, u4, u5, none] ∧ SameX L2 H5 H' ∧ (∀ q u, H4 q = some u → H' q = some u) ∧ L ≠ L2 ∧ H' L = some (.lst ((namedOf (ps.take m)).map V.str)) ∧ H' L2 = some (.lst ((firstsOf outs (ps.take m)).map V.int)) ∧ ∀ d ∈ ps.take m, stepOk ins outs d = true)
    ⟨L1, _, _, _, rfl, SameX.refl _ _, fun q u e => s5 _ _ e, n12, f1, f2, fun d z => by cases z⟩ (fun m σ H' _ q => by
      obtain ⟨_, _, _, _, _, _, s, _⟩ := q
      exact (ixT_same (s14.trans s) hp1).sq) ?turn ?done⟩
  case turn =>
    rintro m x σ H6 hx ⟨L, u3, u4, u5, rfl, x6, s46, nL, gL, gL2, okm⟩
    obtain ⟨y, hy, hyd⟩ := hps.get m x hx
    have hml := (List.getElem?_eq_some_iff.mp hy).1
    have s06 : Same H H6 := fun q u e => s46 q u (s14 q u e)
    have hyd6 := dq_same s06 hyd
    have oky := hpk y (List.mem_of_getElem? hy)
    have failY : ∀ H', Same H H' → stepOk ins outs y = false → Q (.bl false) H' := fun H' s' z => fail H' s' (by
      rw [res]
      have e : ps.all (stepOk ins outs) = false := by
        cases e : ps.all (stepOk ins outs) with
        | false => rfl
        | true => rw [List.all_eq_true.mp e y (List.mem_of_getElem? hy)] at z; cases z
      rw [e]
      rfl)
    obtain ⟨tyy, tyyx, _, kty⟩ := dq_ty (K := K) hyd6
    refine ⟨_, rfl, x, _, tyy, _, isTup y, rfl, .ty "tuple", tyyx, kty, _, rfl, ?_⟩
    by_cases hsy : isTup y = true
    case neg =>
      have e1 : isTup y = false := by simpa using hsy
      rw [e1]
      exact iteT (failY H6 s06 (by cases y <;> first | rfl | exact absurd rfl hsy))
    obtain ⟨es, rfl⟩ : ∃ es, y = .tuple es := by cases y <;> first | exact ⟨_, rfl⟩ | cases hsy
    have hek := oky.kids.2
    cases hyd6 with
    | @tup q us _ nq hq hqs =>
    refine iteF ⟨_, rfl, q, _, rfl, .inr hq.sq, rfl, _, rfl, ?_⟩
    by_cases h22 : es.length = 2
    case neg =>
      have e2 : stepOk ins outs (.tuple es) = false := by
        match es, h22 with
        | [], _ => rfl
        | [_], _ => rfl
        | _ :: _ :: _ :: _, _ => rfl
      rw [decide_eq_false (show ¬ V.int ((us.length : Nat) : Int) = V.int 2 from fun e => h22 (by
        have z : ((us.length : Nat) : Int) = 2 := V.int.inj e
        rw [hqs.len] at z
        omega))]
      exact iteT (failY H6 s06 e2)
    obtain ⟨nn, mm, rfl⟩ : ∃ n m, es = [n, m] := by
      match es, h22 with
      | [n, m], _ => exact ⟨n, m, rfl⟩
    cases hqs with
    | cons q1 t1 =>
    cases t1 with
    | cons q2 t2 =>
    cases t2
    rename_i x1 x2
    have okn := hek nn (by simp)
    have okmm := hek mm (by simp)
    refine iteF ⟨_, rfl, q, _, rfl, hq.sq, rfl, _, _, rfl, _, _, rfl, rfl, ?_⟩
    refine ⟨_, rfl, N, x1, nn, rfl, q1, okn, fun H7 s7 => ⟨_, rfl, ?_⟩⟩
    have s07 := s06.trans s7
    cases hln : lpOk nn with
    | false =>
      refine iteT (failY H7 s07 ?_)
      cases z : stepOk ins outs (.tuple [nn, mm]) with
      | false => rfl
      | true =>
        have z : (selOf outs nn && !noneIn nn && selOf ins mm) = true := z
        rw [Bool.and_eq_true, Bool.and_eq_true] at z
        rw [lp_sel hon l2 nd2 z.1.1] at hln
        cases hln
    | true =>
    refine iteF ⟨_, rfl, N, x2, mm, rfl, dq_same s7 q2, okmm, fun H8 s8 => ⟨_, rfl, ?_⟩⟩
    have s78 := s7.trans s8
    have s08 := s06.trans s78
    cases hlm : lpOk mm with
    | false =>
      refine iteT (failY H8 s08 ?_)
      cases z : stepOk ins outs (.tuple [nn, mm]) with
      | false => rfl
      | true =>
        have z : (selOf outs nn && !noneIn nn && selOf ins mm) = true := z
        rw [Bool.and_eq_true, Bool.and_eq_true] at z
        rw [lp_sel hin l1 nd1 z.2] at hlm
        cases hlm
    | true =>
    obtain ⟨xs1, en1', l1', _⟩ := lpOk_names hln
    obtain ⟨xs2, en2', l2', _⟩ := lpOk_names hlm
    obtain ⟨ax, rfl, _, hax, exd, hxn⟩ := names_at (dq_same s78 q1) en1'
    obtain ⟨bx, rfl, _, hbx, eyd, hyn⟩ := names_at (dq_same s78 q2) en2'
    have sOk : stepOk ins outs (.tuple [nn, mm]) = (decide ((outs.filter fun x => decide (x ∈ xs1)) = xs1) && !noneIn nn && decide ((ins.filter fun x => decide (x ∈ xs2)) = xs2)) := by
      show (selOf outs nn && !noneIn nn && selOf ins mm) = _
      rw [sel_strs en1' exd, sel_strs en2' eyd]
    have eN : noneIn nn = decide (xs1 = []) := by
      rw [exd]
      cases xs1 with
      | nil => rfl
      | cons a r => exact (decide_eq_false (fun z => by cases z)).symm
    refine iteF ⟨_, rfl, small1 (by show 0 ≤ 8; decide), fun tz htz => ?_⟩
    have s9 := upd_new (o := HO.tup []) htz
    have gz : (upd H8 tz (.tup [])) tz = some (.tup []) := upd_same
    generalize upd H8 tz (.tup []) = H9 at s9 gz ⊢
    have s69 := s78.trans s9
    have s09 := s06.trans s69
    have ax9 := ixT_same s9 hax
    have bx9 := ixT_same s9 hbx
    refine ⟨.tuple (xs1.map PyData.str), .tuple [], .tup ax9.sq (dp_strs _), .tup (.of gz) .nil, tup_shaped _ hxn, by decide +kernel, _, rfl, ?_⟩
    have ez : PyData.eqv (.tuple (xs1.map PyData.str)) (.tuple []) = decide (xs1 = []) := eqv_strs xs1 []
    rw [ez]
    by_cases hne : xs1 = []
    · rw [decide_eq_true hne]
      exact iteT (failY H9 s09 (by rw [sOk, eN, decide_eq_true hne]; simp))
    rw [decide_eq_false hne]
    have o9 := ixT_same (fun q u e => s69 _ _ (s46 _ _ (s4 _ _ (s3 _ _ e)))) ho
    have i9 := ixT_same (fun q u e => s69 _ _ (s46 _ _ (s4 _ _ (s3 _ _ e)))) hi
    -- the outputs
    refine iteF ⟨_, rfl, p0, _, 1, .ref o, rfl, rfl, (ixT_same s09 h1).sq, rfl, o, rfl, ⟨_, o9.sq⟩, fun D hD => ?_⟩
    refine lc_tup (K := K) (a := o) (xs := outs.map V.str) (fun i H' => Same H9 H' ∧ H' D = some (.lst (((outs.take i).filter fun n => decide (n ∈ xs1)).map V.str))) ⟨upd_new hD, upd_same⟩ (fun i H' _ p => (ixT_same p.1 o9).sq) ?_ ?_
    · rintro j v H3 hi ⟨s3', a3⟩
      rw [List.getElem?_map] at hi
      obtain ⟨z, hz, rfl⟩ := Option.map_eq_some_iff.mp hi
      refine ⟨rfl, _, rfl, _, rfl, ax, xs1.map V.str, rfl, .inr (ixT_same s3' ax9).sq, rfl, strs_flat xs1, _, rfl, ?_⟩
      show if inV (.str z) (xs1.map V.str) = true then _ else _
      rw [inV_strs, tk1 hz]
      by_cases hm : z ∈ xs1
      · rw [decide_eq_true hm]
        refine iteT ⟨_, rfl, _, a3, ?_, same_put s3' hD, ?_⟩
        · rw [List.length_map]
          exact lt1 (Nat.le_trans (List.length_filter_le _ _) (by rw [List.length_take]; omega))
        · rw [upd_same, List.filter_append]
          simp [hm]
      · rw [decide_eq_false hm]
        refine iteF ⟨s3', ?_⟩
        rw [a3, List.filter_append]
        simp [hm]
    rintro H10 ⟨s10, a10⟩
    rw [List.take_of_length_le (by rw [List.length_map]; exact Nat.le_refl _)] at a10
    refine ⟨_, rfl, ax, _, rfl, .inr (ixT_same s10 ax9).sq, fun l hl => ?_⟩
    have s11 := upd_new (o := HO.lst (xs1.map V.str)) hl
    have hfn : ∀ x ∈ outs.filter (fun n => decide (n ∈ xs1)), isNm x = true := fun x hx => hon x (List.mem_filter.mp hx).1
    refine ⟨.list ((outs.filter fun n => decide (n ∈ xs1)).map PyData.str), .list (xs1.map PyData.str), .lst (.of (s11 _ _ a10)) (dp_strs _), .lst (.of upd_same) (dp_strs _), strs_shaped _ hfn, strs_shaped _ hxn, _, rfl, ?_⟩
    show if (!PyData.eqvAll _ _) = true then _ else _
    rw [eqv_strs]
    have s0b := s09.trans (s10.trans s11)
    have s6b := s69.trans (s10.trans s11)
    have s9b := s10.trans s11
    generalize upd H10 l (HO.lst (xs1.map V.str)) = H11 at s11 s0b s6b s9b ⊢
    by_cases he1 : (outs.filter fun x => decide (x ∈ xs1)) = xs1
    case neg =>
      rw [decide_eq_false he1]
      exact iteT (failY H11 s0b (by rw [sOk, decide_eq_false he1]; rfl))
    rw [decide_eq_true he1]
    -- the needs
    have ib := ixT_same s9b i9
    have bb := ixT_same s9b bx9
    refine iteF ⟨_, rfl, p0, _, 0, .ref i, rfl, rfl, (ixT_same s0b h1).sq, rfl, i, rfl, ⟨_, ib.sq⟩, fun D2 hD2 => ?_⟩
    refine lc_tup (K := K) (a := i) (xs := ins.map V.str) (fun i H' => Same H11 H' ∧ H' D2 = some (.lst (((ins.take i).filter fun n => decide (n ∈ xs2)).map V.str))) ⟨upd_new hD2, upd_same⟩ (fun i H' _ p => (ixT_same p.1 ib).sq) ?_ ?_
    · rintro j v H3 hi ⟨s3', a3⟩
      rw [List.getElem?_map] at hi
      obtain ⟨z, hz, rfl⟩ := Option.map_eq_some_iff.mp hi
      refine ⟨rfl, _, rfl, _, rfl, bx, xs2.map V.str, rfl, .inr (ixT_same s3' bb).sq, rfl, strs_flat xs2, _, rfl, ?_⟩
      show if inV (.str z) (xs2.map V.str) = true then _ else _
      rw [inV_strs, tk1 hz]
      by_cases hm : z ∈ xs2
      · rw [decide_eq_true hm]
        refine iteT ⟨_, rfl, _, a3, ?_, same_put s3' hD2, ?_⟩
        · rw [List.length_map]
          exact lt1 (Nat.le_trans (List.length_filter_le _ _) (by rw [List.length_take]; omega))
        · rw [upd_same, List.filter_append]
          simp [hm]
      · rw [decide_eq_false hm]
        refine iteF ⟨s3', ?_⟩
        rw [a3, List.filter_append]
        simp [hm]
    rintro H12 ⟨s12', a12⟩
    rw [List.take_of_length_le (by rw [List.length_map]; exact Nat.le_refl _)] at a12
    refine ⟨_, rfl, bx, _, rfl, .inr (ixT_same s12' bb).sq, fun l' hl' => ?_⟩
    have s13' := upd_new (o := HO.lst (xs2.map V.str)) hl'
    have hfn2 : ∀ x ∈ ins.filter (fun n => decide (n ∈ xs2)), isNm x = true := fun x hx => hin x (List.mem_filter.mp hx).1
    refine ⟨.list ((ins.filter fun n => decide (n ∈ xs2)).map PyData.str), .list (xs2.map PyData.str), .lst (.of (s13' _ _ a12)) (dp_strs _), .lst (.of upd_same) (dp_strs _), strs_shaped _ hfn2, strs_shaped _ hyn, _, rfl, ?_⟩
    show if (!PyData.eqvAll _ _) = true then _ else _
    rw [eqv_strs]
    have s0d := s0b.trans (s12'.trans s13')
    have s6d := s6b.trans (s12'.trans s13')
    have s9d := s9b.trans (s12'.trans s13')
    generalize upd H12 l' (HO.lst (xs2.map V.str)) = H13 at s13' s0d s6d s9d ⊢
    by_cases he2 : (ins.filter fun x => decide (x ∈ xs2)) = xs2
    case neg =>
      rw [decide_eq_false he2]
      exact iteT (failY H13 s0d (by rw [sOk, decide_eq_false he2, Bool.and_false]))
    rw [decide_eq_true he2]
    have good : stepOk ins outs (.tuple [nn, mm]) = true := by
      rw [sOk, decide_eq_true he1, decide_eq_true he2, eN, decide_eq_false hne]
      rfl
    have hsub : xs1.Sublist outs := by
      rw [← he1]
      exact List.filter_sublist
    have hok12 : ∀ d ∈ ps.take (m + 1), stepOk ins outs d = true := fun d hd => by
      rw [tk1 hy] at hd
      rcases List.mem_append.mp hd with hd | hd
      · exact okm d hd
      · rw [List.mem_singleton.mp hd]
        exact good
    have esn : stepNames (.tuple [nn, mm]) = xs1 := by
      show (namesOf nn).getD [] = xs1
      rw [en1']
      rfl
    have hsubs : ∀ d ∈ ps.take m, (stepNames d).length ≤ 8 := fun d hd => by
      obtain ⟨_, _, ys, _, _, _, _, hsub, esn, _, _⟩ := step_parts hin hon (okm d hd)
      rw [esn]
      have := hsub.length_le
      omega
    have hflat : ∀ l : List PyData, (∀ d ∈ l, (stepNames d).length ≤ 8) → (namedOf l).length ≤ 8 * l.length := by
      intro l
      induction l with
      | nil => exact fun _ => Nat.zero_le _
      | cons d r ih =>
        intro hl
        have h1 := ih fun e he => hl e (List.mem_cons_of_mem _ he)
        have h2 := hl d List.mem_cons_self
        unfold namedOf at h1 ⊢
        rw [List.flatMap_cons, List.length_append, List.length_cons]
        omega
    have hnl : (namedOf (ps.take m)).length ≤ 8 * 12 := by
      have z := hflat (ps.take m) hsubs
      rw [List.length_take] at z
      omega
    -- computed
    have ad := ixT_same s9d ax9
    refine iteF ⟨_, rfl, _, rfl, ax, _, rfl, .inr ad.sq, fun l2 hl2 => ?_⟩
    have s14' := upd_new (o := HO.lst (xs1.map V.str)) hl2
    refine ⟨L, l2, _, _, rfl, rfl, s14' _ _ (s6d _ _ gL), upd_same, by rw [List.length_map, List.length_map]; exact big (by omega), fun l3 hl3 => ?_⟩
    rw [← List.map_append]
    have s15' := s14'.trans (upd_new (o := HO.lst ((namedOf (ps.take m) ++ xs1).map V.str)) hl3)
    have gl3 : (upd (upd H13 l2 (.lst (xs1.map V.str))) l3 (.lst ((namedOf (ps.take m) ++ xs1).map V.str))) l3 = some (.lst ((namedOf (ps.take m) ++ xs1).map V.str)) := upd_same
    have n3 : l3 ≠ L2 := (ne_of_none ((s14' _ _ (s6d _ _ gL2))) hl3).symm
    generalize upd (upd H13 l2 (.lst (xs1.map V.str))) l3 (.lst ((namedOf (ps.take m) ++ xs1).map V.str)) = H14 at s15' gl3 ⊢
    have s6e := s6d.trans s15'
    have s9e := s9d.trans s15'
    have s0e := s06.trans s6e
    -- firsts
    have hh : xs1.headD Str.empty ∈ outs := hsub.subset (head_mem hne)
    obtain ⟨z1, z2⟩ := idx_at outs _ hh
    have oe := ixT_same s9e o9
    have gLe := s6e _ _ gL2
    refine ⟨_, rfl, .inl ⟨rfl, _, .of gLe⟩, _, rfl, p0, _, 1, .ref o, rfl, rfl, (ixT_same s0e h1).sq, rfl, ⟨o, _, rfl, oe⟩, _, rfl, ax, _, 0, _, rfl, rfl, (ixT_same s9e ax9).sq, at0 hne, o, outs, _, _, rfl, rfl, oe.sq, z1, z2, L2, _, _, rfl, rfl, gLe, lt1 ?_, l3, _, _, _, rfl, ?_, ?_, n3, ?_, ?_, hok12⟩
    · rw [List.length_map]
      unfold firstsOf
      rw [List.length_map, List.length_take]
      omega
    · exact (x6.trans (.of s6e)).trans .put
    · intro q u e
      have ne : q ≠ L2 := ne_of_none e n4
      rw [upd_ne ne]
      exact s6e _ _ (s46 _ _ e)
    · rw [upd_ne n3, gl3, tk1 hy]
      unfold namedOf
      rw [List.flatMap_append]
      simp [esn]
    · rw [upd_same, tk1 hy]
      unfold firstsOf
      rw [List.map_append, List.map_append, List.map_cons, esn]
      rfl
  rintro σ H6 ⟨L, u3, u4, u5, rfl, x6, s46, nL, gL, gL2, okm⟩
  rw [hps.len, List.take_length] at gL gL2 okm
  have s06 : Same H H6 := fun q u e => s46 q u (s14 q u e)
  have hall : ps.all (stepOk ins outs) = true := List.all_eq_true.mpr okm
  rw [hall, Bool.true_and] at res
  have hnn : ∀ x ∈ namedOf ps, isNm x = true := fun x hx => by
    obtain ⟨d, hd, hx⟩ := List.mem_flatMap.mp hx
    obtain ⟨_, _, ys, _, _, _, _, hsub, esn, _, _⟩ := step_parts hin hon (okm d hd)
    rw [esn] at hx
    exact hon x (hsub.subset hx)
  have o6 := ixT_same (fun q u e => s46 _ _ (s4 _ _ (s3 _ _ e))) ho
  refine ⟨_, rfl, L, namedOf ps, rfl, .of gL, fun ys q1 hp1 hs1 hq1 => ⟨_, rfl, p0, _, 1, .ref o, rfl, rfl, (ixT_same (s06.trans (upd_new hq1)) h1).sq, rfl, o, outs, rfl, (ixT_same (upd_new hq1) o6).sq, fun zs q2 hp2 hs2 hq2 => ?_⟩⟩
  have hyn : ∀ x ∈ ys, isNm x = true := fun x hx => hnn x (hp1.mem_iff.mp hx)
  have hzn : ∀ x ∈ zs, isNm x = true := fun x hx => hon x (hp2.mem_iff.mp hx)
  have s7 := (upd_new (o := HO.lst (ys.map V.str)) hq1).trans (upd_new (o := HO.lst (zs.map V.str)) hq2)
  refine ⟨.list (ys.map PyData.str), .list (zs.map PyData.str), .lst (.of ((upd_new hq2) _ _ upd_same)) (dp_strs _), .lst (.of upd_same) (dp_strs _), strs_shaped _ hyn, strs_shaped _ hzn, _, rfl, ?_⟩
  show if PyData.eqvAll _ _ = true then _ else _
  rw [eqv_strs, strs_perm hs1 hs2 hp1 hp2]
  have gL7 := s7 _ _ gL2
  have s07 := s06.trans s7
  generalize upd (upd H6 q1 (HO.lst (ys.map V.str))) q2 (HO.lst (zs.map V.str)) = H7 at s7 gL7 s07 ⊢
  by_cases hfp : (namedOf ps).Perm outs
  case neg =>
    rw [decide_eq_false hfp]
    exact iteF (fail H7 s07 (by rw [res]; unfold tailOk; rw [decide_eq_false hfp, Bool.and_false]))
  rw [decide_eq_true hfp]
  refine iteT ⟨_, rfl, _, rfl, L2, firstsOf outs ps, rfl, .of gL7, fun ms q hperm hpw hq => ?_⟩
  have s8 := upd_new (o := HO.lst (ms.map V.int)) hq
  refine ⟨.list ((firstsOf outs ps).map PyData.int), .list (ms.map PyData.int), .lst (.of (s8 _ _ gL7)) (dp_ints _), .lst (.of upd_same) (dp_ints _), ints_shaped _, ints_shaped _, ?_⟩
  show Q (.bl (PyData.eqvAll _ _)) _
  rw [eqv_ints, ints_perm hperm hpw]
  have z := k _ (s07.trans s8)
  rw [res] at z
  unfold tailOk at z
  rw [decide_eq_true hfp, Bool.and_true] at z
  exact z
end
end K22
/-! OwnK: a text, once or many times. -/
namespace Own
open PySem PySem.Spec PyProof.Rows L2
def repT (x : Str) (n : Int) : Str := ⟨(List.replicate n.toNat x.cps).foldl (· ++ ·) #[]⟩
theorem rep_tl (a : Array Nat) : ∀ (n : Nat) (acc : Array Nat), ((List.replicate n a).foldl (· ++ ·) acc).toList = acc.toList ++ (List.replicate n a.toList).flatten
  | 0, acc => by simp
  | n + 1, acc => by
    rw [List.replicate_succ, List.foldl_cons, rep_tl a n, List.replicate_succ, List.flatten_cons, Array.toList_append, List.append_assoc]
theorem repT_tl (x : Str) (n : Int) : (repT x n).cps.toList = (List.replicate n.toNat x.cps.toList).flatten := by
  unfold repT
  rw [rep_tl]
  rfl
theorem repT_len (x : Str) (n : Int) : (repT x n).length = n.toNat * x.length := by
  have e : (repT x n).length = (repT x n).cps.toList.length := by simp [Str.length]
  rw [e, repT_tl]
  simp [Str.length]
theorem repT_one (x : Str) : repT x 1 = x := by
  unfold repT
  show (⟨(#[] : Array Nat) ++ x.cps⟩ : Str) = x
  rw [Array.empty_append]
def rMulN : R2 := fun x y H Q => ∃ (i : Str) (n : Int), x = .str i ∧ y = .int n ∧ 1 ≤ n ∧ n ≤ 100000 ∧ 0 < i.length ∧ i.length ≤ 100 ∧ Q (.str (repT i n)) H
theorem op_mul_strN {X : Cx} : OpR X (binaryOp .Mult) rMulN := by
  intro pins s σ H x y v u Q I rx ry h
  obtain ⟨i, n, rfl, rfl, h2, h3, h4, h5, q⟩ := h
  obtain ⟨t, rfl⟩ := rx
  obtain ⟨t', rfl⟩ := ry
  have hn1 : ¬ n < 1 := by omega
  have hm : i.length * n.toNat ≤ 10000000 := by
    have : n.toNat ≤ 100000 := by omega
    exact Nat.mul_le_mul h5 this
  have hz : (repT i n).length ≤ sizeLine := by
    rw [repT_len, sizeLine_eq, Nat.mul_comm]
    omega
  refine PySem.P.mul_str (by rw [Bool.or_eq_false_iff]; exact ⟨decide_eq_false (by omega), decide_eq_false (by omega)⟩) (fun _ _ => ?_) (fun _ _ => ?_) ?_
  · have e : ((2 : Int) ^ 63 - 1) = 9223372036854775807 := by decide
    have e2 : (i.length : Int) * n = ((i.length * n.toNat : Nat) : Int) := by
      rw [Int.natCast_mul, Int.toNat_of_nonneg (by omega)]
    have h6 : (i.length : Int) ≤ (2 ^ 63 - 1) / n := Int.le_ediv_of_mul_le (by omega) (by rw [e2, e]; omega)
    omega
  · show decide (i.length * n.toNat > sizeLine) = false
    exact decide_eq_false (by rw [sizeLine_eq]; omega)
  · rw [if_neg hn1]
    by_cases h1 : n = 1
    · subst h1
      have hc : ((1 : Int) == 1 || i.length == 0) = true := rfl
      rw [if_pos hc]
      rw [repT_one] at q
      exact ⟨.str i, H, I, ⟨_, rfl⟩, q⟩
    · have hc : (n == 1 || i.length == 0) = false := by
        rw [Bool.or_eq_false_iff]
        exact ⟨beq_eq_false_iff_ne.mpr h1, beq_eq_false_iff_ne.mpr (by omega)⟩
      rw [if_neg (by rw [hc]; exact Bool.false_ne_true)]
      exact ⟨hz, ⟨.str (repT i n), H, I.tok _, ⟨_, rfl⟩, q⟩⟩
end Own
namespace K22
open PySem L2 Own StX ClX NdefX
theorem at_of {α : Type} {xs : List α} {i : Int} {j : Nat} {x : α} (hi : i = (j : Int)) (h : xs[j]? = some x) : atI xs i = some x := by
  subst hi
  have hj := (List.getElem?_eq_some_iff.mp h).1
  simp [atI, ixN, hj]
  exact (List.getElem?_eq_some_iff.mp h).2
/-- the draws -/
def Fd (H : Hp) (a : Addr) : Prop := ∃ d s : Int, H a = some (.lst [.int d, .int s]) ∧ 0 ≤ d
theorem Fd.same {H H' : Hp} {a : Addr} (f : Fd H a) (s : Same H H') : Fd H' a := by
  obtain ⟨d, t, h, h0⟩ := f
  exact ⟨d, t, s _ _ h, h0⟩
theorem Fd.is {H : Hp} {a : Addr} (f : Fd H a) : ∃ l, H a = some (.lst l) := by
  obtain ⟨d, t, h, h0⟩ := f
  exact ⟨_, h⟩
theorem Fd.ne {H : Hp} {a p : Addr} (f : Fd H a) (h : H p = none) : a ≠ p := by
  obtain ⟨l, e⟩ := f.is
  exact ne_of_none e h
/-- avoided: lists -/
def Ls (H : Hp) (N : List Addr) : Prop := ∀ b ∈ N, ∃ l, H b = some (.lst l)
structure Fn (H : Hp) (a : Addr) (N : List Addr) : Prop where
  fd : Fd H a
  ls : Ls H N
  mem : a ∈ N
theorem Fn.same {H H' : Hp} {a : Addr} {N : List Addr} (f : Fn H a N) (s : Same H H') : Fn H' a N := ⟨f.fd.same s, fun b hb => by
  obtain ⟨l, e⟩ := f.ls b hb
  exact ⟨l, s _ _ e⟩, f.mem⟩
theorem Fn.X {H H' : Hp} {a : Addr} {N : List Addr} (f : Fn H a N) (s : SameX a H H') (g : Fd H' a) : Fn H' a N := ⟨g, fun b hb => by
  by_cases e : b = a
  · rw [e]
    exact g.is
  · obtain ⟨l, h⟩ := f.ls b hb
    exact ⟨l, s _ _ e h⟩, f.mem⟩
theorem Fn.ne {H : Hp} {a p : Addr} {N : List Addr} (f : Fn H a N) (h : H p = none) : p ∉ N := fun z => by
  obtain ⟨l, e⟩ := f.ls p z
  rw [h] at e
  cases e
theorem Fn.one {H : Hp} {a : Addr} (f : Fd H a) : Fn H a [a] := ⟨f, fun b hb => by rw [List.mem_singleton.mp hb]; exact f.is, List.mem_singleton.mpr rfl⟩
theorem ixT_Ls {N : List Addr} {H : Hp} {a : Addr} {xs : List V} (f : Ls H N) (h : IxT H a xs) : a ∉ N := fun z => by
  obtain ⟨l, e⟩ := f a z
  exact ixT_ne h e rfl
def spFeed (K : PySem.W.Frag) : Sp := fun vs H Q _ => ∃ (a : Addr) (ns : List Int) (k : Int), vs = [.ref a, .int k] ∧ SqL K H a (ns.map V.int) ∧ ns.length ≤ 1000 ∧ 0 ≤ k ∧ k ≤ 100 ∧
  ∀ p H', Same H H' → Fd H' p → H p = none → Q (.ref p) H'
def spTakeL : Sp := fun vs H Q _ => ∃ (a : Addr) (m : Int), vs = [.ref a, .int m] ∧ Fd H a ∧ 0 < m ∧ m ≤ 8589934592 ∧
  ∀ r H', SameX a H H' → Fd H' a → 0 ≤ r → r < m → Q (.int r) H'
def spPick : Sp := fun vs H Q _ => ∃ (a l : Addr) (xs : List V), vs = [.ref a, .ref l] ∧ Fd H a ∧ a ≠ l ∧ H l = some (.lst xs) ∧ 0 < xs.length ∧ xs.length ≤ 1000 ∧
  ∀ (i : Nat) x H', SameX a H H' → Fd H' a → xs[i]? = some x → Q x H'
theorem fd_put {H : Hp} {a : Addr} {d s : Int} (h : 0 ≤ d) : SameX a H (upd H a (.lst [.int d, .int s])) ∧ Fd (upd H a (.lst [.int d, .int s])) a := ⟨SameX.put, d, s, upd_same, h⟩
section
variable {P : Program} {w : World} {K : PySem.W.Frag} {mg : Str → Option Value} {base : Heap}
abbrev nFe : List Str := ["script", "k", "seed", "digits"]
theorem scFe : FnScope nFe ["script", "k"] (defScope sFeed) := ⟨rfl, rfl, rfl, by decide +kernel, rfl, by decide +kernel, by decide +kernel⟩
theorem ok_feed {f : Addr} {fd : FuncData} (F : Fun K "_law_feed" "_law_feed" sFeed f fd) (mli : mg "list" = none) (mmax : mg "max" = none) (mabs : mg "abs" = none) : FnOk P w K mg base CX0 1 f fd ["script", "k"] (spFeed K) := by
  refine F.ok scFe (fun vs H Q E h => ?_) (fun cdv A outer s H vs Q E hr h => ?_)
  · obtain ⟨a, ns, k, rfl, _⟩ := h
    rfl
  obtain ⟨a, ns, k, rfl, hS, hlen, h0, h1, q⟩ := h
  refine ⟨_, pss_cons (ps_set (i := 2) scFe.nd rfl (.inl rfl) (pe_ix ix_list (pe_op op_cat (pe_callTy call_list_of (by rfl) mli (by decide +kernel) (pa_cons (pe_slice sl_list (pv 0) (po_some (pv 1)) (po_some (pe_op op_add (pv 1) pe_int))) pa_nil)) (pe_lst (pa_cons (pe_op op_add (pe_op op_mul pe_int (pv 1)) pe_int) pa_nil))) pe_int (fun _ _ => rfl)))
    (pss_cons (ps_set (i := 3) scFe.nd rfl (.inl rfl) (pe_callB (call_max2 rfl) (by rfl) mmax (by decide +kernel) (pa_cons pe_int (pa_cons (pe_op op_sub (pe_callB call_abs (by rfl) mabs (by decide +kernel) (pa_cons (pv 2) pa_nil)) (pe_op op_pow pe_int pe_int)) pa_nil))))
    (pss_one (ps_ret (pe_lst (pa_cons (pv 3) (pa_cons (pe_op op_mod (pe_op op_add (pe_op op_add (pe_op op_mul (pe_op op_mod (pe_callB call_abs (by rfl) mabs (by decide +kernel) (pa_cons (pv 2) pa_nil)) pe_int) pe_int) (pe_op op_mul pe_int (pv 1))) pe_int) pe_int) pa_nil)))))), ?_⟩
  refine ⟨_, rfl, _, rfl, _, rfl, _, rfl, _, _, rfl, rfl, _, rfl, a, _, rfl, hS, fun l1 hl1 => ⟨l1, _, rfl, .inl (.of upd_same), fun l2 hl2 => ?_⟩⟩
  have t2 := (upd_new (o := HO.lst (cutV (ns.map V.int) (some k) (some (k + 1)))) hl1).trans (upd_new (o := HO.lst (cutV (ns.map V.int) (some k) (some (k + 1)))) hl2)
  have g2 : (upd (upd H l1 (.lst (cutV (ns.map V.int) (some k) (some (k + 1))))) l2 (.lst (cutV (ns.map V.int) (some k) (some (k + 1))))) l2 = some (.lst (cutV (ns.map V.int) (some k) (some (k + 1)))) := upd_same
  generalize upd (upd H l1 (.lst (cutV (ns.map V.int) (some k) (some (k + 1))))) l2 (.lst (cutV (ns.map V.int) (some k) (some (k + 1)))) = H2 at t2 g2 ⊢
  have cl := cutV_length (ns.map V.int) (some k) (some (k + 1))
  rw [List.length_map] at cl
  refine ⟨_, rfl, _, _, rfl, rfl, .inl ⟨by decide, by decide⟩, _, _, rfl, rfl, small1 (by show 1 ≤ 8; decide), fun l3 hl3 => ?_⟩
  have t3 := upd_new (o := HO.lst [V.int (71 * k + 23)]) hl3
  refine ⟨l2, l3, _, _, rfl, rfl, t3 _ _ g2, upd_same, big (by show _ + 1 ≤ 100000; omega), fun l4 hl4 => ?_⟩
  obtain ⟨c, hc⟩ : ∃ c : Int, (cutV (ns.map V.int) (some k) (some (k + 1)) ++ [V.int (71 * k + 23)])[0]? = some (.int c) := by
    have e : cutV (ns.map V.int) (some k) (some (k + 1)) = ((ns.drop (HT.sIx (ns.map V.int).length 0 (some k))).take (HT.sIx (ns.map V.int).length (ns.map V.int).length (some (k + 1)) - HT.sIx (ns.map V.int).length 0 (some k))).map V.int := by
      unfold cutV
      rw [List.map_take, List.map_drop]
    rw [e]
    generalize (ns.drop (HT.sIx (ns.map V.int).length 0 (some k))).take (HT.sIx (ns.map V.int).length (ns.map V.int).length (some (k + 1)) - HT.sIx (ns.map V.int).length 0 (some k)) = l
    cases l with
    | nil => exact ⟨_, rfl⟩
    | cons c r => exact ⟨c, rfl⟩
  have t4 := t2.trans (t3.trans (upd_new (o := HO.lst (cutV (ns.map V.int) (some k) (some (k + 1)) ++ [V.int (71 * k + 23)])) hl4))
  refine ⟨l4, _, _, .int c, rfl, rfl, .of upd_same, at_of (j := 0) rfl hc, ?_⟩
  generalize upd (upd H2 l3 (.lst [V.int (71 * k + 23)])) l4 (.lst (cutV (ns.map V.int) (some k) (some (k + 1)) ++ [V.int (71 * k + 23)])) = H4 at t4 ⊢
  refine ⟨_, rfl, _, rfl, _, _, rfl, rfl, ⟨by decide, by decide, by decide⟩, _, _, rfl, rfl, _, _, rfl, ?_⟩
  refine ⟨_, rfl, _, rfl, _, rfl, _, _, rfl, rfl, (by show (0 : Int) < 1000003; decide), _, _, rfl, rfl, .inr ⟨by decide, by decide⟩, _, rfl, _, _, rfl, rfl, .inl ⟨by decide, by decide⟩, _, _, rfl, rfl, _, _, rfl, rfl, _, _, rfl, rfl, (by show (0 : Int) < 1000033; decide), small1 (by show 2 ≤ 8; decide), fun p hp => ?_⟩
  exact q p _ (t4.trans (upd_new hp)) ⟨_, _, upd_same, by split <;> omega⟩ (t4.free hp)
abbrev nTk : List Str := ["feed", "size", "number"]
theorem scTkL : FnScope nTk ["feed", "size"] (defScope sTakeL) := ⟨rfl, rfl, rfl, by decide +kernel, rfl, by decide +kernel, by decide +kernel⟩
theorem log_many {m : Int} (h : 0 < m) (h2 : m ≤ 8589934592) : m.natAbs.log2 < 9000 := by
  have h2 : m.natAbs < 2 ^ 34 := by omega
  exact Nat.lt_trans (PySem.Flt.log2_lt_of (by decide) h2) (by decide)
theorem ok_takeL {f : Addr} {fd : FuncData} (F : Fun K "_law_take" "_law_take" sTakeL f fd) : FnOk P w K mg base CX0 1 f fd ["feed", "size"] spTakeL := by
  refine F.ok scTkL (fun vs H Q E h => ?_) (fun cdv A outer s H vs Q E hr h => ?_)
  · obtain ⟨a, m, rfl, _⟩ := h
    rfl
  obtain ⟨a, m, rfl, ⟨d, s, ha, h0⟩, hm, hm2, k⟩ := h
  have at0 : ∀ x y : Int, atI [V.int x, V.int y] 0 = some (.int x) := fun x y => at_of (j := 0) rfl rfl
  have at1 : ∀ x y : Int, atI [V.int x, V.int y] 1 = some (.int y) := fun x y => at_of (j := 1) rfl rfl
  have ix0 : ixN 2 0 = some 0 := by decide +kernel
  have ix1 : ixN 2 1 = some 1 := by decide +kernel
  refine ⟨_, pss_cons (ps_if (pt_cmpR op_gt (pe_ix ix_list (pv 0) pe_int (fun _ _ => rfl)) pe_int (nomark _))
      (pss_cons (ps_set (i := 2) scTkL.nd rfl (.inl rfl) (pe_op op_mod (pe_ix ix_list (pv 0) pe_int (fun _ _ => rfl)) (pv 1)))
      (pss_cons (ps_asg (pe_op op_fdivW (pe_ix ix_list (pv 0) pe_int (fun _ _ => rfl)) (pv 1)) (pg_sub (pv 0) pe_int set_list))
      (pss_one (ps_ret (pv 2))))) pss_nil)
    (pss_cons (ps_asg (pe_op op_mod (pe_op op_add (pe_op op_mul (pe_ix ix_list (pv 0) pe_int (fun _ _ => rfl)) pe_int) pe_int) pe_int) (pg_sub (pv 0) pe_int set_list))
    (pss_one (ps_ret (pe_op op_mod (pe_op op_fdiv (pe_ix ix_list (pv 0) pe_int (fun _ _ => rfl)) pe_int) (pv 1))))), ?_⟩
  refine ⟨_, rfl, a, _, _, _, rfl, rfl, .of ha, at0 _ _, _, _, rfl, rfl, _, rfl, ?_⟩
  by_cases hc : 0 < d
  · rw [decide_eq_true hc]
    refine iteT ⟨_, rfl, a, _, _, _, rfl, rfl, .of ha, at0 _ _, _, rfl, _, _, rfl, rfl, hm, ?_⟩
    refine ⟨_, rfl, a, _, _, _, rfl, rfl, .of ha, at0 _ _, _, rfl, _, _, rfl, rfl, ⟨hm, log_many hm hm2⟩, _, rfl, a, _, _, 0, rfl, rfl, ha, ix0, ?_⟩
    obtain ⟨z1, z2⟩ := fd_put (H := H) (a := a) (d := d / m) (s := s) (Int.ediv_nonneg h0 (by omega))
    exact ⟨_, rfl, k _ _ z1 z2 (Int.emod_nonneg _ (by omega)) (Int.emod_lt_of_pos _ hm)⟩
  · rw [decide_eq_false hc]
    refine iteF ⟨_, rfl, a, _, _, _, rfl, rfl, .of ha, at1 _ _, _, _, rfl, rfl, .inr ⟨by decide, by decide⟩, _, _, rfl, rfl, _, _, rfl, rfl, (by show (0 : Int) < 4294967311; decide), _, rfl, a, _, _, 1, rfl, rfl, ha, ix1, ?_⟩
    refine ⟨_, rfl, a, _, _, _, rfl, rfl, .of upd_same, at1 _ _, _, _, rfl, rfl, ⟨by decide, by decide⟩, _, rfl, _, _, rfl, rfl, hm, ?_⟩
    obtain ⟨z1, z2⟩ := fd_put (H := H) (a := a) (d := d) (s := (s * 69069 + 12345) % 4294967311) h0
    exact k _ _ z1 z2 (Int.emod_nonneg _ (by omega)) (Int.emod_lt_of_pos _ hm)
abbrev nPk : List Str := ["feed", "choices"]
theorem scPk : FnScope nPk ["feed", "choices"] (defScope sPickL) := ⟨rfl, rfl, rfl, by decide +kernel, rfl, by decide +kernel, by decide +kernel⟩
theorem ok_pick {f fT : Addr} {fd fdT : FuncData} (F : Fun K "_law_pick" "_law_pick" sPickL f fd) (GT : FnOk P w K mg base CX0 1 fT fdT ["feed", "size"] spTakeL) (mT : mg "_law_take" = some (.ref fT)) (kT : PySem.W.keepIn K (.ref fT) = true) (bT : Binds K fdT ["feed", "size"] []) (mlen : mg "len" = none) :
    FnOk P w K mg base CX0 2 f fd ["feed", "choices"] spPick := by
  refine F.ok scPk (fun vs H Q E h => ?_) (fun cdv A outer s H vs Q E hr h => ?_)
  · obtain ⟨a, l, xs, rfl, _⟩ := h
    rfl
  obtain ⟨a, l, xs, rfl, ha, hne, hl, hx0, hx1, k⟩ := h
  refine ⟨_, pss_one (ps_ret (pe_ix ix_list (pv 1) (pe_call GT hr rfl mT kT bT .nil pass0 (pa_cons (pv 0) (pa_cons (pe_callB call_len_seq (by rfl) mlen PySem.boot_len (pa_cons (pv 1) pa_nil)) pa_nil))) (fun _ _ => rfl))), ?_⟩
  refine ⟨_, rfl, _, rfl, _, rfl, l, xs, rfl, .inl (.of hl), a, xs.length, rfl, ha, by omega, by omega, fun r H' x' f' hr0 hr1 => ?_⟩
  have hj : r.toNat < xs.length := by omega
  exact ⟨l, xs, r, xs[r.toNat], rfl, rfl, .of (x' _ _ (Ne.symm hne) hl), at_of (j := r.toNat) (by omega) (List.getElem?_eq_getElem hj), k r.toNat _ H' x' f' (List.getElem?_eq_getElem hj)⟩
end
end K22
namespace K22
open PySem L2 Own StX ClX NdefX
/-! ### what stays: tuples without dicts -/
def SameF (H H' : Hp) : Prop := ∀ b o u, H b = some (.frz o u) → H' b = some (.frz o u)
theorem SameF.refl (H : Hp) : SameF H H := fun _ _ _ h => h
theorem SameF.trans {H H1 H2 : Hp} (a : SameF H H1) (b : SameF H1 H2) : SameF H H2 := fun c o u h => b c o u (a c o u h)
theorem SameF.of {H H' : Hp} (s : Same H H') : SameF H H' := fun b o u h => s _ _ h
theorem SameF.X {H H' : Hp} {a : Addr} (s : SameX a H H') (f : Fd H a) : SameF H H' := fun b o u h => by
  obtain ⟨l, e⟩ := f.is
  exact s _ _ (fun z => by rw [z, e] at h; cases h) h
theorem SameF.put {H : Hp} {p : Addr} {l : List V} {o : HO} (h : H p = some (.lst l)) : SameF H (upd H p o) := fun b q u e => by
  rw [upd_ne fun z => by rw [z, h] at e; cases e]
  exact e
theorem ixT_F {H H' : Hp} {a : Addr} {xs : List V} (s : SameF H H') (h : IxT H a xs) : IxT H' a xs := by
  obtain ⟨o, h1, h2⟩ := h
  exact ⟨o, s _ _ _ h1, h2⟩
theorem Fd.to {H H' : Hp} {a : Addr} (f : Fd H a) (s : ∀ u, H a = some u → H' a = some u) : Fd H' a := by
  obtain ⟨d, t, h, h0⟩ := f
  exact ⟨d, t, s _ h, h0⟩
/-! ### what is made -/
def Nm1 (x : Str) : Prop := x.length ≤ 9 ∧ Asc x
abbrev Fnc : Type := List Str × List Str
def fncD (s : Fnc) : PyData := .tuple [.tuple (s.1.map PyData.str), .tuple (s.2.map PyData.str)]
def madeD (ins outs : List Str) (prof : List Fnc) : PyData := .tuple [.tuple (ins.map PyData.str), .tuple (outs.map PyData.str), .tuple (prof.map fncD)]
structure Made (ins outs : List Str) (prof : List Fnc) : Prop where
  il : ins.length ≤ 8
  ol : outs.length ≤ 8
  pl : prof.length ≤ 8
  i1 : ∀ x ∈ ins, Nm1 x
  o1 : ∀ x ∈ outs, Nm1 x
  p1 : ∀ s ∈ prof, s.1.length ≤ 8 ∧ s.2.length ≤ 8 ∧ (∀ x ∈ s.1, Nm1 x) ∧ ∀ x ∈ s.2, Nm1 x
def StepAt (H : Hp) (a : Addr) (s : Fnc) : Prop := ∃ x y, IxT H a [.ref x, .ref y] ∧ IxT H x (s.1.map V.str) ∧ IxT H y (s.2.map V.str)
theorem StepAt.F {H H' : Hp} {a : Addr} {s : Fnc} (e : SameF H H') (h : StepAt H a s) : StepAt H' a s := by
  obtain ⟨x, y, h1, h2, h3⟩ := h
  exact ⟨x, y, ixT_F e h1, ixT_F e h2, ixT_F e h3⟩
def StepsAt (H : Hp) (as : List Addr) (ps : List Fnc) : Prop := as.length = ps.length ∧ ∀ (i : Nat) (a : Addr) (s : Fnc), as[i]? = some a → ps[i]? = some s → StepAt H a s
theorem StepsAt.F {H H' : Hp} {as : List Addr} {ps : List Fnc} (e : SameF H H') (h : StepsAt H as ps) : StepsAt H' as ps := ⟨h.1, fun i a s h1 h2 => (h.2 i a s h1 h2).F e⟩
theorem StepsAt.nil (H : Hp) : StepsAt H [] [] := ⟨rfl, fun i a s h => by cases h⟩
theorem StepsAt.snoc {H : Hp} {as : List Addr} {ps : List Fnc} {a : Addr} {s : Fnc} (h : StepsAt H as ps) (k : StepAt H a s) : StepsAt H (as ++ [a]) (ps ++ [s]) := by
  refine ⟨by rw [List.length_append, List.length_append, h.1]; rfl, fun i b t e1 e2 => ?_⟩
  by_cases hi : i < as.length
  · rw [List.getElem?_append_left hi] at e1
    rw [List.getElem?_append_left (by rw [← h.1]; exact hi)] at e2
    exact h.2 i b t e1 e2
  · rw [List.getElem?_append_right (by omega)] at e1
    rw [List.getElem?_append_right (by rw [← h.1]; omega), ← h.1] at e2
    cases hk : i - as.length with
    | zero =>
      rw [hk] at e1 e2
      cases e1
      cases e2
      exact k
    | succ j =>
      rw [hk] at e1
      cases e1
theorem dq_tup {N : List Addr} {H : Hp} {a : Addr} {xs : List V} {ds : List PyData} (f : Ls H N) (h : IxT H a xs) (t : DqAll N H xs ds) : Dq N H (.ref a) (.tuple ds) := .tup (ixT_Ls f h) h t
theorem StepAt.dq {N : List Addr} {H : Hp} {a : Addr} {s : Fnc} (f : Ls H N) (h : StepAt H a s) : Dq N H (.ref a) (fncD s) := by
  obtain ⟨x, y, h1, h2, h3⟩ := h
  exact dq_tup f h1 (.cons (dq_tup f h2 (dq_strs _)) (.cons (dq_tup f h3 (dq_strs _)) .nil))
theorem dq_steps {N : List Addr} {H : Hp} (f : Ls H N) : ∀ (as : List Addr) (ps : List Fnc), StepsAt H as ps → DqAll N H (as.map V.ref) (ps.map fncD)
  | [], [], _ => .nil
  | [], _ :: _, h => by cases h.1
  | _ :: _, [], h => by cases h.1
  | a :: as, p :: ps, h => .cons ((h.2 0 a p rfl rfl).dq f) (dq_steps f as ps ⟨Nat.succ.inj h.1, fun i c q e1 e2 => h.2 (i + 1) c q e1 e2⟩)
/-- a made interface at v -/
def MadeAt (H : Hp) (v : Addr) (ins outs : List Str) (prof : List Fnc) : Prop := ∃ (i o p : Addr) (as : List Addr), IxT H v [.ref i, .ref o, .ref p] ∧ IxT H i (ins.map V.str) ∧ IxT H o (outs.map V.str) ∧ IxT H p (as.map V.ref) ∧ StepsAt H as prof
theorem MadeAt.F {H H' : Hp} {v : Addr} {ins outs : List Str} {prof : List Fnc} (e : SameF H H') (h : MadeAt H v ins outs prof) : MadeAt H' v ins outs prof := by
  obtain ⟨i, o, p, as, h1, h2, h3, h4, h5⟩ := h
  exact ⟨i, o, p, as, ixT_F e h1, ixT_F e h2, ixT_F e h3, ixT_F e h4, h5.F e⟩
theorem MadeAt.dq {N : List Addr} {H : Hp} {v : Addr} {ins outs : List Str} {prof : List Fnc} (f : Ls H N) (h : MadeAt H v ins outs prof) : Dq N H (.ref v) (madeD ins outs prof) := by
  obtain ⟨i, o, p, as, h1, h2, h3, h4, h5⟩ := h
  exact dq_tup f h1 (.cons (dq_tup f h2 (dq_strs _)) (.cons (dq_tup f h3 (dq_strs _)) (.cons (dq_tup f h4 (dq_steps f _ _ h5)) .nil)))
/-! ### groups -/
structure QsAt (Hb H : Hp) (L : Addr) (qs : List Addr) (G : List (List Str)) : Prop where
  len : qs.length = G.length
  nd : qs.Nodup
  at_ : ∀ (i : Nat) (q : Addr) (g : List Str), qs[i]? = some q → G[i]? = some g → Hb q = none ∧ q ≠ L ∧ H q = some (.lst (g.map V.str))
theorem QsAt.keep {Hb H H' : Hp} {L : Addr} {qs : List Addr} {G : List (List Str)} (h : QsAt Hb H L qs G) (k : ∀ q u, Hb q = none → q ≠ L → H q = some u → H' q = some u) : QsAt Hb H' L qs G :=
  ⟨h.len, h.nd, fun i q g e1 e2 => by
    obtain ⟨z1, z2, z3⟩ := h.at_ i q g e1 e2
    exact ⟨z1, z2, k q _ z1 z2 z3⟩⟩
theorem QsAt.snoc {Hb H H' : Hp} {L q : Addr} {qs : List Addr} {G : List (List Str)} (h : QsAt Hb H L qs G) (hq : H q = none) (hb : Hb q = none) (hL : q ≠ L) (k : ∀ b u, b ≠ L → H b = some u → H' b = some u) (hn : H' q = some (.lst [])) : QsAt Hb H' L (qs ++ [q]) (G ++ [[]]) := by
  have hmem : ∀ b ∈ qs, ∃ u, H b = some u := fun b hb => by
    obtain ⟨i, hi, rfl⟩ := List.getElem_of_mem hb
    have hi2 : i < G.length := by rw [← h.len]; exact hi
    obtain ⟨_, _, z⟩ := h.at_ i _ _ (List.getElem?_eq_getElem hi) (List.getElem?_eq_getElem hi2)
    exact ⟨_, z⟩
  refine ⟨by rw [List.length_append, List.length_append, h.len]; rfl, List.nodup_append.mpr ⟨h.nd, by simp, fun x hx y hy e => ?_⟩, fun i b g e1 e2 => ?_⟩
  · rw [List.mem_singleton.mp hy] at e
    obtain ⟨u, hu⟩ := hmem x hx
    rw [e, hq] at hu
    cases hu
  · by_cases hi : i < qs.length
    · rw [List.getElem?_append_left hi] at e1
      rw [List.getElem?_append_left (by rw [← h.len]; exact hi)] at e2
      obtain ⟨z1, z2, z3⟩ := h.at_ i b g e1 e2
      exact ⟨z1, z2, k _ _ z2 z3⟩
    · rw [List.getElem?_append_right (by omega)] at e1
      rw [List.getElem?_append_right (by rw [← h.len]; omega), ← h.len] at e2
      cases hk : i - qs.length with
      | zero =>
        rw [hk] at e1 e2
        cases e1
        cases e2
        exact ⟨hb, hL, hn⟩
      | succ j =>
        rw [hk] at e1
        cases e1
theorem QsAt.set {Hb H : Hp} {L q : Addr} {qs : List Addr} {G : List (List Str)} (h : QsAt Hb H L qs G) {k : Nat} (hq : qs[k]? = some q) (g' : List Str) : QsAt Hb (upd H q (.lst (g'.map V.str))) L qs (G.set k g') := by
  refine ⟨by rw [List.length_set]; exact h.len, h.nd, fun i b g e1 e2 => ?_⟩
  have hk := (List.getElem?_eq_some_iff.mp hq).1
  by_cases hik : i = k
  · subst hik
    rw [hq] at e1
    cases e1
    rw [List.getElem?_set_self (by rw [← h.len]; exact hk)] at e2
    cases e2
    obtain ⟨z1, z2, _⟩ := h.at_ i q _ hq (List.getElem?_eq_getElem (by rw [← h.len]; exact hk))
    exact ⟨z1, z2, upd_same⟩
  · rw [List.getElem?_set_ne (fun z => hik z.symm)] at e2
    obtain ⟨z1, z2, z3⟩ := h.at_ i b g e1 e2
    refine ⟨z1, z2, (upd_ne fun e => hik ?_).trans z3⟩
    have l1 := (List.getElem?_eq_some_iff.mp e1).1
    exact (List.getElem_inj (h₀ := l1) (h₁ := hk) h.nd).mp ((List.getElem?_eq_some_iff.mp e1).2.trans (e.trans (List.getElem?_eq_some_iff.mp hq).2.symm))
theorem cut_sub (l : List Str) (lo hi : Option Int) : ∃ l' : List Str, cutV (l.map V.str) lo hi = l'.map V.str ∧ l'.Sublist l := by
  refine ⟨(l.drop (HT.sIx (l.map V.str).length 0 lo)).take (HT.sIx (l.map V.str).length (l.map V.str).length hi - HT.sIx (l.map V.str).length 0 lo), ?_, (List.take_sublist _ _).trans (List.drop_sublist _ _)⟩
  unfold cutV
  rw [List.map_take, List.map_drop]
def n1L : List Str := ["i", "j", "k", "l", "p", "q", "r"]
def n2L : List Str := ["a", "in", "out", "w", "x", "y", "z"]
def nm1b (x : Str) : Bool := decide (x.length ≤ 9) && x.cps.toList.all fun c => decide (c < 128)
theorem nm1_of {x : Str} (h : nm1b x = true) : Nm1 x := by
  unfold nm1b at h
  rw [Bool.and_eq_true] at h
  exact ⟨of_decide_eq_true h.1, fun c hc => of_decide_eq_true (List.all_eq_true.mp h.2 c hc)⟩
theorem n1_ok : ∀ x ∈ n1L, Nm1 x := fun x hx => nm1_of (List.all_eq_true.mp (show n1L.all nm1b = true by decide +kernel) x hx)
theorem n2_ok : ∀ x ∈ n2L, Nm1 x := fun x hx => nm1_of (List.all_eq_true.mp (show n2L.all nm1b = true by decide +kernel) x hx)
def spMade : Sp := fun vs H Q _ => ∃ a : Addr, vs = [.ref a] ∧ Fd H a ∧ ∀ v ins outs prof H', SameX a H H' → Fd H' a → MadeAt H' v ins outs prof → Made ins outs prof → Q (.ref v) H'
section
variable {P : Program} {w : World} {K : PySem.W.Frag} {mg : Str → Option Value} {base : Heap}
abbrev nMu : List Str := ["feed", "names", "inputs", "outputs", "groups", "output", "at", "profile", "group", "needs", "name"]
theorem scMu : FnScope nMu ["feed"] (defScope sMade) := ⟨rfl, rfl, rfl, by decide +kernel, rfl, by decide +kernel, by decide +kernel⟩
theorem ok_made {f fT fK : Addr} {fd fdT fdK : FuncData} (F : Fun K "_law_made_up" "_law_made_up" sMade f fd) (T : Txt K mg) (GT : FnOk P w K mg base CX0 1 fT fdT ["feed", "size"] spTakeL) (mT : mg "_law_take" = some (.ref fT)) (kT : PySem.W.keepIn K (.ref fT) = true) (bT : Binds K fdT ["feed", "size"] [])
    (GK : FnOk P w K mg base CX0 2 fK fdK ["feed", "choices"] spPick) (mK : mg "_law_pick" = some (.ref fK)) (kK : PySem.W.keepIn K (.ref fK) = true) (bK : Binds K fdK ["feed", "choices"] []) :
    FnOk P w K mg base CX0 3 f fd ["feed"] spMade := by
  refine F.ok scMu (fun vs H Q E h => ?_) (fun cdv A outer s H vs Q E hr h => ?_)
  · obtain ⟨a, rfl, _⟩ := h
    rfl
  obtain ⟨a, rfl, ha, k⟩ := h
  have hr1 := hr.mono (show 1 ≤ 2 by decide)
  refine ⟨_, (pss_cons (ps_set (i := 1) scMu.nd rfl (.inl rfl) (pe_call GK hr rfl mK kK bK .nil pass0 (pa_cons (pv 0) (pa_cons (pe_lst (pa_cons (pe_lst (pa_cons pe_str (pa_cons pe_str (pa_cons pe_str (pa_cons pe_str (pa_cons pe_str (pa_cons pe_str (pa_cons pe_str pa_nil)))))))) (pa_cons (pe_lst (pa_cons pe_str (pa_cons pe_str (pa_cons pe_str (pa_cons pe_str (pa_cons pe_str (pa_cons pe_str (pa_cons pe_str pa_nil)))))))) pa_nil))) pa_nil))))
    (pss_cons (ps_set (i := 2) scMu.nd rfl (.inl rfl) (pe_callTy call_tupL (by rfl) T.zt (by decide +kernel) (pa_cons (pe_slice sl_list (pv 1) po_none (po_some (pe_call GT hr1 rfl mT kT bT .nil pass0 (pa_cons (pv 0) (pa_cons pe_int pa_nil))))) pa_nil)))
    (pss_cons (ps_set (i := 3) scMu.nd rfl (.inl rfl) (pe_callTy call_tupL (by rfl) T.zt (by decide +kernel) (pa_cons (pe_slice sl_list (pv 1) (po_some pe_int) (po_some (pe_op op_add pe_int (pe_call GT hr1 rfl mT kT bT .nil pass0 (pa_cons (pv 0) (pa_cons pe_int pa_nil)))))) pa_nil)))
    (pss_cons (ps_set (i := 4) scMu.nd rfl (.inl rfl) (pe_lst pa_nil))
    (pss_cons (ps_for PassesOwn.never rfl (pi_tup (pv 3)) (pg_name (i := 5) scMu.nd rfl (.inl rfl))
      (pss_cons (ps_set (i := 6) scMu.nd rfl (.inl rfl) (pe_call GT hr1 rfl mT kT bT .nil pass0 (pa_cons (pv 0) (pa_cons (pe_op op_add (pe_callB call_len_seq (by rfl) T.zl PySem.boot_len (pa_cons (pv 4) pa_nil)) pe_int) pa_nil))))
      (pss_join (ps_if (pt_cmpR op_eq (pv 6) (pe_callB call_len_seq (by rfl) T.zl PySem.boot_len (pa_cons (pv 4) pa_nil)) (nomark _)) (pss_one (ps_expr (pe_bm PySem.F.plainAttrs_list PySem.F.slot_list_append PySem.F.type_list_append mt_append (pv 4) (pa_cons (pe_lst pa_nil) pa_nil)))) pss_nil)
      (pss_one (ps_expr (pe_bm PySem.F.plainAttrs_list PySem.F.slot_list_append PySem.F.type_list_append mt_append (pe_ix (show IxR _ (rIxL K) from ix_list) (pv 4) (pv 6) (fun _ _ => rfl)) (pa_cons (pv 5) pa_nil)))))))
    (pss_cons (ps_set (i := 7) scMu.nd rfl (.inl rfl) (pe_lst pa_nil))
    (pss_cons (ps_for PassesOwn.never rfl (pi_list (pv 4)) (pg_name (i := 8) scMu.nd rfl (.inl rfl))
      (pss_cons (ps_setLc (i := 9) (own := [("name", 10)]) (g := gName 10) (wi := iTup K (tVar 2)) rfl scMu.nd rfl rfl (sw_true rfl rfl rfl (by decide +kernel)) (pi_tup (pv 2)) (blkOk_by (own := [("name", 10)]) (N := nMu) (sc := defScope sMade) (by decide +kernel)) (fun _ _ _ _ _ => pg_name (i := 10) scMu.nd rfl (Or.inl rfl))
        (fun _ _ _ _ _ => by exact (pts_one (pt_cmpR op_eq (pe_call GT hr1 rfl mT kT bT .nil pass0 (pa_cons (pv 0) (pa_cons pe_int pa_nil))) pe_int (by rfl)))) (fun _ _ _ _ _ => pv 10))
    (pss_one (ps_expr (pe_bm PySem.F.plainAttrs_list PySem.F.slot_list_append PySem.F.type_list_append mt_append (pv 7) (pa_cons (pe_tupF (pa_cons (pe_callTy call_tupL (by rfl) T.zt (by decide +kernel) (pa_cons (pv 8) pa_nil)) (pa_cons (pe_callTy call_tupL (by rfl) T.zt (by decide +kernel) (pa_cons (pv 9) pa_nil)) pa_nil))) pa_nil))))))
    (pss_one (ps_ret (pe_tupF (pa_cons (pv 2) (pa_cons (pv 3) (pa_cons (pe_callTy call_tupL (by rfl) T.zt (by decide +kernel) (pa_cons (pv 7) pa_nil)) pa_nil))))))))))))), ?_⟩
  -- names
  refine ⟨_, rfl, small1 (by show 7 ≤ 8; decide), fun lA hlA => ⟨small1 (by show 7 ≤ 8; decide), fun lB hlB => ⟨small1 (by show 2 ≤ 8; decide), fun L0 hL0 => ?_⟩⟩⟩
  have tA := upd_new (o := HO.lst [V.str "i", V.str "j", V.str "k", V.str "l", V.str "p", V.str "q", V.str "r"]) hlA
  have gA : (upd H lA (HO.lst [V.str "i", V.str "j", V.str "k", V.str "l", V.str "p", V.str "q", V.str "r"])) lA = some (.lst (n1L.map V.str)) := upd_same
  generalize upd H lA (HO.lst [V.str "i", V.str "j", V.str "k", V.str "l", V.str "p", V.str "q", V.str "r"]) = HA at tA gA hlB hL0 ⊢
  have tB := upd_new (o := HO.lst [V.str "a", V.str "in", V.str "out", V.str "w", V.str "x", V.str "y", V.str "z"]) hlB
  have gB : (upd HA lB (HO.lst [V.str "a", V.str "in", V.str "out", V.str "w", V.str "x", V.str "y", V.str "z"])) lB = some (.lst (n2L.map V.str)) := upd_same
  generalize upd HA lB (HO.lst [V.str "a", V.str "in", V.str "out", V.str "w", V.str "x", V.str "y", V.str "z"]) = HB at tB gB hL0 ⊢
  have t0 := upd_new (o := HO.lst [V.ref lA, V.ref lB]) hL0
  have g0 : (upd HB L0 (HO.lst [V.ref lA, V.ref lB])) L0 = some (.lst [V.ref lA, V.ref lB]) := upd_same
  generalize upd HB L0 (HO.lst [V.ref lA, V.ref lB]) = H0 at t0 g0 ⊢
  have sAll := tA.trans (tB.trans t0)
  have f0 := ha.same sAll
  have naL0 : a ≠ L0 := (ha.same (tA.trans tB)).ne hL0
  have naA : lA ≠ a := (ha.ne hlA).symm
  have naB : lB ≠ a := ((ha.same tA).ne hlB).symm
  refine ⟨a, L0, _, rfl, f0, naL0, g0, by show 0 < 2; decide, by show 2 ≤ 1000; decide, fun ix x H1 x1 f1 hx => ?_⟩
  obtain ⟨n, nl, rfl, hn, hnl, hnok⟩ : ∃ (n : Addr) (nl : List Str), x = .ref n ∧ H1 n = some (.lst (nl.map V.str)) ∧ nl.length = 7 ∧ ∀ x ∈ nl, Nm1 x := by
    match ix, hx with
    | 0, hx => cases hx; exact ⟨lA, n1L, rfl, x1 _ _ naA (t0 _ _ (tB _ _ gA)), rfl, n1_ok⟩
    | 1, hx => cases hx; exact ⟨lB, n2L, rfl, x1 _ _ naB (t0 _ _ gB), rfl, n2_ok⟩
  have nna : n ≠ a := fun z => by
    obtain ⟨d, t, e, _⟩ := f1
    rw [z, e] at hn
    have := congrArg List.length (HO.lst.inj (Option.some.inj hn))
    rw [List.length_map, hnl] at this
    cases this
  have X1 : SameX a H H1 := (SameX.of sAll).trans x1
  -- inputs
  refine ⟨_, rfl, _, rfl, a, 5, rfl, f1, by decide, by decide, fun r1 H2 x2 f2 r10 r11 => ⟨_, rfl, n, _, rfl, .of (x2 _ _ nna hn), fun l2 hl2 => ?_⟩⟩
  obtain ⟨INS, eI, hI⟩ := cut_sub nl none (some r1)
  rw [eI]
  refine ⟨l2, _, rfl, .of upd_same, fun i H3 s3 i3 => ?_⟩
  have s23 := (upd_new (o := HO.lst (INS.map V.str)) hl2).trans s3
  have X3 : SameX a H H3 := X1.trans (x2.trans (.of s23))
  have f3 := f2.same s23
  have n3 := s23 _ _ (x2 _ _ nna hn)
  -- outputs
  refine ⟨_, rfl, _, rfl, _, rfl, a, 4, rfl, f3, by decide, by decide, fun r2 H4 x4 f4 r20 r21 => ⟨_, _, rfl, rfl, _, rfl, n, _, rfl, .of (x4 _ _ nna n3), fun l4 hl4 => ?_⟩⟩
  obtain ⟨OUTS, eO, hO⟩ := cut_sub nl (some 4) (some (4 + r2))
  rw [eO]
  refine ⟨l4, _, rfl, .of upd_same, fun o H6 s6 o6 => ?_⟩
  have s46 := (upd_new (o := HO.lst (OUTS.map V.str)) hl4).trans s6
  have X6 : SameX a H H6 := X3.trans (x4.trans (.of s46))
  have f6 := f4.same s46
  have i6 := ixT_F ((SameF.X x4 f3).trans (.of s46)) i3
  have hil : INS.length ≤ 7 := by rw [← hnl]; exact hI.length_le
  have hol : OUTS.length ≤ 7 := by rw [← hnl]; exact hO.length_le
  have hni : ∀ x ∈ INS, Nm1 x := fun x hx => hnok x (hI.subset hx)
  have hno : ∀ x ∈ OUTS, Nm1 x := fun x hx => hnok x (hO.subset hx)
  clear x1 x2 x4 s23 s46 sAll tA tB t0 X3 X1
  -- groups
  refine ⟨small1 (by show 0 ≤ 8; decide), fun L hL0 => ?_⟩
  have naL : a ≠ L := f6.ne hL0
  have h7 := ixT_F (.of (upd_new (o := HO.lst []) hL0)) o6
  refine ⟨_, rfl, o, rfl, ⟨_, h7.sq⟩, for_tup (K := K) (a := o) (xs := OUTS.map V.str) (fun m σ H' => ∃ (u5 u6 : Option V) (qs : List Addr) (G : List (List Str)), σ = [some (.ref a), some (.ref n), some (.ref i), some (.ref o), some (.ref L), u5, u6, none, none, none, none] ∧ SameX a H6 H' ∧ Fd H' a ∧
      H' L = some (.lst (qs.map V.ref)) ∧ QsAt H6 H' L qs G ∧ G.length ≤ m ∧ ∀ g ∈ G, g.length ≤ m ∧ ∀ y ∈ g, y ∈ OUTS) ⟨none, none, [], [], rfl, (SameX.refl a H6).new hL0, f6.same (upd_new hL0), upd_same, ⟨rfl, List.nodup_nil, fun i q g e => by cases e⟩, Nat.zero_le _, fun g z => by cases z⟩ (fun m σ H' _ q => by
        obtain ⟨_, _, _, _, _, x, _⟩ := q
        exact (ixT_F (.X x f6) o6).sq) ?turn1 ?done1⟩
  case turn1 =>
    rintro m x σ H8 hx ⟨u5, u6, qs, G, rfl, x8, f8, L8, Q8, hGl, hGg⟩
    rw [List.getElem?_map] at hx
    obtain ⟨y, hy, rfl⟩ := Option.map_eq_some_iff.mp hx
    have hm7 : m < 7 := by
      have := (List.getElem?_eq_some_iff.mp hy).1
      omega
    have hyO := List.mem_of_getElem? hy
    have hql := Q8.len
    refine ⟨_, rfl, _, rfl, L, _, rfl, .inl (.of L8), _, _, rfl, rfl, a, _, rfl, f8, by rw [List.length_map]; omega, by rw [List.length_map]; omega, fun r H9 x9' f9 r0 r1 => ?_⟩
    obtain ⟨rn, rfl⟩ : ∃ n : Nat, r = (n : Int) := ⟨r.toNat, by omega⟩
    rw [List.length_map] at r1
    have hrn : rn ≤ G.length := by omega
    have x9 : SameX a H6 H9 := x8.trans x9'
    have L9 := x9' _ _ naL.symm L8
    have nqa : ∀ q, H6 q = none → q ≠ a := fun q e => (f6.ne e).symm
    have Q9 : QsAt H6 H9 L qs G := Q8.keep fun q u e _ h => x9' _ _ (nqa q e) h
    refine ⟨fun σ H' => σ = [some (.ref a), some (.ref n), some (.ref i), some (.ref o), some (.ref L), some (.str y), some (.int (rn : Int)), none, none, none, none] ∧ SameX a H6 H' ∧ Fd H' a ∧ ∃ (qs' : List Addr) (G' : List (List Str)), H' L = some (.lst (qs'.map V.ref)) ∧ QsAt H6 H' L qs' G' ∧ rn < G'.length ∧ G'.length ≤ m + 1 ∧ ∀ g ∈ G', g.length ≤ m ∧ ∀ y ∈ g, y ∈ OUTS, ?_, ?_⟩
    · refine ⟨_, rfl, _, rfl, L, _, rfl, .inl (.of L9), rfl, _, rfl, ?_⟩
      by_cases hc : rn = G.length
      · have e : V.int ((rn : Nat) : Int) = V.int (((qs.map V.ref).length : Nat) : Int) := by rw [List.length_map, hql, hc]
        rw [decide_eq_true e]
        refine iteT ⟨_, rfl, .inl ⟨rfl, _, .of L9⟩, small1 (by show 0 ≤ 8; decide), fun q hq => ?_⟩
        have nqL : L ≠ q := ne_of_none L9 hq
        have L10 := (upd_ne (o := HO.lst []) (H := H9) nqL).trans L9
        refine ⟨L, _, _, rfl, rfl, L10, lt1 (by rw [List.length_map]; omega), rfl, fun b u n e => ?_, ?_, qs ++ [q], G ++ [[]], by rw [upd_same, List.map_append]; rfl, ?_, by rw [List.length_append]; show rn < _ + 1; omega, by rw [List.length_append]; show _ + 1 ≤ _; omega, fun g hg => ?_⟩
        · have z := x9 b u n e
          have nb : b ≠ L := ne_of_none e hL0
          exact (upd_ne nb).trans ((upd_ne (ne_of_none z hq)).trans z)
        · exact f9.to fun u e => (upd_ne naL).trans ((upd_ne (f9.ne hq)).trans e)
        · have hb6 : H6 q = none := by
            cases e : H6 q with
            | none => rfl
            | some u =>
              by_cases hqa : q = a
              · rw [hqa] at hq
                obtain ⟨l, e⟩ := f9.is
                rw [hq] at e
                cases e
              · rw [x9 _ _ hqa e] at hq
                cases hq
          exact Q9.snoc hq hb6 nqL.symm (fun b u nb e => (upd_ne nb).trans ((upd_ne (ne_of_none e hq)).trans e)) ((upd_ne nqL.symm).trans upd_same)
        · rcases List.mem_append.mp hg with hg | hg
          · exact hGg g hg
          · rw [List.mem_singleton.mp hg]
            exact ⟨Nat.zero_le _, fun y z => by cases z⟩
      · have e : ¬ V.int ((rn : Nat) : Int) = V.int (((qs.map V.ref).length : Nat) : Int) := fun z => hc (by
          have z := V.int.inj z
          rw [List.length_map, hql] at z
          omega)
        rw [decide_eq_false e]
        exact iteF ⟨rfl, x9, f9, qs, G, L9, Q9, by omega, by omega, hGg⟩
    rintro σ H10 ⟨rfl, x10, f10, qs', G', L10, Q10, hr', hGl', hGg'⟩
    have hrq : rn < qs'.length := by rw [Q10.len]; exact hr'
    obtain ⟨z1, z2, z3⟩ := Q10.at_ rn _ _ (List.getElem?_eq_getElem hrq) (List.getElem?_eq_getElem hr')
    have hgm := hGg' _ (List.getElem_mem hr')
    refine ⟨_, rfl, _, rfl, L, _, _, .ref qs'[rn], rfl, rfl, .of L10, at_of (j := rn) rfl (by rw [List.getElem?_map, List.getElem?_eq_getElem hrq]; rfl), .inl ⟨rfl, _, .of z3⟩, _, rfl, qs'[rn], _, _, rfl, rfl, z3, lt1 (by rw [List.length_map]; omega), some (.str y), some (.int (rn : Int)), qs', G'.set rn (G'[rn] ++ [y]), rfl, ?_, ?_, ?_, ?_, ?_, fun g hg => ?_⟩
    · exact fun b u n e => (upd_ne (ne_of_none e z1)).trans (x10 b u n e)
    · exact f10.to fun u e => (upd_ne (nqa _ z1).symm).trans e
    · exact (upd_ne z2.symm).trans L10
    · have z := Q10.set (List.getElem?_eq_getElem hrq) (G'[rn] ++ [y])
      rw [List.map_append] at z
      exact z
    · rw [List.length_set]
      exact hGl'
    · rcases List.mem_or_eq_of_mem_set hg with hg | rfl
      · obtain ⟨q1, q2⟩ := hGg' g hg
        exact ⟨by omega, q2⟩
      · refine ⟨by rw [List.length_append]; show _ + 1 ≤ _; omega, fun z hz => ?_⟩
        rcases List.mem_append.mp hz with hz | hz
        · exact hgm.2 z hz
        · rw [List.mem_singleton.mp hz]
          exact hyO
  rintro σ H8 ⟨u5, u6, qs, G, rfl, x8, f8, L8, Q8, hGl, hGg⟩
  rw [List.length_map] at hGl hGg
  have hql := Q8.len
  have i8 := ixT_F (.X x8 f6) i6
  have o8 := ixT_F (.X x8 f6) o6
  -- the profile
  refine ⟨small1 (by show 0 ≤ 8; decide), fun Pr hPr => ?_⟩
  have naP : a ≠ Pr := f8.ne hPr
  refine ⟨_, rfl, L, rfl, ⟨_, .of ((upd_ne (ne_of_none L8 hPr)).trans L8)⟩, for_list (K := K) (a := L) (xs := qs.map V.ref) (fun m σ H' => ∃ (u8 u9 : Option V) (ps : List Addr) (PR : List Fnc), σ = [some (.ref a), some (.ref n), some (.ref i), some (.ref o), some (.ref L), u5, u6, some (.ref Pr), u8, u9, none] ∧ SameX a H8 H' ∧ Fd H' a ∧
      H' Pr = some (.lst (ps.map V.ref)) ∧ StepsAt H' ps PR ∧ PR.length = m ∧ ∀ s ∈ PR, s.1.length ≤ 8 ∧ s.2.length ≤ 8 ∧ (∀ x ∈ s.1, Nm1 x) ∧ ∀ x ∈ s.2, Nm1 x) ⟨none, none, [], [], rfl, (SameX.refl a H8).new hPr, f8.same (upd_new hPr), upd_same, .nil _, rfl, fun n hn => by cases hn⟩ (fun m σ H' _ q => by
        obtain ⟨_, _, _, _, _, x, _⟩ := q
        exact .of (x _ _ naL.symm L8)) ?turn2 ?done2⟩
  case turn2 =>
    rintro m x σ H9 hx ⟨u8, u9, ps, PR, rfl, x9, f9, p9, k9, hN, hNs⟩
    rw [List.getElem?_map] at hx
    obtain ⟨q, hq, rfl⟩ := Option.map_eq_some_iff.mp hx
    have hmq := (List.getElem?_eq_some_iff.mp hq).1
    have hmG : m < G.length := by omega
    have hg : G[m]? = some G[m] := List.getElem?_eq_getElem hmG
    generalize G[m] = g at hg
    obtain ⟨hgl, hgo⟩ := hGg g (List.mem_of_getElem? hg)
    obtain ⟨z1, z2, z3⟩ := Q8.at_ m q g hq hg
    have nqa : q ≠ a := (f6.ne z1).symm
    have q9 := x9 _ _ nqa z3
    -- needs
    have i9 := ixT_F (.X x9 f8) i8
    refine ⟨_, rfl, i, rfl, ⟨_, i9.sq⟩, fun D hD => ?_⟩
    have naD : a ≠ D := f9.ne hD
    refine out_it (walk_tup (xs := INS.map V.str)) (fun j H' => SameX a H9 H' ∧ Fd H' a ∧ ∃ (nd : List Str), H' D = some (.lst (nd.map V.str)) ∧ nd.length ≤ j ∧ ∀ x ∈ nd, x ∈ INS) ⟨(SameX.refl a H9).new hD, f9.same (upd_new hD), [], upd_same, Nat.zero_le _, fun x z => by cases z⟩ (fun j H' _ z => (ixT_F (.X z.1 f9) i9).sq) ?_ ?_
    · rintro j x H10 H11 hj ⟨x10, f10, nd, e10, hnl', hsub⟩ ⟨rfl, hx⟩
      rw [List.getElem?_map] at hx
      obtain ⟨y, hy, rfl⟩ := Option.map_eq_some_iff.mp hx
      have hj7 : j < 7 := by
        have := (List.getElem?_eq_some_iff.mp hy).1
        omega
      refine ⟨rfl, _, rfl, a, 3, rfl, f10, by decide, by decide, fun r H12 x12 f12 r0 r1 => ?_⟩
      have x11 : SameX a H9 H12 := x10.trans x12
      have e11 := x12 _ _ naD.symm e10
      refine ⟨rfl, _, rfl, ?_⟩
      by_cases hr0 : r = 0
      · rw [decide_eq_true (congrArg V.int hr0)]
        refine iteT ⟨_, rfl, _, e11, lt1 (by rw [List.length_map]; omega), x11.new hD, f12.to fun u e => (upd_ne naD).trans e, nd ++ [y], by rw [upd_same, List.map_append]; rfl, by rw [List.length_append]; show _ + 1 ≤ _; omega, fun z hz => ?_⟩
        rcases List.mem_append.mp hz with hz | hz
        · exact hsub z hz
        · rw [List.mem_singleton.mp hz]
          exact List.mem_of_getElem? hy
      · rw [decide_eq_false (fun z => hr0 (V.int.inj z))]
        exact iteF ⟨x11, f12, nd, e11, by omega, hsub⟩
    rintro H10 ⟨x10, f10, nd, e10, hnl', hsub⟩
    rw [List.length_map] at hnl'
    have q10 := x10 _ _ nqa q9
    have p10 := x10 _ _ naP.symm p9
    have k10 := k9.F (.X x10 f9)
    -- append
    refine ⟨_, rfl, .inl ⟨rfl, _, .of p10⟩, _, rfl, q, _, rfl, .of q10, fun t1 H11 s1 h1 => ⟨_, rfl, D, _, rfl, .of (s1 _ _ e10), fun t2 H12 s2 h2 => ⟨small1 (by show 2 ≤ 8; decide), fun t3 H13 s3 h3 => ?_⟩⟩⟩
    have y1 := s1.trans (s2.trans s3)
    have w1 : StepAt H13 t3 (g, nd) := ⟨t1, t2, h3, ixT_same (s2.trans s3) h1, ixT_same s3 h2⟩
    have p11 := y1 _ _ p10
    refine ⟨Pr, _, _, rfl, rfl, p11, lt1 (by rw [List.length_map, k9.1]; omega), some (.ref q), some (.ref D), ps ++ [t3], PR ++ [(g, nd)], rfl, ?_, ?_, by rw [upd_same, List.map_append]; rfl, ?_, by rw [List.length_append, hN]; rfl, fun v hv => ?_⟩
    · exact (x9.trans (x10.trans (SameX.of y1))).new hPr
    · exact (f10.same y1).to fun u e => (upd_ne naP).trans e
    · exact ((k10.F (.of y1)).snoc w1).F (.put p11)
    · rcases List.mem_append.mp hv with z | z
      · exact hNs v z
      · rw [List.mem_singleton.mp z]
        exact ⟨by show g.length ≤ 8; omega, by show nd.length ≤ 8; omega, fun x hx => hno x (hgo x hx), fun x hx => hni x (hsub x hx)⟩
  rintro σ H9 ⟨u8, u9, ps, PR, rfl, x9, f9, p9, k9, hN, hNs⟩
  rw [List.length_map, hql] at hN
  have i9 := ixT_F (.X x9 f8) i8
  have o9 := ixT_F (.X x9 f8) o8
  refine ⟨_, rfl, _, rfl, _, rfl, Pr, _, rfl, .of p9, fun p2 H10 s10 hp2 => ⟨small1 (by show 3 ≤ 8; decide), fun v2 H11 s11 hv2 => ?_⟩⟩
  have y1 := s10.trans s11
  exact k v2 INS OUTS PR H11 (X6.trans (x8.trans (x9.trans (SameX.of y1)))) (f9.same y1) ⟨i, o, p2, ps, hv2, ixT_same y1 i9, ixT_same y1 o9, ixT_same s11 hp2, k9.F (.of y1)⟩ ⟨by omega, by omega, by omega, hni, hno, hNs⟩
end
end K22
namespace K22
open PySem L2 Own StX ClX NdefX
abbrev scWo : Scope := { kind := ScopeKind.function, names := [(".0", NameKind.local), ("output", NameKind.local), ("tuple", NameKind.globalImplicit), ("feed", NameKind.cell), ("inputs", NameKind.cell)], isGenerator := false, isCoroutine := false }
section
variable {P : Program} {w : World} {K : PySem.W.Frag} {mg : Str → Option Value} {base : Heap}
abbrev nWi : List Str := ["feed", "inputs", "outputs", "functions", "output", "one"]
theorem scWi : FnScope nWi ["feed"] (defScope sWide) := ⟨rfl, rfl, rfl, by decide +kernel, rfl, by decide +kernel, by decide +kernel⟩
theorem ok_wide {f fT : Addr} {fd fdT : FuncData} (F : Fun K "_law_wide" "_law_wide" sWide f fd) (T : Txt K mg) (GT : FnOk P w K mg base CX0 1 fT fdT ["feed", "size"] spTakeL) (mT : mg "_law_take" = some (.ref fT)) (kT : PySem.W.keepIn K (.ref fT) = true) (bT : Binds K fdT ["feed", "size"] []) :
    FnOk P w K mg base CX0 2 f fd ["feed"] spMade := by
  refine F.ok scWi (fun vs H Q E h => ?_) (fun cdv A outer s H vs Q E hr h => ?_)
  · obtain ⟨a, rfl, _⟩ := h
    rfl
  obtain ⟨a, rfl, ha, k⟩ := h
  refine ⟨_, (pss_cons (ps_asg (pe_tup (pa_cons (pe_callTy (show CallR _ (.type "tuple") rTupS from call_tupS rfl) (by rfl) T.zt (by decide +kernel) (pa_cons pe_str pa_nil)) (pa_cons (pe_callTy (show CallR _ (.type "tuple") rTupS from call_tupS rfl) (by rfl) T.zt (by decide +kernel) (pa_cons pe_str pa_nil)) pa_nil))) (pg_tup (by rfl) (pgs_cons (pg_name (i := 1) scWi.nd rfl (.inr rfl)) (pgs_cons (pg_name (i := 2) scWi.nd rfl (.inl rfl)) pgs_nil))))
    (pss_cons (ps_setLc (i := 3) (own := [("output", 4)]) (g := gName 4) (wi := iTup K (tVar 2)) rfl scWi.nd rfl rfl (sw_true rfl rfl rfl (by decide +kernel)) (pi_tup (pv 2)) (blkOk_by (own := [("output", 4)]) (N := nWi) (sc := defScope sWide) (by decide +kernel)) (fun _ _ _ _ _ => pg_name (i := 4) scWi.nd rfl (Or.inl rfl)) (fun _ _ _ _ _ => pts_nil)
        (fun _ _ _ _ _ => by exact (pe_tupF (pa_cons (pe_tupF (pa_cons (pv 4) pa_nil)) (pa_cons (pe_callTy (show CallR _ (.type "tuple") (rTupL K) from call_tupL) (by rfl) T.zt (by decide +kernel) (pa_cons (pe_lc (own := [("one", 5)]) (g := gName 5) (wi := iTup K (tVar 1)) rfl scWi.nd (pi_tup (pv 1)) (blkOk_by (own := [("one", 5)]) (N := nWi) (sc := scWo) (by decide +kernel)) (fun _ _ _ _ _ => pg_name (i := 5) scWi.nd rfl (Or.inl rfl))
        (fun _ _ _ _ _ => by exact (pts_one (pt_cmpR op_eq (pe_call GT hr rfl mT kT bT .nil pass0 (pa_cons (pv 0) (pa_cons pe_int pa_nil))) pe_int (by rfl)))) (fun _ _ _ _ _ => pv 5)) pa_nil)) pa_nil)))))
    (pss_one (ps_ret (pe_tupF (pa_cons (pv 1) (pa_cons (pv 2) (pa_cons (pe_callTy (show CallR _ (.type "tuple") (rTupL K) from call_tupL) (by rfl) T.zt (by decide +kernel) (pa_cons (pv 3) pa_nil)) pa_nil)))))))), ?_⟩
  -- wide
  have okA : ∀ x ∈ signsOf "abcdefgh", Nm1 x := fun x hx => nm1_of (List.all_eq_true.mp (show (signsOf "abcdefgh").all nm1b = true by decide +kernel) x hx)
  have okB : ∀ x ∈ signsOf "ijklmnop", Nm1 x := fun x hx => nm1_of (List.all_eq_true.mp (show (signsOf "ijklmnop").all nm1b = true by decide +kernel) x hx)
  have lA : (signsOf "abcdefgh").length = 8 := by decide +kernel
  have lB : (signsOf "ijklmnop").length = 8 := by decide +kernel
  generalize eI : signsOf "abcdefgh" = INS at okA lA
  generalize eO : signsOf "ijklmnop" = OUTS at okB lB
  refine ⟨_, rfl, by decide +kernel, fun i H1 s1 i1 => ⟨_, rfl, by decide +kernel, fun o H2 s2 o2 => ⟨small1 (by show 2 ≤ 8; decide), fun t ht => ?_⟩⟩⟩
  rw [eI] at i1
  rw [eO] at o2
  have s3 := upd_new (o := HO.tup [V.ref i, V.ref o]) ht
  refine ⟨t, _, rfl, .of upd_same, rfl, _, _, rfl, _, _, rfl, rfl, ?_⟩
  generalize upd H2 t (HO.tup [V.ref i, V.ref o]) = H3 at s3 ⊢
  have s03 := s1.trans (s2.trans s3)
  have f3 := ha.same s03
  have i3 := ixT_same (s2.trans s3) i1
  have o3 := ixT_same s3 o2
  refine ⟨_, rfl, o, rfl, ⟨_, o3.sq⟩, fun D hD => ?_⟩
  have naD : a ≠ D := f3.ne hD
  refine out_it (walk_tup (xs := OUTS.map V.str)) (fun m H' => SameX a H3 H' ∧ Fd H' a ∧ ∃ (ps : List Addr) (PR : List Fnc), H' D = some (.lst (ps.map V.ref)) ∧ StepsAt H' ps PR ∧ PR.length = m ∧ ∀ s ∈ PR, s.1.length ≤ 8 ∧ s.2.length ≤ 8 ∧ (∀ x ∈ s.1, Nm1 x) ∧ ∀ x ∈ s.2, Nm1 x)
    ⟨(SameX.refl a H3).new hD, f3.same (upd_new hD), [], [], upd_same, .nil _, rfl, fun n hn => by cases hn⟩ (fun m H' _ q => (ixT_F (.X q.1 f3) o3).sq) ?_ ?_
  · rintro m x H4 H5 hm ⟨x4, f4, ps, PR, p4, k4, hN, hNs⟩ ⟨rfl, hx⟩
    rw [List.getElem?_map] at hx
    obtain ⟨y, hy, rfl⟩ := Option.map_eq_some_iff.mp hx
    have hm8 : m < 8 := by
      have := (List.getElem?_eq_some_iff.mp hy).1
      omega
    have hyk := okB y (List.mem_of_getElem? hy)
    refine ⟨rfl, _, rfl, small1 (by show 1 ≤ 8; decide), fun t1 H6 s6 h6 => ?_⟩
    have f6 := f4.same s6
    have i6 := ixT_same s6 (ixT_F (.X x4 f3) i3)
    refine ⟨_, rfl, i, rfl, ⟨_, i6.sq⟩, fun D2 hD2 => ?_⟩
    have naD2 : a ≠ D2 := f6.ne hD2
    refine lc_tup (K := K) (a := i) (xs := INS.map V.str) (fun j H' => SameX a H6 H' ∧ Fd H' a ∧ ∃ (nd : List Str), H' D2 = some (.lst (nd.map V.str)) ∧ nd.length ≤ j ∧ ∀ x ∈ nd, x ∈ INS) ⟨(SameX.refl a H6).new hD2, f6.same (upd_new hD2), [], upd_same, Nat.zero_le _, fun x z => by cases z⟩ (fun j H' _ z => (ixT_F (.X z.1 f6) i6).sq) ?_ ?_
    · rintro j v H10 hj ⟨x10, f10, nd, e10, hnl', hsub⟩
      rw [List.getElem?_map] at hj
      obtain ⟨z, hz, rfl⟩ := Option.map_eq_some_iff.mp hj
      have hj8 : j < 8 := by
        have := (List.getElem?_eq_some_iff.mp hz).1
        omega
      refine ⟨rfl, _, rfl, a, 2, rfl, f10, by decide, by decide, fun r H12 x12 f12 r0 r1 => ?_⟩
      have x11 : SameX a H6 H12 := x10.trans x12
      have e11 := x12 _ _ naD2.symm e10
      refine ⟨rfl, _, rfl, ?_⟩
      by_cases hr0 : r = 0
      · rw [decide_eq_true (congrArg V.int hr0)]
        refine iteT ⟨_, rfl, _, e11, lt1 (by rw [List.length_map]; omega), x11.new hD2, f12.to fun u e => (upd_ne naD2).trans e, nd ++ [z], by rw [upd_same, List.map_append]; rfl, by rw [List.length_append]; show _ + 1 ≤ _; omega, fun z hz' => ?_⟩
        rcases List.mem_append.mp hz' with hz' | hz'
        · exact hsub z hz'
        · rw [List.mem_singleton.mp hz']
          exact List.mem_of_getElem? hz
      · rw [decide_eq_false (fun z => hr0 (V.int.inj z))]
        exact iteF ⟨x11, f12, nd, e11, by omega, hsub⟩
    rintro H10 ⟨x10, f10, nd, e10, hnl', hsub⟩
    rw [List.length_map] at hnl'
    have p6 := s6 _ _ p4
    have p10 := x10 _ _ naD.symm p6
    have k10 := (k4.F (.of s6)).F (.X x10 f6)
    have h10 := ixT_F (.X x10 f6) h6
    refine ⟨D2, _, rfl, .of e10, fun t2 H12 s2' h2 => ⟨small1 (by show 2 ≤ 8; decide), fun t3 H13 s3' h3' => ?_⟩⟩
    have y1 := s2'.trans s3'
    have w1 : StepAt H13 t3 ([y], nd) := ⟨t1, t2, h3', ixT_same y1 h10, ixT_same s3' h2⟩
    have p11 := y1 _ _ p10
    refine ⟨_, p11, lt1 (by rw [List.length_map, k4.1]; omega), ?_, ?_, ps ++ [t3], PR ++ [([y], nd)], by rw [upd_same, List.map_append]; rfl, ?_, by rw [List.length_append, hN]; rfl, fun v hv => ?_⟩
    · exact ((x4.trans (.of s6)).trans (x10.trans (.of y1))).new hD
    · exact (f10.same y1).to fun u e => (upd_ne naD).trans e
    · exact ((k10.F (.of y1)).snoc w1).F (.put p11)
    · rcases List.mem_append.mp hv with z | z
      · exact hNs v z
      · rw [List.mem_singleton.mp z]
        exact ⟨by show 1 ≤ 8; decide, by show nd.length ≤ 8; omega, fun x hx => by rw [List.mem_singleton.mp hx]; exact hyk, fun x hx => okA x (hsub x hx)⟩
  rintro H9 ⟨x9, f9, ps, PR, p9, k9, hN, hNs⟩
  rw [List.length_map, lB] at hN
  have i9 := ixT_F (.X x9 f3) i3
  have o9 := ixT_F (.X x9 f3) o3
  refine ⟨_, rfl, _, rfl, _, rfl, D, _, rfl, .of p9, fun p2 H10 s10 hp2 => ⟨small1 (by show 3 ≤ 8; decide), fun v2 H11 s11 hv2 => ?_⟩⟩
  have y1 := s10.trans s11
  exact k v2 INS OUTS PR H11 ((SameX.of s03).trans (x9.trans (SameX.of y1))) (f9.same y1) ⟨i, o, p2, ps, hv2, ixT_same y1 i9, ixT_same y1 o9, ixT_same s11 hp2, k9.F (.of y1)⟩ ⟨by omega, by omega, by omega, okA, okB, hNs⟩
end
end K22
namespace K22
open PySem L2 Own StX ClX NdefX
theorem cut_low (xs : List V) (n : Nat) : cutV xs none (some (n : Int)) = xs.take n := by
  unfold cutV
  rw [HT.sIx_nat, HT.sIx_none, List.drop_zero, Nat.sub_zero]
  rcases Nat.le_total n xs.length with q | q
  · rw [Nat.min_eq_left q]
  · rw [Nat.min_eq_right q, List.take_length, List.take_of_length_le q]
theorem cut_high (xs : List V) (n : Nat) : cutV xs (some (n : Int)) none = xs.drop n := by
  unfold cutV
  rw [HT.sIx_nat, HT.sIx_none]
  rcases Nat.le_total n xs.length with q | q
  · rw [Nat.min_eq_left q, List.take_of_length_le (by rw [List.length_drop]; exact Nat.le_refl _)]
  · rw [Nat.min_eq_right q, List.drop_of_length_le q]
    simp
theorem Ok.of0 : ∀ {k : Nat} {d : PyData}, Atom d → Ok k d
  | 0, _, h => h
  | _ + 1, _, h => .inl (Ok.of0 h)
theorem ok_str {x : Str} (h : nm1b x = true) {k : Nat} : Ok k (.str x) := Ok.of0 (by
  obtain ⟨a, b⟩ := nm1_of h
  exact .inr (.inr (.inr (.inl ⟨x, rfl, a, b⟩))))
theorem _root_.Own.Dq.mv {N : List Addr} {a : Addr} {H H' : Hp} {v : V} {d : PyData} (m : a ∈ N) (s : SameX a H H') (h : Dq N H v d) : Dq N H' v d := dq_X (.X m s) d v h
theorem _root_.Own.DqAll.mv {N : List Addr} {a : Addr} {H H' : Hp} {v : List V} {d : List PyData} (m : a ∈ N) (s : SameX a H H') (h : DqAll N H v d) : DqAll N H' v d := dq_Xs (.X m s) d v h
/-- a list of odd values at o -/
def OddAt (N : List Addr) (H : Hp) (a o : Addr) : Prop := a ≠ o ∧ ∃ xs ds, H o = some (.lst xs) ∧ 0 < xs.length ∧ xs.length ≤ 1000 ∧ DqAll N H xs ds ∧ ∀ d ∈ ds, Atom d
theorem OddAt.mv {N : List Addr} {H H' : Hp} {a o : Addr} (m : a ∈ N) (s : SameX a H H') (h : OddAt N H a o) : OddAt N H' a o := by
  obtain ⟨n, xs, ds, e, l1, l2, q, k⟩ := h
  exact ⟨n, xs, ds, s _ _ n.symm e, l1, l2, q.mv m s, k⟩
def spBentT : Sp := fun vs H Q _ => ∃ (N : List Addr) (a v : Addr) (ds : List PyData) (k : Nat), vs = [.ref a, .ref v] ∧ Fn H a N ∧ Dq N H (.ref v) (.tuple ds) ∧ ds.length ≤ 8 ∧ (∀ e ∈ ds, Ok k e) ∧ ∀ r D H', SameX a H H' → Fd H' a → Dq N H' r D → Ok (k + 1) D → Q r H'
section
variable {P : Program} {w : World} {K : PySem.W.Frag} {mg : Str → Option Value} {base : Heap}
abbrev nBt : List Str := ["feed", "value", "at", "way", "odd"]
theorem scBt : FnScope nBt ["feed", "value"] (defScope sBentT) := ⟨rfl, rfl, rfl, by decide +kernel, rfl, by decide +kernel, by decide +kernel⟩
theorem ok_bentT {f fT fK : Addr} {fd fdT fdK : FuncData} (F : Fun K "_law_bent_tuple" "_law_bent_tuple" sBentT f fd) (T : Txt K mg) (ml : mg "list" = none) (GT : FnOk P w K mg base CX0 1 fT fdT ["feed", "size"] spTakeL) (mT : mg "_law_take" = some (.ref fT)) (kT : PySem.W.keepIn K (.ref fT) = true) (bT : Binds K fdT ["feed", "size"] [])
    (GK : FnOk P w K mg base CX0 2 fK fdK ["feed", "choices"] spPick) (mK : mg "_law_pick" = some (.ref fK)) (kK : PySem.W.keepIn K (.ref fK) = true) (bK : Binds K fdK ["feed", "choices"] []) :
    FnOk P w K mg base CX0 3 f fd ["feed", "value"] spBentT := by
  refine F.ok scBt (fun vs H Q E h => ?_) (fun cdv A outer s H vs Q E hr h => ?_)
  · obtain ⟨N, a, v, ds, k, rfl, _⟩ := h
    rfl
  obtain ⟨N, a, v, ds, kk, rfl, ha, hd, hdl, hok, k⟩ := h
  have hr1 := hr.mono (show 1 ≤ 2 by decide)
  refine ⟨_, (pss_cons (ps_set (i := 2) scBt.nd rfl (.inl rfl) (pe_call GT hr1 rfl mT kT bT .nil pass0 (pa_cons (pv 0) (pa_cons (pe_op op_add (pe_callB call_len_seq (by rfl) T.zl PySem.boot_len (pa_cons (pv 1) pa_nil)) pe_int) pa_nil))))
    (pss_cons (ps_set (i := 3) scBt.nd rfl (.inl rfl) (pe_call GT hr1 rfl mT kT bT .nil pass0 (pa_cons (pv 0) (pa_cons pe_int pa_nil))))
    (pss_cons (ps_set (i := 4) scBt.nd rfl (.inl rfl) (pe_lst (pa_cons pe_str (pa_cons pe_str (pa_cons pe_str (pa_cons pe_str (pa_cons pe_str (pa_cons pe_str (pa_cons pe_str (pa_cons pe_str (pa_cons pe_int (pa_cons pe_non (pa_cons pe_bl (pa_cons (pe_lstN pa_nil) (pa_cons pe_dnewK pa_nil)))))))))))))))
    (pss_cons (ps_set (i := 4) scBt.nd rfl (.inl rfl) (pe_op op_cat (pv 4) (pe_lst (pa_cons pe_str (pa_cons pe_str (pa_cons pe_str (pa_cons pe_str (pa_cons pe_str (pa_cons pe_str (pa_cons pe_str (pa_cons (pe_lstN (pa_cons pe_str pa_nil)) (pa_cons (pe_disp (pps_cons pe_str pe_int pps_nil) rfl rfl (by simp) (by decide)) pa_nil))))))))))))
    (pss_cons (ps_set (i := 4) scBt.nd rfl (.inl rfl) (pe_op op_cat (pv 4) (pe_lst (pa_cons (pe_tupF (pa_cons pe_str pa_nil)) (pa_cons (pe_tupF pa_nil) (pa_cons pe_str (pa_cons (pe_tupF (pa_cons (pe_tupF pa_nil) (pa_cons (pe_tupF pa_nil) pa_nil))) (pa_cons (pe_tupF (pa_cons (pe_tupF (pa_cons pe_str pa_nil)) (pa_cons (pe_tupF pa_nil) pa_nil))) pa_nil))))))))
    (pss_cons (ps_if (pt_cmpR op_eq (pv 3) pe_int (nomark _)) (pss_one (ps_ret (pe_op (show OpR _ (binaryOp .Add) (rCatF K) from op_catF) (pe_slice (show SlR _ (rSlF K) from sl_tupF) (pv 1) po_none (po_some (pv 2))) (pe_slice (show SlR _ (rSlF K) from sl_tupF) (pv 1) (po_some (pe_op op_add (pv 2) pe_int)) po_none)))) pss_nil)
    (pss_cons (ps_if (pt_cmpR op_eq (pv 3) pe_int (nomark _)) (pss_one (ps_ret (pe_op (show OpR _ (binaryOp .Add) (rCatF K) from op_catF) (pe_op (show OpR _ (binaryOp .Add) (rCatF K) from op_catF) (pe_slice (show SlR _ (rSlF K) from sl_tupF) (pv 1) po_none (po_some (pv 2))) (pe_tupF (pa_cons (pe_call GK hr rfl mK kK bK .nil pass0 (pa_cons (pv 0) (pa_cons (pv 4) pa_nil))) pa_nil))) (pe_slice (show SlR _ (rSlF K) from sl_tupF) (pv 1) (po_some (pv 2)) po_none)))) pss_nil)
    (pss_cons (ps_if (pt_cmpR op_eq (pv 3) pe_int (nomark _)) (pss_one (ps_ret (pe_op (show OpR _ (binaryOp .Add) (rCatF K) from op_catF) (pv 1) (pe_slice (show SlR _ (rSlF K) from sl_tupF) (pv 1) po_none (po_some pe_int))))) pss_nil)
    (pss_cons (ps_if (pt_cmpR op_eq (pv 3) pe_int (nomark _)) (pss_one (ps_ret (pe_backF (pv 1)))) pss_nil)
    (pss_cons (ps_if (pt_cmpR op_eq (pv 3) pe_int (nomark _)) (pss_one (ps_ret (pe_callTy (show CallR _ (.type "list") (rListN K) from call_listN) (by rfl) ml (by decide +kernel) (pa_cons (pv 1) pa_nil)))) pss_nil)
    (pss_cons (ps_if (pt_cmpR op_eq (pv 3) pe_int (nomark _)) (pss_one (ps_ret (pe_call GK hr rfl mK kK bK .nil pass0 (pa_cons (pv 0) (pa_cons (pe_lst (pa_cons pe_non (pa_cons pe_int (pa_cons pe_str (pa_cons pe_dnewK (pa_cons (pe_tupF pa_nil) pa_nil)))))) pa_nil))))) pss_nil)
    (pss_one (ps_ret (pe_op (show OpR _ (binaryOp .Add) (rCatF K) from op_catF) (pe_op (show OpR _ (binaryOp .Add) (rCatF K) from op_catF) (pe_slice (show SlR _ (rSlF K) from sl_tupF) (pv 1) po_none (po_some (pv 2))) (pe_tupF (pa_cons (pe_call GK hr rfl mK kK bK .nil pass0 (pa_cons (pv 0) (pa_cons (pv 4) pa_nil))) pa_nil))) (pe_slice (show SlR _ (rSlF K) from sl_tupF) (pv 1) (po_some (pe_op op_add (pv 2) pe_int)) po_none))))))))))))))), ?_⟩
  -- bent
  cases hd with
  | @tup _ vs _ nv hv hvs =>
  have hvl : vs.length = ds.length := hvs.len
  refine ⟨_, rfl, _, rfl, v, _, rfl, .inr hv.sq, _, _, rfl, rfl, a, _, rfl, ha.fd, by omega, by omega, fun r1 H1 x1 f1 r10 r11 => ?_⟩
  obtain ⟨n, rfl⟩ : ∃ n : Nat, r1 = (n : Int) := ⟨r1.toNat, by omega⟩
  have hn : n ≤ ds.length := by omega
  refine ⟨_, rfl, a, 8, rfl, f1, by decide, by decide, fun wy H2 x2 f2 w0 w1 => ?_⟩
  have m := ha.mem
  have f2 := ha.X (x1.trans x2) f2
  -- the odd ones
  have ne : ∀ {H' : Hp} {p : Addr}, Fn H' a N → H' p = none → p ∉ N := fun f h => f.ne h
  have aS : ∀ {x : Str}, nm1b x = true → Atom (.str x) := fun h => by
    obtain ⟨q1, q2⟩ := nm1_of h
    exact .inr (.inr (.inr (.inl ⟨_, rfl, q1, q2⟩)))
  refine ⟨small1 (by show 0 ≤ 8; decide), fun p1 hp1 m1 p2 hp2 => ⟨big (by show 13 ≤ 100000; decide), fun p3 hp3 => ?_⟩⟩
  have s1 := upd_new (o := HO.lst []) hp1
  have g1 : (upd H2 p1 (.lst [])) p1 = some (.lst []) := upd_same
  have n1 := ne f2 hp1
  generalize upd H2 p1 (HO.lst []) = H3 at s1 g1 hp2 hp3 ⊢
  have f3 := f2.same s1
  have s2 := upd_new (o := HO.dK []) hp2
  have g2 : (upd H3 p2 (.dK [])) p2 = some (kvH []) := upd_same
  have n2 := ne f3 hp2
  generalize upd H3 p2 (HO.dK []) = H4 at s2 g2 hp3 ⊢
  have f4 := f3.same s2
  have n3 := ne f4 hp3
  obtain ⟨xs1, ds1, e1, l1, q1, k1⟩ : ∃ (xs : List V) (ds : List PyData), [V.str "i", V.str "p", V.str "q", V.str "end", V.str "self", V.str "A", V.str "", V.str "abcdefghi", V.int 5, V.non, V.bl true, V.ref p1, V.ref p2] = xs ∧ xs.length = 13 ∧ (∀ H', Same H4 H' → DqAll N H' xs ds) ∧ ∀ d ∈ ds, Atom d := by
    refine ⟨_, [.str "i", .str "p", .str "q", .str "end", .str "self", .str "A", .str "", .str "abcdefghi", .int 5, .none, .bool true, .list [], kvD []], rfl, rfl, fun H' s' => ?_, fun d hd => ?_⟩
    · exact .cons (.str _) (.cons (.str _) (.cons (.str _) (.cons (.str _) (.cons (.str _) (.cons (.str _) (.cons (.str _) (.cons (.str _) (.cons (.int _) (.cons .non (.cons (.bl _) (.cons (.lst n1 m1 (s' _ _ (s2 _ _ g1)) .nil) (.cons (.dic n2 (s' _ _ g2) rfl) .nil))))))))))))
    · simp only [List.mem_cons, List.not_mem_nil, or_false] at hd
      rcases hd with rfl | rfl | rfl | rfl | rfl | rfl | rfl | rfl | rfl | rfl | rfl | rfl | rfl
      · exact aS (by decide +kernel)
      · exact aS (by decide +kernel)
      · exact aS (by decide +kernel)
      · exact aS (by decide +kernel)
      · exact aS (by decide +kernel)
      · exact aS (by decide +kernel)
      · exact aS (by decide +kernel)
      · exact aS (by decide +kernel)
      · exact .inr (.inr (.inl ⟨5, rfl, by decide, by decide⟩))
      · exact .inl rfl
      · exact .inr (.inl ⟨true, rfl⟩)
      · unfold Atom; simp
      · unfold Atom; simp
  rw [e1]
  have s3 := upd_new (o := HO.lst xs1) hp3
  have g3 : (upd H4 p3 (.lst xs1)) p3 = some (.lst xs1) := upd_same
  have q1' := q1 _ s3
  generalize upd H4 p3 (HO.lst xs1) = H5 at s3 g3 q1' ⊢
  have f5 := f4.same s3
  -- the second ones
  refine ⟨_, rfl, small1 (by show 1 ≤ 8; decide), fun p4 hp4 m4 p5 hp5 => ⟨upd_same, [(Sum.inr "i", V.int 1)], rfl, by decide, big (by show 9 ≤ 100000; decide), fun p6 hp6 => ?_⟩⟩
  have s4 := upd_new (o := HO.lst [V.str "i"]) hp4
  have g4 : (upd H5 p4 (.lst [V.str "i"])) p4 = some (.lst [V.str "i"]) := upd_same
  have n4 := ne f5 hp4
  generalize upd H5 p4 (HO.lst [V.str "i"]) = H6 at s4 g4 hp5 hp6 ⊢
  have f6 := f5.same s4
  have n5 := ne f6 hp5
  have s5 : Same H6 (upd (upd H6 p5 (.dK [])) p5 (.dK (mergeK [] [(Sum.inr "i", V.int 1)]))) := fun b u e => by
    rw [upd_upd]
    exact upd_new hp5 b u e
  have g5 : (upd (upd H6 p5 (.dK [])) p5 (.dK (mergeK [] [(Sum.inr "i", V.int 1)]))) p5 = some (kvH [("i", 1)]) := upd_same
  generalize upd (upd H6 p5 (.dK [])) p5 (.dK (mergeK [] [(Sum.inr "i", V.int 1)])) = H7 at s5 g5 hp6 ⊢
  have f7 := f6.same s5
  have n6 := ne f7 hp6
  obtain ⟨xs2, ds2, e2, l2, q2, k2⟩ : ∃ (xs : List V) (ds : List PyData), [V.str "a1", V.str "a b", V.str "a.b", V.str "a_b", V.str "block", V.str "part", V.str "aB", V.ref p4, V.ref p5] = xs ∧ xs.length = 9 ∧ (∀ H', Same H7 H' → DqAll N H' xs ds) ∧ ∀ d ∈ ds, Atom d := by
    refine ⟨_, [.str "a1", .str "a b", .str "a.b", .str "a_b", .str "block", .str "part", .str "aB", .list [.str "i"], kvD [("i", 1)]], rfl, rfl, fun H' s' => ?_, fun d hd => ?_⟩
    · exact .cons (.str _) (.cons (.str _) (.cons (.str _) (.cons (.str _) (.cons (.str _) (.cons (.str _) (.cons (.str _) (.cons (.lst n4 m4 (s' _ _ (s5 _ _ g4)) (.cons (.str _) .nil)) (.cons (.dic n5 (s' _ _ g5) rfl) .nil))))))))
    · simp only [List.mem_cons, List.not_mem_nil, or_false] at hd
      rcases hd with rfl | rfl | rfl | rfl | rfl | rfl | rfl | rfl | rfl
      · exact aS (by decide +kernel)
      · exact aS (by decide +kernel)
      · exact aS (by decide +kernel)
      · exact aS (by decide +kernel)
      · exact aS (by decide +kernel)
      · exact aS (by decide +kernel)
      · exact aS (by decide +kernel)
      · unfold Atom; simp
      · unfold Atom; simp
  rw [e2]
  have s6 := upd_new (o := HO.lst xs2) hp6
  have g6 : (upd H7 p6 (.lst xs2)) p6 = some (.lst xs2) := upd_same
  have q2' := q2 _ s6
  generalize upd H7 p6 (HO.lst xs2) = H8 at s6 g6 q2' ⊢
  have s58 := s4.trans (s5.trans s6)
  have f8 := f5.same s58
  refine ⟨p3, p6, _, _, rfl, rfl, s58 _ _ g3, g6, by rw [l1, l2]; exact big (by decide), fun p7 hp7 => ?_⟩
  have s7 := upd_new (o := HO.lst (xs1 ++ xs2)) hp7
  have g7 : (upd H8 p7 (.lst (xs1 ++ xs2))) p7 = some (.lst (xs1 ++ xs2)) := upd_same
  have q12 : DqAll N (upd H8 p7 (.lst (xs1 ++ xs2))) (xs1 ++ xs2) (ds1 ++ ds2) := (dq_sames (s58.trans s7) q1').app (dq_sames s7 q2')
  have n7 := ne f8 hp7
  generalize upd H8 p7 (HO.lst (xs1 ++ xs2)) = H9 at s7 g7 q12 ⊢
  have f9 := f8.same s7
  -- the third ones
  refine ⟨_, rfl, small1 (by show 1 ≤ 8; decide), fun t1 J1 j1 i1 => ⟨small1 (by show 0 ≤ 8; decide), fun t2 J2 j2 i2 => ⟨small1 (by show 0 ≤ 8; decide), fun t3 J3 j3 i3 => ⟨small1 (by show 0 ≤ 8; decide), fun t4 J4 j4 i4 => ⟨small1 (by show 2 ≤ 8; decide), fun t5 J5 j5 i5 => ⟨small1 (by show 1 ≤ 8; decide), fun t6 J6 j6 i6 => ⟨small1 (by show 0 ≤ 8; decide), fun t7 J7 j7 i7 => ⟨small1 (by show 2 ≤ 8; decide), fun t8 J8 j8 i8 => ⟨big (by show 5 ≤ 100000; decide), fun p8 hp8 => ?_⟩⟩⟩⟩⟩⟩⟩⟩⟩
  have f18 := f9.same (j1.trans (j2.trans (j3.trans (j4.trans (j5.trans (j6.trans (j7.trans j8)))))))
  have c7 := ixT_same j8 i7
  have c6 := ixT_same (j7.trans j8) i6
  have c5 := ixT_same (j6.trans (j7.trans j8)) i5
  have c4 := ixT_same (j5.trans (j6.trans (j7.trans j8))) i4
  have c3 := ixT_same (j4.trans (j5.trans (j6.trans (j7.trans j8)))) i3
  have c2 := ixT_same (j3.trans (j4.trans (j5.trans (j6.trans (j7.trans j8))))) i2
  have c1 := ixT_same (j2.trans (j3.trans (j4.trans (j5.trans (j6.trans (j7.trans j8)))))) i1
  obtain ⟨xs3, ds3, e3, l3, q3, k3⟩ : ∃ (xs : List V) (ds : List PyData), [V.ref t1, V.ref t2, V.str "zz", V.ref t5, V.ref t8] = xs ∧ xs.length = 5 ∧ DqAll N J8 xs ds ∧ ∀ d ∈ ds, Atom d := by
    refine ⟨_, [.tuple [.str "i"], .tuple [], .str "zz", .tuple [.tuple [], .tuple []], .tuple [.tuple [.str "p"], .tuple []]], rfl, rfl, ?_, fun d hd => ?_⟩
    · exact .cons (dq_tup f18.ls c1 (.cons (.str _) .nil)) (.cons (dq_tup f18.ls c2 .nil) (.cons (.str _) (.cons (dq_tup f18.ls c5 (.cons (dq_tup f18.ls c3 .nil) (.cons (dq_tup f18.ls c4 .nil) .nil))) (.cons (dq_tup f18.ls i8 (.cons (dq_tup f18.ls c6 (.cons (.str _) .nil)) (.cons (dq_tup f18.ls c7 .nil) .nil))) .nil))))
    · simp only [List.mem_cons, List.not_mem_nil, or_false] at hd
      rcases hd with rfl | rfl | rfl | rfl | rfl
      · unfold Atom; simp
      · unfold Atom; simp
      · exact aS (by decide +kernel)
      · unfold Atom; simp
      · unfold Atom; simp
  rw [e3]
  have s918 := j1.trans (j2.trans (j3.trans (j4.trans (j5.trans (j6.trans (j7.trans j8))))))
  have s8 := upd_new (o := HO.lst xs3) hp8
  have g8 : (upd J8 p8 (.lst xs3)) p8 = some (.lst xs3) := upd_same
  have s9 := s918.trans s8
  generalize upd J8 p8 (HO.lst xs3) = H10 at s8 g8 s9 ⊢
  have f10 := f18.same s8
  refine ⟨p7, p8, _, _, rfl, rfl, s9 _ _ g7, g8, by rw [List.length_append, l1, l2, l3]; exact big (by decide), fun o ho => ?_⟩
  have s10 := upd_new (o := HO.lst (xs1 ++ xs2 ++ xs3)) ho
  have oddAt : OddAt N (upd H10 o (.lst (xs1 ++ xs2 ++ xs3))) a o := ⟨f10.fd.ne ho, _, _, upd_same, by rw [List.length_append, List.length_append, l1, l2, l3]; decide, by rw [List.length_append, List.length_append, l1, l2, l3]; decide, (dq_sames (s9.trans s10) q12).app (dq_sames (s8.trans s10) q3), fun d hd => by
    rcases List.mem_append.mp hd with hd | hd
    · rcases List.mem_append.mp hd with hd | hd
      · exact k1 d hd
      · exact k2 d hd
    · exact k3 d hd⟩
  have sx : SameX a H (upd H10 o (.lst (xs1 ++ xs2 ++ xs3))) := x1.trans (x2.trans (.of (s1.trans (s2.trans (s3.trans (s58.trans (s7.trans (s9.trans s10))))))))
  have fO := f10.same s10
  generalize upd H10 o (HO.lst (xs1 ++ xs2 ++ xs3)) = HO1 at oddAt sx fO ⊢
  clear q12 q1' q2' q3 q1 q2 k1 k2 k3 g1 g2 g3 g4 g5 g6 g7 g8 c1 c2 c3 c4 c5 c6 c7 s1 s2 s3 s4 s5 s6 s7 s8 s9 s10 s58 s918 x1 x2 f1 f2 f3 f4 f5 f6 f7 f8 f9 f10 f18
  have hvO : IxT HO1 v vs := ixT_sameN (.X m sx) nv hv
  have hvsO : DqAll N HO1 vs ds := hvs.mv m sx
  -- the ways
  have okK : ∀ {d : PyData}, Atom d → Ok kk d := fun h => Ok.of0 h
  have fin : ∀ {r : Addr} {H' : Hp} {ys : List V} {es : List PyData}, SameX a HO1 H' → Fn H' a N → IxT H' r ys → DqAll N H' ys es → es.length ≤ 12 → (∀ e ∈ es, Ok kk e) → Q (.ref r) H' := fun s' f' i' q' l' k' =>
    k _ (.tuple _) _ (sx.trans s') f'.fd (dq_tup f'.ls i' q') (.inr ⟨_, .inl rfl, l', k'⟩)
  -- way 0
  refine ⟨_, rfl, rfl, _, rfl, ?_⟩
  by_cases w0' : wy = 0
  · rw [decide_eq_true (congrArg V.int w0')]
    refine iteT ⟨_, rfl, _, rfl, _, rfl, v, vs, rfl, hvO, fun r1 H1 s1 i1 => ⟨_, rfl, _, rfl, _, _, rfl, rfl, _, rfl, v, vs, rfl, ixT_same s1 hvO, fun r2 H2 s2 i2 => ⟨r1, r2, _, _, rfl, rfl, ixT_same s2 i1, i2, ?_, fun r3 H3 s3 i3 => ?_⟩⟩⟩
    · exact big (by have z1 := cutV_length vs none (some (n : Int)); have z2 := cutV_length vs (some ((n : Int) + 1)) none; omega)
    · rw [cut_low, show ((n : Int) + 1) = ((n + 1 : Nat) : Int) by omega, cut_high] at i3
      have s13 := s1.trans (s2.trans s3)
      refine fin (.of s13) (fO.same s13) i3 ((dq_sames s13 (hvsO.tk n)).app (dq_sames s13 (hvsO.dr (n + 1)))) ?_ fun e he => ?_
      · rw [List.length_append, List.length_take, List.length_drop]
        omega
      · rcases List.mem_append.mp he with he | he
        · exact hok e (List.mem_of_mem_take he)
        · exact hok e (List.mem_of_mem_drop he)
  rw [decide_eq_false fun z => w0' (V.int.inj z)]
  -- what is put in
  have putIn : ∀ {H' : Hp} (Q' : VK), SameX a HO1 H' → Fn H' a N → (∀ (t : Addr) (H2 : Hp) (x : V) (e : PyData), SameX a H' H2 → Fn H2 a N → IxT H2 t [x] → Dq N H2 x e → Ok kk e → Q' (.ref t) H2) →
      ∀ (t : St), t = [some (.ref a), some (.ref v), some (.int (n : Int)), some (.int wy), some (.ref o)] → tTupF (tCons (tCall spPick [] E0 (tCons (tVar 0) (tCons (tVar 4) tNil))) tNil) t H' Q' := fun {H'} Q' s' f' q t et => by
    subst et
    obtain ⟨no, ys, es, eo, lo, hi, qo, ko⟩ := oddAt.mv m s'
    refine ⟨_, rfl, _, rfl, a, o, ys, rfl, f'.fd, no, eo, lo, hi, fun ix x H2 x2 f2 hx => ?_⟩
    obtain ⟨e, he, hq⟩ := qo.get ix x hx
    exact ⟨small1 (by show 1 ≤ 8; decide), fun t H3 s3 i3 => q t H3 x e (x2.trans (.of s3)) ((f'.X x2 f2).same s3) i3 (dq_same s3 (hq.mv m x2)) (okK (ko e (List.mem_of_getElem? he)))⟩
  -- way 1
  refine iteF ⟨_, rfl, rfl, _, rfl, ?_⟩
  by_cases w1' : wy = 1
  · rw [decide_eq_true (congrArg V.int w1')]
    refine iteT ⟨_, rfl, _, rfl, _, rfl, v, vs, rfl, hvO, fun r1 H1 s1 i1 => ?_⟩
    refine putIn _ (.of s1) (fO.same s1) (fun t H2 x e x2 f2 i2 qx okx => ?_) _ rfl
    have v1 := ixT_same s1 hvO
    have v2 := ixT_sameN (.X m x2) nv v1
    have c1 := ixT_sameN (.X m x2) (ixT_Ls (fO.same s1).ls i1) i1
    refine ⟨r1, t, _, _, rfl, rfl, c1, i2, ?_, fun r3 H3 s3 i3 => ?_⟩
    · exact big (by have z1 := cutV_length vs none (some (n : Int)); show _ + 1 ≤ _; omega)
    refine ⟨_, rfl, _, rfl, _, rfl, v, vs, rfl, ixT_same s3 v2, fun r4 H4 s4 i4 => ⟨r3, r4, _, _, rfl, rfl, ixT_same s4 i3, i4, ?_, fun r5 H5 s5 i5 => ?_⟩⟩
    · exact big (by have z1 := cutV_length vs none (some (n : Int)); have z2 := cutV_length vs (some (n : Int)) none; rw [List.length_append]; show _ + 1 + _ ≤ _; omega)
    · rw [cut_low, cut_high] at i5
      have s35 := s3.trans (s4.trans s5)
      have sA : SameX a HO1 H5 := ((SameX.of s1).trans x2).trans (.of s35)
      refine fin sA (f2.same s35) i5 ((((hvsO.tk n).mv m sA).app (.cons (dq_same s35 qx) .nil)).app ((hvsO.dr n).mv m sA)) ?_ fun e' he => ?_
      · rw [List.length_append, List.length_append, List.length_take, List.length_drop]
        show _ + 1 + _ ≤ 12
        omega
      · rcases List.mem_append.mp he with he | he
        · rcases List.mem_append.mp he with he | he
          · exact hok e' (List.mem_of_mem_take he)
          · rw [List.mem_singleton.mp he]
            exact okx
        · exact hok e' (List.mem_of_mem_drop he)
  rw [decide_eq_false fun z => w1' (V.int.inj z)]
  -- way 2
  refine iteF ⟨_, rfl, rfl, _, rfl, ?_⟩
  by_cases w2' : wy = 2
  · rw [decide_eq_true (congrArg V.int w2')]
    refine iteT ⟨_, rfl, _, rfl, _, rfl, v, vs, rfl, hvO, fun r2 H2 s2 i2 => ⟨v, r2, _, _, rfl, rfl, ixT_same s2 hvO, i2, ?_, fun r3 H3 s3 i3 => ?_⟩⟩
    · exact big (by have z1 := cutV_length vs none (some (1 : Int)); omega)
    · rw [show (1 : Int) = ((1 : Nat) : Int) from rfl, cut_low] at i3
      have s13 := s2.trans s3
      refine fin (.of s13) (fO.same s13) i3 ((dq_sames s13 hvsO).app (dq_sames s13 (hvsO.tk 1))) ?_ fun e he => ?_
      · rw [List.length_append, List.length_take]
        omega
      · rcases List.mem_append.mp he with he | he
        · exact hok e he
        · exact hok e (List.mem_of_mem_take he)
  rw [decide_eq_false fun z => w2' (V.int.inj z)]
  -- way 3
  refine iteF ⟨_, rfl, rfl, _, rfl, ?_⟩
  by_cases w3' : wy = 3
  · rw [decide_eq_true (congrArg V.int w3')]
    refine iteT ⟨_, rfl, v, vs, rfl, hvO, fun r3 H3 s3 i3 => ?_⟩
    refine fin (.of s3) (fO.same s3) i3 (dq_sames s3 hvsO.rv) ?_ fun e he => hok e (List.mem_reverse.mp he)
    rw [List.length_reverse]
    omega
  rw [decide_eq_false fun z => w3' (V.int.inj z)]
  -- way 4
  refine iteF ⟨_, rfl, rfl, _, rfl, ?_⟩
  by_cases w4' : wy = 4
  · rw [decide_eq_true (congrArg V.int w4')]
    refine iteT ⟨_, rfl, v, vs, rfl, hvO.sq, fun l hl ml' => ?_⟩
    have s3 := upd_new (o := HO.lst vs) hl
    have f3 := fO.same s3
    exact k _ (.list ds) _ (sx.trans (.of s3)) f3.fd (.lst (fO.ne hl) ml' upd_same (dq_sames s3 hvsO)) (.inr ⟨_, .inr rfl, by omega, hok⟩)
  rw [decide_eq_false fun z => w4' (V.int.inj z)]
  -- way 5
  refine iteF ⟨_, rfl, rfl, _, rfl, ?_⟩
  by_cases w5' : wy = 5
  · rw [decide_eq_true (congrArg V.int w5')]
    refine iteT ⟨_, rfl, fun p2 hp2 => ⟨small1 (by show 0 ≤ 8; decide), fun t H2 s2 i2 => ⟨small1 (by show 5 ≤ 8; decide), fun l hl => ?_⟩⟩⟩
    have s1 := upd_new (o := HO.dK []) hp2
    have g1 : (upd HO1 p2 (.dK [])) p2 = some (kvH []) := upd_same
    have n1 := ne fO hp2
    have s12 := s1.trans s2
    have f2 := fO.same s12
    have s3 := upd_new (o := HO.lst [V.non, V.int 7, V.str "", V.ref p2, V.ref t]) hl
    have s13 := s12.trans s3
    have f3 := f2.same s3
    refine ⟨a, l, _, rfl, f3.fd, f2.fd.ne hl, upd_same, by show 0 < 5; decide, by show 5 ≤ 1000; decide, fun ix x H4 x4 f4 hx => ?_⟩
    have sA : SameX a H H4 := sx.trans ((SameX.of s13).trans x4)
    match ix, hx with
    | 0, hx => cases hx; exact k _ _ _ sA f4 .non (Ok.of0 (.inl rfl))
    | 1, hx => cases hx; exact k _ _ _ sA f4 (.int 7) (Ok.of0 (.inr (.inr (.inl ⟨7, rfl, by decide, by decide⟩))))
    | 2, hx => cases hx; exact k _ _ _ sA f4 (.str "") (Ok.of0 (aS (by decide +kernel)))
    | 3, hx => cases hx; exact k _ _ _ sA f4 (.dic n1 (x4 _ _ (fun z => n1 (z ▸ m)) (s3 _ _ (s2 _ _ g1))) rfl) (Ok.of0 (.inr (.inr (.inr (.inr (.inl rfl))))))
    | 4, hx => cases hx; exact k _ _ _ sA f4 ((dq_tup f3.ls (ixT_same s3 i2) .nil).mv m x4) (Ok.of0 (by unfold Atom; simp))
  rw [decide_eq_false fun z => w5' (V.int.inj z)]
  -- else
  refine iteF ⟨_, rfl, _, rfl, _, rfl, v, vs, rfl, hvO, fun r1 H1 s1 i1 => ?_⟩
  refine putIn _ (.of s1) (fO.same s1) (fun t H2 x e x2 f2 i2 qx okx => ?_) _ rfl
  have v1 := ixT_same s1 hvO
  have v2 := ixT_sameN (.X m x2) nv v1
  have c1 := ixT_sameN (.X m x2) (ixT_Ls (fO.same s1).ls i1) i1
  refine ⟨r1, t, _, _, rfl, rfl, c1, i2, ?_, fun r3 H3 s3 i3 => ?_⟩
  · exact big (by have z1 := cutV_length vs none (some (n : Int)); show _ + 1 ≤ _; omega)
  refine ⟨_, rfl, _, rfl, _, _, rfl, rfl, _, rfl, v, vs, rfl, ixT_same s3 v2, fun r4 H4 s4 i4 => ⟨r3, r4, _, _, rfl, rfl, ixT_same s4 i3, i4, ?_, fun r5 H5 s5 i5 => ?_⟩⟩
  · exact big (by have z1 := cutV_length vs none (some (n : Int)); have z2 := cutV_length vs (some ((n : Int) + 1)) none; rw [List.length_append]; show _ + 1 + _ ≤ _; omega)
  · rw [cut_low, show ((n : Int) + 1) = ((n + 1 : Nat) : Int) by omega, cut_high] at i5
    have s35 := s3.trans (s4.trans s5)
    have sA : SameX a HO1 H5 := ((SameX.of s1).trans x2).trans (.of s35)
    refine fin sA (f2.same s35) i5 ((((hvsO.tk n).mv m sA).app (.cons (dq_same s35 qx) .nil)).app ((hvsO.dr (n + 1)).mv m sA)) ?_ fun e' he => ?_
    · rw [List.length_append, List.length_append, List.length_take, List.length_drop]
      show _ + 1 + _ ≤ 12
      omega
    · rcases List.mem_append.mp he with he | he
      · rcases List.mem_append.mp he with he | he
        · exact hok e' (List.mem_of_mem_take he)
        · rw [List.mem_singleton.mp he]
          exact okx
      · exact hok e' (List.mem_of_mem_drop he)
end
end K22
namespace K22
open PySem L2 Own StX ClX NdefX
theorem lay_str {x : Str} (h : Nm1 x) : PyData.canLay0 (.str x) = true := by
  show (x.cps.all (· < 0x110000)) = true
  rw [← Array.all_toList]
  refine List.all_eq_true.mpr fun c hc => ?_
  have := h.2 c hc
  exact decide_eq_true (by omega)
theorem lay_all {l : List PyData} (h : ∀ d ∈ l, d.canLay0 = true) : PyData.canLayAll0 l = true := by
  induction l with
  | nil => simp [PyData.canLayAll0]
  | cons d r ih => simp [PyData.canLayAll0, h d List.mem_cons_self, ih fun e he => h e (List.mem_cons_of_mem _ he)]
theorem dep_all {l : List PyData} {n : Nat} (h : ∀ d ∈ l, d.depth ≤ n) : PyData.depthAll l ≤ n := by
  induction l with
  | nil => simp [PyData.depthAll]
  | cons d r ih =>
    have h1 := h d List.mem_cons_self
    have h2 := ih fun e he => h e (List.mem_cons_of_mem _ he)
    simp only [PyData.depthAll]
    omega
theorem lay_tup {l : List PyData} {n : Nat} (h : ∀ d ∈ l, d.canLay0 = true ∧ d.depth ≤ n) : (PyData.tuple l).canLay0 = true ∧ (PyData.tuple l).depth ≤ n + 1 := by
  refine ⟨by simp only [PyData.canLay0]; exact lay_all fun d hd => (h d hd).1, ?_⟩
  have := dep_all fun d hd => (h d hd).2
  simp only [PyData.depth]
  omega
theorem lay_strs {l : List Str} (h : ∀ x ∈ l, Nm1 x) : (PyData.tuple (l.map PyData.str)).canLay0 = true ∧ (PyData.tuple (l.map PyData.str)).depth ≤ 1 :=
  lay_tup (n := 0) fun d hd => by
    obtain ⟨x, hx, rfl⟩ := List.mem_map.mp hd
    exact ⟨lay_str (h x hx), by simp [PyData.depth]⟩
theorem lay_prof {ins outs : List Str} {prof : List Fnc} (m : Made ins outs prof) : SeqAt.shaped (.tuple (prof.map fncD)) = true := by
  have z := lay_tup (l := prof.map fncD) (n := 2) fun d hd => by
    obtain ⟨s, hs, rfl⟩ := List.mem_map.mp hd
    obtain ⟨_, _, k1, k2⟩ := m.p1 s hs
    exact lay_tup (n := 1) fun e he => by
      simp only [List.mem_cons, List.not_mem_nil, or_false] at he
      rcases he with rfl | rfl
      · exact lay_strs k1
      · exact lay_strs k2
  unfold SeqAt.shaped
  rw [Bool.and_eq_true]
  exact ⟨z.1, decide_eq_true (by omega)⟩
theorem StepAt.dp {K : PySem.W.Frag} {H : Hp} {a : Addr} {s : Fnc} (h : StepAt H a s) : Dp K H (.ref a) (fncD s) := by
  obtain ⟨x, y, h1, h2, h3⟩ := h
  exact .tup h1.sq (.cons (.tup h2.sq (dp_strs _)) (.cons (.tup h3.sq (dp_strs _)) .nil))
theorem dp_steps {K : PySem.W.Frag} {H : Hp} : ∀ (as : List Addr) (ps : List Fnc), StepsAt H as ps → DpAll K H (as.map V.ref) (ps.map fncD)
  | [], [], _ => .nil
  | [], _ :: _, h => by cases h.1
  | _ :: _, [], h => by cases h.1
  | a :: as, p :: ps, h => .cons (h.2 0 a p rfl rfl).dp (dp_steps as ps ⟨Nat.succ.inj h.1, fun i c q e1 e2 => h.2 (i + 1) c q e1 e2⟩)
theorem ok_nm {x : Str} (h : Nm1 x) {k : Nat} : Ok k (.str x) := Ok.of0 (.inr (.inr (.inr (.inl ⟨x, rfl, h.1, h.2⟩))))
theorem ok_tupN {k : Nat} {ds : List PyData} (hl : ds.length ≤ 12) (h : ∀ e ∈ ds, Ok k e) : Ok (k + 1) (.tuple ds) := .inr ⟨ds, .inl rfl, hl, h⟩
theorem ok_lstN {k : Nat} {ds : List PyData} (hl : ds.length ≤ 12) (h : ∀ e ∈ ds, Ok k e) : Ok (k + 1) (.list ds) := .inr ⟨ds, .inr rfl, hl, h⟩
theorem ok_strs {l : List Str} (hl : l.length ≤ 12) (h : ∀ x ∈ l, Nm1 x) {k : Nat} : Ok (k + 1) (.tuple (l.map PyData.str)) := ok_tupN (by rw [List.length_map]; exact hl) fun e he => by
  obtain ⟨x, hx, rfl⟩ := List.mem_map.mp he
  exact ok_nm (h x hx)
theorem ok_fnc {s : Fnc} (h1 : s.1.length ≤ 8) (h2 : s.2.length ≤ 8) (k1 : ∀ x ∈ s.1, Nm1 x) (k2 : ∀ x ∈ s.2, Nm1 x) {k : Nat} : Ok (k + 2) (fncD s) := ok_tupN (by show 2 ≤ 12; decide) fun e he => by
  simp only [List.mem_cons, List.not_mem_nil, or_false] at he
  rcases he with rfl | rfl
  · exact ok_strs (by omega) k1
  · exact ok_strs (by omega) k2
theorem Made.okp {ins outs : List Str} {prof : List Fnc} (m : Made ins outs prof) : ∀ d ∈ prof.map fncD, Ok 2 d := fun d hd => by
  obtain ⟨s, hs, rfl⟩ := List.mem_map.mp hd
  obtain ⟨h1, h2, k1, k2⟩ := m.p1 s hs
  exact ok_fnc h1 h2 k1 k2
theorem Made.ok {ins outs : List Str} {prof : List Fnc} (m : Made ins outs prof) : Ok 4 (madeD ins outs prof) := ok_tupN (by show 3 ≤ 12; decide) fun e he => by
  have h1 := m.il
  have h2 := m.ol
  have h3 := m.pl
  simp only [List.mem_cons, List.not_mem_nil, or_false] at he
  rcases he with rfl | rfl | rfl
  · exact ok_strs (by omega) m.i1
  · exact ok_strs (by omega) m.o1
  · exact ok_tupN (by rw [List.length_map]; omega) m.okp
def spBent : Sp := fun vs H Q _ => ∃ (a v : Addr) (ins outs : List Str) (prof : List Fnc), vs = [.ref a, .ref v] ∧ Fd H a ∧ MadeAt H v ins outs prof ∧ Made ins outs prof ∧ ∀ N r D H', SameX a H H' → Fd H' a → Dq N H' r D → Ok 4 D → Q r H'
section
variable {P : Program} {w : World} {K : PySem.W.Frag} {mg : Str → Option Value} {base : Heap}
abbrev nBn : List Str := ["feed", "value", "parts", "at", "k", "function", "side"]
theorem scBn : FnScope nBn ["feed", "value"] (defScope sBent) := ⟨rfl, rfl, rfl, by decide +kernel, rfl, by decide +kernel, by decide +kernel⟩
theorem ok_bent {f fT fK fB : Addr} {fd fdT fdK fdB : FuncData} (F : Fun K "_law_bent" "_law_bent" sBent f fd) (T : Txt K mg) (ml : mg "list" = none) (GT : FnOk P w K mg base CX0 1 fT fdT ["feed", "size"] spTakeL) (mT : mg "_law_take" = some (.ref fT)) (kT : PySem.W.keepIn K (.ref fT) = true) (bT : Binds K fdT ["feed", "size"] [])
    (GK : FnOk P w K mg base CX0 2 fK fdK ["feed", "choices"] spPick) (mK : mg "_law_pick" = some (.ref fK)) (kK : PySem.W.keepIn K (.ref fK) = true) (bK : Binds K fdK ["feed", "choices"] [])
    (GB : FnOk P w K mg base CX0 3 fB fdB ["feed", "value"] spBentT) (mB : mg "_law_bent_tuple" = some (.ref fB)) (kB : PySem.W.keepIn K (.ref fB) = true) (bB : Binds K fdB ["feed", "value"] []) :
    FnOk P w K mg base CX0 4 f fd ["feed", "value"] spBent := by
  refine F.ok scBn (fun vs H Q E h => ?_) (fun cdv A outer s H vs Q E hr h => ?_)
  · obtain ⟨a, v, ins, outs, prof, rfl, _⟩ := h
    rfl
  obtain ⟨a, v, ins, outs, prof, rfl, ha, ⟨i, o, p, as, hv, hi, ho, hp, hst⟩, mk, k⟩ := h
  have hr1 := hr.mono (show 1 ≤ 3 by decide)
  have hr2 := hr.mono (show 2 ≤ 3 by decide)
  have hr3 := hr
  have hu := hr.units
  refine ⟨_, (pss_cons (ps_set (i := 2) scBn.nd rfl (.inl rfl) (pe_callTy call_list_of (by rfl) ml (by decide +kernel) (pa_cons (pv 1) pa_nil)))
    (pss_cons (ps_set (i := 3) scBn.nd rfl (.inl rfl) (pe_call GT hr1 rfl mT kT bT .nil pass0 (pa_cons (pv 0) (pa_cons pe_int pa_nil))))
    (pss_cons (ps_if (PW.pt (pw_and (pt_cmpR op_lt (pv 3) pe_int (nomark _)) (pw_and1 (pt_val (pe_callB (id := "isinstance") call_isi (by rfl) T.is_ (by decide +kernel) (pa_cons (pe_ix (show IxR _ (rIxL K) from ix_list) (pv 2) (pv 3) (fun _ _ => rfl)) (pa_cons (pe_bltn (v := .ty "tuple") rfl T.zt PyProof.Rows.Boot.«tuple» rfl) pa_nil))))))) (pss_one (ps_asg (pe_call GB hr3 rfl mB kB bB .nil pass0 (pa_cons (pv 0) (pa_cons (pe_ix (show IxR _ (rIxL K) from ix_list) (pv 2) (pv 3) (fun _ _ => rfl)) pa_nil))) (pg_sub (pv 2) (pv 3) set_list))) (pss_one (ps_if (PW.pt (pw_and (pt_cmpR op_eq (pv 3) pe_int (nomark _)) (pw_and (pt_val (pe_callB (id := "isinstance") call_isi (by rfl) T.is_ (by decide +kernel) (pa_cons (pe_ix (show IxR _ (rIxL K) from ix_list) (pv 2) pe_int (fun _ _ => rfl)) (pa_cons (pe_bltn (v := .ty "tuple") rfl T.zt PyProof.Rows.Boot.«tuple» rfl) pa_nil)))) (pw_and1 (pt_cmpR (op_neD hu) (pe_ix (show IxR _ (rIxL K) from ix_list) (pv 2) pe_int (fun _ _ => rfl)) (pe_tup pa_nil) (nomark _)))))) (pss_cons (ps_set (i := 4) scBn.nd rfl (.inl rfl) (pe_call GT hr1 rfl mT kT bT .nil pass0 (pa_cons (pv 0) (pa_cons (pe_callB call_len_seq (by rfl) T.zl PySem.boot_len (pa_cons (pe_ix (show IxR _ (rIxL K) from ix_list) (pv 2) pe_int (fun _ _ => rfl)) pa_nil)) pa_nil))))
 (pss_cons (ps_set (i := 5) scBn.nd rfl (.inl rfl) (pe_callTy call_list_of (by rfl) ml (by decide +kernel) (pa_cons (pe_ix (show IxR _ (rIxT K) from ix_tup) (pe_ix (show IxR _ (rIxL K) from ix_list) (pv 2) pe_int (fun _ _ => rfl)) (pv 4) (fun _ _ => rfl)) pa_nil)))
 (pss_cons (ps_set (i := 6) scBn.nd rfl (.inl rfl) (pe_call GT hr1 rfl mT kT bT .nil pass0 (pa_cons (pv 0) (pa_cons pe_int pa_nil))))
 (pss_join (ps_if (pt_cmpR op_lt (pv 6) pe_int (nomark _)) (pss_one (ps_asg (pe_call GB hr3 rfl mB kB bB .nil pass0 (pa_cons (pv 0) (pa_cons (pe_ix (show IxR _ (rIxL K) from ix_list) (pv 5) (pv 6) (fun _ _ => rfl)) pa_nil))) (pg_sub (pv 5) (pv 6) set_list))) pss_nil)
 (pss_cons (ps_set (i := 5) scBn.nd rfl (.inl rfl) (pe_callTy (show CallR _ (.type "tuple") (rTupL K) from call_tupL) (by rfl) T.zt (by decide +kernel) (pa_cons (pv 5) pa_nil)))
 (pss_join (ps_if (pt_cmpR op_eq (pv 6) pe_int (nomark _)) (pss_one (ps_set (i := 5) scBn.nd rfl (.inl rfl) (pe_call GK hr2 rfl mK kK bK .nil pass0 (pa_cons (pv 0) (pa_cons (pe_lst (pa_cons (pe_op (show OpR _ (binaryOp .Add) (rCatF K) from op_catF) (pv 5) (pe_tupF (pa_cons pe_int pa_nil))) (pa_cons (pe_callTy (show CallR _ (.type "list") (rListN K) from call_listN) (by rfl) ml (by decide +kernel) (pa_cons (pv 5) pa_nil)) (pa_cons (pe_slice (show SlR _ (rSlF K) from sl_tupF) (pv 5) po_none (po_some pe_int)) (pa_cons (pe_op (show OpR _ (binaryOp .Add) (rCatF K) from op_catF) (pv 5) (pv 5)) pa_nil))))) pa_nil))))) pss_nil)
 (pss_one (ps_asg (pe_op (show OpR _ (binaryOp .Add) (rCatF K) from op_catF) (pe_op (show OpR _ (binaryOp .Add) (rCatF K) from op_catF) (pe_slice (show SlR _ (rSlF K) from sl_tupF) (pe_ix (show IxR _ (rIxL K) from ix_list) (pv 2) pe_int (fun _ _ => rfl)) po_none (po_some (pv 4))) (pe_tupF (pa_cons (pv 5) pa_nil))) (pe_slice (show SlR _ (rSlF K) from sl_tupF) (pe_ix (show IxR _ (rIxL K) from ix_list) (pv 2) pe_int (fun _ _ => rfl)) (po_some (pe_op op_add (pv 4) pe_int)) po_none)) (pg_sub (pv 2) pe_int set_list))))))))) (pss_one (ps_ret (pe_call GB hr3 rfl mB kB bB .nil pass0 (pa_cons (pv 0) (pa_cons (pe_callTy (show CallR _ (.type "tuple") (rTupL K) from call_tupL) (by rfl) T.zt (by decide +kernel) (pa_cons (pv 2) pa_nil)) pa_nil))))))))
    (pss_one (ps_ret (pe_callTy (show CallR _ (.type "tuple") (rTupL K) from call_tupL) (by rfl) T.zt (by decide +kernel) (pa_cons (pv 2) pa_nil))))))), ?_⟩
  -- bent
  have hil := mk.il
  have hol := mk.ol
  have hpl := mk.pl
  refine ⟨_, rfl, v, _, rfl, .inr hv.sq, fun L hL => ?_⟩
  have t1 := upd_new (o := HO.lst [V.ref i, V.ref o, V.ref p]) hL
  have gL : (upd H L (.lst [V.ref i, V.ref o, V.ref p])) L = some (.lst [V.ref i, V.ref o, V.ref p]) := upd_same
  have naL := ha.ne hL
  generalize upd H L (HO.lst [V.ref i, V.ref o, V.ref p]) = H1 at t1 gL ⊢
  have f1 := ha.same t1
  refine ⟨_, rfl, a, 5, rfl, f1, by decide, by decide, fun r H2 x2 f2 r0 r1 => ?_⟩
  have sX2 : SameX a H H2 := (SameX.of t1).trans x2
  have gL2 := x2 _ _ naL.symm gL
  have F2 : Fn H2 a [a, L] := ⟨f2, fun b hb => by
    simp only [List.mem_cons, List.not_mem_nil, or_false] at hb
    rcases hb with rfl | rfl
    · exact f2.is
    · exact ⟨_, gL2⟩, List.mem_cons_self⟩
  have sF2 : SameF H H2 := (SameF.of t1).trans (.X x2 f1)
  have i2 := ixT_F sF2 hi
  have o2 := ixT_F sF2 ho
  have p2 := ixT_F sF2 hp
  have st2 := hst.F sF2
  have qi : Dq [a, L] H2 (.ref i) (.tuple (ins.map PyData.str)) := dq_tup F2.ls i2 (dq_strs _)
  have qo : Dq [a, L] H2 (.ref o) (.tuple (outs.map PyData.str)) := dq_tup F2.ls o2 (dq_strs _)
  have qp : Dq [a, L] H2 (.ref p) (.tuple (prof.map fncD)) := dq_tup F2.ls p2 (dq_steps F2.ls _ _ st2)
  have qAll : DqAll [a, L] H2 [V.ref i, V.ref o, V.ref p] [.tuple (ins.map PyData.str), .tuple (outs.map PyData.str), .tuple (prof.map fncD)] := .cons qi (.cons qo (.cons qp .nil))
  have okAll : ∀ d ∈ [PyData.tuple (ins.map PyData.str), .tuple (outs.map PyData.str), .tuple (prof.map fncD)], Ok 3 d := fun d hd => by
    simp only [List.mem_cons, List.not_mem_nil, or_false] at hd
    rcases hd with rfl | rfl | rfl
    · exact ok_strs (by omega) mk.i1
    · exact ok_strs (by omega) mk.o1
    · exact ok_tupN (by rw [List.length_map]; omega) mk.okp
  have item : ∀ (j : Nat) (x : V), [V.ref i, V.ref o, V.ref p][j]? = some x → ∃ xa es, x = .ref xa ∧ Dq [a, L] H2 (.ref xa) (.tuple es) ∧ es.length ≤ 8 ∧ ∀ e ∈ es, Ok 2 e := fun j x hx => by
    match j, hx with
    | 0, hx => cases hx; exact ⟨i, _, rfl, qi, by rw [List.length_map]; exact hil, fun e he => by
        obtain ⟨y, hy, rfl⟩ := List.mem_map.mp he
        exact ok_nm (mk.i1 y hy)⟩
    | 1, hx => cases hx; exact ⟨o, _, rfl, qo, by rw [List.length_map]; exact hol, fun e he => by
        obtain ⟨y, hy, rfl⟩ := List.mem_map.mp he
        exact ok_nm (mk.o1 y hy)⟩
    | 2, hx => cases hx; exact ⟨p, _, rfl, qp, by rw [List.length_map]; exact hpl, mk.okp⟩
  -- behind a change of one part
  have fin : ∀ (j : Nat) (r' : V) (D' : PyData) (H' : Hp) (N : List Addr), L ∈ N → SameX a H H' → Fd H' a → DqAll N H' [V.ref i, V.ref o, V.ref p] [.tuple (ins.map PyData.str), .tuple (outs.map PyData.str), .tuple (prof.map fncD)] → Ls H' N → Dq N H' r' D' → Ok 3 D' → ∀ (t : Addr) (H2' : Hp), Same (upd H' L (.lst ([V.ref i, V.ref o, V.ref p].set j r'))) H2' → IxT H2' t ([V.ref i, V.ref o, V.ref p].set j r') → Q (.ref t) H2' := fun j r' D' H' N hLN sX' f' qa ls' q' ok' t H2' s' i' => by
    have sN : SameN N H' (upd H' L (.lst ([V.ref i, V.ref o, V.ref p].set j r'))) := fun b u nb e => by
      rw [upd_ne fun z : b = L => nb (by rw [z]; exact hLN)]
      exact e
    have ls2 : Ls (upd H' L (.lst ([V.ref i, V.ref o, V.ref p].set j r'))) N := fun b hb => by
      by_cases e : b = L
      · rw [e]
        exact ⟨_, upd_same⟩
      · obtain ⟨l, h⟩ := ls' b hb
        exact ⟨l, (upd_ne e).trans h⟩
    have qs := dq_sames s' (dq_Xs sN _ _ (qa.st q' j))
    have ls3 : Ls H2' N := fun b hb => by
      obtain ⟨l, h⟩ := ls2 b hb
      exact ⟨l, s' _ _ h⟩
    refine k N _ _ H2' ?_ ?_ (dq_tup ls3 i' qs) (ok_tupN (by rw [List.length_set]; show 3 ≤ 12; decide) fun d hd => ?_)
    · intro b u nb e
      have e' := sX' b u nb e
      exact s' _ _ ((upd_ne (ne_of_none e hL)).trans e')
    · exact (f'.to fun u e => (upd_ne naL).trans e).same s'
    · rcases List.mem_or_eq_of_mem_set hd with hd | rfl
      · exact okAll d hd
      · exact ok'
  refine ⟨_, rfl, _, _, rfl, rfl, _, rfl, ?_⟩
  by_cases h3 : r < 3
  · obtain ⟨j, rfl⟩ : ∃ j : Nat, r = (j : Int) := ⟨r.toNat, by omega⟩
    have hj : j < [V.ref i, V.ref o, V.ref p].length := by show j < 3; omega
    obtain ⟨xa, es, ex, qx, hel, hek⟩ := item j _ (List.getElem?_eq_getElem hj)
    have gx : [V.ref i, V.ref o, V.ref p][j]? = some (.ref xa) := by rw [← ex]; exact List.getElem?_eq_getElem hj
    obtain ⟨ty, tyx, _, kt⟩ := dq_ty (K := K) qx
    have ixj : ixN 3 (j : Int) = some j := by
      unfold ixN
      rw [if_pos (by omega), if_pos (by omega), Int.toNat_natCast]
    rw [decide_eq_true h3]
    refine iteT ⟨_, rfl, _, rfl, L, _, _, .ref xa, rfl, rfl, .of gL2, at_of (j := j) rfl gx, .ref xa, _, ty, _, true, rfl, .ty "tuple", tyx, kt, _, rfl, iteT ?_⟩
    refine ⟨_, rfl, _, rfl, _, rfl, L, _, _, .ref xa, rfl, rfl, .of gL2, at_of (j := j) rfl gx, [a, L], a, xa, es, 2, rfl, F2, qx, hel, hek, fun r' D' H3 x3 f3 q3 ok3 => ?_⟩
    have gL3 := x3 _ _ naL.symm gL2
    refine ⟨_, rfl, _, rfl, L, _, _, j, rfl, rfl, gL3, ixj, _, rfl, L, _, rfl, .of upd_same, fun t H4 s4 i4 => ?_⟩
    exact fin j r' D' H3 [a, L] (by simp) (sX2.trans x3) f3 (qAll.mv List.mem_cons_self x3) (F2.X x3 f3).ls q3 ok3 t H4 s4 i4
  rw [decide_eq_false h3]
  -- else
  have other : ∀ σ : St, σ[0]? = some (some (.ref a)) → σ[2]? = some (some (.ref L)) → ∀ (H' : Hp) (D : Ends), Same H2 H' → D.rt = Q → tRet (tCall spBentT [] E0 (tCons (tVar 0) (tCons (tCB (rTupL K) (tCons (tVar 2) tNil)) tNil))) D σ H' := fun σ e0 e2 H' D s' eD => by
    have fn' := F2.same s'
    refine ⟨_, e0, _, e2, L, _, rfl, .of (s' _ _ gL2), fun t H3 s3 i3 => ?_⟩
    have fn3 := fn'.same s3
    refine ⟨[a, L], a, t, _, 3, rfl, fn3, dq_tup fn3.ls i3 (dq_sames (s'.trans s3) qAll), by show 3 ≤ 8; decide, okAll, fun r' D' H4 x4 f4 q4 ok4 => ?_⟩
    rw [eD]
    exact k [a, L] r' D' H4 (sX2.trans ((SameX.of (s'.trans s3)).trans x4)) f4 q4 ok4
  refine iteF ⟨_, rfl, rfl, _, rfl, ?_⟩
  by_cases h4 : r = 3
  case neg =>
    rw [decide_eq_false fun z => h4 (V.int.inj z)]
    exact iteF (other _ rfl rfl H2 _ (Same.refl _) rfl)
  rw [decide_eq_true (congrArg V.int h4)]
  obtain ⟨ty, tyx, _, kt⟩ := dq_ty (K := K) qp
  have g2 : [V.ref i, V.ref o, V.ref p][2]? = some (.ref p) := rfl
  refine iteT ⟨_, rfl, L, _, 2, .ref p, rfl, rfl, .of gL2, at_of (j := 2) rfl g2, .ref p, _, ty, _, true, rfl, .ty "tuple", tyx, kt, _, rfl, iteT ?_⟩
  refine ⟨_, rfl, L, _, 2, .ref p, rfl, rfl, .of gL2, at_of (j := 2) rfl g2, small1 (by show 0 ≤ 8; decide), fun tz htz => ?_⟩
  have s3 := upd_new (o := HO.tup []) htz
  have gz : (upd H2 tz (.tup [])) tz = some (.tup []) := upd_same
  generalize upd H2 tz (HO.tup []) = H3 at s3 gz ⊢
  have p3 := ixT_same s3 p2
  have st3 := st2.F (.of s3)
  refine ⟨.tuple (prof.map fncD), .tuple [], .tup p3.sq (dp_steps _ _ st3), .tup (.of gz) .nil, lay_prof mk, by decide +kernel, _, rfl, ?_⟩
  have ez : PyData.eqv (.tuple (prof.map fncD)) (.tuple []) = prof.isEmpty := by
    cases prof with
    | nil => rfl
    | cons _ _ => rfl
  rw [ez]
  cases hpe : prof.isEmpty with
  | true => exact iteF (other _ rfl rfl H3 _ s3 rfl)
  | false =>
  have hp0 : 0 < prof.length := by
    cases prof with
    | nil => cases hpe
    | cons _ r => exact Nat.succ_pos _
  have asl := st3.1
  have gL3 := s3 _ _ gL2
  have F3 := F2.same s3
  refine iteT ⟨_, rfl, _, rfl, L, _, 2, .ref p, rfl, rfl, .of gL3, at_of (j := 2) rfl g2, p, _, rfl, .inr p3.sq, a, _, rfl, F3.fd, by rw [List.length_map]; omega, by rw [List.length_map]; omega, fun r2 H4 x4 f4 r20 r21 => ?_⟩
  obtain ⟨kn, rfl⟩ : ∃ j : Nat, r2 = (j : Int) := ⟨r2.toNat, by omega⟩
  have hkn : kn < prof.length := by rw [List.length_map] at r21; omega
  have hka : kn < as.length := by omega
  have X4 : SameX a H2 H4 := (SameX.of s3).trans x4
  have gL4 := x4 _ _ naL.symm gL3
  have sF4 : SameF H3 H4 := .X x4 F3.fd
  have p4 := ixT_F sF4 p3
  have st4 := st3.F sF4
  have hs := List.getElem?_eq_getElem hkn
  have hq := List.getElem?_eq_getElem hka
  generalize prof[kn] = sf at hs
  generalize as[kn] = q at hq
  obtain ⟨x, y, hq1, hx1, hy1⟩ := st4.2 kn q sf hq hs
  obtain ⟨m1, m2, m3, m4⟩ := mk.p1 sf (List.mem_of_getElem? hs)
  refine ⟨_, rfl, L, _, 2, .ref p, rfl, rfl, .of gL4, at_of (j := 2) rfl g2, _, rfl, p, _, _, .ref q, rfl, rfl, p4.sq, at_of (j := kn) rfl (by rw [List.getElem?_map, hq]; rfl), q, _, rfl, .inr hq1.sq, fun Lf hLf => ?_⟩
  have s5 := upd_new (o := HO.lst [V.ref x, V.ref y]) hLf
  have gF : (upd H4 Lf (.lst [V.ref x, V.ref y])) Lf = some (.lst [V.ref x, V.ref y]) := upd_same
  have naF := f4.ne hLf
  have nLF : L ≠ Lf := ne_of_none gL4 hLf
  have hF0 : H Lf = none := by
    cases e : H Lf with
    | none => rfl
    | some u =>
      have z := X4 _ _ naF.symm (sX2 _ _ naF.symm e)
      rw [hLf] at z
      cases z
  generalize upd H4 Lf (HO.lst [V.ref x, V.ref y]) = H5 at s5 gF ⊢
  have f5 := f4.same s5
  refine ⟨_, rfl, a, 3, rfl, f5, by decide, by decide, fun sd H6 x6 f6 sd0 sd1 => ?_⟩
  have X6 : SameX a H2 H6 := X4.trans ((SameX.of s5).trans x6)
  have gL6 := x6 _ _ naL.symm (s5 _ _ gL4)
  have gF6 := x6 _ _ naF.symm gF
  have F6 : Fn H6 a [a, L, Lf] := ⟨f6, fun b hb => by
    simp only [List.mem_cons, List.not_mem_nil, or_false] at hb
    rcases hb with rfl | rfl | rfl
    · exact f6.is
    · exact ⟨_, gL6⟩
    · exact ⟨_, gF6⟩, List.mem_cons_self⟩
  have sF6 : SameF H4 H6 := (SameF.of s5).trans (.X x6 f5)
  have sF26 : SameF H2 H6 := (SameF.of s3).trans (sF4.trans sF6)
  have i6 := ixT_F sF26 i2
  have o6 := ixT_F sF26 o2
  have p6 := ixT_F sF26 p2
  have st6 := st2.F sF26
  have q6 : DqAll [a, L, Lf] H6 [V.ref i, V.ref o, V.ref p] [.tuple (ins.map PyData.str), .tuple (outs.map PyData.str), .tuple (prof.map fncD)] :=
    .cons (dq_tup F6.ls i6 (dq_strs _)) (.cons (dq_tup F6.ls o6 (dq_strs _)) (.cons (dq_tup F6.ls p6 (dq_steps F6.ls _ _ st6)) .nil))
  have qas : DqAll [a, L, Lf] H6 (as.map V.ref) (prof.map fncD) := dq_steps F6.ls _ _ st6
  have qx : Dq [a, L, Lf] H6 (.ref x) (.tuple (sf.1.map PyData.str)) := dq_tup F6.ls (ixT_F sF6 hx1) (dq_strs _)
  have qy : Dq [a, L, Lf] H6 (.ref y) (.tuple (sf.2.map PyData.str)) := dq_tup F6.ls (ixT_F sF6 hy1) (dq_strs _)
  have ox : ∀ e ∈ sf.1.map PyData.str, Ok 0 e := fun e he => by
    obtain ⟨z, hz, rfl⟩ := List.mem_map.mp he
    exact ok_nm (m3 z hz)
  have oy : ∀ e ∈ sf.2.map PyData.str, Ok 0 e := fun e he => by
    obtain ⟨z, hz, rfl⟩ := List.mem_map.mp he
    exact ok_nm (m4 z hz)
  have mF : Lf ∈ [a, L, Lf] := by simp
  -- what stays from here on
  have sN : ∀ {H' : Hp}, (∀ b u, b ≠ a → b ≠ Lf → H6 b = some u → H' b = some u) → SameN [a, L, Lf] H6 H' := fun h b u nb e => h b u (fun z => nb (by rw [z]; simp)) (fun z => nb (by rw [z]; simp)) e
  refine ⟨fun σ H' => σ = [some (.ref a), some (.ref v), some (.ref L), some (.int r), some (.int (kn : Int)), some (.ref Lf), some (.int sd)] ∧ (∀ b u, b ≠ a → b ≠ Lf → H6 b = some u → H' b = some u) ∧ Fd H' a ∧ ∃ y1 y2 d1 d2, H' Lf = some (.lst [y1, y2]) ∧ Dq [a, L, Lf] H' y1 d1 ∧ Dq [a, L, Lf] H' y2 d2 ∧ Ok 1 d1 ∧ Ok 1 d2, ?_, ?_⟩
  · refine ⟨_, rfl, _, _, rfl, rfl, _, rfl, ?_⟩
    by_cases hs2 : sd < 2
    · obtain ⟨j, rfl⟩ : ∃ j : Nat, sd = (j : Int) := ⟨sd.toNat, by omega⟩
      have ixj : ixN 2 (j : Int) = some j := by
        unfold ixN
        rw [if_pos (by omega), if_pos (by omega), Int.toNat_natCast]
      have putF : ∀ {H7 : Hp} (o : HO), SameX a H6 H7 → SameN [a, L, Lf] H7 (upd H7 Lf o) := fun o _ b u nb e => by
        rw [upd_ne fun z : b = Lf => nb (by rw [z]; exact mF)]
        exact e
      rw [decide_eq_true hs2]
      match j, (show j < 2 by omega), ixj with
      | 0, _, ixj =>
        refine iteT ⟨_, rfl, _, rfl, _, rfl, Lf, _, _, .ref x, rfl, rfl, .of gF6, at_of (j := 0) rfl rfl, [a, L, Lf], a, x, _, 0, rfl, F6, qx, by rw [List.length_map]; exact m1, ox, fun r' D' H7 x7 f7 q7 ok7 => ?_⟩
        have gF7 := x7 _ _ naF.symm gF6
        refine ⟨_, rfl, _, rfl, Lf, _, _, 0, rfl, rfl, gF7, ixj, rfl, fun b u na nf e => (upd_ne nf).trans (x7 _ _ na e), f7.to fun u e => (upd_ne naF).trans e, r', .ref y, D', .tuple (sf.2.map PyData.str), upd_same, dq_X (putF _ x7) _ _ q7, dq_X (putF _ x7) _ _ (qy.mv List.mem_cons_self x7), ok7, ok_strs (by omega) m4⟩
      | 1, _, ixj =>
        refine iteT ⟨_, rfl, _, rfl, _, rfl, Lf, _, _, .ref y, rfl, rfl, .of gF6, at_of (j := 1) rfl rfl, [a, L, Lf], a, y, _, 0, rfl, F6, qy, by rw [List.length_map]; exact m2, oy, fun r' D' H7 x7 f7 q7 ok7 => ?_⟩
        have gF7 := x7 _ _ naF.symm gF6
        refine ⟨_, rfl, _, rfl, Lf, _, _, 1, rfl, rfl, gF7, ixj, rfl, fun b u na nf e => (upd_ne nf).trans (x7 _ _ na e), f7.to fun u e => (upd_ne naF).trans e, .ref x, r', .tuple (sf.1.map PyData.str), D', upd_same, dq_X (putF _ x7) _ _ (qx.mv List.mem_cons_self x7), dq_X (putF _ x7) _ _ q7, ok_strs (by omega) m3, ok7⟩
    · rw [decide_eq_false hs2]
      exact iteF ⟨rfl, fun b u _ _ e => e, f6, .ref x, .ref y, _, _, gF6, qx, qy, ok_strs (by omega) m3, ok_strs (by omega) m4⟩
  rintro σ H7 ⟨rfl, k7, f7, y1, y2, d1, d2, gF7, qy1, qy2, oy1, oy2⟩
  have gL7 := k7 _ _ naL.symm nLF gL6
  have F7 : Fn H7 a [a, L, Lf] := ⟨f7, fun b hb => by
    simp only [List.mem_cons, List.not_mem_nil, or_false] at hb
    rcases hb with rfl | rfl | rfl
    · exact f7.is
    · exact ⟨_, gL7⟩
    · exact ⟨_, gF7⟩, List.mem_cons_self⟩
  have q7 := dq_Xs (sN k7) _ _ q6
  have qas7 := dq_Xs (sN k7) _ _ qas
  have p7 : IxT H7 p (as.map V.ref) := ixT_sameN (sN k7) (ixT_Ls F6.ls p6) p6
  -- a tuple of it
  refine ⟨_, rfl, Lf, _, rfl, .of gF7, fun tf H8 s8 i8 => ?_⟩
  have F8 := F7.same s8
  have q12 : DqAll [a, L, Lf] H8 [y1, y2] [d1, d2] := dq_sames s8 (.cons qy1 (.cons qy2 .nil))
  have o12 : ∀ e ∈ [d1, d2], Ok 1 e := fun e he => by
    simp only [List.mem_cons, List.not_mem_nil, or_false] at he
    rcases he with rfl | rfl
    · exact oy1
    · exact oy2
  have gL8 := s8 _ _ gL7
  refine ⟨fun σ H' => ∃ (fv : V) (D : PyData), σ = [some (.ref a), some (.ref v), some (.ref L), some (.int r), some (.int (kn : Int)), some fv, some (.int sd)] ∧ SameX a H8 H' ∧ Fd H' a ∧ Dq [a, L, Lf] H' fv D ∧ Ok 2 D, ?_, ?_⟩
  · refine ⟨_, rfl, rfl, _, rfl, ?_⟩
    by_cases hs2 : sd = 2
    · rw [decide_eq_true (congrArg V.int hs2)]
      refine iteT ⟨_, rfl, _, rfl, small1 (by show 1 ≤ 8; decide), fun t2 J1 j1 i1 => ⟨tf, t2, _, _, rfl, rfl, ixT_same j1 i8, i1, by show 3 ≤ sizeLine; exact big (by decide), fun c1 J2 j2 i2 => ⟨_, rfl, tf, _, rfl, (ixT_same (j1.trans j2) i8).sq, fun l hl nl => ?_⟩⟩⟩
      have j3 := upd_new (o := HO.lst [y1, y2]) hl
      have gl : (upd J2 l (.lst [y1, y2])) l = some (.lst [y1, y2]) := upd_same
      have F2' := F8.same (j1.trans j2)
      have nlN := F2'.ne hl
      generalize upd J2 l (HO.lst [y1, y2]) = J3 at j3 gl ⊢
      have j13 := j1.trans (j2.trans j3)
      refine ⟨_, rfl, _, rfl, tf, _, rfl, ixT_same j13 i8, fun c2 J4 j4 i4 => ⟨_, rfl, _, rfl, tf, tf, _, _, rfl, rfl, ixT_same (j13.trans j4) i8, ixT_same (j13.trans j4) i8, by show 4 ≤ sizeLine; exact big (by decide), fun c3 J5 j5 i5 => ⟨small1 (by show 4 ≤ 8; decide), fun l0 hl0 => ?_⟩⟩⟩
      have j6 := upd_new (o := HO.lst [V.ref c1, V.ref l, V.ref c2, V.ref c3]) hl0
      have j36 := j4.trans (j5.trans j6)
      have j16 := j13.trans j36
      have F5' := (F8.same (j13.trans (j4.trans j5)))
      have F6' := F8.same j16
      refine ⟨a, l0, _, rfl, F6'.fd, F5'.fd.ne hl0, upd_same, by show 0 < 4; decide, by show 4 ≤ 1000; decide, fun ix xx J7 x7' f7' hx => ?_⟩
      have c12 : cutV [y1, y2] none (some 1) = [y1] := cut_low [y1, y2] 1
      rw [c12] at i4
      have q6' := dq_sames j16 q12
      have go : ∀ {c : Addr} {ys : List V} {es : List PyData}, IxT (upd J5 l0 (.lst [V.ref c1, V.ref l, V.ref c2, V.ref c3])) c ys → DqAll [a, L, Lf] (upd J5 l0 (.lst [V.ref c1, V.ref l, V.ref c2, V.ref c3])) ys es → es.length ≤ 12 → (∀ e ∈ es, Ok 1 e) → Dq [a, L, Lf] J7 (.ref c) (.tuple es) ∧ Ok 2 (.tuple es) := fun ic qc lc oc =>
        ⟨(dq_tup F6'.ls ic qc).mv List.mem_cons_self x7', ok_tupN lc oc⟩
      have sX7 : SameX a H8 J7 := (SameX.of j16).trans x7'
      match ix, hx with
      | 0, hx =>
        cases hx
        obtain ⟨z1, z2⟩ := go (ixT_same (j3.trans j36) i2) (q6'.app (.cons (.int 5) .nil)) (by show 3 ≤ 12; decide) fun e he => by
          rcases List.mem_append.mp he with he | he
          · exact o12 e he
          · rw [List.mem_singleton.mp he]
            exact Ok.of0 (.inr (.inr (.inl ⟨5, rfl, by decide, by decide⟩)))
        exact ⟨_, _, rfl, sX7, f7', z1, z2⟩
      | 1, hx =>
        cases hx
        exact ⟨_, _, rfl, sX7, f7', Dq.mv List.mem_cons_self x7' (.lst nlN nl (j36 _ _ gl) q6'), ok_lstN (by show 2 ≤ 12; decide) o12⟩
      | 2, hx =>
        cases hx
        obtain ⟨z1, z2⟩ := go (ixT_same (j5.trans j6) i4) (q6'.tk 1) (by show 1 ≤ 12; decide) fun e he => o12 e (List.mem_of_mem_take he)
        exact ⟨_, _, rfl, sX7, f7', z1, z2⟩
      | 3, hx =>
        cases hx
        obtain ⟨z1, z2⟩ := go (ixT_same j6 i5) (q6'.app q6') (by show 4 ≤ 12; decide) fun e he => (List.mem_append.mp he).elim (o12 e) (o12 e)
        exact ⟨_, _, rfl, sX7, f7', z1, z2⟩
    · rw [decide_eq_false fun z => hs2 (V.int.inj z)]
      exact iteF ⟨_, _, rfl, SameX.refl a H8, F8.fd, dq_tup F8.ls i8 q12, ok_tupN (by show 2 ≤ 12; decide) o12⟩
  rintro σ H9 ⟨fv, D, rfl, x9, f9, q9, ok9⟩
  have F9 := F8.X x9 f9
  have gL9 := x9 _ _ naL.symm gL8
  have p8 := ixT_same s8 p7
  have p9 := ixT_sameN (.X (N := [a, L, Lf]) List.mem_cons_self x9) (ixT_Ls F8.ls p8) p8
  have qas9 := (dq_sames s8 qas7).mv List.mem_cons_self x9
  have q79 := (dq_sames s8 q7).mv List.mem_cons_self x9
  have okp := mk.okp
  refine ⟨_, rfl, L, _, 2, .ref p, rfl, rfl, .of gL9, at_of (j := 2) rfl g2, _, rfl, _, rfl, p, _, rfl, p9, fun c1 J1 j1 i1 => ⟨_, rfl, small1 (by show 1 ≤ 8; decide), fun c2 J2 j2 i2 => ⟨c1, c2, _, _, rfl, rfl, ixT_same j2 i1, i2, ?_, fun c3 J3 j3 i3 => ?_⟩⟩⟩
  · have z := cutV_length (as.map V.ref) none (some (kn : Int))
    rw [List.length_map] at z
    exact big (by show _ + 1 ≤ _; omega)
  have j13 := j1.trans (j2.trans j3)
  refine ⟨_, rfl, L, _, 2, .ref p, rfl, rfl, .of (j13 _ _ gL9), at_of (j := 2) rfl g2, _, rfl, _, _, rfl, rfl, _, rfl, p, _, rfl, ixT_same j13 p9, fun c4 J4 j4 i4 => ⟨c3, c4, _, _, rfl, rfl, ixT_same j4 i3, i4, ?_, fun c5 J5 j5 i5 => ?_⟩⟩
  · have z := cutV_length (as.map V.ref) none (some (kn : Int))
    have z2 := cutV_length (as.map V.ref) (some ((kn : Int) + 1)) none
    rw [List.length_map] at z z2
    exact big (by rw [List.length_append]; show _ + 1 + _ ≤ _; omega)
  rw [cut_low, show ((kn : Int) + 1) = ((kn + 1 : Nat) : Int) by omega, cut_high] at i5
  have j15 := j13.trans (j4.trans j5)
  have F15 := F9.same j15
  have qr := ((dq_sames j15 (qas9.tk kn)).app (.cons (dq_same j15 q9) .nil)).app (dq_sames j15 (qas9.dr (kn + 1)))
  have lr : (((prof.map fncD).take kn ++ [D]) ++ (prof.map fncD).drop (kn + 1)).length ≤ 12 := by
    rw [List.length_append, List.length_append, List.length_take, List.length_drop, List.length_map]
    show _ + 1 + _ ≤ 12
    omega
  have okr : ∀ e ∈ ((prof.map fncD).take kn ++ [D]) ++ (prof.map fncD).drop (kn + 1), Ok 2 e := fun e he => by
    rcases List.mem_append.mp he with he | he
    · rcases List.mem_append.mp he with he | he
      · exact okp e (List.mem_of_mem_take he)
      · rw [List.mem_singleton.mp he]
        exact ok9
    · exact okp e (List.mem_of_mem_drop he)
  have gL15 := j15 _ _ gL9
  have ix2 : ixN 3 2 = some 2 := by decide +kernel
  refine ⟨_, rfl, L, _, _, 2, rfl, rfl, gL15, ix2, _, rfl, L, _, rfl, .of upd_same, fun t H10 s10 i10 => ?_⟩
  refine fin 2 (.ref c5) _ J5 [a, L, Lf] (by simp) ?_ F15.fd (dq_sames j15 q79) F15.ls (dq_tup F15.ls i5 qr) (ok_tupN lr okr) t H10 s10 i10
  intro b u na e
  have nf : b ≠ Lf := ne_of_none e hF0
  exact j15 _ _ (x9 _ _ na (s8 _ _ (k7 _ _ na nf (X6 _ _ na (sX2 _ _ na e)))))
end
end K22
namespace K22
open PySem L2 Own StX ClX NdefX PyProof.Rows
/-! ### what is shown of a value is short -/
theorem sl (a b : Str) : (a ++ b).length = a.length + b.length := by rw [TL.len_tl, TL.len_tl a, TL.len_tl b, TL.tl_append, List.length_append]
theorem textFrom_le : ∀ (ts : List Str) (k : Nat) (acc : Str), (textFrom k acc ts).length ≤ acc.length + (ts.map fun t => t.length + 2).sum
  | [], k, acc => by show acc.length ≤ acc.length + 0; omega
  | t :: r, k, acc => by
    unfold textFrom
    rw [List.map_cons, List.sum_cons]
    have h2 : ((", " : Str)).length = 2 := by decide +kernel
    have z := textFrom_le r (k + 1) (acc ++ (if k > 0 then ", " else "" : String) ++ t)
    have e : (acc ++ ((if k > 0 then ", " else "" : String) : Str) ++ t).length ≤ acc.length + 2 + t.length := by
      rw [sl, sl]
      have : (((if k > 0 then ", " else "" : String) : Str)).length ≤ 2 := by
        split <;> decide +kernel
      omega
    omega
theorem jn_len : ∀ ts : List Str, (Str.join ", " ts).length ≤ (ts.map fun t => t.length + 2).sum
  | [] => Nat.zero_le _
  | t :: r => by
    have z := join_length_add (t :: r) (by simp)
    have p : piled (t :: r) = ((t :: r).map fun t => t.length + 2).sum := rfl
    omega
theorem tup_len (ts : List Str) : (tupleText ts).length ≤ (ts.map fun t => t.length + 2).sum + 3 := by
  unfold tupleText
  rw [sl, sl]
  have h1 := jn_len ts
  have h2 : (("(" : Str)).length = 1 := by decide +kernel
  have h3 : ((if ts.length == 1 then ",)" else ")" : String) : Str).length ≤ 2 := by
    split <;> decide +kernel
  omega
theorem lst_len (ts : List Str) : (listText ts).length ≤ (ts.map fun t => t.length + 2).sum + 3 := by
  unfold listText
  rw [sl]
  have h1 := textFrom_le ts 0 "["
  have h2 : (("[" : Str)).length = 1 := by decide +kernel
  have h3 : (("]" : Str)).length = 1 := by decide +kernel
  omega
theorem shownAll_map : ∀ l : List PyData, PyData.shownAll l = l.map PyData.shown
  | [] => by simp [PyData.shownAll]
  | d :: r => by simp [PyData.shownAll, shownAll_map r]
theorem sum_le {l : List PyData} {c n : Nat} (h : ∀ d ∈ l, d.shown.length ≤ c) (hn : l.length ≤ n) : ((l.map PyData.shown).map fun t => t.length + 2).sum ≤ n * (c + 2) := by
  have s : ∀ (m : List PyData) (k : Nat), m.length ≤ k → (∀ d ∈ m, d.shown.length ≤ c) → ((m.map PyData.shown).map fun t => t.length + 2).sum ≤ k * (c + 2) := fun m => by
    induction m with
    | nil => exact fun k _ _ => Nat.zero_le _
    | cons d r ih =>
      intro k hk hm
      cases k with
      | zero => cases hk
      | succ k =>
        have i := ih k (Nat.le_of_succ_le_succ hk) fun z hz => hm z (List.mem_cons_of_mem _ hz)
        have g := hm d List.mem_cons_self
        rw [List.map_cons, List.map_cons, List.sum_cons, Nat.succ_mul]
        omega
  exact s l n hn h
theorem shown_str {x : Str} {n : Nat} (h : x.length ≤ n) (a : Asc x) : (PyData.str x).shown.length ≤ 10 * n + 2 := by
  have e : (PyData.str x).shown = reprText x := by simp [PyData.shown]
  rw [e]
  have := PySem.StrLaws.reprText_len x fun c hc => Nat.lt_of_lt_of_le (a c hc) (by decide)
  omega
theorem showables {l : List PyData} (h : ∀ d ∈ l, d.showable = true) : PyData.showableAll l = true := by
  induction l with
  | nil => simp [PyData.showableAll]
  | cons d r ih => simp [PyData.showableAll, h d List.mem_cons_self, ih fun e he => h e (List.mem_cons_of_mem _ he)]
structure Sh (n c : Nat) (x : PyData) : Prop where
  s : x.showable = true
  d : x.depth ≤ n
  l : x.shown.length ≤ c
theorem Sh.mono {n m c e : Nat} {d : PyData} (h : Sh n c d) (a : n ≤ m) (b : c ≤ e) : Sh m e d := ⟨h.s, Nat.le_trans h.d a, Nat.le_trans h.l b⟩
theorem Sh.tup {l : List PyData} {k c n : Nat} (h : ∀ d ∈ l, Sh k c d) (hn : l.length ≤ n) : Sh (k + 1) (n * (c + 2) + 3) (.tuple l) := by
  refine ⟨by simp only [PyData.showable]; exact showables fun d hd => (h d hd).s, ?_, ?_⟩
  · have := dep_all fun d hd => (h d hd).d
    simp only [PyData.depth]
    omega
  · have q := tup_len (PyData.shownAll l)
    have z := sum_le (fun d hd => (h d hd).l) hn
    have e : (PyData.tuple l).shown = tupleText (PyData.shownAll l) := by simp [PyData.shown]
    rw [e]
    rw [shownAll_map] at q ⊢
    omega
theorem Sh.lst {l : List PyData} {k c n : Nat} (h : ∀ d ∈ l, Sh k c d) (hn : l.length ≤ n) : Sh (k + 1) (n * (c + 2) + 3) (.list l) := by
  refine ⟨by simp only [PyData.showable]; exact showables fun d hd => (h d hd).s, ?_, ?_⟩
  · have := dep_all fun d hd => (h d hd).d
    simp only [PyData.depth]
    omega
  · have q := lst_len (PyData.shownAll l)
    have z := sum_le (fun d hd => (h d hd).l) hn
    have e : (PyData.list l).shown = listText (PyData.shownAll l) := by simp [PyData.shown]
    rw [e]
    rw [shownAll_map] at q ⊢
    omega
def shB (d : PyData) : Bool := d.showable && decide (d.depth ≤ 3) && decide (d.shown.length ≤ 100)
theorem sh_b {d : PyData} (h : shB d = true) : Sh 3 100 d := by
  unfold shB at h
  rw [Bool.and_eq_true, Bool.and_eq_true, decide_eq_true_eq, decide_eq_true_eq] at h
  exact ⟨h.1.1, h.1.2, h.2⟩
theorem atom_sh {d : PyData} (h : Atom d) : Sh 3 100 d := by
  rcases h with rfl | ⟨b, rfl⟩ | ⟨i, rfl, h0, h1⟩ | ⟨x, rfl, h1, h2⟩ | rfl | rfl | rfl | rfl | rfl | rfl | rfl | rfl | rfl
  · exact sh_b (by decide +kernel)
  · cases b <;> exact sh_b (by decide +kernel)
  · obtain ⟨n, rfl⟩ : ∃ n : Nat, i = (n : Int) := ⟨i.toNat, by omega⟩
    have hn : n < 10 := by omega
    have : ∀ n : Nat, n < 10 → shB (.int ((n : Nat) : Int)) = true := by decide +kernel
    exact sh_b (this n hn)
  · refine ⟨by simp [PyData.showable], by simp [PyData.depth], ?_⟩
    have := shown_str h1 h2
    omega
  all_goals exact sh_b (by decide +kernel)
def bnd : Nat → Nat
  | 0 => 100
  | k + 1 => 12 * (bnd k + 2) + 3
theorem bnd_up (k : Nat) : bnd k ≤ bnd (k + 1) := by
  show bnd k ≤ 12 * (bnd k + 2) + 3
  omega
theorem ok_sh : ∀ {k : Nat} {d : PyData}, Ok k d → Sh (k + 3) (bnd k) d
  | 0, _, h => atom_sh h
  | k + 1, d, h => by
    rcases h with h | ⟨es, rfl | rfl, hl, he⟩
    · exact (ok_sh h).mono (by omega) (bnd_up k)
    · exact (Sh.tup (fun e h => ok_sh (he e h)) hl).mono (by omega) (Nat.le_refl _)
    · exact (Sh.lst (fun e h => ok_sh (he e h)) hl).mono (by omega) (Nat.le_refl _)
theorem ok4_sh {d : PyData} (h : Ok 4 d) : d.showable = true ∧ d.depth ≤ 60 ∧ d.shown.length ≤ sizeLine := by
  have z := ok_sh h
  refine ⟨z.s, Nat.le_trans z.d (by decide), Nat.le_trans z.l ?_⟩
  rw [sizeLine_eq]
  decide
/-- repr of any value -/
def rRepr : List V → Hp → VK → Prop := fun xs H Q => ∃ (N : List Addr) (v : V) (d : PyData), xs = [v] ∧ Dq N H v d ∧ d.showable = true ∧ d.depth ≤ 60 ∧ d.shown.length ≤ sizeLine ∧ Q (.str d.shown) H
theorem call_reprV {X : Cx} (hg : X.A.guards = some []) (hu : X.A.units + 64 < cLine) : CallR X (.builtin "repr") rRepr := by
  intro pins s σ H xs us Q I r h
  obtain ⟨N, v, d, rfl, hd, hs, h60, hz, q⟩ := h
  obtain ⟨u, rfl, ru⟩ := vals1 r
  cases hd with
  | non =>
    cases ru
    have e : PyData.none.shown = "None" := by simp [PyData.shown]
    rw [e] at q
    exact PySem.P.repr_of_none ⟨.str _, H, I.tok _, ⟨_, rfl⟩, q⟩
  | bl b =>
    cases ru
    have e : (PyData.bool b).shown = (if b then "True" else "False" : Str) := by simp [PyData.shown]
    rw [e] at q
    refine PySem.P.repr_of_bool ⟨.str _, H, I.tok _, ⟨_, rfl⟩, ?_⟩
    cases b <;> exact q
  | int i =>
    obtain ⟨t, rfl⟩ := ru
    have e : (PyData.int i).shown = toString i := by simp [PyData.shown]
    rw [e] at q
    have hs : i.natAbs.log2 < 1920 := by simpa [PyData.showable] using hs
    exact PySem.P.repr_of_int hs ⟨.str _, H, I.tok _, ⟨_, rfl⟩, q⟩
  | str x =>
    obtain ⟨t, rfl⟩ := ru
    have e : (PyData.str x).shown = reprText x := by simp [PyData.shown]
    rw [e] at q hz
    exact PySem.P.repr_of_str ⟨.str _, H, I.tok _, ⟨_, rfl⟩, q⟩ hz
  | lst a b c d => exact call_reprQ hg hu pins s σ H _ _ Q I r ⟨N, _, _, rfl, .lst a b c d, hs, h60, hz, q⟩
  | tup a b c => exact call_reprQ hg hu pins s σ H _ _ Q I r ⟨N, _, _, rfl, .tup a b c, hs, h60, hz, q⟩
  | dic a b c => exact call_reprQ hg hu pins s σ H _ _ Q I r ⟨N, _, _, rfl, .dic a b c, hs, h60, hz, q⟩
end K22
namespace K22
open PySem L2 Own StX ClX NdefX
def letS : Str := "abcdefghijklmnopqrstuvwxyz"
def FS (m : Nat) : List Str := signsOf (cutS letS none (some (m : Int)))
def SS (n : Nat) : List Str := signsOf (cutS letS (some 10) (some (10 + (n : Int))))
def bD (m n r : Nat) : PyData := madeD (FS m) (SS n) ((SS n).map fun y => ([y], (FS m).take r))
def prs : List (Nat × Nat) := [(8, 8), (9, 1), (1, 9), (8, 0), (0, 8), (9, 0), (0, 9), (0, 0)]
theorem chk : ∀ pr ∈ prs, ∀ r, r < pr.1 + 1 → ifOk (bD pr.1 pr.2 r) = decide (max pr.1 pr.2 < 9) := by decide +kernel
theorem chk2 : ∀ pr ∈ prs, (FS pr.1).length = pr.1 ∧ (SS pr.2).length = pr.2 ∧ pr.1 ≤ 9 ∧ pr.2 ≤ 9 ∧ (FS pr.1).all nm1b = true ∧ (SS pr.2).all nm1b = true := by decide +kernel
theorem ne_bl {x y : Bool} (h : x = y) {A B : Prop} (q : B) : if (!decide (V.bl x = V.bl y)) = true then A else B := by
  rw [decide_eq_true (congrArg V.bl h)]
  exact iteF q
def spBounds : Sp := fun vs H Q _ => ∃ a : Addr, vs = [.ref a] ∧ Fd H a ∧ ∀ H', SameX a H H' → Fd H' a → Q (.bl true) H'
section
variable {P : Program} {w : World} {K : PySem.W.Frag} {mg : Str → Option Value} {base : Heap}
abbrev nBd : List Str := ["feed", "letters", "inputs", "outputs", "first", "second", "needs", "value", "found", "one"]
theorem scBd : FnScope nBd ["feed"] (defScope sBounds) := ⟨rfl, rfl, rfl, by decide +kernel, rfl, by decide +kernel, by decide +kernel⟩
theorem ok_bounds {f fT fI : Addr} {fd fdT fdI : FuncData} (F : Fun K "_law_bounds_are_right" "_law_bounds_are_right" sBounds f fd) (T : Txt K mg) (zb : mg "bool" = none) (zmx : mg "max" = none) (GT : FnOk P w K mg base CX0 1 fT fdT ["feed", "size"] spTakeL) (mT : mg "_law_take" = some (.ref fT)) (kT : PySem.W.keepIn K (.ref fT) = true) (bT : Binds K fdT ["feed", "size"] [])
    (GI : FnOk P w K mg base CX0 3 fI fdI ["value"] spIface) (mI : mg "is_interface" = some (.ref fI)) (kI : PySem.W.keepIn K (.ref fI) = true) (bI : Binds K fdI ["value"] []) :
    FnOk P w K mg base CX0 4 f fd ["feed"] spBounds := by
  refine F.ok scBd (fun vs H Q E h => ?_) (fun cdv A outer s H vs Q E hr h => ?_)
  · obtain ⟨a, rfl, _⟩ := h
    rfl
  obtain ⟨a, rfl, ha, k⟩ := h
  have hr1 := hr.mono (show 1 ≤ 3 by decide)
  refine ⟨_, (pss_cons (ps_set (i := 1) scBd.nd rfl (.inl rfl) pe_str)
    (pss_cons (ps_for PassesOwn.never rfl (pi_list (pe_lst (pa_cons (pe_tup (pa_cons pe_int (pa_cons pe_int pa_nil))) (pa_cons (pe_tup (pa_cons pe_int (pa_cons pe_int pa_nil))) (pa_cons (pe_tup (pa_cons pe_int (pa_cons pe_int pa_nil))) (pa_cons (pe_tup (pa_cons pe_int (pa_cons pe_int pa_nil))) (pa_cons (pe_tup (pa_cons pe_int (pa_cons pe_int pa_nil))) (pa_cons (pe_tup (pa_cons pe_int (pa_cons pe_int pa_nil))) (pa_cons (pe_tup (pa_cons pe_int (pa_cons pe_int pa_nil))) (pa_cons (pe_tup (pa_cons pe_int (pa_cons pe_int pa_nil))) pa_nil)))))))))) (pg_tup (by rfl) (pgs_cons (pg_name (i := 2) scBd.nd rfl (.inl rfl)) (pgs_cons (pg_name (i := 3) scBd.nd rfl (.inl rfl)) pgs_nil)))
      (pss_cons (ps_par (i := 4) (j := 5) rfl scBd.nd rfl rfl (by decide) rfl rfl (pa_cons (pe_callTy (show CallR _ (.type "tuple") rTupS from call_tupS rfl) (by rfl) T.zt (by decide +kernel) (pa_cons (pe_slice sl_str (pv 1) po_none (po_some (pv 2))) pa_nil)) (pa_cons (pe_callTy (show CallR _ (.type "tuple") rTupS from call_tupS rfl) (by rfl) T.zt (by decide +kernel) (pa_cons (pe_slice sl_str (pv 1) (po_some pe_int) (po_some (pe_op op_add pe_int (pv 3)))) pa_nil)) pa_nil)) rfl)
    (pss_cons (ps_set (i := 6) scBd.nd rfl (.inr rfl) (pe_slice (show SlR _ (rSlF K) from sl_tupF) (pv 4) po_none (po_some (pe_call GT hr1 rfl mT kT bT .nil pass0 (pa_cons (pv 0) (pa_cons (pe_op op_add (pv 2) pe_int) pa_nil))))))
    (pss_cons (ps_set (i := 7) scBd.nd rfl (.inl rfl) (pe_tupF (pa_cons (pv 4) (pa_cons (pv 5) (pa_cons (pe_callTy (show CallR _ (.type "tuple") (rTupL K) from call_tupL) (by rfl) T.zt (by decide +kernel) (pa_cons (pe_lc (own := [("one", 9)]) (g := gName 9) rfl scBd.nd (pi_tup (pv 5)) (blkOk_by (own := [("one", 9)]) (N := nBd) (sc := defScope sBounds) (by decide +kernel)) (fun _ _ _ _ _ => pg_name (i := 9) scBd.nd rfl (Or.inl rfl)) (fun _ _ _ _ _ => pts_nil)
        (fun _ _ _ _ _ => (pe_tupF (pa_cons (pe_tupF (pa_cons (pv 9) pa_nil)) (pa_cons (pv 6) pa_nil))))) pa_nil)) pa_nil)))))
    (pss_cons (ps_set (i := 8) scBd.nd rfl (.inl rfl) (pe_call GI hr rfl mI kI bI .nil pass0 (pa_cons (pv 7) pa_nil)))
    (pss_one (ps_if (PW.pt (pw_or (pt_not (pt_val (pe_callB (id := "isinstance") call_isi (by rfl) T.is_ (by decide +kernel) (pa_cons (pv 8) (pa_cons (pe_bltn (v := .ty "bool") rfl zb PyProof.Rows.Boot.«bool» rfl) pa_nil))))) (pw_or1 (pt_cmpR op_ne (pv 8) (pe_cmpR op_lt (pe_callB (call_max2 rfl) (by rfl) zmx (by decide +kernel) (pa_cons (pv 2) (pa_cons (pv 3) pa_nil))) pe_int (nomark _)) (nomark _))))) (pss_one (ps_ret pe_bl)) pss_nil)))))))
    (pss_one (ps_ret pe_bl)))), ?_⟩
  -- bounds
  refine ⟨small1 (by show 2 ≤ 8; decide), fun t1 h1 => ⟨small1 (by show 2 ≤ 8; decide), fun t2 h2 => ⟨small1 (by show 2 ≤ 8; decide), fun t3 h3 => ⟨small1 (by show 2 ≤ 8; decide), fun t4 h4 => ⟨small1 (by show 2 ≤ 8; decide), fun t5 h5 => ⟨small1 (by show 2 ≤ 8; decide), fun t6 h6 => ⟨small1 (by show 2 ≤ 8; decide), fun t7 h7 => ⟨small1 (by show 2 ≤ 8; decide), fun t8 h8 => ⟨small1 (by show 8 ≤ 8; decide), fun L hL => ?_⟩⟩⟩⟩⟩⟩⟩⟩⟩
  have s1 := upd_new (o := HO.tup [V.int 8, V.int 8]) h1
  have g1 : (upd H t1 (HO.tup [V.int 8, V.int 8])) t1 = some (HO.tup [V.int 8, V.int 8]) := upd_same
  generalize upd H t1 (HO.tup [V.int 8, V.int 8]) = H1 at s1 g1 h2 h3 h4 h5 h6 h7 h8 hL ⊢
  have s2 := upd_new (o := HO.tup [V.int 9, V.int 1]) h2
  have g2 : (upd H1 t2 (HO.tup [V.int 9, V.int 1])) t2 = some (HO.tup [V.int 9, V.int 1]) := upd_same
  generalize upd H1 t2 (HO.tup [V.int 9, V.int 1]) = H2 at s2 g2 h3 h4 h5 h6 h7 h8 hL ⊢
  have s3 := upd_new (o := HO.tup [V.int 1, V.int 9]) h3
  have g3 : (upd H2 t3 (HO.tup [V.int 1, V.int 9])) t3 = some (HO.tup [V.int 1, V.int 9]) := upd_same
  generalize upd H2 t3 (HO.tup [V.int 1, V.int 9]) = H3 at s3 g3 h4 h5 h6 h7 h8 hL ⊢
  have s4 := upd_new (o := HO.tup [V.int 8, V.int 0]) h4
  have g4 : (upd H3 t4 (HO.tup [V.int 8, V.int 0])) t4 = some (HO.tup [V.int 8, V.int 0]) := upd_same
  generalize upd H3 t4 (HO.tup [V.int 8, V.int 0]) = H4 at s4 g4 h5 h6 h7 h8 hL ⊢
  have s5 := upd_new (o := HO.tup [V.int 0, V.int 8]) h5
  have g5 : (upd H4 t5 (HO.tup [V.int 0, V.int 8])) t5 = some (HO.tup [V.int 0, V.int 8]) := upd_same
  generalize upd H4 t5 (HO.tup [V.int 0, V.int 8]) = H5 at s5 g5 h6 h7 h8 hL ⊢
  have s6 := upd_new (o := HO.tup [V.int 9, V.int 0]) h6
  have g6 : (upd H5 t6 (HO.tup [V.int 9, V.int 0])) t6 = some (HO.tup [V.int 9, V.int 0]) := upd_same
  generalize upd H5 t6 (HO.tup [V.int 9, V.int 0]) = H6 at s6 g6 h7 h8 hL ⊢
  have s7 := upd_new (o := HO.tup [V.int 0, V.int 9]) h7
  have g7 : (upd H6 t7 (HO.tup [V.int 0, V.int 9])) t7 = some (HO.tup [V.int 0, V.int 9]) := upd_same
  generalize upd H6 t7 (HO.tup [V.int 0, V.int 9]) = H7 at s7 g7 h8 hL ⊢
  have s8 := upd_new (o := HO.tup [V.int 0, V.int 0]) h8
  have g8 : (upd H7 t8 (HO.tup [V.int 0, V.int 0])) t8 = some (HO.tup [V.int 0, V.int 0]) := upd_same
  generalize upd H7 t8 (HO.tup [V.int 0, V.int 0]) = H8 at s8 g8 hL ⊢
  have s9 := upd_new (o := HO.lst [V.ref t1, V.ref t2, V.ref t3, V.ref t4, V.ref t5, V.ref t6, V.ref t7, V.ref t8]) hL
  have gL : (upd H8 L (HO.lst [V.ref t1, V.ref t2, V.ref t3, V.ref t4, V.ref t5, V.ref t6, V.ref t7, V.ref t8])) L = some (HO.lst [V.ref t1, V.ref t2, V.ref t3, V.ref t4, V.ref t5, V.ref t6, V.ref t7, V.ref t8]) := upd_same
  generalize upd H8 L (HO.lst [V.ref t1, V.ref t2, V.ref t3, V.ref t4, V.ref t5, V.ref t6, V.ref t7, V.ref t8]) = H9 at s9 gL ⊢
  have c8 := s9
  have c7 := s8.trans c8
  have c6 := s7.trans c7
  have c5 := s6.trans c6
  have c4 := s5.trans c5
  have c3 := s4.trans c4
  have c2 := s3.trans c3
  have c1 := s2.trans c2
  have s0 := s1.trans c1
  have f9 := ha.same s0
  have naL := (ha.same (s1.trans (s2.trans (s3.trans (s4.trans (s5.trans (s6.trans (s7.trans s8)))))))).ne hL
  have item : ∀ (j : Nat) (x : V), [V.ref t1, V.ref t2, V.ref t3, V.ref t4, V.ref t5, V.ref t6, V.ref t7, V.ref t8][j]? = some x → ∃ (t : Addr) (m n : Nat), x = .ref t ∧ (m, n) ∈ prs ∧ H9 t = some (.tup [.int (m : Int), .int (n : Int)]) := fun j x hx => by
    match j, hx with
    | 0, hx => cases hx; exact ⟨t1, 8, 8, rfl, by decide, c1 _ _ g1⟩
    | 1, hx => cases hx; exact ⟨t2, 9, 1, rfl, by decide, c2 _ _ g2⟩
    | 2, hx => cases hx; exact ⟨t3, 1, 9, rfl, by decide, c3 _ _ g3⟩
    | 3, hx => cases hx; exact ⟨t4, 8, 0, rfl, by decide, c4 _ _ g4⟩
    | 4, hx => cases hx; exact ⟨t5, 0, 8, rfl, by decide, c5 _ _ g5⟩
    | 5, hx => cases hx; exact ⟨t6, 9, 0, rfl, by decide, c6 _ _ g6⟩
    | 6, hx => cases hx; exact ⟨t7, 0, 9, rfl, by decide, c7 _ _ g7⟩
    | 7, hx => cases hx; exact ⟨t8, 0, 0, rfl, by decide, c8 _ _ g8⟩
  have nat_ : ∀ {t : Addr} {m n : Int}, H9 t = some (.tup [.int m, .int n]) → t ≠ a := fun e z => by
    obtain ⟨l, h⟩ := f9.is
    rw [z, h] at e
    cases e
  refine ⟨L, rfl, ⟨_, .of gL⟩, for_list (K := K) (a := L) (xs := [V.ref t1, V.ref t2, V.ref t3, V.ref t4, V.ref t5, V.ref t6, V.ref t7, V.ref t8]) (fun j σ H' => ∃ (u2 u3 u4 u5 u6 u7 u8 : Option V), σ = [some (.ref a), some (.str letS), u2, u3, u4, u5, u6, u7, u8, none] ∧ SameX a H9 H' ∧ Fd H' a) ⟨_, _, _, _, _, _, _, rfl, SameX.refl a H9, f9⟩ (fun j σ H' _ q => by
      obtain ⟨_, _, _, _, _, _, _, _, x, _⟩ := q
      exact .of (x _ _ naL.symm gL)) ?turn ?done⟩
  case done =>
    rintro σ H' ⟨u2, u3, u4, u5, u6, u7, u8, rfl, x, f'⟩
    exact k H' ((SameX.of s0).trans x) f'
  rintro j x σ J1 hx ⟨u2, u3, u4, u5, u6, u7, u8, rfl, x1, f1⟩
  obtain ⟨t, m, n, rfl, hmn, ht⟩ := item j x hx
  have ht1 := x1 _ _ (nat_ ht) ht
  obtain ⟨lf, ls, lm, ln, nf, ns⟩ := chk2 (m, n) hmn
  simp only at lf ls lm ln nf ns
  refine ⟨t, _, rfl, .of ht1, rfl, _, _, rfl, _, _, rfl, rfl, ?_⟩
  refine ⟨_, rfl, _, rfl, _, rfl, _, rfl, big (by decide +kernel), _, rfl, Nat.le_trans (cutS_length letS none (some (m : Int))) (by decide +kernel), fun p J2 j2 i2 => ⟨_, rfl, _, rfl, _, rfl, _, _, rfl, rfl, _, rfl, _, rfl, big (by decide +kernel), _, rfl, Nat.le_trans (cutS_length letS (some 10) (some (10 + (n : Int)))) (by decide +kernel), fun q J3 j3 i3 => ?_⟩⟩
  have i2 : IxT J2 p ((FS m).map V.str) := i2
  have i3 : IxT J3 q ((SS n).map V.str) := i3
  have okF : ∀ x ∈ FS m, Nm1 x := fun x hx => nm1_of (List.all_eq_true.mp nf x hx)
  have okS : ∀ x ∈ SS n, Nm1 x := fun x hx => nm1_of (List.all_eq_true.mp ns x hx)
  have j23 := j2.trans j3
  have f3 := f1.same j23
  refine ⟨_, _, rfl, _, rfl, _, rfl, _, rfl, _, _, rfl, rfl, a, _, rfl, f3, by omega, by omega, fun r J4 x4 f4 r0 r1 => ⟨_, rfl, p, _, rfl, ixT_F (.X x4 f3) (ixT_same j3 i2), fun nd J5 j5 i5 => ?_⟩⟩
  obtain ⟨rn, rfl⟩ : ∃ j : Nat, r = (j : Int) := ⟨r.toNat, by omega⟩
  rw [cut_low, ← List.map_take] at i5
  have p5 := ixT_same j5 (ixT_F (.X x4 f3) (ixT_same j3 i2))
  have q5 := ixT_same j5 (ixT_F (.X x4 f3) i3)
  have f5 := f4.same j5
  refine ⟨_, rfl, _, rfl, _, rfl, q, rfl, ⟨_, q5.sq⟩, fun D hD => ?_⟩
  refine lc_tup (K := K) (a := q) (xs := (SS n).map V.str) (fun j H' => Same J5 H' ∧ ∃ as : List Addr, H' D = some (.lst (as.map V.ref)) ∧ StepsAt H' as (((SS n).take j).map fun y => ([y], (FS m).take rn))) ⟨upd_new hD, [], upd_same, .nil _⟩ (fun j H' _ z => (ixT_same z.1 q5).sq) ?_ ?_
  · rintro j v H6 hj ⟨s6, as, e6, k6⟩
    rw [List.getElem?_map] at hj
    obtain ⟨y, hy, rfl⟩ := Option.map_eq_some_iff.mp hj
    have hj9 : j < 9 := by
      have := (List.getElem?_eq_some_iff.mp hy).1
      omega
    refine ⟨rfl, _, rfl, small1 (by show 1 ≤ 8; decide), fun u1 H7 s7 i7 => ⟨_, rfl, small1 (by show 2 ≤ 8; decide), fun u2' H8 s8 i8 => ?_⟩⟩
    have s78 := s7.trans s8
    have e8 := s78 _ _ e6
    have w : StepAt H8 u2' ([y], (FS m).take rn) := ⟨u1, nd, i8, ixT_same s8 i7, ixT_same (s6.trans s78) i5⟩
    refine ⟨_, e8, lt1 ?_, same_put (s6.trans s78) hD, as ++ [u2'], by rw [upd_same, List.map_append]; rfl, ?_⟩
    · rw [List.length_map, k6.1, List.length_map, List.length_take]
      omega
    · rw [tk1 hy, List.map_append]
      exact ((k6.F (.of s78)).snoc w).F (.put e8)
  rintro H6 ⟨s6, as, e6, k6⟩
  rw [List.length_map, List.take_length] at k6
  refine ⟨D, _, rfl, .of e6, fun pr H7 s7 i7 => ⟨small1 (by show 3 ≤ 8; decide), fun v H8 s8 i8 => ?_⟩⟩
  have s68 := s6.trans (s7.trans s8)
  have f8 := f5.same s68
  have mA : MadeAt H8 v (FS m) (SS n) ((SS n).map fun y => ([y], (FS m).take rn)) := ⟨p, q, pr, as, i8, ixT_same s68 p5, ixT_same s68 q5, ixT_same s8 i7, k6.F (.of (s7.trans s8))⟩
  have dq := mA.dq (Fn.one f8).ls
  have ok4 : Ok 4 (bD m n rn) := ok_tupN (by show 3 ≤ 12; decide) fun e he => by
    simp only [List.mem_cons, List.not_mem_nil, or_false] at he
    rcases he with rfl | rfl | rfl
    · exact ok_strs (by omega) okF
    · exact ok_strs (by omega) okS
    · refine ok_tupN (by rw [List.length_map, List.length_map]; omega) fun e he => ?_
      obtain ⟨sf, hs, rfl⟩ := List.mem_map.mp he
      obtain ⟨y, hy, rfl⟩ := List.mem_map.mp hs
      refine ok_tupN (by show 2 ≤ 12; decide) fun e he => ?_
      simp only [List.mem_cons, List.not_mem_nil, or_false] at he
      rcases he with rfl | rfl
      · exact ok_strs (by show 1 ≤ 12; decide) fun x hx => by rw [List.mem_singleton.mp hx]; exact okS y hy
      · exact ok_strs (by rw [List.length_take]; omega) fun x hx => okF x (List.mem_of_mem_take hx)
  refine ⟨_, rfl, [a], .ref v, _, rfl, dq, ok4, fun H9' s9' => ?_⟩
  have good : ifOk (bD m n rn) = decide (max m n < 9) := chk (m, n) hmn rn (by omega)
  refine ⟨_, rfl, .bl _, _, .type "bool", _, true, rfl, .ty "bool", .base (.bl _), rfl, _, rfl, iteF ?_⟩
  refine ⟨_, rfl, _, rfl, _, rfl, _, _, rfl, _, _, rfl, rfl, rfl, _, rfl, ?_⟩
  have fx : SameX a J1 H9' := (SameX.of j23).trans (x4.trans (.of (j5.trans (s68.trans s9'))))
  have ff := f8.same s9'
  rw [show ifOk (madeD (FS m) (SS n) ((SS n).map fun y => ([y], (FS m).take rn))) = decide (max m n < 9) from good]
  have em : decide (max m n < 9) = decide ((if (n : Int) > (m : Int) then (n : Int) else (m : Int)) < 9) := decide_eq_decide.mpr (by split <;> omega)
  exact ne_bl em ⟨_, _, _, _, _, _, _, rfl, x1.trans fx, ff⟩
end
end K22
namespace K22
open PySem L2 Own StX ClX NdefX
def spLaw (K : PySem.W.Frag) : Sp := fun vs H Q _ => ∃ (a : Addr) (ns : List Int), vs = [.ref a] ∧ SqL K H a (ns.map V.int) ∧ ns.length ≤ 63 ∧ ∀ H', Q (.bl true) H'
theorem same_of {p : Addr} {H H1 H2 : Hp} (s : Same H H1) (x : SameX p H1 H2) (h : H p = none) : Same H H2 := fun b u e => x b u (ne_of_none e h) (s b u e)
theorem ne_V {x y : V} (h : x = y) {A B : Prop} (q : B) : if (!decide (x = y)) = true then A else B := by
  rw [decide_eq_true h]
  exact iteF q
section
variable {P : Program} {w : World} {K : PySem.W.Frag} {mg : Str → Option Value} {base : Heap}
abbrev nL : List Str := ["script", "k", "feed", "turn", "value", "before", "found"]
theorem scL : FnScope nL ["script"] (defScope sLaw) := ⟨rfl, rfl, rfl, by decide +kernel, rfl, by decide +kernel, by decide +kernel⟩
theorem ok_law {f fF fR fT fU fW fB fI fJ : Addr} {fd fdF fdR fdT fdU fdW fdB fdI fdJ : FuncData} (F : Fun K "law" "law" sLaw f fd) (T : Txt K mg) (zb : mg "bool" = none)
    (GF : FnOk P w K mg base CX0 1 fF fdF ["script", "k"] (spFeed K)) (mF : mg "_law_feed" = some (.ref fF)) (kF : PySem.W.keepIn K (.ref fF) = true) (bF : Binds K fdF ["script", "k"] [])
    (GR : FnOk P w K mg base CX0 4 fR fdR ["feed"] spBounds) (mR : mg "_law_bounds_are_right" = some (.ref fR)) (kR : PySem.W.keepIn K (.ref fR) = true) (bR : Binds K fdR ["feed"] [])
    (GT : FnOk P w K mg base CX0 1 fT fdT ["feed", "size"] spTakeL) (mT : mg "_law_take" = some (.ref fT)) (kT : PySem.W.keepIn K (.ref fT) = true) (bT : Binds K fdT ["feed", "size"] [])
    (GU : FnOk P w K mg base CX0 3 fU fdU ["feed"] spMade) (mU : mg "_law_made_up" = some (.ref fU)) (kU : PySem.W.keepIn K (.ref fU) = true) (bU : Binds K fdU ["feed"] [])
    (GW : FnOk P w K mg base CX0 2 fW fdW ["feed"] spMade) (mW : mg "_law_wide" = some (.ref fW)) (kW : PySem.W.keepIn K (.ref fW) = true) (bW : Binds K fdW ["feed"] [])
    (GB : FnOk P w K mg base CX0 4 fB fdB ["feed", "value"] spBent) (mB : mg "_law_bent" = some (.ref fB)) (kB : PySem.W.keepIn K (.ref fB) = true) (bB : Binds K fdB ["feed", "value"] [])
    (GI : FnOk P w K mg base CX0 3 fI fdI ["value"] spIface) (mI : mg "is_interface" = some (.ref fI)) (kI : PySem.W.keepIn K (.ref fI) = true) (bI : Binds K fdI ["value"] [])
    (GJ : FnOk P w K mg base CX0 3 fJ fdJ ["value"] spIface) (mJ : mg "_law_is_interface" = some (.ref fJ)) (kJ : PySem.W.keepIn K (.ref fJ) = true) (bJ : Binds K fdJ ["value"] [])
    (mmax : mg "max" = none) (mmin : mg "min" = none) (mrange : mg "range" = none) (mrepr : mg "repr" = none) : FnG P w K mg base CX0 5 f fd ["script"] (spLaw K) := by
  refine fun_okG F scL (fun vs H Q E h => ?_) (fun cdv A outer s H vs Q E hg hr h => ?_)
  · obtain ⟨a, ns, rfl, _⟩ := h
    rfl
  obtain ⟨a, ns, rfl, hS, hlen, k⟩ := h
  have hr1 := hr.mono (show 1 ≤ 4 by decide)
  have hr2 := hr.mono (show 2 ≤ 4 by decide)
  have hr3 := hr.mono (show 3 ≤ 4 by decide)
  have hr4 := hr
  have hu := hr.units
  refine ⟨_, (pss_cons (ps_for PassesOwn.never rfl (pi_range1 rfl mrange (pa_cons (pe_callB (call_max2 rfl) (by rfl) mmax (by decide +kernel) (pa_cons pe_int (pa_cons (pe_callB (call_min2 rfl) (by rfl) mmin (by decide +kernel) (pa_cons pe_int (pa_cons (pe_callB call_len_seq (by rfl) T.zl PySem.boot_len (pa_cons (pv 0) pa_nil)) pa_nil))) pa_nil))) pa_nil)) (pg_name (i := 1) scL.nd rfl (.inl rfl))
 (pss_cons (ps_set (i := 2) scL.nd rfl (.inl rfl) (pe_call GF hr1 rfl mF kF bF .nil pass0 (pa_cons (pv 0) (pa_cons (pv 1) pa_nil))))
    (pss_cons (ps_if (pt_not (pt_val (pe_call GR hr4 rfl mR kR bR .nil pass0 (pa_cons (pv 2) pa_nil)))) (pss_one (ps_ret pe_bl)) pss_nil)
    (pss_one (ps_for PassesOwn.never rfl (pi_range1 rfl mrange (pa_cons pe_int pa_nil)) (pg_name (i := 3) scL.nd rfl (.inl rfl))
 (pss_join (ps_set (i := 4) scL.nd rfl (.inl rfl) (pe_ifExp (pt_cmpR op_gt (pe_call GT hr1 rfl mT kT bT .nil pass0 (pa_cons (pv 2) (pa_cons pe_int pa_nil))) pe_int (nomark _)) (pe_call GU hr3 rfl mU kU bU .nil pass0 (pa_cons (pv 2) pa_nil)) (pe_call GW hr2 rfl mW kW bW .nil pass0 (pa_cons (pv 2) pa_nil))))
 (pss_join (ps_if (pt_cmpR op_gt (pv 3) pe_int (nomark _)) (pss_one (ps_set (i := 4) scL.nd rfl (.inl rfl) (pe_call GB hr4 rfl mB kB bB .nil pass0 (pa_cons (pv 2) (pa_cons (pv 4) pa_nil))))) pss_nil)
 (pss_cons (ps_set (i := 5) scL.nd rfl (.inl rfl) (pe_callB (show CallR _ (.builtin "repr") rRepr from call_reprV hg hu) (by rfl) mrepr (by decide +kernel) (pa_cons (pv 4) pa_nil)))
    (pss_cons (ps_set (i := 6) scL.nd rfl (.inl rfl) (pe_call GI hr3 rfl mI kI bI .nil pass0 (pa_cons (pv 4) pa_nil)))
    (pss_one (ps_if (PW.pt (pw_or (pt_not (pt_val (pe_callB (id := "isinstance") call_isi (by rfl) T.is_ (by decide +kernel) (pa_cons (pv 6) (pa_cons (pe_bltn (v := .ty "bool") rfl zb PyProof.Rows.Boot.«bool» rfl) pa_nil))))) (pw_or (pt_cmpR op_ne (pv 6) (pe_call GJ hr3 rfl mJ kJ bJ .nil pass0 (pa_cons (pv 4) pa_nil)) (nomark _)) (pw_or1 (pt_cmpR op_ne (pe_callB (show CallR _ (.builtin "repr") rRepr from call_reprV hg hu) (by rfl) mrepr (by decide +kernel) (pa_cons (pv 4) pa_nil)) (pv 5) (nomark _)))))) (pss_one (ps_ret pe_bl)) pss_nil)))))))))))
    (pss_one (ps_ret pe_bl))), ?_⟩
  -- law
  refine ⟨_, rfl, a, _, rfl, .inl hS, _, _, rfl, _, _, rfl, _, rfl, by split <;> split <;> omega, by split <;> split <;> omega, ?_⟩
  refine for_range (lo := 0) (fun i σ H1 => ∃ v1 v2 v3 v4 v5 v6, σ = [some (.ref a), v1, v2, v3, v4, v5, v6] ∧ Same H H1) ⟨_, _, _, _, _, _, rfl, Same.refl _⟩ ?turn1 ?done1
  case done1 =>
    rintro σ H1 ⟨v1, v2, v3, v4, v5, v6, rfl, s1⟩
    exact k H1
  rintro i σ H1 hi ⟨v1, v2, v3, v4, v5, v6, rfl, s1⟩
  have hi7 : i < 7 := by
    have hi := hi
    rw [List.length_map] at hi
    split at hi <;> split at hi <;> omega
  refine ⟨_, rfl, _, rfl, a, ns, _, rfl, s1.seq hS, by omega, by omega, by omega, fun p H2 s2' f2 hp => ?_⟩
  have s2 : Same H H2 := s1.trans s2'
  have hHp : H p = none := s1.free hp
  refine ⟨_, rfl, p, rfl, f2, fun H3 x3 f3 => ⟨_, rfl, iteF ?_⟩⟩
  have s3 := same_of s2 x3 hHp
  refine ⟨12, rfl, by decide, by decide, ?_⟩
  refine for_range (lo := 0) (n := 12) (fun m σ H' => ∃ (v3 v4 v5 v6 : Option V), σ = [some (.ref a), some (.int (0 + (i : Int))), some (.ref p), v3, v4, v5, v6] ∧ Same H H' ∧ Fd H' p) ⟨_, _, _, _, rfl, s3, f3⟩ ?turn2 ?done2
  case done2 =>
    rintro σ H' ⟨w3, w4, w5, w6, rfl, s', _⟩
    exact ⟨_, _, _, _, _, _, rfl, s'⟩
  rintro m σ H4 hm ⟨w3, w4, w5, w6, rfl, s4, f4⟩
  refine ⟨fun σ H' => ∃ (v : Addr) (ins outs : List Str) (prof : List Fnc), σ = [some (.ref a), some (.int (0 + (i : Int))), some (.ref p), some (.int (0 + (m : Int))), some (.ref v), w5, w6] ∧ SameX p H4 H' ∧ Fd H' p ∧ MadeAt H' v ins outs prof ∧ Made ins outs prof, ?_, ?_⟩
  · refine ⟨_, rfl, p, _, rfl, f4, by decide, by decide, fun r H5 x5 f5 r0 r1 => ⟨_, _, rfl, rfl, _, rfl, ?_⟩⟩
    by_cases hr0 : r > 0
    · rw [decide_eq_true hr0]
      exact iteT ⟨_, rfl, p, rfl, f5, fun v ins outs prof H6 x6 f6 mA mk => ⟨v, ins, outs, prof, rfl, x5.trans x6, f6, mA, mk⟩⟩
    · rw [decide_eq_false hr0]
      exact iteF ⟨_, rfl, p, rfl, f5, fun v ins outs prof H6 x6 f6 mA mk => ⟨v, ins, outs, prof, rfl, x5.trans x6, f6, mA, mk⟩⟩
  rintro σ H5 ⟨v, ins, outs, prof, rfl, x5, f5, mA, mk⟩
  refine ⟨fun σ H' => ∃ (N : List Addr) (x : V) (D : PyData), σ = [some (.ref a), some (.int (0 + (i : Int))), some (.ref p), some (.int (0 + (m : Int))), some x, w5, w6] ∧ SameX p H4 H' ∧ Fd H' p ∧ Dq N H' x D ∧ Ok 4 D, ?_, ?_⟩
  · refine ⟨_, rfl, _, _, rfl, rfl, _, rfl, ?_⟩
    by_cases hm2 : (0 + (m : Int)) > 2
    · rw [decide_eq_true hm2]
      exact iteT ⟨_, rfl, _, rfl, p, v, ins, outs, prof, rfl, f5, mA, mk, fun N x D H6 x6 f6 q6 ok6 => ⟨N, x, D, rfl, x5.trans x6, f6, q6, ok6⟩⟩
    · rw [decide_eq_false hm2]
      exact iteF ⟨[p], .ref v, _, rfl, x5, f5, mA.dq (Fn.one f5).ls, mk.ok⟩
  rintro σ H6 ⟨N, x, D, rfl, x6, f6, q6, ok6⟩
  obtain ⟨h1, h2, h3⟩ := ok4_sh ok6
  refine ⟨_, rfl, N, x, D, rfl, q6, h1, h2, h3, ?_⟩
  refine ⟨_, rfl, N, x, D, rfl, q6, ok6, fun H7 s7 => ?_⟩
  have q7 := dq_same s7 q6
  refine ⟨_, rfl, .bl _, _, .type "bool", _, true, rfl, .ty "bool", .base (.bl _), rfl, _, rfl, iteF ?_⟩
  refine ⟨_, rfl, _, rfl, N, x, D, rfl, q7, ok6, fun H8 s8 => ⟨rfl, _, rfl, ne_bl rfl ?_⟩⟩
  have q8 := dq_same s8 q7
  refine ⟨_, rfl, N, x, D, rfl, q8, h1, h2, h3, _, rfl, rfl, _, rfl, ne_V rfl ?_⟩
  have s78 := s7.trans s8
  exact ⟨_, _, _, _, rfl, (same_of s4 x6 hHp).trans s78, f6.same s78⟩
end
end K22
namespace K22
open PySem L2 Own StX ClX NdefX
theorem all_mk {w : World} {K : PySem.W.Frag} {h : Heap} {mg : Str → Option Value} {fa C : Addr} (X : K.In h) (G : h.Ns mainGlobals mg) (hfa : mg "law" = some (.ref fa))
    {fNA : Addr} {odNA anNA : Option Addr} {slNA : Array (Option Value)} {ocNA kVNA dcNA pmNA cdNA ctNA : Value} {fPN : Addr} {odPN anPN : Option Addr} {slPN : Array (Option Value)} {ocPN kVPN dcPN pmPN cdPN ctPN : Value} {fIF : Addr} {odIF anIF : Option Addr} {slIF : Array (Option Value)} {ocIF kVIF dcIF pmIF cdIF ctIF : Value} {fSF : Addr} {odSF anSF : Option Addr} {slSF : Array (Option Value)} {ocSF kVSF dcSF pmSF cdSF ctSF : Value} {fSE : Addr} {odSE anSE : Option Addr} {slSE : Array (Option Value)} {ocSE kVSE dcSE pmSE cdSE ctSE : Value} {tv8 : Tok} {tkL tkE : Tok} {dE : Addr} {nE : Nat} {ddE : Option Addr} {slE : Array (Option Value)} {tE1 tE2 tE3 tE4 : Tok} {fFE : Addr} {odFE anFE : Option Addr} {slFE : Array (Option Value)} {ocFE kVFE dcFE pmFE cdFE ctFE : Value} {fTK : Addr} {odTK anTK : Option Addr} {slTK : Array (Option Value)} {ocTK kVTK dcTK pmTK cdTK ctTK : Value} {fPK : Addr} {odPK anPK : Option Addr} {slPK : Array (Option Value)} {ocPK kVPK dcPK pmPK cdPK ctPK : Value} {fMU : Addr} {odMU anMU : Option Addr} {slMU : Array (Option Value)} {ocMU kVMU dcMU pmMU cdMU ctMU : Value} {fNL : Addr} {odNL anNL : Option Addr} {slNL : Array (Option Value)} {ocNL kVNL dcNL pmNL cdNL ctNL : Value} {fPL : Addr} {odPL anPL : Option Addr} {slPL : Array (Option Value)} {ocPL kVPL dcPL pmPL cdPL ctPL : Value} {fIL : Addr} {odIL anIL : Option Addr} {slIL : Array (Option Value)} {ocIL kVIL dcIL pmIL cdIL ctIL : Value} {fWI : Addr} {odWI anWI : Option Addr} {slWI : Array (Option Value)} {ocWI kVWI dcWI pmWI cdWI ctWI : Value} {fBT : Addr} {odBT anBT : Option Addr} {slBT : Array (Option Value)} {ocBT kVBT dcBT pmBT cdBT ctBT : Value} {fBN : Addr} {odBN anBN : Option Addr} {slBN : Array (Option Value)} {ocBN kVBN dcBN pmBN cdBN ctBN : Value} {fBD : Addr} {odBD anBD : Option Addr} {slBD : Array (Option Value)} {ocBD kVBD dcBD pmBD cdBD ctBD : Value} {fLA : Addr} {odLA anLA : Option Addr} {slLA : Array (Option Value)} {ocLA kVLA dcLA pmLA cdLA ctLA : Value}
    (aC : PySem.W.nsIn K mainGlobals "Diagram" = some (some (.ref C)))
    (aNA : PySem.W.nsIn K mainGlobals "is_name" = some (some (.ref fNA)))
    (lNA : K.lookup fNA = some ⟨ocNA, odNA, .func (PySem.W.fnOf "is_name" "is_name" (defArgs sName) (defBody sName) (defScope sName) .none kVNA dcNA pmNA anNA cdNA ctNA), slNA⟩)
    (cNA : PySem.W.codeIn K cdNA "is_name" = true)
    (kNA : PySem.W.keepIn K (.ref fNA) = true)
    (aPN : PySem.W.nsIn K mainGlobals "are_port_names" = some (some (.ref fPN)))
    (lPN : K.lookup fPN = some ⟨ocPN, odPN, .func (PySem.W.fnOf "are_port_names" "are_port_names" (defArgs sPorts) (defBody sPorts) (defScope sPorts) .none kVPN dcPN pmPN anPN cdPN ctPN), slPN⟩)
    (cPN : PySem.W.codeIn K cdPN "are_port_names" = true)
    (kPN : PySem.W.keepIn K (.ref fPN) = true)
    (aIF : PySem.W.nsIn K mainGlobals "is_interface" = some (some (.ref fIF)))
    (lIF : K.lookup fIF = some ⟨ocIF, odIF, .func (PySem.W.fnOf "is_interface" "is_interface" (defArgs sIface) (defBody sIface) (defScope sIface) .none kVIF dcIF pmIF anIF cdIF ctIF), slIF⟩)
    (cIF : PySem.W.codeIn K cdIF "is_interface" = true)
    (kIF : PySem.W.keepIn K (.ref fIF) = true)
    (aSF : PySem.W.nsIn K mainGlobals "_is_step_function" = some (some (.ref fSF)))
    (lSF : K.lookup fSF = some ⟨ocSF, odSF, .func (PySem.W.fnOf "_is_step_function" "_is_step_function" (defArgs sStep) (defBody sStep) (defScope sStep) .none kVSF dcSF pmSF anSF cdSF ctSF), slSF⟩)
    (cSF : PySem.W.codeIn K cdSF "_is_step_function" = true)
    (kSF : PySem.W.keepIn K (.ref fSF) = true)
    (aSE : PySem.W.nsIn K mainGlobals "_is_selection" = some (some (.ref fSE)))
    (lSE : K.lookup fSE = some ⟨ocSE, odSE, .func (PySem.W.fnOf "_is_selection" "_is_selection" (defArgs sSel) (defBody sSel) (defScope sSel) .none kVSE dcSE pmSE anSE cdSE ctSE), slSE⟩)
    (cSE : PySem.W.codeIn K cdSE "_is_selection" = true)
    (kSE : PySem.W.keepIn K (.ref fSE) = true)
    (rdC : PySem.W.readsIn K C (.type "type") = true)
    (gaC : PySem.W.specialIn K (.ref C) "__getattribute__" = some (some (.builtin "type.__getattribute__")))
    (v8 : PySem.W.findCls K (.ref C) (.type "type") "MAX_PORTS" = some (.val (.int 8 tv8)))
    (aLe : PySem.W.nsIn K mainGlobals "LETTERS" = some (some (.str "abcdefghijklmnopqrstuvwxyz" tkL)))
    (aMl : PySem.W.nsIn K mainGlobals "MOST_LETTERS" = some (some (.int 8 tkE)))
    (aE : PySem.W.nsIn K mainGlobals "RESERVED_WORDS" = some (some (.ref dE)))
    (lE : K.lookup dE = some ⟨.type "tuple", ddE, .seq #[.str "block" tE1, .str "part" tE2, .str "end" tE3, .str "self" tE4] nE, slE⟩)
    (zlen : PySem.W.nsIn K mainGlobals "len" = some none)
    (zall : PySem.W.nsIn K mainGlobals "all" = some none)
    (zstr : PySem.W.nsIn K mainGlobals "str" = some none)
    (ztuple : PySem.W.nsIn K mainGlobals "tuple" = some none)
    (zisinstance : PySem.W.nsIn K mainGlobals "isinstance" = some none)
    (zset : PySem.W.nsIn K mainGlobals "set" = some none)
    (zsorted : PySem.W.nsIn K mainGlobals "sorted" = some none)
    (zlist : PySem.W.nsIn K mainGlobals "list" = some none)
    (zmax : PySem.W.nsIn K mainGlobals "max" = some none)
    (zmin : PySem.W.nsIn K mainGlobals "min" = some none)
    (zabs : PySem.W.nsIn K mainGlobals "abs" = some none)
    (zrange : PySem.W.nsIn K mainGlobals "range" = some none)
    (zrepr : PySem.W.nsIn K mainGlobals "repr" = some none)
    (zbool : PySem.W.nsIn K mainGlobals "bool" = some none)
    (aFE : PySem.W.nsIn K mainGlobals "_law_feed" = some (some (.ref fFE)))
    (lFE : K.lookup fFE = some ⟨ocFE, odFE, .func (PySem.W.fnOf "_law_feed" "_law_feed" (defArgs sFeed) (defBody sFeed) (defScope sFeed) .none kVFE dcFE pmFE anFE cdFE ctFE), slFE⟩)
    (cFE : PySem.W.codeIn K cdFE "_law_feed" = true)
    (kFE : PySem.W.keepIn K (.ref fFE) = true)
    (aTK : PySem.W.nsIn K mainGlobals "_law_take" = some (some (.ref fTK)))
    (lTK : K.lookup fTK = some ⟨ocTK, odTK, .func (PySem.W.fnOf "_law_take" "_law_take" (defArgs sTakeL) (defBody sTakeL) (defScope sTakeL) .none kVTK dcTK pmTK anTK cdTK ctTK), slTK⟩)
    (cTK : PySem.W.codeIn K cdTK "_law_take" = true)
    (kTK : PySem.W.keepIn K (.ref fTK) = true)
    (aPK : PySem.W.nsIn K mainGlobals "_law_pick" = some (some (.ref fPK)))
    (lPK : K.lookup fPK = some ⟨ocPK, odPK, .func (PySem.W.fnOf "_law_pick" "_law_pick" (defArgs sPickL) (defBody sPickL) (defScope sPickL) .none kVPK dcPK pmPK anPK cdPK ctPK), slPK⟩)
    (cPK : PySem.W.codeIn K cdPK "_law_pick" = true)
    (kPK : PySem.W.keepIn K (.ref fPK) = true)
    (aMU : PySem.W.nsIn K mainGlobals "_law_made_up" = some (some (.ref fMU)))
    (lMU : K.lookup fMU = some ⟨ocMU, odMU, .func (PySem.W.fnOf "_law_made_up" "_law_made_up" (defArgs sMade) (defBody sMade) (defScope sMade) .none kVMU dcMU pmMU anMU cdMU ctMU), slMU⟩)
    (cMU : PySem.W.codeIn K cdMU "_law_made_up" = true)
    (kMU : PySem.W.keepIn K (.ref fMU) = true)
    (aNL : PySem.W.nsIn K mainGlobals "_law_is_name" = some (some (.ref fNL)))
    (lNL : K.lookup fNL = some ⟨ocNL, odNL, .func (PySem.W.fnOf "_law_is_name" "_law_is_name" (defArgs sNameL) (defBody sNameL) (defScope sNameL) .none kVNL dcNL pmNL anNL cdNL ctNL), slNL⟩)
    (cNL : PySem.W.codeIn K cdNL "_law_is_name" = true)
    (kNL : PySem.W.keepIn K (.ref fNL) = true)
    (aPL : PySem.W.nsIn K mainGlobals "_law_are_ports" = some (some (.ref fPL)))
    (lPL : K.lookup fPL = some ⟨ocPL, odPL, .func (PySem.W.fnOf "_law_are_ports" "_law_are_ports" (defArgs sPortsL) (defBody sPortsL) (defScope sPortsL) .none kVPL dcPL pmPL anPL cdPL ctPL), slPL⟩)
    (cPL : PySem.W.codeIn K cdPL "_law_are_ports" = true)
    (kPL : PySem.W.keepIn K (.ref fPL) = true)
    (aIL : PySem.W.nsIn K mainGlobals "_law_is_interface" = some (some (.ref fIL)))
    (lIL : K.lookup fIL = some ⟨ocIL, odIL, .func (PySem.W.fnOf "_law_is_interface" "_law_is_interface" (defArgs sIfaceL) (defBody sIfaceL) (defScope sIfaceL) .none kVIL dcIL pmIL anIL cdIL ctIL), slIL⟩)
    (cIL : PySem.W.codeIn K cdIL "_law_is_interface" = true)
    (kIL : PySem.W.keepIn K (.ref fIL) = true)
    (aWI : PySem.W.nsIn K mainGlobals "_law_wide" = some (some (.ref fWI)))
    (lWI : K.lookup fWI = some ⟨ocWI, odWI, .func (PySem.W.fnOf "_law_wide" "_law_wide" (defArgs sWide) (defBody sWide) (defScope sWide) .none kVWI dcWI pmWI anWI cdWI ctWI), slWI⟩)
    (cWI : PySem.W.codeIn K cdWI "_law_wide" = true)
    (kWI : PySem.W.keepIn K (.ref fWI) = true)
    (aBT : PySem.W.nsIn K mainGlobals "_law_bent_tuple" = some (some (.ref fBT)))
    (lBT : K.lookup fBT = some ⟨ocBT, odBT, .func (PySem.W.fnOf "_law_bent_tuple" "_law_bent_tuple" (defArgs sBentT) (defBody sBentT) (defScope sBentT) .none kVBT dcBT pmBT anBT cdBT ctBT), slBT⟩)
    (cBT : PySem.W.codeIn K cdBT "_law_bent_tuple" = true)
    (kBT : PySem.W.keepIn K (.ref fBT) = true)
    (aBN : PySem.W.nsIn K mainGlobals "_law_bent" = some (some (.ref fBN)))
    (lBN : K.lookup fBN = some ⟨ocBN, odBN, .func (PySem.W.fnOf "_law_bent" "_law_bent" (defArgs sBent) (defBody sBent) (defScope sBent) .none kVBN dcBN pmBN anBN cdBN ctBN), slBN⟩)
    (cBN : PySem.W.codeIn K cdBN "_law_bent" = true)
    (kBN : PySem.W.keepIn K (.ref fBN) = true)
    (aBD : PySem.W.nsIn K mainGlobals "_law_bounds_are_right" = some (some (.ref fBD)))
    (lBD : K.lookup fBD = some ⟨ocBD, odBD, .func (PySem.W.fnOf "_law_bounds_are_right" "_law_bounds_are_right" (defArgs sBounds) (defBody sBounds) (defScope sBounds) .none kVBD dcBD pmBD anBD cdBD ctBD), slBD⟩)
    (cBD : PySem.W.codeIn K cdBD "_law_bounds_are_right" = true)
    (kBD : PySem.W.keepIn K (.ref fBD) = true)
    (aLA : PySem.W.nsIn K mainGlobals "law" = some (some (.ref fLA)))
    (lLA : K.lookup fLA = some ⟨ocLA, odLA, .func (PySem.W.fnOf "law" "law" (defArgs sLaw) (defBody sLaw) (defScope sLaw) .none kVLA dcLA pmLA anLA cdLA ctLA), slLA⟩)
    (cLA : PySem.W.codeIn K cdLA "law" = true)
    (kLA : PySem.W.keepIn K (.ref fLA) = true) :
    ∃ fd : FuncData, (∀ (s : Shared) (v : Value), BindsTo s fd ⟨[v], []⟩ [("script", v)]) ∧ ∀ base : Heap, K.In base → base.Ns mainGlobals mg → FnG PySem.Challenge.pw_stepblocks_k22_interfaces_judged w K mg base CX0 5 fa fd ["script"] (spLaw K) := by
  have e := hfa.symm.trans (PySem.W.mg_of X G aLA)
  cases e
  have T : Txt K mg := ⟨⟨_, PySem.W.mg_of X G aLe⟩, ⟨_, PySem.W.mg_of X G aMl⟩, ⟨dE, PySem.W.mg_of X G aE, fun H => .inr ⟨_, _, _, lE, rfl, rfl, (by decide +kernel : 4 ≤ sizeLine), .cons ⟨_, rfl⟩ (.cons ⟨_, rfl⟩ (.cons ⟨_, rfl⟩ (.cons ⟨_, rfl⟩ .nil)))⟩⟩,
      PySem.W.mg_none_of X G zisinstance, PySem.W.mg_none_of X G zlen, PySem.W.mg_none_of X G zall, PySem.W.mg_none_of X G zstr, PySem.W.mg_none_of X G ztuple⟩
  have Di : Dia K mg := ⟨C, .type "type", _, PySem.W.mg_of X G aC, ⟨rdC, gaC⟩, ⟨v8, ⟨_, rfl⟩⟩⟩
  have FNA := fun_mk (st := sName) lNA cNA kNA
  have bNA := FNA.binds (ps := ["value"]) fun _ _ _ _ _ _ us hl => match us, hl with | [_], _ => rfl
  have FPN := fun_mk (st := sPorts) lPN cPN kPN
  have bPN := FPN.binds (ps := ["inputs", "outputs", "most"]) fun _ _ _ _ _ _ us hl => match us, hl with | [_, _, _], _ => rfl
  have FIF := fun_mk (st := sIface) lIF cIF kIF
  have bIF := FIF.binds (ps := ["value"]) fun _ _ _ _ _ _ us hl => match us, hl with | [_], _ => rfl
  have FSF := fun_mk (st := sStep) lSF cSF kSF
  have bSF := FSF.binds (ps := ["value", "inputs", "outputs"]) fun _ _ _ _ _ _ us hl => match us, hl with | [_, _, _], _ => rfl
  have FSE := fun_mk (st := sSel) lSE cSE kSE
  have bSE := FSE.binds (ps := ["value", "names"]) fun _ _ _ _ _ _ us hl => match us, hl with | [_, _], _ => rfl
  have FFE := fun_mk (st := sFeed) lFE cFE kFE
  have bFE := FFE.binds (ps := ["script", "k"]) fun _ _ _ _ _ _ us hl => match us, hl with | [_, _], _ => rfl
  have FTK := fun_mk (st := sTakeL) lTK cTK kTK
  have bTK := FTK.binds (ps := ["feed", "size"]) fun _ _ _ _ _ _ us hl => match us, hl with | [_, _], _ => rfl
  have FPK := fun_mk (st := sPickL) lPK cPK kPK
  have bPK := FPK.binds (ps := ["feed", "choices"]) fun _ _ _ _ _ _ us hl => match us, hl with | [_, _], _ => rfl
  have FMU := fun_mk (st := sMade) lMU cMU kMU
  have bMU := FMU.binds (ps := ["feed"]) fun _ _ _ _ _ _ us hl => match us, hl with | [_], _ => rfl
  have FNL := fun_mk (st := sNameL) lNL cNL kNL
  have bNL := FNL.binds (ps := ["value"]) fun _ _ _ _ _ _ us hl => match us, hl with | [_], _ => rfl
  have FPL := fun_mk (st := sPortsL) lPL cPL kPL
  have bPL := FPL.binds (ps := ["value"]) fun _ _ _ _ _ _ us hl => match us, hl with | [_], _ => rfl
  have FIL := fun_mk (st := sIfaceL) lIL cIL kIL
  have bIL := FIL.binds (ps := ["value"]) fun _ _ _ _ _ _ us hl => match us, hl with | [_], _ => rfl
  have FWI := fun_mk (st := sWide) lWI cWI kWI
  have bWI := FWI.binds (ps := ["feed"]) fun _ _ _ _ _ _ us hl => match us, hl with | [_], _ => rfl
  have FBT := fun_mk (st := sBentT) lBT cBT kBT
  have bBT := FBT.binds (ps := ["feed", "value"]) fun _ _ _ _ _ _ us hl => match us, hl with | [_, _], _ => rfl
  have FBN := fun_mk (st := sBent) lBN cBN kBN
  have bBN := FBN.binds (ps := ["feed", "value"]) fun _ _ _ _ _ _ us hl => match us, hl with | [_, _], _ => rfl
  have FBD := fun_mk (st := sBounds) lBD cBD kBD
  have bBD := FBD.binds (ps := ["feed"]) fun _ _ _ _ _ _ us hl => match us, hl with | [_], _ => rfl
  have FLA := fun_mk (st := sLaw) lLA cLA kLA
  have bLA := FLA.binds (ps := ["script"]) fun _ _ _ _ _ _ us hl => match us, hl with | [_], _ => rfl
  refine ⟨PySem.W.fnOf "law" "law" (defArgs sLaw) (defBody sLaw) (defScope sLaw) .none kVLA dcLA pmLA anLA cdLA ctLA, fun s v => .of_eq rfl, fun base _ _ => ?_⟩
  have GNA : FnOk PySem.Challenge.pw_stepblocks_k22_interfaces_judged w K mg base CX0 1 fNA _ ["value"] spName := ok_name FNA T
  have GSE : FnOk PySem.Challenge.pw_stepblocks_k22_interfaces_judged w K mg base CX0 1 fSE _ ["value", "names"] spSel := ok_sel FSE T (PySem.W.mg_none_of X G zlist)
  have GSF : FnOk PySem.Challenge.pw_stepblocks_k22_interfaces_judged w K mg base CX0 2 fSF _ ["value", "inputs", "outputs"] spStep := ok_step FSF T GSE (PySem.W.mg_of X G aSE) kSE bSE
  have GPN : FnOk PySem.Challenge.pw_stepblocks_k22_interfaces_judged w K mg base CX0 2 fPN _ ["inputs", "outputs", "most"] spPorts := ok_ports FPN T (PySem.W.mg_none_of X G zset) GNA (PySem.W.mg_of X G aNA) kNA bNA
  have GIF : FnOk PySem.Challenge.pw_stepblocks_k22_interfaces_judged w K mg base CX0 3 fIF _ ["value"] spIface := ok_iface FIF T Di (PySem.W.mg_none_of X G zsorted) GPN (PySem.W.mg_of X G aPN) kPN bPN GSF (PySem.W.mg_of X G aSF) kSF bSF
  have GFE : FnOk PySem.Challenge.pw_stepblocks_k22_interfaces_judged w K mg base CX0 1 fFE _ ["script", "k"] (spFeed K) := ok_feed FFE (PySem.W.mg_none_of X G zlist) (PySem.W.mg_none_of X G zmax) (PySem.W.mg_none_of X G zabs)
  have GTK : FnOk PySem.Challenge.pw_stepblocks_k22_interfaces_judged w K mg base CX0 1 fTK _ ["feed", "size"] spTakeL := ok_takeL FTK 
  have GPK : FnOk PySem.Challenge.pw_stepblocks_k22_interfaces_judged w K mg base CX0 2 fPK _ ["feed", "choices"] spPick := ok_pick FPK GTK (PySem.W.mg_of X G aTK) kTK bTK (PySem.W.mg_none_of X G zlen)
  have GMU : FnOk PySem.Challenge.pw_stepblocks_k22_interfaces_judged w K mg base CX0 3 fMU _ ["feed"] spMade := ok_made FMU T GTK (PySem.W.mg_of X G aTK) kTK bTK GPK (PySem.W.mg_of X G aPK) kPK bPK
  have GNL : FnOk PySem.Challenge.pw_stepblocks_k22_interfaces_judged w K mg base CX0 1 fNL _ ["value"] spName := ok_nameL FNL T
  have GPL : FnOk PySem.Challenge.pw_stepblocks_k22_interfaces_judged w K mg base CX0 2 fPL _ ["value"] spPortsL := ok_portsL FPL T (PySem.W.mg_none_of X G zset) GNL (PySem.W.mg_of X G aNL) kNL bNL
  have GIL : FnOk PySem.Challenge.pw_stepblocks_k22_interfaces_judged w K mg base CX0 3 fIL _ ["value"] spIface := ok_ifaceL FIL T (PySem.W.mg_none_of X G zsorted) (PySem.W.mg_none_of X G zset) (PySem.W.mg_none_of X G zlist) GPL (PySem.W.mg_of X G aPL) kPL bPL
  have GWI : FnOk PySem.Challenge.pw_stepblocks_k22_interfaces_judged w K mg base CX0 2 fWI _ ["feed"] spMade := ok_wide FWI T GTK (PySem.W.mg_of X G aTK) kTK bTK
  have GBT : FnOk PySem.Challenge.pw_stepblocks_k22_interfaces_judged w K mg base CX0 3 fBT _ ["feed", "value"] spBentT := ok_bentT FBT T (PySem.W.mg_none_of X G zlist) GTK (PySem.W.mg_of X G aTK) kTK bTK GPK (PySem.W.mg_of X G aPK) kPK bPK
  have GBN : FnOk PySem.Challenge.pw_stepblocks_k22_interfaces_judged w K mg base CX0 4 fBN _ ["feed", "value"] spBent := ok_bent FBN T (PySem.W.mg_none_of X G zlist) GTK (PySem.W.mg_of X G aTK) kTK bTK GPK (PySem.W.mg_of X G aPK) kPK bPK GBT (PySem.W.mg_of X G aBT) kBT bBT
  have GBD : FnOk PySem.Challenge.pw_stepblocks_k22_interfaces_judged w K mg base CX0 4 fBD _ ["feed"] spBounds := ok_bounds FBD T (PySem.W.mg_none_of X G zbool) (PySem.W.mg_none_of X G zmax) GTK (PySem.W.mg_of X G aTK) kTK bTK GIF (PySem.W.mg_of X G aIF) kIF bIF
  exact ok_law FLA T (PySem.W.mg_none_of X G zbool) GFE (PySem.W.mg_of X G aFE) kFE bFE GBD (PySem.W.mg_of X G aBD) kBD bBD GTK (PySem.W.mg_of X G aTK) kTK bTK GMU (PySem.W.mg_of X G aMU) kMU bMU GWI (PySem.W.mg_of X G aWI) kWI bWI GBN (PySem.W.mg_of X G aBN) kBN bBN GIF (PySem.W.mg_of X G aIF) kIF bIF GIL (PySem.W.mg_of X G aIL) kIL bIL (PySem.W.mg_none_of X G zmax) (PySem.W.mg_none_of X G zmin) (PySem.W.mg_none_of X G zrange) (PySem.W.mg_none_of X G zrepr)
theorem walk {l : PySem.W.OpenLaw} {q : Program} {loose : List Str} {XP : (Str → Option Value) → Heap → Prop} {YP : World → Heap → Prop} {d : DefRec} {K : Params → PySem.W.Frag} (hn : l.most = some 63) (hdf : d.params.defaults = [])
    (hY : ∀ (w : World) (h : Heap), YP w h → (K w.params).In h)
    (F : ∀ (w : World) (mg : Str → Option Value) (fa : Addr) (h : Heap), (K w.params).In h → h.Ns mainGlobals mg → mg d.name = some (.ref fa) →
      ∃ fd : FuncData, (∀ (s : Shared) (u : Value), BindsTo s fd ⟨[u], []⟩ [("script", u)]) ∧ ∀ base : Heap, (K w.params).In base → base.Ns mainGlobals mg → FnG l.prog w (K w.params) mg base CX0 5 fa fd ["script"] (spLaw (K w.params))) :
    PySem.W.WalkO q loose XP YP l.row.toRowW d [] (fun f vs => PySem.call f vs) :=
  walk_ofG (n := 63) (k := 5) (x := "script") (sp := fun w => spLaw (K w.params)) hn (by decide) hdf ⟨rfl, by decide, by decide⟩ hY F (fun _ _ a ns hl _ hS => ⟨a, ns, rfl, hS, hl, fun _ => rfl⟩)
end K22
open PySem PySem.W PyProof.Rows
set_option maxRecDepth 100000 in
set_option maxHeartbeats 0 in
theorem PySem.Challenge.cw_stepblocks_k22_interfaces_judged_holds : PySem.Challenge.rw_stepblocks_k22_interfaces_judged.Holds := by
  w_on; o_law; k_head; (case hw => w_witness2)
  k_fill
  refine K22.walk (l := PySem.Challenge.rw_stepblocks_k22_interfaces_judged) rfl rfl (fun w h Y => PySem.W.kIn_of Y) ?F
  case F =>
    intro w mg fa h KX G hmg
    refine' K22.all_mk KX G hmg ?aC ?aNA ?lNA ?cNA ?kNA ?aPN ?lPN ?cPN ?kPN ?aIF ?lIF ?cIF ?kIF ?aSF ?lSF ?cSF ?kSF ?aSE ?lSE ?cSE ?kSE ?rdC ?gaC ?v8 ?aLe ?aMl ?aE ?lE ?zlen ?zall ?zstr ?ztuple ?zisinstance ?zset ?zsorted ?zlist ?zmax ?zmin ?zabs ?zrange ?zrepr ?zbool ?aFE ?lFE ?cFE ?kFE ?aTK ?lTK ?cTK ?kTK ?aPK ?lPK ?cPK ?kPK ?aMU ?lMU ?cMU ?kMU ?aNL ?lNL ?cNL ?kNL ?aPL ?lPL ?cPL ?kPL ?aIL ?lIL ?cIL ?kIL ?aWI ?lWI ?cWI ?kWI ?aBT ?lBT ?cBT ?kBT ?aBN ?lBN ?cBN ?kBN ?aBD ?lBD ?cBD ?kBD ?aLA ?lLA ?cLA ?kLA
    (case aC => k_is); (case aNA => k_is); (case lNA => k_is); (case cNA => k_is); (case kNA => k_is); (case aPN => k_is); (case lPN => k_is); (case cPN => k_is)
    (case kPN => k_is); (case aIF => k_is); (case lIF => k_is); (case cIF => k_is); (case kIF => k_is); (case aSF => k_is); (case lSF => k_is); (case cSF => k_is)
    (case kSF => k_is); (case aSE => k_is); (case lSE => k_is); (case cSE => k_is); (case kSE => k_is); (case rdC => k_is); (case gaC => k_is); (case v8 => k_is)
    (case aLe => k_is); (case aMl => k_is); (case aE => k_is); (case lE => k_is); (case zlen => k_is); (case zall => k_is); (case zstr => k_is); (case ztuple => k_is)
    (case zisinstance => k_is); (case zset => k_is); (case zsorted => k_is); (case zlist => k_is); (case zmax => k_is); (case zmin => k_is); (case zabs => k_is); (case zrange => k_is)
    (case zrepr => k_is); (case zbool => k_is); (case aFE => k_is); (case lFE => k_is); (case cFE => k_is); (case kFE => k_is); (case aTK => k_is); (case lTK => k_is)
    (case cTK => k_is); (case kTK => k_is); (case aPK => k_is); (case lPK => k_is); (case cPK => k_is); (case kPK => k_is); (case aMU => k_is); (case lMU => k_is)
    (case cMU => k_is); (case kMU => k_is); (case aNL => k_is); (case lNL => k_is); (case cNL => k_is); (case kNL => k_is); (case aPL => k_is); (case lPL => k_is)
    (case cPL => k_is); (case kPL => k_is); (case aIL => k_is); (case lIL => k_is); (case cIL => k_is); (case kIL => k_is); (case aWI => k_is); (case lWI => k_is)
    (case cWI => k_is); (case kWI => k_is); (case aBT => k_is); (case lBT => k_is); (case cBT => k_is); (case kBT => k_is); (case aBN => k_is); (case lBN => k_is)
    (case cBN => k_is); (case kBN => k_is); (case aBD => k_is); (case lBD => k_is); (case cBD => k_is); (case kBD => k_is); (case aLA => k_is); (case lLA => k_is)
    (case cLA => k_is); (case kLA => k_is)
