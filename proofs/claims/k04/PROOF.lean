import PyProof.Rows.All
import Wide.All
import OpenK.AllK
import Wide.FinOn
import KE.KSuper
import HandS.Nested
import HandS.ClsMeth
import HandS.Star
import HandS.ForMost
import HandS.IsInst
import HandS.Wide
import HandS.More
import PySem.Challenge.RW_stepblocks_k04_whole_arithmetic
set_option Elab.async false
set_option linter.all false
set_option maxRecDepth 100000
set_option maxHeartbeats 8000000
/-! OwnA: super().__init__ of plain classes; a class held by a local, made; a def held by a local, called with a star. -/
namespace Own
open PySem PySem.Spec PyProof.Rows L2 NdefX ClX StX

/-! ### a block at its own code -/
structure PSA (X : Cx) (b0 : List Stmt) (sts : List Stmt) (t : TS) : Prop where
  run : ∀ (pins : List (Addr × Obj)) (s : Shared) (σ : L2.St) (H : Hp) (D : Ends), Inv X pins σ H s → t D σ H → _root_.PySem.wpAt (model X.prog X.w) X.A (.func b0 X.env) (execs sts X.env) (SP X pins D) X.xe s
theorem psa_of {X : Cx} {b0 sts : List Stmt} {t : TS} (h : PSs X sts t) : PSA X b0 sts t := ⟨fun pins s σ H D I q => wpAt_of_wpAny (h.run pins s σ H D I q)⟩
theorem psa_cons {X : Cx} {b0 rest : List Stmt} {st : Stmt} {t u : TS} (h1 : PS X st t) (h2 : PSA X b0 rest u) : PSA X b0 (st :: rest) (tSeq t u) := by
  refine ⟨fun pins s σ H D I q => PySem.ks_wpAt_execs_cons (wpAt_of_wpAny (thn (h1.run pins s σ H { D with nx := u D } I q) fun f s' hs => ?_))⟩
  cases f with
  | next =>
    obtain ⟨σ', H', I', q'⟩ := hs
    exact h2.run pins s' σ' H' D I' q'
  | brk => exact hs
  | cont => exact hs
  | ret u => exact hs

/-! ### super().m(e, ..) as a statement -/
/-- what the text says: the def's first parameter is slot 0; D: the class whose body holds the def; f2: the next class's method -/
structure SupK (K : PySem.W.Frag) (prog : Program) (f cda cc D : Addr) (fd : FuncData) (sf : Str) : Prop where
  fn : ∃ oc od osl, K.lookup f = some ⟨oc, od, .func fd, osl⟩
  par : ∃ ar, (fd.params.posonlyargs ++ fd.params.args).head? = some ar ∧ ar.arg = sf
  code : ∃ ccl cdd vs ccs file tf, K.lookup cda = some ⟨ccl, cdd, .fields vs, ccs⟩ ∧ vs[2]? = some (.str file tf) ∧ ((prog.main.file : Str) == file) = true
  cell : ∃ cl cld csl, K.lookup cc = some ⟨cl, cld, .cell (some (.ref D)), csl⟩
  top : (prog.main.scope.names.lookup ("super" : Str)).isSome = false
  st : PySem.W.nsIn K PySem.cStatics "thirdparty.any" = some none
/-- of an instance's class C -/
structure SupC (K : PySem.W.Frag) (C D : Addr) (m : Str) (f2 : Addr) : Prop where
  sub : PySem.W.mroIn K C (.ref D) = some true
  at_ : PySem.W.ks_superIn K C D m = some (some (.ref f2))
  ty : PySem.W.typeIn K (.ref f2) = some (.type "function")
  dcl : ∃ cdD, PySem.W.clsIn K D = some cdD
  fi : PySem.W.fnIn K f2 = true
def tSuper (K : PySem.W.Frag) (D : Addr) (m : Str) (f2 : Addr) (sp : Sp) (E : XK) (t : TA) : TS := fun D' σ H => ∃ x C dx fs, σ[0]? = some (some (.ref x)) ∧ H x = some (.ins C dx fs) ∧ SupC K C D m f2 ∧
  t σ H fun vs H1 => sp (.ref x :: vs) H1 (fun _ H2 => D'.nx σ H2) E
theorem psa_super {X : Cx} {CX : CXT} {k : Nat} {b0 rest : List Stmt} {p0 p1 apos pos spos : Pos} {m self : Str} {e : Expr} {es : List Expr} {t : TA} {u : TS} {f cda cc D f2 : Addr} {fd : FuncData} {sp : Sp} {E : XK} {pl : Sem Bool}
    (SK : SupK X.K X.prog f cda cc D fd self) (hfu : X.env.func = some f) (hco : X.env.code = .ref cda) (hcl : X.env.cells.lookup ("__class__" : Str) = some cc)
    (hks : X.env.kindOf "super" = some .globalImplicit) (hkc : X.env.kindOf "__class__" = some .free) (hN : X.N[0]? = some self) (hka : X.env.kindOf self = some .local) (hms : X.mg "super" = none)
    (F : FnR X.prog X.w X.K X.mg X.base CX k f2 sp) (hr : Room k X.A) (hx : Passes CX X E) (ha : PA X (e :: es) t) (hu : PSA X b0 rest u)
    (hm1 : (m == ("__class__" : Str)) = false := by decide +kernel)
    (hi : interactive X.env = false := by rfl) (hsw : swapsWith (.Call (.Attribute (.Call (.Name "super" p0) [] [] p1) m apos) (e :: es) [] pos) none spos.line X.env = pure false := by rfl)
    (hst : starEach (e :: es) X.env = (false, eval e X.env) :: starEach es X.env := by rfl) (hpl : (backTo pos (starEach es X.env)).any (·.1) = false := by rfl)
    (ht : eval (.Call (.Attribute (.Call (.Name "super" p0) [] [] p1) m apos) (e :: es) [] pos) X.env = (do
      let ov ← attributeBase (.Call (.Name "super" p0) [] [] p1) m X.env (eval (.Call (.Name "super" p0) [] [] p1) X.env)
      standAt apos.atName
      let (f, first) ← holding [ov] (getMethod ov m pl)
      callWith pos f first (backTo pos (starEach (e :: es) X.env)) []) := by rfl) :
    PSA X b0 (.Expr (.Call (.Attribute (.Call (.Name "super" p0) [] [] p1) m apos) (e :: es) [] pos) spos :: rest) (tSeq (tSuper X.K D m f2 sp E t) u) := by
  refine ⟨fun pins s σ H Dn I q => ?_⟩
  obtain ⟨x, C, dx, fs, hσ, hH, SC, q⟩ := q
  have KX := I.kIn
  obtain ⟨oc, od, osl, hf⟩ := SK.fn
  obtain ⟨ar, har, hself⟩ := SK.par
  obtain ⟨ccl, cdd, vs, ccs, file, tf, hcode, hvs, hfile⟩ := SK.code
  obtain ⟨cl, cld, csl, hcell⟩ := SK.cell
  obtain ⟨cdD, hD⟩ := SC.dcl
  obtain ⟨oD, hD1, hD2⟩ : ∃ oD, s.heap.get? D = some oD ∧ oD.data = .cls cdD := by
    unfold PySem.W.clsIn at hD
    split at hD
    · rename_i c d cd' sl ho
      cases hD
      exact ⟨_, KX _ _ ho, rfl⟩
    · cases hD
  obtain ⟨mA, O, rr, _, _, _⟩ := ins_get I.hok hH
  obtain ⟨odx, J, _⟩ := O.look
  obtain ⟨ml, hn, hl⟩ := id I.loc
  have hself' : ml ar.arg = some (.ref x) := by
    obtain ⟨w', rw', lk⟩ := hl 0 self (.ref x) hN hσ (.inl hka)
    rcases lk with ⟨_, e1⟩ | ⟨e1, _⟩
    · rw [hself, e1]
      exact congrArg some rw'
    · rw [hka] at e1
      rcases e1 with z | z <;> cases z
  obtain ⟨mb, hb1, hb2⟩ := I.mod.blt
  refine PySem.ks_wpAt_execs_cons (PySem.ks_wpAt_Expr_any (Q := fun f s' => match f with | .next => _root_.PySem.wpAt (model X.prog X.w) X.A (.func b0 X.env) (execs rest X.env) (SP X pins Dn) X.xe s' | f => SP X pins Dn f s') ?_ hi hsw)
  refine PySem.ks_wpAt_MethodCall (pl := pl) ?_ ht
  have e0 : s = ⟨s.heap, s.gens, s.drawn, s.toks, s.os⟩ := rfl
  refine PySem.ks_wpAt_super_base hks hkc hm1 hfu (KX _ _ hf) rfl har hco (KX _ _ hcode) rfl hvs hfile SK.top ?_
  refine PySem.W.ks_loadName_global I.ok.kind hks (Calls.loadGlobal_builtin (by rw [I.ok.glob]; exact I.mod.glob.keeps I.bk) hms (by rw [I.ok.blt]; exact hb1.keeps I.bk) ((hb2 "super" (by decide)).trans (by decide +kernel : bootBuiltins "super" = some (.type "super"))) ⟨rfl, ?_⟩)
  refine wpAny_loadName_free I.ok.kind hkc hcl ⟨_, KX _ _ hcell, rfl⟩ ?_
  refine wpAny_loadName_local I.ok.kind (by rw [hself]; exact hka) hn hself' ?_
  rw [e0]
  refine PySem.ks_wpAny_isType_cls hD1 hD2 ⟨rfl, ?_⟩
  refine PySem.ks_wpAny_call_super hD1 hD2 J.at_ J.cls (fun c e => ?_) (PySem.W.looks_mroIn KX SC.sub) (fun h' e k => ?_)
  · have z := J.no
    unfold PySem.W.notCls at z
    rw [e] at z
    exact Bool.noConfusion z
  have I1 : Inv X ((s.heap.objs.size, PySem.W.ks_superObj D x C) :: pins) σ H { s with heap := h', toks := s.toks } := pin_new I k (Nat.le_refl _) e (fun v z => nomatch z)
  have KX1 := I1.kIn
  cases hc : PySem.W.clsIn X.K C with
  | none =>
    have z := SC.at_
    unfold PySem.W.ks_superIn at z
    rw [hc] at z
    cases z
  | some cd =>
    have hm := SC.at_
    unfold PySem.W.ks_superIn at hm
    rw [hc] at hm
    obtain ⟨of, hof, hofc⟩ : ∃ of, h'.get? f2 = some of ∧ of.cls = .type "function" := by
      have ht' : (X.K.lookup f2).map (·.cls) = some (.type "function") := SC.ty
      cases z : X.K.lookup f2 with
      | none => rw [z] at ht'; cases ht'
      | some of => rw [z] at ht'; exact ⟨of, KX1 _ _ z, Option.some.inj ht'⟩
    refine PySem.ks_wpAny_getMethod_super e (PySem.W.looks_opaque KX1 SK.st) (l₀ := cd.mro) ?_ rfl KX1 hm hof hofc (PySem.W.ks_ne KX J hc) hm1 ?_
    · exact fun A Q E s k q => wpAny_bind ((PySem.W.looks_clsIn KX1 hc) A _ E s k (wpAny_pure q))
    have I2 : Inv X ((h'.objs.size, PySem.W.methodObj (.ref f2) (.ref x)) :: (s.heap.objs.size, PySem.W.ks_superObj D x C) :: pins) σ H { s with heap := h'.push (PySem.W.methodObj (.ref f2) (.ref x)), toks := s.toks + 1 } :=
      pin_new (s := { s with heap := h', toks := s.toks }) I1 (fun _ _ z => Heap.get?_push_of_some _ z) (Nat.le_refl _) (Heap.get?_push_size h' rfl) (fun v z => nomatch z)
    have hq := pin_at I2
    have hL : h'.objs.size ≠ X.env.locals := (I2.pin (h'.objs.size, PySem.W.methodObj (.ref f2) (.ref x)) (List.mem_append_right _ List.mem_cons_self)).2.2.1
    have hb0 : X.base.get? h'.objs.size = none := base_none I1 (Nat.le_refl _)
    refine PySem.W.callWith_M (K := X.K) (h₀ := X.base) (first := []) I.ok.mod.kin (news_at hL hb0 hq) List.mem_cons_self SC.fi (thn (ha.run pos _ _ σ H _ I2 q) fun us s3 ⟨vs3, H2, I3, rv, q2⟩ => ⟨⟨pin_at I3, I3.kIn⟩, ?_⟩) hst hpl
    have z := wpAny_call (PySem.W.method_call (pin_at I3) (run_fnR (us := .ref x :: us) (vs := .ref x :: vs3) F hr hx I3 (.cons rfl rv) q2))
    refine thn z fun v4 s4 ⟨v5, H5, I5, _, q5⟩ => ?_
    exact hu.run pins s4 σ H5 Dn (unpin (unpin I5)) q5

/-! ### a def with the cell __class__, by its body -/
theorem fnr_super {CX : CXT} {P : Program} {w : World} {K : PySem.W.Frag} {mg : Str → Option Value} {base : Heap} {k : Nat} {f cc D : Addr} {F : NF} {N ps : List Str} {sp : Sp} {oc doc pm ct : Value} {od an : Option Addr} {osl : Array (Option Value)}
    (lk : K.lookup f = some ⟨oc, od, .func (PySem.W.fnX F.name F.qual F.params F.body F.scope F.cl .none .none doc pm an (.ref F.c) ct), osl⟩) (hcd : PySem.W.codeIn K (.ref F.c) F.qual = true) (hcl : F.cl = [(("__class__" : Str), cc)])
    (hcell : ∃ cl cld csl, K.lookup cc = some ⟨cl, cld, .cell (some (.ref D)), csl⟩) (S : NScope N ps ["__class__"] F.scope)
    (hb : ∀ (us : List Value), us.length = ps.length → bindArgs (PySem.W.fnX F.name F.qual F.params F.body F.scope F.cl .none .none doc pm an (.ref F.c) ct) ⟨us, []⟩ = pure (ps.zip us))
    (len : ∀ vs H Q E, sp vs H Q E → vs.length = ps.length)
    (hbody : ∀ (A : Around) (outer : List Env) (s : Shared) (H : Hp) (vs : List V) (Q : VK) (E : XK), Room k (A.deeper (envF F f s.heap.objs.size)) → sp vs H Q E →
      ∃ t, PSA (ncx CX P w K mg base N F f A outer s H E) F.body F.body t ∧ t { nx := fun _ H' => Q .non H', rt := Q } (startF N vs [some (.ref D)]) H) :
    FnR P w K mg base CX (k + 1) f sp := by
  intro A outer s H us vs Q E hr e0 r hsp
  have hl := len _ _ _ _ hsp
  have KB : K.In base := e0.mod.kin
  have KX : K.In s.heap := KB.keeps fun b o e => (e0.bs b o e).1
  have lim : s.heap.NoLimit := e0.mod.nolimit.keeps fun b o e => (e0.bs b o e).1
  obtain ⟨cl, cld, csl, hc⟩ := hcell
  have hcl1 : ∀ y c, F.cl.lookup y = some c → y = "__class__" ∧ c = cc := fun y c e => by
    rw [hcl] at e
    by_cases hy : y = ("__class__" : Str)
    · subst hy
      have e2 : some cc = some c := by
        rw [← e]
        simp [List.lookup]
      exact ⟨rfl, (Option.some.inj e2).symm⟩
    · have hb0 : (y == ("__class__" : Str)) = false := beq_eq_false_iff_ne.mpr hy
      rw [List.lookup_cons, hb0] at e
      cases e
  have C : CellsAt F.cl ["__class__"] [some (.ref D)] s.heap H := by
    refine ⟨rfl, fun y c e => ?_, fun x y c e1 e2 => ?_, fun i y e => ?_⟩
    · obtain ⟨_, rfl⟩ := hcl1 y c e
      exact ⟨(e0.bs _ _ (KB _ _ hc)).2, some (.ref D), ⟨_, KX _ _ hc, rfl⟩⟩
    · exact (hcl1 x c e1).1.trans (hcl1 y c e2).1.symm
    · cases i with
      | zero =>
        cases e
        refine ⟨cc, by rw [hcl]; simp [List.lookup], fun v e2 => ?_⟩
        cases e2
        exact ⟨.ref D, rfl, ⟨_, KX _ _ hc, rfl⟩⟩
      | succ i => cases e
  refine codeAny_call_function hr.depth (KX _ _ lk) rfl S.co S.gen rfl (PySem.W.codeRec_of KX hcd) ?_
  rw [hb us (by rw [← r.length]; exact hl)]
  refine wpAny_pure (wpAny_newFunctionEnv S.nocell (fun ⟨n, _⟩ hy => S.par n (List.of_mem_zip hy).1) (fun h₁ hns hsb => ⟨lim.fresh _ hsb, ?_⟩) S.kind)
  show codeAny _ _ (.func F.body (envF F f s.heap.objs.size)) _ _
  refine PySem.ks_codeAny_funcAt ?_
  have kp : ∀ b o, s.heap.get? b = some o → h₁.get? b = some o := fun b o e => hsb.extBut b o (Nat.ne_of_lt (Heap.lt_size e)) (Heap.get?_push_of_some _ e)
  obtain ⟨t, ht, hq⟩ := hbody A outer s H vs Q E (hr.deeper _) hsp
  have I : Inv (ncx CX P w K mg base N F f A outer s H E) [] (startF N vs [some (.ref D)]) H { s with heap := h₁, toks := s.toks + (ps.zip us).length } := inv_startN S hr.hd e0 hl r C hns kp
  refine PySem.ks_wpAt_mono (ht.run [] _ (startF N vs [some (.ref D)]) H _ I hq) (fun fl s' hs => ?_) fun e s' hs => hs
  have fin : ∀ {σ' : L2.St} {H' : Hp} {v : V} {u : Value}, Inv (ncx CX P w K mg base N F f A outer s H E) [] σ' H' s' → L2.RelV v u → Q v H' → CE outer P w H s Q u s' :=
    fun {σ' H' v u} J rv q => ⟨v, H', J.os, J.bare, J.base, J.hok, rv, q⟩
  cases fl with
  | ret u =>
    obtain ⟨v, σ', H', J, rv, q⟩ := hs
    exact fin J rv q
  | next =>
    obtain ⟨σ', H', J, q⟩ := hs
    exact fin (v := V.non) (u := Value.none) J rfl q
  | brk =>
    obtain ⟨_, _, _, q⟩ := hs
    exact False.elim q
  | cont =>
    obtain ⟨_, _, _, q⟩ := hs
    exact False.elim q

/-! ### ways joined behind a statement -/
def tJoin (t u : TS) : TS := fun D σ H => ∃ Mid : L2.St → Hp → Prop, t { D with nx := Mid } σ H ∧ ∀ σ' H', Mid σ' H' → u D σ' H'
theorem pss_join {X : Cx} {st : Stmt} {rest : List Stmt} {t u : TS} (h1 : PS X st t) (h2 : PSs X rest u) : PSs X (st :: rest) (tJoin t u) := by
  refine ⟨fun pins s σ H D I h => ?_⟩
  obtain ⟨Mid, q1, q2⟩ := h
  refine wpAny_execs_cons (thn (h1.run pins s σ H _ I q1) fun f s' hs => ?_)
  cases f with
  | next =>
    obtain ⟨σ', H', I', m⟩ := hs
    exact h2.run pins s' σ' H' D I' (q2 σ' H' m)
  | brk => exact hs
  | cont => exact hs
  | ret u => exact hs

/-! ### x(e, ..), x a local that holds the class at C -/
section
variable {X : Cx} {CX : CXT} {k i : Nat} {f C : Addr} {sp : Sp} {E : XK} {x : Str} {e : Expr} {es : List Expr} {te : TE} {t : TA} {p pos sp_ : Pos}
def tMakeL (i : Nat) (C : Addr) (sp : Sp) (E : XK) (t : TA) : TE := fun σ H Q => σ[i]? = some (some (.ref C)) ∧ tMakeR C sp E t σ H Q
theorem pe_makeL (M : Mk X.K C f) (F : FnR X.prog X.w X.K X.mg X.base CX k f sp) (hr : Room (k + 1) X.A) (hN : X.N[i]? = some x) (hv : Vis X.env.scope x) (hx : Passes CX X E) (ha : PA X (e :: es) t)
    (hdb : (x == ("__debug__" : Str)) = false := by decide) (hcd : (x == ("__classdict__" : Str)) = false := by decide)
    (he : starEach (e :: es) X.env = (false, eval e X.env) :: starEach es X.env := by rfl) (hpl : (backTo pos (starEach es X.env)).any (·.1) = false := by rfl) : PE X (.Call (.Name x p) (e :: es) [] pos) (tMakeL i C sp E t) := by
  refine ⟨fun pins s σ H Q I h => ?_⟩
  obtain ⟨hs, h⟩ := h
  refine wpAny_Call_Name_kw (thn ((pe_var (pos := p) hN hv hdb hcd).run pins s σ H (fun v H1 => v = .ref C ∧ H1 = H) I ⟨.ref C, hs, rfl, rfl⟩) fun u s1 ⟨v, H1, I1, r1, q1⟩ => ?_)
  obtain ⟨rfl, rfl⟩ := q1
  cases r1
  refine PySem.W.callWith_K (h₀ := X.base) I.ok.mod.kin M.kp (thn (ha.run pos pins s1 σ _ _ I1 h) fun us s2 ⟨vs, H2, I2, r, q⟩ => ⟨I2.kIn, ?_⟩) he hpl
  exact run_makeR M F hr hx I2 r q
/-- x(*y), x a local that holds one of several defs -/
def tCallLS (X : Cx) (CX : CXT) (k i : Nat) (E : XK) (te : TE) : TE := fun σ H Q => ∃ f sp, σ[i]? = some (some (.ref f)) ∧ FnR X.prog X.w X.K X.mg X.base CX k f sp ∧ PySem.W.keepIn X.K (.ref f) = true ∧
  te σ H fun y H1 => ∃ a xs, y = V.ref a ∧ (SqT X.K H1 a xs ∨ SqL X.K H1 a xs) ∧ sp xs H1 Q E
theorem pe_callLS (hr : Room k X.A) (hN : X.N[i]? = some x) (hv : Vis X.env.scope x) (hx : Passes CX X E) (he : PE X e te) (hdb : (x == ("__debug__" : Str)) = false := by decide) (hcd : (x == ("__classdict__" : Str)) = false := by decide)
    (hst : starEach [.Starred e sp_] X.env = [(true, eval e X.env)] := by rfl) : PE X (.Call (.Name x p) [.Starred e sp_] [] pos) (tCallLS X CX k i E te) := by
  refine ⟨fun pins s σ H Q I h => ?_⟩
  obtain ⟨f, sp, hs, F, hk, h⟩ := h
  refine wpAny_Call_Name_kw (thn ((pe_var (pos := p) hN hv hdb hcd).run pins s σ H (fun v H1 => v = .ref f ∧ H1 = H) I ⟨.ref f, hs, rfl, rfl⟩) fun u s1 ⟨v, H1, I1, r1, q1⟩ => ?_)
  obtain ⟨rfl, rfl⟩ := q1
  cases r1
  refine PySem.W.callWith_S (h₀ := X.base) I.ok.mod.kin hk (thn (he.run pins s1 σ _ _ I1 h) fun v s2 ⟨y, H2, I2, ry, a, xs, ey, hxs, q⟩ => ?_) hst
  subst ey
  obtain rfl : v = Value.ref a := ry
  exact star_any I2 hxs fun us s3 I3 rv => ⟨I3.kIn, wpAny_call (run_fnR F hr hx I3 rv q)⟩
end
end Own
namespace K4
open PySem L2 Own StX ClX NdefX
/-! ### the text by places -/
def top (i : Nat) : Stmt := PySem.Challenge.pw_stepblocks_k04_whole_arithmetic.main.body.getD i (.Pass ⟨0, 0, 0, 0⟩)
abbrev sRP : Stmt := top 11
abbrev sAdd : Stmt := top 13
abbrev sSub : Stmt := top 14
abbrev sMul : Stmt := top 15
abbrev sLess : Stmt := top 16
abbrev sEqual : Stmt := top 17
abbrev sPick : Stmt := top 18
abbrev sDivide : Stmt := top 19
abbrev sBI : Stmt := inClass (top 21) 0
abbrev sPI : Stmt := inClass (top 22) 0
abbrev sParse : Stmt := inClass (top 22) 1
abbrev sComp : Stmt := inClass (top 22) 3
abbrev sFeed : Stmt := top 24
abbrev sTake : Stmt := top 25
abbrev sPickL : Stmt := top 26
abbrev sOne : Stmt := top 27
abbrev sRight : Stmt := top 28
abbrev sLaw : Stmt := top 29

/-! ### the primitives -/
inductive Nm where
  | add | sub | mul | less | equal | pick | divide
  deriving DecidableEq
def U : Int := 4294967296
def Nm.s : Nm → Str
  | .add => "add" | .sub => "sub" | .mul => "mul" | .less => "less" | .equal => "equal" | .pick => "pick" | .divide => "divide"
def Nm.comp : Nm → List Int → List Int
  | .add, [a, b] => [(a + b) % 4294967296]
  | .sub, [a, b] => [(a - b) % 4294967296]
  | .mul, [a, b] => [(a * b) % 4294967296]
  | .less, [a, b] => [if a < b then 1 else 0]
  | .equal, [a, b] => [if a = b then 1 else 0]
  | .pick, [c, a, b] => [if c = 0 then b else a]
  | .divide, [a, b] => if b = 0 then [0, a] else [a / b, a % b]
  | _, _ => []
def In32 (x : Int) : Prop := 0 ≤ x ∧ x < 4294967296
def Nm.ok : Nm → List Int → Prop
  | .pick, [c, a, b] => In32 c ∧ In32 a ∧ In32 b
  | .pick, _ => False
  | _, [a, b] => In32 a ∧ In32 b
  | _, _ => False
def spRule (nm : Nm) : Sp := fun vs H Q _ => ∃ args : List Int, vs = args.map V.int ∧ nm.ok args ∧ ∀ p, H p = none → Q (.ref p) (upd H p (.tup ((nm.comp args).map V.int)))
theorem ok2 {nm : Nm} (h : nm ≠ .pick) {args : List Int} (o : nm.ok args) : ∃ a b, args = [a, b] ∧ In32 a ∧ In32 b := by
  cases nm with
  | pick => exact absurd rfl h
  | _ =>
    match args, o with
    | [a, b], o => exact ⟨a, b, rfl, o⟩
theorem ok3 {args : List Int} (o : Nm.pick.ok args) : ∃ c a b, args = [c, a, b] ∧ In32 c ∧ In32 a ∧ In32 b := by
  match args, o with
  | [c, a, b], o => exact ⟨c, a, b, rfl, o⟩
theorem small1 {n : Nat} (h : n ≤ 8) : n ≤ sizeLine := Nat.le_trans h (by decide)
section
variable {P : Program} {w : World} {K : PySem.W.Frag} {mg : Str → Option Value} {base : Heap}
theorem scAB {st : Stmt} (h : (∃ x, (defScope st) = x)) : True := trivial
theorem scAdd : FnScope ["a", "b"] ["a", "b"] (defScope sAdd) := ⟨rfl, rfl, rfl, by decide +kernel, rfl, by decide +kernel, by decide +kernel⟩
theorem scSub : FnScope ["a", "b"] ["a", "b"] (defScope sSub) := ⟨rfl, rfl, rfl, by decide +kernel, rfl, by decide +kernel, by decide +kernel⟩
theorem scMul : FnScope ["a", "b"] ["a", "b"] (defScope sMul) := ⟨rfl, rfl, rfl, by decide +kernel, rfl, by decide +kernel, by decide +kernel⟩
theorem scLess : FnScope ["a", "b"] ["a", "b"] (defScope sLess) := ⟨rfl, rfl, rfl, by decide +kernel, rfl, by decide +kernel, by decide +kernel⟩
theorem scEqual : FnScope ["a", "b"] ["a", "b"] (defScope sEqual) := ⟨rfl, rfl, rfl, by decide +kernel, rfl, by decide +kernel, by decide +kernel⟩
theorem scPick : FnScope ["c", "a", "b"] ["c", "a", "b"] (defScope sPick) := ⟨rfl, rfl, rfl, by decide +kernel, rfl, by decide +kernel, by decide +kernel⟩
theorem scDivide : FnScope ["a", "b"] ["a", "b"] (defScope sDivide) := ⟨rfl, rfl, rfl, by decide +kernel, rfl, by decide +kernel, by decide +kernel⟩
theorem len2 {nm : Nm} (h : nm ≠ .pick) {vs : List V} {H : Hp} {Q : VK} {E : XK} (o : spRule nm vs H Q E) : vs.length = 2 := by
  obtain ⟨args, rfl, o, _⟩ := o
  obtain ⟨a, b, rfl, _⟩ := ok2 h o
  rfl
theorem ok_add {f : Addr} {fd : FuncData} (F : Fun K "_add" "_add" sAdd f fd) {tk : Tok} (hM : mg "MODULUS" = some (.int 4294967296 tk)) : FnOk P w K mg base CX0 1 f fd ["a", "b"] (spRule .add) := by
  refine F.ok scAdd (fun vs H Q E h => len2 (by decide) h) (fun cdv A outer s H vs Q E hr h => ?_)
  obtain ⟨args, rfl, o, k⟩ := h
  obtain ⟨a, b, rfl, ha, hb⟩ := ok2 (by decide) o
  refine ⟨_, pss_one (ps_ret (pe_tup (pa_cons (pe_op op_mod (pe_op op_add (pv 0) (pv 1)) (pe_glob (v := .int 4294967296) rfl hM ⟨_, rfl⟩)) pa_nil))), ?_⟩
  refine ⟨_, rfl, _, rfl, _, _, rfl, rfl, _, _, rfl, rfl, (by show (0 : Int) < 4294967296; decide), small1 (by show 1 ≤ 8; decide), fun p hp => k p hp⟩
theorem ok_sub {f : Addr} {fd : FuncData} (F : Fun K "_sub" "_sub" sSub f fd) {tk : Tok} (hM : mg "MODULUS" = some (.int 4294967296 tk)) : FnOk P w K mg base CX0 1 f fd ["a", "b"] (spRule .sub) := by
  refine F.ok scSub (fun vs H Q E h => len2 (by decide) h) (fun cdv A outer s H vs Q E hr h => ?_)
  obtain ⟨args, rfl, o, k⟩ := h
  obtain ⟨a, b, rfl, ha, hb⟩ := ok2 (by decide) o
  refine ⟨_, pss_one (ps_ret (pe_tup (pa_cons (pe_op op_mod (pe_op op_sub (pv 0) (pv 1)) (pe_glob (v := .int 4294967296) rfl hM ⟨_, rfl⟩)) pa_nil))), ?_⟩
  refine ⟨_, rfl, _, rfl, _, _, rfl, rfl, _, _, rfl, rfl, (by show (0 : Int) < 4294967296; decide), small1 (by show 1 ≤ 8; decide), fun p hp => k p hp⟩
theorem ok_mul {f : Addr} {fd : FuncData} (F : Fun K "_mul" "_mul" sMul f fd) {tk : Tok} (hM : mg "MODULUS" = some (.int 4294967296 tk)) : FnOk P w K mg base CX0 1 f fd ["a", "b"] (spRule .mul) := by
  refine F.ok scMul (fun vs H Q E h => len2 (by decide) h) (fun cdv A outer s H vs Q E hr h => ?_)
  obtain ⟨args, rfl, o, k⟩ := h
  obtain ⟨a, b, rfl, ha, hb⟩ := ok2 (by decide) o
  refine ⟨_, pss_one (ps_ret (pe_tup (pa_cons (pe_op op_mod (pe_op op_mul (pv 0) (pv 1)) (pe_glob (v := .int 4294967296) rfl hM ⟨_, rfl⟩)) pa_nil))), ?_⟩
  refine ⟨_, rfl, _, rfl, _, _, rfl, rfl, .inl ⟨by have := ha.1; omega, by have := ha.2; omega⟩, _, _, rfl, rfl, (by show (0 : Int) < 4294967296; decide), small1 (by show 1 ≤ 8; decide), fun p hp => k p hp⟩
theorem ok_less {f : Addr} {fd : FuncData} (F : Fun K "_less" "_less" sLess f fd) : FnOk P w K mg base CX0 1 f fd ["a", "b"] (spRule .less) := by
  refine F.ok scLess (fun vs H Q E h => len2 (by decide) h) (fun cdv A outer s H vs Q E hr h => ?_)
  obtain ⟨args, rfl, o, k⟩ := h
  obtain ⟨a, b, rfl, ha, hb⟩ := ok2 (by decide) o
  refine ⟨_, pss_one (ps_ret (pe_tup (pa_cons (pe_ifExp (pt_cmpR op_lt (pv 0) (pv 1) (nomark _)) pe_int pe_int) pa_nil))), ?_⟩
  refine ⟨_, rfl, _, rfl, _, _, rfl, rfl, _, rfl, ?_⟩
  by_cases hc : a < b
  · rw [decide_eq_true hc]
    refine iteT ⟨small1 (by show 1 ≤ 8; decide), fun p hp => ?_⟩
    have z := k p hp
    simp only [Nm.comp, if_pos hc] at z
    exact z
  · rw [decide_eq_false hc]
    refine iteF ⟨small1 (by show 1 ≤ 8; decide), fun p hp => ?_⟩
    have z := k p hp
    simp only [Nm.comp, if_neg hc] at z
    exact z
theorem ok_equal {f : Addr} {fd : FuncData} (F : Fun K "_equal" "_equal" sEqual f fd) : FnOk P w K mg base CX0 1 f fd ["a", "b"] (spRule .equal) := by
  refine F.ok scEqual (fun vs H Q E h => len2 (by decide) h) (fun cdv A outer s H vs Q E hr h => ?_)
  obtain ⟨args, rfl, o, k⟩ := h
  obtain ⟨a, b, rfl, ha, hb⟩ := ok2 (by decide) o
  refine ⟨_, pss_one (ps_ret (pe_tup (pa_cons (pe_ifExp (pt_cmpR op_eq (pv 0) (pv 1) (nomark _)) pe_int pe_int) pa_nil))), ?_⟩
  refine ⟨_, rfl, _, rfl, rfl, _, rfl, ?_⟩
  by_cases hc : a = b
  · rw [decide_eq_true (show V.int a = V.int b by rw [hc])]
    refine iteT ⟨small1 (by show 1 ≤ 8; decide), fun p hp => ?_⟩
    have z := k p hp
    simp only [Nm.comp, if_pos hc] at z
    exact z
  · rw [decide_eq_false (show ¬ V.int a = V.int b from fun e => hc (V.int.inj e))]
    refine iteF ⟨small1 (by show 1 ≤ 8; decide), fun p hp => ?_⟩
    have z := k p hp
    simp only [Nm.comp, if_neg hc] at z
    exact z
theorem ok_pick {f : Addr} {fd : FuncData} (F : Fun K "_pick" "_pick" sPick f fd) : FnOk P w K mg base CX0 1 f fd ["c", "a", "b"] (spRule .pick) := by
  refine F.ok scPick (fun vs H Q E h => ?_) (fun cdv A outer s H vs Q E hr h => ?_)
  · obtain ⟨args, rfl, o, _⟩ := h
    obtain ⟨c, a, b, rfl, _⟩ := ok3 o
    rfl
  obtain ⟨args, rfl, o, k⟩ := h
  obtain ⟨c, a, b, rfl, hc, ha, hb⟩ := ok3 o
  refine ⟨_, pss_one (ps_ret (pe_tup (pa_cons (pe_ifExp (pt_cmpR op_eq (pv 0) pe_int (nomark _)) (pv 2) (pv 1)) pa_nil))), ?_⟩
  refine ⟨_, rfl, rfl, _, rfl, ?_⟩
  by_cases hc : c = 0
  · rw [decide_eq_true (show V.int c = V.int 0 by rw [hc])]
    refine iteT ⟨_, rfl, small1 (by show 1 ≤ 8; decide), fun p hp => ?_⟩
    have z := k p hp
    simp only [Nm.comp, if_pos hc] at z
    exact z
  · rw [decide_eq_false (show ¬ V.int c = V.int 0 from fun e => hc (V.int.inj e))]
    refine iteF ⟨_, rfl, small1 (by show 1 ≤ 8; decide), fun p hp => ?_⟩
    have z := k p hp
    simp only [Nm.comp, if_neg hc] at z
    exact z
theorem log_small {b : Int} (h : In32 b) : b.natAbs.log2 < 9000 := by
  have h2 : b.natAbs < 2 ^ 32 := by have := h.1; have := h.2; omega
  exact Nat.lt_trans (PySem.Flt.log2_lt_of (by decide) h2) (by decide)
theorem ok_divide {f : Addr} {fd : FuncData} (F : Fun K "_divide" "_divide" sDivide f fd) : FnOk P w K mg base CX0 1 f fd ["a", "b"] (spRule .divide) := by
  refine F.ok scDivide (fun vs H Q E h => len2 (by decide) h) (fun cdv A outer s H vs Q E hr h => ?_)
  obtain ⟨args, rfl, o, k⟩ := h
  obtain ⟨a, b, rfl, ha, hb⟩ := ok2 (by decide) o
  refine ⟨_, pss_cons (ps_if (pt_cmpR op_eq (pv 1) pe_int (nomark _)) (pss_one (ps_ret (pe_tup (pa_cons pe_int (pa_cons (pv 0) pa_nil))))) pss_nil)
    (pss_one (ps_ret (pe_tup (pa_cons (pe_op op_fdivW (pv 0) (pv 1)) (pa_cons (pe_op op_mod (pv 0) (pv 1)) pa_nil))))), ?_⟩
  refine ⟨_, rfl, rfl, _, rfl, ?_⟩
  by_cases hc : b = 0
  · rw [decide_eq_true (show V.int b = V.int 0 by rw [hc])]
    refine iteT ⟨_, rfl, small1 (by show 2 ≤ 8; decide), fun p hp => ?_⟩
    have z := k p hp
    simp only [Nm.comp, if_pos hc] at z
    exact z
  · rw [decide_eq_false (show ¬ V.int b = V.int 0 from fun e => hc (V.int.inj e))]
    have hpos : 0 < b := by have := hb.1; omega
    refine iteF ⟨_, rfl, _, rfl, _, _, rfl, rfl, ⟨hpos, log_small hb⟩, _, rfl, _, rfl, _, _, rfl, rfl, hpos, small1 (by show 2 ≤ 8; decide), fun p hp => ?_⟩
    have z := k p hp
    simp only [Nm.comp, if_neg hc] at z
    exact z
end
end K4
namespace K4
open PySem L2 Own StX ClX NdefX
theorem putF_len {f : Str} {v : V} : ∀ fs : List (Str × V), (putF f v fs).length ≤ fs.length + 1
  | [] => Nat.le_refl _
  | (g, u) :: r => by
    show (if g = f then _ else _ : List (Str × V)).length ≤ _
    split
    · simp
    · have := putF_len (f := f) (v := v) r
      simp only [List.length_cons]
      omega
def F3 (n i o : V) : List (Str × V) := putF "outputs" o (putF "inputs" i (putF "name" n []))
def F4 (n i o c : V) : List (Str × V) := putF "constant" c (F3 n i o)
theorem F3_len (n i o : V) : (F3 n i o).length ≤ 3 := by
  have h1 := putF_len (f := "outputs") (v := o) (putF "inputs" i (putF "name" n []))
  have h2 := putF_len (f := "inputs") (v := i) (putF "name" n [])
  have h3 := putF_len (f := "name") (v := n) []
  simp only [List.length_nil] at h3
  unfold F3
  omega
theorem F4_name (n i o c : V) : (F4 n i o c).lookup ("name" : Str) = some n := by
  unfold F4 F3
  rw [lookup_putF, if_neg (by decide +kernel), lookup_putF, if_neg (by decide +kernel), lookup_putF, if_neg (by decide +kernel), lookup_putF, if_pos rfl]
theorem F4_const (n i o c : V) : (F4 n i o c).lookup ("constant" : Str) = some c := by
  unfold F4
  rw [lookup_putF, if_pos rfl]
theorem F4_no {n i o c : V} {m : Str} (h1 : ¬ m = "name") (h2 : ¬ m = "inputs") (h3 : ¬ m = "outputs") (h4 : ¬ m = "constant") : (F4 n i o c).lookup m = none := by
  unfold F4 F3
  rw [lookup_putF, if_neg h4, lookup_putF, if_neg h3, lookup_putF, if_neg h2, lookup_putF, if_neg h1]
  rfl
/-- what the top says -/
structure Txt (K : PySem.W.Frag) (w : World) (mg : Str → Option Value) (C B : Addr) : Prop where
  cl : Cls K C
  nN : NoAttr K C "name"
  nI : NoAttr K C "inputs"
  nO : NoAttr K C "outputs"
  nC : NoAttr K C "constant"
  mC : mg "Primitive" = some (.ref C)
  pp : ∃ d es n, mg "PRIMITIVE_PORTS" = some (.ref d) ∧ KDict K w d es n ∧ ∀ nm : Nm, ∃ u tp x y, PySem.W.nsIn K d nm.s = some (some u) ∧ RelV (.ref tp) u ∧ (∀ H, SqT K H tp [x, y])
  ww : ∃ d, mg "WORDS_WITH_VALUE" = some (.ref d) ∧ ∀ H, SqT K H d [.str "const", .str "delay"]
  sup : mg "super" = none
theorem part (nm : Nm) : Txt.partition nm.s " " = (nm.s, (("" : Str)), (("" : Str))) := by cases nm <;> decide +kernel
theorem nm_len (nm : Nm) : nm.s.length ≤ 8 := by cases nm <;> decide +kernel
theorem nm_ww (nm : Nm) : inV (.str nm.s) [.str "const", .str "delay"] = false := by cases nm <;> decide +kernel
theorem nm_nc (nm : Nm) : ¬ nm.s = "const" := by cases nm <;> decide +kernel
def spRP : Sp := fun vs H Q _ => ∃ nm : Nm, vs = [.str nm.s] ∧ ∀ t H', Same H H' → H t = none → H' t = some (.tup [.str nm.s, .non]) → Q (.ref t) H'
def spBI (K : PySem.W.Frag) : Sp := fun vs H Q _ => ∃ p C dx n i o, vs = [.ref p, n, i, o] ∧ H p = some (.ins C dx []) ∧ Cls K C ∧ NoAttr K C "name" ∧ NoAttr K C "inputs" ∧ NoAttr K C "outputs" ∧ Q .non (upd H p (.ins C dx (F3 n i o)))
section
variable {P : Program} {w : World} {K : PySem.W.Frag} {mg : Str → Option Value} {base : Heap} {C B : Addr}
theorem scRP : FnScope ["text", "word", "space", "rest", "constant"] ["text"] (defScope sRP) := ⟨rfl, rfl, rfl, by decide +kernel, rfl, by decide +kernel, by decide +kernel⟩
theorem upd_new {H : Hp} {p : Addr} {o : HO} (h : H p = none) : Same H (upd H p o) := fun b u e => by
  rw [upd_ne (ne_of_none e h)]
  exact e
theorem ok_rp {f : Addr} {fd : FuncData} (F : Fun K "read_primitive" "read_primitive" sRP f fd) (T : Txt K w mg C B) : FnOk P w K mg base CX0 1 f fd ["text"] spRP := by
  refine F.ok scRP (fun vs H Q E h => ?_) (fun cdv A outer s H vs Q E hr h => ?_)
  · obtain ⟨nm, rfl, _⟩ := h
    rfl
  obtain ⟨nm, rfl, k⟩ := h
  obtain ⟨d, es, n, hd, D, hP⟩ := T.pp
  obtain ⟨dW, hW, hWs⟩ := T.ww
  refine ⟨_, pss_cons (ps_asg (pe_partition (pv 0) pe_str) (pg_tup (by rfl) (pgs_cons (pg_name (i := 1) scRP.nd rfl (.inl rfl)) (pgs_cons (pg_name (i := 2) scRP.nd rfl (.inl rfl)) (pgs_cons (pg_name (i := 3) scRP.nd rfl (.inl rfl)) pgs_nil)))))
    (pss_cons (ps_if (pt_cmpR (op_notIn_kd D) (pv 1) (pe_glob (v := .ref d) rfl hd rfl) (by rfl)) (pss_one (ps_ret pe_non)) pss_nil)
    (pss_cons (ps_if (pt_cmpR op_notIn_seq (pv 1) (pe_glob (v := .ref dW) rfl hW rfl) (by rfl)) (pss_one (ps_ret (pe_ifExp (pt_truth (pv 2) (by intro _; rfl)) pe_non (pe_tup (pa_cons (pv 1) (pa_cons pe_non pa_nil)))))) pss_nil) pss_never)), ?_⟩
  refine ⟨_, rfl, ⟨_, rfl⟩, _, _, rfl, rfl, by decide +kernel, Nat.le_trans (nm_len nm) (by decide), fun p hp => ?_⟩
  rw [part nm]
  refine ⟨p, _, rfl, .of upd_same, rfl, _, _, rfl, _, _, rfl, _, _, rfl, rfl, ?_⟩
  obtain ⟨u, tp, x, y, h1, h2, h3⟩ := hP nm
  refine ⟨_, rfl, nm.s, some u, rfl, rfl, h1, _, rfl, ?_⟩
  refine iteF ⟨_, rfl, dW, _, rfl, .inr (hWs _), rfl, rfl, _, rfl, ?_⟩
  rw [nm_ww nm]
  refine iteT ⟨_, rfl, false, ⟨(by show (("" : Str)).length ≤ sizeLine; decide +kernel), (by show false = (((("" : Str)).length : Int) != 0); decide +kernel)⟩, iteF ⟨_, rfl, small1 (by show 2 ≤ 8; decide), fun t ht => ?_⟩⟩
  have hn : H t = none := (upd_new hp).free ht
  exact k t _ (Same.trans (upd_new hp) (upd_new ht)) hn upd_same
theorem scBI : FnScope ["self", "name", "inputs", "outputs"] ["self", "name", "inputs", "outputs"] (defScope sBI) := ⟨rfl, rfl, rfl, by decide +kernel, rfl, by decide +kernel, by decide +kernel⟩
theorem ok_bi {f : Addr} {fd : FuncData} (F : Fun K "__init__" "Block.__init__" sBI f fd) : FnOk P w K mg base CX0 1 f fd ["self", "name", "inputs", "outputs"] (spBI K) := by
  refine F.ok scBI (fun vs H Q E h => ?_) (fun cdv A outer s H vs Q E hr h => ?_)
  · obtain ⟨p, C, dx, n, i, o, rfl, _⟩ := h
    rfl
  obtain ⟨p, C, dx, n, i, o, rfl, hp, c, n1, n2, n3, k⟩ := h
  refine ⟨_, pss_cons (ps_fld (pv 0) (pv 1) rfl) (pss_cons (ps_fld (pv 0) (pv 2) rfl) (pss_one (ps_fld (pv 0) (pv 3) rfl))), ?_⟩
  refine ⟨_, rfl, _, rfl, p, C, dx, [], rfl, hp, c, n1, (by show 0 < 1000; decide), ?_⟩
  refine ⟨_, rfl, _, rfl, p, C, dx, _, rfl, upd_same, c, n2, (by have := putF_len (f := "name") (v := n) []; simp only [List.length_nil] at this; omega), ?_⟩
  refine ⟨_, rfl, _, rfl, p, C, dx, _, rfl, upd_same, c, n3, (by
    have h2 := putF_len (f := "inputs") (v := i) (putF "name" n [])
    have h3 := putF_len (f := "name") (v := n) []
    simp only [List.length_nil] at h3
    omega), ?_⟩
  rw [upd_upd, upd_upd]
  exact k
/-! ### Primitive.__init__ -/
def spPI (K : PySem.W.Frag) (C : Addr) : Sp := fun vs H Q _ => ∃ p dx nm, vs = [.ref p, .str (Nm.s nm), .non] ∧ H p = some (.ins C dx []) ∧ ∀ i o, Q .non (upd H p (.ins C dx (F4 (.str nm.s) i o .non)))
def nfPI (cc cda : Addr) : NF := ⟨"__init__", "Primitive.__init__", defArgs sPI, defBody sPI, defScope sPI, [("__class__", cc)], cda⟩
theorem nsPI : NScope ["self", "name", "constant", "__class__", "inputs", "outputs"] ["self", "name", "constant"] ["__class__"] (defScope sPI) := nscope_by (by decide +kernel)
theorem ndPI : (["self", "name", "constant", "__class__", "inputs", "outputs"] : List Str).Nodup := by decide +kernel
/-- Primitive.__init__ as it stands behind the top -/
structure PIn (K : PySem.W.Frag) (P : Program) (C B f cc cda fB : Addr) : Prop where
  ex : ∃ oc od osl doc pm an ct, K.lookup f = some ⟨oc, od, .func (PySem.W.fnX "__init__" "Primitive.__init__" (defArgs sPI) (defBody sPI) (defScope sPI) [(("__class__" : Str), cc)] .none .none doc pm an (.ref cda) ct), osl⟩ ∧
    SupK K P f cda cc C (PySem.W.fnX "__init__" "Primitive.__init__" (defArgs sPI) (defBody sPI) (defScope sPI) [(("__class__" : Str), cc)] .none .none doc pm an (.ref cda) ct) "self"
  code : PySem.W.codeIn K (.ref cda) "Primitive.__init__" = true
  sc : SupC K C C "__init__" fB
theorem ok_pi {f cc cda fB : Addr} {fdB : FuncData} (Z : PIn K P C B f cc cda fB) (T : Txt K w mg C B) (GB : FnOk P w K mg base CX0 1 fB fdB ["self", "name", "inputs", "outputs"] (spBI K)) (bB : Binds K fdB ["self", "name", "inputs", "outputs"] []) :
    FnR P w K mg base CX0 2 f (spPI K C) := by
  obtain ⟨oc, od, osl, doc, pm, an, ct, lk, SK⟩ := Z.ex
  have GR : FnR P w K mg base CX0 1 fB (spBI K) := by
    have z := GB.raw bB .nil
    simpa only [List.append_nil] using z
  refine fnr_super (F := nfPI cc cda) (cc := cc) (D := C) lk Z.code rfl SK.cell nsPI (fun us hl => match us, hl with | [_, _, _], _ => rfl) (fun vs H Q E h => ?_) (fun A outer s H vs Q E hr h => ?_)
  · obtain ⟨p, dx, nm, rfl, _⟩ := h
    rfl
  obtain ⟨p, dx, nm, rfl, hp, k⟩ := h
  obtain ⟨d, es, n, hd, D, hP⟩ := T.pp
  refine ⟨_, psa_cons (ps_asg (pe_ix ix_kdict (pe_glob (v := .ref d) rfl hd rfl) (pv 1) (fun _ _ => rfl)) (pg_tup (by rfl) (pgs_cons (pg_name (i := 4) ndPI rfl (.inl rfl)) (pgs_cons (pg_name (i := 5) ndPI rfl (.inl rfl)) pgs_nil))))
    (psa_super (self := "self") SK rfl rfl rfl rfl rfl rfl rfl T.sup GR hr pass0 (pa_cons (pv 1) (pa_cons (pv 4) (pa_cons (pv 5) pa_nil))) (psa_of (pss_one (ps_fld (pv 0) (pv 2) rfl)))), ?_⟩
  obtain ⟨u, tp, x, y, h1, h2, h3⟩ := hP nm
  refine ⟨_, rfl, d, nm.s, .ref tp, rfl, rfl, ⟨es, n, u, D.at_, D.lit, h1, h2⟩, tp, _, rfl, h3 _, rfl, _, _, rfl, _, _, rfl, rfl, ?_⟩
  refine ⟨p, C, dx, [], rfl, hp, Z.sc, _, rfl, _, rfl, _, rfl, p, C, dx, _, _, _, rfl, hp, T.cl, T.nN, T.nI, T.nO, ?_⟩
  refine ⟨_, rfl, _, rfl, p, C, dx, _, rfl, upd_same, T.cl, T.nC, (by have := F3_len (.str nm.s) x y; omega), ?_⟩
  rw [upd_upd]
  exact k x y
end
end K4
namespace K4
open PySem L2 Own StX ClX NdefX
def spParse (C : Addr) : Sp := fun vs H Q _ => ∃ nm : Nm, vs = [.ref C, .str nm.s] ∧ ∀ x dx i o H', Same H H' → H x = none → H' x = some (.ins C dx (F4 (.str nm.s) i o .non)) → Q (.ref x) H'
def spComp (K : PySem.W.Frag) (C : Addr) : Sp := fun vs H Q _ => ∃ (p t dx : Addr) (i o : V) (nm : Nm) (args : List Int), vs = [.ref p, .ref t] ∧ H p = some (.ins C dx (F4 (.str nm.s) i o .non)) ∧ SqT K H t (args.map V.int) ∧ nm.ok args ∧
  ∀ r, H r = none → Q (.ref r) (upd H r (.tup ((nm.comp args).map V.int)))
def spFeed (K : PySem.W.Frag) : Sp := fun vs H Q _ => ∃ (a : Addr) (ns : List Int) (k : Int), vs = [.ref a, .int k] ∧ SqL K H a (ns.map V.int) ∧ 0 ≤ k ∧ k ≤ 100 ∧
  ∀ p d s, 0 ≤ d → H p = none → Q (.ref p) (upd H p (.lst [.int d, .int s]))
def spTake : Sp := fun vs H Q _ => ∃ (a : Addr) (d s m : Int), vs = [.ref a, .int m] ∧ H a = some (.lst [.int d, .int s]) ∧ 0 ≤ d ∧ 0 < m ∧ m ≤ 8589934592 ∧
  ∀ r d' s', 0 ≤ d' → 0 ≤ r → r < m → Q (.int r) (upd H a (.lst [.int d', .int s']))
def spPickL : Sp := fun vs H Q _ => ∃ (a b : Addr) (d s : Int) (xs : List V), vs = [.ref a, .ref b] ∧ H a = some (.lst [.int d, .int s]) ∧ H b = some (.lst xs) ∧ a ≠ b ∧ 0 ≤ d ∧ 0 < xs.length ∧ xs.length ≤ 1000 ∧
  ∀ x d' s', x ∈ xs → 0 ≤ d' → Q x (upd H a (.lst [.int d', .int s']))
def Nm.one (nm : Nm) (a b : Int) : Int := (nm.comp [a, b]).headD 0
def spOne : Sp := fun vs H Q _ => ∃ (nm : Nm) (a b : Int), vs = [.str nm.s, .int a, .int b] ∧ nm ≠ .pick ∧ In32 a ∧ In32 b ∧ ∀ H', Same H H' → Q (.int (nm.one a b)) H'
section
variable {P : Program} {w : World} {K : PySem.W.Frag} {mg : Str → Option Value} {base : Heap} {C B : Addr}
theorem scPa : FnScope ["cls", "text", "found", "name", "constant"] ["cls", "text"] (defScope sParse) := ⟨rfl, rfl, rfl, by decide +kernel, rfl, by decide +kernel, by decide +kernel⟩
theorem ok_parse {f fR fI : Addr} {fd fdR : FuncData} (F : Fun K "parse" "Primitive.parse" sParse f fd) (T : Txt K w mg C B) (GR : FnOk P w K mg base CX0 1 fR fdR ["text"] spRP) (mR : mg "read_primitive" = some (.ref fR)) (kR : PySem.W.keepIn K (.ref fR) = true) (bR : Binds K fdR ["text"] [])
    (M : Mk K C fI) (GI : FnR P w K mg base CX0 2 fI (spPI K C)) : FnOk P w K mg base CX0 4 f fd ["cls", "text"] (spParse C) := by
  refine F.ok scPa (fun vs H Q E h => ?_) (fun cdv A outer s H vs Q E hr h => ?_)
  · obtain ⟨nm, rfl, _⟩ := h
    rfl
  obtain ⟨nm, rfl, k⟩ := h
  refine ⟨_, pss_cons (ps_set (i := 2) scPa.nd rfl (.inl rfl) (pe_call GR (hr.mono (by decide)) rfl mR kR bR .nil pass0 (pa_cons (pv 1) pa_nil)))
    (pss_cons (ps_if (pt_cmpR op_isN (pv 2) pe_non (nomark _)) pss_never pss_nil)
    (pss_cons (ps_asg (pv 2) (pg_tup (by rfl) (pgs_cons (pg_name (i := 3) scPa.nd rfl (.inl rfl)) (pgs_cons (pg_name (i := 4) scPa.nd rfl (.inl rfl)) pgs_nil))))
    (pss_one (ps_ret (pe_makeL (i := 0) M GI hr rfl (.inl rfl) pass0 (pa_cons (pv 3) (pa_cons (pv 4) pa_nil))))))), ?_⟩
  refine ⟨_, rfl, nm, rfl, fun t H' s1 ht ht' => ?_⟩
  refine ⟨_, rfl, rfl, _, rfl, iteF ?_⟩
  refine ⟨_, rfl, t, _, rfl, .of ht', rfl, _, _, rfl, _, _, rfl, rfl, ?_⟩
  refine ⟨rfl, _, rfl, _, rfl, fun x dx hx hdx hne => ⟨x, dx, nm, rfl, upd_same, fun i o => ⟨rfl, ?_⟩⟩⟩
  have hHx : H x = none := s1.free hx
  refine k x dx i o _ (fun b u e => ?_) hHx upd_same
  have e1 := s1 b u e
  rw [upd_ne (ne_of_none e1 hx), upd_ne (ne_of_none e1 hx), upd_ne (ne_of_none e1 hdx)]
  exact e1
theorem scCo : FnScope ["self", "values", "rule"] ["self", "values"] (defScope sComp) := ⟨rfl, rfl, rfl, by decide +kernel, rfl, by decide +kernel, by decide +kernel⟩
theorem ok_comp {f : Addr} {fd : FuncData} (F : Fun K "compute" "Primitive.compute" sComp f fd) (T : Txt K w mg C B)
    (RU : ∃ d es n, mg "RULES" = some (.ref d) ∧ KDict K w d es n ∧ ∀ nm : Nm, ∃ g, PySem.W.nsIn K d nm.s = some (some (.ref g)) ∧ FnR P w K mg base CX0 1 g (spRule nm) ∧ PySem.W.keepIn K (.ref g) = true) :
    FnOk P w K mg base CX0 2 f fd ["self", "values"] (spComp K C) := by
  refine F.ok scCo (fun vs H Q E h => ?_) (fun cdv A outer s H vs Q E hr h => ?_)
  · obtain ⟨p, t, dx, i, o, nm, args, rfl, _⟩ := h
    rfl
  obtain ⟨p, t, dx, i, o, nm, args, rfl, hp, ht, hok, k⟩ := h
  obtain ⟨d, es, n, hd, D, hR⟩ := RU
  obtain ⟨g, hg, G, kg⟩ := hR nm
  refine ⟨_, pss_cons (ps_if (pt_cmpR op_eq (pe_fld (pv 0) rfl) pe_str (nomark _)) pss_never pss_nil)
    (pss_cons (ps_set (i := 2) scCo.nd rfl (.inl rfl) (pe_ix ix_kdict (pe_glob (v := .ref d) rfl hd rfl) (pe_fld (pv 0) rfl) (fun _ _ => rfl)))
    (pss_one (ps_ret (pe_callLS (i := 2) hr rfl (.inl rfl) pass0 (pv 1))))), ?_⟩
  refine ⟨_, rfl, p, C, dx, _, _, rfl, hp, T.cl, T.nN, F4_name _ _ _ _, rfl, _, rfl, ?_⟩
  rw [decide_eq_false (show ¬ V.str nm.s = V.str "const" from fun e => nm_nc nm (V.str.inj e))]
  refine iteF ⟨_, rfl, p, C, dx, _, _, rfl, hp, T.cl, T.nN, F4_name _ _ _ _, d, nm.s, .ref g, rfl, rfl, ⟨es, n, _, D.at_, D.lit, hg, rfl⟩, ?_⟩
  exact ⟨g, spRule nm, rfl, G, kg, _, rfl, t, _, rfl, .inl ht, args, rfl, hok, fun r hr => k r hr⟩
theorem scFe : FnScope ["script", "k", "cell", "digits", "state"] ["script", "k"] (defScope sFeed) := ⟨rfl, rfl, rfl, by decide +kernel, rfl, by decide +kernel, by decide +kernel⟩
theorem ok_feed {f : Addr} {fd : FuncData} (F : Fun K "_law_feed" "_law_feed" sFeed f fd) (mlen : mg "len" = none) (mmax : mg "max" = none) (mabs : mg "abs" = none) : FnOk P w K mg base CX0 1 f fd ["script", "k"] (spFeed K) := by
  refine F.ok scFe (fun vs H Q E h => ?_) (fun cdv A outer s H vs Q E hr h => ?_)
  · obtain ⟨a, ns, k, rfl, _⟩ := h
    rfl
  obtain ⟨a, ns, k, rfl, hS, h0, h1, q⟩ := h
  refine ⟨_, pss_join (ps_set (i := 2) scFe.nd rfl (.inl rfl) (pe_ifExp (pt_cmpR op_lt (pv 1) (pe_callB call_len_seq (by rfl) mlen PySem.boot_len (pa_cons (pv 0) pa_nil)) (nomark _)) (pe_ix ix_list (pv 0) (pv 1) (fun _ _ => rfl)) (pe_op op_add (pe_op op_mul pe_int (pv 1)) pe_int)))
    (pss_cons (ps_set (i := 3) scFe.nd rfl (.inl rfl) (pe_callB (call_max2 rfl) (by rfl) mmax (by decide +kernel) (pa_cons pe_int (pa_cons (pe_op op_sub (pe_callB call_abs (by rfl) mabs (by decide +kernel) (pa_cons (pv 2) pa_nil)) (pe_op op_pow pe_int pe_int)) pa_nil))))
    (pss_cons (ps_set (i := 4) scFe.nd rfl (.inl rfl) (pe_op op_mod (pe_op op_add (pe_op op_add (pe_op op_mul (pv 2) pe_int) (pe_op op_mul pe_int (pv 1))) pe_int) pe_int))
    (pss_one (ps_ret (pe_lst (pa_cons (pv 3) (pa_cons (pv 4) pa_nil))))))), ?_⟩
  refine ⟨fun σ H' => H' = H ∧ ∃ c : Int, σ = [some (.ref a), some (.int k), some (.int c), none, none], ?_, ?_⟩
  · refine ⟨_, rfl, _, rfl, a, _, rfl, .inl hS, _, _, rfl, rfl, _, rfl, ?_⟩
    by_cases hc : k < (ns.map V.int).length
    · rw [decide_eq_true hc]
      have hj : k.toNat < ns.length := by rw [List.length_map] at hc; omega
      exact iteT ⟨_, rfl, _, rfl, a, _, _, .int (ns[k.toNat]), rfl, rfl, hS, at_of (j := k.toNat) (by omega) (by simp [hj]), rfl, _, rfl⟩
    · rw [decide_eq_false hc]
      exact iteF ⟨_, rfl, _, _, rfl, rfl, .inl ⟨by decide, by decide⟩, _, _, rfl, rfl, rfl, _, rfl⟩
  rintro σ H' ⟨rfl, c, rfl⟩
  refine ⟨_, rfl, _, rfl, _, _, rfl, rfl, ⟨by decide, by decide, by decide⟩, _, _, rfl, rfl, _, _, rfl, ?_⟩
  refine ⟨_, rfl, _, _, rfl, rfl, .inr ⟨by decide, by decide⟩, _, rfl, _, _, rfl, rfl, .inl ⟨by decide, by decide⟩, _, _, rfl, rfl, _, _, rfl, rfl, _, _, rfl, rfl, (by show (0 : Int) < 2305843009213693951; decide), ?_⟩
  refine ⟨_, rfl, _, rfl, small1 (by show 2 ≤ 8; decide), fun p hp => q p _ _ ?_ hp⟩
  split <;> omega
theorem scTk : FnScope ["feed", "many", "digit"] ["feed", "many"] (defScope sTake) := ⟨rfl, rfl, rfl, by decide +kernel, rfl, by decide +kernel, by decide +kernel⟩
theorem log_many {m : Int} (h : 0 < m) (h2 : m ≤ 8589934592) : m.natAbs.log2 < 9000 := by
  have h2 : m.natAbs < 2 ^ 34 := by omega
  exact Nat.lt_trans (PySem.Flt.log2_lt_of (by decide) h2) (by decide)
theorem ok_take {f : Addr} {fd : FuncData} (F : Fun K "_law_take" "_law_take" sTake f fd) : FnOk P w K mg base CX0 1 f fd ["feed", "many"] spTake := by
  refine F.ok scTk (fun vs H Q E h => ?_) (fun cdv A outer s H vs Q E hr h => ?_)
  · obtain ⟨a, d, s, m, rfl, _⟩ := h
    rfl
  obtain ⟨a, d, s, m, rfl, ha, h0, hm, hm2, k⟩ := h
  have at0 : ∀ x y : Int, atI [V.int x, V.int y] 0 = some (.int x) := fun x y => at_of (j := 0) rfl rfl
  have at1 : ∀ x y : Int, atI [V.int x, V.int y] 1 = some (.int y) := fun x y => at_of (j := 1) rfl rfl
  have ix0 : ixN 2 0 = some 0 := by decide +kernel
  have ix1 : ixN 2 1 = some 1 := by decide +kernel
  refine ⟨_, pss_cons (ps_if (pt_cmpR op_gt (pe_ix ix_list (pv 0) pe_int (fun _ _ => rfl)) pe_int (nomark _))
      (pss_cons (ps_set (i := 2) scTk.nd rfl (.inl rfl) (pe_op op_mod (pe_ix ix_list (pv 0) pe_int (fun _ _ => rfl)) (pv 1)))
      (pss_cons (ps_asg (pe_op op_fdivW (pe_ix ix_list (pv 0) pe_int (fun _ _ => rfl)) (pv 1)) (pg_sub (pv 0) pe_int set_list))
      (pss_one (ps_ret (pv 2))))) pss_nil)
    (pss_cons (ps_asg (pe_op op_mod (pe_op op_add (pe_op op_mul (pe_ix ix_list (pv 0) pe_int (fun _ _ => rfl)) pe_int) pe_int) pe_int) (pg_sub (pv 0) pe_int set_list))
    (pss_one (ps_ret (pe_op op_mod (pe_op op_fdiv (pe_ix ix_list (pv 0) pe_int (fun _ _ => rfl)) pe_int) (pv 1))))), ?_⟩
  refine ⟨_, rfl, a, _, _, _, rfl, rfl, .of ha, at0 _ _, _, _, rfl, rfl, _, rfl, ?_⟩
  by_cases hc : 0 < d
  · rw [decide_eq_true hc]
    refine iteT ⟨_, rfl, a, _, _, _, rfl, rfl, .of ha, at0 _ _, _, rfl, _, _, rfl, rfl, hm, ?_⟩
    refine ⟨_, rfl, a, _, _, _, rfl, rfl, .of ha, at0 _ _, _, rfl, _, _, rfl, rfl, ⟨hm, log_many hm hm2⟩, _, rfl, a, _, _, 0, rfl, rfl, ha, ix0, ?_⟩
    exact ⟨_, rfl, k _ _ s (Int.ediv_nonneg h0 (by omega)) (Int.emod_nonneg _ (by omega)) (Int.emod_lt_of_pos _ hm)⟩
  · rw [decide_eq_false hc]
    refine iteF ⟨_, rfl, a, _, _, _, rfl, rfl, .of ha, at1 _ _, _, _, rfl, rfl, .inr ⟨by decide, by decide⟩, _, _, rfl, rfl, _, _, rfl, rfl, (by show (0 : Int) < 2305843009213693951; decide), _, rfl, a, _, _, 1, rfl, rfl, ha, ix1, ?_⟩
    refine ⟨_, rfl, a, _, _, _, rfl, rfl, .of upd_same, at1 _ _, _, _, rfl, rfl, ⟨by decide, by decide⟩, _, rfl, _, _, rfl, rfl, hm, ?_⟩
    exact k _ d _ h0 (Int.emod_nonneg _ (by omega)) (Int.emod_lt_of_pos _ hm)
theorem scPk : FnScope ["feed", "some"] ["feed", "some"] (defScope sPickL) := ⟨rfl, rfl, rfl, by decide +kernel, rfl, by decide +kernel, by decide +kernel⟩
theorem ok_pickl {f fT : Addr} {fd fdT : FuncData} (F : Fun K "_law_pick" "_law_pick" sPickL f fd) (GT : FnOk P w K mg base CX0 1 fT fdT ["feed", "many"] spTake) (mT : mg "_law_take" = some (.ref fT)) (kT : PySem.W.keepIn K (.ref fT) = true) (bT : Binds K fdT ["feed", "many"] []) (mlen : mg "len" = none) :
    FnOk P w K mg base CX0 2 f fd ["feed", "some"] spPickL := by
  refine F.ok scPk (fun vs H Q E h => ?_) (fun cdv A outer s H vs Q E hr h => ?_)
  · obtain ⟨a, b, d, s, xs, rfl, _⟩ := h
    rfl
  obtain ⟨a, b, d, s, xs, rfl, ha, hb, hab, h0, hx0, hx1, k⟩ := h
  refine ⟨_, pss_one (ps_ret (pe_ix ix_list (pv 1) (pe_call GT hr rfl mT kT bT .nil pass0 (pa_cons (pv 0) (pa_cons (pe_callB call_len_seq (by rfl) mlen PySem.boot_len (pa_cons (pv 1) pa_nil)) pa_nil))) (fun _ _ => rfl))), ?_⟩
  refine ⟨_, rfl, _, rfl, _, rfl, b, xs, rfl, .inl (.of hb), a, d, s, xs.length, rfl, ha, h0, by omega, by omega, fun r d' s' hd hr0 hr1 => ?_⟩
  have hj : r.toNat < xs.length := by omega
  refine ⟨b, xs, r, xs[r.toNat], rfl, rfl, .of ?_, at_of (j := r.toNat) (by omega) (by simp [hj]), k _ d' s' (List.getElem_mem _) hd⟩
  rw [upd_ne (fun e => hab e.symm)]
  exact hb
theorem scOn : FnScope ["name", "one", "other"] ["name", "one", "other"] (defScope sOne) := ⟨rfl, rfl, rfl, by decide +kernel, rfl, by decide +kernel, by decide +kernel⟩
/-- Primitive.parse and Primitive.compute, callable -/
structure Par (P : Program) (w : World) (K : PySem.W.Frag) (mg : Str → Option Value) (base : Heap) (C : Addr) : Prop where
  cm : ∃ mc p g, CRead K C mc ∧ CMet K C mc "parse" p g ∧ FnR P w K mg base CX0 4 g (spParse C)
  co : ∃ g fd, Meth K C "compute" g ∧ FnOk P w K mg base CX0 2 g fd ["self", "values"] (spComp K C) ∧ Binds K fd ["self", "values"] []
theorem ok_comp2 {nm : Nm} (h : nm ≠ .pick) {a b : Int} (ha : In32 a) (hb : In32 b) : nm.ok [a, b] := by
  cases nm with
  | pick => exact absurd rfl h
  | _ => exact ⟨ha, hb⟩
theorem comp_one {nm : Nm} (h : nm ≠ .pick) (a b : Int) : ∃ r, nm.comp [a, b] = nm.one a b :: r := by
  cases nm with
  | pick => exact absurd rfl h
  | divide =>
    by_cases hb : b = 0
    · subst hb
      exact ⟨_, rfl⟩
    · refine ⟨[a % b], ?_⟩
      simp [Nm.one, Nm.comp, hb]
  | _ => exact ⟨_, rfl⟩
theorem ok_one {f : Addr} {fd : FuncData} (F : Fun K "_law_one" "_law_one" sOne f fd) (T : Txt K w mg C B) (Pa : Par P w K mg base C) : FnOk P w K mg base CX0 5 f fd ["name", "one", "other"] spOne := by
  refine F.ok scOn (fun vs H Q E h => ?_) (fun cdv A outer s H vs Q E hr h => ?_)
  · obtain ⟨nm, a, b, rfl, _⟩ := h
    rfl
  obtain ⟨nm, a, b, rfl, hp, ha, hb, k⟩ := h
  obtain ⟨mc, p, g, cr, cm, G⟩ := Pa.cm
  obtain ⟨gc, fdc, me, GC, bC⟩ := Pa.co
  refine ⟨_, pss_one (ps_ret (pe_ix ix_tup (pe_meth (pe_cmeth (pe_glob (v := .ref C) rfl T.mC rfl) cr cm G hr pass0 (pa_cons (pv 0) pa_nil)) T.cl me GC (hr.mono (by decide)) bC .nil pass0 (pa_cons (pe_tup (pa_cons (pv 1) (pa_cons (pv 2) pa_nil))) pa_nil)) pe_int (fun _ _ => rfl))), ?_⟩
  refine ⟨rfl, _, rfl, nm, rfl, fun x dx i o H1 s1 hx hx1 => ?_⟩
  refine ⟨x, dx, _, rfl, hx1, F4_no (by decide +kernel) (by decide +kernel) (by decide +kernel) (by decide +kernel), _, rfl, _, rfl, small1 (by show 2 ≤ 8; decide), fun t ht => ?_⟩
  refine ⟨x, t, dx, i, o, nm, [a, b], rfl, by rw [upd_ne (ne_of_none hx1 ht)]; exact hx1, .of upd_same, ok_comp2 hp ha hb, fun r hr => ?_⟩
  obtain ⟨rest, he⟩ := comp_one hp a b
  refine ⟨r, _, 0, .int (nm.one a b), rfl, rfl, .of upd_same, at_of (j := 0) rfl (by rw [he]; rfl), k _ ?_⟩
  exact Same.trans s1 (Same.trans (upd_new ht) (upd_new hr))
end
end K4
namespace K4
open PySem L2
theorem in_mod (z : Int) : In32 (z % 4294967296) := ⟨Int.emod_nonneg _ (by decide), Int.emod_lt_of_pos _ (by decide)⟩
theorem one_in {nm : Nm} (h : nm ≠ .pick) {a b : Int} (ha : In32 a) (hb : In32 b) : In32 (nm.one a b) := by
  cases nm with
  | pick => exact absurd rfl h
  | add => exact in_mod _
  | sub => exact in_mod _
  | mul => exact in_mod _
  | less =>
    show In32 (if a < b then 1 else 0)
    split <;> exact ⟨by decide, by decide⟩
  | equal =>
    show In32 (if a = b then 1 else 0)
    split <;> exact ⟨by decide, by decide⟩
  | divide =>
    show In32 ((if b = 0 then [0, a] else [a / b, a % b]).headD 0)
    split
    · exact (show In32 0 from ⟨by decide, by decide⟩)
    · refine ⟨Int.ediv_nonneg ha.1 hb.1, Int.lt_of_le_of_lt (Int.ediv_le_self _ ha.1) ha.2⟩
def dq (a b : Int) : Int := if b = 0 then 0 else a / b
def dr (a b : Int) : Int := if b = 0 then a else a % b
theorem div_comp (a b : Int) : Nm.divide.comp [a, b] = [dq a b, dr a b] := by
  show (if b = 0 then [0, a] else [a / b, a % b]) = _
  unfold dq dr
  split <;> rfl
theorem dq_in {a b : Int} (ha : In32 a) (hb : In32 b) : In32 (dq a b) := by
  unfold dq
  split
  · exact ⟨by decide, by decide⟩
  · exact ⟨Int.ediv_nonneg ha.1 hb.1, Int.lt_of_le_of_lt (Int.ediv_le_self _ ha.1) ha.2⟩
theorem dr_in {a b : Int} (ha : In32 a) (hb : In32 b) : In32 (dr a b) := by
  unfold dr
  split
  · exact ha
  · have h0 := ha.1
    have h2 := hb.1
    have h3 := hb.2
    have hp : 0 < b := by omega
    have := Int.emod_lt_of_pos a hp
    exact ⟨Int.emod_nonneg _ (by omega), by omega⟩
theorem m_subadd {x y : Int} (hx : In32 x) (hy : In32 y) : Nm.sub.one (Nm.add.one x y) y = x := by
  show ((x + y) % 4294967296 - y) % 4294967296 = x
  have := hx.1; have := hx.2; have := hy.1; have := hy.2
  omega
theorem m_addsub {x y : Int} (hx : In32 x) (hy : In32 y) : Nm.add.one (Nm.sub.one x y) y = x := by
  show ((x - y) % 4294967296 + y) % 4294967296 = x
  have := hx.1; have := hx.2; have := hy.1; have := hy.2
  omega
theorem m_comm {nm : Nm} (h : nm = .add ∨ nm = .mul ∨ nm = .equal) (x y : Int) : nm.one x y = nm.one y x := by
  rcases h with rfl | rfl | rfl
  · show (x + y) % 4294967296 = (y + x) % 4294967296
    rw [Int.add_comm]
  · show (x * y) % 4294967296 = (y * x) % 4294967296
    rw [Int.mul_comm]
  · show (if x = y then 1 else 0) = (if y = x then 1 else 0)
    by_cases e : x = y
    · rw [if_pos e, if_pos e.symm]
    · rw [if_neg e, if_neg fun z => e z.symm]
theorem m_div {x y : Int} (hx : In32 x) (hy : In32 y) : Nm.add.one (Nm.mul.one (dq x y) y) (dr x y) = x := by
  show ((dq x y * y) % 4294967296 + dr x y) % 4294967296 = x
  rw [Int.emod_add_emod]
  have e : dq x y * y + dr x y = x := by
    unfold dq dr
    split
    · omega
    · have := Int.mul_ediv_add_emod x y
      rw [Int.mul_comm] at this
      exact this
  rw [e]
  exact Int.emod_eq_of_lt hx.1 hx.2
theorem m_rest {x y : Int} (hy : In32 y) (h : y ≠ 0) : Nm.less.one (dr x y) y = 1 := by
  show (if dr x y < y then 1 else 0) = 1
  have hp : 0 < y := by have := hy.1; omega
  have : dr x y < y := by
    unfold dr
    rw [if_neg h]
    exact Int.emod_lt_of_pos _ hp
  rw [if_pos this]
theorem m_prod (x y z : Int) : Nm.mul.one (Nm.add.one x y) z = Nm.add.one (Nm.mul.one x z) (Nm.mul.one y z) := by
  show ((x + y) % 4294967296 * z) % 4294967296 = ((x * z) % 4294967296 + (y * z) % 4294967296) % 4294967296
  rw [Int.mul_emod, Int.emod_emod, ← Int.mul_emod, Int.emod_add_emod, Int.add_emod_emod, Int.add_mul]
theorem m_pick (x y : Int) : Nm.pick.comp [Nm.less.one x y, x, y] = [if y < x then y else x] := by
  show [if (if x < y then (1 : Int) else 0) = 0 then y else x] = _
  by_cases h : x < y
  · rw [if_pos h, if_neg (by decide), if_neg (by omega)]
  · rw [if_neg h, if_pos rfl]
    by_cases h2 : y < x
    · rw [if_pos h2]
    · rw [if_neg h2]
      have : x = y := by omega
      rw [this]
theorem m_marks (x y : Int) {ns : List Int} (p : ns.Perm [Nm.less.one x y, Nm.less.one y x, Nm.equal.one x y]) (s : ns.Pairwise (· ≤ ·)) : ns = [0, 0, 1] := by
  have e : [Nm.less.one x y, Nm.less.one y x, Nm.equal.one x y].Perm [0, 0, 1] := by
    show [(if x < y then (1 : Int) else 0), (if y < x then 1 else 0), (if x = y then 1 else 0)].Perm [0, 0, 1]
    by_cases h1 : x < y
    · rw [if_pos h1, if_neg (by omega), if_neg (by omega)]
      decide
    · by_cases h2 : y < x
      · rw [if_neg h1, if_pos h2, if_neg (by omega)]
        decide
      · rw [if_neg h1, if_neg h2, if_pos (by omega)]
  exact List.Perm.eq_of_pairwise (le := fun a b : Int => a ≤ b) (fun a b _ _ h1 h2 => Int.le_antisymm h1 h2) s (by decide) (p.trans e)
end K4
namespace K4
open PySem L2 Own StX ClX NdefX
def spRight : Sp := fun vs H Q _ => ∃ x y z : Int, vs = [.int x, .int y, .int z] ∧ In32 x ∧ In32 y ∧ In32 z ∧ ∀ H', Same H H' → Q (.bl true) H'
section
variable {P : Program} {w : World} {K : PySem.W.Frag} {mg : Str → Option Value} {base : Heap} {C B : Addr}
abbrev nRi : List Str := ["one", "other", "third", "total", "less", "name", "quotient", "rest", "marks", "products", "every", "value"]
theorem scRi : FnScope nRi ["one", "other", "third"] (defScope sRight) := ⟨rfl, rfl, rfl, by decide +kernel, rfl, by decide +kernel, by decide +kernel⟩
theorem ne_int {a b : Int} (h : a = b) {A B : Prop} (q : B) : if (!decide (V.int a = V.int b)) = true then A else B := by
  rw [decide_eq_true (show V.int a = V.int b by rw [h])]
  exact iteF q
theorem ne_intF {a b : Int} (h : a = b) : (!decide (V.int a = V.int b)) = false := by
  rw [decide_eq_true (show V.int a = V.int b by rw [h])]
  rfl
theorem nm3 (x : Str) (h : x = "add" ∨ x = "mul" ∨ x = "equal") : ∃ nm : Nm, x = nm.s ∧ (nm = .add ∨ nm = .mul ∨ nm = .equal) := by
  rcases h with rfl | rfl | rfl
  · exact ⟨.add, rfl, .inl rfl⟩
  · exact ⟨.mul, rfl, .inr (.inl rfl)⟩
  · exact ⟨.equal, rfl, .inr (.inr rfl)⟩
theorem ok_right {f fO : Addr} {fd fdO : FuncData} (F : Fun K "_law_right" "_law_right" sRight f fd) (T : Txt K w mg C B) (Pa : Par P w K mg base C) (GO : FnOk P w K mg base CX0 5 fO fdO ["name", "one", "other"] spOne) (mO : mg "_law_one" = some (.ref fO)) (kO : PySem.W.keepIn K (.ref fO) = true)
    (bO : Binds K fdO ["name", "one", "other"] []) (msort : mg "sorted" = none) (mmin : mg "min" = none) (misi : mg "isinstance" = none) (mint : mg "int" = none) : FnOk P w K mg base CX0 6 f fd ["one", "other", "third"] spRight := by
  refine F.ok scRi (fun vs H Q E h => ?_) (fun cdv A outer s H vs Q E hr h => ?_)
  · obtain ⟨x, y, z, rfl, _⟩ := h
    rfl
  obtain ⟨x, y, z, rfl, hx, hy, hz, k⟩ := h
  obtain ⟨mc, p, g, cr, cm, G⟩ := Pa.cm
  obtain ⟨gc, fdc, me, GC, bC⟩ := Pa.co
  have hr4 := hr.mono (show 4 ≤ 5 by decide)
  have hr2 := hr.mono (show 2 ≤ 5 by decide)
  have hu := hr.units
  refine ⟨_,
    pss_cons (ps_set (i := 3) scRi.nd rfl (.inl rfl) (pe_call GO hr rfl mO kO bO .nil pass0 (pa_cons pe_str (pa_cons (pv 0) (pa_cons (pv 1) pa_nil)))))
    (pss_cons (ps_set (i := 4) scRi.nd rfl (.inl rfl) (pe_call GO hr rfl mO kO bO .nil pass0 (pa_cons pe_str (pa_cons (pv 0) (pa_cons (pv 1) pa_nil)))))
    (pss_cons (ps_if (PW.pt (pw_or (pt_cmpR op_ne (pe_call GO hr rfl mO kO bO .nil pass0 (pa_cons pe_str (pa_cons (pv 3) (pa_cons (pv 1) pa_nil)))) (pv 0) (nomark _)) (pw_or1 (pt_cmpR op_ne (pe_call GO hr rfl mO kO bO .nil pass0 (pa_cons pe_str (pa_cons (pv 4) (pa_cons (pv 1) pa_nil)))) (pv 0) (nomark _))))) (pss_one (ps_ret pe_bl)) pss_nil)
    (pss_cons (ps_for PassesOwn.never rfl (pi_list (pe_lst (pa_cons pe_str (pa_cons pe_str (pa_cons pe_str pa_nil))))) (pg_name (i := 5) scRi.nd rfl (.inl rfl))
      (pss_one (ps_if (pt_cmpR op_ne (pe_call GO hr rfl mO kO bO .nil pass0 (pa_cons (pv 5) (pa_cons (pv 0) (pa_cons (pv 1) pa_nil)))) (pe_call GO hr rfl mO kO bO .nil pass0 (pa_cons (pv 5) (pa_cons (pv 1) (pa_cons (pv 0) pa_nil)))) (nomark _)) (pss_one (ps_ret pe_bl)) pss_nil)))
    (pss_cons (ps_asg (pe_meth (pe_cmeth (pe_glob (v := .ref C) rfl T.mC rfl) cr cm G hr4 pass0 (pa_cons pe_str pa_nil)) T.cl me GC hr2 bC .nil pass0 (pa_cons (pe_tup (pa_cons (pv 0) (pa_cons (pv 1) pa_nil))) pa_nil)) (pg_tup (by rfl) (pgs_cons (pg_name (i := 6) scRi.nd rfl (.inl rfl)) (pgs_cons (pg_name (i := 7) scRi.nd rfl (.inl rfl)) pgs_nil))))
    (pss_cons (ps_if (pt_cmpR op_ne (pe_call GO hr rfl mO kO bO .nil pass0 (pa_cons pe_str (pa_cons (pe_call GO hr rfl mO kO bO .nil pass0 (pa_cons pe_str (pa_cons (pv 6) (pa_cons (pv 1) pa_nil)))) (pa_cons (pv 7) pa_nil)))) (pv 0) (nomark _)) (pss_one (ps_ret pe_bl)) pss_nil)
    (pss_join (ps_if (PW.pt (pw_and (pt_cmpR op_ne (pv 1) pe_int (nomark _)) (pw_and1 (pt_cmpR op_ne (pe_call GO hr rfl mO kO bO .nil pass0 (pa_cons pe_str (pa_cons (pv 7) (pa_cons (pv 1) pa_nil)))) pe_int (nomark _))))) (pss_one (ps_ret pe_bl)) pss_nil)
    (pss_cons (ps_set (i := 8) scRi.nd rfl (.inl rfl) (pe_lst (pa_cons (pe_call GO hr rfl mO kO bO .nil pass0 (pa_cons pe_str (pa_cons (pv 0) (pa_cons (pv 1) pa_nil)))) (pa_cons (pe_call GO hr rfl mO kO bO .nil pass0 (pa_cons pe_str (pa_cons (pv 1) (pa_cons (pv 0) pa_nil)))) pa_nil))))
    (pss_cons (ps_expr (pe_bm PySem.F.plainAttrs_list PySem.F.slot_list_append PySem.F.type_list_append mt_append (pv 8) (pa_cons (pe_call GO hr rfl mO kO bO .nil pass0 (pa_cons pe_str (pa_cons (pv 0) (pa_cons (pv 1) pa_nil)))) pa_nil)))
    (pss_cons (ps_if (pt_cmpR (op_neD hu) (pe_callB cr_sorted (by rfl) msort (by decide +kernel) (pa_cons (pv 8) pa_nil)) (pe_lst (pa_cons pe_int (pa_cons pe_int (pa_cons pe_int pa_nil)))) (nomark _)) (pss_one (ps_ret pe_bl)) pss_nil)
    (pss_cons (ps_set (i := 9) scRi.nd rfl (.inl rfl) (pe_call GO hr rfl mO kO bO .nil pass0 (pa_cons pe_str (pa_cons (pe_call GO hr rfl mO kO bO .nil pass0 (pa_cons pe_str (pa_cons (pv 0) (pa_cons (pv 2) pa_nil)))) (pa_cons (pe_call GO hr rfl mO kO bO .nil pass0 (pa_cons pe_str (pa_cons (pv 1) (pa_cons (pv 2) pa_nil)))) pa_nil)))))
    (pss_cons (ps_if (pt_cmpR op_ne (pe_call GO hr rfl mO kO bO .nil pass0 (pa_cons pe_str (pa_cons (pv 3) (pa_cons (pv 2) pa_nil)))) (pv 9) (nomark _)) (pss_one (ps_ret pe_bl)) pss_nil)
    (pss_cons (ps_if (pt_cmpR (op_neD hu) (pe_meth (pe_cmeth (pe_glob (v := .ref C) rfl T.mC rfl) cr cm G hr4 pass0 (pa_cons pe_str pa_nil)) T.cl me GC hr2 bC .nil pass0 (pa_cons (pe_tup (pa_cons (pe_ix ix_list (pv 8) pe_int (fun _ _ => rfl)) (pa_cons (pv 0) (pa_cons (pv 1) pa_nil)))) pa_nil)) (pe_tup (pa_cons (pe_callB (call_min2 rfl) (by rfl) mmin (by decide +kernel) (pa_cons (pv 0) (pa_cons (pv 1) pa_nil))) pa_nil)) (nomark _)) (pss_one (ps_ret pe_bl)) pss_nil)
    (pss_cons (ps_set (i := 10) scRi.nd rfl (.inl rfl) (pe_lst (pa_cons (pv 3) (pa_cons (pv 6) (pa_cons (pv 7) (pa_cons (pv 9) (pa_cons (pv 4) (pa_cons (pe_call GO hr rfl mO kO bO .nil pass0 (pa_cons pe_str (pa_cons (pv 0) (pa_cons (pv 1) pa_nil)))) pa_nil))))))))
    (pss_one (ps_ret (pe_cmpR (op_eqD hu) (pe_lc (own := [("value", 11)]) (g := gName 11) rfl scRi.nd (pi_list (pv 10)) (blkOk_by (own := [("value", 11)]) (N := nRi) (sc := defScope sRight) (by decide +kernel)) (fun _ _ _ _ _ => pg_name (i := 11) scRi.nd rfl (Or.inl rfl))
      (fun _ _ _ _ _ => pts_one (PW.pt (pw_or (pt_not (pt_val (pe_callB (id := "isinstance") (r := rIsi K) call_isi (by rfl) misi (by decide +kernel) (pa_cons (pv 11) (pa_cons (pe_bltn (v := .ty "int") (by rfl) mint (by decide +kernel) rfl) pa_nil))))) (pw_or1 (pt_not (pt_chain op_le op_lt pe_int (pv 11) (pe_op op_pow pe_int pe_int)))))))
      (fun _ _ _ _ _ => pv 11)) (pe_lst pa_nil) (nomark _))))))))))))))))), ?_⟩
  -- total, less
  refine ⟨_, rfl, _, rfl, .add, x, y, rfl, by decide, hx, hy, fun H1 s1 => ?_⟩
  refine ⟨_, rfl, _, rfl, .sub, x, y, rfl, by decide, hx, hy, fun H2 s2 => ?_⟩
  have ht : In32 (Nm.add.one x y) := one_in (by decide) hx hy
  have hl : In32 (Nm.sub.one x y) := one_in (by decide) hx hy
  refine ⟨_, rfl, _, rfl, .sub, _, y, rfl, by decide, ht, hy, fun H3 s3 => ⟨_, rfl, rfl, _, rfl, ne_int (m_subadd hx hy) ?_⟩⟩
  refine ⟨_, rfl, _, rfl, .add, _, y, rfl, by decide, hl, hy, fun H4 s4 => ⟨_, rfl, rfl, _, rfl, ne_int (m_addsub hx hy) ?_⟩⟩
  have S4 : Same H H4 := s1.trans (s2.trans (s3.trans s4))
  -- the loop
  refine ⟨small1 (by show 3 ≤ 8; decide), fun ls hls => ?_⟩
  refine ⟨ls, rfl, ⟨_, .of upd_same⟩, for_list (K := K) (a := ls) (xs := [.str "add", .str "mul", .str "equal"])
    (fun i σ H5 => ∃ v, σ = [some (.int x), some (.int y), some (.int z), some (.int (Nm.add.one x y)), some (.int (Nm.sub.one x y)), v, none, none, none, none, none, none] ∧ Same (upd H4 ls (.lst [.str "add", .str "mul", .str "equal"])) H5)
    ⟨_, rfl, Same.refl _⟩ (fun i σ H5 _ ⟨_, _, s5⟩ => .of (s5 _ _ upd_same)) ?_ ?_⟩
  · rintro i v σ H5 hi ⟨v0, rfl, s5⟩
    obtain ⟨nm, rfl, hnm⟩ : ∃ nm : Nm, v = .str nm.s ∧ (nm = .add ∨ nm = .mul ∨ nm = .equal) := by
      match i, hi with
      | 0, hi => cases hi; exact ⟨.add, rfl, .inl rfl⟩
      | 1, hi => cases hi; exact ⟨.mul, rfl, .inr (.inl rfl)⟩
      | 2, hi => cases hi; exact ⟨.equal, rfl, .inr (.inr rfl)⟩
    have hnp : nm ≠ .pick := by rcases hnm with rfl | rfl | rfl <;> decide
    refine ⟨_, rfl, _, rfl, _, rfl, nm, x, y, rfl, hnp, hx, hy, fun H6 s6 => ?_⟩
    refine ⟨_, rfl, _, rfl, _, rfl, nm, y, x, rfl, hnp, hy, hx, fun H7 s7 => ?_⟩
    refine ⟨rfl, _, rfl, ne_int (m_comm hnm x y) ?_⟩
    exact ⟨_, rfl, s5.trans (s6.trans s7)⟩
  rintro σ H5 ⟨v0, rfl, s5⟩
  have S5 : Same H H5 := S4.trans ((upd_new hls).trans s5)
  -- quotient, rest
  refine ⟨rfl, .divide, rfl, fun x1 dx1 i1 o1 H6 s6 hn1 hx1 => ?_⟩
  refine ⟨x1, dx1, _, rfl, hx1, F4_no (by decide +kernel) (by decide +kernel) (by decide +kernel) (by decide +kernel), _, rfl, _, rfl, small1 (by show 2 ≤ 8; decide), fun t1 ht1 => ?_⟩
  refine ⟨x1, t1, dx1, i1, o1, .divide, [x, y], rfl, by rw [upd_ne (ne_of_none hx1 ht1)]; exact hx1, .of upd_same, ok_comp2 (by decide) hx hy, fun r1 hr1 => ?_⟩
  rw [div_comp]
  have S6 : Same H (upd (upd H6 t1 (.tup [.int x, .int y])) r1 (.tup [.int (dq x y), .int (dr x y)])) := S5.trans (s6.trans ((upd_new ht1).trans (upd_new hr1)))
  refine ⟨r1, _, rfl, .of upd_same, rfl, _, _, rfl, _, _, rfl, rfl, ?_⟩
  have hq : In32 (dq x y) := dq_in hx hy
  have hd : In32 (dr x y) := dr_in hx hy
  refine ⟨_, rfl, _, rfl, .mul, _, y, rfl, by decide, hq, hy, fun H7 s7 => ?_⟩
  refine ⟨_, rfl, .add, _, _, rfl, by decide, one_in (by decide) hq hy, hd, fun H8 s8 => ?_⟩
  refine ⟨_, rfl, rfl, _, rfl, ne_int (m_div hx hy) ?_⟩
  have S8 : Same H H8 := S6.trans (s7.trans s8)
  -- if other != 0 and ..: both ways lead on
  refine ⟨fun σ H9 => σ = [some (.int x), some (.int y), some (.int z), some (.int (Nm.add.one x y)), some (.int (Nm.sub.one x y)), v0, some (.int (dq x y)), some (.int (dr x y)), none, none, none, none] ∧ Same H H9, ?_, ?_⟩
  · refine ⟨_, rfl, rfl, _, rfl, ?_⟩
    by_cases h0 : y = 0
    · rw [ne_intF h0]
      exact iteF (iteF ⟨rfl, S8⟩)
    · rw [decide_eq_false (show ¬ V.int y = V.int 0 from fun e => h0 (V.int.inj e))]
      refine iteT ⟨_, rfl, _, rfl, .less, _, y, rfl, by decide, hd, hy, fun H9 s9 => ⟨rfl, _, rfl, ?_⟩⟩
      exact ne_int (m_rest hy h0) ⟨rfl, S8.trans s9⟩
  rintro σ H9 ⟨rfl, S9⟩
  -- marks
  refine ⟨_, rfl, _, rfl, .less, x, y, rfl, by decide, hx, hy, fun H10 s10 => ?_⟩
  refine ⟨_, rfl, _, rfl, .less, y, x, rfl, by decide, hy, hx, fun H11 s11 => ⟨small1 (by show 2 ≤ 8; decide), fun m hm => ?_⟩⟩
  have S11 : Same H H11 := S9.trans (s10.trans s11)
  refine ⟨_, rfl, .inl ⟨rfl, _, .of upd_same⟩, _, rfl, _, rfl, .equal, x, y, rfl, by decide, hx, hy, fun H12 s12 => ?_⟩
  have hm12 : H12 m = some (.lst [.int (Nm.less.one x y), .int (Nm.less.one y x)]) := s12 _ _ upd_same
  refine ⟨m, _, _, rfl, rfl, hm12, small1000 (by show 2 ≤ 1000; decide), ?_⟩
  have S12 : ∀ b o, H b = some o → upd H12 m (.lst [.int (Nm.less.one x y), .int (Nm.less.one y x), .int (Nm.equal.one x y)]) b = some o := fun b o e => by
    have e1 := S11 b o e
    rw [upd_ne (ne_of_none e1 hm)]
    exact s12 b o (by rw [upd_ne (ne_of_none e1 hm)]; exact e1)
  -- sorted(marks)
  refine ⟨_, rfl, m, [Nm.less.one x y, Nm.less.one y x, Nm.equal.one x y], rfl, .of upd_same, (by show 3 < 64; decide), fun ns' p1 pe ps np => ?_⟩
  obtain rfl := m_marks x y pe ps
  refine ⟨small1 (by show 3 ≤ 8; decide), fun p2 np2 => ?_⟩
  refine ⟨.list [.int 0, .int 0, .int 1], .list [.int 0, .int 0, .int 1], .lst (.of (by rw [upd_ne (ne_of_none upd_same np2)]; exact upd_same)) (.cons (.int 0) (.cons (.int 0) (.cons (.int 1) .nil))), .lst (.of upd_same) (.cons (.int 0) (.cons (.int 0) (.cons (.int 1) .nil))), by decide +kernel, by decide +kernel, _, rfl, ?_⟩
  rw [show PyData.eqv (.list [.int 0, .int 0, .int 1]) (.list [.int 0, .int 0, .int 1]) = true by decide +kernel]
  refine iteF ?_
  have S13 : Same H (upd (upd (upd H12 m (.lst [.int (Nm.less.one x y), .int (Nm.less.one y x), .int (Nm.equal.one x y)])) p1 (.lst [.int 0, .int 0, .int 1])) p2 (.lst [.int 0, .int 0, .int 1])) := Same.trans S12 ((upd_new np).trans (upd_new np2))
  have hm13 : (upd (upd (upd H12 m (.lst [.int (Nm.less.one x y), .int (Nm.less.one y x), .int (Nm.equal.one x y)])) p1 (.lst [.int 0, .int 0, .int 1])) p2 (.lst [.int 0, .int 0, .int 1])) m = some (.lst [.int (Nm.less.one x y), .int (Nm.less.one y x), .int (Nm.equal.one x y)]) := ((upd_new np).trans (upd_new np2)) _ _ upd_same
  -- products
  refine ⟨_, rfl, _, rfl, .mul, x, z, rfl, by decide, hx, hz, fun H14 s14 => ?_⟩
  refine ⟨_, rfl, _, rfl, .mul, y, z, rfl, by decide, hy, hz, fun H15 s15 => ?_⟩
  have hxz : In32 (Nm.mul.one x z) := one_in (by decide) hx hz
  have hyz : In32 (Nm.mul.one y z) := one_in (by decide) hy hz
  refine ⟨.add, _, _, rfl, by decide, hxz, hyz, fun H16 s16 => ?_⟩
  refine ⟨_, rfl, _, rfl, .mul, _, z, rfl, by decide, ht, hz, fun H17 s17 => ⟨_, rfl, rfl, _, rfl, ne_int (m_prod x y z) ?_⟩⟩
  have S17 : Same (upd (upd (upd H12 m (.lst [.int (Nm.less.one x y), .int (Nm.less.one y x), .int (Nm.equal.one x y)])) p1 (.lst [.int 0, .int 0, .int 1])) p2 (.lst [.int 0, .int 0, .int 1])) H17 := s14.trans (s15.trans (s16.trans s17))
  -- pick
  refine ⟨rfl, .pick, rfl, fun x2 dx2 i2 o2 H18 s18 hn2 hx2 => ?_⟩
  have hm18 := s18 _ _ (S17 _ _ hm13)
  have hlm : In32 (Nm.less.one x y) := one_in (by decide) hx hy
  refine ⟨x2, dx2, _, rfl, hx2, F4_no (by decide +kernel) (by decide +kernel) (by decide +kernel) (by decide +kernel), _, rfl, m, _, 0, _, rfl, rfl, .of hm18, at_of (j := 0) rfl rfl, _, rfl, _, rfl, small1 (by show 3 ≤ 8; decide), fun t2 ht2 => ?_⟩
  refine ⟨x2, t2, dx2, i2, o2, .pick, [Nm.less.one x y, x, y], rfl, by rw [upd_ne (ne_of_none hx2 ht2)]; exact hx2, .of upd_same, ⟨hlm, hx, hy⟩, fun r2 hr2 => ?_⟩
  rw [m_pick]
  refine ⟨_, rfl, _, rfl, _, _, rfl, small1 (by show 1 ≤ 8; decide), fun t3 ht3 => ?_⟩
  refine ⟨.tuple [.int (if y < x then y else x)], .tuple [.int (if y < x then y else x)], .tup (.of (by rw [upd_ne (ne_of_none upd_same ht3)]; exact upd_same)) (.cons (.int _) .nil), .tup (.of upd_same) (.cons (.int _) .nil), rfl, rfl, _, rfl, ?_⟩
  rw [show PyData.eqv (.tuple [.int (if y < x then y else x)]) (.tuple [.int (if y < x then y else x)]) = true by (rw [SeqAt.eqv_refl]; rfl)]
  refine iteF ?_
  have S19 : Same H (upd (upd (upd H18 t2 (.tup [.int (Nm.less.one x y), .int x, .int y])) r2 (.tup [.int (if y < x then y else x)])) t3 (.tup [.int (if y < x then y else x)])) := S13.trans (S17.trans (s18.trans ((upd_new ht2).trans ((upd_new hr2).trans (upd_new ht3)))))
  -- every
  refine ⟨_, rfl, _, rfl, _, rfl, _, rfl, _, rfl, _, rfl, _, rfl, .mul, x, y, rfl, by decide, hx, hy, fun H20 s20 => ⟨small1 (by show 6 ≤ 8; decide), fun ev hev => ?_⟩⟩
  have S20 : Same H H20 := S19.trans s20
  have hxy : In32 (Nm.mul.one x y) := one_in (by decide) hx hy
  have hpr : In32 (Nm.add.one (Nm.mul.one x z) (Nm.mul.one y z)) := one_in (by decide) hxz hyz
  -- the comprehension
  refine ⟨_, rfl, ev, rfl, ⟨_, .of upd_same⟩, fun D hD => ?_⟩
  have e32 : ((2 : Int) ^ (32 : Int).toNat) = 4294967296 := by decide
  have hall : ∀ v ∈ [Nm.add.one x y, dq x y, dr x y, Nm.add.one (Nm.mul.one x z) (Nm.mul.one y z), Nm.sub.one x y, Nm.mul.one x y], In32 v := by
    intro v hv
    simp only [List.mem_cons, List.not_mem_nil, or_false] at hv
    rcases hv with rfl | rfl | rfl | rfl | rfl | rfl
    · exact ht
    · exact hq
    · exact hd
    · exact hpr
    · exact hl
    · exact hxy
  refine lc_list (K := K) (a := ev) (xs := [Nm.add.one x y, dq x y, dr x y, Nm.add.one (Nm.mul.one x z) (Nm.mul.one y z), Nm.sub.one x y, Nm.mul.one x y].map V.int)
    (fun i H' => Same (upd H20 ev (.lst ([Nm.add.one x y, dq x y, dr x y, Nm.add.one (Nm.mul.one x z) (Nm.mul.one y z), Nm.sub.one x y, Nm.mul.one x y].map V.int))) H' ∧ H' D = some (.lst []))
    ⟨upd_new hD, upd_same⟩ (fun i H' _ ⟨a1, _⟩ => .of (a1 _ _ upd_same)) ?_ ?_
  · rintro i v H' hi ⟨a1, a2⟩
    obtain ⟨v, hv, rfl⟩ : ∃ v' : Int, v' ∈ [Nm.add.one x y, dq x y, dr x y, Nm.add.one (Nm.mul.one x z) (Nm.mul.one y z), Nm.sub.one x y, Nm.mul.one x y] ∧ v = V.int v' := by
      obtain ⟨v', h1, h2⟩ := List.mem_map.mp (List.mem_of_getElem? hi)
      exact ⟨v', h1, h2.symm⟩
    have hin := hall v hv
    refine ⟨rfl, ⟨_, rfl, .int v, .ty "int", .type "int", .type "int", true, rfl, .ty "int", .base (.int v), kit_ty (by decide +kernel), true, rfl, ?_⟩⟩
    refine iteF ⟨_, rfl, _, _, rfl, rfl, _, rfl, ?_⟩
    rw [decide_eq_true hin.1]
    refine iteT ⟨_, _, rfl, rfl, ⟨by decide, by decide, by decide⟩, _, _, rfl, rfl, _, rfl, ?_⟩
    rw [decide_eq_true (show v < (2 : Int) ^ (32 : Int).toNat by rw [e32]; exact hin.2)]
    exact iteF ⟨a1, a2⟩
  · rintro H' ⟨a1, a2⟩
    refine ⟨small1 (by show 0 ≤ 8; decide), fun el hel => ?_⟩
    refine ⟨.list [], .list [], .lst (.of (by rw [upd_ne (ne_of_none a2 hel)]; exact a2)) .nil, .lst (.of upd_same) .nil, rfl, rfl, ?_⟩
    have S21 : Same H (upd H' el (.lst [])) := S20.trans ((upd_new hev).trans (a1.trans (upd_new hel)))
    exact k _ S21
end
end K4
namespace K4
open PySem L2 Own StX ClX NdefX
def spLaw (K : PySem.W.Frag) : Sp := fun vs H Q _ => ∃ (a : Addr) (ns : List Int), vs = [.ref a] ∧ SqL K H a (ns.map V.int) ∧ ns.length ≤ 63 ∧ ∀ H', Q (.bl true) H'
section
variable {P : Program} {w : World} {K : PySem.W.Frag} {mg : Str → Option Value} {base : Heap} {C B : Addr}
theorem scL : FnScope ["script", "k", "feed", "some", "turn"] ["script"] (defScope sLaw) := ⟨rfl, rfl, rfl, by decide +kernel, rfl, by decide +kernel, by decide +kernel⟩
theorem same_put {H H1 : Hp} {p : Addr} {o : HO} (s : Same H H1) (h : H p = none) : Same H (upd H1 p o) := fun b u e => by
  rw [upd_ne (ne_of_none e h)]
  exact s b u e
theorem ok_law {f fF fT fP fR : Addr} {fd fdF fdT fdP fdR : FuncData} (F : Fun K "law" "law" sLaw f fd)
    (GF : FnOk P w K mg base CX0 1 fF fdF ["script", "k"] (spFeed K)) (mF : mg "_law_feed" = some (.ref fF)) (kF : PySem.W.keepIn K (.ref fF) = true) (bF : Binds K fdF ["script", "k"] [])
    (GT : FnOk P w K mg base CX0 1 fT fdT ["feed", "many"] spTake) (mT : mg "_law_take" = some (.ref fT)) (kT : PySem.W.keepIn K (.ref fT) = true) (bT : Binds K fdT ["feed", "many"] [])
    (GP : FnOk P w K mg base CX0 2 fP fdP ["feed", "some"] spPickL) (mP : mg "_law_pick" = some (.ref fP)) (kP : PySem.W.keepIn K (.ref fP) = true) (bP : Binds K fdP ["feed", "some"] [])
    (GR : FnOk P w K mg base CX0 6 fR fdR ["one", "other", "third"] spRight) (mR : mg "_law_right" = some (.ref fR)) (kR : PySem.W.keepIn K (.ref fR) = true) (bR : Binds K fdR ["one", "other", "third"] [])
    (mlen : mg "len" = none) (mmax : mg "max" = none) (mmin : mg "min" = none) (mrange : mg "range" = none) : FnOk P w K mg base CX0 7 f fd ["script"] (spLaw K) := by
  refine F.ok scL (fun vs H Q E h => ?_) (fun cdv A outer s H vs Q E hr h => ?_)
  · obtain ⟨a, ns, rfl, _⟩ := h
    rfl
  obtain ⟨a, ns, rfl, hS, hlen, k⟩ := h
  have hr1 := hr.mono (show 1 ≤ 6 by decide)
  have hr2 := hr.mono (show 2 ≤ 6 by decide)
  have e32 : ((2 : Int) ^ (32 : Int).toNat) = 4294967296 := by decide
  have e31 : ((2 : Int) ^ (31 : Int).toNat) = 2147483648 := by decide
  refine ⟨_, pss_cons (ps_for PassesOwn.never rfl (pi_range1 rfl mrange (pa_cons (pe_callB (call_max2 rfl) (by rfl) mmax (by decide +kernel) (pa_cons pe_int (pa_cons (pe_callB (call_min2 rfl) (by rfl) mmin (by decide +kernel) (pa_cons pe_int (pa_cons (pe_callB call_len_seq (by rfl) mlen PySem.boot_len (pa_cons (pv 0) pa_nil)) pa_nil))) pa_nil))) pa_nil)) (pg_name (i := 1) scL.nd rfl (.inl rfl))
      (pss_cons (ps_set (i := 2) scL.nd rfl (.inl rfl) (pe_call GF hr1 rfl mF kF bF .nil pass0 (pa_cons (pv 0) (pa_cons (pv 1) pa_nil))))
      (pss_cons (ps_set (i := 3) scL.nd rfl (.inl rfl) (pe_lst (pa_cons pe_int (pa_cons pe_int (pa_cons pe_int (pa_cons (pe_op op_pow pe_int pe_int) (pa_cons (pe_op op_sub (pe_op op_pow pe_int pe_int) pe_int)
          (pa_cons (pe_call GT hr1 rfl mT kT bT .nil pass0 (pa_cons (pv 2) (pa_cons (pe_op op_pow pe_int pe_int) pa_nil))) (pa_cons (pe_call GT hr1 rfl mT kT bT .nil pass0 (pa_cons (pv 2) (pa_cons pe_int pa_nil))) pa_nil)))))))))
      (pss_one (ps_for PassesOwn.never rfl (pi_range1 rfl mrange (pa_cons pe_int pa_nil)) (pg_name (i := 4) scL.nd rfl (.inl rfl))
        (pss_one (ps_if (pt_not (pt_val (pe_call GR hr rfl mR kR bR .nil pass0 (pa_cons (pe_call GP hr2 rfl mP kP bP .nil pass0 (pa_cons (pv 2) (pa_cons (pv 3) pa_nil))) (pa_cons (pe_call GP hr2 rfl mP kP bP .nil pass0 (pa_cons (pv 2) (pa_cons (pv 3) pa_nil)))
          (pa_cons (pe_call GT hr1 rfl mT kT bT .nil pass0 (pa_cons (pv 2) (pa_cons (pe_op op_pow pe_int pe_int) pa_nil))) pa_nil)))))) (pss_one (ps_ret pe_bl)) pss_nil)))))))
    (pss_one (ps_ret pe_bl)), ?_⟩
  refine ⟨_, rfl, a, _, rfl, .inl hS, _, _, rfl, _, _, rfl, _, rfl, by split <;> split <;> omega, by split <;> split <;> omega, ?_⟩
  refine for_range (lo := 0) (fun i σ H1 => ∃ v1 v2 v3 v4, σ = [some (.ref a), v1, v2, v3, v4] ∧ Same H H1) ⟨_, _, _, _, rfl, Same.refl _⟩ ?_ ?_
  · rintro i σ H1 hi ⟨v1, v2, v3, v4, rfl, s1⟩
    have hi6 : i < 7 := by
      have hi := hi
      rw [List.length_map] at hi
      split at hi <;> split at hi <;> omega
    refine ⟨_, rfl, _, rfl, a, ns, _, rfl, s1.seq hS, by omega, by omega, fun p d0 st0 hd0 hp => ?_⟩
    have hHp : H p = none := s1.free hp
    refine ⟨_, _, rfl, rfl, ⟨by decide, by decide, by decide⟩, _, _, rfl, rfl, ⟨by decide, by decide, by decide⟩, _, _, rfl, rfl, ?_⟩
    refine ⟨_, rfl, _, _, rfl, rfl, ⟨by decide, by decide, by decide⟩, p, d0, st0, _, rfl, upd_same, hd0, by rw [e32]; decide, by rw [e32]; decide, fun r1 d1 st1 hd1 h10 h11 => ?_⟩
    rw [e32] at h11
    refine ⟨_, rfl, p, d1, st1, 9, rfl, upd_same, hd1, by decide, by decide, fun r2 d2 st2 hd2 h20 h21 => ⟨small1 (by show 7 ≤ 8; decide), fun q hq => ?_⟩⟩
    rw [upd_upd, upd_upd] at hq ⊢
    have hpq : p ≠ q := ne_of_none upd_same hq
    have hHq : H q = none := (same_put s1 hHp).free hq
    have hL : ∀ x ∈ [V.int 0, V.int 1, V.int 2, V.int ((2 : Int) ^ (31 : Int).toNat), V.int ((2 : Int) ^ (32 : Int).toNat - 1), V.int r1, V.int r2], ∃ z, x = V.int z ∧ In32 z := by
      intro x hx
      rw [e31, e32] at hx
      simp only [List.mem_cons, List.not_mem_nil, or_false] at hx
      rcases hx with rfl | rfl | rfl | rfl | rfl | rfl | rfl
      · exact ⟨_, rfl, by decide, by decide⟩
      · exact ⟨_, rfl, by decide, by decide⟩
      · exact ⟨_, rfl, by decide, by decide⟩
      · exact ⟨_, rfl, by decide, by decide⟩
      · exact ⟨_, rfl, by decide, by decide⟩
      · exact ⟨_, rfl, h10, h11⟩
      · exact ⟨_, rfl, h20, by omega⟩
    refine ⟨8, rfl, by decide, by decide, ?_⟩
    refine for_range (lo := 0) (n := 8) (fun j σ H3 => ∃ d s v4, σ = [some (.ref a), some (.int (0 + (i : Int))), some (.ref p), some (.ref q), v4] ∧ 0 ≤ d ∧ H3 p = some (.lst [.int d, .int s]) ∧
      H3 q = some (.lst [V.int 0, V.int 1, V.int 2, V.int ((2 : Int) ^ (31 : Int).toNat), V.int ((2 : Int) ^ (32 : Int).toNat - 1), V.int r1, V.int r2]) ∧ Same H H3)
      ⟨d2, st2, v4, rfl, hd2, by rw [upd_ne hpq]; exact upd_same, upd_same, same_put (same_put s1 hHp) hHq⟩ ?_ ?_
    · rintro j σ H3 hj ⟨d, st, v4', rfl, hd, hp3, hq3, s3⟩
      refine ⟨_, rfl, _, rfl, p, q, d, st, _, rfl, hp3, hq3, hpq, hd, (by show 0 < 7; decide), (by show 7 ≤ 1000; decide), fun x d' st' hx hd' => ?_⟩
      obtain ⟨x, rfl, hxin⟩ := hL x hx
      have hq4 : ∀ o, (upd H3 p o) q = some (.lst [V.int 0, V.int 1, V.int 2, V.int ((2 : Int) ^ (31 : Int).toNat), V.int ((2 : Int) ^ (32 : Int).toNat - 1), V.int r1, V.int r2]) := fun o => by rw [upd_ne hpq.symm]; exact hq3
      refine ⟨_, rfl, _, rfl, p, q, d', st', _, rfl, upd_same, hq4 _, hpq, hd', (by show 0 < 7; decide), (by show 7 ≤ 1000; decide), fun y d'' st'' hy hd'' => ?_⟩
      obtain ⟨y, rfl, hyin⟩ := hL y hy
      refine ⟨_, rfl, _, _, rfl, rfl, ⟨by decide, by decide, by decide⟩, p, d'', st'', _, rfl, upd_same, hd'', by rw [e32]; decide, by rw [e32]; decide, fun z d3 st3 hd3 hz0 hz1 => ?_⟩
      rw [e32] at hz1
      refine ⟨x, y, z, rfl, hxin, hyin, ⟨hz0, hz1⟩, fun H4 s4 => ⟨true, rfl, ?_⟩⟩
      rw [upd_upd, upd_upd] at s4
      exact iteF ⟨d3, st3, _, rfl, hd3, s4 _ _ upd_same, s4 _ _ (hq4 _), (same_put s3 hHp).trans s4⟩
    · rintro σ H3 ⟨d, st, v4', rfl, hd, hp3, hq3, s3⟩
      exact ⟨_, _, _, _, rfl, s3⟩
  · rintro σ H1 ⟨v1, v2, v3, v4, rfl, s1⟩
    exact k H1
end
end K4
namespace K4
open PySem L2 Own StX ClX NdefX
theorem all_mk {w : World} {K : PySem.W.Frag} {h : Heap} {mg : Str → Option Value} {fa C B : Addr} (X : K.In h) (G : h.Ns mainGlobals mg) (hfa : mg "law" = some (.ref fa))
    {fA1 : Addr} {odA1 anA1 : Option Addr} {slA1 : Array (Option Value)} {ocA1 kVA1 dcA1 pmA1 cdA1 ctA1 : Value} {fA2 : Addr} {odA2 anA2 : Option Addr} {slA2 : Array (Option Value)} {ocA2 kVA2 dcA2 pmA2 cdA2 ctA2 : Value} {fA3 : Addr} {odA3 anA3 : Option Addr} {slA3 : Array (Option Value)} {ocA3 kVA3 dcA3 pmA3 cdA3 ctA3 : Value} {fA4 : Addr} {odA4 anA4 : Option Addr} {slA4 : Array (Option Value)} {ocA4 kVA4 dcA4 pmA4 cdA4 ctA4 : Value} {fA5 : Addr} {odA5 anA5 : Option Addr} {slA5 : Array (Option Value)} {ocA5 kVA5 dcA5 pmA5 cdA5 ctA5 : Value} {fA6 : Addr} {odA6 anA6 : Option Addr} {slA6 : Array (Option Value)} {ocA6 kVA6 dcA6 pmA6 cdA6 ctA6 : Value} {fA7 : Addr} {odA7 anA7 : Option Addr} {slA7 : Array (Option Value)} {ocA7 kVA7 dcA7 pmA7 cdA7 ctA7 : Value} {fRP : Addr} {odRP anRP : Option Addr} {slRP : Array (Option Value)} {ocRP kVRP dcRP pmRP cdRP ctRP : Value} {fFE : Addr} {odFE anFE : Option Addr} {slFE : Array (Option Value)} {ocFE kVFE dcFE pmFE cdFE ctFE : Value} {fTK : Addr} {odTK anTK : Option Addr} {slTK : Array (Option Value)} {ocTK kVTK dcTK pmTK cdTK ctTK : Value} {fPK : Addr} {odPK anPK : Option Addr} {slPK : Array (Option Value)} {ocPK kVPK dcPK pmPK cdPK ctPK : Value} {fON : Addr} {odON anON : Option Addr} {slON : Array (Option Value)} {ocON kVON dcON pmON cdON ctON : Value} {fRI : Addr} {odRI anRI : Option Addr} {slRI : Array (Option Value)} {ocRI kVRI dcRI pmRI cdRI ctRI : Value} {fLA : Addr} {odLA anLA : Option Addr} {slLA : Array (Option Value)} {ocLA kVLA dcLA pmLA cdLA ctLA : Value} {fBI : Addr} {odBI anBI : Option Addr} {slBI : Array (Option Value)} {ocBI kVBI dcBI pmBI cdBI ctBI : Value} {fCO : Addr} {odCO anCO : Option Addr} {slCO : Array (Option Value)} {ocCO kVCO dcCO pmCO cdCO ctCO : Value} {fPA : Addr} {odPA anPA : Option Addr} {slPA : Array (Option Value)} {ocPA kVPA dcPA pmPA cdPA ctPA : Value} {pPA : Addr} {restPA : List Value} {fPI cc cda : Addr} {odPI anPI cldPI cddPI : Option Addr} {slPI cslPI ccsPI : Array (Option Value)} {ocPI dcPI pmPI ctPI clPI cclPI : Value} {vsPI : Array Value} {tfPI : Tok} {cdD : ClassData} {tkM : Tok} {dP dR dW : Addr} {esP esR : Array DictEntry} {nP nR nW : Nat} {ddW : Option Addr} {slW : Array (Option Value)} {tW1 tW2 : Tok} {t1 x1 y1 : Addr} {m1 : Nat} {dd1 : Option Addr} {s1 : Array (Option Value)} {t2 x2 y2 : Addr} {m2 : Nat} {dd2 : Option Addr} {s2 : Array (Option Value)} {t3 x3 y3 : Addr} {m3 : Nat} {dd3 : Option Addr} {s3 : Array (Option Value)} {t4 x4 y4 : Addr} {m4 : Nat} {dd4 : Option Addr} {s4 : Array (Option Value)} {t5 x5 y5 : Addr} {m5 : Nat} {dd5 : Option Addr} {s5 : Array (Option Value)} {t6 x6 y6 : Addr} {m6 : Nat} {dd6 : Option Addr} {s6 : Array (Option Value)} {t7 x7 y7 : Addr} {m7 : Nat} {dd7 : Option Addr} {s7 : Array (Option Value)}
        (aC : PySem.W.nsIn K mainGlobals "Primitive" = some (some (.ref C)))
    (aB : PySem.W.nsIn K mainGlobals "Block" = some (some (.ref B)))
    (aA1 : PySem.W.nsIn K mainGlobals "_add" = some (some (.ref fA1)))
    (lA1 : K.lookup fA1 = some ⟨ocA1, odA1, .func (PySem.W.fnOf "_add" "_add" (defArgs sAdd) (defBody sAdd) (defScope sAdd) .none kVA1 dcA1 pmA1 anA1 cdA1 ctA1), slA1⟩)
    (cA1 : PySem.W.codeIn K cdA1 "_add" = true)
    (kA1 : PySem.W.keepIn K (.ref fA1) = true)
    (aA2 : PySem.W.nsIn K mainGlobals "_sub" = some (some (.ref fA2)))
    (lA2 : K.lookup fA2 = some ⟨ocA2, odA2, .func (PySem.W.fnOf "_sub" "_sub" (defArgs sSub) (defBody sSub) (defScope sSub) .none kVA2 dcA2 pmA2 anA2 cdA2 ctA2), slA2⟩)
    (cA2 : PySem.W.codeIn K cdA2 "_sub" = true)
    (kA2 : PySem.W.keepIn K (.ref fA2) = true)
    (aA3 : PySem.W.nsIn K mainGlobals "_mul" = some (some (.ref fA3)))
    (lA3 : K.lookup fA3 = some ⟨ocA3, odA3, .func (PySem.W.fnOf "_mul" "_mul" (defArgs sMul) (defBody sMul) (defScope sMul) .none kVA3 dcA3 pmA3 anA3 cdA3 ctA3), slA3⟩)
    (cA3 : PySem.W.codeIn K cdA3 "_mul" = true)
    (kA3 : PySem.W.keepIn K (.ref fA3) = true)
    (aA4 : PySem.W.nsIn K mainGlobals "_less" = some (some (.ref fA4)))
    (lA4 : K.lookup fA4 = some ⟨ocA4, odA4, .func (PySem.W.fnOf "_less" "_less" (defArgs sLess) (defBody sLess) (defScope sLess) .none kVA4 dcA4 pmA4 anA4 cdA4 ctA4), slA4⟩)
    (cA4 : PySem.W.codeIn K cdA4 "_less" = true)
    (kA4 : PySem.W.keepIn K (.ref fA4) = true)
    (aA5 : PySem.W.nsIn K mainGlobals "_equal" = some (some (.ref fA5)))
    (lA5 : K.lookup fA5 = some ⟨ocA5, odA5, .func (PySem.W.fnOf "_equal" "_equal" (defArgs sEqual) (defBody sEqual) (defScope sEqual) .none kVA5 dcA5 pmA5 anA5 cdA5 ctA5), slA5⟩)
    (cA5 : PySem.W.codeIn K cdA5 "_equal" = true)
    (kA5 : PySem.W.keepIn K (.ref fA5) = true)
    (aA6 : PySem.W.nsIn K mainGlobals "_pick" = some (some (.ref fA6)))
    (lA6 : K.lookup fA6 = some ⟨ocA6, odA6, .func (PySem.W.fnOf "_pick" "_pick" (defArgs sPick) (defBody sPick) (defScope sPick) .none kVA6 dcA6 pmA6 anA6 cdA6 ctA6), slA6⟩)
    (cA6 : PySem.W.codeIn K cdA6 "_pick" = true)
    (kA6 : PySem.W.keepIn K (.ref fA6) = true)
    (aA7 : PySem.W.nsIn K mainGlobals "_divide" = some (some (.ref fA7)))
    (lA7 : K.lookup fA7 = some ⟨ocA7, odA7, .func (PySem.W.fnOf "_divide" "_divide" (defArgs sDivide) (defBody sDivide) (defScope sDivide) .none kVA7 dcA7 pmA7 anA7 cdA7 ctA7), slA7⟩)
    (cA7 : PySem.W.codeIn K cdA7 "_divide" = true)
    (kA7 : PySem.W.keepIn K (.ref fA7) = true)
    (aRP : PySem.W.nsIn K mainGlobals "read_primitive" = some (some (.ref fRP)))
    (lRP : K.lookup fRP = some ⟨ocRP, odRP, .func (PySem.W.fnOf "read_primitive" "read_primitive" (defArgs sRP) (defBody sRP) (defScope sRP) .none kVRP dcRP pmRP anRP cdRP ctRP), slRP⟩)
    (cRP : PySem.W.codeIn K cdRP "read_primitive" = true)
    (kRP : PySem.W.keepIn K (.ref fRP) = true)
    (aFE : PySem.W.nsIn K mainGlobals "_law_feed" = some (some (.ref fFE)))
    (lFE : K.lookup fFE = some ⟨ocFE, odFE, .func (PySem.W.fnOf "_law_feed" "_law_feed" (defArgs sFeed) (defBody sFeed) (defScope sFeed) .none kVFE dcFE pmFE anFE cdFE ctFE), slFE⟩)
    (cFE : PySem.W.codeIn K cdFE "_law_feed" = true)
    (kFE : PySem.W.keepIn K (.ref fFE) = true)
    (aTK : PySem.W.nsIn K mainGlobals "_law_take" = some (some (.ref fTK)))
    (lTK : K.lookup fTK = some ⟨ocTK, odTK, .func (PySem.W.fnOf "_law_take" "_law_take" (defArgs sTake) (defBody sTake) (defScope sTake) .none kVTK dcTK pmTK anTK cdTK ctTK), slTK⟩)
    (cTK : PySem.W.codeIn K cdTK "_law_take" = true)
    (kTK : PySem.W.keepIn K (.ref fTK) = true)
    (aPK : PySem.W.nsIn K mainGlobals "_law_pick" = some (some (.ref fPK)))
    (lPK : K.lookup fPK = some ⟨ocPK, odPK, .func (PySem.W.fnOf "_law_pick" "_law_pick" (defArgs sPickL) (defBody sPickL) (defScope sPickL) .none kVPK dcPK pmPK anPK cdPK ctPK), slPK⟩)
    (cPK : PySem.W.codeIn K cdPK "_law_pick" = true)
    (kPK : PySem.W.keepIn K (.ref fPK) = true)
    (aON : PySem.W.nsIn K mainGlobals "_law_one" = some (some (.ref fON)))
    (lON : K.lookup fON = some ⟨ocON, odON, .func (PySem.W.fnOf "_law_one" "_law_one" (defArgs sOne) (defBody sOne) (defScope sOne) .none kVON dcON pmON anON cdON ctON), slON⟩)
    (cON : PySem.W.codeIn K cdON "_law_one" = true)
    (kON : PySem.W.keepIn K (.ref fON) = true)
    (aRI : PySem.W.nsIn K mainGlobals "_law_right" = some (some (.ref fRI)))
    (lRI : K.lookup fRI = some ⟨ocRI, odRI, .func (PySem.W.fnOf "_law_right" "_law_right" (defArgs sRight) (defBody sRight) (defScope sRight) .none kVRI dcRI pmRI anRI cdRI ctRI), slRI⟩)
    (cRI : PySem.W.codeIn K cdRI "_law_right" = true)
    (kRI : PySem.W.keepIn K (.ref fRI) = true)
    (aLA : PySem.W.nsIn K mainGlobals "law" = some (some (.ref fLA)))
    (lLA : K.lookup fLA = some ⟨ocLA, odLA, .func (PySem.W.fnOf "law" "law" (defArgs sLaw) (defBody sLaw) (defScope sLaw) .none kVLA dcLA pmLA anLA cdLA ctLA), slLA⟩)
    (cLA : PySem.W.codeIn K cdLA "law" = true)
    (kLA : PySem.W.keepIn K (.ref fLA) = true)
    (aBI : PySem.W.findIn K (.ref B) "__init__" = some (some (.ref fBI)))
    (iBI : PySem.W.isFn K (.ref fBI) = true)
    (lBI : K.lookup fBI = some ⟨ocBI, odBI, .func (PySem.W.fnOf "__init__" "Block.__init__" (defArgs sBI) (defBody sBI) (defScope sBI) .none kVBI dcBI pmBI anBI cdBI ctBI), slBI⟩)
    (cBI : PySem.W.codeIn K cdBI "Block.__init__" = true)
    (kBI : PySem.W.keepIn K (.ref fBI) = true)
    (aCO : PySem.W.findIn K (.ref C) "compute" = some (some (.ref fCO)))
    (iCO : PySem.W.isFn K (.ref fCO) = true)
    (lCO : K.lookup fCO = some ⟨ocCO, odCO, .func (PySem.W.fnOf "compute" "Primitive.compute" (defArgs sComp) (defBody sComp) (defScope sComp) .none kVCO dcCO pmCO anCO cdCO ctCO), slCO⟩)
    (cCO : PySem.W.codeIn K cdCO "Primitive.compute" = true)
    (kCO : PySem.W.keepIn K (.ref fCO) = true)
    (aPA : PySem.W.findCls K (.ref C) (.type "type") "parse" = some (.get (.builtin "classmethod.__get__") (.ref pPA) .none (.ref C)))
    (rPA : PySem.W.recIn K pPA "classmethod" = some (.ref fPA :: restPA))
    (iPA : PySem.W.fnIn K fPA = true)
    (lPA : K.lookup fPA = some ⟨ocPA, odPA, .func (PySem.W.fnOf "parse" "Primitive.parse" (defArgs sParse) (defBody sParse) (defScope sParse) .none kVPA dcPA pmPA anPA cdPA ctPA), slPA⟩)
    (cPA : PySem.W.codeIn K cdPA "Primitive.parse" = true)
    (kPA : PySem.W.keepIn K (.ref fPA) = true)
    (aPI : PySem.W.findIn K (.ref C) "__init__" = some (some (.ref fPI)))
    (iPI : PySem.W.isFn K (.ref fPI) = true)
    (lPI : K.lookup fPI = some ⟨ocPI, odPI, .func (PySem.W.fnX "__init__" "Primitive.__init__" (defArgs sPI) (defBody sPI) (defScope sPI) [(("__class__" : Str), cc)] .none .none dcPI pmPI anPI (.ref cda) ctPI), slPI⟩)
    (cPI : PySem.W.codeIn K (.ref cda) "Primitive.__init__" = true)
    (lcd : K.lookup cda = some ⟨cclPI, cddPI, .fields vsPI, ccsPI⟩)
    (vcd : vsPI[2]? = some (.str PySem.Challenge.pw_stepblocks_k04_whole_arithmetic.main.file tfPI))
    (lcc : K.lookup cc = some ⟨clPI, cldPI, .cell (some (.ref C)), cslPI⟩)
    (tpa : PySem.W.nsIn K PySem.cStatics "thirdparty.any" = some none)
    (sbs : PySem.W.mroIn K C (.ref C) = some true)
    (sat : PySem.W.ks_superIn K C C "__init__" = some (some (.ref fBI)))
    (sty : PySem.W.typeIn K (.ref fBI) = some (.type "function"))
    (sdc : PySem.W.clsIn K C = some cdD)
    (sfi : PySem.W.fnIn K fBI = true)
    (pg : PySem.W.plainGet K C Str.empty = true)
    (hd : PySem.W.hasDictIn K C = true)
    (po : PySem.W.plainOver K C = true)
    (sa : PySem.W.findIn K (.ref C) "__setattr__" = some (some (.builtin "object.__setattr__")))
    (mk : PySem.W.makesIn K C = true)
    (kc : PySem.W.keepIn K (.ref C) = true)
    (rdC : PySem.W.readsIn K C (.type "type") = true)
    (gaC : PySem.W.specialIn K (.ref C) "__getattribute__" = some (some (.builtin "type.__getattribute__")))
    (nN : PySem.W.findIn K (.ref C) "name" = some none)
    (nI : PySem.W.findIn K (.ref C) "inputs" = some none)
    (nO : PySem.W.findIn K (.ref C) "outputs" = some none)
    (nK : PySem.W.findIn K (.ref C) "constant" = some none)
    (zsuper : PySem.W.nsIn K mainGlobals "super" = some none)
    (zlen : PySem.W.nsIn K mainGlobals "len" = some none)
    (zmax : PySem.W.nsIn K mainGlobals "max" = some none)
    (zmin : PySem.W.nsIn K mainGlobals "min" = some none)
    (zabs : PySem.W.nsIn K mainGlobals "abs" = some none)
    (zsorted : PySem.W.nsIn K mainGlobals "sorted" = some none)
    (zisinstance : PySem.W.nsIn K mainGlobals "isinstance" = some none)
    (zint : PySem.W.nsIn K mainGlobals "int" = some none)
    (zrange : PySem.W.nsIn K mainGlobals "range" = some none)
    (aM : PySem.W.nsIn K mainGlobals "MODULUS" = some (some (.int 4294967296 tkM)))
    (aP : PySem.W.nsIn K mainGlobals "PRIMITIVE_PORTS" = some (some (.ref dP)))
    (lP : K.lookup dP = some ⟨.type "dict", none, .dict esP nP, #[]⟩)
    (qP : PySem.W.KeysLit w.params esP.toList)
    (oP : (dP == sysModules) = false)
    (aR : PySem.W.nsIn K mainGlobals "RULES" = some (some (.ref dR)))
    (lR : K.lookup dR = some ⟨.type "dict", none, .dict esR nR, #[]⟩)
    (qR : PySem.W.KeysLit w.params esR.toList)
    (oR : (dR == sysModules) = false)
    (aW : PySem.W.nsIn K mainGlobals "WORDS_WITH_VALUE" = some (some (.ref dW)))
    (lW : K.lookup dW = some ⟨.type "tuple", ddW, .seq #[.str "const" tW1, .str "delay" tW2] nW, slW⟩)
    (u1 : PySem.W.nsIn K dP "add" = some (some (.ref t1)))
    (v1 : K.lookup t1 = some ⟨.type "tuple", dd1, .seq #[.ref x1, .ref y1] m1, s1⟩)
    (w1 : PySem.W.nsIn K dR "add" = some (some (.ref fA1)))
    (u2 : PySem.W.nsIn K dP "sub" = some (some (.ref t2)))
    (v2 : K.lookup t2 = some ⟨.type "tuple", dd2, .seq #[.ref x2, .ref y2] m2, s2⟩)
    (w2 : PySem.W.nsIn K dR "sub" = some (some (.ref fA2)))
    (u3 : PySem.W.nsIn K dP "mul" = some (some (.ref t3)))
    (v3 : K.lookup t3 = some ⟨.type "tuple", dd3, .seq #[.ref x3, .ref y3] m3, s3⟩)
    (w3 : PySem.W.nsIn K dR "mul" = some (some (.ref fA3)))
    (u4 : PySem.W.nsIn K dP "less" = some (some (.ref t4)))
    (v4 : K.lookup t4 = some ⟨.type "tuple", dd4, .seq #[.ref x4, .ref y4] m4, s4⟩)
    (w4 : PySem.W.nsIn K dR "less" = some (some (.ref fA4)))
    (u5 : PySem.W.nsIn K dP "equal" = some (some (.ref t5)))
    (v5 : K.lookup t5 = some ⟨.type "tuple", dd5, .seq #[.ref x5, .ref y5] m5, s5⟩)
    (w5 : PySem.W.nsIn K dR "equal" = some (some (.ref fA5)))
    (u6 : PySem.W.nsIn K dP "pick" = some (some (.ref t6)))
    (v6 : K.lookup t6 = some ⟨.type "tuple", dd6, .seq #[.ref x6, .ref y6] m6, s6⟩)
    (w6 : PySem.W.nsIn K dR "pick" = some (some (.ref fA6)))
    (u7 : PySem.W.nsIn K dP "divide" = some (some (.ref t7)))
    (v7 : K.lookup t7 = some ⟨.type "tuple", dd7, .seq #[.ref x7, .ref y7] m7, s7⟩)
    (w7 : PySem.W.nsIn K dR "divide" = some (some (.ref fA7))) :
    ∃ fd : FuncData, (∀ (s : Shared) (v : Value), BindsTo s fd ⟨[v], []⟩ [("script", v)]) ∧ ∀ base : Heap, K.In base → base.Ns mainGlobals mg → FnOk PySem.Challenge.pw_stepblocks_k04_whole_arithmetic w K mg base CX0 7 fa fd ["script"] (spLaw K) := by
  have e := hfa.symm.trans (PySem.W.mg_of X G aLA)
  cases e
  have c : Cls K C := ⟨pg, hd, po, sa⟩
  have pair : ∀ {t x y : Addr} {m : Nat} {dd : Option Addr} {s : Array (Option Value)}, K.lookup t = some ⟨.type "tuple", dd, .seq #[.ref x, .ref y] m, s⟩ → ∀ H, SqT K H t [.ref x, .ref y] := fun l H =>
    .inr ⟨_, _, _, l, rfl, rfl, (by decide +kernel : 2 ≤ sizeLine), .cons rfl (.cons rfl .nil)⟩
  have D : KDict K w dP esP nP := ⟨lP, qP, oP⟩
  have DR : KDict K w dR esR nR := ⟨lR, qR, oR⟩
  have T : Txt K w mg C B := ⟨c, nN, nI, nO, nK, PySem.W.mg_of X G aC,
    ⟨dP, esP, nP, PySem.W.mg_of X G aP, D, fun nm => by
      cases nm
      · exact ⟨_, t1, .ref x1, .ref y1, u1, rfl, pair v1⟩
      · exact ⟨_, t2, .ref x2, .ref y2, u2, rfl, pair v2⟩
      · exact ⟨_, t3, .ref x3, .ref y3, u3, rfl, pair v3⟩
      · exact ⟨_, t4, .ref x4, .ref y4, u4, rfl, pair v4⟩
      · exact ⟨_, t5, .ref x5, .ref y5, u5, rfl, pair v5⟩
      · exact ⟨_, t6, .ref x6, .ref y6, u6, rfl, pair v6⟩
      · exact ⟨_, t7, .ref x7, .ref y7, u7, rfl, pair v7⟩⟩,
    ⟨dW, PySem.W.mg_of X G aW, fun H => .inr ⟨_, _, _, lW, rfl, rfl, (by decide +kernel : 2 ≤ sizeLine), .cons ⟨_, rfl⟩ (.cons ⟨_, rfl⟩ .nil)⟩⟩, PySem.W.mg_none_of X G zsuper⟩
  have FA1 := fun_mk (st := sAdd) lA1 cA1 kA1
  have bA1 := FA1.binds (ps := ["a", "b"]) fun _ _ _ _ _ _ us hl => match us, hl with | [_, _], _ => rfl
  have FA2 := fun_mk (st := sSub) lA2 cA2 kA2
  have bA2 := FA2.binds (ps := ["a", "b"]) fun _ _ _ _ _ _ us hl => match us, hl with | [_, _], _ => rfl
  have FA3 := fun_mk (st := sMul) lA3 cA3 kA3
  have bA3 := FA3.binds (ps := ["a", "b"]) fun _ _ _ _ _ _ us hl => match us, hl with | [_, _], _ => rfl
  have FA4 := fun_mk (st := sLess) lA4 cA4 kA4
  have bA4 := FA4.binds (ps := ["a", "b"]) fun _ _ _ _ _ _ us hl => match us, hl with | [_, _], _ => rfl
  have FA5 := fun_mk (st := sEqual) lA5 cA5 kA5
  have bA5 := FA5.binds (ps := ["a", "b"]) fun _ _ _ _ _ _ us hl => match us, hl with | [_, _], _ => rfl
  have FA6 := fun_mk (st := sPick) lA6 cA6 kA6
  have bA6 := FA6.binds (ps := ["c", "a", "b"]) fun _ _ _ _ _ _ us hl => match us, hl with | [_, _, _], _ => rfl
  have FA7 := fun_mk (st := sDivide) lA7 cA7 kA7
  have bA7 := FA7.binds (ps := ["a", "b"]) fun _ _ _ _ _ _ us hl => match us, hl with | [_, _], _ => rfl
  have FRP := fun_mk (st := sRP) lRP cRP kRP
  have bRP := FRP.binds (ps := ["text"]) fun _ _ _ _ _ _ us hl => match us, hl with | [_], _ => rfl
  have FFE := fun_mk (st := sFeed) lFE cFE kFE
  have bFE := FFE.binds (ps := ["script", "k"]) fun _ _ _ _ _ _ us hl => match us, hl with | [_, _], _ => rfl
  have FTK := fun_mk (st := sTake) lTK cTK kTK
  have bTK := FTK.binds (ps := ["feed", "many"]) fun _ _ _ _ _ _ us hl => match us, hl with | [_, _], _ => rfl
  have FPK := fun_mk (st := sPickL) lPK cPK kPK
  have bPK := FPK.binds (ps := ["feed", "some"]) fun _ _ _ _ _ _ us hl => match us, hl with | [_, _], _ => rfl
  have FON := fun_mk (st := sOne) lON cON kON
  have bON := FON.binds (ps := ["name", "one", "other"]) fun _ _ _ _ _ _ us hl => match us, hl with | [_, _, _], _ => rfl
  have FRI := fun_mk (st := sRight) lRI cRI kRI
  have bRI := FRI.binds (ps := ["one", "other", "third"]) fun _ _ _ _ _ _ us hl => match us, hl with | [_, _, _], _ => rfl
  have FLA := fun_mk (st := sLaw) lLA cLA kLA
  have bLA := FLA.binds (ps := ["script"]) fun _ _ _ _ _ _ us hl => match us, hl with | [_], _ => rfl
  have FBI := fun_mk (st := sBI) lBI cBI kBI
  have bBI := FBI.binds (ps := ["self", "name", "inputs", "outputs"]) fun _ _ _ _ _ _ us hl => match us, hl with | [_, _, _, _], _ => rfl
  have FCO := fun_mk (st := sComp) lCO cCO kCO
  have bCO := FCO.binds (ps := ["self", "values"]) fun _ _ _ _ _ _ us hl => match us, hl with | [_, _], _ => rfl
  have FPA := fun_mk (st := sParse) lPA cPA kPA
  have bPA := FPA.binds (ps := ["cls", "text"]) fun _ _ _ _ _ _ us hl => match us, hl with | [_, _], _ => rfl
  refine ⟨PySem.W.fnOf "law" "law" (defArgs sLaw) (defBody sLaw) (defScope sLaw) .none kVLA dcLA pmLA anLA cdLA ctLA, fun s v => .of_eq rfl, fun base _ _ => ?_⟩
  have mM := PySem.W.mg_of X G aM
  have PI : PIn K PySem.Challenge.pw_stepblocks_k04_whole_arithmetic C B fPI cc cda fBI := ⟨⟨_, _, _, _, _, _, _, lPI, ⟨_, _, _, lPI⟩, ⟨_, rfl, rfl⟩, ⟨_, _, _, _, _, _, lcd, vcd, beq_self_eq_true _⟩, ⟨_, _, _, lcc⟩, by decide +kernel, tpa⟩, cPI, ⟨sbs, sat, sty, ⟨_, sdc⟩, sfi⟩⟩
  have GB : FnOk PySem.Challenge.pw_stepblocks_k04_whole_arithmetic w K mg base CX0 1 fBI _ ["self", "name", "inputs", "outputs"] (spBI K) := ok_bi FBI
  have GI := ok_pi PI T GB bBI
  have GRP : FnOk PySem.Challenge.pw_stepblocks_k04_whole_arithmetic w K mg base CX0 1 fRP _ ["text"] spRP := ok_rp FRP T
  have GPA : FnOk PySem.Challenge.pw_stepblocks_k04_whole_arithmetic w K mg base CX0 4 fPA _ ["cls", "text"] (spParse C) := ok_parse FPA T GRP (PySem.W.mg_of X G aRP) kRP bRP ⟨mk, aPI, iPI, kc⟩ GI
  have raw : ∀ {k : Nat} {f : Addr} {fd : FuncData} {ps : List Str} {sp : Sp}, FnOk PySem.Challenge.pw_stepblocks_k04_whole_arithmetic w K mg base CX0 k f fd ps sp → Binds K fd ps [] → FnR PySem.Challenge.pw_stepblocks_k04_whole_arithmetic w K mg base CX0 k f sp := fun g b => by
    have z := g.raw b .nil
    simpa only [List.append_nil] using z
  have GCO : FnOk PySem.Challenge.pw_stepblocks_k04_whole_arithmetic w K mg base CX0 2 fCO _ ["self", "values"] (spComp K C) := ok_comp FCO T ⟨dR, esR, nR, PySem.W.mg_of X G aR, DR, fun nm => by
    cases nm
    · exact ⟨fA1, w1, raw (ok_add FA1 mM) bA1, kA1⟩
    · exact ⟨fA2, w2, raw (ok_sub FA2 mM) bA2, kA2⟩
    · exact ⟨fA3, w3, raw (ok_mul FA3 mM) bA3, kA3⟩
    · exact ⟨fA4, w4, raw (ok_less FA4) bA4, kA4⟩
    · exact ⟨fA5, w5, raw (ok_equal FA5) bA5, kA5⟩
    · exact ⟨fA6, w6, raw (ok_pick FA6) bA6, kA6⟩
    · exact ⟨fA7, w7, raw (ok_divide FA7) bA7, kA7⟩⟩
  have Pa : Par PySem.Challenge.pw_stepblocks_k04_whole_arithmetic w K mg base C := ⟨⟨.type "type", pPA, fPA, ⟨rdC, gaC⟩, ⟨aPA, ⟨_, rPA⟩, iPA⟩, raw GPA bPA⟩, ⟨fCO, _, ⟨aCO, iCO, kCO⟩, GCO, bCO⟩⟩
  have GFE : FnOk PySem.Challenge.pw_stepblocks_k04_whole_arithmetic w K mg base CX0 1 fFE _ ["script", "k"] (spFeed K) := ok_feed FFE (PySem.W.mg_none_of X G zlen) (PySem.W.mg_none_of X G zmax) (PySem.W.mg_none_of X G zabs)
  have GTK : FnOk PySem.Challenge.pw_stepblocks_k04_whole_arithmetic w K mg base CX0 1 fTK _ ["feed", "many"] spTake := ok_take FTK
  have GPK : FnOk PySem.Challenge.pw_stepblocks_k04_whole_arithmetic w K mg base CX0 2 fPK _ ["feed", "some"] spPickL := ok_pickl FPK GTK (PySem.W.mg_of X G aTK) kTK bTK (PySem.W.mg_none_of X G zlen)
  have GON : FnOk PySem.Challenge.pw_stepblocks_k04_whole_arithmetic w K mg base CX0 5 fON _ ["name", "one", "other"] spOne := ok_one FON T Pa
  have GRI : FnOk PySem.Challenge.pw_stepblocks_k04_whole_arithmetic w K mg base CX0 6 fRI _ ["one", "other", "third"] spRight := ok_right FRI T Pa GON (PySem.W.mg_of X G aON) kON bON (PySem.W.mg_none_of X G zsorted) (PySem.W.mg_none_of X G zmin) (PySem.W.mg_none_of X G zisinstance) (PySem.W.mg_none_of X G zint)
  exact ok_law FLA GFE (PySem.W.mg_of X G aFE) kFE bFE GTK (PySem.W.mg_of X G aTK) kTK bTK GPK (PySem.W.mg_of X G aPK) kPK bPK GRI (PySem.W.mg_of X G aRI) kRI bRI (PySem.W.mg_none_of X G zlen) (PySem.W.mg_none_of X G zmax) (PySem.W.mg_none_of X G zmin) (PySem.W.mg_none_of X G zrange)
theorem walk {l : PySem.W.OpenLaw} {q : Program} {loose : List Str} {XP : (Str → Option Value) → Heap → Prop} {YP : World → Heap → Prop} {d : DefRec} {K : Params → PySem.W.Frag} (hn : l.most = some 63) (hdf : d.params.defaults = [])
    (hY : ∀ (w : World) (h : Heap), YP w h → (K w.params).In h)
    (F : ∀ (w : World) (mg : Str → Option Value) (fa : Addr) (h : Heap), (K w.params).In h → h.Ns mainGlobals mg → mg d.name = some (.ref fa) →
      ∃ fd : FuncData, (∀ (s : Shared) (u : Value), BindsTo s fd ⟨[u], []⟩ [("script", u)]) ∧ ∀ base : Heap, (K w.params).In base → base.Ns mainGlobals mg → FnOk l.prog w (K w.params) mg base CX0 7 fa fd ["script"] (spLaw (K w.params))) :
    PySem.W.WalkO q loose XP YP l.row.toRowW d [] (fun f vs => PySem.call f vs) :=
  L2.walk_of (n := 63) (k := 7) (x := "script") (CX := fun _ => CX0) (sp := fun w => spLaw (K w.params)) hn (by decide) hdf ⟨rfl, by decide, by decide⟩ hY F (fun _ _ a ns hl _ hS => ⟨a, ns, rfl, hS, hl, fun _ => rfl⟩) fun _ _ _ _ _ z => z
end K4
open PySem PySem.W PyProof.Rows
set_option maxRecDepth 100000 in
set_option maxHeartbeats 0 in
theorem PySem.Challenge.cw_stepblocks_k04_whole_arithmetic_holds : PySem.Challenge.rw_stepblocks_k04_whole_arithmetic.Holds := by
  w_on; o_law; k_head; (case hw => w_witness2)
  k_fill
  refine K4.walk (l := PySem.Challenge.rw_stepblocks_k04_whole_arithmetic) rfl rfl (fun w h Y => PySem.W.kIn_of Y) ?F
  case F =>
    intro w mg fa h KX G hmg
    refine' K4.all_mk KX G hmg ?aC ?aB ?aA1 ?lA1 ?cA1 ?kA1 ?aA2 ?lA2 ?cA2 ?kA2 ?aA3 ?lA3 ?cA3 ?kA3 ?aA4 ?lA4 ?cA4 ?kA4 ?aA5 ?lA5 ?cA5 ?kA5 ?aA6 ?lA6 ?cA6 ?kA6 ?aA7 ?lA7 ?cA7 ?kA7 ?aRP ?lRP ?cRP ?kRP ?aFE ?lFE ?cFE ?kFE ?aTK ?lTK ?cTK ?kTK ?aPK ?lPK ?cPK ?kPK ?aON ?lON ?cON ?kON ?aRI ?lRI ?cRI ?kRI ?aLA ?lLA ?cLA ?kLA ?aBI ?iBI ?lBI ?cBI ?kBI ?aCO ?iCO ?lCO ?cCO ?kCO ?aPA ?rPA ?iPA ?lPA ?cPA ?kPA ?aPI ?iPI ?lPI ?cPI ?lcd ?vcd ?lcc ?tpa ?sbs ?sat ?sty ?sdc ?sfi ?pg ?hd ?po ?sa ?mk ?kc ?rdC ?gaC ?nN ?nI ?nO ?nK ?zsuper ?zlen ?zmax ?zmin ?zabs ?zsorted ?zisinstance ?zint ?zrange ?aM ?aP ?lP ?qP ?oP ?aR ?lR ?qR ?oR ?aW ?lW ?u1 ?v1 ?w1 ?u2 ?v2 ?w2 ?u3 ?v3 ?w3 ?u4 ?v4 ?w4 ?u5 ?v5 ?w5 ?u6 ?v6 ?w6 ?u7 ?v7 ?w7
    (case aC => k_is); (case aB => k_is); (case aA1 => k_is); (case lA1 => k_is); (case cA1 => k_is); (case kA1 => k_is); (case aA2 => k_is); (case lA2 => k_is)
    (case cA2 => k_is); (case kA2 => k_is); (case aA3 => k_is); (case lA3 => k_is); (case cA3 => k_is); (case kA3 => k_is); (case aA4 => k_is); (case lA4 => k_is)
    (case cA4 => k_is); (case kA4 => k_is); (case aA5 => k_is); (case lA5 => k_is); (case cA5 => k_is); (case kA5 => k_is); (case aA6 => k_is); (case lA6 => k_is)
    (case cA6 => k_is); (case kA6 => k_is); (case aA7 => k_is); (case lA7 => k_is); (case cA7 => k_is); (case kA7 => k_is); (case aRP => k_is); (case lRP => k_is)
    (case cRP => k_is); (case kRP => k_is); (case aFE => k_is); (case lFE => k_is); (case cFE => k_is); (case kFE => k_is); (case aTK => k_is); (case lTK => k_is)
    (case cTK => k_is); (case kTK => k_is); (case aPK => k_is); (case lPK => k_is); (case cPK => k_is); (case kPK => k_is); (case aON => k_is); (case lON => k_is)
    (case cON => k_is); (case kON => k_is); (case aRI => k_is); (case lRI => k_is); (case cRI => k_is); (case kRI => k_is); (case aLA => k_is); (case lLA => k_is)
    (case cLA => k_is); (case kLA => k_is); (case aBI => k_is); (case iBI => k_is); (case lBI => k_is); (case cBI => k_is); (case kBI => k_is); (case aCO => k_is)
    (case iCO => k_is); (case lCO => k_is); (case cCO => k_is); (case kCO => k_is); (case aPA => k_is); (case rPA => k_is); (case iPA => k_is); (case lPA => k_is)
    (case cPA => k_is); (case kPA => k_is); (case aPI => k_is); (case iPI => k_is); (case lPI => k_is); (case cPI => k_is); (case lcd => k_is); (case vcd => exact rfl)
    (case lcc => k_is); (case tpa => k_is); (case sbs => k_is); (case sat => ks_is); (case sty => k_is); (case sdc => k_is); (case sfi => k_is); (case pg => k_is)
    (case hd => k_is); (case po => k_is); (case sa => k_is); (case mk => k_is); (case kc => k_is); (case rdC => k_is); (case gaC => k_is); (case nN => k_is)
    (case nI => k_is); (case nO => k_is); (case nK => k_is); (case zsuper => k_is); (case zlen => k_is); (case zmax => k_is); (case zmin => k_is); (case zabs => k_is)
    (case zsorted => k_is); (case zisinstance => k_is); (case zint => k_is); (case zrange => k_is); (case aM => k_is); (case aP => k_is); (case lP => k_is); (case qP => k_keys)
    (case oP => decide); (case aR => k_is); (case lR => k_is); (case qR => k_keys); (case oR => decide); (case aW => k_is); (case lW => k_is); (case u1 => k_is)
    (case v1 => k_is); (case w1 => k_is); (case u2 => k_is); (case v2 => k_is); (case w2 => k_is); (case u3 => k_is); (case v3 => k_is); (case w3 => k_is)
    (case u4 => k_is); (case v4 => k_is); (case w4 => k_is); (case u5 => k_is); (case v5 => k_is); (case w5 => k_is); (case u6 => k_is); (case v6 => k_is)
    (case w6 => k_is); (case u7 => k_is); (case v7 => k_is); (case w7 => k_is)
