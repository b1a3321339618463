import PyProof.Rows.All
import Wide.All
import OpenK.AllK
import Wide.FinOn
import KE.KSuper
import HandS.Nested
import HandS.ClsMeth
import HandS.Star
import HandS.Ends
import HandS.Words
import HandS.List
import HandS.ForMost
import HandS.IsInst
import HandS.Wide
import HandS.More
import HandS.Walk
import HandS.FStr
import HandS.RaiseMore
import HandS.NoneIn
import HandS.Property
import HandS.Style
import PySem.Challenge.RW_stepblocks_k01_primitives
set_option Elab.async false
set_option linter.all false
set_option maxRecDepth 100000
set_option maxHeartbeats 8000000
/-! OwnA: super().__init__ of plain classes; a class held by a local, made; a def held by a local, called with a star. -/
namespace Own
open PySem PySem.Spec PyProof.Rows L2 NdefX ClX StX

/-! ### a block at its own code -/
structure PSA (X : Cx) (b0 : List Stmt) (sts : List Stmt) (t : TS) : Prop where
  run : ∀ (pins : List (Addr × Obj)) (s : Shared) (σ : L2.St) (H : Hp) (D : Ends), Inv X pins σ H s → t D σ H → _root_.PySem.wpAt (model X.prog X.w) X.A (.func b0 X.env) (execs sts X.env) (SP X pins D) X.xe s
theorem psa_of {X : Cx} {b0 sts : List Stmt} {t : TS} (h : PSs X sts t) : PSA X b0 sts t := ⟨fun pins s σ H D I q => wpAt_of_wpAny (h.run pins s σ H D I q)⟩
theorem psa_cons {X : Cx} {b0 rest : List Stmt} {st : Stmt} {t u : TS} (h1 : PS X st t) (h2 : PSA X b0 rest u) : PSA X b0 (st :: rest) (tSeq t u) := by
  refine ⟨fun pins s σ H D I q => PySem.ks_wpAt_execs_cons (wpAt_of_wpAny (thn (h1.run pins s σ H { D with nx := u D } I q) fun f s' hs => ?_))⟩
  cases f with
  | next =>
    obtain ⟨σ', H', I', q'⟩ := hs
    exact h2.run pins s' σ' H' D I' q'
  | brk => exact hs
  | cont => exact hs
  | ret u => exact hs

/-! ### super().m(e, ..) as a statement -/
/-- what the text says: the def's first parameter is slot 0; D: the class whose body holds the def; f2: the next class's method -/
structure SupK (K : PySem.W.Frag) (prog : Program) (f cda cc D : Addr) (fd : FuncData) (sf : Str) : Prop where
  fn : ∃ oc od osl, K.lookup f = some ⟨oc, od, .func fd, osl⟩
  par : ∃ ar, (fd.params.posonlyargs ++ fd.params.args).head? = some ar ∧ ar.arg = sf
  code : ∃ ccl cdd vs ccs file tf, K.lookup cda = some ⟨ccl, cdd, .fields vs, ccs⟩ ∧ vs[2]? = some (.str file tf) ∧ ((prog.main.file : Str) == file) = true
  cell : ∃ cl cld csl, K.lookup cc = some ⟨cl, cld, .cell (some (.ref D)), csl⟩
  top : (prog.main.scope.names.lookup ("super" : Str)).isSome = false
  st : PySem.W.nsIn K PySem.cStatics "thirdparty.any" = some none
/-- of an instance's class C -/
structure SupC (K : PySem.W.Frag) (C D : Addr) (m : Str) (f2 : Addr) : Prop where
  sub : PySem.W.mroIn K C (.ref D) = some true
  at_ : PySem.W.ks_superIn K C D m = some (some (.ref f2))
  ty : PySem.W.typeIn K (.ref f2) = some (.type "function")
  dcl : ∃ cdD, PySem.W.clsIn K D = some cdD
  fi : PySem.W.fnIn K f2 = true
def tSuper (K : PySem.W.Frag) (D : Addr) (m : Str) (f2 : Addr) (sp : Sp) (E : XK) (t : TA) : TS := fun D' σ H => ∃ x C dx fs, σ[0]? = some (some (.ref x)) ∧ H x = some (.ins C dx fs) ∧ SupC K C D m f2 ∧
  t σ H fun vs H1 => sp (.ref x :: vs) H1 (fun _ H2 => D'.nx σ H2) E
theorem psa_super {X : Cx} {CX : CXT} {k : Nat} {b0 rest : List Stmt} {p0 p1 apos pos spos : Pos} {m self : Str} {e : Expr} {es : List Expr} {t : TA} {u : TS} {f cda cc D f2 : Addr} {fd : FuncData} {sp : Sp} {E : XK} {pl : Sem Bool}
    (SK : SupK X.K X.prog f cda cc D fd self) (hfu : X.env.func = some f) (hco : X.env.code = .ref cda) (hcl : X.env.cells.lookup ("__class__" : Str) = some cc)
    (hks : X.env.kindOf "super" = some .globalImplicit) (hkc : X.env.kindOf "__class__" = some .free) (hN : X.N[0]? = some self) (hka : X.env.kindOf self = some .local) (hms : X.mg "super" = none)
    (F : FnR X.prog X.w X.K X.mg X.base CX k f2 sp) (hr : Room k X.A) (hx : Passes CX X E) (ha : PA X (e :: es) t) (hu : PSA X b0 rest u)
    (hm1 : (m == ("__class__" : Str)) = false := by decide +kernel)
    (hi : interactive X.env = false := by rfl) (hsw : swapsWith (.Call (.Attribute (.Call (.Name "super" p0) [] [] p1) m apos) (e :: es) [] pos) none spos.line X.env = pure false := by rfl)
    (hst : starEach (e :: es) X.env = (false, eval e X.env) :: starEach es X.env := by rfl) (hpl : (backTo pos (starEach es X.env)).any (·.1) = false := by rfl)
    (ht : eval (.Call (.Attribute (.Call (.Name "super" p0) [] [] p1) m apos) (e :: es) [] pos) X.env = (do
      let ov ← attributeBase (.Call (.Name "super" p0) [] [] p1) m X.env (eval (.Call (.Name "super" p0) [] [] p1) X.env)
      standAt apos.atName
      let (f, first) ← holding [ov] (getMethod ov m pl)
      callWith pos f first (backTo pos (starEach (e :: es) X.env)) []) := by rfl) :
    PSA X b0 (.Expr (.Call (.Attribute (.Call (.Name "super" p0) [] [] p1) m apos) (e :: es) [] pos) spos :: rest) (tSeq (tSuper X.K D m f2 sp E t) u) := by
  refine ⟨fun pins s σ H Dn I q => ?_⟩
  obtain ⟨x, C, dx, fs, hσ, hH, SC, q⟩ := q
  have KX := I.kIn
  obtain ⟨oc, od, osl, hf⟩ := SK.fn
  obtain ⟨ar, har, hself⟩ := SK.par
  obtain ⟨ccl, cdd, vs, ccs, file, tf, hcode, hvs, hfile⟩ := SK.code
  obtain ⟨cl, cld, csl, hcell⟩ := SK.cell
  obtain ⟨cdD, hD⟩ := SC.dcl
  obtain ⟨oD, hD1, hD2⟩ : ∃ oD, s.heap.get? D = some oD ∧ oD.data = .cls cdD := by
    unfold PySem.W.clsIn at hD
    split at hD
    · rename_i c d cd' sl ho
      cases hD
      exact ⟨_, KX _ _ ho, rfl⟩
    · cases hD
  obtain ⟨mA, O, rr, _, _, _⟩ := ins_get I.hok hH
  obtain ⟨odx, J, _⟩ := O.look
  obtain ⟨ml, hn, hl⟩ := id I.loc
  have hself' : ml ar.arg = some (.ref x) := by
    obtain ⟨w', rw', lk⟩ := hl 0 self (.ref x) hN hσ (.inl hka)
    rcases lk with ⟨_, e1⟩ | ⟨e1, _⟩
    · rw [hself, e1]
      exact congrArg some rw'
    · rw [hka] at e1
      rcases e1 with z | z <;> cases z
  obtain ⟨mb, hb1, hb2⟩ := I.mod.blt
  refine PySem.ks_wpAt_execs_cons (PySem.ks_wpAt_Expr_any (Q := fun f s' => match f with | .next => _root_.PySem.wpAt (model X.prog X.w) X.A (.func b0 X.env) (execs rest X.env) (SP X pins Dn) X.xe s' | f => SP X pins Dn f s') ?_ hi hsw)
  refine PySem.ks_wpAt_MethodCall (pl := pl) ?_ ht
  have e0 : s = ⟨s.heap, s.gens, s.drawn, s.toks, s.os⟩ := rfl
  refine PySem.ks_wpAt_super_base hks hkc hm1 hfu (KX _ _ hf) rfl har hco (KX _ _ hcode) rfl hvs hfile SK.top ?_
  refine PySem.W.ks_loadName_global I.ok.kind hks (Calls.loadGlobal_builtin (by rw [I.ok.glob]; exact I.mod.glob.keeps I.bk) hms (by rw [I.ok.blt]; exact hb1.keeps I.bk) ((hb2 "super" (by decide)).trans (by decide +kernel : bootBuiltins "super" = some (.type "super"))) ⟨rfl, ?_⟩)
  refine wpAny_loadName_free I.ok.kind hkc hcl ⟨_, KX _ _ hcell, rfl⟩ ?_
  refine wpAny_loadName_local I.ok.kind (by rw [hself]; exact hka) hn hself' ?_
  rw [e0]
  refine PySem.ks_wpAny_isType_cls hD1 hD2 ⟨rfl, ?_⟩
  refine PySem.ks_wpAny_call_super hD1 hD2 J.at_ J.cls (fun c e => ?_) (PySem.W.looks_mroIn KX SC.sub) (fun h' e k => ?_)
  · have z := J.no
    unfold PySem.W.notCls at z
    rw [e] at z
    exact Bool.noConfusion z
  have I1 : Inv X ((s.heap.objs.size, PySem.W.ks_superObj D x C) :: pins) σ H { s with heap := h', toks := s.toks } := pin_new I k (Nat.le_refl _) e (fun v z => nomatch z)
  have KX1 := I1.kIn
  cases hc : PySem.W.clsIn X.K C with
  | none =>
    have z := SC.at_
    unfold PySem.W.ks_superIn at z
    rw [hc] at z
    cases z
  | some cd =>
    have hm := SC.at_
    unfold PySem.W.ks_superIn at hm
    rw [hc] at hm
    obtain ⟨of, hof, hofc⟩ : ∃ of, h'.get? f2 = some of ∧ of.cls = .type "function" := by
      have ht' : (X.K.lookup f2).map (·.cls) = some (.type "function") := SC.ty
      cases z : X.K.lookup f2 with
      | none => rw [z] at ht'; cases ht'
      | some of => rw [z] at ht'; exact ⟨of, KX1 _ _ z, Option.some.inj ht'⟩
    refine PySem.ks_wpAny_getMethod_super e (PySem.W.looks_opaque KX1 SK.st) (l₀ := cd.mro) ?_ rfl KX1 hm hof hofc (PySem.W.ks_ne KX J hc) hm1 ?_
    · exact fun A Q E s k q => wpAny_bind ((PySem.W.looks_clsIn KX1 hc) A _ E s k (wpAny_pure q))
    have I2 : Inv X ((h'.objs.size, PySem.W.methodObj (.ref f2) (.ref x)) :: (s.heap.objs.size, PySem.W.ks_superObj D x C) :: pins) σ H { s with heap := h'.push (PySem.W.methodObj (.ref f2) (.ref x)), toks := s.toks + 1 } :=
      pin_new (s := { s with heap := h', toks := s.toks }) I1 (fun _ _ z => Heap.get?_push_of_some _ z) (Nat.le_refl _) (Heap.get?_push_size h' rfl) (fun v z => nomatch z)
    have hq := pin_at I2
    have hL : h'.objs.size ≠ X.env.locals := (I2.pin (h'.objs.size, PySem.W.methodObj (.ref f2) (.ref x)) (List.mem_append_right _ List.mem_cons_self)).2.2.1
    have hb0 : X.base.get? h'.objs.size = none := base_none I1 (Nat.le_refl _)
    refine PySem.W.callWith_M (K := X.K) (h₀ := X.base) (first := []) I.ok.mod.kin (news_at hL hb0 hq) List.mem_cons_self SC.fi (thn (ha.run pos _ _ σ H _ I2 q) fun us s3 ⟨vs3, H2, I3, rv, q2⟩ => ⟨⟨pin_at I3, I3.kIn⟩, ?_⟩) hst hpl
    have z := wpAny_call (PySem.W.method_call (pin_at I3) (run_fnR (us := .ref x :: us) (vs := .ref x :: vs3) F hr hx I3 (.cons rfl rv) q2))
    refine thn z fun v4 s4 ⟨v5, H5, I5, _, q5⟩ => ?_
    exact hu.run pins s4 σ H5 Dn (unpin (unpin I5)) q5

/-! ### a def with the cell __class__, by its body -/
theorem fnr_super {CX : CXT} {P : Program} {w : World} {K : PySem.W.Frag} {mg : Str → Option Value} {base : Heap} {k : Nat} {f cc D : Addr} {F : NF} {N ps : List Str} {sp : Sp} {oc doc pm ct : Value} {od an : Option Addr} {osl : Array (Option Value)}
    (lk : K.lookup f = some ⟨oc, od, .func (PySem.W.fnX F.name F.qual F.params F.body F.scope F.cl .none .none doc pm an (.ref F.c) ct), osl⟩) (hcd : PySem.W.codeIn K (.ref F.c) F.qual = true) (hcl : F.cl = [(("__class__" : Str), cc)])
    (hcell : ∃ cl cld csl, K.lookup cc = some ⟨cl, cld, .cell (some (.ref D)), csl⟩) (S : NScope N ps ["__class__"] F.scope)
    (hb : ∀ (us : List Value), us.length = ps.length → bindArgs (PySem.W.fnX F.name F.qual F.params F.body F.scope F.cl .none .none doc pm an (.ref F.c) ct) ⟨us, []⟩ = pure (ps.zip us))
    (len : ∀ vs H Q E, sp vs H Q E → vs.length = ps.length)
    (hbody : ∀ (A : Around) (outer : List Env) (s : Shared) (H : Hp) (vs : List V) (Q : VK) (E : XK), Room k (A.deeper (envF F f s.heap.objs.size)) → sp vs H Q E →
      ∃ t, PSA (ncx CX P w K mg base N F f A outer s H E) F.body F.body t ∧ t { nx := fun _ H' => Q .non H', rt := Q } (startF N vs [some (.ref D)]) H) :
    FnR P w K mg base CX (k + 1) f sp := by
  intro A outer s H us vs Q E hr e0 r hsp
  have hl := len _ _ _ _ hsp
  have KB : K.In base := e0.mod.kin
  have KX : K.In s.heap := KB.keeps fun b o e => (e0.bs b o e).1
  have lim : s.heap.NoLimit := e0.mod.nolimit.keeps fun b o e => (e0.bs b o e).1
  obtain ⟨cl, cld, csl, hc⟩ := hcell
  have hcl1 : ∀ y c, F.cl.lookup y = some c → y = "__class__" ∧ c = cc := fun y c e => by
    rw [hcl] at e
    by_cases hy : y = ("__class__" : Str)
    · subst hy
      have e2 : some cc = some c := by
        rw [← e]
        simp [List.lookup]
      exact ⟨rfl, (Option.some.inj e2).symm⟩
    · have hb0 : (y == ("__class__" : Str)) = false := beq_eq_false_iff_ne.mpr hy
      rw [List.lookup_cons, hb0] at e
      cases e
  have C : CellsAt F.cl ["__class__"] [some (.ref D)] s.heap H := by
    refine ⟨rfl, fun y c e => ?_, fun x y c e1 e2 => ?_, fun i y e => ?_⟩
    · obtain ⟨_, rfl⟩ := hcl1 y c e
      exact ⟨(e0.bs _ _ (KB _ _ hc)).2, some (.ref D), ⟨_, KX _ _ hc, rfl⟩⟩
    · exact (hcl1 x c e1).1.trans (hcl1 y c e2).1.symm
    · cases i with
      | zero =>
        cases e
        refine ⟨cc, by rw [hcl]; simp [List.lookup], fun v e2 => ?_⟩
        cases e2
        exact ⟨.ref D, rfl, ⟨_, KX _ _ hc, rfl⟩⟩
      | succ i => cases e
  refine codeAny_call_function hr.depth (KX _ _ lk) rfl S.co S.gen rfl (PySem.W.codeRec_of KX hcd) ?_
  rw [hb us (by rw [← r.length]; exact hl)]
  refine wpAny_pure (wpAny_newFunctionEnv S.nocell (fun ⟨n, _⟩ hy => S.par n (List.of_mem_zip hy).1) (fun h₁ hns hsb => ⟨lim.fresh _ hsb, ?_⟩) S.kind)
  show codeAny _ _ (.func F.body (envF F f s.heap.objs.size)) _ _
  refine PySem.ks_codeAny_funcAt ?_
  have kp : ∀ b o, s.heap.get? b = some o → h₁.get? b = some o := fun b o e => hsb.extBut b o (Nat.ne_of_lt (Heap.lt_size e)) (Heap.get?_push_of_some _ e)
  obtain ⟨t, ht, hq⟩ := hbody A outer s H vs Q E (hr.deeper _) hsp
  have I : Inv (ncx CX P w K mg base N F f A outer s H E) [] (startF N vs [some (.ref D)]) H { s with heap := h₁, toks := s.toks + (ps.zip us).length } := inv_startN S hr.hd e0 hl r C hns kp
  refine PySem.ks_wpAt_mono (ht.run [] _ (startF N vs [some (.ref D)]) H _ I hq) (fun fl s' hs => ?_) fun e s' hs => hs
  have fin : ∀ {σ' : L2.St} {H' : Hp} {v : V} {u : Value}, Inv (ncx CX P w K mg base N F f A outer s H E) [] σ' H' s' → L2.RelV v u → Q v H' → CE outer P w H s Q u s' :=
    fun {σ' H' v u} J rv q => ⟨v, H', J.os, J.bare, J.base, J.hok, rv, q⟩
  cases fl with
  | ret u =>
    obtain ⟨v, σ', H', J, rv, q⟩ := hs
    exact fin J rv q
  | next =>
    obtain ⟨σ', H', J, q⟩ := hs
    exact fin (v := V.non) (u := Value.none) J rfl q
  | brk =>
    obtain ⟨_, _, _, q⟩ := hs
    exact False.elim q
  | cont =>
    obtain ⟨_, _, _, q⟩ := hs
    exact False.elim q

/-! ### ways joined behind a statement -/
def tJoin (t u : TS) : TS := fun D σ H => ∃ Mid : L2.St → Hp → Prop, t { D with nx := Mid } σ H ∧ ∀ σ' H', Mid σ' H' → u D σ' H'
theorem pss_join {X : Cx} {st : Stmt} {rest : List Stmt} {t u : TS} (h1 : PS X st t) (h2 : PSs X rest u) : PSs X (st :: rest) (tJoin t u) := by
  refine ⟨fun pins s σ H D I h => ?_⟩
  obtain ⟨Mid, q1, q2⟩ := h
  refine wpAny_execs_cons (thn (h1.run pins s σ H _ I q1) fun f s' hs => ?_)
  cases f with
  | next =>
    obtain ⟨σ', H', I', m⟩ := hs
    exact h2.run pins s' σ' H' D I' (q2 σ' H' m)
  | brk => exact hs
  | cont => exact hs
  | ret u => exact hs

/-! ### x(e, ..), x a local that holds the class at C -/
section
variable {X : Cx} {CX : CXT} {k i : Nat} {f C : Addr} {sp : Sp} {E : XK} {x : Str} {e : Expr} {es : List Expr} {te : TE} {t : TA} {p pos sp_ : Pos}
def tMakeL (i : Nat) (C : Addr) (sp : Sp) (E : XK) (t : TA) : TE := fun σ H Q => σ[i]? = some (some (.ref C)) ∧ tMakeR C sp E t σ H Q
theorem pe_makeL (M : Mk X.K C f) (F : FnR X.prog X.w X.K X.mg X.base CX k f sp) (hr : Room (k + 1) X.A) (hN : X.N[i]? = some x) (hv : Vis X.env.scope x) (hx : Passes CX X E) (ha : PA X (e :: es) t)
    (hdb : (x == ("__debug__" : Str)) = false := by decide) (hcd : (x == ("__classdict__" : Str)) = false := by decide)
    (he : starEach (e :: es) X.env = (false, eval e X.env) :: starEach es X.env := by rfl) (hpl : (backTo pos (starEach es X.env)).any (·.1) = false := by rfl) : PE X (.Call (.Name x p) (e :: es) [] pos) (tMakeL i C sp E t) := by
  refine ⟨fun pins s σ H Q I h => ?_⟩
  obtain ⟨hs, h⟩ := h
  refine wpAny_Call_Name_kw (thn ((pe_var (pos := p) hN hv hdb hcd).run pins s σ H (fun v H1 => v = .ref C ∧ H1 = H) I ⟨.ref C, hs, rfl, rfl⟩) fun u s1 ⟨v, H1, I1, r1, q1⟩ => ?_)
  obtain ⟨rfl, rfl⟩ := q1
  cases r1
  refine PySem.W.callWith_K (h₀ := X.base) I.ok.mod.kin M.kp (thn (ha.run pos pins s1 σ _ _ I1 h) fun us s2 ⟨vs, H2, I2, r, q⟩ => ⟨I2.kIn, ?_⟩) he hpl
  exact run_makeR M F hr hx I2 r q
/-- x(*y), x a local that holds one of several defs -/
def tCallLS (X : Cx) (CX : CXT) (k i : Nat) (E : XK) (te : TE) : TE := fun σ H Q => ∃ f sp, σ[i]? = some (some (.ref f)) ∧ FnR X.prog X.w X.K X.mg X.base CX k f sp ∧ PySem.W.keepIn X.K (.ref f) = true ∧
  te σ H fun y H1 => ∃ a xs, y = V.ref a ∧ (SqT X.K H1 a xs ∨ SqL X.K H1 a xs) ∧ sp xs H1 Q E
theorem pe_callLS (hr : Room k X.A) (hN : X.N[i]? = some x) (hv : Vis X.env.scope x) (hx : Passes CX X E) (he : PE X e te) (hdb : (x == ("__debug__" : Str)) = false := by decide) (hcd : (x == ("__classdict__" : Str)) = false := by decide)
    (hst : starEach [.Starred e sp_] X.env = [(true, eval e X.env)] := by rfl) : PE X (.Call (.Name x p) [.Starred e sp_] [] pos) (tCallLS X CX k i E te) := by
  refine ⟨fun pins s σ H Q I h => ?_⟩
  obtain ⟨f, sp, hs, F, hk, h⟩ := h
  refine wpAny_Call_Name_kw (thn ((pe_var (pos := p) hN hv hdb hcd).run pins s σ H (fun v H1 => v = .ref f ∧ H1 = H) I ⟨.ref f, hs, rfl, rfl⟩) fun u s1 ⟨v, H1, I1, r1, q1⟩ => ?_)
  obtain ⟨rfl, rfl⟩ := q1
  cases r1
  refine PySem.W.callWith_S (h₀ := X.base) I.ok.mod.kin hk (thn (he.run pins s1 σ _ _ I1 h) fun v s2 ⟨y, H2, I2, ry, a, xs, ey, hxs, q⟩ => ?_) hst
  subst ey
  obtain rfl : v = Value.ref a := ry
  exact star_any I2 hxs fun us s3 I3 rv => ⟨I3.kIn, wpAny_call (run_fnR F hr hx I3 rv q)⟩
end
end Own
/-! OwnB: defs that ask that no repr runs around them; repr of data; str of an own instance. -/
namespace Own
open PySem PySem.Spec PyProof.Rows L2
/-! ### repr of data: where no repr runs around -/
theorem call_reprD {X : Cx} (hg : X.A.guards = some []) (hu : X.A.units + 64 < cLine) : CallR X (.builtin "repr") (fun xs H Q => ∃ (a : Addr) (d : PyData), xs = [.ref a] ∧ Dp X.K H (.ref a) d ∧ d.showable = true ∧ d.hasDict = false ∧ d.depth ≤ 60 ∧ d.shown.length ≤ sizeLine ∧ Q (.str d.shown) H) := by
  intro pins s σ H xs us Q I r h
  obtain ⟨a, d, rfl, hd, hs, hn, h60, hz, q⟩ := h
  obtain ⟨u, rfl, ru⟩ := vals1 r
  have hu' : u = .ref a := ru
  subst hu'
  obtain ⟨as, rd⟩ := Dp.reads I d _ _ hd rfl
  exact repr_of_reads' rd hs (PyData.noDict_hsm hn) hg (by omega) (fun _ _ e => e) (fun h' u tk hk => ⟨.str d.shown, H, I.kept hk, ⟨u, rfl⟩, q⟩) hz
/-! ### str(o) by the class's own __str__ -/
theorem call_strO {X : Cx} {C f : Addr} {k : Nat} {sp : Sp} (F : FnR X.prog X.w X.K X.mg X.base CX0 k f sp) (hr : Room (k + 2) X.A) (hs : PySem.W.findIn X.K (.ref C) "__str__" = some (some (.ref f))) (hf : PySem.W.isFn X.K (.ref f) = true) :
    CallR X (.type "str") (fun xs H Q => ∃ (x dx : Addr) (fs : List (Str × V)), xs = [.ref x] ∧ H x = some (.ins C dx fs) ∧ sp [.ref x] H (fun v H' => ∃ y, v = .str y ∧ Q v H') E0) := by
  intro pins s σ H xs us Q I r h
  obtain ⟨x, dx, fs, rfl, hx, q⟩ := h
  obtain ⟨u, rfl, ru⟩ := vals1 r
  have hu' : u = .ref x := ru
  subst hu'
  obtain ⟨mA, O, _⟩ := ins_get I.hok hx
  obtain ⟨od, J, _⟩ := O.look
  refine PySem.W.kso_call (hr.in1.in1.units0) I.kIn J hs hf (wpAny_call (codeAny_mono (F X.A.in1.in1 X.stack s H [.ref x] [.ref x] _ E0 hr.in1.in1 I.env0.in1.in1 (.cons rfl .nil) q) fun r s' hq => ?_))
  cases r with
  | error e => exact False.elim hq
  | ok fl =>
    cases fl with
    | ret u =>
      obtain ⟨v, H', I', rv, ⟨y, rfl, q'⟩⟩ := I.after hq
      obtain ⟨t, rfl⟩ := rv
      exact ⟨.str y, H', I', ⟨t, rfl⟩, q'⟩
    | next => exact False.elim hq
    | brk => exact False.elim hq
    | cont => exact False.elim hq
/-! ### a def that is called where no repr runs -/
structure FnG (P : Program) (w : World) (K : PySem.W.Frag) (mg : Str → Option Value) (base : Heap) (CX : CXT) (k : Nat) (f : Addr) (fd : FuncData) (ps : List Str) (sp : Sp) : Prop where
  len : ∀ vs H Q E, sp vs H Q E → vs.length = ps.length
  run : ∀ (A : Around) (outer : List Env) (s : Shared) (H : Hp) (args : Args) (us : List Value) (vs : List V) (Q : VK) (E : XK), A.guards = some [] → Room k A → Env0 P w K mg base A outer s H → BindsTo s fd args (ps.zip us) → Vals vs us → sp vs H Q E →
    codeAny (model P w) A (.call (.ref f) args) (CR CX outer P w H s Q E) s
theorem fng_of {CX : CXT} {P : Program} {w : World} {K : PySem.W.Frag} {mg : Str → Option Value} {base : Heap} {k : Nat} {f : Addr} {name qual : Str} {params : Arguments} {body : List Stmt} {scope : Scope} {dV kV doc pm cdv ct oc : Value} {an od : Option Addr}
    {osl : Array (Option Value)} {N ps : List Str} {sp : Sp} (lk : K.lookup f = some ⟨oc, od, .func (PySem.W.fnOf name qual params body scope dV kV doc pm an cdv ct), osl⟩) (hcd : PySem.W.codeIn K cdv qual = true) (S : FnScope N ps scope)
    (len : ∀ vs H Q E, sp vs H Q E → vs.length = ps.length)
    (hbody : ∀ (A : Around) (outer : List Env) (s : Shared) (H : Hp) (vs : List V) (Q : VK) (E : XK), (A.deeper (envOfC qual scope s.heap.objs.size f cdv)).guards = some [] → Room k (A.deeper (envOfC qual scope s.heap.objs.size f cdv)) → sp vs H Q E →
      ∃ t, PSs (cxOf CX P w K mg base N qual scope f cdv A outer s H E) body t ∧ t { nx := fun _ H' => Q .non H', rt := Q } (start N vs) H) :
    FnG P w K mg base CX (k + 1) f (PySem.W.fnOf name qual params body scope dV kV doc pm an cdv ct) ps sp := by
  refine ⟨len, fun A outer s H args us vs Q E hg hr e0 hb r hsp => ?_⟩
  have hl := len _ _ _ _ hsp
  have KX : K.In s.heap := e0.mod.kin.keeps fun b o e => (e0.bs b o e).1
  have lim : s.heap.NoLimit := e0.mod.nolimit.keeps fun b o e => (e0.bs b o e).1
  have hkind : ∀ y ∈ ps.zip us, scope.names.lookup y.1 = some .local ∨ (scope.names.lookup y.1 = some .cell ∧ ((cellsFrom (s.heap.objs.size + 1) scope.names []).lookup y.1).isSome = true) := fun ⟨n, v⟩ hy => by
    rcases S.par n (List.of_mem_zip hy).1 with q | q
    · exact .inl q
    · exact .inr ⟨q, PySem.W.cellsFrom_some _ _ _ (.inl q)⟩
  refine codeAny_call_function hr.depth (KX _ _ lk) rfl S.co S.gen rfl (PySem.W.codeRec_of KX hcd) (hb _ _ _ _ ?_)
  refine wpAny_newFunctionEnv_cells S.kind hkind fun env he s1 x => ?_
  subst he
  refine ⟨lim.keeps x.toInCall.keep, codeAny_func ?_⟩
  obtain ⟨t, ht, hq⟩ := hbody A outer s H vs Q E hg (hr.deeper _) hsp
  have I : Inv (cxOf CX P w K mg base N qual scope f cdv A outer s H E) [] (start N vs) H s1 := inv_start S hr.hd e0 hl r x
  refine wpAny_mono (ht.run [] s1 (start N vs) H _ I hq) (fun fl s' hs => ?_) fun e s' hs => hs
  have fin : ∀ {σ' : L2.St} {H' : Hp} {v : V} {u : Value}, Inv (cxOf CX P w K mg base N qual scope f cdv A outer s H E) [] σ' H' s' → RelV v u → Q v H' → CE outer P w H s Q u s' :=
    fun {σ' H' v u} J rv q => ⟨v, H', J.os, J.bare, J.base, J.hok, rv, q⟩
  cases fl with
  | ret u =>
    obtain ⟨v, σ', H', J, rv, q⟩ := hs
    exact fin J rv q
  | next =>
    obtain ⟨σ', H', J, q⟩ := hs
    exact fin (v := V.non) (u := Value.none) J rfl q
  | brk =>
    obtain ⟨_, _, _, q⟩ := hs
    exact False.elim q
  | cont =>
    obtain ⟨_, _, _, q⟩ := hs
    exact False.elim q
theorem fun_okG {P : Program} {w : World} {K : PySem.W.Frag} {mg : Str → Option Value} {base : Heap} {x qual : Str} {st : Stmt} {f : Addr} {fd : FuncData} {N ps : List Str} {k : Nat} {sp : Sp} (F : Fun K x qual st f fd) (S : FnScope N ps (defScope st)) (len : ∀ vs H Q E, sp vs H Q E → vs.length = ps.length)
    (hbody : ∀ (cdv : Value) (A : Around) (outer : List Env) (s : Shared) (H : Hp) (vs : List V) (Q : VK) (E : XK), (A.deeper (envOfC qual (defScope st) s.heap.objs.size f cdv)).guards = some [] → Room k (A.deeper (envOfC qual (defScope st) s.heap.objs.size f cdv)) → sp vs H Q E →
      ∃ t, PSs (cxOf CX0 P w K mg base N qual (defScope st) f cdv A outer s H E).nox (defBody st) t ∧ t { nx := fun _ H' => Q .non H', rt := Q } (start N vs) H) : FnG P w K mg base CX0 (k + 1) f fd ps sp := by
  obtain ⟨oc, od, kV, doc, pm, an, cdv, ct, osl, rfl, lk, hcd⟩ := F.ex
  refine fng_of lk hcd S len fun A outer s H vs Q E hg hr hsp => ?_
  obtain ⟨t, h, q⟩ := hbody cdv A outer s H vs Q E hg hr hsp
  exact ⟨t, h.nox, q⟩
/-! ### the law's end for such a def -/
theorem law_callG {P : Program} {w : World} {K : PySem.W.Frag} {mg mb : Str → Option Value} {CX : CXT} {k : Nat} {fa a : Addr} {fd : FuncData} {x : Str} {sp : Sp} {s₁ : Shared} {vs : List Value} {ns : List Int}
    (KX : K.In s₁.heap) (hns : s₁.heap.Ns mainGlobals mg) (hb : s₁.heap.Ns builtinsNs mb) (hbb : ∀ x : Str, x ≠ "__name__" → mb x = bootBuiltins x) (hlim : s₁.heap.NoLimit) (hg : s₁.gens = #[])
    (ha : s₁.heap.get? a = some { cls := .type "list", data := .seq vs.toArray }) (hi : IntsAre vs ns) (hl : ns.length ≤ sizeLine) (hr : Room k callerA)
    (F : ∀ base : Heap, K.In base → base.Ns mainGlobals mg → FnG P w K mg base CX k fa fd [x] sp) (hbind : ∀ (s : Shared) (u : Value), BindsTo s fd ⟨[u], []⟩ [(x, u)])
    (hsp : ∀ H : Hp, Only H → SqL K H a (ns.map V.int) → sp [.ref a] H (fun v _ => v = .bl true) fun _ _ _ => False)
    (hCX : ∀ H e s', CX [] H s₁ (fun _ _ _ => False) e s' → False) :
    codeAny (model P w) callerA (.call (.ref fa) ⟨[.ref a], []⟩) (fun r s' => r = .ok (.ret (.bool true)) ∧ OldK s₁.heap s'.heap ∧ s'.os = s₁.os ∧ AllBare s'.gens) s₁ := by
  have rv := vals_ints hi
  have lenV := hi.length
  have core : ∀ H : Hp, Only H → SqL K H a (ns.map V.int) → HOk P w H s₁.heap → (∀ b, H b ≠ none → b = a) → (H a ≠ none → K.lookup a = none) →
      codeAny (model P w) callerA (.call (.ref fa) ⟨[.ref a], []⟩) (fun r s' => r = .ok (.ret (.bool true)) ∧ OldK s₁.heap s'.heap ∧ s'.os = s₁.os ∧ AllBare s'.gens) s₁ := by
    intro H hO hS hok hA hK
    have base_of : ∀ {b : Addr} {o : Obj}, s₁.heap.get? b = some o → H b = none → (hidT s₁.heap H).get? b = some o := fun e n => hidT_get e n
    have noA : ∀ {b : Addr} {o : Obj} {es : Array DictEntry} {ep : Nat}, s₁.heap.get? b = some o → o.data = .dict es ep → H b = none := fun {b o es ep} e d => by
      cases q : H b with
      | none => rfl
      | some u =>
        have e' : b = a := hA b (by rw [q]; simp)
        subst e'
        rw [ha] at e; cases e
        have d' : Data.seq vs.toArray _ = Data.dict es ep := d
        cases d'
    have nsK : ∀ {b : Addr} {m : Str → Option Value}, s₁.heap.Ns b m → (hidT s₁.heap H).Ns b m := fun {b m} ⟨o, es, ep, e, d, r⟩ => ⟨o, es, ep, base_of e (noA e d), d, r⟩
    have hKb : K.In (hidT s₁.heap H) := fun b o e => base_of (KX b o e) (by
      cases q : H b with
      | none => rfl
      | some u =>
        have e' : b = a := hA b (by rw [q]; simp)
        subst e'
        rw [hK (by rw [q]; simp)] at e; cases e)
    have hM : Mod K mg (hidT s₁.heap H) := ⟨hKb, nsK hns, ⟨mb, nsK hb, hbb⟩, let ⟨mc, h1, h2⟩ := hlim; ⟨mc, nsK h1, h2⟩⟩
    have e0 : Env0 P w K mg (hidT s₁.heap H) callerA [] s₁ H := ⟨rfl, hM, fun b o e => of_hidT e, Nat.le_of_eq (hidT_size _ _), trivial, fun b hb => absurd (show b ∈ ([] : List Addr) from hb) (by simp), hok, .of_eq hg⟩
    refine codeAny_mono ((F _ hKb (nsK hns)).run callerA [] s₁ H ⟨[.ref a], []⟩ [.ref a] [.ref a] _ _ rfl hr e0 (hbind s₁ (.ref a)) (.cons rfl .nil) (hsp H hO hS)) fun r s' h => ?_
    cases r with
    | error e => exact (hCX H e s' h).elim
    | ok fl =>
      cases fl with
      | next => exact False.elim h
      | brk => exact False.elim h
      | cont => exact False.elim h
      | ret u =>
        obtain ⟨v, H', os, bare, un, hok', r', q⟩ := h
        have q' : v = .bl true := q
        subst q'
        obtain rfl : u = Value.bool true := r'
        refine ⟨rfl, OldK.of_keep fun b o e => ?_, os, bare⟩
        cases q : H b with
        | none => exact un.keep b o e q (by intro z; exact absurd (show b ∈ ([] : List Addr) from z) (by simp)) (by simp)
        | some u =>
          rcases hO b with z | ⟨ob, xs, z⟩
          · rw [q] at z; cases z
          · have z2 := un.frzs b ob _ z
            obtain ⟨e1, _⟩ := hok b _ z
            obtain ⟨e2, _⟩ := hok' b _ z2
            rw [e] at e1; cases e1
            exact e2
  cases hk : K.lookup a with
  | some o =>
    have e := KX a o hk
    rw [ha] at e
    cases e
    refine core (fun _ => none) (fun _ => .inl rfl) (.inr ⟨_, vs.toArray, _, hk, rfl, rfl, rfl, by rw [List.size_toArray, lenV]; exact hl, by simpa using rv⟩) (fun b u z => by have z' : (none : Option HO) = some u := z; cases z') (fun b z => absurd rfl z) fun z => absurd rfl z
  | none =>
    refine core (fun b => if b = a then some (.frz { cls := .type "list", data := .seq vs.toArray } (.lst (ns.map V.int))) else none) (fun b => ?_) (.inl (.inr ⟨{ cls := .type "list", data := .seq vs.toArray }, if_pos rfl⟩)) (fun b u z => ?_) (fun b z => ?_) fun _ => hk
    · by_cases hb : b = a
      · exact .inr ⟨_, _, if_pos hb⟩
      · exact .inl (if_neg hb)
    · by_cases hb : b = a
      · have z' := (if_pos hb).symm.trans z
        cases z'
        subst hb
        exact ⟨ha, by rw [List.length_map]; exact hl, vs, _, rv, ha⟩
      · have z' := (if_neg hb).symm.trans z
        cases z'
    · by_cases hb : b = a
      · exact hb
      · exact absurd (if_neg hb) z
theorem walk_ofG {l : PySem.W.OpenLaw} {n k : Nat} {q : Program} {loose : List Str} {XP : (Str → Option Value) → Heap → Prop} {YP : World → Heap → Prop} {d : DefRec} {K : Params → PySem.W.Frag} {sp : World → Sp} {x : Str}
    (hn : l.most = some n) (hn2 : n ≤ sizeLine) (hdf : d.params.defaults = []) (hr : Room k callerA)
    (hY : ∀ (w : World) (h : Heap), YP w h → (K w.params).In h)
    (F : ∀ (w : World) (mg : Str → Option Value) (fa : Addr) (h : Heap), (K w.params).In h → h.Ns mainGlobals mg → mg d.name = some (.ref fa) →
      ∃ fd : FuncData, (∀ (s : Shared) (u : Value), BindsTo s fd ⟨[u], []⟩ [(x, u)]) ∧
        ∀ base : Heap, (K w.params).In base → base.Ns mainGlobals mg → FnG l.prog w (K w.params) mg base CX0 k fa fd [x] (sp w))
    (hsp : ∀ (w : World) (H : Hp) (a : Addr) (ns : List Int), ns.length ≤ n → Only H → SqL (K w.params) H a (ns.map V.int) → sp w [.ref a] H (fun v _ => v = .bl true) fun _ _ _ => False) :
    PySem.W.WalkO q loose XP YP l.row.toRowW d [] (fun f vs => PySem.call f vs) := by
  refine Att.attach_call hn hdf fun w s₀ s₁ mg mb fa o pm cd doc a vs ns G Y ho hd hcd hmg hobj hints hlen hg => ?_
  have KX := hY w _ Y
  obtain ⟨fd, hb, hF⟩ := F w mg fa _ KX G.T.g hmg
  exact law_callG KX G.T.g G.T.b G.T.builtins G.T.nolimit hg hobj hints (Nat.le_trans hlen hn2) hr hF hb (fun H hO hS => hsp w H a ns hlen hO hS) fun H e s' z => z
/-! ### a written dict has no other key -/
theorem miss_of {K : PySem.W.Frag} {d : Addr} {es : Array DictEntry} {n : Nat} (l : K.lookup d = some ⟨.type "dict", none, .dict es n, #[]⟩) {ks : List Str} (hk : ∀ e ∈ es.toList, ∃ x t, e.key = .str x t ∧ x ∈ ks) {z : Str} (hz : ¬ z ∈ ks) : PySem.W.nsIn K d z = some none := by
  unfold PySem.W.nsIn
  rw [l]
  dsimp only
  have h1 : es.toList.find? (·.key.isStr z) = none := by
    rw [List.find?_eq_none]
    intro e he
    obtain ⟨x, t, e1, e2⟩ := hk e he
    rw [e1, PySem.W.isStr_of]
    intro q
    obtain ⟨t', e3⟩ := Value.isStrOf_shape q
    cases e3
    exact hz e2
  have h2 : es.toList.any (·.refKey) = false := by
    rw [List.any_eq_false]
    intro e he
    obtain ⟨x, t, e1, e2⟩ := hk e he
    simp [DictEntry.refKey, e1]
  rw [h1, h2]
  rfl
end Own
namespace K1
open PySem L2 Own StX ClX NdefX
/-! ### the text by places -/
def top (i : Nat) : Stmt := PySem.Challenge.pw_stepblocks_k01_primitives.main.body.getD i (.Pass ⟨0, 0, 0, 0⟩)
abbrev sRV : Stmt := top 10
abbrev sRP : Stmt := top 11
abbrev sBI : Stmt := inClass (top 13) 0
abbrev sPI : Stmt := inClass (top 14) 0
abbrev sParse : Stmt := inClass (top 14) 1
abbrev sStr : Stmt := inClass (top 14) 4
abbrev sFeed : Stmt := top 16
abbrev sTake : Stmt := top (16 + 1)
abbrev sPickL : Stmt := top (16 + 2)
theorem small1 {n : Nat} (h : n ≤ 8) : n ≤ sizeLine := Nat.le_trans h (by decide)
theorem upd_new {H : Hp} {p : Addr} {o : HO} (h : H p = none) : Same H (upd H p o) := fun b u e => by
  rw [upd_ne (ne_of_none e h)]
  exact e
theorem same_put {H H1 : Hp} {p : Addr} {o : HO} (s : Same H H1) (h : H p = none) : Same H (upd H1 p o) := fun b u e => by
  rw [upd_ne (ne_of_none e h)]
  exact s b u e
/-! ### what the texts say -/
def optV : Option Int → V
  | some v => .int v
  | none => .non
def isD (c : Nat) : Bool := decide (48 ≤ c) && decide (c ≤ 57)
def dig10 (x : Str) : Bool := decide (1 ≤ x.length) && decide (x.length ≤ 10) && x.cps.toList.all isD
def readV (x : Str) : Option Int :=
  if dig10 x = true then
    if (⟨#[x.cps.toList.headD 0]⟩ : Str) = "0" ∧ ¬ x = "0" then none
    else if ((NumText.digitsVal x.cps.toList : Nat) : Int) < 4294967296 then some ((NumText.digitsVal x.cps.toList : Nat) : Int) else none
  else none
def words9 : List Str := ["const", "add", "sub", "mul", "less", "equal", "pick", "divide", "delay"]
def readP (x : Str) : Option (Str × Option Int) :=
  if (Txt.partition x " ").1 ∈ words9 then
    if (Txt.partition x " ").1 = "const" ∨ (Txt.partition x " ").1 = "delay" then (readV (Txt.partition x " ").2.2).map fun c => ((Txt.partition x " ").1, some c)
    else if (Txt.partition x " ").2.1.length = 0 then some ((Txt.partition x " ").1, none) else none
  else none
theorem isD_in (c : Nat) : decide (c ∈ (("0123456789" : Str)).cps.toList) = isD c := by
  have e : (("0123456789" : Str)).cps.toList = [48, 49, 50, 51, 52, 53, 54, 55, 56, 57] := by decide +kernel
  rw [e]
  unfold isD
  rw [Bool.eq_iff_iff]
  simp only [Bool.and_eq_true, decide_eq_true_eq, List.mem_cons, List.not_mem_nil, or_false]
  omega
theorem par_len {S : List Nat} : ∀ (l acc : List Nat) {p q : List Nat}, TL.par S acc l = some (p, q) → q.length ≤ l.length
  | [], acc, p, q, h => by cases h
  | c :: r, acc, p, q, h => by
    have h : (if TL.pre S (c :: r) = true then some (acc, (c :: r).drop S.length) else TL.par S (acc ++ [c]) r) = some (p, q) := h
    split at h
    · cases h
      rw [List.length_drop]
      omega
    · have := par_len r _ h
      rw [List.length_cons]
      omega
theorem part_rest (x : Str) : (Txt.partition x " ").2.2.length ≤ x.length := by
  rw [TL.partition_par x " " (by decide +kernel)]
  split
  · rename_i a b e
    have := par_len _ _ e
    simp only [Str.length] at *
    simpa using this
  · exact Nat.zero_le _
/-! ### an instance of Primitive -/
theorem putF_len {f : Str} {v : V} : ∀ fs : List (Str × V), (putF f v fs).length ≤ fs.length + 1
  | [] => Nat.le_refl _
  | (g, u) :: r => by
    show (if g = f then _ else _ : List (Str × V)).length ≤ _
    split
    · simp
    · have := putF_len (f := f) (v := v) r
      simp only [List.length_cons]
      omega
def F3 (n i o : V) : List (Str × V) := putF "outputs" o (putF "inputs" i (putF "name" n []))
def F4 (n i o c : V) : List (Str × V) := putF "constant" c (F3 n i o)
theorem F3_len (n i o : V) : (F3 n i o).length ≤ 3 := by
  have h1 := putF_len (f := "outputs") (v := o) (putF "inputs" i (putF "name" n []))
  have h2 := putF_len (f := "inputs") (v := i) (putF "name" n [])
  have h3 := putF_len (f := "name") (v := n) []
  simp only [List.length_nil] at h3
  unfold F3
  omega
theorem F4_name (n i o c : V) : (F4 n i o c).lookup ("name" : Str) = some n := by
  unfold F4 F3
  rw [lookup_putF, if_neg (by decide +kernel), lookup_putF, if_neg (by decide +kernel), lookup_putF, if_neg (by decide +kernel), lookup_putF, if_pos rfl]
theorem F4_ins (n i o c : V) : (F4 n i o c).lookup ("inputs" : Str) = some i := by
  unfold F4 F3
  rw [lookup_putF, if_neg (by decide +kernel), lookup_putF, if_neg (by decide +kernel), lookup_putF, if_pos rfl]
theorem F4_outs (n i o c : V) : (F4 n i o c).lookup ("outputs" : Str) = some o := by
  unfold F4 F3
  rw [lookup_putF, if_neg (by decide +kernel), lookup_putF, if_pos rfl]
theorem F4_const (n i o c : V) : (F4 n i o c).lookup ("constant" : Str) = some c := by
  unfold F4
  rw [lookup_putF, if_pos rfl]
theorem F4_no {n i o c : V} {m : Str} (h1 : ¬ m = "name") (h2 : ¬ m = "inputs") (h3 : ¬ m = "outputs") (h4 : ¬ m = "constant") : (F4 n i o c).lookup m = none := by
  unfold F4 F3
  rw [lookup_putF, if_neg h4, lookup_putF, if_neg h3, lookup_putF, if_neg h2, lookup_putF, if_neg h1]
  rfl
/-- the ports of a primitive -/
def insOf (z : Str) : List Str := if z = "const" then [] else if z = "delay" then ["in"] else if z = "pick" then ["c", "a", "b"] else ["a", "b"]
def outsOf (z : Str) : List Str := if z = "divide" then ["quotient", "rest"] else ["out"]
def PortsOk (K : PySem.W.Frag) (z : Str) (i o : V) : Prop := ∃ a b, i = .ref a ∧ o = .ref b ∧ (∀ H, SqT K H a ((insOf z).map V.str)) ∧ (∀ H, SqT K H b ((outsOf z).map V.str)) ∧ ¬ (a = b)
/-- what the top says -/
structure Txt (K : PySem.W.Frag) (w : World) (mg : Str → Option Value) (C : Addr) : Prop where
  cl : Cls K C
  nN : NoAttr K C "name"
  nI : NoAttr K C "inputs"
  nO : NoAttr K C "outputs"
  nC : NoAttr K C "constant"
  mC : mg "Primitive" = some (.ref C)
  pp : ∃ d es n, mg "PRIMITIVE_PORTS" = some (.ref d) ∧ KDict K w d es n ∧ (∀ z ∈ words9, ∃ u tp x y, PySem.W.nsIn K d z = some (some u) ∧ RelV (.ref tp) u ∧ (∀ H, SqT K H tp [x, y]) ∧ PortsOk K z x y) ∧ ∀ z, ¬ z ∈ words9 → PySem.W.nsIn K d z = some none
  ww : ∃ d, mg "WORDS_WITH_VALUE" = some (.ref d) ∧ ∀ H, SqT K H d [.str "const", .str "delay"]
  sup : mg "super" = none
  dg : ∃ t, mg "DIGITS" = some (.str "0123456789" t)
  md : ∃ t, mg "MOST_DIGITS" = some (.int 10 t)
  mo : ∃ t, mg "MODULUS" = some (.int 4294967296 t)
  zl : mg "len" = none
  za : mg "all" = none
  zi : mg "int" = none
  zs : mg "str" = none
def spRV : Sp := fun vs H Q _ => ∃ x : Str, vs = [.str x] ∧ x.length ≤ sizeLine ∧ ∀ H', Same H H' → Q (optV (readV x)) H'
def spRP : Sp := fun vs H Q _ => ∃ x : Str, vs = [.str x] ∧ x.length ≤ sizeLine ∧ (readP x = none → ∀ H', Same H H' → Q .non H') ∧
  (∀ z c, readP x = some (z, c) → ∀ t H', Same H H' → H t = none → H' t = some (.tup [.str z, optV c]) → Q (.ref t) H')
section
variable {P : Program} {w : World} {K : PySem.W.Frag} {mg : Str → Option Value} {base : Heap} {C : Addr}
theorem scRV : FnScope ["text", "value", "sign"] ["text"] (defScope sRV) := ⟨rfl, rfl, rfl, by decide +kernel, rfl, by decide +kernel, by decide +kernel⟩
theorem ok_rv {f : Addr} {fd : FuncData} (F : Fun K "read_value" "read_value" sRV f fd) (T : Txt K w mg C) : FnOk P w K mg base CX0 1 f fd ["text"] spRV := by
  refine F.ok scRV (fun vs H Q E h => ?_) (fun cdv A outer s H vs Q E hr h => ?_)
  · obtain ⟨x, rfl, _⟩ := h
    rfl
  obtain ⟨x, rfl, hx, k⟩ := h
  obtain ⟨tD, mD⟩ := T.dg
  obtain ⟨tM, mM⟩ := T.md
  obtain ⟨tO, mO⟩ := T.mo
  refine ⟨_, pss_cons (ps_if (PW.pt (pw_or (pt_not (pt_chain op_le op_le pe_int (pe_callB call_len_str (by rfl) T.zl PySem.boot_len (pa_cons (pv 0) pa_nil)) (pe_glob (v := .int 10) rfl mM ⟨_, rfl⟩)))
      (pw_or1 (pt_not (pt_val (pe_callB (cr_all rfl) (by rfl) T.za (by decide +kernel) (pa_cons (pe_lc (own := [("sign", 2)]) (g := gName 2) rfl scRV.nd (pi_str (pv 0)) (blkOk_by (own := [("sign", 2)]) (N := ["text", "value", "sign"]) (sc := defScope sRV) (by decide +kernel)) (fun _ _ _ _ _ => pg_name (i := 2) scRV.nd rfl (Or.inl rfl)) (fun _ _ _ _ _ => pts_nil)
        (fun _ _ _ _ _ => pe_cmpR op_in_sign (pv 2) (pe_glob (v := .str "0123456789") rfl mD ⟨_, rfl⟩) (by rfl))) pa_nil))))))) (pss_one (ps_ret pe_non)) pss_nil)
    (pss_cons (ps_if (PW.pt (pw_and (pt_cmpR op_eq (pe_ix ix_str (pv 0) pe_int (fun _ _ => rfl)) pe_str (nomark _)) (pw_and1 (pt_cmpR op_ne (pv 0) pe_str (nomark _))))) (pss_one (ps_ret pe_non)) pss_nil)
    (pss_cons (ps_set (i := 1) scRV.nd rfl (.inl rfl) (pe_callTy call_int_str (by rfl) T.zi (by decide +kernel) (pa_cons (pv 0) pa_nil)))
    (pss_one (ps_ret (pe_ifExp (pt_cmpR op_lt (pv 1) (pe_glob (v := .int 4294967296) rfl mO ⟨_, rfl⟩) (nomark _)) (pv 1) pe_non))))), ?_⟩
  have hsz : x.cps.toList.length = x.length := by simp [Str.length]
  have back : ∀ H', Same H H' → readV x = none → Q .non H' := fun H' s' e => by
    have z := k H' s'
    rw [e] at z
    exact z
  refine ⟨_, rfl, _, rfl, hx, _, _, rfl, rfl, _, rfl, ?_⟩
  by_cases h1 : (1 : Int) ≤ (x.length : Int)
  case neg =>
    rw [decide_eq_false h1]
    refine iteF ⟨_, rfl, iteT (back H (Same.refl H) ?_)⟩
    unfold readV dig10
    rw [if_neg]
    rw [decide_eq_false (show ¬ 1 ≤ x.length by omega)]
    simp
  rw [decide_eq_true h1]
  refine iteT ⟨_, _, rfl, rfl, _, rfl, ?_⟩
  by_cases h2 : (x.length : Int) ≤ 10
  case neg =>
    rw [decide_eq_false h2]
    refine iteT (back H (Same.refl H) ?_)
    unfold readV dig10
    rw [if_neg]
    rw [decide_eq_false (show ¬ x.length ≤ 10 by omega)]
    simp
  rw [decide_eq_true h2]
  refine iteF ⟨_, rfl, x, rfl, fun D hD => ?_⟩
  refine lc_it walk_str (fun i H' => Same H H' ∧ H' D = some (.lst ((x.cps.toList.take i).map fun c => V.bl (isD c)))) ⟨upd_new hD, upd_same⟩ (fun _ _ _ _ => True.intro) ?_ ?_
  · rintro i v H1 H2 hi ⟨s1, a1⟩ ⟨rfl, c, hc, rfl⟩
    have hc' : x.cps.toList[i]? = some c := by simpa using hc
    refine ⟨rfl, ?_⟩
    refine ⟨_, rfl, c, _, rfl, rfl, ?_⟩
    rw [isD_in]
    have hl : ((x.cps.toList.take i).map fun c => V.bl (isD c)).length < sizeLine := by
      rw [List.length_map, List.length_take]
      have : i < x.length := hi
      exact Nat.lt_of_le_of_lt (Nat.min_le_left _ _) (by have := small1000 (n := i) (by omega); exact this)
    refine ⟨_, a1, hl, same_put s1 hD, ?_⟩
    rw [upd_same, List.take_succ, hc']
    simp
  rintro H1 ⟨s1, a1⟩
  rw [List.take_of_length_le (show x.cps.toList.length ≤ x.cps.size by simp)] at a1
  refine ⟨D, x.cps.toList.map isD, rfl, .of (by rw [a1, List.map_map]; rfl), true && (x.cps.toList.map isD).all id, by simp, ?_⟩
  have hall : (x.cps.toList.map isD).all id = x.cps.toList.all isD := by rw [List.all_map]; rfl
  rw [hall, Bool.true_and]
  cases h3 : x.cps.toList.all isD with
  | false =>
    refine iteT (back H1 s1 ?_)
    unfold readV dig10
    rw [if_neg]
    rw [h3]
    simp
  | true =>
    have hd : dig10 x = true := by
      unfold dig10
      rw [h3, decide_eq_true (show 1 ≤ x.length by omega), decide_eq_true (show x.length ≤ 10 by omega)]
      rfl
    have hne : x.cps.toList ≠ [] := fun e => by rw [e] at hsz; simp at hsz; omega
    obtain ⟨c0, r0, he⟩ := List.exists_cons_of_ne_nil hne
    have hA : NumText.AllDigits x.cps.toList := fun c hc => by
      have z := List.all_eq_true.mp h3 c hc
      unfold isD at z
      simp only [Bool.and_eq_true, decide_eq_true_eq] at z
      exact z
    have hI : intText? x = some ((NumText.digitsVal x.cps.toList : Nat) : Int) := intText_digits hA hne (by omega)
    refine iteF ⟨_, rfl, x, 0, c0, rfl, rfl, hx, (by rw [he]; exact atI_nat (j := 0) rfl), rfl, _, rfl, ?_⟩
    have hh : x.cps.toList.headD 0 = c0 := by rw [he]; rfl
    have tail : ¬ ((⟨#[x.cps.toList.headD 0]⟩ : Str) = "0" ∧ ¬ x = "0") →
        tSeq (tAsg (tCB (fun xs H Q => ∃ a n, xs = [V.str a] ∧ intText? a = some n ∧ a.length ≤ 640 ∧ Q (.int n) H) (tCons (tVar 0) tNil)) (gName 1))
          (tRet (tIf (tTest (tOp (rI0 fun i j => .bl (decide (i < j))) (tVar 1) (tC (.int 4294967296)))) (tVar 1) (tC .non))) { nx := fun _ H' => Q .non H', rt := Q } [some (.str x), none, none] H1 := by
      intro hn
      have hv : readV x = if ((NumText.digitsVal x.cps.toList : Nat) : Int) < 4294967296 then some ((NumText.digitsVal x.cps.toList : Nat) : Int) else none := by
        unfold readV
        rw [if_pos hd, if_neg hn]
      refine ⟨_, rfl, x, _, rfl, hI, by omega, ?_⟩
      generalize ((NumText.digitsVal x.cps.toList : Nat) : Int) = v at hv
      refine ⟨_, rfl, v, 4294967296, rfl, rfl, _, rfl, ?_⟩
      by_cases h6 : v < 4294967296
      · rw [decide_eq_true h6]
        refine iteT ⟨_, rfl, ?_⟩
        have z := k H1 s1
        rw [hv, if_pos h6] at z
        exact z
      · rw [decide_eq_false h6]
        rw [if_neg h6] at hv
        exact iteF (back H1 s1 hv)
    by_cases h4 : (⟨#[c0]⟩ : Str) = "0"
    · rw [decide_eq_true (show V.str (⟨#[c0]⟩ : Str) = V.str "0" from congrArg V.str h4)]
      refine iteT ⟨_, rfl, rfl, _, rfl, ?_⟩
      by_cases h5 : x = "0"
      · rw [decide_eq_true (show V.str x = V.str "0" from congrArg V.str h5)]
        refine iteF ?_
        exact tail (fun z => z.2 h5)
      · rw [decide_eq_false (show ¬ V.str x = V.str "0" from fun e => h5 (V.str.inj e))]
        refine iteT (back H1 s1 ?_)
        unfold readV
        rw [if_pos hd, if_pos ⟨by rw [hh]; exact h4, h5⟩]
    · rw [decide_eq_false (show ¬ V.str (⟨#[c0]⟩ : Str) = V.str "0" from fun e => h4 (V.str.inj e))]
      refine iteF (iteF ?_)
      exact tail (fun z => h4 (by rw [hh] at z; exact z.1))
end
end K1
namespace K1
open PySem L2 Own StX ClX NdefX
def spBI (K : PySem.W.Frag) : Sp := fun vs H Q _ => ∃ p C dx n i o, vs = [.ref p, n, i, o] ∧ H p = some (.ins C dx []) ∧ Cls K C ∧ NoAttr K C "name" ∧ NoAttr K C "inputs" ∧ NoAttr K C "outputs" ∧ Q .non (upd H p (.ins C dx (F3 n i o)))
def spFeed (K : PySem.W.Frag) : Sp := fun vs H Q _ => ∃ (a : Addr) (ns : List Int) (k : Int), vs = [.ref a, .int k] ∧ SqL K H a (ns.map V.int) ∧ 0 ≤ k ∧ k ≤ 100 ∧
  ∀ p d s, 0 ≤ d → H p = none → Q (.ref p) (upd H p (.lst [.int d, .int s]))
def spTake : Sp := fun vs H Q _ => ∃ (a : Addr) (d s m : Int), vs = [.ref a, .int m] ∧ H a = some (.lst [.int d, .int s]) ∧ 0 ≤ d ∧ 0 < m ∧ m ≤ 8589934592 ∧
  ∀ r d' s', 0 ≤ d' → 0 ≤ r → r < m → Q (.int r) (upd H a (.lst [.int d', .int s']))
def spPickL : Sp := fun vs H Q _ => ∃ (a b : Addr) (d s : Int) (xs : List V), vs = [.ref a, .ref b] ∧ H a = some (.lst [.int d, .int s]) ∧ H b = some (.lst xs) ∧ a ≠ b ∧ 0 ≤ d ∧ 0 < xs.length ∧ xs.length ≤ 1000 ∧
  ∀ x d' s', x ∈ xs → 0 ≤ d' → Q x (upd H a (.lst [.int d', .int s']))

def spPI (K : PySem.W.Frag) (C : Addr) : Sp := fun vs H Q _ => ∃ (p dx : Addr) (z : Str) (c : V), vs = [.ref p, .str z, c] ∧ z ∈ words9 ∧ H p = some (.ins C dx []) ∧ ∀ i o, PortsOk K z i o → Q .non (upd H p (.ins C dx (F4 (.str z) i o c)))
def spParse (K : PySem.W.Frag) (C : Addr) : Sp := fun vs H Q _ => ∃ (x z : Str) (c : Option Int), vs = [.ref C, .str x] ∧ x.length ≤ sizeLine ∧ readP x = some (z, c) ∧ ∀ y dx i o H', Same H H' → H y = none → H' y = some (.ins C dx (F4 (.str z) i o (optV c))) → PortsOk K z i o → Q (.ref y) H'
/-- a primitive's text -/
def txt (z : Str) : Option Int → Str
  | none => z
  | some n => Str.empty ++ z ++ " " ++ Str.ofString (toString n)
def spStr (C : Addr) : Sp := fun vs H Q _ => ∃ (p dx : Addr) (z : Str) (i o : V) (c : Option Int), vs = [.ref p] ∧ H p = some (.ins C dx (F4 (.str z) i o (optV c))) ∧ z.length ≤ 100 ∧ (∀ n, c = some n → 0 ≤ n ∧ n < 4294967296) ∧ Q (.str (txt z c)) H
theorem sl (a b : Str) : (a ++ b).length = a.length + b.length := by rw [TL.len_tl, TL.len_tl a, TL.len_tl b, TL.tl_append, List.length_append]
theorem readP_word {x z : Str} {c : Option Int} (h : readP x = some (z, c)) : z ∈ words9 := by
  unfold readP at h
  split at h
  · rename_i hw
    split at h
    · cases e : readV (Txt.partition x " ").2.2 with
      | none => rw [e] at h; cases h
      | some v => rw [e] at h; cases h; exact hw
    · split at h
      · cases h; exact hw
      · cases h
  · cases h
theorem ww9 (z : Str) (h : z ∈ words9) : inV (.str z) [.str "const", .str "delay"] = decide (z = "const" ∨ z = "delay") := by
  simp only [words9, List.mem_cons, List.not_mem_nil, or_false] at h
  rcases h with rfl | rfl | rfl | rfl | rfl | rfl | rfl | rfl | rfl <;> decide +kernel
section
variable {P : Program} {w : World} {K : PySem.W.Frag} {mg : Str → Option Value} {base : Heap} {C : Addr}
theorem scRP : FnScope ["text", "word", "space", "rest", "constant"] ["text"] (defScope sRP) := ⟨rfl, rfl, rfl, by decide +kernel, rfl, by decide +kernel, by decide +kernel⟩
theorem ok_rp {f fV : Addr} {fd fdV : FuncData} (F : Fun K "read_primitive" "read_primitive" sRP f fd) (T : Txt K w mg C) (GV : FnOk P w K mg base CX0 1 fV fdV ["text"] spRV) (mV : mg "read_value" = some (.ref fV)) (kV : PySem.W.keepIn K (.ref fV) = true) (bV : Binds K fdV ["text"] []) :
    FnOk P w K mg base CX0 2 f fd ["text"] spRP := by
  refine F.ok scRP (fun vs H Q E h => ?_) (fun cdv A outer s H vs Q E hr h => ?_)
  · obtain ⟨x, rfl, _⟩ := h
    rfl
  obtain ⟨x, rfl, hx, kn, ks⟩ := h
  obtain ⟨d, es, n, hd, D, hP, hM⟩ := T.pp
  obtain ⟨dW, hW, hWs⟩ := T.ww
  refine ⟨_, pss_cons (ps_asg (pe_partition (pv 0) pe_str) (pg_tup (by rfl) (pgs_cons (pg_name (i := 1) scRP.nd rfl (.inl rfl)) (pgs_cons (pg_name (i := 2) scRP.nd rfl (.inl rfl)) (pgs_cons (pg_name (i := 3) scRP.nd rfl (.inl rfl)) pgs_nil)))))
    (pss_cons (ps_if (pt_cmpR (op_notIn_kd D) (pv 1) (pe_glob (v := .ref d) rfl hd rfl) (by rfl)) (pss_one (ps_ret pe_non)) pss_nil)
    (pss_cons (ps_if (pt_cmpR op_notIn_seq (pv 1) (pe_glob (v := .ref dW) rfl hW rfl) (by rfl)) (pss_one (ps_ret (pe_ifExp (pt_truth (pv 2) (by intro _; rfl)) pe_non (pe_tup (pa_cons (pv 1) (pa_cons pe_non pa_nil)))))) pss_nil)
    (pss_cons (ps_set (i := 4) scRP.nd rfl (.inl rfl) (pe_call GV hr rfl mV kV bV .nil pass0 (pa_cons (pv 3) pa_nil)))
    (pss_one (ps_ret (pe_ifExp (pt_cmpR op_isN (pv 4) pe_non (nomark _)) pe_non (pe_tup (pa_cons (pv 1) (pa_cons (pv 4) pa_nil))))))))), ?_⟩
  refine ⟨_, rfl, ⟨_, rfl⟩, _, _, rfl, rfl, by decide +kernel, hx, fun p hp => ?_⟩
  have hrest := part_rest x
  obtain ⟨R, er⟩ : ∃ R, readP x = R := ⟨_, rfl⟩
  rw [er] at kn ks
  unfold readP at er
  have hsp : (Txt.partition x " ").2.1.length ≤ 1 := by
    rw [TL.partition_par x " " (by decide +kernel)]
    split
    · exact (by decide +kernel : (" " : Str).length ≤ 1)
    · exact Nat.zero_le _
  generalize (Txt.partition x " ").1 = z at er
  generalize (Txt.partition x " ").2.1 = sp at er hsp
  generalize (Txt.partition x " ").2.2 = rs at er hrest
  refine ⟨p, _, rfl, .of upd_same, rfl, _, _, rfl, _, _, rfl, _, _, rfl, rfl, ?_⟩
  have s1 := upd_new (o := .tup [V.str z, V.str sp, V.str rs]) hp
  by_cases hz : z ∈ words9
  case neg =>
    rw [if_neg hz] at er
    exact ⟨_, rfl, z, none, rfl, rfl, hM z hz, _, rfl, iteT (kn er.symm _ s1)⟩
  rw [if_pos hz] at er
  obtain ⟨u, tp, i, o, h1, h2, h3, h4⟩ := hP z hz
  refine ⟨_, rfl, z, some u, rfl, rfl, h1, _, rfl, iteF ⟨_, rfl, dW, _, rfl, .inr (hWs _), rfl, rfl, _, rfl, ?_⟩⟩
  rw [ww9 z hz]
  by_cases hcd : z = "const" ∨ z = "delay"
  · rw [decide_eq_true hcd]
    rw [if_pos hcd] at er
    refine iteF ⟨_, rfl, rs, rfl, by omega, fun H1 s2 => ?_⟩
    have s3 := s1.trans s2
    cases ev : readV rs with
    | none =>
      rw [ev] at er
      exact ⟨_, rfl, rfl, _, rfl, iteT (kn er.symm _ s3)⟩
    | some v =>
      rw [ev] at er
      refine ⟨_, rfl, rfl, _, rfl, iteF ⟨_, rfl, _, rfl, small1 (by show 2 ≤ 8; decide), fun t ht => ?_⟩⟩
      exact ks z (some v) er.symm t _ (s3.trans (upd_new ht)) (s3.free ht) upd_same
  · rw [decide_eq_false hcd]
    rw [if_neg hcd] at er
    refine iteT ⟨_, rfl, _, ⟨Nat.le_trans hsp (by decide), rfl⟩, ?_⟩
    by_cases hs0 : sp.length = 0
    · rw [if_pos hs0] at er
      rw [show ((sp.length : Int) != 0) = false by simp [hs0]]
      refine iteF ⟨_, rfl, small1 (by show 2 ≤ 8; decide), fun t ht => ?_⟩
      exact ks z none er.symm t _ (s1.trans (upd_new ht)) (s1.free ht) upd_same
    · rw [if_neg hs0] at er
      rw [show ((sp.length : Int) != 0) = true by simp [hs0]]
      exact iteT (kn er.symm _ s1)
theorem scBI : FnScope ["self", "name", "inputs", "outputs"] ["self", "name", "inputs", "outputs"] (defScope sBI) := ⟨rfl, rfl, rfl, by decide +kernel, rfl, by decide +kernel, by decide +kernel⟩
theorem ok_bi {f : Addr} {fd : FuncData} (F : Fun K "__init__" "Block.__init__" sBI f fd) : FnOk P w K mg base CX0 1 f fd ["self", "name", "inputs", "outputs"] (spBI K) := by
  refine F.ok scBI (fun vs H Q E h => ?_) (fun cdv A outer s H vs Q E hr h => ?_)
  · obtain ⟨p, C, dx, n, i, o, rfl, _⟩ := h
    rfl
  obtain ⟨p, C, dx, n, i, o, rfl, hp, c, n1, n2, n3, k⟩ := h
  refine ⟨_, pss_cons (ps_fld (pv 0) (pv 1) rfl) (pss_cons (ps_fld (pv 0) (pv 2) rfl) (pss_one (ps_fld (pv 0) (pv 3) rfl))), ?_⟩
  refine ⟨_, rfl, _, rfl, p, C, dx, [], rfl, hp, c, n1, (by show 0 < 1000; decide), ?_⟩
  refine ⟨_, rfl, _, rfl, p, C, dx, _, rfl, upd_same, c, n2, (by have := putF_len (f := "name") (v := n) []; simp only [List.length_nil] at this; omega), ?_⟩
  refine ⟨_, rfl, _, rfl, p, C, dx, _, rfl, upd_same, c, n3, (by
    have h2 := putF_len (f := "inputs") (v := i) (putF "name" n [])
    have h3 := putF_len (f := "name") (v := n) []
    simp only [List.length_nil] at h3
    omega), ?_⟩
  rw [upd_upd, upd_upd]
  exact k

/-! ### Primitive.__init__ -/
def nfPI (cc cda : Addr) : NF := ⟨"__init__", "Primitive.__init__", defArgs sPI, defBody sPI, defScope sPI, [("__class__", cc)], cda⟩
theorem nsPI : NScope ["self", "name", "constant", "__class__", "inputs", "outputs"] ["self", "name", "constant"] ["__class__"] (defScope sPI) := nscope_by (by decide +kernel)
theorem ndPI : (["self", "name", "constant", "__class__", "inputs", "outputs"] : List Str).Nodup := by decide +kernel
structure PIn (K : PySem.W.Frag) (P : Program) (C f cc cda fB : Addr) : Prop where
  ex : ∃ oc od osl doc pm an ct, K.lookup f = some ⟨oc, od, .func (PySem.W.fnX "__init__" "Primitive.__init__" (defArgs sPI) (defBody sPI) (defScope sPI) [(("__class__" : Str), cc)] .none .none doc pm an (.ref cda) ct), osl⟩ ∧
    SupK K P f cda cc C (PySem.W.fnX "__init__" "Primitive.__init__" (defArgs sPI) (defBody sPI) (defScope sPI) [(("__class__" : Str), cc)] .none .none doc pm an (.ref cda) ct) "self"
  code : PySem.W.codeIn K (.ref cda) "Primitive.__init__" = true
  sc : SupC K C C "__init__" fB
theorem ok_pi {f cc cda fB : Addr} {fdB : FuncData} (Z : PIn K P C f cc cda fB) (T : Txt K w mg C) (GB : FnOk P w K mg base CX0 1 fB fdB ["self", "name", "inputs", "outputs"] (spBI K)) (bB : Binds K fdB ["self", "name", "inputs", "outputs"] []) :
    FnR P w K mg base CX0 2 f (spPI K C) := by
  obtain ⟨oc, od, osl, doc, pm, an, ct, lk, SK⟩ := Z.ex
  have GR : FnR P w K mg base CX0 1 fB (spBI K) := by
    have z := GB.raw bB .nil
    simpa only [List.append_nil] using z
  refine fnr_super (F := nfPI cc cda) (cc := cc) (D := C) lk Z.code rfl SK.cell nsPI (fun us hl => match us, hl with | [_, _, _], _ => rfl) (fun vs H Q E h => ?_) (fun A outer s H vs Q E hr h => ?_)
  · obtain ⟨p, dx, z, c, rfl, _⟩ := h
    rfl
  obtain ⟨p, dx, z, c, rfl, hz, hp, k⟩ := h
  obtain ⟨d, es, n, hd, D, hP, _⟩ := T.pp
  refine ⟨_, psa_cons (ps_asg (pe_ix ix_kdict (pe_glob (v := .ref d) rfl hd rfl) (pv 1) (fun _ _ => rfl)) (pg_tup (by rfl) (pgs_cons (pg_name (i := 4) ndPI rfl (.inl rfl)) (pgs_cons (pg_name (i := 5) ndPI rfl (.inl rfl)) pgs_nil))))
    (psa_super (self := "self") SK rfl rfl rfl rfl rfl rfl rfl T.sup GR hr pass0 (pa_cons (pv 1) (pa_cons (pv 4) (pa_cons (pv 5) pa_nil))) (psa_of (pss_one (ps_fld (pv 0) (pv 2) rfl)))), ?_⟩
  obtain ⟨u, tp, x, y, h1, h2, h3, h4⟩ := hP z hz
  refine ⟨_, rfl, d, z, .ref tp, rfl, rfl, ⟨es, n, u, D.at_, D.lit, h1, h2⟩, tp, _, rfl, h3 _, rfl, _, _, rfl, _, _, rfl, rfl, ?_⟩
  refine ⟨p, C, dx, [], rfl, hp, Z.sc, _, rfl, _, rfl, _, rfl, p, C, dx, _, _, _, rfl, hp, T.cl, T.nN, T.nI, T.nO, ?_⟩
  refine ⟨_, rfl, _, rfl, p, C, dx, _, rfl, upd_same, T.cl, T.nC, (by have := F3_len (.str z) x y; omega), ?_⟩
  rw [upd_upd]
  exact k x y h4
theorem scPa : FnScope ["cls", "text", "found", "name", "constant"] ["cls", "text"] (defScope sParse) := ⟨rfl, rfl, rfl, by decide +kernel, rfl, by decide +kernel, by decide +kernel⟩
theorem ok_parse {f fR fI : Addr} {fd fdR : FuncData} (F : Fun K "parse" "Primitive.parse" sParse f fd) (T : Txt K w mg C) (GR : FnOk P w K mg base CX0 2 fR fdR ["text"] spRP) (mR : mg "read_primitive" = some (.ref fR)) (kR : PySem.W.keepIn K (.ref fR) = true) (bR : Binds K fdR ["text"] [])
    (M : Mk K C fI) (GI : FnR P w K mg base CX0 2 fI (spPI K C)) : FnOk P w K mg base CX0 4 f fd ["cls", "text"] (spParse K C) := by
  refine F.ok scPa (fun vs H Q E h => ?_) (fun cdv A outer s H vs Q E hr h => ?_)
  · obtain ⟨x, z, c, rfl, _⟩ := h
    rfl
  obtain ⟨x, z, c, rfl, hx, hR, k⟩ := h
  refine ⟨_, pss_cons (ps_set (i := 2) scPa.nd rfl (.inl rfl) (pe_call GR (hr.mono (by decide)) rfl mR kR bR .nil pass0 (pa_cons (pv 1) pa_nil)))
    (pss_cons (ps_if (pt_cmpR op_isN (pv 2) pe_non (nomark _)) pss_never pss_nil)
    (pss_cons (ps_asg (pv 2) (pg_tup (by rfl) (pgs_cons (pg_name (i := 3) scPa.nd rfl (.inl rfl)) (pgs_cons (pg_name (i := 4) scPa.nd rfl (.inl rfl)) pgs_nil))))
    (pss_one (ps_ret (pe_makeL (i := 0) M GI hr rfl (.inl rfl) pass0 (pa_cons (pv 3) (pa_cons (pv 4) pa_nil))))))), ?_⟩
  refine ⟨_, rfl, x, rfl, hx, fun e => (by rw [hR] at e; cases e), fun z' c' e t H' s1 ht ht' => ?_⟩
  rw [hR] at e
  cases e
  refine ⟨_, rfl, rfl, _, rfl, iteF ?_⟩
  refine ⟨_, rfl, t, _, rfl, .of ht', rfl, _, _, rfl, _, _, rfl, rfl, ?_⟩
  refine ⟨rfl, _, rfl, _, rfl, fun y dx hy hdx hne => ⟨y, dx, z, optV c, rfl, readP_word hR, upd_same, fun i o hio => ⟨rfl, ?_⟩⟩⟩
  refine k y dx i o _ (fun b u e => ?_) (s1.free hy) upd_same hio
  have e1 := s1 b u e
  rw [upd_ne (ne_of_none e1 hy), upd_ne (ne_of_none e1 hy), upd_ne (ne_of_none e1 hdx)]
  exact e1
theorem scSt : FnScope ["self"] ["self"] (defScope sStr) := ⟨rfl, rfl, rfl, by decide +kernel, rfl, by decide +kernel, by decide +kernel⟩
theorem log32 {n : Int} (h0 : 0 ≤ n) (h1 : n < 4294967296) : n.natAbs.log2 < 1920 := by
  have h2 : n.natAbs < 2 ^ 32 := by omega
  exact Nat.lt_trans (PySem.Flt.log2_lt_of (by decide) h2) (by decide)
theorem num_len {n : Int} (h0 : 0 ≤ n) (h1 : n < 4294967296) : (Str.ofString (toString n)).length ≤ 10 := PyProof.Rows.toString_length_le h0 (by decide) (by omega)
theorem ok_str {f : Addr} {fd : FuncData} (F : Fun K "__str__" "Primitive.__str__" sStr f fd) (T : Txt K w mg C) : FnOk P w K mg base CX0 1 f fd ["self"] (spStr C) := by
  refine F.ok scSt (fun vs H Q E h => ?_) (fun cdv A outer s H vs Q E hr h => ?_)
  · obtain ⟨p, dx, z, i, o, c, rfl, _⟩ := h
    rfl
  obtain ⟨p, dx, z, i, o, c, rfl, hp, hz, hc, k⟩ := h
  refine ⟨_, pss_cons (ps_if (pt_cmpR op_isN (pe_fld (pv 0) rfl) pe_non (nomark _)) (pss_one (ps_ret (pe_callTy SkE.call_str_str (by rfl) T.zs (by decide +kernel) (pa_cons (pe_fld (pv 0) rfl) pa_nil)))) pss_nil)
    (pss_one (ps_ret (pe_joined (.cons (pe_fmt (pe_fld (pv 0) rfl)) (.cons pe_str (.cons (pe_fmt (pe_fld (pv 0) rfl)) .nil)))))), ?_⟩
  refine ⟨_, rfl, p, C, dx, _, _, rfl, hp, T.cl, T.nC, F4_const _ _ _ _, rfl, _, rfl, ?_⟩
  cases c with
  | none =>
    refine iteT ⟨_, rfl, p, C, dx, _, _, rfl, hp, T.cl, T.nN, F4_name _ _ _ _, _, rfl, k⟩
  | some n =>
    obtain ⟨h0, h1⟩ := hc n rfl
    have hl := num_len h0 h1
    have e1 : (Str.empty ++ z).length = z.length := by rw [sl]; exact Nat.zero_add _
    have e2 : (Str.empty ++ z ++ (" " : Str)).length = z.length + 1 := by rw [sl, e1]; rfl
    have e3 : (Str.empty ++ z ++ (" " : Str) ++ Str.ofString (toString n)).length ≤ 1000 := by rw [sl, e2]; omega
    refine iteF ⟨_, rfl, p, C, dx, _, _, rfl, hp, T.cl, T.nN, F4_name _ _ _ _, .inl ⟨z, rfl, Nat.le_trans hz (by decide), z, rfl, ?_, " ", rfl, ?_, _, rfl, p, C, dx, _, _, rfl, hp, T.cl, T.nC, F4_const _ _ _ _, .inr ⟨n, rfl, log32 h0 h1, _, rfl, ?_, k⟩⟩⟩
    · rw [e1]; exact Nat.le_trans hz (by decide)
    · rw [e2]; exact Nat.le_of_lt (small1000 (by omega))
    · exact Nat.le_of_lt (small1000 e3)
theorem scFe : FnScope ["script", "k", "cell", "digits", "state"] ["script", "k"] (defScope sFeed) := ⟨rfl, rfl, rfl, by decide +kernel, rfl, by decide +kernel, by decide +kernel⟩
theorem ok_feed {f : Addr} {fd : FuncData} (F : Fun K "_law_feed" "_law_feed" sFeed f fd) (mlen : mg "len" = none) (mmax : mg "max" = none) (mabs : mg "abs" = none) : FnOk P w K mg base CX0 1 f fd ["script", "k"] (spFeed K) := by
  refine F.ok scFe (fun vs H Q E h => ?_) (fun cdv A outer s H vs Q E hr h => ?_)
  · obtain ⟨a, ns, k, rfl, _⟩ := h
    rfl
  obtain ⟨a, ns, k, rfl, hS, h0, h1, q⟩ := h
  refine ⟨_, pss_join (ps_set (i := 2) scFe.nd rfl (.inl rfl) (pe_ifExp (pt_cmpR op_lt (pv 1) (pe_callB call_len_seq (by rfl) mlen PySem.boot_len (pa_cons (pv 0) pa_nil)) (nomark _)) (pe_ix ix_list (pv 0) (pv 1) (fun _ _ => rfl)) (pe_op op_add (pe_op op_mul pe_int (pv 1)) pe_int)))
    (pss_cons (ps_set (i := 3) scFe.nd rfl (.inl rfl) (pe_callB (call_max2 rfl) (by rfl) mmax (by decide +kernel) (pa_cons pe_int (pa_cons (pe_op op_sub (pe_callB call_abs (by rfl) mabs (by decide +kernel) (pa_cons (pv 2) pa_nil)) (pe_op op_pow pe_int pe_int)) pa_nil))))
    (pss_cons (ps_set (i := 4) scFe.nd rfl (.inl rfl) (pe_op op_mod (pe_op op_add (pe_op op_add (pe_op op_mul (pv 2) pe_int) (pe_op op_mul pe_int (pv 1))) pe_int) pe_int))
    (pss_one (ps_ret (pe_lst (pa_cons (pv 3) (pa_cons (pv 4) pa_nil))))))), ?_⟩
  refine ⟨fun σ H' => H' = H ∧ ∃ c : Int, σ = [some (.ref a), some (.int k), some (.int c), none, none], ?_, ?_⟩
  · refine ⟨_, rfl, _, rfl, a, _, rfl, .inl hS, _, _, rfl, rfl, _, rfl, ?_⟩
    by_cases hc : k < (ns.map V.int).length
    · rw [decide_eq_true hc]
      have hj : k.toNat < ns.length := by rw [List.length_map] at hc; omega
      exact iteT ⟨_, rfl, _, rfl, a, _, _, .int (ns[k.toNat]), rfl, rfl, hS, at_of (j := k.toNat) (by omega) (by simp [hj]), rfl, _, rfl⟩
    · rw [decide_eq_false hc]
      exact iteF ⟨_, rfl, _, _, rfl, rfl, .inl ⟨by decide, by decide⟩, _, _, rfl, rfl, rfl, _, rfl⟩
  rintro σ H' ⟨rfl, c, rfl⟩
  refine ⟨_, rfl, _, rfl, _, _, rfl, rfl, ⟨by decide, by decide, by decide⟩, _, _, rfl, rfl, _, _, rfl, ?_⟩
  refine ⟨_, rfl, _, _, rfl, rfl, .inr ⟨by decide, by decide⟩, _, rfl, _, _, rfl, rfl, .inl ⟨by decide, by decide⟩, _, _, rfl, rfl, _, _, rfl, rfl, _, _, rfl, rfl, (by show (0 : Int) < 2305843009213693951; decide), ?_⟩
  refine ⟨_, rfl, _, rfl, small1 (by show 2 ≤ 8; decide), fun p hp => q p _ _ ?_ hp⟩
  split <;> omega
theorem scTk : FnScope ["feed", "many", "digit"] ["feed", "many"] (defScope sTake) := ⟨rfl, rfl, rfl, by decide +kernel, rfl, by decide +kernel, by decide +kernel⟩
theorem log_many {m : Int} (h : 0 < m) (h2 : m ≤ 8589934592) : m.natAbs.log2 < 9000 := by
  have h2 : m.natAbs < 2 ^ 34 := by omega
  exact Nat.lt_trans (PySem.Flt.log2_lt_of (by decide) h2) (by decide)
theorem ok_take {f : Addr} {fd : FuncData} (F : Fun K "_law_take" "_law_take" sTake f fd) : FnOk P w K mg base CX0 1 f fd ["feed", "many"] spTake := by
  refine F.ok scTk (fun vs H Q E h => ?_) (fun cdv A outer s H vs Q E hr h => ?_)
  · obtain ⟨a, d, s, m, rfl, _⟩ := h
    rfl
  obtain ⟨a, d, s, m, rfl, ha, h0, hm, hm2, k⟩ := h
  have at0 : ∀ x y : Int, atI [V.int x, V.int y] 0 = some (.int x) := fun x y => at_of (j := 0) rfl rfl
  have at1 : ∀ x y : Int, atI [V.int x, V.int y] 1 = some (.int y) := fun x y => at_of (j := 1) rfl rfl
  have ix0 : ixN 2 0 = some 0 := by decide +kernel
  have ix1 : ixN 2 1 = some 1 := by decide +kernel
  refine ⟨_, pss_cons (ps_if (pt_cmpR op_gt (pe_ix ix_list (pv 0) pe_int (fun _ _ => rfl)) pe_int (nomark _))
      (pss_cons (ps_set (i := 2) scTk.nd rfl (.inl rfl) (pe_op op_mod (pe_ix ix_list (pv 0) pe_int (fun _ _ => rfl)) (pv 1)))
      (pss_cons (ps_asg (pe_op op_fdivW (pe_ix ix_list (pv 0) pe_int (fun _ _ => rfl)) (pv 1)) (pg_sub (pv 0) pe_int set_list))
      (pss_one (ps_ret (pv 2))))) pss_nil)
    (pss_cons (ps_asg (pe_op op_mod (pe_op op_add (pe_op op_mul (pe_ix ix_list (pv 0) pe_int (fun _ _ => rfl)) pe_int) pe_int) pe_int) (pg_sub (pv 0) pe_int set_list))
    (pss_one (ps_ret (pe_op op_mod (pe_op op_fdiv (pe_ix ix_list (pv 0) pe_int (fun _ _ => rfl)) pe_int) (pv 1))))), ?_⟩
  refine ⟨_, rfl, a, _, _, _, rfl, rfl, .of ha, at0 _ _, _, _, rfl, rfl, _, rfl, ?_⟩
  by_cases hc : 0 < d
  · rw [decide_eq_true hc]
    refine iteT ⟨_, rfl, a, _, _, _, rfl, rfl, .of ha, at0 _ _, _, rfl, _, _, rfl, rfl, hm, ?_⟩
    refine ⟨_, rfl, a, _, _, _, rfl, rfl, .of ha, at0 _ _, _, rfl, _, _, rfl, rfl, ⟨hm, log_many hm hm2⟩, _, rfl, a, _, _, 0, rfl, rfl, ha, ix0, ?_⟩
    exact ⟨_, rfl, k _ _ s (Int.ediv_nonneg h0 (by omega)) (Int.emod_nonneg _ (by omega)) (Int.emod_lt_of_pos _ hm)⟩
  · rw [decide_eq_false hc]
    refine iteF ⟨_, rfl, a, _, _, _, rfl, rfl, .of ha, at1 _ _, _, _, rfl, rfl, .inr ⟨by decide, by decide⟩, _, _, rfl, rfl, _, _, rfl, rfl, (by show (0 : Int) < 2305843009213693951; decide), _, rfl, a, _, _, 1, rfl, rfl, ha, ix1, ?_⟩
    refine ⟨_, rfl, a, _, _, _, rfl, rfl, .of upd_same, at1 _ _, _, _, rfl, rfl, ⟨by decide, by decide⟩, _, rfl, _, _, rfl, rfl, hm, ?_⟩
    exact k _ d _ h0 (Int.emod_nonneg _ (by omega)) (Int.emod_lt_of_pos _ hm)
theorem scPk : FnScope ["feed", "some"] ["feed", "some"] (defScope sPickL) := ⟨rfl, rfl, rfl, by decide +kernel, rfl, by decide +kernel, by decide +kernel⟩
theorem ok_pickl {f fT : Addr} {fd fdT : FuncData} (F : Fun K "_law_pick" "_law_pick" sPickL f fd) (GT : FnOk P w K mg base CX0 1 fT fdT ["feed", "many"] spTake) (mT : mg "_law_take" = some (.ref fT)) (kT : PySem.W.keepIn K (.ref fT) = true) (bT : Binds K fdT ["feed", "many"] []) (mlen : mg "len" = none) :
    FnOk P w K mg base CX0 2 f fd ["feed", "some"] spPickL := by
  refine F.ok scPk (fun vs H Q E h => ?_) (fun cdv A outer s H vs Q E hr h => ?_)
  · obtain ⟨a, b, d, s, xs, rfl, _⟩ := h
    rfl
  obtain ⟨a, b, d, s, xs, rfl, ha, hb, hab, h0, hx0, hx1, k⟩ := h
  refine ⟨_, pss_one (ps_ret (pe_ix ix_list (pv 1) (pe_call GT hr rfl mT kT bT .nil pass0 (pa_cons (pv 0) (pa_cons (pe_callB call_len_seq (by rfl) mlen PySem.boot_len (pa_cons (pv 1) pa_nil)) pa_nil))) (fun _ _ => rfl))), ?_⟩
  refine ⟨_, rfl, _, rfl, _, rfl, b, xs, rfl, .inl (.of hb), a, d, s, xs.length, rfl, ha, h0, by omega, by omega, fun r d' s' hd hr0 hr1 => ?_⟩
  have hj : r.toNat < xs.length := by omega
  refine ⟨b, xs, r, xs[r.toNat], rfl, rfl, .of ?_, at_of (j := r.toNat) (by omega) (by simp [hj]), k _ d' s' (List.getElem_mem _) hd⟩
  rw [upd_ne (fun e => hab e.symm)]
  exact hb

end
end K1
namespace K1
open PySem L2 Own StX ClX NdefX
abbrev sIf : Stmt := inClass (top 14) 2
abbrev sDue : Stmt := top 19
abbrev sLaw : Stmt := top 20
/-! ### data that stays -/
theorem Same.seqT {K : PySem.W.Frag} {H H' : Hp} {a : Addr} {xs : List V} (e : Same H H') (h : SqT K H a xs) : SqT K H' a xs := by
  rcases h with (h | ⟨o, h⟩) | h
  · exact .inl (.inl (e _ _ h))
  · exact .inl (.inr ⟨o, e _ _ h⟩)
  · exact .inr h
mutual
theorem dp_same {K : PySem.W.Frag} {H H' : Hp} (e : Same H H') : ∀ (d : PyData) (v : V), Dp K H v d → Dp K H' v d
  | .none, _, h => by cases h; exact .non
  | .bool b, _, h => by cases h; exact .bl b
  | .int i, _, h => by cases h; exact .int i
  | .str x, _, h => by cases h; exact .str x
  | .list ds, _, h => by
    cases h with
    | lst h1 h2 => exact .lst (e.seq h1) (dp_sames e ds _ h2)
  | .tuple ds, _, h => by
    cases h with
    | tup h1 h2 => exact .tup (Same.seqT e h1) (dp_sames e ds _ h2)
  | .dict kvs, _, h => by cases h
theorem dp_sames {K : PySem.W.Frag} {H H' : Hp} (e : Same H H') : ∀ (ds : List PyData) (vs : List V), DpAll K H vs ds → DpAll K H' vs ds
  | [], _, h => by cases h; exact .nil
  | d :: ds, _, h => by
    cases h with
    | cons h1 h2 => exact .cons (dp_same e d _ h1) (dp_sames e ds _ h2)
end
def strD (l : List Str) : PyData := .tuple (l.map PyData.str)
theorem dp_strs {K : PySem.W.Frag} {H : Hp} : ∀ l : List Str, DpAll K H (l.map V.str) (l.map PyData.str)
  | [] => .nil
  | x :: r => .cons (.str x) (dp_strs r)
theorem dp_strT {K : PySem.W.Frag} {H : Hp} {a : Addr} {l : List Str} (h : SqT K H a (l.map V.str)) : Dp K H (.ref a) (strD l) := .tup h (dp_strs l)
def needsOf (z : Str) : List Str := if z = "delay" then [] else insOf z
def profD (z : Str) : PyData := .tuple [.tuple [strD (outsOf z), strD (needsOf z)]]
def ifD (z : Str) : PyData := .tuple [strD (insOf z), strD (outsOf z), profD z]
def optD : Option Int → PyData
  | some n => .int n
  | none => .none
theorem dp_opt {K : PySem.W.Frag} {H : Hp} (c : Option Int) : Dp K H (optV c) (optD c) := by
  cases c with
  | none => exact .non
  | some n => exact .int n
def spIf (K : PySem.W.Frag) (C : Addr) : Sp := fun vs H Q _ => ∃ (p dx : Addr) (z : Str) (i o c : V), vs = [.ref p] ∧ H p = some (.ins C dx (F4 (.str z) i o c)) ∧ z ∈ words9 ∧ PortsOk K z i o ∧
  ∀ r H', Same H H' → H r = none → Dp K H' (.ref r) (ifD z) → Q (.ref r) H'
def spDue (K : PySem.W.Frag) : Sp := fun vs H Q _ => ∃ (x z : Str) (c : Option Int), vs = [.str x] ∧ x.length ≤ 100 ∧ x = txt z c ∧ z ∈ words9 ∧ (z = "const" ∨ z = "delay" ↔ c.isSome = true) ∧ (∀ n, c = some n → 0 ≤ n ∧ n < 4294967296) ∧
  ∀ r vi vo vp H', Same H H' → H r = none → H' r = some (.tup [.str z, vi, vo, optV c, vp]) → Dp K H' vi (strD (insOf z)) → Dp K H' vo (strD (outsOf z)) → Dp K H' vp (profD z) → Q (.ref r) H'
section
variable {P : Program} {w : World} {K : PySem.W.Frag} {mg : Str → Option Value} {base : Heap} {C : Addr}
theorem scIf : FnScope ["self", "needs"] ["self"] (defScope sIf) := ⟨rfl, rfl, rfl, by decide +kernel, rfl, by decide +kernel, by decide +kernel⟩
theorem ok_if {f : Addr} {fd : FuncData} (F : Fun K "interface" "Primitive.interface" sIf f fd) (T : Txt K w mg C) : FnOk P w K mg base CX0 1 f fd ["self"] (spIf K C) := by
  refine F.ok scIf (fun vs H Q E h => ?_) (fun cdv A outer s H vs Q E hr h => ?_)
  · obtain ⟨p, dx, z, i, o, c, rfl, _⟩ := h
    rfl
  obtain ⟨p, dx, z, i, o, c, rfl, hp, hz, hio, k⟩ := h
  obtain ⟨a, b, rfl, rfl, ha, hb, _⟩ := hio
  refine ⟨_, pss_join (ps_set (i := 1) scIf.nd rfl (.inl rfl) (pe_ifExp (pt_cmpR op_eq (pe_fld (pv 0) rfl) pe_str (nomark _)) (pe_tup pa_nil) (pe_fld (pv 0) rfl)))
    (pss_one (ps_ret (pe_tup (pa_cons (pe_fld (pv 0) rfl) (pa_cons (pe_fld (pv 0) rfl) (pa_cons (pe_tup (pa_cons (pe_tup (pa_cons (pe_fld (pv 0) rfl) (pa_cons (pv 1) pa_nil))) pa_nil)) pa_nil)))))), ?_⟩
  refine ⟨fun σ H1 => ∃ v, σ = [some (.ref p), some v] ∧ Same H H1 ∧ Dp K H1 v (strD (needsOf z)), ?_, ?_⟩
  · refine ⟨_, rfl, p, C, dx, _, _, rfl, hp, T.cl, T.nN, F4_name _ _ _ _, rfl, _, rfl, ?_⟩
    by_cases hd : z = "delay"
    · rw [decide_eq_true (congrArg V.str hd)]
      refine iteT ⟨small1 (by show 0 ≤ 8; decide), fun t ht => ⟨_, rfl, upd_new ht, ?_⟩⟩
      rw [show needsOf z = [] from if_pos hd]
      exact dp_strT (l := []) (.of upd_same)
    · rw [decide_eq_false (fun e => hd (V.str.inj e))]
      refine iteF ⟨_, rfl, p, C, dx, _, _, rfl, hp, T.cl, T.nI, F4_ins _ _ _ _, _, rfl, Same.refl _, ?_⟩
      rw [show needsOf z = insOf z from if_neg hd]
      exact dp_strT (ha _)
  rintro σ H1 ⟨v, rfl, s1, hv⟩
  have hp1 := s1 _ _ hp
  refine ⟨_, rfl, p, C, dx, _, _, rfl, hp1, T.cl, T.nI, F4_ins _ _ _ _, _, rfl, p, C, dx, _, _, rfl, hp1, T.cl, T.nO, F4_outs _ _ _ _, _, rfl, p, C, dx, _, _, rfl, hp1, T.cl, T.nO, F4_outs _ _ _ _, _, rfl, small1 (by show 2 ≤ 8; decide), fun t1 ht1 => ⟨small1 (by show 1 ≤ 8; decide), fun t2 ht2 => ⟨small1 (by show 3 ≤ 8; decide), fun t3 ht3 => ?_⟩⟩⟩
  have sA := upd_new (o := HO.tup [V.ref b, v]) ht1
  have sB := upd_new (o := HO.tup [V.ref t1]) ht2
  have sC := upd_new (o := HO.tup [V.ref a, V.ref b, V.ref t2]) ht3
  refine k t3 _ (s1.trans (sA.trans (sB.trans sC))) ((s1.trans (sA.trans sB)).free ht3) ?_
  have d1 : Dp K (upd H1 t1 (.tup [.ref b, v])) (.ref t1) (.tuple [strD (outsOf z), strD (needsOf z)]) := .tup (.of upd_same) (.cons (dp_strT (hb _)) (.cons (dp_same sA _ _ hv) .nil))
  have d2 := Dp.tup (K := K) (ds := [_]) (.of upd_same) (.cons (dp_same sB _ _ d1) .nil)
  exact .tup (.of upd_same) (.cons (dp_strT (ha _)) (.cons (dp_strT (hb _)) (.cons (dp_same sC _ _ d2) .nil)))
end
end K1
namespace K1
open PySem L2 Own StX ClX NdefX
theorem due_end {K : PySem.W.Frag} {H : Hp} {Q : VK} {z : Str} {c : Option Int} {ins outs needs : List Str} {a1 a2 a3 a4 a5 a6 a7 : Addr} (e1 : insOf z = ins) (e2 : outsOf z = outs) (e3 : needsOf z = needs)
    (k : ∀ r vi vo vp H', Same H H' → H r = none → H' r = some (.tup [.str z, vi, vo, optV c, vp]) → Dp K H' vi (strD (insOf z)) → Dp K H' vo (strD (outsOf z)) → Dp K H' vp (profD z) → Q (.ref r) H')
    (h1 : H a1 = none) (h2 : (upd H a1 (.tup (ins.map V.str))) a2 = none) (h3 : (upd (upd H a1 (.tup (ins.map V.str))) a2 (.tup (outs.map V.str))) a3 = none)
    (h4 : (upd (upd (upd H a1 (.tup (ins.map V.str))) a2 (.tup (outs.map V.str))) a3 (.tup (outs.map V.str))) a4 = none)
    (h5 : (upd (upd (upd (upd H a1 (.tup (ins.map V.str))) a2 (.tup (outs.map V.str))) a3 (.tup (outs.map V.str))) a4 (.tup (needs.map V.str))) a5 = none)
    (h6 : (upd (upd (upd (upd (upd H a1 (.tup (ins.map V.str))) a2 (.tup (outs.map V.str))) a3 (.tup (outs.map V.str))) a4 (.tup (needs.map V.str))) a5 (.tup [.ref a3, .ref a4])) a6 = none)
    (h7 : (upd (upd (upd (upd (upd (upd H a1 (.tup (ins.map V.str))) a2 (.tup (outs.map V.str))) a3 (.tup (outs.map V.str))) a4 (.tup (needs.map V.str))) a5 (.tup [.ref a3, .ref a4])) a6 (.tup [.ref a5])) a7 = none) :
    Q (.ref a7) (upd (upd (upd (upd (upd (upd (upd H a1 (.tup (ins.map V.str))) a2 (.tup (outs.map V.str))) a3 (.tup (outs.map V.str))) a4 (.tup (needs.map V.str))) a5 (.tup [.ref a3, .ref a4])) a6 (.tup [.ref a5])) a7 (.tup [.str z, .ref a1, .ref a2, optV c, .ref a6])) := by
  have s1 := upd_new (o := HO.tup (ins.map V.str)) h1
  have s2 := upd_new (o := HO.tup (outs.map V.str)) h2
  have s3 := upd_new (o := HO.tup (outs.map V.str)) h3
  have s4 := upd_new (o := HO.tup (needs.map V.str)) h4
  have s5 := upd_new (o := HO.tup [V.ref a3, V.ref a4]) h5
  have s6 := upd_new (o := HO.tup [V.ref a5]) h6
  have s7 := upd_new (o := HO.tup [V.str z, .ref a1, .ref a2, optV c, .ref a6]) h7
  have s27 := s2.trans (s3.trans (s4.trans (s5.trans (s6.trans s7))))
  have s37 := s3.trans (s4.trans (s5.trans (s6.trans s7)))
  have s47 := s4.trans (s5.trans (s6.trans s7))
  have s57 := s5.trans (s6.trans s7)
  refine k a7 (.ref a1) (.ref a2) (.ref a6) _ (s1.trans s27) ((s1.trans (s2.trans (s3.trans (s4.trans (s5.trans s6))))).free h7) upd_same ?_ ?_ ?_
  · rw [e1]
    exact dp_same s27 _ _ (dp_strT (.of upd_same))
  · rw [e2]
    exact dp_same s37 _ _ (dp_strT (.of upd_same))
  · unfold profD
    rw [e2, e3]
    have d3 := dp_same s47 _ _ (dp_strT (K := K) (l := outs) (.of (a := a3) upd_same))
    have d4 := dp_same s57 _ _ (dp_strT (K := K) (l := needs) (.of (a := a4) upd_same))
    exact .tup (.of (s7 _ _ upd_same)) (.cons (.tup (.of ((s6.trans s7) _ _ upd_same)) (.cons d3 (.cons d4 .nil))) .nil)
/-- the words of such a text -/
theorem split_word {z : Str} (hz : z ∈ words9) : Txt.split z " " = [z] := by
  simp only [words9, List.mem_cons, List.not_mem_nil, or_false] at hz
  rcases hz with rfl | rfl | rfl | rfl | rfl | rfl | rfl | rfl | rfl <;> decide +kernel
theorem split_two {z y : Str} (h1 : 32 ∉ z.cps.toList) (h2 : 32 ∉ y.cps.toList) : Txt.split (z ++ " " ++ y) " " = [z, y] := by
  have e := TL.split_join (y := " ") (s := 32) (S := []) (by decide +kernel) (by decide +kernel) (parts := [z, y]) (by simp) (fun p hp => by
    simp only [List.mem_cons, List.not_mem_nil, or_false] at hp
    rcases hp with rfl | rfl
    · exact h1
    · exact h2)
  have j : Txt.join " " [z, y] = z ++ " " ++ y := by
    rw [TL.join_eq]
    rfl
  rw [j] at e
  exact e
theorem txt_some (z : Str) (n : Int) : txt z (some n) = z ++ " " ++ Str.ofString (toString n) := by
  have e : Str.empty ++ z = z := TL.ext_tl (by rw [TL.tl_append]; rfl)
  show Str.empty ++ z ++ " " ++ Str.ofString (toString n) = _
  rw [e]
theorem tl_int {n : Int} (h : 0 ≤ n) : (Str.ofString (toString n)).cps.toList = TL.numL n.toNat := by
  have e := TL.tl_num n.toNat
  rw [show ((n.toNat : Nat) : Int) = n by omega] at e
  exact e
theorem num_free {n : Int} (h : 0 ≤ n) : 32 ∉ (Str.ofString (toString n)).cps.toList := by
  rw [tl_int h]
  exact TL.numL_free (.inl (by decide))
theorem w9_free {z : Str} (hz : z ∈ words9) : 32 ∉ z.cps.toList := by
  simp only [words9, List.mem_cons, List.not_mem_nil, or_false] at hz
  rcases hz with rfl | rfl | rfl | rfl | rfl | rfl | rfl | rfl | rfl <;> decide +kernel
theorem num_int {n : Int} (h0 : 0 ≤ n) (h1 : n < 4294967296) : intText? (Str.ofString (toString n)) = some n := by
  have e : ((n.toNat : Nat) : Int) = n := by omega
  have hl := num_len h0 h1
  have z := TL.int_num (n := n.toNat) (by
    rw [← tl_int h0, ← TL.len_tl]
    omega)
  rw [e] at z
  exact z
theorem seq {a b : Str} {c : Bool} (h : decide (a = b) = c) : V.bl (decide (V.str a = V.str b)) = V.bl c := by
  rw [← h]
  by_cases e : a = b
  · rw [decide_eq_true e, decide_eq_true (congrArg V.str e)]
  · rw [decide_eq_false e, decide_eq_false (fun z => e (V.str.inj z))]
section
variable {P : Program} {w : World} {K : PySem.W.Frag} {mg : Str → Option Value} {base : Heap} {C : Addr}
theorem scDu : FnScope ["text", "words"] ["text"] (defScope sDue) := ⟨rfl, rfl, rfl, by decide +kernel, rfl, by decide +kernel, by decide +kernel⟩
theorem ok_due {f : Addr} {fd : FuncData} (F : Fun K "_law_due" "_law_due" sDue f fd) (T : Txt K w mg C) : FnOk P w K mg base CX0 1 f fd ["text"] (spDue K) := by
  refine F.ok scDu (fun vs H Q E h => ?_) (fun cdv A outer s H vs Q E hr h => ?_)
  · obtain ⟨x, z, c, rfl, _⟩ := h
    rfl
  obtain ⟨x, z, c, rfl, hx, rfl, hz, hzc, hc, k⟩ := h
  refine ⟨_, pss_cons (ps_set (i := 1) scDu.nd rfl (.inl rfl) (pe_split (pv 0) pe_str))
    (pss_cons (ps_if (pt_cmpR op_eq (pe_ix ix_list (pv 1) pe_int (fun _ _ => rfl)) pe_str (nomark _)) (pss_one (ps_ret (pe_tup (pa_cons pe_str (pa_cons (pe_tup pa_nil) (pa_cons (pe_tup (pa_cons pe_str pa_nil)) (pa_cons (pe_callTy call_int_str (by rfl) T.zi (by decide +kernel) (pa_cons (pe_ix ix_list (pv 1) pe_int (fun _ _ => rfl)) pa_nil))
        (pa_cons (pe_tup (pa_cons (pe_tup (pa_cons (pe_tup (pa_cons pe_str pa_nil)) (pa_cons (pe_tup pa_nil) pa_nil))) pa_nil)) pa_nil)))))))) pss_nil)
    (pss_cons (ps_if (pt_cmpR op_eq (pe_ix ix_list (pv 1) pe_int (fun _ _ => rfl)) pe_str (nomark _)) (pss_one (ps_ret (pe_tup (pa_cons pe_str (pa_cons (pe_tup (pa_cons pe_str pa_nil)) (pa_cons (pe_tup (pa_cons pe_str pa_nil)) (pa_cons (pe_callTy call_int_str (by rfl) T.zi (by decide +kernel) (pa_cons (pe_ix ix_list (pv 1) pe_int (fun _ _ => rfl)) pa_nil))
        (pa_cons (pe_tup (pa_cons (pe_tup (pa_cons (pe_tup (pa_cons pe_str pa_nil)) (pa_cons (pe_tup pa_nil) pa_nil))) pa_nil)) pa_nil)))))))) pss_nil)
    (pss_cons (ps_if (pt_cmpR op_eq (pv 0) pe_str (nomark _)) (pss_one (ps_ret (pe_tup (pa_cons (pv 0) (pa_cons (pe_tup (pa_cons pe_str (pa_cons pe_str (pa_cons pe_str pa_nil)))) (pa_cons (pe_tup (pa_cons pe_str pa_nil)) (pa_cons pe_non
        (pa_cons (pe_tup (pa_cons (pe_tup (pa_cons (pe_tup (pa_cons pe_str pa_nil)) (pa_cons (pe_tup (pa_cons pe_str (pa_cons pe_str (pa_cons pe_str pa_nil)))) pa_nil))) pa_nil)) pa_nil)))))))) pss_nil)
    (pss_cons (ps_if (pt_cmpR op_eq (pv 0) pe_str (nomark _)) (pss_one (ps_ret (pe_tup (pa_cons (pv 0) (pa_cons (pe_tup (pa_cons pe_str (pa_cons pe_str pa_nil))) (pa_cons (pe_tup (pa_cons pe_str (pa_cons pe_str pa_nil))) (pa_cons pe_non
        (pa_cons (pe_tup (pa_cons (pe_tup (pa_cons (pe_tup (pa_cons pe_str (pa_cons pe_str pa_nil))) (pa_cons (pe_tup (pa_cons pe_str (pa_cons pe_str pa_nil))) pa_nil))) pa_nil)) pa_nil)))))))) pss_nil)
    (pss_one (ps_ret (pe_tup (pa_cons (pv 0) (pa_cons (pe_tup (pa_cons pe_str (pa_cons pe_str pa_nil))) (pa_cons (pe_tup (pa_cons pe_str pa_nil)) (pa_cons pe_non
        (pa_cons (pe_tup (pa_cons (pe_tup (pa_cons (pe_tup (pa_cons pe_str pa_nil)) (pa_cons (pe_tup (pa_cons pe_str (pa_cons pe_str pa_nil))) pa_nil))) pa_nil)) pa_nil)))))))))))), ?_⟩
  have z0 : 0 ≤ sizeLine := Nat.zero_le _
  have z1 : 1 ≤ sizeLine := small1 (by decide)
  have z2 : 2 ≤ sizeLine := small1 (by decide)
  have z3 : 3 ≤ sizeLine := small1 (by decide)
  have z5 : 5 ≤ sizeLine := small1 (by decide)
  refine ⟨_, rfl, ⟨_, rfl⟩, _, _, rfl, rfl, by decide +kernel, Nat.le_of_lt (small1000 (by omega)), fun ws hws => ?_⟩
  have at0 : ∀ (a : V) (r : List V), atI (a :: r) 0 = some a := fun a r => at_of (j := 0) rfl rfl
  have at1 : ∀ (a b : V), atI [a, b] 1 = some b := fun a b => at_of (j := 1) rfl rfl
  have sw := upd_new (o := HO.lst ((Txt.split (txt z c) " ").map V.str)) hws
  have kk : ∀ r vi vo vp H', Same (upd H ws (.lst ((Txt.split (txt z c) " ").map V.str))) H' → (upd H ws (.lst ((Txt.split (txt z c) " ").map V.str))) r = none → H' r = some (.tup [.str z, vi, vo, optV c, vp]) → Dp K H' vi (strD (insOf z)) → Dp K H' vo (strD (outsOf z)) → Dp K H' vp (profD z) → Q (.ref r) H' :=
    fun r vi vo vp H' s1 hr h1 h2 h3 h4 => k r vi vo vp H' (sw.trans s1) (sw.free hr) h1 h2 h3 h4
  cases c with
  | some n =>
    obtain ⟨h0, h1⟩ := hc n rfl
    have hsp : Txt.split (txt z (some n)) " " = [z, Str.ofString (toString n)] := by
      rw [txt_some]
      exact split_two (w9_free hz) (num_free h0)
    rw [hsp] at kk ⊢
    have hnl := num_len h0 h1
    rcases hzc.mpr rfl with rfl | rfl
    · refine ⟨_, rfl, ws, _, _, _, rfl, rfl, .of upd_same, at0 _ _, rfl, true, seq (by decide +kernel), iteT ?_⟩
      refine ⟨z0, fun a1 h1' => ⟨z1, fun a2 h2 => ⟨_, rfl, ws, [V.str "const", V.str (Str.ofString (toString n))], _, _, rfl, rfl, .of ?_, at1 _ _, _, n, rfl, num_int h0 h1, by omega, z1, fun a3 h3 => ⟨z0, fun a4 h4 => ⟨z2, fun a5 h5 => ⟨z1, fun a6 h6 => ⟨z5, fun a7 h7 => ?_⟩⟩⟩⟩⟩⟩⟩
      · exact ((upd_new h1').trans (upd_new h2)) _ _ upd_same
      · exact due_end (ins := []) (outs := ["out"]) (needs := []) (c := some n) (by decide +kernel) (by decide +kernel) (by decide +kernel) kk h1' h2 h3 h4 h5 h6 h7
    · refine ⟨_, rfl, ws, _, _, _, rfl, rfl, .of upd_same, at0 _ _, rfl, false, seq (by decide +kernel), iteF ⟨_, rfl, ws, _, _, _, rfl, rfl, .of upd_same, at0 _ _, rfl, true, seq (by decide +kernel), iteT ?_⟩⟩
      refine ⟨z1, fun a1 h1' => ⟨z1, fun a2 h2 => ⟨_, rfl, ws, [V.str "delay", V.str (Str.ofString (toString n))], _, _, rfl, rfl, .of ?_, at1 _ _, _, n, rfl, num_int h0 h1, by omega, z1, fun a3 h3 => ⟨z0, fun a4 h4 => ⟨z2, fun a5 h5 => ⟨z1, fun a6 h6 => ⟨z5, fun a7 h7 => ?_⟩⟩⟩⟩⟩⟩⟩
      · exact ((upd_new h1').trans (upd_new h2)) _ _ upd_same
      · exact due_end (ins := ["in"]) (outs := ["out"]) (needs := []) (c := some n) (by decide +kernel) (by decide +kernel) (by decide +kernel) kk h1' h2 h3 h4 h5 h6 h7
  | none =>
    have hsp : Txt.split (txt z none) " " = [z] := split_word hz
    rw [hsp] at kk ⊢
    have hn : ¬ (z = "const" ∨ z = "delay") := fun e => nomatch hzc.mp e
    have hn1 : ¬ z = "const" := fun e => hn (.inl e)
    have hn2 : ¬ z = "delay" := fun e => hn (.inr e)
    refine ⟨_, rfl, ws, _, _, _, rfl, rfl, .of upd_same, at0 _ _, rfl, false, seq (decide_eq_false hn1), iteF ⟨_, rfl, ws, _, _, _, rfl, rfl, .of upd_same, at0 _ _, rfl, false, seq (decide_eq_false hn2), iteF ?_⟩⟩
    by_cases hp : z = "pick"
    · subst hp
      refine ⟨_, rfl, rfl, true, seq (by decide +kernel), iteT ⟨_, rfl, z3, fun a1 h1 => ⟨z1, fun a2 h2 => ⟨z1, fun a3 h3 => ⟨z3, fun a4 h4 => ⟨z2, fun a5 h5 => ⟨z1, fun a6 h6 => ⟨z5, fun a7 h7 => ?_⟩⟩⟩⟩⟩⟩⟩⟩
      exact due_end (z := "pick") (ins := ["c", "a", "b"]) (outs := ["out"]) (needs := ["c", "a", "b"]) (c := none) (by decide +kernel) (by decide +kernel) (by decide +kernel) kk h1 h2 h3 h4 h5 h6 h7
    by_cases hv : z = "divide"
    · subst hv
      refine ⟨_, rfl, rfl, false, seq (by decide +kernel), iteF ⟨_, rfl, rfl, true, seq (by decide +kernel), iteT ⟨_, rfl, z2, fun a1 h1 => ⟨z2, fun a2 h2 => ⟨z2, fun a3 h3 => ⟨z2, fun a4 h4 => ⟨z2, fun a5 h5 => ⟨z1, fun a6 h6 => ⟨z5, fun a7 h7 => ?_⟩⟩⟩⟩⟩⟩⟩⟩⟩
      exact due_end (z := "divide") (ins := ["a", "b"]) (outs := ["quotient", "rest"]) (needs := ["a", "b"]) (c := none) (by decide +kernel) (by decide +kernel) (by decide +kernel) kk h1 h2 h3 h4 h5 h6 h7
    refine ⟨_, rfl, rfl, false, seq (decide_eq_false hp), iteF ⟨_, rfl, rfl, false, seq (decide_eq_false hv), iteF ⟨_, rfl, z2, fun a1 h1 => ⟨z1, fun a2 h2 => ⟨z1, fun a3 h3 => ⟨z2, fun a4 h4 => ⟨z2, fun a5 h5 => ⟨z1, fun a6 h6 => ⟨z5, fun a7 h7 => ?_⟩⟩⟩⟩⟩⟩⟩⟩⟩
    have e1 : insOf z = (["a", "b"] : List Str) := by unfold insOf; rw [if_neg hn1, if_neg hn2, if_neg hp]
    have e2 : outsOf z = (["out"] : List Str) := by unfold outsOf; rw [if_neg hv]
    have e3 : needsOf z = (["a", "b"] : List Str) := by unfold needsOf; rw [if_neg hn2, e1]
    exact due_end (c := none) e1 e2 e3 kk h1 h2 h3 h4 h5 h6 h7
end
end K1
namespace K1
open PySem L2 Own StX ClX NdefX
/-! ### numbers as texts -/
theorem numL_head : ∀ n : Nat, 1 ≤ n → ∃ c r, TL.numL n = c :: r ∧ 49 ≤ c ∧ c ≤ 57 := by
  intro n
  induction n using Nat.strongRecOn with
  | _ n ih =>
    intro h
    by_cases h10 : n < 10
    · exact ⟨48 + n, [], TL.numL_lt h10, by omega, by omega⟩
    · obtain ⟨c, r, e, h1, h2⟩ := ih (n / 10) (by omega) (by omega)
      exact ⟨c, r ++ [48 + n % 10], by rw [TL.numL_step (by omega), e]; rfl, h1, h2⟩
theorem readV_num {n : Int} (h0 : 0 ≤ n) (h1 : n < 4294967296) : readV (Str.ofString (toString n)) = some n := by
  have et := tl_int h0
  have hl := num_len h0 h1
  have hlen : (Str.ofString (toString n)).length = (TL.numL n.toNat).length := by rw [TL.len_tl]; exact congrArg List.length et
  have hne := TL.numL_ne n.toNat
  have hpos : 1 ≤ (TL.numL n.toNat).length := by
    cases e : TL.numL n.toNat with
    | nil => exact absurd e hne
    | cons a r => simp
  have hall : (TL.numL n.toNat).all isD = true := List.all_eq_true.mpr fun c hc => by
    have z := TL.numL_digits n.toNat c hc
    unfold isD
    simp only [Bool.and_eq_true, decide_eq_true_eq]
    exact z
  have hd : dig10 (Str.ofString (toString n)) = true := by
    unfold dig10
    rw [et, hall, decide_eq_true (show 1 ≤ (Str.ofString (toString n)).length by omega), decide_eq_true hl]
    rfl
  have hz : ¬ ((⟨#[(Str.ofString (toString n)).cps.toList.headD 0]⟩ : Str) = "0" ∧ ¬ Str.ofString (toString n) = "0") := by
    rintro ⟨z1, z2⟩
    rw [et] at z1
    by_cases hn : n.toNat = 0
    · have : n = 0 := by omega
      subst this
      exact z2 (by decide +kernel)
    · obtain ⟨c, r, e, h2, _⟩ := numL_head n.toNat (by omega)
      rw [e] at z1
      have z3 : ((⟨#[c]⟩ : Str)).cps.toList = (("0" : Str)).cps.toList := congrArg (fun x : Str => x.cps.toList) z1
      rw [show (("0" : Str)).cps.toList = [48] by decide +kernel] at z3
      have : c = 48 := by simpa using z3
      omega
  have hv : ((NumText.digitsVal (Str.ofString (toString n)).cps.toList : Nat) : Int) = n := by
    rw [et, TL.numL_val]
    omega
  unfold readV
  rw [if_pos hd, if_neg hz, hv, if_pos h1]
theorem part_of {z : Str} (h : 32 ∉ z.cps.toList) (y : Str) : Txt.partition (z ++ " " ++ y) " " = (z, (" " : Str), y) := TL.partition_app (y := " ") (s := 32) (S := []) (by decide +kernel) h
theorem readP_num {z : Str} (hz : z = "const" ∨ z = "delay") {n : Int} (h0 : 0 ≤ n) (h1 : n < 4294967296) : readP (z ++ " " ++ Str.ofString (toString n)) = some (z, some n) := by
  have h32 : 32 ∉ z.cps.toList := by rcases hz with rfl | rfl <;> decide +kernel
  have hw : z ∈ words9 := by rcases hz with rfl | rfl <;> decide +kernel
  unfold readP
  rw [part_of h32]
  rw [if_pos hw, if_pos hz, readV_num h0 h1]
  rfl
theorem const_sp (x : Str) : (("const " : Str)) ++ x = ("const" : Str) ++ " " ++ x := by
  have e : (("const " : Str)) = ("const" : Str) ++ " " := by decide +kernel
  rw [e]
theorem delay_sp (x : Str) : (("delay " : Str)) ++ x = ("delay" : Str) ++ " " ++ x := by
  have e : (("delay " : Str)) = ("delay" : Str) ++ " " := by decide +kernel
  rw [e]
/-! ### shown data is short -/
theorem join_len : ∀ ts : List Str, (Str.join ", " ts).length ≤ (ts.map fun t => t.length + 2).sum
  | [] => Nat.zero_le _
  | t :: r => by
    have z := join_length_add (t :: r) (by simp)
    have p : piled (t :: r) = ((t :: r).map fun t => t.length + 2).sum := rfl
    omega
theorem tup_len (ts : List Str) : (tupleText ts).length ≤ (ts.map fun t => t.length + 2).sum + 3 := by
  unfold tupleText
  rw [sl, sl]
  have h1 := join_len ts
  have h2 : (("(" : Str)).length = 1 := by decide +kernel
  have h3 : ((if ts.length == 1 then ",)" else ")" : String) : Str).length ≤ 2 := by
    split <;> decide +kernel
  omega
theorem ne_str {a b : Str} (h : a = b) {A B : Prop} (q : B) : if (!decide (V.str a = V.str b)) = true then A else B := by
  rw [decide_eq_true (congrArg V.str h)]
  exact iteF q

/-! ### what is told of a primitive is shown short -/
def toldD (z : Str) (c : Option Int) : PyData := .tuple [.str z, strD (insOf z), strD (outsOf z), optD c, ifD z]
theorem opt_sh {c : Option Int} (hc : ∀ n, c = some n → 0 ≤ n ∧ n < 4294967296) : (optD c).showable = true ∧ (optD c).hasDict = false ∧ (optD c).depth ≤ 1 ∧ (optD c).shown.length ≤ 10 := by
  cases c with
  | none => exact ⟨by decide +kernel, by decide +kernel, by decide +kernel, by decide +kernel⟩
  | some n =>
    obtain ⟨h0, h1⟩ := hc n rfl
    refine ⟨?_, rfl, ?_, num_len h0 h1⟩
    · simp only [optD, PyData.showable]
      exact decide_eq_true (log32 h0 h1)
    · simp only [optD, PyData.depth]
      omega
theorem told_sh {z : Str} (hz : z ∈ words9) {c : Option Int} (hc : ∀ n, c = some n → 0 ≤ n ∧ n < 4294967296) : (toldD z c).showable = true ∧ (toldD z c).hasDict = false ∧ (toldD z c).depth ≤ 60 ∧ (toldD z c).shown.length ≤ sizeLine := by
  obtain ⟨o1, o2, o3, o4⟩ := opt_sh hc
  obtain ⟨a1, a2, a3, a4, a5⟩ : (PyData.str z).showable = true ∧ (strD (insOf z)).showable = true ∧ (strD (outsOf z)).showable = true ∧ (ifD z).showable = true ∧
      ((PyData.str z).hasDict = false ∧ (strD (insOf z)).hasDict = false ∧ (strD (outsOf z)).hasDict = false ∧ (ifD z).hasDict = false ∧ (PyData.str z).depth ≤ 10 ∧ (strD (insOf z)).depth ≤ 10 ∧ (strD (outsOf z)).depth ≤ 10 ∧ (ifD z).depth ≤ 10 ∧
        (PyData.str z).shown.length ≤ 100 ∧ (strD (insOf z)).shown.length ≤ 100 ∧ (strD (outsOf z)).shown.length ≤ 100 ∧ (ifD z).shown.length ≤ 300) := by
    simp only [words9, List.mem_cons, List.not_mem_nil, or_false] at hz
    rcases hz with rfl | rfl | rfl | rfl | rfl | rfl | rfl | rfl | rfl <;> decide +kernel
  obtain ⟨b1, b2, b3, b4, d1, d2, d3, d4, l1, l2, l3, l4⟩ := a5
  refine ⟨?_, ?_, ?_, ?_⟩
  · simp only [toldD, PyData.showable, PyData.showableAll, a1, a2, a3, a4, o1, Bool.and_self]
  · simp only [toldD, PyData.hasDict, PyData.hasDictAll, b1, b2, b3, b4, o2, Bool.or_self]
  · simp only [toldD, PyData.depth, PyData.depthAll]
    omega
  · simp only [toldD, PyData.shown]
    have q := tup_len (PyData.shownAll [.str z, strD (insOf z), strD (outsOf z), optD c, ifD z])
    simp only [PyData.shownAll, List.map_cons, List.map_nil, List.sum_cons, List.sum_nil] at q
    exact Nat.le_of_lt (small1000 (by simp only [PyData.shownAll]; omega))
/-! ### the texts of the law -/
structure Good (x z : Str) (c : Option Int) : Prop where
  len : x.length ≤ 100
  rd : readP x = some (z, c)
  eq : x = txt z c
  w9 : z ∈ words9
  cd : z = "const" ∨ z = "delay" ↔ c.isSome = true
  rg : ∀ n, c = some n → 0 ≤ n ∧ n < 4294967296
def GoodV (v : V) : Prop := ∃ x z c, v = .str x ∧ Good x z c
theorem good_word {z : Str} (h : z ∈ (["add", "sub", "mul", "less", "equal", "pick", "divide"] : List Str)) : GoodV (.str z) := by
  refine ⟨z, z, none, rfl, ?_, ?_, rfl, ?_, ?_, fun n e => nomatch e⟩
  all_goals
    simp only [List.mem_cons, List.not_mem_nil, or_false] at h
    rcases h with rfl | rfl | rfl | rfl | rfl | rfl | rfl <;> decide +kernel
theorem good_num {z : Str} (hz : z = "const" ∨ z = "delay") {n : Int} (h0 : 0 ≤ n) (h1 : n < 4294967296) : GoodV (.str (z ++ " " ++ Str.ofString (toString n))) := by
  have hl := num_len h0 h1
  have hw : z ∈ words9 := by rcases hz with rfl | rfl <;> decide +kernel
  have hzl : z.length ≤ 10 := by rcases hz with rfl | rfl <;> decide +kernel
  have hs : ((" " : Str)).length = 1 := by decide +kernel
  refine ⟨_, z, some n, rfl, ?_, readP_num hz h0 h1, (txt_some z n).symm, hw, ⟨fun _ => rfl, fun _ => hz⟩, fun m e => by cases e; exact ⟨h0, h1⟩⟩
  rw [sl, sl]
  omega
end K1
namespace K1
open PySem L2 Own StX ClX NdefX
def spLaw (K : PySem.W.Frag) : Sp := fun vs H Q _ => ∃ (a : Addr) (ns : List Int), vs = [.ref a] ∧ SqL K H a (ns.map V.int) ∧ ns.length ≤ 63 ∧ ∀ H', Q (.bl true) H'
abbrev nL : List Str := ["script", "k", "feed", "numbers", "texts", "number", "text", "one", "name", "inputs", "outputs", "constant", "profile", "told"]
/-- Primitive.parse, str and interface, callable; its class -/
structure Par (P : Program) (w : World) (K : PySem.W.Frag) (mg : Str → Option Value) (base : Heap) (C : Addr) : Prop where
  cm : ∃ mc p g, CRead K C mc ∧ CMet K C mc "parse" p g ∧ FnR P w K mg base CX0 4 g (spParse K C)
  st : ∃ g, PySem.W.findIn K (.ref C) "__str__" = some (some (.ref g)) ∧ PySem.W.isFn K (.ref g) = true ∧ FnR P w K mg base CX0 1 g (spStr C)
  pr : ∃ p g fd, PropOf K C "interface" p g ∧ FnOk P w K mg base CX0 1 g fd ["self"] (spIf K C) ∧ Binds K fd ["self"] []
  bl : ∃ B, mg "Block" = some (.ref B) ∧ PySem.W.kitOne K (.ref C) (.ref B) = some true
  ha : PySem.W.findIn K (.ref C) "__class__" = some (some (.builtin "object.__class__"))
  hn : PySem.W.specialIn K (.builtin "object.__class__") "__get__" = some (some (.builtin "getset_descriptor.__get__"))
  hk : PySem.W.takesIn K (.builtin "object.__class__") = some true
  hm : PySem.W.mroIn K C (.type "object") = some true
section
variable {P : Program} {w : World} {K : PySem.W.Frag} {mg : Str → Option Value} {base : Heap} {C : Addr}
theorem scL : FnScope nL ["script"] (defScope sLaw) := ⟨rfl, rfl, rfl, by decide +kernel, rfl, by decide +kernel, by decide +kernel⟩
theorem e32 : (2 : Int) ^ (32 : Int).toNat = 4294967296 := by decide
theorem kit_self (C : Addr) : PySem.W.kitOne K (.ref C) (.ref C) = some true := by
  unfold PySem.W.kitOne
  rw [if_pos (beq_self_eq_true _)]
theorem ok_law {f fF fT fD : Addr} {fd fdF fdT fdD : FuncData} (F : Fun K "law" "law" sLaw f fd) (T : Txt K w mg C) (Pa : Par P w K mg base C)
    (GF : FnOk P w K mg base CX0 1 fF fdF ["script", "k"] (spFeed K)) (mF : mg "_law_feed" = some (.ref fF)) (kF : PySem.W.keepIn K (.ref fF) = true) (bF : Binds K fdF ["script", "k"] [])
    (GT : FnOk P w K mg base CX0 1 fT fdT ["feed", "many"] spTake) (mT : mg "_law_take" = some (.ref fT)) (kT : PySem.W.keepIn K (.ref fT) = true) (bT : Binds K fdT ["feed", "many"] [])
    (GD : FnOk P w K mg base CX0 1 fD fdD ["text"] (spDue K)) (mD : mg "_law_due" = some (.ref fD)) (kD : PySem.W.keepIn K (.ref fD) = true) (bD : Binds K fdD ["text"] [])
    (mlen : mg "len" = none) (mmax : mg "max" = none) (mmin : mg "min" = none) (mrange : mg "range" = none) (mrepr : mg "repr" = none) (misi : mg "isinstance" = none) : FnG P w K mg base CX0 5 f fd ["script"] (spLaw K) := by
  refine fun_okG F scL (fun vs H Q E h => ?_) (fun cdv A outer s H vs Q E hg hr h => ?_)
  · obtain ⟨a, ns, rfl, _⟩ := h
    rfl
  obtain ⟨a, ns, rfl, hS, hlen, k⟩ := h
  have hr1 := hr.mono (show 1 ≤ 4 by decide)
  have hr2 := hr.mono (show 2 ≤ 4 by decide)
  have hr3 := hr.mono (show 3 ≤ 4 by decide)
  have hu := hr.units
  obtain ⟨mc, pp, gp, cr, cm, G⟩ := Pa.cm
  obtain ⟨gs, fs, is_, GS⟩ := Pa.st
  obtain ⟨pI, gI, fdI, po, GI, bI⟩ := Pa.pr
  obtain ⟨B, mB, kB⟩ := Pa.bl
  have e31 : ((2 : Int) ^ (31 : Int).toNat) = 2147483648 := by decide
  refine ⟨_, pss_cons (ps_for PassesOwn.never rfl (pi_range1 rfl mrange (pa_cons (pe_callB (call_max2 rfl) (by rfl) mmax (by decide +kernel) (pa_cons pe_int (pa_cons (pe_callB (call_min2 rfl) (by rfl) mmin (by decide +kernel) (pa_cons pe_int (pa_cons (pe_callB call_len_seq (by rfl) mlen PySem.boot_len (pa_cons (pv 0) pa_nil)) pa_nil))) pa_nil))) pa_nil)) (pg_name (i := 1) scL.nd rfl (.inl rfl))
      (pss_cons (ps_set (i := 2) scL.nd rfl (.inl rfl) (pe_call GF hr1 rfl mF kF bF .nil pass0 (pa_cons (pv 0) (pa_cons (pv 1) pa_nil))))
      (pss_cons (ps_set (i := 3) scL.nd rfl (.inl rfl) (pe_lst (pa_cons pe_int (pa_cons pe_int (pa_cons pe_int (pa_cons pe_int (pa_cons (pe_op op_pow pe_int pe_int) (pa_cons (pe_op op_sub (pe_op op_pow pe_int pe_int) pe_int)
          (pa_cons (pe_call GT hr1 rfl mT kT bT .nil pass0 (pa_cons (pv 2) (pa_cons (pe_op op_pow pe_int pe_int) pa_nil))) (pa_cons (pe_call GT hr1 rfl mT kT bT .nil pass0 (pa_cons (pv 2) (pa_cons pe_int pa_nil))) pa_nil))))))))))
      (pss_cons (ps_set (i := 4) scL.nd rfl (.inl rfl) (pe_lst (pa_cons pe_str (pa_cons pe_str (pa_cons pe_str (pa_cons pe_str (pa_cons pe_str (pa_cons pe_str (pa_cons pe_str pa_nil)))))))))
      (pss_cons (ps_for PassesOwn.never rfl (pi_list (pv 3)) (pg_name (i := 5) scL.nd rfl (.inl rfl))
        (pss_one (ps_set (i := 4) scL.nd rfl (.inl rfl) (pe_op op_cat (pv 4) (pe_lst (pa_cons (pe_op op_add_str pe_str (pe_callTy call_str_int (by rfl) T.zs (by decide +kernel) (pa_cons (pv 5) pa_nil))) (pa_cons (pe_op op_add_str pe_str (pe_callTy call_str_int (by rfl) T.zs (by decide +kernel) (pa_cons (pv 5) pa_nil))) pa_nil)))))))
      (pss_one (ps_for PassesOwn.never rfl (pi_list (pe_op op_cat (pv 4) (pe_revL (pv 4)))) (pg_name (i := 6) scL.nd rfl (.inl rfl))
        (pss_cons (ps_set (i := 7) scL.nd rfl (.inl rfl) (pe_cmeth (pe_glob (v := .ref C) rfl T.mC rfl) cr cm G hr pass0 (pa_cons (pv 6) pa_nil)))
        (pss_cons (ps_if (PW.pt (pw_or (pt_not (pt_val (pe_callB (id := "isinstance") call_isi (by rfl) misi (by decide +kernel) (pa_cons (pv 7) (pa_cons (pe_glob (v := .ref C) rfl T.mC rfl) pa_nil)))))
              (pw_or (pt_not (pt_val (pe_callB (id := "isinstance") call_isi (by rfl) misi (by decide +kernel) (pa_cons (pv 7) (pa_cons (pe_glob (v := .ref B) rfl mB rfl) pa_nil)))))
              (pw_or1 (pt_cmpR op_ne (pe_callTy (call_strO GS hr3 fs is_) (by rfl) T.zs (by decide +kernel) (pa_cons (pv 7) pa_nil)) (pv 6) (nomark _)))))) (pss_one (ps_ret pe_bl)) pss_nil)
        (pss_cons (ps_asg (pe_call GD hr1 rfl mD kD bD .nil pass0 (pa_cons (pv 6) pa_nil)) (pg_tup (by rfl) (pgs_cons (pg_name (i := 8) scL.nd rfl (.inl rfl)) (pgs_cons (pg_name (i := 9) scL.nd rfl (.inl rfl)) (pgs_cons (pg_name (i := 10) scL.nd rfl (.inl rfl)) (pgs_cons (pg_name (i := 11) scL.nd rfl (.inl rfl)) (pgs_cons (pg_name (i := 12) scL.nd rfl (.inl rfl)) pgs_nil)))))))
        (pss_cons (ps_set (i := 13) scL.nd rfl (.inl rfl) (pe_tup (pa_cons (pe_fld (pv 7) rfl) (pa_cons (pe_fld (pv 7) rfl) (pa_cons (pe_fld (pv 7) rfl) (pa_cons (pe_fld (pv 7) rfl) (pa_cons (pe_prop (pv 7) T.cl po GI hr2 bI .nil pass0 rfl) pa_nil)))))))
        (pss_one (ps_if (pt_cmpR op_ne (pe_callB (call_reprD hg hu) (by rfl) mrepr (by decide +kernel) (pa_cons (pv 13) pa_nil)) (pe_callB (call_reprD hg hu) (by rfl) mrepr (by decide +kernel) (pa_cons (pe_tup (pa_cons (pv 8) (pa_cons (pv 9) (pa_cons (pv 10) (pa_cons (pv 11) (pa_cons (pe_tup (pa_cons (pv 9) (pa_cons (pv 10) (pa_cons (pv 12) pa_nil)))) pa_nil)))))) pa_nil)) (nomark _)) (pss_one (ps_ret pe_bl)) pss_nil)))))))))))))
    (pss_one (ps_ret pe_bl)), ?_⟩
  have cp31 : CPow 2 31 := ⟨by decide, by decide, by decide⟩
  have cp32 : CPow 2 32 := ⟨by decide, by decide, by decide⟩
  refine ⟨_, rfl, a, _, rfl, .inl hS, _, _, rfl, _, _, rfl, _, rfl, by split <;> split <;> omega, by split <;> split <;> omega, ?_⟩
  refine for_range (lo := 0) (fun i σ H1 => ∃ v1 v2 v3 v4 v5 v6 v7 v8 v9 v10 v11 v12 v13, σ = [some (.ref a), v1, v2, v3, v4, v5, v6, v7, v8, v9, v10, v11, v12, v13] ∧ Same H H1) ⟨_, _, _, _, _, _, _, _, _, _, _, _, _, rfl, Same.refl _⟩ ?turn1 ?done1
  case done1 =>
    rintro σ H1 ⟨v1, v2, v3, v4, v5, v6, v7, v8, v9, v10, v11, v12, v13, rfl, s1⟩
    exact k H1
  rintro i σ H1 hi ⟨v1, v2, v3, v4, v5, v6, v7, v8, v9, v10, v11, v12, v13, rfl, s1⟩
  have hi6 : i < 7 := by
    have hi := hi
    rw [List.length_map] at hi
    split at hi <;> split at hi <;> omega
  refine ⟨_, rfl, _, rfl, a, ns, _, rfl, s1.seq hS, by omega, by omega, fun p d0 st0 hd0 hp => ?_⟩
  have hHp : H p = none := s1.free hp
  refine ⟨_, _, rfl, rfl, cp31, _, _, rfl, rfl, cp32, _, _, rfl, rfl, ?_⟩
  refine ⟨_, rfl, _, _, rfl, rfl, cp32, p, d0, st0, _, rfl, upd_same, hd0, by rw [e32]; decide, by rw [e32]; decide, fun r1 d1 st1 hd1 h10 h11 => ?_⟩
  rw [e32] at h11
  refine ⟨_, rfl, p, d1, st1, 1000, rfl, upd_same, hd1, by decide, by decide, fun r2 d2 st2 hd2 h20 h21 => ⟨small1 (by show 8 ≤ 8; decide), fun q0 hq0 => ?_⟩⟩
  refine ⟨small1 (by show 7 ≤ 8; decide), fun q1 hq1 => ?_⟩
  obtain ⟨L, hLe⟩ : ∃ L : List V, L = [.int 0, .int 1, .int 9, .int 10, .int ((2 : Int) ^ (31 : Int).toNat), .int ((2 : Int) ^ (32 : Int).toNat - 1), .int r1, .int r2] := ⟨_, rfl⟩
  obtain ⟨H5, hH5⟩ : ∃ H5, H5 = upd (upd (upd (upd H1 p (.lst [.int d0, .int st0])) p (.lst [.int d1, .int st1])) p (.lst [.int d2, .int st2])) q0 (.lst [.int 0, .int 1, .int 9, .int 10, .int ((2 : Int) ^ (31 : Int).toNat), .int ((2 : Int) ^ (32 : Int).toNat - 1), .int r1, .int r2]) := ⟨_, rfl⟩
  have hLn : L.length = 8 := by rw [hLe]; rfl
  have hL : ∀ x ∈ L, ∃ z, x = V.int z ∧ 0 ≤ z ∧ z < 4294967296 := by
    intro x hx
    rw [hLe, e31, e32] at hx
    simp only [List.mem_cons, List.not_mem_nil, or_false] at hx
    rcases hx with rfl | rfl | rfl | rfl | rfl | rfl | rfl | rfl
    · exact ⟨_, rfl, by decide, by decide⟩
    · exact ⟨_, rfl, by decide, by decide⟩
    · exact ⟨_, rfl, by decide, by decide⟩
    · exact ⟨_, rfl, by decide, by decide⟩
    · exact ⟨_, rfl, by decide, by decide⟩
    · exact ⟨_, rfl, by decide, by decide⟩
    · exact ⟨_, rfl, h10, h11⟩
    · exact ⟨_, rfl, h20, by omega⟩
  have S5 : Same H H5 := by
    rw [hH5]
    exact (same_put (same_put (same_put s1 hHp) hHp) hHp).trans (upd_new hq0)
  have g0 : H5 q0 = some (.lst L) := by rw [hH5, hLe]; exact upd_same
  rw [← hH5] at hq1
  obtain ⟨H6, hH6⟩ : ∃ H6, H6 = upd H5 q1 (.lst [.str "add", .str "sub", .str "mul", .str "less", .str "equal", .str "pick", .str "divide"]) := ⟨_, rfl⟩
  have S6 : Same H5 H6 := by rw [hH6]; exact upd_new hq1
  have g1 : H6 q1 = some (.lst [.str "add", .str "sub", .str "mul", .str "less", .str "equal", .str "pick", .str "divide"]) := by rw [hH6]; exact upd_same
  have g0' := S6 _ _ g0
  rw [← hH5, ← hH6]
  clear hLe hH6 hH5
  refine ⟨_, rfl, q0, rfl, ⟨_, .of g0'⟩, for_list (K := K) (a := q0) (xs := L)
    (fun m σ H7 => ∃ v5 q ts, σ = [some (.ref a), some (.int (0 + (i : Int))), some (.ref p), some (.ref q0), some (.ref q), v5, v6, v7, v8, v9, v10, v11, v12, v13] ∧ Same H6 H7 ∧ H7 q = some (.lst ts) ∧ ts.length = 7 + 2 * m ∧ ∀ t ∈ ts, GoodV t)
    ⟨_, q1, _, rfl, Same.refl _, g1, rfl, ?words⟩ (fun m σ H7 _ ⟨_, _, _, _, s7, _⟩ => .of (s7 _ _ g0')) ?turn2 ?done2⟩
  case words =>
    intro t ht
    simp only [List.mem_cons, List.not_mem_nil, or_false] at ht
    rcases ht with rfl | rfl | rfl | rfl | rfl | rfl | rfl <;> exact good_word (by decide +kernel)
  case turn2 =>
    rintro m v σ H7 hi7 ⟨u5, q, ts, rfl, s7, hq, htl, hts⟩
    have hm : m < 8 := by rw [← hLn]; exact (List.getElem?_eq_some_iff.mp hi7).1
    obtain ⟨z, rfl, hz0, hz1⟩ := hL v (List.mem_of_getElem? hi7)
    have hnum := num_len hz0 hz1
    have hcl : (("const " : Str)).length = 6 := by decide +kernel
    have hdl : (("delay " : Str)).length = 6 := by decide +kernel
    have hc1 : (("const " : Str)).length + (Str.ofString (toString z)).length ≤ sizeLine := by rw [hcl]; exact Nat.le_of_lt (small1000 (by omega))
    have hc2 : (("delay " : Str)).length + (Str.ofString (toString z)).length ≤ sizeLine := by rw [hdl]; exact Nat.le_of_lt (small1000 (by omega))
    refine ⟨_, rfl, _, rfl, z, rfl, log32 hz0 hz1, _, _, rfl, rfl, hc1, ?_⟩
    refine ⟨_, rfl, z, rfl, log32 hz0 hz1, _, _, rfl, rfl, hc2, small1 (by show 2 ≤ 8; decide), fun q2 hq2 => ?_⟩
    refine ⟨q, q2, _, _, rfl, rfl, (upd_new hq2) _ _ hq, upd_same, Nat.le_of_lt (small1000 (by rw [htl]; show 7 + 2 * m + 2 ≤ 1000; omega)), fun q3 hq3 => ?_⟩
    refine ⟨_, q3, _, rfl, s7.trans ((upd_new hq2).trans (upd_new hq3)), upd_same, by rw [List.length_append, htl]; show 7 + 2 * m + 2 = _; omega, fun t ht => ?_⟩
    rcases List.mem_append.mp ht with h | h
    · exact hts t h
    · simp only [List.mem_cons, List.not_mem_nil, or_false] at h
      rcases h with rfl | rfl
      · rw [const_sp]; exact good_num (.inl rfl) hz0 hz1
      · rw [delay_sp]; exact good_num (.inr rfl) hz0 hz1
  case done2 =>
  rintro σ H7 ⟨u5, q, ts, rfl, s7, hq, htl, hts⟩
  rw [hLn] at htl
  refine ⟨_, rfl, _, rfl, q, _, rfl, .of hq, fun q4 hq4 => ?_⟩
  refine ⟨q, q4, _, _, rfl, rfl, (upd_new hq4) _ _ hq, upd_same, Nat.le_of_lt (small1000 (by rw [List.length_reverse, htl]; decide)), fun q5 hq5 => ?_⟩
  obtain ⟨H8, hH8⟩ : ∃ H8, H8 = upd (upd H7 q4 (.lst ts.reverse)) q5 (.lst (ts ++ ts.reverse)) := ⟨_, rfl⟩
  have S8 : Same H H8 := by rw [hH8]; exact S5.trans (S6.trans (s7.trans ((upd_new hq4).trans (upd_new hq5))))
  have g5 : H8 q5 = some (.lst (ts ++ ts.reverse)) := by rw [hH8]; exact upd_same
  rw [← hH8]
  clear hH8
  refine ⟨q5, rfl, ⟨_, .of g5⟩, for_list (K := K) (a := q5) (xs := ts ++ ts.reverse)
    (fun m σ H9 => ∃ v6 v7 v8 v9 v10 v11 v12 v13, σ = [some (.ref a), some (.int (0 + (i : Int))), some (.ref p), some (.ref q0), some (.ref q), u5, v6, v7, v8, v9, v10, v11, v12, v13] ∧ Same H8 H9)
    ⟨_, _, _, _, _, _, _, _, rfl, Same.refl _⟩ (fun m σ H9 _ ⟨_, _, _, _, _, _, _, _, _, s9⟩ => .of (s9 _ _ g5)) ?turn3 ?done3⟩
  case done3 =>
    rintro σ H9 ⟨w6, w7, w8, w9, w10, w11, w12, w13, rfl, s9⟩
    exact ⟨_, _, _, _, _, _, _, _, _, _, _, _, _, rfl, S8.trans s9⟩
  rintro m v σ H9 hi9 ⟨w6, w7, w8, w9, w10, w11, w12, w13, rfl, s9⟩
  obtain ⟨x, z, c, rfl, gd⟩ : GoodV v := by
    rcases List.mem_append.mp (List.mem_of_getElem? hi9) with h | h
    · exact hts v h
    · exact hts v (List.mem_reverse.mp h)
  have hxl : x.length ≤ sizeLine := Nat.le_of_lt (small1000 (Nat.le_trans gd.len (by decide)))
  refine ⟨rfl, _, rfl, x, z, c, rfl, hxl, gd.rd, fun b dxb ib ob H10 s10 hb hb10 hio => ?_⟩
  have ty : TyX K H10 (.ref b) (.ref C) := .base (.ins hb10 T.cl Pa.ha Pa.hn Pa.hk Pa.hm)
  have hzl : z.length ≤ 100 := Nat.le_trans (show z.length ≤ 10 from by
    have hz := gd.w9
    simp only [words9, List.mem_cons, List.not_mem_nil, or_false] at hz
    rcases hz with rfl | rfl | rfl | rfl | rfl | rfl | rfl | rfl | rfl <;> decide +kernel) (by decide)
  refine ⟨_, rfl, .ref b, .ref C, .ref C, .ref C, true, rfl, .own C, ty, kit_self C, true, rfl, iteF ?_⟩
  refine ⟨_, rfl, .ref b, .ref B, .ref C, .ref B, true, rfl, .own B, ty, kB, true, rfl, iteF ?_⟩
  refine ⟨_, rfl, b, dxb, _, rfl, hb10, b, dxb, z, ib, ob, c, rfl, hb10, hzl, gd.rg, _, rfl, _, rfl, rfl, _, rfl, ne_str gd.eq.symm ?_⟩
  refine ⟨_, rfl, x, z, c, rfl, gd.len, gd.eq, gd.w9, gd.cd, gd.rg, fun r vi vo vp H11 s11 hr11 hr hvi hvo hvp => ?_⟩
  have hb11 := s11 _ _ hb10
  refine ⟨r, _, rfl, .of hr, rfl, _, _, rfl, _, _, rfl, _, _, rfl, _, _, rfl, _, _, rfl, rfl, ?_⟩
  refine ⟨_, rfl, b, C, dxb, _, _, rfl, hb11, T.cl, T.nN, F4_name _ _ _ _, _, rfl, b, C, dxb, _, _, rfl, hb11, T.cl, T.nI, F4_ins _ _ _ _, _, rfl, b, C, dxb, _, _, rfl, hb11, T.cl, T.nO, F4_outs _ _ _ _, _, rfl, b, C, dxb, _, _, rfl, hb11, T.cl, T.nC, F4_const _ _ _ _,
    _, rfl, b, dxb, _, rfl, hb11, b, dxb, z, ib, ob, optV c, rfl, hb11, gd.w9, hio, fun rI H12 s12 hrI dI => ?_⟩
  refine ⟨small1 (by show 5 ≤ 8; decide), fun t1 ht1 => ?_⟩
  obtain ⟨q1', q2', q3', q4'⟩ := told_sh gd.w9 gd.rg
  obtain ⟨ia, oa, rfl, rfl, hia, hoa, _⟩ := hio
  have dpI : Dp K (upd H12 t1 (.tup [.str z, .ref ia, .ref oa, optV c, .ref rI])) (.ref t1) (toldD z c) :=
    .tup (.of upd_same) (.cons (.str z) (.cons (dp_strT (hia _)) (.cons (dp_strT (hoa _)) (.cons (dp_opt c) (.cons (dp_same (upd_new ht1) _ _ dI) .nil)))))
  refine ⟨_, rfl, t1, toldD z c, rfl, dpI, q1', q2', q3', q4', ?_⟩
  refine ⟨_, rfl, _, rfl, _, rfl, _, rfl, _, rfl, _, rfl, _, rfl, small1 (by show 3 ≤ 8; decide), fun t2 ht2 => ⟨small1 (by show 5 ≤ 8; decide), fun t3 ht3 => ?_⟩⟩
  obtain ⟨H14, hH14⟩ : ∃ H14, H14 = upd (upd H12 t1 (.tup [.str z, .ref ia, .ref oa, optV c, .ref rI])) t2 (.tup [vi, vo, vp]) := ⟨_, rfl⟩
  have sA : Same H11 H14 := by rw [hH14]; exact s12.trans ((upd_new ht1).trans (upd_new ht2))
  have gt2 : H14 t2 = some (.tup [vi, vo, vp]) := by rw [hH14]; exact upd_same
  rw [← hH14] at ht3 ⊢
  clear hH14
  obtain ⟨H15, hH15⟩ : ∃ H15, H15 = upd H14 t3 (.tup [.str z, vi, vo, optV c, .ref t2]) := ⟨_, rfl⟩
  have sB : Same H14 H15 := by rw [hH15]; exact upd_new ht3
  have gt3 : H15 t3 = some (.tup [.str z, vi, vo, optV c, .ref t2]) := by rw [hH15]; exact upd_same
  rw [← hH15]
  clear hH15
  have sAB : Same H11 H15 := sA.trans sB
  have dvi : Dp K H15 vi (strD (insOf z)) := dp_same sAB _ _ hvi
  have dvo : Dp K H15 vo (strD (outsOf z)) := dp_same sAB _ _ hvo
  have dvp : Dp K H15 vp (profD z) := dp_same sAB _ _ hvp
  have dT : Dp K H15 (.ref t2) (ifD z) := .tup (.of (sB _ _ gt2)) (.cons dvi (.cons dvo (.cons dvp .nil)))
  have dD : Dp K H15 (.ref t3) (toldD z c) := .tup (.of gt3) (.cons (.str z) (.cons dvi (.cons dvo (.cons (dp_opt c) (.cons dT .nil)))))
  clear dvi dvo dvp dT
  generalize toldD z c = dd at *
  refine ⟨t3, dd, rfl, dD, q1', q2', q3', q4', rfl, _, rfl, ne_str rfl ?_⟩
  exact ⟨_, _, _, _, _, _, _, _, rfl, s9.trans (s10.trans (s11.trans sAB))⟩
end
end K1
namespace K1
open PySem L2 Own StX ClX NdefX
theorem all_mk {w : World} {K : PySem.W.Frag} {h : Heap} {mg : Str → Option Value} {fa C B : Addr} (X : K.In h) (G : h.Ns mainGlobals mg) (hfa : mg "law" = some (.ref fa))
    {fRV : Addr} {odRV anRV : Option Addr} {slRV : Array (Option Value)} {ocRV kVRV dcRV pmRV cdRV ctRV : Value} {fRP : Addr} {odRP anRP : Option Addr} {slRP : Array (Option Value)} {ocRP kVRP dcRP pmRP cdRP ctRP : Value} {fBI : Addr} {odBI anBI : Option Addr} {slBI : Array (Option Value)} {ocBI kVBI dcBI pmBI cdBI ctBI : Value} {fPA : Addr} {odPA anPA : Option Addr} {slPA : Array (Option Value)} {ocPA kVPA dcPA pmPA cdPA ctPA : Value} {pPA : Addr} {restPA : List Value} {fST : Addr} {odST anST : Option Addr} {slST : Array (Option Value)} {ocST kVST dcST pmST cdST ctST : Value} {fPI cc cda : Addr} {odPI anPI cldPI cddPI : Option Addr} {slPI cslPI ccsPI : Array (Option Value)} {ocPI dcPI pmPI ctPI clPI cclPI : Value} {vsPI : Array Value} {tfPI : Tok} {cdD : ClassData} {tkM tkD tkW : Tok} {dP dW : Addr} {esP : Array DictEntry} {nP nW : Nat} {ddW : Option Addr} {slW : Array (Option Value)} {tW1 tW2 : Tok} {kk1 : Tok} {kk2 : Tok} {kk3 : Tok} {kk4 : Tok} {kk5 : Tok} {kk6 : Tok} {kk7 : Tok} {kk8 : Tok} {kk9 : Tok} {t1 x1 y1 : Addr} {m1 mx1 my1 : Nat} {dd1 dx1 dy1 : Option Addr} {s1 sx1 sy1 : Array (Option Value)} {ty1_0 : Tok} {t2 x2 y2 : Addr} {m2 mx2 my2 : Nat} {dd2 dx2 dy2 : Option Addr} {s2 sx2 sy2 : Array (Option Value)} {tx2_0 : Tok} {tx2_1 : Tok}{ty2_0 : Tok} {t3 x3 y3 : Addr} {m3 mx3 my3 : Nat} {dd3 dx3 dy3 : Option Addr} {s3 sx3 sy3 : Array (Option Value)} {tx3_0 : Tok} {tx3_1 : Tok}{ty3_0 : Tok} {t4 x4 y4 : Addr} {m4 mx4 my4 : Nat} {dd4 dx4 dy4 : Option Addr} {s4 sx4 sy4 : Array (Option Value)} {tx4_0 : Tok} {tx4_1 : Tok}{ty4_0 : Tok} {t5 x5 y5 : Addr} {m5 mx5 my5 : Nat} {dd5 dx5 dy5 : Option Addr} {s5 sx5 sy5 : Array (Option Value)} {tx5_0 : Tok} {tx5_1 : Tok}{ty5_0 : Tok} {t6 x6 y6 : Addr} {m6 mx6 my6 : Nat} {dd6 dx6 dy6 : Option Addr} {s6 sx6 sy6 : Array (Option Value)} {tx6_0 : Tok} {tx6_1 : Tok}{ty6_0 : Tok} {t7 x7 y7 : Addr} {m7 mx7 my7 : Nat} {dd7 dx7 dy7 : Option Addr} {s7 sx7 sy7 : Array (Option Value)} {tx7_0 : Tok} {tx7_1 : Tok} {tx7_2 : Tok}{ty7_0 : Tok} {t8 x8 y8 : Addr} {m8 mx8 my8 : Nat} {dd8 dx8 dy8 : Option Addr} {s8 sx8 sy8 : Array (Option Value)} {tx8_0 : Tok} {tx8_1 : Tok}{ty8_0 : Tok} {ty8_1 : Tok} {t9 x9 y9 : Addr} {m9 mx9 my9 : Nat} {dd9 dx9 dy9 : Option Addr} {s9 sx9 sy9 : Array (Option Value)} {tx9_0 : Tok}{ty9_0 : Tok} {fFE : Addr} {odFE anFE : Option Addr} {slFE : Array (Option Value)} {ocFE kVFE dcFE pmFE cdFE ctFE : Value} {fTK : Addr} {odTK anTK : Option Addr} {slTK : Array (Option Value)} {ocTK kVTK dcTK pmTK cdTK ctTK : Value} {fDU : Addr} {odDU anDU : Option Addr} {slDU : Array (Option Value)} {ocDU kVDU dcDU pmDU cdDU ctDU : Value} {fLA : Addr} {odLA anLA : Option Addr} {slLA : Array (Option Value)} {ocLA kVLA dcLA pmLA cdLA ctLA : Value} {restIF : List Value} {fIF : Addr} {odIF anIF : Option Addr} {slIF : Array (Option Value)} {ocIF kVIF dcIF pmIF cdIF ctIF : Value} {pIF : Addr} {cdB : ClassData}
    (aC : PySem.W.nsIn K mainGlobals "Primitive" = some (some (.ref C)))
    (aB : PySem.W.nsIn K mainGlobals "Block" = some (some (.ref B)))
    (aRV : PySem.W.nsIn K mainGlobals "read_value" = some (some (.ref fRV)))
    (lRV : K.lookup fRV = some ⟨ocRV, odRV, .func (PySem.W.fnOf "read_value" "read_value" (defArgs sRV) (defBody sRV) (defScope sRV) .none kVRV dcRV pmRV anRV cdRV ctRV), slRV⟩)
    (cRV : PySem.W.codeIn K cdRV "read_value" = true)
    (kRV : PySem.W.keepIn K (.ref fRV) = true)
    (aRP : PySem.W.nsIn K mainGlobals "read_primitive" = some (some (.ref fRP)))
    (lRP : K.lookup fRP = some ⟨ocRP, odRP, .func (PySem.W.fnOf "read_primitive" "read_primitive" (defArgs sRP) (defBody sRP) (defScope sRP) .none kVRP dcRP pmRP anRP cdRP ctRP), slRP⟩)
    (cRP : PySem.W.codeIn K cdRP "read_primitive" = true)
    (kRP : PySem.W.keepIn K (.ref fRP) = true)
    (aBI : PySem.W.findIn K (.ref B) "__init__" = some (some (.ref fBI)))
    (iBI : PySem.W.isFn K (.ref fBI) = true)
    (lBI : K.lookup fBI = some ⟨ocBI, odBI, .func (PySem.W.fnOf "__init__" "Block.__init__" (defArgs sBI) (defBody sBI) (defScope sBI) .none kVBI dcBI pmBI anBI cdBI ctBI), slBI⟩)
    (cBI : PySem.W.codeIn K cdBI "Block.__init__" = true)
    (kBI : PySem.W.keepIn K (.ref fBI) = true)
    (aPA : PySem.W.findCls K (.ref C) (.type "type") "parse" = some (.get (.builtin "classmethod.__get__") (.ref pPA) .none (.ref C)))
    (rPA : PySem.W.recIn K pPA "classmethod" = some (.ref fPA :: restPA))
    (iPA : PySem.W.fnIn K fPA = true)
    (lPA : K.lookup fPA = some ⟨ocPA, odPA, .func (PySem.W.fnOf "parse" "Primitive.parse" (defArgs sParse) (defBody sParse) (defScope sParse) .none kVPA dcPA pmPA anPA cdPA ctPA), slPA⟩)
    (cPA : PySem.W.codeIn K cdPA "Primitive.parse" = true)
    (kPA : PySem.W.keepIn K (.ref fPA) = true)
    (aST : PySem.W.findIn K (.ref C) "__str__" = some (some (.ref fST)))
    (iST : PySem.W.isFn K (.ref fST) = true)
    (lST : K.lookup fST = some ⟨ocST, odST, .func (PySem.W.fnOf "__str__" "Primitive.__str__" (defArgs sStr) (defBody sStr) (defScope sStr) .none kVST dcST pmST anST cdST ctST), slST⟩)
    (cST : PySem.W.codeIn K cdST "Primitive.__str__" = true)
    (kST : PySem.W.keepIn K (.ref fST) = true)
    (aPI : PySem.W.findIn K (.ref C) "__init__" = some (some (.ref fPI)))
    (iPI : PySem.W.isFn K (.ref fPI) = true)
    (lPI : K.lookup fPI = some ⟨ocPI, odPI, .func (PySem.W.fnX "__init__" "Primitive.__init__" (defArgs sPI) (defBody sPI) (defScope sPI) [(("__class__" : Str), cc)] .none .none dcPI pmPI anPI (.ref cda) ctPI), slPI⟩)
    (cPI : PySem.W.codeIn K (.ref cda) "Primitive.__init__" = true)
    (lcd : K.lookup cda = some ⟨cclPI, cddPI, .fields vsPI, ccsPI⟩)
    (vcd : vsPI[2]? = some (.str PySem.Challenge.pw_stepblocks_k01_primitives.main.file tfPI))
    (lcc : K.lookup cc = some ⟨clPI, cldPI, .cell (some (.ref C)), cslPI⟩)
    (tpa : PySem.W.nsIn K PySem.cStatics "thirdparty.any" = some none)
    (sbs : PySem.W.mroIn K C (.ref C) = some true)
    (sat : PySem.W.ks_superIn K C C "__init__" = some (some (.ref fBI)))
    (sty : PySem.W.typeIn K (.ref fBI) = some (.type "function"))
    (sdc : PySem.W.clsIn K C = some cdD)
    (sfi : PySem.W.fnIn K fBI = true)
    (pg : PySem.W.plainGet K C Str.empty = true)
    (hd : PySem.W.hasDictIn K C = true)
    (po : PySem.W.plainOver K C = true)
    (sa : PySem.W.findIn K (.ref C) "__setattr__" = some (some (.builtin "object.__setattr__")))
    (mk : PySem.W.makesIn K C = true)
    (kc : PySem.W.keepIn K (.ref C) = true)
    (rdC : PySem.W.readsIn K C (.type "type") = true)
    (gaC : PySem.W.specialIn K (.ref C) "__getattribute__" = some (some (.builtin "type.__getattribute__")))
    (nN : PySem.W.findIn K (.ref C) "name" = some none)
    (nI : PySem.W.findIn K (.ref C) "inputs" = some none)
    (nO : PySem.W.findIn K (.ref C) "outputs" = some none)
    (nK : PySem.W.findIn K (.ref C) "constant" = some none)
    (aMo : PySem.W.nsIn K mainGlobals "MODULUS" = some (some (.int 4294967296 tkM)))
    (aMd : PySem.W.nsIn K mainGlobals "MOST_DIGITS" = some (some (.int 10 tkD)))
    (aDg : PySem.W.nsIn K mainGlobals "DIGITS" = some (some (.str "0123456789" tkW)))
    (aP : PySem.W.nsIn K mainGlobals "PRIMITIVE_PORTS" = some (some (.ref dP)))
    (lP : K.lookup dP = some ⟨.type "dict", none, .dict esP nP, #[]⟩)
    (qP : PySem.W.KeysLit w.params esP.toList)
    (oP : (dP == sysModules) = false)
    (kP : esP.toList.map (·.key) = [.str "const" kk1, .str "add" kk2, .str "sub" kk3, .str "mul" kk4, .str "less" kk5, .str "equal" kk6, .str "pick" kk7, .str "divide" kk8, .str "delay" kk9])
    (aW : PySem.W.nsIn K mainGlobals "WORDS_WITH_VALUE" = some (some (.ref dW)))
    (lW : K.lookup dW = some ⟨.type "tuple", ddW, .seq #[.str "const" tW1, .str "delay" tW2] nW, slW⟩)
    (u1 : PySem.W.nsIn K dP "const" = some (some (.ref t1)))
    (v1 : K.lookup t1 = some ⟨.type "tuple", dd1, .seq #[.ref x1, .ref y1] m1, s1⟩)
    (vx1 : K.lookup x1 = some ⟨.type "tuple", dx1, .seq #[] mx1, sx1⟩)
    (vy1 : K.lookup y1 = some ⟨.type "tuple", dy1, .seq #[.str "out" ty1_0] my1, sy1⟩)
    (vz1 : ¬ (x1 = y1))
    (u2 : PySem.W.nsIn K dP "add" = some (some (.ref t2)))
    (v2 : K.lookup t2 = some ⟨.type "tuple", dd2, .seq #[.ref x2, .ref y2] m2, s2⟩)
    (vx2 : K.lookup x2 = some ⟨.type "tuple", dx2, .seq #[.str "a" tx2_0, .str "b" tx2_1] mx2, sx2⟩)
    (vy2 : K.lookup y2 = some ⟨.type "tuple", dy2, .seq #[.str "out" ty2_0] my2, sy2⟩)
    (vz2 : ¬ (x2 = y2))
    (u3 : PySem.W.nsIn K dP "sub" = some (some (.ref t3)))
    (v3 : K.lookup t3 = some ⟨.type "tuple", dd3, .seq #[.ref x3, .ref y3] m3, s3⟩)
    (vx3 : K.lookup x3 = some ⟨.type "tuple", dx3, .seq #[.str "a" tx3_0, .str "b" tx3_1] mx3, sx3⟩)
    (vy3 : K.lookup y3 = some ⟨.type "tuple", dy3, .seq #[.str "out" ty3_0] my3, sy3⟩)
    (vz3 : ¬ (x3 = y3))
    (u4 : PySem.W.nsIn K dP "mul" = some (some (.ref t4)))
    (v4 : K.lookup t4 = some ⟨.type "tuple", dd4, .seq #[.ref x4, .ref y4] m4, s4⟩)
    (vx4 : K.lookup x4 = some ⟨.type "tuple", dx4, .seq #[.str "a" tx4_0, .str "b" tx4_1] mx4, sx4⟩)
    (vy4 : K.lookup y4 = some ⟨.type "tuple", dy4, .seq #[.str "out" ty4_0] my4, sy4⟩)
    (vz4 : ¬ (x4 = y4))
    (u5 : PySem.W.nsIn K dP "less" = some (some (.ref t5)))
    (v5 : K.lookup t5 = some ⟨.type "tuple", dd5, .seq #[.ref x5, .ref y5] m5, s5⟩)
    (vx5 : K.lookup x5 = some ⟨.type "tuple", dx5, .seq #[.str "a" tx5_0, .str "b" tx5_1] mx5, sx5⟩)
    (vy5 : K.lookup y5 = some ⟨.type "tuple", dy5, .seq #[.str "out" ty5_0] my5, sy5⟩)
    (vz5 : ¬ (x5 = y5))
    (u6 : PySem.W.nsIn K dP "equal" = some (some (.ref t6)))
    (v6 : K.lookup t6 = some ⟨.type "tuple", dd6, .seq #[.ref x6, .ref y6] m6, s6⟩)
    (vx6 : K.lookup x6 = some ⟨.type "tuple", dx6, .seq #[.str "a" tx6_0, .str "b" tx6_1] mx6, sx6⟩)
    (vy6 : K.lookup y6 = some ⟨.type "tuple", dy6, .seq #[.str "out" ty6_0] my6, sy6⟩)
    (vz6 : ¬ (x6 = y6))
    (u7 : PySem.W.nsIn K dP "pick" = some (some (.ref t7)))
    (v7 : K.lookup t7 = some ⟨.type "tuple", dd7, .seq #[.ref x7, .ref y7] m7, s7⟩)
    (vx7 : K.lookup x7 = some ⟨.type "tuple", dx7, .seq #[.str "c" tx7_0, .str "a" tx7_1, .str "b" tx7_2] mx7, sx7⟩)
    (vy7 : K.lookup y7 = some ⟨.type "tuple", dy7, .seq #[.str "out" ty7_0] my7, sy7⟩)
    (vz7 : ¬ (x7 = y7))
    (u8 : PySem.W.nsIn K dP "divide" = some (some (.ref t8)))
    (v8 : K.lookup t8 = some ⟨.type "tuple", dd8, .seq #[.ref x8, .ref y8] m8, s8⟩)
    (vx8 : K.lookup x8 = some ⟨.type "tuple", dx8, .seq #[.str "a" tx8_0, .str "b" tx8_1] mx8, sx8⟩)
    (vy8 : K.lookup y8 = some ⟨.type "tuple", dy8, .seq #[.str "quotient" ty8_0, .str "rest" ty8_1] my8, sy8⟩)
    (vz8 : ¬ (x8 = y8))
    (u9 : PySem.W.nsIn K dP "delay" = some (some (.ref t9)))
    (v9 : K.lookup t9 = some ⟨.type "tuple", dd9, .seq #[.ref x9, .ref y9] m9, s9⟩)
    (vx9 : K.lookup x9 = some ⟨.type "tuple", dx9, .seq #[.str "in" tx9_0] mx9, sx9⟩)
    (vy9 : K.lookup y9 = some ⟨.type "tuple", dy9, .seq #[.str "out" ty9_0] my9, sy9⟩)
    (vz9 : ¬ (x9 = y9))
    (zsuper : PySem.W.nsIn K mainGlobals "super" = some none)
    (zlen : PySem.W.nsIn K mainGlobals "len" = some none)
    (zall : PySem.W.nsIn K mainGlobals "all" = some none)
    (zint : PySem.W.nsIn K mainGlobals "int" = some none)
    (zstr : PySem.W.nsIn K mainGlobals "str" = some none)
    (aFE : PySem.W.nsIn K mainGlobals "_law_feed" = some (some (.ref fFE)))
    (lFE : K.lookup fFE = some ⟨ocFE, odFE, .func (PySem.W.fnOf "_law_feed" "_law_feed" (defArgs sFeed) (defBody sFeed) (defScope sFeed) .none kVFE dcFE pmFE anFE cdFE ctFE), slFE⟩)
    (cFE : PySem.W.codeIn K cdFE "_law_feed" = true)
    (kFE : PySem.W.keepIn K (.ref fFE) = true)
    (aTK : PySem.W.nsIn K mainGlobals "_law_take" = some (some (.ref fTK)))
    (lTK : K.lookup fTK = some ⟨ocTK, odTK, .func (PySem.W.fnOf "_law_take" "_law_take" (defArgs sTake) (defBody sTake) (defScope sTake) .none kVTK dcTK pmTK anTK cdTK ctTK), slTK⟩)
    (cTK : PySem.W.codeIn K cdTK "_law_take" = true)
    (kTK : PySem.W.keepIn K (.ref fTK) = true)
    (aDU : PySem.W.nsIn K mainGlobals "_law_due" = some (some (.ref fDU)))
    (lDU : K.lookup fDU = some ⟨ocDU, odDU, .func (PySem.W.fnOf "_law_due" "_law_due" (defArgs sDue) (defBody sDue) (defScope sDue) .none kVDU dcDU pmDU anDU cdDU ctDU), slDU⟩)
    (cDU : PySem.W.codeIn K cdDU "_law_due" = true)
    (kDU : PySem.W.keepIn K (.ref fDU) = true)
    (aLA : PySem.W.nsIn K mainGlobals "law" = some (some (.ref fLA)))
    (lLA : K.lookup fLA = some ⟨ocLA, odLA, .func (PySem.W.fnOf "law" "law" (defArgs sLaw) (defBody sLaw) (defScope sLaw) .none kVLA dcLA pmLA anLA cdLA ctLA), slLA⟩)
    (cLA : PySem.W.codeIn K cdLA "law" = true)
    (kLA : PySem.W.keepIn K (.ref fLA) = true)
    (aIF : PySem.W.findIn K (.ref C) "interface" = some (some (.ref pIF)))
    (gIF : PySem.W.specialIn K (.ref pIF) "__get__" = some (some (.builtin "property.__get__")))
    (tIF : PySem.W.takesIn K (.ref pIF) = some true)
    (rIF : PySem.W.recIn K pIF "property" = some (.ref fIF :: restIF))
    (lIF : K.lookup fIF = some ⟨ocIF, odIF, .func (PySem.W.fnOf "interface" "Primitive.interface" (defArgs sIf) (defBody sIf) (defScope sIf) .none kVIF dcIF pmIF anIF cdIF ctIF), slIF⟩)
    (cIF : PySem.W.codeIn K cdIF "Primitive.interface" = true)
    (kIF : PySem.W.keepIn K (.ref fIF) = true)
    (oha : PySem.W.findIn K (.ref C) "__class__" = some (some (.builtin "object.__class__")))
    (ohn : PySem.W.specialIn K (.builtin "object.__class__") "__get__" = some (some (.builtin "getset_descriptor.__get__")))
    (ohk : PySem.W.takesIn K (.builtin "object.__class__") = some true)
    (ohm : PySem.W.mroIn K C (.type "object") = some true)
    (bcl : PySem.W.clsIn K B = some cdB)
    (bty : PySem.W.typeIn K (.ref B) = some (.type "type"))
    (bsu : PySem.W.subIn K (.ref C) (.ref B) = some true)
    (bne : ¬ (C = B))
    (zmax : PySem.W.nsIn K mainGlobals "max" = some none)
    (zmin : PySem.W.nsIn K mainGlobals "min" = some none)
    (zabs : PySem.W.nsIn K mainGlobals "abs" = some none)
    (zrange : PySem.W.nsIn K mainGlobals "range" = some none)
    (zrepr : PySem.W.nsIn K mainGlobals "repr" = some none)
    (zisinstance : PySem.W.nsIn K mainGlobals "isinstance" = some none) :
    ∃ fd : FuncData, (∀ (s : Shared) (v : Value), BindsTo s fd ⟨[v], []⟩ [("script", v)]) ∧ ∀ base : Heap, K.In base → base.Ns mainGlobals mg → FnG PySem.Challenge.pw_stepblocks_k01_primitives w K mg base CX0 5 fa fd ["script"] (spLaw K) := by
  have e := hfa.symm.trans (PySem.W.mg_of X G aLA)
  cases e
  have c : Cls K C := ⟨pg, hd, po, sa⟩
  have pair : ∀ {t x y : Addr} {m : Nat} {dd : Option Addr} {s : Array (Option Value)}, K.lookup t = some ⟨.type "tuple", dd, .seq #[.ref x, .ref y] m, s⟩ → ∀ H, SqT K H t [.ref x, .ref y] := fun l H =>
    .inr ⟨_, _, _, l, rfl, rfl, (by decide +kernel : 2 ≤ sizeLine), .cons rfl (.cons rfl .nil)⟩
  have D : KDict K w dP esP nP := ⟨lP, qP, oP⟩
  have po1 : PortsOk K "const" (.ref x1) (.ref y1) := by
    refine ⟨x1, y1, rfl, rfl, ?_, ?_, vz1⟩
    · rw [show insOf "const" = ([] : List Str) by decide +kernel]
      exact fun H => .inr ⟨_, _, _, vx1, rfl, rfl, (by decide +kernel : 0 ≤ sizeLine), .nil⟩
    · rw [show outsOf "const" = (["out"] : List Str) by decide +kernel]
      exact fun H => .inr ⟨_, _, _, vy1, rfl, rfl, (by decide +kernel : 1 ≤ sizeLine), (.cons ⟨_, rfl⟩ .nil)⟩
  have po2 : PortsOk K "add" (.ref x2) (.ref y2) := by
    refine ⟨x2, y2, rfl, rfl, ?_, ?_, vz2⟩
    · rw [show insOf "add" = (["a", "b"] : List Str) by decide +kernel]
      exact fun H => .inr ⟨_, _, _, vx2, rfl, rfl, (by decide +kernel : 2 ≤ sizeLine), (.cons ⟨_, rfl⟩ (.cons ⟨_, rfl⟩ .nil))⟩
    · rw [show outsOf "add" = (["out"] : List Str) by decide +kernel]
      exact fun H => .inr ⟨_, _, _, vy2, rfl, rfl, (by decide +kernel : 1 ≤ sizeLine), (.cons ⟨_, rfl⟩ .nil)⟩
  have po3 : PortsOk K "sub" (.ref x3) (.ref y3) := by
    refine ⟨x3, y3, rfl, rfl, ?_, ?_, vz3⟩
    · rw [show insOf "sub" = (["a", "b"] : List Str) by decide +kernel]
      exact fun H => .inr ⟨_, _, _, vx3, rfl, rfl, (by decide +kernel : 2 ≤ sizeLine), (.cons ⟨_, rfl⟩ (.cons ⟨_, rfl⟩ .nil))⟩
    · rw [show outsOf "sub" = (["out"] : List Str) by decide +kernel]
      exact fun H => .inr ⟨_, _, _, vy3, rfl, rfl, (by decide +kernel : 1 ≤ sizeLine), (.cons ⟨_, rfl⟩ .nil)⟩
  have po4 : PortsOk K "mul" (.ref x4) (.ref y4) := by
    refine ⟨x4, y4, rfl, rfl, ?_, ?_, vz4⟩
    · rw [show insOf "mul" = (["a", "b"] : List Str) by decide +kernel]
      exact fun H => .inr ⟨_, _, _, vx4, rfl, rfl, (by decide +kernel : 2 ≤ sizeLine), (.cons ⟨_, rfl⟩ (.cons ⟨_, rfl⟩ .nil))⟩
    · rw [show outsOf "mul" = (["out"] : List Str) by decide +kernel]
      exact fun H => .inr ⟨_, _, _, vy4, rfl, rfl, (by decide +kernel : 1 ≤ sizeLine), (.cons ⟨_, rfl⟩ .nil)⟩
  have po5 : PortsOk K "less" (.ref x5) (.ref y5) := by
    refine ⟨x5, y5, rfl, rfl, ?_, ?_, vz5⟩
    · rw [show insOf "less" = (["a", "b"] : List Str) by decide +kernel]
      exact fun H => .inr ⟨_, _, _, vx5, rfl, rfl, (by decide +kernel : 2 ≤ sizeLine), (.cons ⟨_, rfl⟩ (.cons ⟨_, rfl⟩ .nil))⟩
    · rw [show outsOf "less" = (["out"] : List Str) by decide +kernel]
      exact fun H => .inr ⟨_, _, _, vy5, rfl, rfl, (by decide +kernel : 1 ≤ sizeLine), (.cons ⟨_, rfl⟩ .nil)⟩
  have po6 : PortsOk K "equal" (.ref x6) (.ref y6) := by
    refine ⟨x6, y6, rfl, rfl, ?_, ?_, vz6⟩
    · rw [show insOf "equal" = (["a", "b"] : List Str) by decide +kernel]
      exact fun H => .inr ⟨_, _, _, vx6, rfl, rfl, (by decide +kernel : 2 ≤ sizeLine), (.cons ⟨_, rfl⟩ (.cons ⟨_, rfl⟩ .nil))⟩
    · rw [show outsOf "equal" = (["out"] : List Str) by decide +kernel]
      exact fun H => .inr ⟨_, _, _, vy6, rfl, rfl, (by decide +kernel : 1 ≤ sizeLine), (.cons ⟨_, rfl⟩ .nil)⟩
  have po7 : PortsOk K "pick" (.ref x7) (.ref y7) := by
    refine ⟨x7, y7, rfl, rfl, ?_, ?_, vz7⟩
    · rw [show insOf "pick" = (["c", "a", "b"] : List Str) by decide +kernel]
      exact fun H => .inr ⟨_, _, _, vx7, rfl, rfl, (by decide +kernel : 3 ≤ sizeLine), (.cons ⟨_, rfl⟩ (.cons ⟨_, rfl⟩ (.cons ⟨_, rfl⟩ .nil)))⟩
    · rw [show outsOf "pick" = (["out"] : List Str) by decide +kernel]
      exact fun H => .inr ⟨_, _, _, vy7, rfl, rfl, (by decide +kernel : 1 ≤ sizeLine), (.cons ⟨_, rfl⟩ .nil)⟩
  have po8 : PortsOk K "divide" (.ref x8) (.ref y8) := by
    refine ⟨x8, y8, rfl, rfl, ?_, ?_, vz8⟩
    · rw [show insOf "divide" = (["a", "b"] : List Str) by decide +kernel]
      exact fun H => .inr ⟨_, _, _, vx8, rfl, rfl, (by decide +kernel : 2 ≤ sizeLine), (.cons ⟨_, rfl⟩ (.cons ⟨_, rfl⟩ .nil))⟩
    · rw [show outsOf "divide" = (["quotient", "rest"] : List Str) by decide +kernel]
      exact fun H => .inr ⟨_, _, _, vy8, rfl, rfl, (by decide +kernel : 2 ≤ sizeLine), (.cons ⟨_, rfl⟩ (.cons ⟨_, rfl⟩ .nil))⟩
  have po9 : PortsOk K "delay" (.ref x9) (.ref y9) := by
    refine ⟨x9, y9, rfl, rfl, ?_, ?_, vz9⟩
    · rw [show insOf "delay" = (["in"] : List Str) by decide +kernel]
      exact fun H => .inr ⟨_, _, _, vx9, rfl, rfl, (by decide +kernel : 1 ≤ sizeLine), (.cons ⟨_, rfl⟩ .nil)⟩
    · rw [show outsOf "delay" = (["out"] : List Str) by decide +kernel]
      exact fun H => .inr ⟨_, _, _, vy9, rfl, rfl, (by decide +kernel : 1 ≤ sizeLine), (.cons ⟨_, rfl⟩ .nil)⟩
  have keysP : ∀ e ∈ esP.toList, ∃ x t, e.key = .str x t ∧ x ∈ words9 := fun e he => by
    have z : e.key ∈ esP.toList.map (·.key) := List.mem_map_of_mem he
    rw [kP] at z
    simp only [List.mem_cons, List.not_mem_nil, or_false] at z
    rcases z with z | z | z | z | z | z | z | z | z <;> exact ⟨_, _, z, by decide +kernel⟩
  have T : Txt K w mg C := by
    refine ⟨c, nN, nI, nO, nK, PySem.W.mg_of X G aC, ⟨dP, esP, nP, PySem.W.mg_of X G aP, D, fun z hz => ?_, fun z hz => miss_of lP keysP hz⟩,
      ⟨dW, PySem.W.mg_of X G aW, fun H => .inr ⟨_, _, _, lW, rfl, rfl, (by decide +kernel : 2 ≤ sizeLine), .cons ⟨_, rfl⟩ (.cons ⟨_, rfl⟩ .nil)⟩⟩, PySem.W.mg_none_of X G zsuper, ⟨_, PySem.W.mg_of X G aDg⟩, ⟨_, PySem.W.mg_of X G aMd⟩, ⟨_, PySem.W.mg_of X G aMo⟩,
      PySem.W.mg_none_of X G zlen, PySem.W.mg_none_of X G zall, PySem.W.mg_none_of X G zint, PySem.W.mg_none_of X G zstr⟩
    simp only [words9, List.mem_cons, List.not_mem_nil, or_false] at hz
    rcases hz with rfl | rfl | rfl | rfl | rfl | rfl | rfl | rfl | rfl
    · exact ⟨_, t1, .ref x1, .ref y1, u1, rfl, pair v1, po1⟩
    · exact ⟨_, t2, .ref x2, .ref y2, u2, rfl, pair v2, po2⟩
    · exact ⟨_, t3, .ref x3, .ref y3, u3, rfl, pair v3, po3⟩
    · exact ⟨_, t4, .ref x4, .ref y4, u4, rfl, pair v4, po4⟩
    · exact ⟨_, t5, .ref x5, .ref y5, u5, rfl, pair v5, po5⟩
    · exact ⟨_, t6, .ref x6, .ref y6, u6, rfl, pair v6, po6⟩
    · exact ⟨_, t7, .ref x7, .ref y7, u7, rfl, pair v7, po7⟩
    · exact ⟨_, t8, .ref x8, .ref y8, u8, rfl, pair v8, po8⟩
    · exact ⟨_, t9, .ref x9, .ref y9, u9, rfl, pair v9, po9⟩
  have FRV := fun_mk (st := sRV) lRV cRV kRV
  have bRV := FRV.binds (ps := ["text"]) fun _ _ _ _ _ _ us hl => match us, hl with | [_], _ => rfl
  have FRP := fun_mk (st := sRP) lRP cRP kRP
  have bRP := FRP.binds (ps := ["text"]) fun _ _ _ _ _ _ us hl => match us, hl with | [_], _ => rfl
  have FBI := fun_mk (st := sBI) lBI cBI kBI
  have bBI := FBI.binds (ps := ["self", "name", "inputs", "outputs"]) fun _ _ _ _ _ _ us hl => match us, hl with | [_, _, _, _], _ => rfl
  have FPA := fun_mk (st := sParse) lPA cPA kPA
  have bPA := FPA.binds (ps := ["cls", "text"]) fun _ _ _ _ _ _ us hl => match us, hl with | [_, _], _ => rfl
  have FST := fun_mk (st := sStr) lST cST kST
  have bST := FST.binds (ps := ["self"]) fun _ _ _ _ _ _ us hl => match us, hl with | [_], _ => rfl
  have FFE := fun_mk (st := sFeed) lFE cFE kFE
  have bFE := FFE.binds (ps := ["script", "k"]) fun _ _ _ _ _ _ us hl => match us, hl with | [_, _], _ => rfl
  have FTK := fun_mk (st := sTake) lTK cTK kTK
  have bTK := FTK.binds (ps := ["feed", "many"]) fun _ _ _ _ _ _ us hl => match us, hl with | [_, _], _ => rfl
  have FDU := fun_mk (st := sDue) lDU cDU kDU
  have bDU := FDU.binds (ps := ["text"]) fun _ _ _ _ _ _ us hl => match us, hl with | [_], _ => rfl
  have FLA := fun_mk (st := sLaw) lLA cLA kLA
  have bLA := FLA.binds (ps := ["script"]) fun _ _ _ _ _ _ us hl => match us, hl with | [_], _ => rfl
  have FIF := fun_mk (st := sIf) lIF cIF kIF
  have bIF := FIF.binds (ps := ["self"]) fun _ _ _ _ _ _ us hl => match us, hl with | [_], _ => rfl
  refine ⟨PySem.W.fnOf "law" "law" (defArgs sLaw) (defBody sLaw) (defScope sLaw) .none kVLA dcLA pmLA anLA cdLA ctLA, fun s v => .of_eq rfl, fun base _ _ => ?_⟩
  have PI : PIn K PySem.Challenge.pw_stepblocks_k01_primitives C fPI cc cda fBI := ⟨⟨_, _, _, _, _, _, _, lPI, ⟨_, _, _, lPI⟩, ⟨_, rfl, rfl⟩, ⟨_, _, _, _, _, _, lcd, vcd, beq_self_eq_true _⟩, ⟨_, _, _, lcc⟩, by decide +kernel, tpa⟩, cPI, ⟨sbs, sat, sty, ⟨_, sdc⟩, sfi⟩⟩
  have GB : FnOk PySem.Challenge.pw_stepblocks_k01_primitives w K mg base CX0 1 fBI _ ["self", "name", "inputs", "outputs"] (spBI K) := ok_bi FBI
  have GI := ok_pi PI T GB bBI
  have GRV : FnOk PySem.Challenge.pw_stepblocks_k01_primitives w K mg base CX0 1 fRV _ ["text"] spRV := ok_rv FRV T
  have GRP : FnOk PySem.Challenge.pw_stepblocks_k01_primitives w K mg base CX0 2 fRP _ ["text"] spRP := ok_rp FRP T GRV (PySem.W.mg_of X G aRV) kRV bRV
  have GPA : FnOk PySem.Challenge.pw_stepblocks_k01_primitives w K mg base CX0 4 fPA _ ["cls", "text"] (spParse K C) := ok_parse FPA T GRP (PySem.W.mg_of X G aRP) kRP bRP ⟨mk, aPI, iPI, kc⟩ GI
  have GST : FnOk PySem.Challenge.pw_stepblocks_k01_primitives w K mg base CX0 1 fST _ ["self"] (spStr C) := ok_str FST T
  have raw : ∀ {k : Nat} {f : Addr} {fd : FuncData} {ps : List Str} {sp : Sp}, FnOk PySem.Challenge.pw_stepblocks_k01_primitives w K mg base CX0 k f fd ps sp → Binds K fd ps [] → FnR PySem.Challenge.pw_stepblocks_k01_primitives w K mg base CX0 k f sp := fun g b => by
    have z := g.raw b .nil
    simpa only [List.append_nil] using z
  have GFE : FnOk PySem.Challenge.pw_stepblocks_k01_primitives w K mg base CX0 1 fFE _ ["script", "k"] (spFeed K) := ok_feed FFE (PySem.W.mg_none_of X G zlen) (PySem.W.mg_none_of X G zmax) (PySem.W.mg_none_of X G zabs)
  have GTK : FnOk PySem.Challenge.pw_stepblocks_k01_primitives w K mg base CX0 1 fTK _ ["feed", "many"] spTake := ok_take FTK
  have GIF : FnOk PySem.Challenge.pw_stepblocks_k01_primitives w K mg base CX0 1 fIF _ ["self"] (spIf K C) := ok_if FIF T
  have GDU : FnOk PySem.Challenge.pw_stepblocks_k01_primitives w K mg base CX0 1 fDU _ ["text"] (spDue K) := ok_due FDU T
  have kB : PySem.W.kitOne K (.ref C) (.ref B) = some true := by
    unfold PySem.W.kitOne
    have hb : ((Value.ref C) == (Value.ref B)) = false := by
      cases e : ((Value.ref C) == (Value.ref B)) with
      | false => rfl
      | true => exact absurd (Value.ref.inj (eq_of_beq e)) bne
    rw [hb, if_neg Bool.false_ne_true]
    unfold PySem.W.kitCls
    dsimp only
    rw [bcl, bty, if_pos (by rfl)]
    exact bsu
  have Pa : Par PySem.Challenge.pw_stepblocks_k01_primitives w K mg base C := ⟨⟨.type "type", pPA, fPA, ⟨rdC, gaC⟩, ⟨aPA, ⟨_, rPA⟩, iPA⟩, raw GPA bPA⟩, ⟨fST, aST, iST, raw GST bST⟩, ⟨pIF, fIF, _, ⟨aIF, gIF, tIF, ⟨_, rIF⟩⟩, GIF, bIF⟩, ⟨B, PySem.W.mg_of X G aB, kB⟩, oha, ohn, ohk, ohm⟩
  exact ok_law FLA T Pa GFE (PySem.W.mg_of X G aFE) kFE bFE GTK (PySem.W.mg_of X G aTK) kTK bTK GDU (PySem.W.mg_of X G aDU) kDU bDU (PySem.W.mg_none_of X G zlen) (PySem.W.mg_none_of X G zmax) (PySem.W.mg_none_of X G zmin) (PySem.W.mg_none_of X G zrange) (PySem.W.mg_none_of X G zrepr) (PySem.W.mg_none_of X G zisinstance)
theorem walk {l : PySem.W.OpenLaw} {q : Program} {loose : List Str} {XP : (Str → Option Value) → Heap → Prop} {YP : World → Heap → Prop} {d : DefRec} {K : Params → PySem.W.Frag} (hn : l.most = some 63) (hdf : d.params.defaults = [])
    (hY : ∀ (w : World) (h : Heap), YP w h → (K w.params).In h)
    (F : ∀ (w : World) (mg : Str → Option Value) (fa : Addr) (h : Heap), (K w.params).In h → h.Ns mainGlobals mg → mg d.name = some (.ref fa) →
      ∃ fd : FuncData, (∀ (s : Shared) (u : Value), BindsTo s fd ⟨[u], []⟩ [("script", u)]) ∧ ∀ base : Heap, (K w.params).In base → base.Ns mainGlobals mg → FnG l.prog w (K w.params) mg base CX0 5 fa fd ["script"] (spLaw (K w.params))) :
    PySem.W.WalkO q loose XP YP l.row.toRowW d [] (fun f vs => PySem.call f vs) :=
  walk_ofG (n := 63) (k := 5) (x := "script") (sp := fun w => spLaw (K w.params)) hn (by decide) hdf ⟨rfl, by decide, by decide⟩ hY F (fun _ _ a ns hl _ hS => ⟨a, ns, rfl, hS, hl, fun _ => rfl⟩)
end K1
open PySem PySem.W PyProof.Rows
set_option maxRecDepth 100000 in
set_option maxHeartbeats 0 in
theorem PySem.Challenge.cw_stepblocks_k01_primitives_holds : PySem.Challenge.rw_stepblocks_k01_primitives.Holds := by
  w_on; o_law; k_head; (case hw => w_witness2)
  k_fill
  refine K1.walk (l := PySem.Challenge.rw_stepblocks_k01_primitives) rfl rfl (fun w h Y => PySem.W.kIn_of Y) ?F
  case F =>
    intro w mg fa h KX G hmg
    refine' K1.all_mk KX G hmg ?aC ?aB ?aRV ?lRV ?cRV ?kRV ?aRP ?lRP ?cRP ?kRP ?aBI ?iBI ?lBI ?cBI ?kBI ?aPA ?rPA ?iPA ?lPA ?cPA ?kPA ?aST ?iST ?lST ?cST ?kST ?aPI ?iPI ?lPI ?cPI ?lcd ?vcd ?lcc ?tpa ?sbs ?sat ?sty ?sdc ?sfi ?pg ?hd ?po ?sa ?mk ?kc ?rdC ?gaC ?nN ?nI ?nO ?nK ?aMo ?aMd ?aDg ?aP ?lP ?qP ?oP ?kP ?aW ?lW ?u1 ?v1 ?vx1 ?vy1 ?vz1 ?u2 ?v2 ?vx2 ?vy2 ?vz2 ?u3 ?v3 ?vx3 ?vy3 ?vz3 ?u4 ?v4 ?vx4 ?vy4 ?vz4 ?u5 ?v5 ?vx5 ?vy5 ?vz5 ?u6 ?v6 ?vx6 ?vy6 ?vz6 ?u7 ?v7 ?vx7 ?vy7 ?vz7 ?u8 ?v8 ?vx8 ?vy8 ?vz8 ?u9 ?v9 ?vx9 ?vy9 ?vz9 ?zsuper ?zlen ?zall ?zint ?zstr ?aFE ?lFE ?cFE ?kFE ?aTK ?lTK ?cTK ?kTK ?aDU ?lDU ?cDU ?kDU ?aLA ?lLA ?cLA ?kLA ?aIF ?gIF ?tIF ?rIF ?lIF ?cIF ?kIF ?oha ?ohn ?ohk ?ohm ?bcl ?bty ?bsu ?bne ?zmax ?zmin ?zabs ?zrange ?zrepr ?zisinstance
    (case aC => k_is); (case aB => k_is); (case aRV => k_is); (case lRV => k_is); (case cRV => k_is); (case kRV => k_is); (case aRP => k_is); (case lRP => k_is)
    (case cRP => k_is); (case kRP => k_is); (case aBI => k_is); (case iBI => k_is); (case lBI => k_is); (case cBI => k_is); (case kBI => k_is); (case aPA => k_is)
    (case rPA => k_is); (case iPA => k_is); (case lPA => k_is); (case cPA => k_is); (case kPA => k_is); (case aST => k_is); (case iST => k_is); (case lST => k_is)
    (case cST => k_is); (case kST => k_is); (case aPI => k_is); (case iPI => k_is); (case lPI => k_is); (case cPI => k_is); (case lcd => k_is); (case vcd => exact rfl)
    (case lcc => k_is); (case tpa => k_is); (case sbs => k_is); (case sat => ks_is); (case sty => k_is); (case sdc => k_is); (case sfi => k_is); (case pg => k_is)
    (case hd => k_is); (case po => k_is); (case sa => k_is); (case mk => k_is); (case kc => k_is); (case rdC => k_is); (case gaC => k_is); (case nN => k_is)
    (case nI => k_is); (case nO => k_is); (case nK => k_is); (case aMo => k_is); (case aMd => k_is); (case aDg => k_is); (case aP => k_is); (case lP => k_is)
    (case qP => k_keys); (case oP => decide); (case kP => exact rfl); (case aW => k_is); (case lW => k_is); (case u1 => k_is); (case v1 => k_is); (case vx1 => k_is)
    (case vy1 => k_is); (case vz1 => decide); (case u2 => k_is); (case v2 => k_is); (case vx2 => k_is); (case vy2 => k_is); (case vz2 => decide); (case u3 => k_is)
    (case v3 => k_is); (case vx3 => k_is); (case vy3 => k_is); (case vz3 => decide); (case u4 => k_is); (case v4 => k_is); (case vx4 => k_is); (case vy4 => k_is)
    (case vz4 => decide); (case u5 => k_is); (case v5 => k_is); (case vx5 => k_is); (case vy5 => k_is); (case vz5 => decide); (case u6 => k_is); (case v6 => k_is)
    (case vx6 => k_is); (case vy6 => k_is); (case vz6 => decide); (case u7 => k_is); (case v7 => k_is); (case vx7 => k_is); (case vy7 => k_is); (case vz7 => decide)
    (case u8 => k_is); (case v8 => k_is); (case vx8 => k_is); (case vy8 => k_is); (case vz8 => decide); (case u9 => k_is); (case v9 => k_is); (case vx9 => k_is)
    (case vy9 => k_is); (case vz9 => decide); (case zsuper => k_is); (case zlen => k_is); (case zall => k_is); (case zint => k_is); (case zstr => k_is); (case aFE => k_is)
    (case lFE => k_is); (case cFE => k_is); (case kFE => k_is); (case aTK => k_is); (case lTK => k_is); (case cTK => k_is); (case kTK => k_is); (case aDU => k_is)
    (case lDU => k_is); (case cDU => k_is); (case kDU => k_is); (case aLA => k_is); (case lLA => k_is); (case cLA => k_is); (case kLA => k_is); (case aIF => k_is)
    (case gIF => k_is); (case tIF => k_is); (case rIF => k_is); (case lIF => k_is); (case cIF => k_is); (case kIF => k_is); (case oha => k_is); (case ohn => k_is)
    (case ohk => k_is); (case ohm => k_is); (case bcl => k_is); (case bty => k_is); (case bsu => k_is); (case bne => decide); (case zmax => k_is); (case zmin => k_is)
    (case zabs => k_is); (case zrange => k_is); (case zrepr => k_is); (case zisinstance => k_is)
