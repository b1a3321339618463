import PyProof.Rows.All
import Wide.All
import OpenK.AllK
import Wide.FinOn
import KE.KSuper
import HandS.Nested
import HandS.ClsMeth
import HandS.Star
import HandS.Ends
import HandS.Words
import HandS.List
import HandS.ForMost
import HandS.IsInst
import HandS.Wide
import HandS.More
import HandS.Walk
import HandS.FStr
import HandS.RaiseMore
import HandS.NoneIn
import PySem.Challenge.RW_stepblocks_k03_what_primitives_compute
set_option Elab.async false
set_option linter.all false
set_option maxRecDepth 100000
set_option maxHeartbeats 8000000
/-! OwnA: super().__init__ of plain classes; a class held by a local, made; a def held by a local, called with a star. -/
namespace Own
open PySem PySem.Spec PyProof.Rows L2 NdefX ClX StX

/-! ### a block at its own code -/
structure PSA (X : Cx) (b0 : List Stmt) (sts : List Stmt) (t : TS) : Prop where
  run : ∀ (pins : List (Addr × Obj)) (s : Shared) (σ : L2.St) (H : Hp) (D : Ends), Inv X pins σ H s → t D σ H → _root_.PySem.wpAt (model X.prog X.w) X.A (.func b0 X.env) (execs sts X.env) (SP X pins D) X.xe s
theorem psa_of {X : Cx} {b0 sts : List Stmt} {t : TS} (h : PSs X sts t) : PSA X b0 sts t := ⟨fun pins s σ H D I q => wpAt_of_wpAny (h.run pins s σ H D I q)⟩
theorem psa_cons {X : Cx} {b0 rest : List Stmt} {st : Stmt} {t u : TS} (h1 : PS X st t) (h2 : PSA X b0 rest u) : PSA X b0 (st :: rest) (tSeq t u) := by
  refine ⟨fun pins s σ H D I q => PySem.ks_wpAt_execs_cons (wpAt_of_wpAny (thn (h1.run pins s σ H { D with nx := u D } I q) fun f s' hs => ?_))⟩
  cases f with
  | next =>
    obtain ⟨σ', H', I', q'⟩ := hs
    exact h2.run pins s' σ' H' D I' q'
  | brk => exact hs
  | cont => exact hs
  | ret u => exact hs

/-! ### super().m(e, ..) as a statement -/
/-- what the text says: the def's first parameter is slot 0; D: the class whose body holds the def; f2: the next class's method -/
structure SupK (K : PySem.W.Frag) (prog : Program) (f cda cc D : Addr) (fd : FuncData) (sf : Str) : Prop where
  fn : ∃ oc od osl, K.lookup f = some ⟨oc, od, .func fd, osl⟩
  par : ∃ ar, (fd.params.posonlyargs ++ fd.params.args).head? = some ar ∧ ar.arg = sf
  code : ∃ ccl cdd vs ccs file tf, K.lookup cda = some ⟨ccl, cdd, .fields vs, ccs⟩ ∧ vs[2]? = some (.str file tf) ∧ ((prog.main.file : Str) == file) = true
  cell : ∃ cl cld csl, K.lookup cc = some ⟨cl, cld, .cell (some (.ref D)), csl⟩
  top : (prog.main.scope.names.lookup ("super" : Str)).isSome = false
  st : PySem.W.nsIn K PySem.cStatics "thirdparty.any" = some none
/-- of an instance's class C -/
structure SupC (K : PySem.W.Frag) (C D : Addr) (m : Str) (f2 : Addr) : Prop where
  sub : PySem.W.mroIn K C (.ref D) = some true
  at_ : PySem.W.ks_superIn K C D m = some (some (.ref f2))
  ty : PySem.W.typeIn K (.ref f2) = some (.type "function")
  dcl : ∃ cdD, PySem.W.clsIn K D = some cdD
  fi : PySem.W.fnIn K f2 = true
def tSuper (K : PySem.W.Frag) (D : Addr) (m : Str) (f2 : Addr) (sp : Sp) (E : XK) (t : TA) : TS := fun D' σ H => ∃ x C dx fs, σ[0]? = some (some (.ref x)) ∧ H x = some (.ins C dx fs) ∧ SupC K C D m f2 ∧
  t σ H fun vs H1 => sp (.ref x :: vs) H1 (fun _ H2 => D'.nx σ H2) E
theorem psa_super {X : Cx} {CX : CXT} {k : Nat} {b0 rest : List Stmt} {p0 p1 apos pos spos : Pos} {m self : Str} {e : Expr} {es : List Expr} {t : TA} {u : TS} {f cda cc D f2 : Addr} {fd : FuncData} {sp : Sp} {E : XK} {pl : Sem Bool}
    (SK : SupK X.K X.prog f cda cc D fd self) (hfu : X.env.func = some f) (hco : X.env.code = .ref cda) (hcl : X.env.cells.lookup ("__class__" : Str) = some cc)
    (hks : X.env.kindOf "super" = some .globalImplicit) (hkc : X.env.kindOf "__class__" = some .free) (hN : X.N[0]? = some self) (hka : X.env.kindOf self = some .local) (hms : X.mg "super" = none)
    (F : FnR X.prog X.w X.K X.mg X.base CX k f2 sp) (hr : Room k X.A) (hx : Passes CX X E) (ha : PA X (e :: es) t) (hu : PSA X b0 rest u)
    (hm1 : (m == ("__class__" : Str)) = false := by decide +kernel)
    (hi : interactive X.env = false := by rfl) (hsw : swapsWith (.Call (.Attribute (.Call (.Name "super" p0) [] [] p1) m apos) (e :: es) [] pos) none spos.line X.env = pure false := by rfl)
    (hst : starEach (e :: es) X.env = (false, eval e X.env) :: starEach es X.env := by rfl) (hpl : (backTo pos (starEach es X.env)).any (·.1) = false := by rfl)
    (ht : eval (.Call (.Attribute (.Call (.Name "super" p0) [] [] p1) m apos) (e :: es) [] pos) X.env = (do
      let ov ← attributeBase (.Call (.Name "super" p0) [] [] p1) m X.env (eval (.Call (.Name "super" p0) [] [] p1) X.env)
      standAt apos.atName
      let (f, first) ← holding [ov] (getMethod ov m pl)
      callWith pos f first (backTo pos (starEach (e :: es) X.env)) []) := by rfl) :
    PSA X b0 (.Expr (.Call (.Attribute (.Call (.Name "super" p0) [] [] p1) m apos) (e :: es) [] pos) spos :: rest) (tSeq (tSuper X.K D m f2 sp E t) u) := by
  refine ⟨fun pins s σ H Dn I q => ?_⟩
  obtain ⟨x, C, dx, fs, hσ, hH, SC, q⟩ := q
  have KX := I.kIn
  obtain ⟨oc, od, osl, hf⟩ := SK.fn
  obtain ⟨ar, har, hself⟩ := SK.par
  obtain ⟨ccl, cdd, vs, ccs, file, tf, hcode, hvs, hfile⟩ := SK.code
  obtain ⟨cl, cld, csl, hcell⟩ := SK.cell
  obtain ⟨cdD, hD⟩ := SC.dcl
  obtain ⟨oD, hD1, hD2⟩ : ∃ oD, s.heap.get? D = some oD ∧ oD.data = .cls cdD := by
    unfold PySem.W.clsIn at hD
    split at hD
    · rename_i c d cd' sl ho
      cases hD
      exact ⟨_, KX _ _ ho, rfl⟩
    · cases hD
  obtain ⟨mA, O, rr, _, _, _⟩ := ins_get I.hok hH
  obtain ⟨odx, J, _⟩ := O.look
  obtain ⟨ml, hn, hl⟩ := id I.loc
  have hself' : ml ar.arg = some (.ref x) := by
    obtain ⟨w', rw', lk⟩ := hl 0 self (.ref x) hN hσ (.inl hka)
    rcases lk with ⟨_, e1⟩ | ⟨e1, _⟩
    · rw [hself, e1]
      exact congrArg some rw'
    · rw [hka] at e1
      rcases e1 with z | z <;> cases z
  obtain ⟨mb, hb1, hb2⟩ := I.mod.blt
  refine PySem.ks_wpAt_execs_cons (PySem.ks_wpAt_Expr_any (Q := fun f s' => match f with | .next => _root_.PySem.wpAt (model X.prog X.w) X.A (.func b0 X.env) (execs rest X.env) (SP X pins Dn) X.xe s' | f => SP X pins Dn f s') ?_ hi hsw)
  refine PySem.ks_wpAt_MethodCall (pl := pl) ?_ ht
  have e0 : s = ⟨s.heap, s.gens, s.drawn, s.toks, s.os⟩ := rfl
  refine PySem.ks_wpAt_super_base hks hkc hm1 hfu (KX _ _ hf) rfl har hco (KX _ _ hcode) rfl hvs hfile SK.top ?_
  refine PySem.W.ks_loadName_global I.ok.kind hks (Calls.loadGlobal_builtin (by rw [I.ok.glob]; exact I.mod.glob.keeps I.bk) hms (by rw [I.ok.blt]; exact hb1.keeps I.bk) ((hb2 "super" (by decide)).trans (by decide +kernel : bootBuiltins "super" = some (.type "super"))) ⟨rfl, ?_⟩)
  refine wpAny_loadName_free I.ok.kind hkc hcl ⟨_, KX _ _ hcell, rfl⟩ ?_
  refine wpAny_loadName_local I.ok.kind (by rw [hself]; exact hka) hn hself' ?_
  rw [e0]
  refine PySem.ks_wpAny_isType_cls hD1 hD2 ⟨rfl, ?_⟩
  refine PySem.ks_wpAny_call_super hD1 hD2 J.at_ J.cls (fun c e => ?_) (PySem.W.looks_mroIn KX SC.sub) (fun h' e k => ?_)
  · have z := J.no
    unfold PySem.W.notCls at z
    rw [e] at z
    exact Bool.noConfusion z
  have I1 : Inv X ((s.heap.objs.size, PySem.W.ks_superObj D x C) :: pins) σ H { s with heap := h', toks := s.toks } := pin_new I k (Nat.le_refl _) e (fun v z => nomatch z)
  have KX1 := I1.kIn
  cases hc : PySem.W.clsIn X.K C with
  | none =>
    have z := SC.at_
    unfold PySem.W.ks_superIn at z
    rw [hc] at z
    cases z
  | some cd =>
    have hm := SC.at_
    unfold PySem.W.ks_superIn at hm
    rw [hc] at hm
    obtain ⟨of, hof, hofc⟩ : ∃ of, h'.get? f2 = some of ∧ of.cls = .type "function" := by
      have ht' : (X.K.lookup f2).map (·.cls) = some (.type "function") := SC.ty
      cases z : X.K.lookup f2 with
      | none => rw [z] at ht'; cases ht'
      | some of => rw [z] at ht'; exact ⟨of, KX1 _ _ z, Option.some.inj ht'⟩
    refine PySem.ks_wpAny_getMethod_super e (PySem.W.looks_opaque KX1 SK.st) (l₀ := cd.mro) ?_ rfl KX1 hm hof hofc (PySem.W.ks_ne KX J hc) hm1 ?_
    · exact fun A Q E s k q => wpAny_bind ((PySem.W.looks_clsIn KX1 hc) A _ E s k (wpAny_pure q))
    have I2 : Inv X ((h'.objs.size, PySem.W.methodObj (.ref f2) (.ref x)) :: (s.heap.objs.size, PySem.W.ks_superObj D x C) :: pins) σ H { s with heap := h'.push (PySem.W.methodObj (.ref f2) (.ref x)), toks := s.toks + 1 } :=
      pin_new (s := { s with heap := h', toks := s.toks }) I1 (fun _ _ z => Heap.get?_push_of_some _ z) (Nat.le_refl _) (Heap.get?_push_size h' rfl) (fun v z => nomatch z)
    have hq := pin_at I2
    have hL : h'.objs.size ≠ X.env.locals := (I2.pin (h'.objs.size, PySem.W.methodObj (.ref f2) (.ref x)) (List.mem_append_right _ List.mem_cons_self)).2.2.1
    have hb0 : X.base.get? h'.objs.size = none := base_none I1 (Nat.le_refl _)
    refine PySem.W.callWith_M (K := X.K) (h₀ := X.base) (first := []) I.ok.mod.kin (news_at hL hb0 hq) List.mem_cons_self SC.fi (thn (ha.run pos _ _ σ H _ I2 q) fun us s3 ⟨vs3, H2, I3, rv, q2⟩ => ⟨⟨pin_at I3, I3.kIn⟩, ?_⟩) hst hpl
    have z := wpAny_call (PySem.W.method_call (pin_at I3) (run_fnR (us := .ref x :: us) (vs := .ref x :: vs3) F hr hx I3 (.cons rfl rv) q2))
    refine thn z fun v4 s4 ⟨v5, H5, I5, _, q5⟩ => ?_
    exact hu.run pins s4 σ H5 Dn (unpin (unpin I5)) q5

/-! ### a def with the cell __class__, by its body -/
theorem fnr_super {CX : CXT} {P : Program} {w : World} {K : PySem.W.Frag} {mg : Str → Option Value} {base : Heap} {k : Nat} {f cc D : Addr} {F : NF} {N ps : List Str} {sp : Sp} {oc doc pm ct : Value} {od an : Option Addr} {osl : Array (Option Value)}
    (lk : K.lookup f = some ⟨oc, od, .func (PySem.W.fnX F.name F.qual F.params F.body F.scope F.cl .none .none doc pm an (.ref F.c) ct), osl⟩) (hcd : PySem.W.codeIn K (.ref F.c) F.qual = true) (hcl : F.cl = [(("__class__" : Str), cc)])
    (hcell : ∃ cl cld csl, K.lookup cc = some ⟨cl, cld, .cell (some (.ref D)), csl⟩) (S : NScope N ps ["__class__"] F.scope)
    (hb : ∀ (us : List Value), us.length = ps.length → bindArgs (PySem.W.fnX F.name F.qual F.params F.body F.scope F.cl .none .none doc pm an (.ref F.c) ct) ⟨us, []⟩ = pure (ps.zip us))
    (len : ∀ vs H Q E, sp vs H Q E → vs.length = ps.length)
    (hbody : ∀ (A : Around) (outer : List Env) (s : Shared) (H : Hp) (vs : List V) (Q : VK) (E : XK), Room k (A.deeper (envF F f s.heap.objs.size)) → sp vs H Q E →
      ∃ t, PSA (ncx CX P w K mg base N F f A outer s H E) F.body F.body t ∧ t { nx := fun _ H' => Q .non H', rt := Q } (startF N vs [some (.ref D)]) H) :
    FnR P w K mg base CX (k + 1) f sp := by
  intro A outer s H us vs Q E hr e0 r hsp
  have hl := len _ _ _ _ hsp
  have KB : K.In base := e0.mod.kin
  have KX : K.In s.heap := KB.keeps fun b o e => (e0.bs b o e).1
  have lim : s.heap.NoLimit := e0.mod.nolimit.keeps fun b o e => (e0.bs b o e).1
  obtain ⟨cl, cld, csl, hc⟩ := hcell
  have hcl1 : ∀ y c, F.cl.lookup y = some c → y = "__class__" ∧ c = cc := fun y c e => by
    rw [hcl] at e
    by_cases hy : y = ("__class__" : Str)
    · subst hy
      have e2 : some cc = some c := by
        rw [← e]
        simp [List.lookup]
      exact ⟨rfl, (Option.some.inj e2).symm⟩
    · have hb0 : (y == ("__class__" : Str)) = false := beq_eq_false_iff_ne.mpr hy
      rw [List.lookup_cons, hb0] at e
      cases e
  have C : CellsAt F.cl ["__class__"] [some (.ref D)] s.heap H := by
    refine ⟨rfl, fun y c e => ?_, fun x y c e1 e2 => ?_, fun i y e => ?_⟩
    · obtain ⟨_, rfl⟩ := hcl1 y c e
      exact ⟨(e0.bs _ _ (KB _ _ hc)).2, some (.ref D), ⟨_, KX _ _ hc, rfl⟩⟩
    · exact (hcl1 x c e1).1.trans (hcl1 y c e2).1.symm
    · cases i with
      | zero =>
        cases e
        refine ⟨cc, by rw [hcl]; simp [List.lookup], fun v e2 => ?_⟩
        cases e2
        exact ⟨.ref D, rfl, ⟨_, KX _ _ hc, rfl⟩⟩
      | succ i => cases e
  refine codeAny_call_function hr.depth (KX _ _ lk) rfl S.co S.gen rfl (PySem.W.codeRec_of KX hcd) ?_
  rw [hb us (by rw [← r.length]; exact hl)]
  refine wpAny_pure (wpAny_newFunctionEnv S.nocell (fun ⟨n, _⟩ hy => S.par n (List.of_mem_zip hy).1) (fun h₁ hns hsb => ⟨lim.fresh _ hsb, ?_⟩) S.kind)
  show codeAny _ _ (.func F.body (envF F f s.heap.objs.size)) _ _
  refine PySem.ks_codeAny_funcAt ?_
  have kp : ∀ b o, s.heap.get? b = some o → h₁.get? b = some o := fun b o e => hsb.extBut b o (Nat.ne_of_lt (Heap.lt_size e)) (Heap.get?_push_of_some _ e)
  obtain ⟨t, ht, hq⟩ := hbody A outer s H vs Q E (hr.deeper _) hsp
  have I : Inv (ncx CX P w K mg base N F f A outer s H E) [] (startF N vs [some (.ref D)]) H { s with heap := h₁, toks := s.toks + (ps.zip us).length } := inv_startN S hr.hd e0 hl r C hns kp
  refine PySem.ks_wpAt_mono (ht.run [] _ (startF N vs [some (.ref D)]) H _ I hq) (fun fl s' hs => ?_) fun e s' hs => hs
  have fin : ∀ {σ' : L2.St} {H' : Hp} {v : V} {u : Value}, Inv (ncx CX P w K mg base N F f A outer s H E) [] σ' H' s' → L2.RelV v u → Q v H' → CE outer P w H s Q u s' :=
    fun {σ' H' v u} J rv q => ⟨v, H', J.os, J.bare, J.base, J.hok, rv, q⟩
  cases fl with
  | ret u =>
    obtain ⟨v, σ', H', J, rv, q⟩ := hs
    exact fin J rv q
  | next =>
    obtain ⟨σ', H', J, q⟩ := hs
    exact fin (v := V.non) (u := Value.none) J rfl q
  | brk =>
    obtain ⟨_, _, _, q⟩ := hs
    exact False.elim q
  | cont =>
    obtain ⟨_, _, _, q⟩ := hs
    exact False.elim q

/-! ### ways joined behind a statement -/
def tJoin (t u : TS) : TS := fun D σ H => ∃ Mid : L2.St → Hp → Prop, t { D with nx := Mid } σ H ∧ ∀ σ' H', Mid σ' H' → u D σ' H'
theorem pss_join {X : Cx} {st : Stmt} {rest : List Stmt} {t u : TS} (h1 : PS X st t) (h2 : PSs X rest u) : PSs X (st :: rest) (tJoin t u) := by
  refine ⟨fun pins s σ H D I h => ?_⟩
  obtain ⟨Mid, q1, q2⟩ := h
  refine wpAny_execs_cons (thn (h1.run pins s σ H _ I q1) fun f s' hs => ?_)
  cases f with
  | next =>
    obtain ⟨σ', H', I', m⟩ := hs
    exact h2.run pins s' σ' H' D I' (q2 σ' H' m)
  | brk => exact hs
  | cont => exact hs
  | ret u => exact hs

/-! ### x(e, ..), x a local that holds the class at C -/
section
variable {X : Cx} {CX : CXT} {k i : Nat} {f C : Addr} {sp : Sp} {E : XK} {x : Str} {e : Expr} {es : List Expr} {te : TE} {t : TA} {p pos sp_ : Pos}
def tMakeL (i : Nat) (C : Addr) (sp : Sp) (E : XK) (t : TA) : TE := fun σ H Q => σ[i]? = some (some (.ref C)) ∧ tMakeR C sp E t σ H Q
theorem pe_makeL (M : Mk X.K C f) (F : FnR X.prog X.w X.K X.mg X.base CX k f sp) (hr : Room (k + 1) X.A) (hN : X.N[i]? = some x) (hv : Vis X.env.scope x) (hx : Passes CX X E) (ha : PA X (e :: es) t)
    (hdb : (x == ("__debug__" : Str)) = false := by decide) (hcd : (x == ("__classdict__" : Str)) = false := by decide)
    (he : starEach (e :: es) X.env = (false, eval e X.env) :: starEach es X.env := by rfl) (hpl : (backTo pos (starEach es X.env)).any (·.1) = false := by rfl) : PE X (.Call (.Name x p) (e :: es) [] pos) (tMakeL i C sp E t) := by
  refine ⟨fun pins s σ H Q I h => ?_⟩
  obtain ⟨hs, h⟩ := h
  refine wpAny_Call_Name_kw (thn ((pe_var (pos := p) hN hv hdb hcd).run pins s σ H (fun v H1 => v = .ref C ∧ H1 = H) I ⟨.ref C, hs, rfl, rfl⟩) fun u s1 ⟨v, H1, I1, r1, q1⟩ => ?_)
  obtain ⟨rfl, rfl⟩ := q1
  cases r1
  refine PySem.W.callWith_K (h₀ := X.base) I.ok.mod.kin M.kp (thn (ha.run pos pins s1 σ _ _ I1 h) fun us s2 ⟨vs, H2, I2, r, q⟩ => ⟨I2.kIn, ?_⟩) he hpl
  exact run_makeR M F hr hx I2 r q
/-- x(*y), x a local that holds one of several defs -/
def tCallLS (X : Cx) (CX : CXT) (k i : Nat) (E : XK) (te : TE) : TE := fun σ H Q => ∃ f sp, σ[i]? = some (some (.ref f)) ∧ FnR X.prog X.w X.K X.mg X.base CX k f sp ∧ PySem.W.keepIn X.K (.ref f) = true ∧
  te σ H fun y H1 => ∃ a xs, y = V.ref a ∧ (SqT X.K H1 a xs ∨ SqL X.K H1 a xs) ∧ sp xs H1 Q E
theorem pe_callLS (hr : Room k X.A) (hN : X.N[i]? = some x) (hv : Vis X.env.scope x) (hx : Passes CX X E) (he : PE X e te) (hdb : (x == ("__debug__" : Str)) = false := by decide) (hcd : (x == ("__classdict__" : Str)) = false := by decide)
    (hst : starEach [.Starred e sp_] X.env = [(true, eval e X.env)] := by rfl) : PE X (.Call (.Name x p) [.Starred e sp_] [] pos) (tCallLS X CX k i E te) := by
  refine ⟨fun pins s σ H Q I h => ?_⟩
  obtain ⟨f, sp, hs, F, hk, h⟩ := h
  refine wpAny_Call_Name_kw (thn ((pe_var (pos := p) hN hv hdb hcd).run pins s σ H (fun v H1 => v = .ref f ∧ H1 = H) I ⟨.ref f, hs, rfl, rfl⟩) fun u s1 ⟨v, H1, I1, r1, q1⟩ => ?_)
  obtain ⟨rfl, rfl⟩ := q1
  cases r1
  refine PySem.W.callWith_S (h₀ := X.base) I.ok.mod.kin hk (thn (he.run pins s1 σ _ _ I1 h) fun v s2 ⟨y, H2, I2, ry, a, xs, ey, hxs, q⟩ => ?_) hst
  subst ey
  obtain rfl : v = Value.ref a := ry
  exact star_any I2 hxs fun us s3 I3 rv => ⟨I3.kIn, wpAny_call (run_fnR F hr hx I3 rv q)⟩
end
end Own
/-! OwnB: defs that ask that no repr runs around them; repr of data; str of an own instance. -/
namespace Own
open PySem PySem.Spec PyProof.Rows L2
/-! ### repr of data: where no repr runs around -/
theorem call_reprD {X : Cx} (hg : X.A.guards = some []) (hu : X.A.units + 64 < cLine) : CallR X (.builtin "repr") (fun xs H Q => ∃ (a : Addr) (d : PyData), xs = [.ref a] ∧ Dp X.K H (.ref a) d ∧ d.showable = true ∧ d.hasDict = false ∧ d.depth ≤ 60 ∧ d.shown.length ≤ sizeLine ∧ Q (.str d.shown) H) := by
  intro pins s σ H xs us Q I r h
  obtain ⟨a, d, rfl, hd, hs, hn, h60, hz, q⟩ := h
  obtain ⟨u, rfl, ru⟩ := vals1 r
  have hu' : u = .ref a := ru
  subst hu'
  obtain ⟨as, rd⟩ := Dp.reads I d _ _ hd rfl
  exact repr_of_reads' rd hs (PyData.noDict_hsm hn) hg (by omega) (fun _ _ e => e) (fun h' u tk hk => ⟨.str d.shown, H, I.kept hk, ⟨u, rfl⟩, q⟩) hz
/-! ### str(o) by the class's own __str__ -/
theorem call_strO {X : Cx} {C f : Addr} {k : Nat} {sp : Sp} (F : FnR X.prog X.w X.K X.mg X.base CX0 k f sp) (hr : Room (k + 2) X.A) (hs : PySem.W.findIn X.K (.ref C) "__str__" = some (some (.ref f))) (hf : PySem.W.isFn X.K (.ref f) = true) :
    CallR X (.type "str") (fun xs H Q => ∃ (x dx : Addr) (fs : List (Str × V)), xs = [.ref x] ∧ H x = some (.ins C dx fs) ∧ sp [.ref x] H (fun v H' => ∃ y, v = .str y ∧ Q v H') E0) := by
  intro pins s σ H xs us Q I r h
  obtain ⟨x, dx, fs, rfl, hx, q⟩ := h
  obtain ⟨u, rfl, ru⟩ := vals1 r
  have hu' : u = .ref x := ru
  subst hu'
  obtain ⟨mA, O, _⟩ := ins_get I.hok hx
  obtain ⟨od, J, _⟩ := O.look
  refine PySem.W.kso_call (hr.in1.in1.units0) I.kIn J hs hf (wpAny_call (codeAny_mono (F X.A.in1.in1 X.stack s H [.ref x] [.ref x] _ E0 hr.in1.in1 I.env0.in1.in1 (.cons rfl .nil) q) fun r s' hq => ?_))
  cases r with
  | error e => exact False.elim hq
  | ok fl =>
    cases fl with
    | ret u =>
      obtain ⟨v, H', I', rv, ⟨y, rfl, q'⟩⟩ := I.after hq
      obtain ⟨t, rfl⟩ := rv
      exact ⟨.str y, H', I', ⟨t, rfl⟩, q'⟩
    | next => exact False.elim hq
    | brk => exact False.elim hq
    | cont => exact False.elim hq
/-! ### a def that is called where no repr runs -/
structure FnG (P : Program) (w : World) (K : PySem.W.Frag) (mg : Str → Option Value) (base : Heap) (CX : CXT) (k : Nat) (f : Addr) (fd : FuncData) (ps : List Str) (sp : Sp) : Prop where
  len : ∀ vs H Q E, sp vs H Q E → vs.length = ps.length
  run : ∀ (A : Around) (outer : List Env) (s : Shared) (H : Hp) (args : Args) (us : List Value) (vs : List V) (Q : VK) (E : XK), A.guards = some [] → Room k A → Env0 P w K mg base A outer s H → BindsTo s fd args (ps.zip us) → Vals vs us → sp vs H Q E →
    codeAny (model P w) A (.call (.ref f) args) (CR CX outer P w H s Q E) s
theorem fng_of {CX : CXT} {P : Program} {w : World} {K : PySem.W.Frag} {mg : Str → Option Value} {base : Heap} {k : Nat} {f : Addr} {name qual : Str} {params : Arguments} {body : List Stmt} {scope : Scope} {dV kV doc pm cdv ct oc : Value} {an od : Option Addr}
    {osl : Array (Option Value)} {N ps : List Str} {sp : Sp} (lk : K.lookup f = some ⟨oc, od, .func (PySem.W.fnOf name qual params body scope dV kV doc pm an cdv ct), osl⟩) (hcd : PySem.W.codeIn K cdv qual = true) (S : FnScope N ps scope)
    (len : ∀ vs H Q E, sp vs H Q E → vs.length = ps.length)
    (hbody : ∀ (A : Around) (outer : List Env) (s : Shared) (H : Hp) (vs : List V) (Q : VK) (E : XK), (A.deeper (envOfC qual scope s.heap.objs.size f cdv)).guards = some [] → Room k (A.deeper (envOfC qual scope s.heap.objs.size f cdv)) → sp vs H Q E →
      ∃ t, PSs (cxOf CX P w K mg base N qual scope f cdv A outer s H E) body t ∧ t { nx := fun _ H' => Q .non H', rt := Q } (start N vs) H) :
    FnG P w K mg base CX (k + 1) f (PySem.W.fnOf name qual params body scope dV kV doc pm an cdv ct) ps sp := by
  refine ⟨len, fun A outer s H args us vs Q E hg hr e0 hb r hsp => ?_⟩
  have hl := len _ _ _ _ hsp
  have KX : K.In s.heap := e0.mod.kin.keeps fun b o e => (e0.bs b o e).1
  have lim : s.heap.NoLimit := e0.mod.nolimit.keeps fun b o e => (e0.bs b o e).1
  have hkind : ∀ y ∈ ps.zip us, scope.names.lookup y.1 = some .local ∨ (scope.names.lookup y.1 = some .cell ∧ ((cellsFrom (s.heap.objs.size + 1) scope.names []).lookup y.1).isSome = true) := fun ⟨n, v⟩ hy => by
    rcases S.par n (List.of_mem_zip hy).1 with q | q
    · exact .inl q
    · exact .inr ⟨q, PySem.W.cellsFrom_some _ _ _ (.inl q)⟩
  refine codeAny_call_function hr.depth (KX _ _ lk) rfl S.co S.gen rfl (PySem.W.codeRec_of KX hcd) (hb _ _ _ _ ?_)
  refine wpAny_newFunctionEnv_cells S.kind hkind fun env he s1 x => ?_
  subst he
  refine ⟨lim.keeps x.toInCall.keep, codeAny_func ?_⟩
  obtain ⟨t, ht, hq⟩ := hbody A outer s H vs Q E hg (hr.deeper _) hsp
  have I : Inv (cxOf CX P w K mg base N qual scope f cdv A outer s H E) [] (start N vs) H s1 := inv_start S hr.hd e0 hl r x
  refine wpAny_mono (ht.run [] s1 (start N vs) H _ I hq) (fun fl s' hs => ?_) fun e s' hs => hs
  have fin : ∀ {σ' : L2.St} {H' : Hp} {v : V} {u : Value}, Inv (cxOf CX P w K mg base N qual scope f cdv A outer s H E) [] σ' H' s' → RelV v u → Q v H' → CE outer P w H s Q u s' :=
    fun {σ' H' v u} J rv q => ⟨v, H', J.os, J.bare, J.base, J.hok, rv, q⟩
  cases fl with
  | ret u =>
    obtain ⟨v, σ', H', J, rv, q⟩ := hs
    exact fin J rv q
  | next =>
    obtain ⟨σ', H', J, q⟩ := hs
    exact fin (v := V.non) (u := Value.none) J rfl q
  | brk =>
    obtain ⟨_, _, _, q⟩ := hs
    exact False.elim q
  | cont =>
    obtain ⟨_, _, _, q⟩ := hs
    exact False.elim q
theorem fun_okG {P : Program} {w : World} {K : PySem.W.Frag} {mg : Str → Option Value} {base : Heap} {x qual : Str} {st : Stmt} {f : Addr} {fd : FuncData} {N ps : List Str} {k : Nat} {sp : Sp} (F : Fun K x qual st f fd) (S : FnScope N ps (defScope st)) (len : ∀ vs H Q E, sp vs H Q E → vs.length = ps.length)
    (hbody : ∀ (cdv : Value) (A : Around) (outer : List Env) (s : Shared) (H : Hp) (vs : List V) (Q : VK) (E : XK), (A.deeper (envOfC qual (defScope st) s.heap.objs.size f cdv)).guards = some [] → Room k (A.deeper (envOfC qual (defScope st) s.heap.objs.size f cdv)) → sp vs H Q E →
      ∃ t, PSs (cxOf CX0 P w K mg base N qual (defScope st) f cdv A outer s H E).nox (defBody st) t ∧ t { nx := fun _ H' => Q .non H', rt := Q } (start N vs) H) : FnG P w K mg base CX0 (k + 1) f fd ps sp := by
  obtain ⟨oc, od, kV, doc, pm, an, cdv, ct, osl, rfl, lk, hcd⟩ := F.ex
  refine fng_of lk hcd S len fun A outer s H vs Q E hg hr hsp => ?_
  obtain ⟨t, h, q⟩ := hbody cdv A outer s H vs Q E hg hr hsp
  exact ⟨t, h.nox, q⟩
/-! ### the law's end for such a def -/
theorem law_callG {P : Program} {w : World} {K : PySem.W.Frag} {mg mb : Str → Option Value} {CX : CXT} {k : Nat} {fa a : Addr} {fd : FuncData} {x : Str} {sp : Sp} {s₁ : Shared} {vs : List Value} {ns : List Int}
    (KX : K.In s₁.heap) (hns : s₁.heap.Ns mainGlobals mg) (hb : s₁.heap.Ns builtinsNs mb) (hbb : ∀ x : Str, x ≠ "__name__" → mb x = bootBuiltins x) (hlim : s₁.heap.NoLimit) (hg : s₁.gens = #[])
    (ha : s₁.heap.get? a = some { cls := .type "list", data := .seq vs.toArray }) (hi : IntsAre vs ns) (hl : ns.length ≤ sizeLine) (hr : Room k callerA)
    (F : ∀ base : Heap, K.In base → base.Ns mainGlobals mg → FnG P w K mg base CX k fa fd [x] sp) (hbind : ∀ (s : Shared) (u : Value), BindsTo s fd ⟨[u], []⟩ [(x, u)])
    (hsp : ∀ H : Hp, Only H → SqL K H a (ns.map V.int) → sp [.ref a] H (fun v _ => v = .bl true) fun _ _ _ => False)
    (hCX : ∀ H e s', CX [] H s₁ (fun _ _ _ => False) e s' → False) :
    codeAny (model P w) callerA (.call (.ref fa) ⟨[.ref a], []⟩) (fun r s' => r = .ok (.ret (.bool true)) ∧ OldK s₁.heap s'.heap ∧ s'.os = s₁.os ∧ AllBare s'.gens) s₁ := by
  have rv := vals_ints hi
  have lenV := hi.length
  have core : ∀ H : Hp, Only H → SqL K H a (ns.map V.int) → HOk P w H s₁.heap → (∀ b, H b ≠ none → b = a) → (H a ≠ none → K.lookup a = none) →
      codeAny (model P w) callerA (.call (.ref fa) ⟨[.ref a], []⟩) (fun r s' => r = .ok (.ret (.bool true)) ∧ OldK s₁.heap s'.heap ∧ s'.os = s₁.os ∧ AllBare s'.gens) s₁ := by
    intro H hO hS hok hA hK
    have base_of : ∀ {b : Addr} {o : Obj}, s₁.heap.get? b = some o → H b = none → (hidT s₁.heap H).get? b = some o := fun e n => hidT_get e n
    have noA : ∀ {b : Addr} {o : Obj} {es : Array DictEntry} {ep : Nat}, s₁.heap.get? b = some o → o.data = .dict es ep → H b = none := fun {b o es ep} e d => by
      cases q : H b with
      | none => rfl
      | some u =>
        have e' : b = a := hA b (by rw [q]; simp)
        subst e'
        rw [ha] at e; cases e
        have d' : Data.seq vs.toArray _ = Data.dict es ep := d
        cases d'
    have nsK : ∀ {b : Addr} {m : Str → Option Value}, s₁.heap.Ns b m → (hidT s₁.heap H).Ns b m := fun {b m} ⟨o, es, ep, e, d, r⟩ => ⟨o, es, ep, base_of e (noA e d), d, r⟩
    have hKb : K.In (hidT s₁.heap H) := fun b o e => base_of (KX b o e) (by
      cases q : H b with
      | none => rfl
      | some u =>
        have e' : b = a := hA b (by rw [q]; simp)
        subst e'
        rw [hK (by rw [q]; simp)] at e; cases e)
    have hM : Mod K mg (hidT s₁.heap H) := ⟨hKb, nsK hns, ⟨mb, nsK hb, hbb⟩, let ⟨mc, h1, h2⟩ := hlim; ⟨mc, nsK h1, h2⟩⟩
    have e0 : Env0 P w K mg (hidT s₁.heap H) callerA [] s₁ H := ⟨rfl, hM, fun b o e => of_hidT e, Nat.le_of_eq (hidT_size _ _), trivial, fun b hb => absurd (show b ∈ ([] : List Addr) from hb) (by simp), hok, .of_eq hg⟩
    refine codeAny_mono ((F _ hKb (nsK hns)).run callerA [] s₁ H ⟨[.ref a], []⟩ [.ref a] [.ref a] _ _ rfl hr e0 (hbind s₁ (.ref a)) (.cons rfl .nil) (hsp H hO hS)) fun r s' h => ?_
    cases r with
    | error e => exact (hCX H e s' h).elim
    | ok fl =>
      cases fl with
      | next => exact False.elim h
      | brk => exact False.elim h
      | cont => exact False.elim h
      | ret u =>
        obtain ⟨v, H', os, bare, un, hok', r', q⟩ := h
        have q' : v = .bl true := q
        subst q'
        obtain rfl : u = Value.bool true := r'
        refine ⟨rfl, OldK.of_keep fun b o e => ?_, os, bare⟩
        cases q : H b with
        | none => exact un.keep b o e q (by intro z; exact absurd (show b ∈ ([] : List Addr) from z) (by simp)) (by simp)
        | some u =>
          rcases hO b with z | ⟨ob, xs, z⟩
          · rw [q] at z; cases z
          · have z2 := un.frzs b ob _ z
            obtain ⟨e1, _⟩ := hok b _ z
            obtain ⟨e2, _⟩ := hok' b _ z2
            rw [e] at e1; cases e1
            exact e2
  cases hk : K.lookup a with
  | some o =>
    have e := KX a o hk
    rw [ha] at e
    cases e
    refine core (fun _ => none) (fun _ => .inl rfl) (.inr ⟨_, vs.toArray, _, hk, rfl, rfl, rfl, by rw [List.size_toArray, lenV]; exact hl, by simpa using rv⟩) (fun b u z => by have z' : (none : Option HO) = some u := z; cases z') (fun b z => absurd rfl z) fun z => absurd rfl z
  | none =>
    refine core (fun b => if b = a then some (.frz { cls := .type "list", data := .seq vs.toArray } (.lst (ns.map V.int))) else none) (fun b => ?_) (.inl (.inr ⟨{ cls := .type "list", data := .seq vs.toArray }, if_pos rfl⟩)) (fun b u z => ?_) (fun b z => ?_) fun _ => hk
    · by_cases hb : b = a
      · exact .inr ⟨_, _, if_pos hb⟩
      · exact .inl (if_neg hb)
    · by_cases hb : b = a
      · have z' := (if_pos hb).symm.trans z
        cases z'
        subst hb
        exact ⟨ha, by rw [List.length_map]; exact hl, vs, _, rv, ha⟩
      · have z' := (if_neg hb).symm.trans z
        cases z'
    · by_cases hb : b = a
      · exact hb
      · exact absurd (if_neg hb) z
theorem walk_ofG {l : PySem.W.OpenLaw} {n k : Nat} {q : Program} {loose : List Str} {XP : (Str → Option Value) → Heap → Prop} {YP : World → Heap → Prop} {d : DefRec} {K : Params → PySem.W.Frag} {sp : World → Sp} {x : Str}
    (hn : l.most = some n) (hn2 : n ≤ sizeLine) (hdf : d.params.defaults = []) (hr : Room k callerA)
    (hY : ∀ (w : World) (h : Heap), YP w h → (K w.params).In h)
    (F : ∀ (w : World) (mg : Str → Option Value) (fa : Addr) (h : Heap), (K w.params).In h → h.Ns mainGlobals mg → mg d.name = some (.ref fa) →
      ∃ fd : FuncData, (∀ (s : Shared) (u : Value), BindsTo s fd ⟨[u], []⟩ [(x, u)]) ∧
        ∀ base : Heap, (K w.params).In base → base.Ns mainGlobals mg → FnG l.prog w (K w.params) mg base CX0 k fa fd [x] (sp w))
    (hsp : ∀ (w : World) (H : Hp) (a : Addr) (ns : List Int), ns.length ≤ n → Only H → SqL (K w.params) H a (ns.map V.int) → sp w [.ref a] H (fun v _ => v = .bl true) fun _ _ _ => False) :
    PySem.W.WalkO q loose XP YP l.row.toRowW d [] (fun f vs => PySem.call f vs) := by
  refine Att.attach_call hn hdf fun w s₀ s₁ mg mb fa o pm cd doc a vs ns G Y ho hd hcd hmg hobj hints hlen hg => ?_
  have KX := hY w _ Y
  obtain ⟨fd, hb, hF⟩ := F w mg fa _ KX G.T.g hmg
  exact law_callG KX G.T.g G.T.b G.T.builtins G.T.nolimit hg hobj hints (Nat.le_trans hlen hn2) hr hF hb (fun H hO hS => hsp w H a ns hlen hO hS) fun H e s' z => z
/-! ### a written dict has no other key -/
theorem miss_of {K : PySem.W.Frag} {d : Addr} {es : Array DictEntry} {n : Nat} (l : K.lookup d = some ⟨.type "dict", none, .dict es n, #[]⟩) {ks : List Str} (hk : ∀ e ∈ es.toList, ∃ x t, e.key = .str x t ∧ x ∈ ks) {z : Str} (hz : ¬ z ∈ ks) : PySem.W.nsIn K d z = some none := by
  unfold PySem.W.nsIn
  rw [l]
  dsimp only
  have h1 : es.toList.find? (·.key.isStr z) = none := by
    rw [List.find?_eq_none]
    intro e he
    obtain ⟨x, t, e1, e2⟩ := hk e he
    rw [e1, PySem.W.isStr_of]
    intro q
    obtain ⟨t', e3⟩ := Value.isStrOf_shape q
    cases e3
    exact hz e2
  have h2 : es.toList.any (·.refKey) = false := by
    rw [List.any_eq_false]
    intro e he
    obtain ⟨x, t, e1, e2⟩ := hk e he
    simp [DictEntry.refKey, e1]
  rw [h1, h2]
  rfl
end Own
namespace K3
open PySem L2 Own StX ClX NdefX
/-! ### the text by places -/
def top (i : Nat) : Stmt := PySem.Challenge.pw_stepblocks_k03_what_primitives_compute.main.body.getD i (.Pass ⟨0, 0, 0, 0⟩)
abbrev sRV : Stmt := top 10
abbrev sRP : Stmt := top 11
abbrev sBI : Stmt := inClass (top 21) 0
abbrev sPI : Stmt := inClass (top 22) 0
abbrev sParse : Stmt := inClass (top 22) 1
abbrev sStr : Stmt := inClass (top 22) 4
abbrev sFeed : Stmt := top 24
abbrev sTake : Stmt := top (24 + 1)
abbrev sPickL : Stmt := top (24 + 2)
theorem small1 {n : Nat} (h : n ≤ 8) : n ≤ sizeLine := Nat.le_trans h (by decide)
theorem upd_new {H : Hp} {p : Addr} {o : HO} (h : H p = none) : Same H (upd H p o) := fun b u e => by
  rw [upd_ne (ne_of_none e h)]
  exact e
theorem same_put {H H1 : Hp} {p : Addr} {o : HO} (s : Same H H1) (h : H p = none) : Same H (upd H1 p o) := fun b u e => by
  rw [upd_ne (ne_of_none e h)]
  exact s b u e
/-! ### what the texts say -/
def optV : Option Int → V
  | some v => .int v
  | none => .non
def isD (c : Nat) : Bool := decide (48 ≤ c) && decide (c ≤ 57)
def dig10 (x : Str) : Bool := decide (1 ≤ x.length) && decide (x.length ≤ 10) && x.cps.toList.all isD
def readV (x : Str) : Option Int :=
  if dig10 x = true then
    if (⟨#[x.cps.toList.headD 0]⟩ : Str) = "0" ∧ ¬ x = "0" then none
    else if ((NumText.digitsVal x.cps.toList : Nat) : Int) < 4294967296 then some ((NumText.digitsVal x.cps.toList : Nat) : Int) else none
  else none
def words9 : List Str := ["const", "add", "sub", "mul", "less", "equal", "pick", "divide", "delay"]
def readP (x : Str) : Option (Str × Option Int) :=
  if (Txt.partition x " ").1 ∈ words9 then
    if (Txt.partition x " ").1 = "const" ∨ (Txt.partition x " ").1 = "delay" then (readV (Txt.partition x " ").2.2).map fun c => ((Txt.partition x " ").1, some c)
    else if (Txt.partition x " ").2.1.length = 0 then some ((Txt.partition x " ").1, none) else none
  else none
theorem isD_in (c : Nat) : decide (c ∈ (("0123456789" : Str)).cps.toList) = isD c := by
  have e : (("0123456789" : Str)).cps.toList = [48, 49, 50, 51, 52, 53, 54, 55, 56, 57] := by decide +kernel
  rw [e]
  unfold isD
  rw [Bool.eq_iff_iff]
  simp only [Bool.and_eq_true, decide_eq_true_eq, List.mem_cons, List.not_mem_nil, or_false]
  omega
theorem par_len {S : List Nat} : ∀ (l acc : List Nat) {p q : List Nat}, TL.par S acc l = some (p, q) → q.length ≤ l.length
  | [], acc, p, q, h => by cases h
  | c :: r, acc, p, q, h => by
    have h : (if TL.pre S (c :: r) = true then some (acc, (c :: r).drop S.length) else TL.par S (acc ++ [c]) r) = some (p, q) := h
    split at h
    · cases h
      rw [List.length_drop]
      omega
    · have := par_len r _ h
      rw [List.length_cons]
      omega
theorem part_rest (x : Str) : (Txt.partition x " ").2.2.length ≤ x.length := by
  rw [TL.partition_par x " " (by decide +kernel)]
  split
  · rename_i a b e
    have := par_len _ _ e
    simp only [Str.length] at *
    simpa using this
  · exact Nat.zero_le _
/-! ### an instance of Primitive -/
theorem putF_len {f : Str} {v : V} : ∀ fs : List (Str × V), (putF f v fs).length ≤ fs.length + 1
  | [] => Nat.le_refl _
  | (g, u) :: r => by
    show (if g = f then _ else _ : List (Str × V)).length ≤ _
    split
    · simp
    · have := putF_len (f := f) (v := v) r
      simp only [List.length_cons]
      omega
def F3 (n i o : V) : List (Str × V) := putF "outputs" o (putF "inputs" i (putF "name" n []))
def F4 (n i o c : V) : List (Str × V) := putF "constant" c (F3 n i o)
theorem F3_len (n i o : V) : (F3 n i o).length ≤ 3 := by
  have h1 := putF_len (f := "outputs") (v := o) (putF "inputs" i (putF "name" n []))
  have h2 := putF_len (f := "inputs") (v := i) (putF "name" n [])
  have h3 := putF_len (f := "name") (v := n) []
  simp only [List.length_nil] at h3
  unfold F3
  omega
theorem F4_name (n i o c : V) : (F4 n i o c).lookup ("name" : Str) = some n := by
  unfold F4 F3
  rw [lookup_putF, if_neg (by decide +kernel), lookup_putF, if_neg (by decide +kernel), lookup_putF, if_neg (by decide +kernel), lookup_putF, if_pos rfl]
theorem F4_ins (n i o c : V) : (F4 n i o c).lookup ("inputs" : Str) = some i := by
  unfold F4 F3
  rw [lookup_putF, if_neg (by decide +kernel), lookup_putF, if_neg (by decide +kernel), lookup_putF, if_pos rfl]
theorem F4_outs (n i o c : V) : (F4 n i o c).lookup ("outputs" : Str) = some o := by
  unfold F4 F3
  rw [lookup_putF, if_neg (by decide +kernel), lookup_putF, if_pos rfl]
theorem F4_const (n i o c : V) : (F4 n i o c).lookup ("constant" : Str) = some c := by
  unfold F4
  rw [lookup_putF, if_pos rfl]
theorem F4_no {n i o c : V} {m : Str} (h1 : ¬ m = "name") (h2 : ¬ m = "inputs") (h3 : ¬ m = "outputs") (h4 : ¬ m = "constant") : (F4 n i o c).lookup m = none := by
  unfold F4 F3
  rw [lookup_putF, if_neg h4, lookup_putF, if_neg h3, lookup_putF, if_neg h2, lookup_putF, if_neg h1]
  rfl
/-- the ports of a primitive -/
def insOf (z : Str) : List Str := if z = "const" then [] else if z = "delay" then ["in"] else if z = "pick" then ["c", "a", "b"] else ["a", "b"]
def outsOf (z : Str) : List Str := if z = "divide" then ["quotient", "rest"] else ["out"]
def PortsOk (K : PySem.W.Frag) (z : Str) (i o : V) : Prop := ∃ a b, i = .ref a ∧ o = .ref b ∧ (∀ H, SqT K H a ((insOf z).map V.str)) ∧ (∀ H, SqT K H b ((outsOf z).map V.str)) ∧ ¬ (a = b)
/-- what the top says -/
structure Txt (K : PySem.W.Frag) (w : World) (mg : Str → Option Value) (C : Addr) : Prop where
  cl : Cls K C
  nN : NoAttr K C "name"
  nI : NoAttr K C "inputs"
  nO : NoAttr K C "outputs"
  nC : NoAttr K C "constant"
  mC : mg "Primitive" = some (.ref C)
  pp : ∃ d es n, mg "PRIMITIVE_PORTS" = some (.ref d) ∧ KDict K w d es n ∧ (∀ z ∈ words9, ∃ u tp x y, PySem.W.nsIn K d z = some (some u) ∧ RelV (.ref tp) u ∧ (∀ H, SqT K H tp [x, y]) ∧ PortsOk K z x y) ∧ ∀ z, ¬ z ∈ words9 → PySem.W.nsIn K d z = some none
  ww : ∃ d, mg "WORDS_WITH_VALUE" = some (.ref d) ∧ ∀ H, SqT K H d [.str "const", .str "delay"]
  sup : mg "super" = none
  dg : ∃ t, mg "DIGITS" = some (.str "0123456789" t)
  md : ∃ t, mg "MOST_DIGITS" = some (.int 10 t)
  mo : ∃ t, mg "MODULUS" = some (.int 4294967296 t)
  zl : mg "len" = none
  za : mg "all" = none
  zi : mg "int" = none
  zs : mg "str" = none
def spRV : Sp := fun vs H Q _ => ∃ x : Str, vs = [.str x] ∧ x.length ≤ sizeLine ∧ ∀ H', Same H H' → Q (optV (readV x)) H'
def spRP : Sp := fun vs H Q _ => ∃ x : Str, vs = [.str x] ∧ x.length ≤ sizeLine ∧ (readP x = none → ∀ H', Same H H' → Q .non H') ∧
  (∀ z c, readP x = some (z, c) → ∀ t H', Same H H' → H t = none → H' t = some (.tup [.str z, optV c]) → Q (.ref t) H')
section
variable {P : Program} {w : World} {K : PySem.W.Frag} {mg : Str → Option Value} {base : Heap} {C : Addr}
theorem scRV : FnScope ["text", "value", "sign"] ["text"] (defScope sRV) := ⟨rfl, rfl, rfl, by decide +kernel, rfl, by decide +kernel, by decide +kernel⟩
theorem ok_rv {f : Addr} {fd : FuncData} (F : Fun K "read_value" "read_value" sRV f fd) (T : Txt K w mg C) : FnOk P w K mg base CX0 1 f fd ["text"] spRV := by
  refine F.ok scRV (fun vs H Q E h => ?_) (fun cdv A outer s H vs Q E hr h => ?_)
  · obtain ⟨x, rfl, _⟩ := h
    rfl
  obtain ⟨x, rfl, hx, k⟩ := h
  obtain ⟨tD, mD⟩ := T.dg
  obtain ⟨tM, mM⟩ := T.md
  obtain ⟨tO, mO⟩ := T.mo
  refine ⟨_, pss_cons (ps_if (PW.pt (pw_or (pt_not (pt_chain op_le op_le pe_int (pe_callB call_len_str (by rfl) T.zl PySem.boot_len (pa_cons (pv 0) pa_nil)) (pe_glob (v := .int 10) rfl mM ⟨_, rfl⟩)))
      (pw_or1 (pt_not (pt_val (pe_callB (cr_all rfl) (by rfl) T.za (by decide +kernel) (pa_cons (pe_lc (own := [("sign", 2)]) (g := gName 2) rfl scRV.nd (pi_str (pv 0)) (blkOk_by (own := [("sign", 2)]) (N := ["text", "value", "sign"]) (sc := defScope sRV) (by decide +kernel)) (fun _ _ _ _ _ => pg_name (i := 2) scRV.nd rfl (Or.inl rfl)) (fun _ _ _ _ _ => pts_nil)
        (fun _ _ _ _ _ => pe_cmpR op_in_sign (pv 2) (pe_glob (v := .str "0123456789") rfl mD ⟨_, rfl⟩) (by rfl))) pa_nil))))))) (pss_one (ps_ret pe_non)) pss_nil)
    (pss_cons (ps_if (PW.pt (pw_and (pt_cmpR op_eq (pe_ix ix_str (pv 0) pe_int (fun _ _ => rfl)) pe_str (nomark _)) (pw_and1 (pt_cmpR op_ne (pv 0) pe_str (nomark _))))) (pss_one (ps_ret pe_non)) pss_nil)
    (pss_cons (ps_set (i := 1) scRV.nd rfl (.inl rfl) (pe_callTy call_int_str (by rfl) T.zi (by decide +kernel) (pa_cons (pv 0) pa_nil)))
    (pss_one (ps_ret (pe_ifExp (pt_cmpR op_lt (pv 1) (pe_glob (v := .int 4294967296) rfl mO ⟨_, rfl⟩) (nomark _)) (pv 1) pe_non))))), ?_⟩
  have hsz : x.cps.toList.length = x.length := by simp [Str.length]
  have back : ∀ H', Same H H' → readV x = none → Q .non H' := fun H' s' e => by
    have z := k H' s'
    rw [e] at z
    exact z
  refine ⟨_, rfl, _, rfl, hx, _, _, rfl, rfl, _, rfl, ?_⟩
  by_cases h1 : (1 : Int) ≤ (x.length : Int)
  case neg =>
    rw [decide_eq_false h1]
    refine iteF ⟨_, rfl, iteT (back H (Same.refl H) ?_)⟩
    unfold readV dig10
    rw [if_neg]
    rw [decide_eq_false (show ¬ 1 ≤ x.length by omega)]
    simp
  rw [decide_eq_true h1]
  refine iteT ⟨_, _, rfl, rfl, _, rfl, ?_⟩
  by_cases h2 : (x.length : Int) ≤ 10
  case neg =>
    rw [decide_eq_false h2]
    refine iteT (back H (Same.refl H) ?_)
    unfold readV dig10
    rw [if_neg]
    rw [decide_eq_false (show ¬ x.length ≤ 10 by omega)]
    simp
  rw [decide_eq_true h2]
  refine iteF ⟨_, rfl, x, rfl, fun D hD => ?_⟩
  refine lc_it walk_str (fun i H' => Same H H' ∧ H' D = some (.lst ((x.cps.toList.take i).map fun c => V.bl (isD c)))) ⟨upd_new hD, upd_same⟩ (fun _ _ _ _ => True.intro) ?_ ?_
  · rintro i v H1 H2 hi ⟨s1, a1⟩ ⟨rfl, c, hc, rfl⟩
    have hc' : x.cps.toList[i]? = some c := by simpa using hc
    refine ⟨rfl, ?_⟩
    refine ⟨_, rfl, c, _, rfl, rfl, ?_⟩
    rw [isD_in]
    have hl : ((x.cps.toList.take i).map fun c => V.bl (isD c)).length < sizeLine := by
      rw [List.length_map, List.length_take]
      have : i < x.length := hi
      exact Nat.lt_of_le_of_lt (Nat.min_le_left _ _) (by have := small1000 (n := i) (by omega); exact this)
    refine ⟨_, a1, hl, same_put s1 hD, ?_⟩
    rw [upd_same, List.take_succ, hc']
    simp
  rintro H1 ⟨s1, a1⟩
  rw [List.take_of_length_le (show x.cps.toList.length ≤ x.cps.size by simp)] at a1
  refine ⟨D, x.cps.toList.map isD, rfl, .of (by rw [a1, List.map_map]; rfl), true && (x.cps.toList.map isD).all id, by simp, ?_⟩
  have hall : (x.cps.toList.map isD).all id = x.cps.toList.all isD := by rw [List.all_map]; rfl
  rw [hall, Bool.true_and]
  cases h3 : x.cps.toList.all isD with
  | false =>
    refine iteT (back H1 s1 ?_)
    unfold readV dig10
    rw [if_neg]
    rw [h3]
    simp
  | true =>
    have hd : dig10 x = true := by
      unfold dig10
      rw [h3, decide_eq_true (show 1 ≤ x.length by omega), decide_eq_true (show x.length ≤ 10 by omega)]
      rfl
    have hne : x.cps.toList ≠ [] := fun e => by rw [e] at hsz; simp at hsz; omega
    obtain ⟨c0, r0, he⟩ := List.exists_cons_of_ne_nil hne
    have hA : NumText.AllDigits x.cps.toList := fun c hc => by
      have z := List.all_eq_true.mp h3 c hc
      unfold isD at z
      simp only [Bool.and_eq_true, decide_eq_true_eq] at z
      exact z
    have hI : intText? x = some ((NumText.digitsVal x.cps.toList : Nat) : Int) := intText_digits hA hne (by omega)
    refine iteF ⟨_, rfl, x, 0, c0, rfl, rfl, hx, (by rw [he]; exact atI_nat (j := 0) rfl), rfl, _, rfl, ?_⟩
    have hh : x.cps.toList.headD 0 = c0 := by rw [he]; rfl
    have tail : ¬ ((⟨#[x.cps.toList.headD 0]⟩ : Str) = "0" ∧ ¬ x = "0") →
        tSeq (tAsg (tCB (fun xs H Q => ∃ a n, xs = [V.str a] ∧ intText? a = some n ∧ a.length ≤ 640 ∧ Q (.int n) H) (tCons (tVar 0) tNil)) (gName 1))
          (tRet (tIf (tTest (tOp (rI0 fun i j => .bl (decide (i < j))) (tVar 1) (tC (.int 4294967296)))) (tVar 1) (tC .non))) { nx := fun _ H' => Q .non H', rt := Q } [some (.str x), none, none] H1 := by
      intro hn
      have hv : readV x = if ((NumText.digitsVal x.cps.toList : Nat) : Int) < 4294967296 then some ((NumText.digitsVal x.cps.toList : Nat) : Int) else none := by
        unfold readV
        rw [if_pos hd, if_neg hn]
      refine ⟨_, rfl, x, _, rfl, hI, by omega, ?_⟩
      generalize ((NumText.digitsVal x.cps.toList : Nat) : Int) = v at hv
      refine ⟨_, rfl, v, 4294967296, rfl, rfl, _, rfl, ?_⟩
      by_cases h6 : v < 4294967296
      · rw [decide_eq_true h6]
        refine iteT ⟨_, rfl, ?_⟩
        have z := k H1 s1
        rw [hv, if_pos h6] at z
        exact z
      · rw [decide_eq_false h6]
        rw [if_neg h6] at hv
        exact iteF (back H1 s1 hv)
    by_cases h4 : (⟨#[c0]⟩ : Str) = "0"
    · rw [decide_eq_true (show V.str (⟨#[c0]⟩ : Str) = V.str "0" from congrArg V.str h4)]
      refine iteT ⟨_, rfl, rfl, _, rfl, ?_⟩
      by_cases h5 : x = "0"
      · rw [decide_eq_true (show V.str x = V.str "0" from congrArg V.str h5)]
        refine iteF ?_
        exact tail (fun z => z.2 h5)
      · rw [decide_eq_false (show ¬ V.str x = V.str "0" from fun e => h5 (V.str.inj e))]
        refine iteT (back H1 s1 ?_)
        unfold readV
        rw [if_pos hd, if_pos ⟨by rw [hh]; exact h4, h5⟩]
    · rw [decide_eq_false (show ¬ V.str (⟨#[c0]⟩ : Str) = V.str "0" from fun e => h4 (V.str.inj e))]
      refine iteF (iteF ?_)
      exact tail (fun z => h4 (by rw [hh] at z; exact z.1))
end
end K3
namespace K3
open PySem L2 Own StX ClX NdefX
def spBI (K : PySem.W.Frag) : Sp := fun vs H Q _ => ∃ p C dx n i o, vs = [.ref p, n, i, o] ∧ H p = some (.ins C dx []) ∧ Cls K C ∧ NoAttr K C "name" ∧ NoAttr K C "inputs" ∧ NoAttr K C "outputs" ∧ Q .non (upd H p (.ins C dx (F3 n i o)))
def spFeed (K : PySem.W.Frag) : Sp := fun vs H Q _ => ∃ (a : Addr) (ns : List Int) (k : Int), vs = [.ref a, .int k] ∧ SqL K H a (ns.map V.int) ∧ 0 ≤ k ∧ k ≤ 100 ∧
  ∀ p d s, 0 ≤ d → H p = none → Q (.ref p) (upd H p (.lst [.int d, .int s]))
def spTake : Sp := fun vs H Q _ => ∃ (a : Addr) (d s m : Int), vs = [.ref a, .int m] ∧ H a = some (.lst [.int d, .int s]) ∧ 0 ≤ d ∧ 0 < m ∧ m ≤ 8589934592 ∧
  ∀ r d' s', 0 ≤ d' → 0 ≤ r → r < m → Q (.int r) (upd H a (.lst [.int d', .int s']))
def spPickL : Sp := fun vs H Q _ => ∃ (a b : Addr) (d s : Int) (xs : List V), vs = [.ref a, .ref b] ∧ H a = some (.lst [.int d, .int s]) ∧ H b = some (.lst xs) ∧ a ≠ b ∧ 0 ≤ d ∧ 0 < xs.length ∧ xs.length ≤ 1000 ∧
  ∀ x d' s', x ∈ xs → 0 ≤ d' → Q x (upd H a (.lst [.int d', .int s']))

def spPI (K : PySem.W.Frag) (C : Addr) : Sp := fun vs H Q _ => ∃ (p dx : Addr) (z : Str) (c : V), vs = [.ref p, .str z, c] ∧ z ∈ words9 ∧ H p = some (.ins C dx []) ∧ ∀ i o, PortsOk K z i o → Q .non (upd H p (.ins C dx (F4 (.str z) i o c)))
def spParse (K : PySem.W.Frag) (C : Addr) : Sp := fun vs H Q _ => ∃ (x z : Str) (c : Option Int), vs = [.ref C, .str x] ∧ x.length ≤ sizeLine ∧ readP x = some (z, c) ∧ ∀ y dx i o H', Same H H' → H y = none → H' y = some (.ins C dx (F4 (.str z) i o (optV c))) → PortsOk K z i o → Q (.ref y) H'
/-- a primitive's text -/
def txt (z : Str) : Option Int → Str
  | none => z
  | some n => Str.empty ++ z ++ " " ++ Str.ofString (toString n)
def spStr (C : Addr) : Sp := fun vs H Q _ => ∃ (p dx : Addr) (z : Str) (i o : V) (c : Option Int), vs = [.ref p] ∧ H p = some (.ins C dx (F4 (.str z) i o (optV c))) ∧ z.length ≤ 100 ∧ (∀ n, c = some n → 0 ≤ n ∧ n < 4294967296) ∧ Q (.str (txt z c)) H
theorem sl (a b : Str) : (a ++ b).length = a.length + b.length := by rw [TL.len_tl, TL.len_tl a, TL.len_tl b, TL.tl_append, List.length_append]
theorem readP_word {x z : Str} {c : Option Int} (h : readP x = some (z, c)) : z ∈ words9 := by
  unfold readP at h
  split at h
  · rename_i hw
    split at h
    · cases e : readV (Txt.partition x " ").2.2 with
      | none => rw [e] at h; cases h
      | some v => rw [e] at h; cases h; exact hw
    · split at h
      · cases h; exact hw
      · cases h
  · cases h
theorem ww9 (z : Str) (h : z ∈ words9) : inV (.str z) [.str "const", .str "delay"] = decide (z = "const" ∨ z = "delay") := by
  simp only [words9, List.mem_cons, List.not_mem_nil, or_false] at h
  rcases h with rfl | rfl | rfl | rfl | rfl | rfl | rfl | rfl | rfl <;> decide +kernel
section
variable {P : Program} {w : World} {K : PySem.W.Frag} {mg : Str → Option Value} {base : Heap} {C : Addr}
theorem scRP : FnScope ["text", "word", "space", "rest", "constant"] ["text"] (defScope sRP) := ⟨rfl, rfl, rfl, by decide +kernel, rfl, by decide +kernel, by decide +kernel⟩
theorem ok_rp {f fV : Addr} {fd fdV : FuncData} (F : Fun K "read_primitive" "read_primitive" sRP f fd) (T : Txt K w mg C) (GV : FnOk P w K mg base CX0 1 fV fdV ["text"] spRV) (mV : mg "read_value" = some (.ref fV)) (kV : PySem.W.keepIn K (.ref fV) = true) (bV : Binds K fdV ["text"] []) :
    FnOk P w K mg base CX0 2 f fd ["text"] spRP := by
  refine F.ok scRP (fun vs H Q E h => ?_) (fun cdv A outer s H vs Q E hr h => ?_)
  · obtain ⟨x, rfl, _⟩ := h
    rfl
  obtain ⟨x, rfl, hx, kn, ks⟩ := h
  obtain ⟨d, es, n, hd, D, hP, hM⟩ := T.pp
  obtain ⟨dW, hW, hWs⟩ := T.ww
  refine ⟨_, pss_cons (ps_asg (pe_partition (pv 0) pe_str) (pg_tup (by rfl) (pgs_cons (pg_name (i := 1) scRP.nd rfl (.inl rfl)) (pgs_cons (pg_name (i := 2) scRP.nd rfl (.inl rfl)) (pgs_cons (pg_name (i := 3) scRP.nd rfl (.inl rfl)) pgs_nil)))))
    (pss_cons (ps_if (pt_cmpR (op_notIn_kd D) (pv 1) (pe_glob (v := .ref d) rfl hd rfl) (by rfl)) (pss_one (ps_ret pe_non)) pss_nil)
    (pss_cons (ps_if (pt_cmpR op_notIn_seq (pv 1) (pe_glob (v := .ref dW) rfl hW rfl) (by rfl)) (pss_one (ps_ret (pe_ifExp (pt_truth (pv 2) (by intro _; rfl)) pe_non (pe_tup (pa_cons (pv 1) (pa_cons pe_non pa_nil)))))) pss_nil)
    (pss_cons (ps_set (i := 4) scRP.nd rfl (.inl rfl) (pe_call GV hr rfl mV kV bV .nil pass0 (pa_cons (pv 3) pa_nil)))
    (pss_one (ps_ret (pe_ifExp (pt_cmpR op_isN (pv 4) pe_non (nomark _)) pe_non (pe_tup (pa_cons (pv 1) (pa_cons (pv 4) pa_nil))))))))), ?_⟩
  refine ⟨_, rfl, ⟨_, rfl⟩, _, _, rfl, rfl, by decide +kernel, hx, fun p hp => ?_⟩
  have hrest := part_rest x
  obtain ⟨R, er⟩ : ∃ R, readP x = R := ⟨_, rfl⟩
  rw [er] at kn ks
  unfold readP at er
  have hsp : (Txt.partition x " ").2.1.length ≤ 1 := by
    rw [TL.partition_par x " " (by decide +kernel)]
    split
    · exact (by decide +kernel : (" " : Str).length ≤ 1)
    · exact Nat.zero_le _
  generalize (Txt.partition x " ").1 = z at er
  generalize (Txt.partition x " ").2.1 = sp at er hsp
  generalize (Txt.partition x " ").2.2 = rs at er hrest
  refine ⟨p, _, rfl, .of upd_same, rfl, _, _, rfl, _, _, rfl, _, _, rfl, rfl, ?_⟩
  have s1 := upd_new (o := .tup [V.str z, V.str sp, V.str rs]) hp
  by_cases hz : z ∈ words9
  case neg =>
    rw [if_neg hz] at er
    exact ⟨_, rfl, z, none, rfl, rfl, hM z hz, _, rfl, iteT (kn er.symm _ s1)⟩
  rw [if_pos hz] at er
  obtain ⟨u, tp, i, o, h1, h2, h3, h4⟩ := hP z hz
  refine ⟨_, rfl, z, some u, rfl, rfl, h1, _, rfl, iteF ⟨_, rfl, dW, _, rfl, .inr (hWs _), rfl, rfl, _, rfl, ?_⟩⟩
  rw [ww9 z hz]
  by_cases hcd : z = "const" ∨ z = "delay"
  · rw [decide_eq_true hcd]
    rw [if_pos hcd] at er
    refine iteF ⟨_, rfl, rs, rfl, by omega, fun H1 s2 => ?_⟩
    have s3 := s1.trans s2
    cases ev : readV rs with
    | none =>
      rw [ev] at er
      exact ⟨_, rfl, rfl, _, rfl, iteT (kn er.symm _ s3)⟩
    | some v =>
      rw [ev] at er
      refine ⟨_, rfl, rfl, _, rfl, iteF ⟨_, rfl, _, rfl, small1 (by show 2 ≤ 8; decide), fun t ht => ?_⟩⟩
      exact ks z (some v) er.symm t _ (s3.trans (upd_new ht)) (s3.free ht) upd_same
  · rw [decide_eq_false hcd]
    rw [if_neg hcd] at er
    refine iteT ⟨_, rfl, _, ⟨Nat.le_trans hsp (by decide), rfl⟩, ?_⟩
    by_cases hs0 : sp.length = 0
    · rw [if_pos hs0] at er
      rw [show ((sp.length : Int) != 0) = false by simp [hs0]]
      refine iteF ⟨_, rfl, small1 (by show 2 ≤ 8; decide), fun t ht => ?_⟩
      exact ks z none er.symm t _ (s1.trans (upd_new ht)) (s1.free ht) upd_same
    · rw [if_neg hs0] at er
      rw [show ((sp.length : Int) != 0) = true by simp [hs0]]
      exact iteT (kn er.symm _ s1)
theorem scBI : FnScope ["self", "name", "inputs", "outputs"] ["self", "name", "inputs", "outputs"] (defScope sBI) := ⟨rfl, rfl, rfl, by decide +kernel, rfl, by decide +kernel, by decide +kernel⟩
theorem ok_bi {f : Addr} {fd : FuncData} (F : Fun K "__init__" "Block.__init__" sBI f fd) : FnOk P w K mg base CX0 1 f fd ["self", "name", "inputs", "outputs"] (spBI K) := by
  refine F.ok scBI (fun vs H Q E h => ?_) (fun cdv A outer s H vs Q E hr h => ?_)
  · obtain ⟨p, C, dx, n, i, o, rfl, _⟩ := h
    rfl
  obtain ⟨p, C, dx, n, i, o, rfl, hp, c, n1, n2, n3, k⟩ := h
  refine ⟨_, pss_cons (ps_fld (pv 0) (pv 1) rfl) (pss_cons (ps_fld (pv 0) (pv 2) rfl) (pss_one (ps_fld (pv 0) (pv 3) rfl))), ?_⟩
  refine ⟨_, rfl, _, rfl, p, C, dx, [], rfl, hp, c, n1, (by show 0 < 1000; decide), ?_⟩
  refine ⟨_, rfl, _, rfl, p, C, dx, _, rfl, upd_same, c, n2, (by have := putF_len (f := "name") (v := n) []; simp only [List.length_nil] at this; omega), ?_⟩
  refine ⟨_, rfl, _, rfl, p, C, dx, _, rfl, upd_same, c, n3, (by
    have h2 := putF_len (f := "inputs") (v := i) (putF "name" n [])
    have h3 := putF_len (f := "name") (v := n) []
    simp only [List.length_nil] at h3
    omega), ?_⟩
  rw [upd_upd, upd_upd]
  exact k

/-! ### Primitive.__init__ -/
def nfPI (cc cda : Addr) : NF := ⟨"__init__", "Primitive.__init__", defArgs sPI, defBody sPI, defScope sPI, [("__class__", cc)], cda⟩
theorem nsPI : NScope ["self", "name", "constant", "__class__", "inputs", "outputs"] ["self", "name", "constant"] ["__class__"] (defScope sPI) := nscope_by (by decide +kernel)
theorem ndPI : (["self", "name", "constant", "__class__", "inputs", "outputs"] : List Str).Nodup := by decide +kernel
structure PIn (K : PySem.W.Frag) (P : Program) (C f cc cda fB : Addr) : Prop where
  ex : ∃ oc od osl doc pm an ct, K.lookup f = some ⟨oc, od, .func (PySem.W.fnX "__init__" "Primitive.__init__" (defArgs sPI) (defBody sPI) (defScope sPI) [(("__class__" : Str), cc)] .none .none doc pm an (.ref cda) ct), osl⟩ ∧
    SupK K P f cda cc C (PySem.W.fnX "__init__" "Primitive.__init__" (defArgs sPI) (defBody sPI) (defScope sPI) [(("__class__" : Str), cc)] .none .none doc pm an (.ref cda) ct) "self"
  code : PySem.W.codeIn K (.ref cda) "Primitive.__init__" = true
  sc : SupC K C C "__init__" fB
theorem ok_pi {f cc cda fB : Addr} {fdB : FuncData} (Z : PIn K P C f cc cda fB) (T : Txt K w mg C) (GB : FnOk P w K mg base CX0 1 fB fdB ["self", "name", "inputs", "outputs"] (spBI K)) (bB : Binds K fdB ["self", "name", "inputs", "outputs"] []) :
    FnR P w K mg base CX0 2 f (spPI K C) := by
  obtain ⟨oc, od, osl, doc, pm, an, ct, lk, SK⟩ := Z.ex
  have GR : FnR P w K mg base CX0 1 fB (spBI K) := by
    have z := GB.raw bB .nil
    simpa only [List.append_nil] using z
  refine fnr_super (F := nfPI cc cda) (cc := cc) (D := C) lk Z.code rfl SK.cell nsPI (fun us hl => match us, hl with | [_, _, _], _ => rfl) (fun vs H Q E h => ?_) (fun A outer s H vs Q E hr h => ?_)
  · obtain ⟨p, dx, z, c, rfl, _⟩ := h
    rfl
  obtain ⟨p, dx, z, c, rfl, hz, hp, k⟩ := h
  obtain ⟨d, es, n, hd, D, hP, _⟩ := T.pp
  refine ⟨_, psa_cons (ps_asg (pe_ix ix_kdict (pe_glob (v := .ref d) rfl hd rfl) (pv 1) (fun _ _ => rfl)) (pg_tup (by rfl) (pgs_cons (pg_name (i := 4) ndPI rfl (.inl rfl)) (pgs_cons (pg_name (i := 5) ndPI rfl (.inl rfl)) pgs_nil))))
    (psa_super (self := "self") SK rfl rfl rfl rfl rfl rfl rfl T.sup GR hr pass0 (pa_cons (pv 1) (pa_cons (pv 4) (pa_cons (pv 5) pa_nil))) (psa_of (pss_one (ps_fld (pv 0) (pv 2) rfl)))), ?_⟩
  obtain ⟨u, tp, x, y, h1, h2, h3, h4⟩ := hP z hz
  refine ⟨_, rfl, d, z, .ref tp, rfl, rfl, ⟨es, n, u, D.at_, D.lit, h1, h2⟩, tp, _, rfl, h3 _, rfl, _, _, rfl, _, _, rfl, rfl, ?_⟩
  refine ⟨p, C, dx, [], rfl, hp, Z.sc, _, rfl, _, rfl, _, rfl, p, C, dx, _, _, _, rfl, hp, T.cl, T.nN, T.nI, T.nO, ?_⟩
  refine ⟨_, rfl, _, rfl, p, C, dx, _, rfl, upd_same, T.cl, T.nC, (by have := F3_len (.str z) x y; omega), ?_⟩
  rw [upd_upd]
  exact k x y h4
theorem scPa : FnScope ["cls", "text", "found", "name", "constant"] ["cls", "text"] (defScope sParse) := ⟨rfl, rfl, rfl, by decide +kernel, rfl, by decide +kernel, by decide +kernel⟩
theorem ok_parse {f fR fI : Addr} {fd fdR : FuncData} (F : Fun K "parse" "Primitive.parse" sParse f fd) (T : Txt K w mg C) (GR : FnOk P w K mg base CX0 2 fR fdR ["text"] spRP) (mR : mg "read_primitive" = some (.ref fR)) (kR : PySem.W.keepIn K (.ref fR) = true) (bR : Binds K fdR ["text"] [])
    (M : Mk K C fI) (GI : FnR P w K mg base CX0 2 fI (spPI K C)) : FnOk P w K mg base CX0 4 f fd ["cls", "text"] (spParse K C) := by
  refine F.ok scPa (fun vs H Q E h => ?_) (fun cdv A outer s H vs Q E hr h => ?_)
  · obtain ⟨x, z, c, rfl, _⟩ := h
    rfl
  obtain ⟨x, z, c, rfl, hx, hR, k⟩ := h
  refine ⟨_, pss_cons (ps_set (i := 2) scPa.nd rfl (.inl rfl) (pe_call GR (hr.mono (by decide)) rfl mR kR bR .nil pass0 (pa_cons (pv 1) pa_nil)))
    (pss_cons (ps_if (pt_cmpR op_isN (pv 2) pe_non (nomark _)) pss_never pss_nil)
    (pss_cons (ps_asg (pv 2) (pg_tup (by rfl) (pgs_cons (pg_name (i := 3) scPa.nd rfl (.inl rfl)) (pgs_cons (pg_name (i := 4) scPa.nd rfl (.inl rfl)) pgs_nil))))
    (pss_one (ps_ret (pe_makeL (i := 0) M GI hr rfl (.inl rfl) pass0 (pa_cons (pv 3) (pa_cons (pv 4) pa_nil))))))), ?_⟩
  refine ⟨_, rfl, x, rfl, hx, fun e => (by rw [hR] at e; cases e), fun z' c' e t H' s1 ht ht' => ?_⟩
  rw [hR] at e
  cases e
  refine ⟨_, rfl, rfl, _, rfl, iteF ?_⟩
  refine ⟨_, rfl, t, _, rfl, .of ht', rfl, _, _, rfl, _, _, rfl, rfl, ?_⟩
  refine ⟨rfl, _, rfl, _, rfl, fun y dx hy hdx hne => ⟨y, dx, z, optV c, rfl, readP_word hR, upd_same, fun i o hio => ⟨rfl, ?_⟩⟩⟩
  refine k y dx i o _ (fun b u e => ?_) (s1.free hy) upd_same hio
  have e1 := s1 b u e
  rw [upd_ne (ne_of_none e1 hy), upd_ne (ne_of_none e1 hy), upd_ne (ne_of_none e1 hdx)]
  exact e1
theorem scSt : FnScope ["self"] ["self"] (defScope sStr) := ⟨rfl, rfl, rfl, by decide +kernel, rfl, by decide +kernel, by decide +kernel⟩
theorem log32 {n : Int} (h0 : 0 ≤ n) (h1 : n < 4294967296) : n.natAbs.log2 < 1920 := by
  have h2 : n.natAbs < 2 ^ 32 := by omega
  exact Nat.lt_trans (PySem.Flt.log2_lt_of (by decide) h2) (by decide)
theorem num_len {n : Int} (h0 : 0 ≤ n) (h1 : n < 4294967296) : (Str.ofString (toString n)).length ≤ 10 := PyProof.Rows.toString_length_le h0 (by decide) (by omega)
theorem ok_str {f : Addr} {fd : FuncData} (F : Fun K "__str__" "Primitive.__str__" sStr f fd) (T : Txt K w mg C) : FnOk P w K mg base CX0 1 f fd ["self"] (spStr C) := by
  refine F.ok scSt (fun vs H Q E h => ?_) (fun cdv A outer s H vs Q E hr h => ?_)
  · obtain ⟨p, dx, z, i, o, c, rfl, _⟩ := h
    rfl
  obtain ⟨p, dx, z, i, o, c, rfl, hp, hz, hc, k⟩ := h
  refine ⟨_, pss_cons (ps_if (pt_cmpR op_isN (pe_fld (pv 0) rfl) pe_non (nomark _)) (pss_one (ps_ret (pe_callTy SkE.call_str_str (by rfl) T.zs (by decide +kernel) (pa_cons (pe_fld (pv 0) rfl) pa_nil)))) pss_nil)
    (pss_one (ps_ret (pe_joined (.cons (pe_fmt (pe_fld (pv 0) rfl)) (.cons pe_str (.cons (pe_fmt (pe_fld (pv 0) rfl)) .nil)))))), ?_⟩
  refine ⟨_, rfl, p, C, dx, _, _, rfl, hp, T.cl, T.nC, F4_const _ _ _ _, rfl, _, rfl, ?_⟩
  cases c with
  | none =>
    refine iteT ⟨_, rfl, p, C, dx, _, _, rfl, hp, T.cl, T.nN, F4_name _ _ _ _, _, rfl, k⟩
  | some n =>
    obtain ⟨h0, h1⟩ := hc n rfl
    have hl := num_len h0 h1
    have e1 : (Str.empty ++ z).length = z.length := by rw [sl]; exact Nat.zero_add _
    have e2 : (Str.empty ++ z ++ (" " : Str)).length = z.length + 1 := by rw [sl, e1]; rfl
    have e3 : (Str.empty ++ z ++ (" " : Str) ++ Str.ofString (toString n)).length ≤ 1000 := by rw [sl, e2]; omega
    refine iteF ⟨_, rfl, p, C, dx, _, _, rfl, hp, T.cl, T.nN, F4_name _ _ _ _, .inl ⟨z, rfl, Nat.le_trans hz (by decide), z, rfl, ?_, " ", rfl, ?_, _, rfl, p, C, dx, _, _, rfl, hp, T.cl, T.nC, F4_const _ _ _ _, .inr ⟨n, rfl, log32 h0 h1, _, rfl, ?_, k⟩⟩⟩
    · rw [e1]; exact Nat.le_trans hz (by decide)
    · rw [e2]; exact Nat.le_of_lt (small1000 (by omega))
    · exact Nat.le_of_lt (small1000 e3)
theorem scFe : FnScope ["script", "k", "cell", "digits", "state"] ["script", "k"] (defScope sFeed) := ⟨rfl, rfl, rfl, by decide +kernel, rfl, by decide +kernel, by decide +kernel⟩
theorem ok_feed {f : Addr} {fd : FuncData} (F : Fun K "_law_feed" "_law_feed" sFeed f fd) (mlen : mg "len" = none) (mmax : mg "max" = none) (mabs : mg "abs" = none) : FnOk P w K mg base CX0 1 f fd ["script", "k"] (spFeed K) := by
  refine F.ok scFe (fun vs H Q E h => ?_) (fun cdv A outer s H vs Q E hr h => ?_)
  · obtain ⟨a, ns, k, rfl, _⟩ := h
    rfl
  obtain ⟨a, ns, k, rfl, hS, h0, h1, q⟩ := h
  refine ⟨_, pss_join (ps_set (i := 2) scFe.nd rfl (.inl rfl) (pe_ifExp (pt_cmpR op_lt (pv 1) (pe_callB call_len_seq (by rfl) mlen PySem.boot_len (pa_cons (pv 0) pa_nil)) (nomark _)) (pe_ix ix_list (pv 0) (pv 1) (fun _ _ => rfl)) (pe_op op_add (pe_op op_mul pe_int (pv 1)) pe_int)))
    (pss_cons (ps_set (i := 3) scFe.nd rfl (.inl rfl) (pe_callB (call_max2 rfl) (by rfl) mmax (by decide +kernel) (pa_cons pe_int (pa_cons (pe_op op_sub (pe_callB call_abs (by rfl) mabs (by decide +kernel) (pa_cons (pv 2) pa_nil)) (pe_op op_pow pe_int pe_int)) pa_nil))))
    (pss_cons (ps_set (i := 4) scFe.nd rfl (.inl rfl) (pe_op op_mod (pe_op op_add (pe_op op_add (pe_op op_mul (pv 2) pe_int) (pe_op op_mul pe_int (pv 1))) pe_int) pe_int))
    (pss_one (ps_ret (pe_lst (pa_cons (pv 3) (pa_cons (pv 4) pa_nil))))))), ?_⟩
  refine ⟨fun σ H' => H' = H ∧ ∃ c : Int, σ = [some (.ref a), some (.int k), some (.int c), none, none], ?_, ?_⟩
  · refine ⟨_, rfl, _, rfl, a, _, rfl, .inl hS, _, _, rfl, rfl, _, rfl, ?_⟩
    by_cases hc : k < (ns.map V.int).length
    · rw [decide_eq_true hc]
      have hj : k.toNat < ns.length := by rw [List.length_map] at hc; omega
      exact iteT ⟨_, rfl, _, rfl, a, _, _, .int (ns[k.toNat]), rfl, rfl, hS, at_of (j := k.toNat) (by omega) (by simp [hj]), rfl, _, rfl⟩
    · rw [decide_eq_false hc]
      exact iteF ⟨_, rfl, _, _, rfl, rfl, .inl ⟨by decide, by decide⟩, _, _, rfl, rfl, rfl, _, rfl⟩
  rintro σ H' ⟨rfl, c, rfl⟩
  refine ⟨_, rfl, _, rfl, _, _, rfl, rfl, ⟨by decide, by decide, by decide⟩, _, _, rfl, rfl, _, _, rfl, ?_⟩
  refine ⟨_, rfl, _, _, rfl, rfl, .inr ⟨by decide, by decide⟩, _, rfl, _, _, rfl, rfl, .inl ⟨by decide, by decide⟩, _, _, rfl, rfl, _, _, rfl, rfl, _, _, rfl, rfl, (by show (0 : Int) < 2305843009213693951; decide), ?_⟩
  refine ⟨_, rfl, _, rfl, small1 (by show 2 ≤ 8; decide), fun p hp => q p _ _ ?_ hp⟩
  split <;> omega
theorem scTk : FnScope ["feed", "many", "digit"] ["feed", "many"] (defScope sTake) := ⟨rfl, rfl, rfl, by decide +kernel, rfl, by decide +kernel, by decide +kernel⟩
theorem log_many {m : Int} (h : 0 < m) (h2 : m ≤ 8589934592) : m.natAbs.log2 < 9000 := by
  have h2 : m.natAbs < 2 ^ 34 := by omega
  exact Nat.lt_trans (PySem.Flt.log2_lt_of (by decide) h2) (by decide)
theorem ok_take {f : Addr} {fd : FuncData} (F : Fun K "_law_take" "_law_take" sTake f fd) : FnOk P w K mg base CX0 1 f fd ["feed", "many"] spTake := by
  refine F.ok scTk (fun vs H Q E h => ?_) (fun cdv A outer s H vs Q E hr h => ?_)
  · obtain ⟨a, d, s, m, rfl, _⟩ := h
    rfl
  obtain ⟨a, d, s, m, rfl, ha, h0, hm, hm2, k⟩ := h
  have at0 : ∀ x y : Int, atI [V.int x, V.int y] 0 = some (.int x) := fun x y => at_of (j := 0) rfl rfl
  have at1 : ∀ x y : Int, atI [V.int x, V.int y] 1 = some (.int y) := fun x y => at_of (j := 1) rfl rfl
  have ix0 : ixN 2 0 = some 0 := by decide +kernel
  have ix1 : ixN 2 1 = some 1 := by decide +kernel
  refine ⟨_, pss_cons (ps_if (pt_cmpR op_gt (pe_ix ix_list (pv 0) pe_int (fun _ _ => rfl)) pe_int (nomark _))
      (pss_cons (ps_set (i := 2) scTk.nd rfl (.inl rfl) (pe_op op_mod (pe_ix ix_list (pv 0) pe_int (fun _ _ => rfl)) (pv 1)))
      (pss_cons (ps_asg (pe_op op_fdivW (pe_ix ix_list (pv 0) pe_int (fun _ _ => rfl)) (pv 1)) (pg_sub (pv 0) pe_int set_list))
      (pss_one (ps_ret (pv 2))))) pss_nil)
    (pss_cons (ps_asg (pe_op op_mod (pe_op op_add (pe_op op_mul (pe_ix ix_list (pv 0) pe_int (fun _ _ => rfl)) pe_int) pe_int) pe_int) (pg_sub (pv 0) pe_int set_list))
    (pss_one (ps_ret (pe_op op_mod (pe_op op_fdiv (pe_ix ix_list (pv 0) pe_int (fun _ _ => rfl)) pe_int) (pv 1))))), ?_⟩
  refine ⟨_, rfl, a, _, _, _, rfl, rfl, .of ha, at0 _ _, _, _, rfl, rfl, _, rfl, ?_⟩
  by_cases hc : 0 < d
  · rw [decide_eq_true hc]
    refine iteT ⟨_, rfl, a, _, _, _, rfl, rfl, .of ha, at0 _ _, _, rfl, _, _, rfl, rfl, hm, ?_⟩
    refine ⟨_, rfl, a, _, _, _, rfl, rfl, .of ha, at0 _ _, _, rfl, _, _, rfl, rfl, ⟨hm, log_many hm hm2⟩, _, rfl, a, _, _, 0, rfl, rfl, ha, ix0, ?_⟩
    exact ⟨_, rfl, k _ _ s (Int.ediv_nonneg h0 (by omega)) (Int.emod_nonneg _ (by omega)) (Int.emod_lt_of_pos _ hm)⟩
  · rw [decide_eq_false hc]
    refine iteF ⟨_, rfl, a, _, _, _, rfl, rfl, .of ha, at1 _ _, _, _, rfl, rfl, .inr ⟨by decide, by decide⟩, _, _, rfl, rfl, _, _, rfl, rfl, (by show (0 : Int) < 2305843009213693951; decide), _, rfl, a, _, _, 1, rfl, rfl, ha, ix1, ?_⟩
    refine ⟨_, rfl, a, _, _, _, rfl, rfl, .of upd_same, at1 _ _, _, _, rfl, rfl, ⟨by decide, by decide⟩, _, rfl, _, _, rfl, rfl, hm, ?_⟩
    exact k _ d _ h0 (Int.emod_nonneg _ (by omega)) (Int.emod_lt_of_pos _ hm)
theorem scPk : FnScope ["feed", "some"] ["feed", "some"] (defScope sPickL) := ⟨rfl, rfl, rfl, by decide +kernel, rfl, by decide +kernel, by decide +kernel⟩
theorem ok_pickl {f fT : Addr} {fd fdT : FuncData} (F : Fun K "_law_pick" "_law_pick" sPickL f fd) (GT : FnOk P w K mg base CX0 1 fT fdT ["feed", "many"] spTake) (mT : mg "_law_take" = some (.ref fT)) (kT : PySem.W.keepIn K (.ref fT) = true) (bT : Binds K fdT ["feed", "many"] []) (mlen : mg "len" = none) :
    FnOk P w K mg base CX0 2 f fd ["feed", "some"] spPickL := by
  refine F.ok scPk (fun vs H Q E h => ?_) (fun cdv A outer s H vs Q E hr h => ?_)
  · obtain ⟨a, b, d, s, xs, rfl, _⟩ := h
    rfl
  obtain ⟨a, b, d, s, xs, rfl, ha, hb, hab, h0, hx0, hx1, k⟩ := h
  refine ⟨_, pss_one (ps_ret (pe_ix ix_list (pv 1) (pe_call GT hr rfl mT kT bT .nil pass0 (pa_cons (pv 0) (pa_cons (pe_callB call_len_seq (by rfl) mlen PySem.boot_len (pa_cons (pv 1) pa_nil)) pa_nil))) (fun _ _ => rfl))), ?_⟩
  refine ⟨_, rfl, _, rfl, _, rfl, b, xs, rfl, .inl (.of hb), a, d, s, xs.length, rfl, ha, h0, by omega, by omega, fun r d' s' hd hr0 hr1 => ?_⟩
  have hj : r.toNat < xs.length := by omega
  refine ⟨b, xs, r, xs[r.toNat], rfl, rfl, .of ?_, at_of (j := r.toNat) (by omega) (by simp [hj]), k _ d' s' (List.getElem_mem _) hd⟩
  rw [upd_ne (fun e => hab e.symm)]
  exact hb

end
end K3
namespace K3
open PySem L2 Own StX ClX NdefX
abbrev sAdd : Stmt := top 13
abbrev sSub : Stmt := top 14
abbrev sMul : Stmt := top 15
abbrev sLess : Stmt := top 16
abbrev sEqual : Stmt := top 17
abbrev sPick : Stmt := top 18
abbrev sDivide : Stmt := top 19
abbrev sComp : Stmt := inClass (top 22) 3
abbrev sDue : Stmt := top 27
abbrev sLaw : Stmt := top 28
inductive Nm where
  | add | sub | mul | less | equal | pick | divide
  deriving DecidableEq
def Nm.s : Nm → Str
  | .add => "add" | .sub => "sub" | .mul => "mul" | .less => "less" | .equal => "equal" | .pick => "pick" | .divide => "divide"
def Nm.comp : Nm → List Int → List Int
  | .add, [a, b] => [(a + b) % 4294967296]
  | .sub, [a, b] => [(a - b) % 4294967296]
  | .mul, [a, b] => [(a * b) % 4294967296]
  | .less, [a, b] => [if a < b then 1 else 0]
  | .equal, [a, b] => [if a = b then 1 else 0]
  | .pick, [c, a, b] => [if c = 0 then b else a]
  | .divide, [a, b] => if b = 0 then [0, a] else [a / b, a % b]
  | _, _ => []
def In32 (x : Int) : Prop := 0 ≤ x ∧ x < 4294967296
def Nm.ok : Nm → List Int → Prop
  | .pick, [c, a, b] => In32 c ∧ In32 a ∧ In32 b
  | .pick, _ => False
  | _, [a, b] => In32 a ∧ In32 b
  | _, _ => False
def spRule (nm : Nm) : Sp := fun vs H Q _ => ∃ args : List Int, vs = args.map V.int ∧ nm.ok args ∧ ∀ p, H p = none → Q (.ref p) (upd H p (.tup ((nm.comp args).map V.int)))
theorem ok2 {nm : Nm} (h : nm ≠ .pick) {args : List Int} (o : nm.ok args) : ∃ a b, args = [a, b] ∧ In32 a ∧ In32 b := by
  cases nm with
  | pick => exact absurd rfl h
  | _ =>
    match args, o with
    | [a, b], o => exact ⟨a, b, rfl, o⟩
theorem ok3 {args : List Int} (o : Nm.pick.ok args) : ∃ c a b, args = [c, a, b] ∧ In32 c ∧ In32 a ∧ In32 b := by
  match args, o with
  | [c, a, b], o => exact ⟨c, a, b, rfl, o⟩

def spComp (K : PySem.W.Frag) (C : Addr) : Sp := fun vs H Q _ => ∃ (p t dx : Addr) (i o c : V) (z : Str), vs = [.ref p, .ref t] ∧ H p = some (.ins C dx (F4 (.str z) i o c)) ∧
  ((∃ (nm : Nm) (args : List Int), z = nm.s ∧ SqT K H t (args.map V.int) ∧ nm.ok args ∧ ∀ r, H r = none → Q (.ref r) (upd H r (.tup ((nm.comp args).map V.int)))) ∨
   (z = "const" ∧ ∀ r, H r = none → Q (.ref r) (upd H r (.tup [c]))))
def spDue (K : PySem.W.Frag) : Sp := fun vs H Q _ => ∃ (nm : Nm) (t : Addr) (args : List Int), vs = [.str nm.s, .ref t] ∧ SqT K H t (args.map V.int) ∧ nm.ok args ∧ ∀ r, H r = none → Q (.ref r) (upd H r (.tup ((nm.comp args).map V.int)))
theorem nm_nc (nm : Nm) : ¬ nm.s = "const" := by cases nm <;> decide +kernel
theorem nm_len (nm : Nm) : nm.s.length ≤ 8 := by cases nm <;> decide +kernel
theorem seq {a b : Str} {c : Bool} (h : decide (a = b) = c) : V.bl (decide (V.str a = V.str b)) = V.bl c := by
  rw [← h]
  by_cases e : a = b
  · rw [decide_eq_true e, decide_eq_true (congrArg V.str e)]
  · rw [decide_eq_false e, decide_eq_false (fun z => e (V.str.inj z))]
section
variable {P : Program} {w : World} {K : PySem.W.Frag} {mg : Str → Option Value} {base : Heap} {C : Addr}
theorem scAdd : FnScope ["a", "b"] ["a", "b"] (defScope sAdd) := ⟨rfl, rfl, rfl, by decide +kernel, rfl, by decide +kernel, by decide +kernel⟩
theorem scSub : FnScope ["a", "b"] ["a", "b"] (defScope sSub) := ⟨rfl, rfl, rfl, by decide +kernel, rfl, by decide +kernel, by decide +kernel⟩
theorem scMul : FnScope ["a", "b"] ["a", "b"] (defScope sMul) := ⟨rfl, rfl, rfl, by decide +kernel, rfl, by decide +kernel, by decide +kernel⟩
theorem scLess : FnScope ["a", "b"] ["a", "b"] (defScope sLess) := ⟨rfl, rfl, rfl, by decide +kernel, rfl, by decide +kernel, by decide +kernel⟩
theorem scEqual : FnScope ["a", "b"] ["a", "b"] (defScope sEqual) := ⟨rfl, rfl, rfl, by decide +kernel, rfl, by decide +kernel, by decide +kernel⟩
theorem scPick : FnScope ["c", "a", "b"] ["c", "a", "b"] (defScope sPick) := ⟨rfl, rfl, rfl, by decide +kernel, rfl, by decide +kernel, by decide +kernel⟩
theorem scDivide : FnScope ["a", "b"] ["a", "b"] (defScope sDivide) := ⟨rfl, rfl, rfl, by decide +kernel, rfl, by decide +kernel, by decide +kernel⟩
theorem len2 {nm : Nm} (h : nm ≠ .pick) {vs : List V} {H : Hp} {Q : VK} {E : XK} (o : spRule nm vs H Q E) : vs.length = 2 := by
  obtain ⟨args, rfl, o, _⟩ := o
  obtain ⟨a, b, rfl, _⟩ := ok2 h o
  rfl
theorem ok_add {f : Addr} {fd : FuncData} (F : Fun K "_add" "_add" sAdd f fd) {tk : Tok} (hM : mg "MODULUS" = some (.int 4294967296 tk)) : FnOk P w K mg base CX0 1 f fd ["a", "b"] (spRule .add) := by
  refine F.ok scAdd (fun vs H Q E h => len2 (by decide) h) (fun cdv A outer s H vs Q E hr h => ?_)
  obtain ⟨args, rfl, o, k⟩ := h
  obtain ⟨a, b, rfl, ha, hb⟩ := ok2 (by decide) o
  refine ⟨_, pss_one (ps_ret (pe_tup (pa_cons (pe_op op_mod (pe_op op_add (pv 0) (pv 1)) (pe_glob (v := .int 4294967296) rfl hM ⟨_, rfl⟩)) pa_nil))), ?_⟩
  refine ⟨_, rfl, _, rfl, _, _, rfl, rfl, _, _, rfl, rfl, (by show (0 : Int) < 4294967296; decide), small1 (by show 1 ≤ 8; decide), fun p hp => k p hp⟩
theorem ok_sub {f : Addr} {fd : FuncData} (F : Fun K "_sub" "_sub" sSub f fd) {tk : Tok} (hM : mg "MODULUS" = some (.int 4294967296 tk)) : FnOk P w K mg base CX0 1 f fd ["a", "b"] (spRule .sub) := by
  refine F.ok scSub (fun vs H Q E h => len2 (by decide) h) (fun cdv A outer s H vs Q E hr h => ?_)
  obtain ⟨args, rfl, o, k⟩ := h
  obtain ⟨a, b, rfl, ha, hb⟩ := ok2 (by decide) o
  refine ⟨_, pss_one (ps_ret (pe_tup (pa_cons (pe_op op_mod (pe_op op_sub (pv 0) (pv 1)) (pe_glob (v := .int 4294967296) rfl hM ⟨_, rfl⟩)) pa_nil))), ?_⟩
  refine ⟨_, rfl, _, rfl, _, _, rfl, rfl, _, _, rfl, rfl, (by show (0 : Int) < 4294967296; decide), small1 (by show 1 ≤ 8; decide), fun p hp => k p hp⟩
theorem ok_mul {f : Addr} {fd : FuncData} (F : Fun K "_mul" "_mul" sMul f fd) {tk : Tok} (hM : mg "MODULUS" = some (.int 4294967296 tk)) : FnOk P w K mg base CX0 1 f fd ["a", "b"] (spRule .mul) := by
  refine F.ok scMul (fun vs H Q E h => len2 (by decide) h) (fun cdv A outer s H vs Q E hr h => ?_)
  obtain ⟨args, rfl, o, k⟩ := h
  obtain ⟨a, b, rfl, ha, hb⟩ := ok2 (by decide) o
  refine ⟨_, pss_one (ps_ret (pe_tup (pa_cons (pe_op op_mod (pe_op op_mul (pv 0) (pv 1)) (pe_glob (v := .int 4294967296) rfl hM ⟨_, rfl⟩)) pa_nil))), ?_⟩
  refine ⟨_, rfl, _, rfl, _, _, rfl, rfl, .inl ⟨by have := ha.1; omega, by have := ha.2; omega⟩, _, _, rfl, rfl, (by show (0 : Int) < 4294967296; decide), small1 (by show 1 ≤ 8; decide), fun p hp => k p hp⟩
theorem ok_less {f : Addr} {fd : FuncData} (F : Fun K "_less" "_less" sLess f fd) : FnOk P w K mg base CX0 1 f fd ["a", "b"] (spRule .less) := by
  refine F.ok scLess (fun vs H Q E h => len2 (by decide) h) (fun cdv A outer s H vs Q E hr h => ?_)
  obtain ⟨args, rfl, o, k⟩ := h
  obtain ⟨a, b, rfl, ha, hb⟩ := ok2 (by decide) o
  refine ⟨_, pss_one (ps_ret (pe_tup (pa_cons (pe_ifExp (pt_cmpR op_lt (pv 0) (pv 1) (nomark _)) pe_int pe_int) pa_nil))), ?_⟩
  refine ⟨_, rfl, _, rfl, _, _, rfl, rfl, _, rfl, ?_⟩
  by_cases hc : a < b
  · rw [decide_eq_true hc]
    refine iteT ⟨small1 (by show 1 ≤ 8; decide), fun p hp => ?_⟩
    have z := k p hp
    simp only [Nm.comp, if_pos hc] at z
    exact z
  · rw [decide_eq_false hc]
    refine iteF ⟨small1 (by show 1 ≤ 8; decide), fun p hp => ?_⟩
    have z := k p hp
    simp only [Nm.comp, if_neg hc] at z
    exact z
theorem ok_equal {f : Addr} {fd : FuncData} (F : Fun K "_equal" "_equal" sEqual f fd) : FnOk P w K mg base CX0 1 f fd ["a", "b"] (spRule .equal) := by
  refine F.ok scEqual (fun vs H Q E h => len2 (by decide) h) (fun cdv A outer s H vs Q E hr h => ?_)
  obtain ⟨args, rfl, o, k⟩ := h
  obtain ⟨a, b, rfl, ha, hb⟩ := ok2 (by decide) o
  refine ⟨_, pss_one (ps_ret (pe_tup (pa_cons (pe_ifExp (pt_cmpR op_eq (pv 0) (pv 1) (nomark _)) pe_int pe_int) pa_nil))), ?_⟩
  refine ⟨_, rfl, _, rfl, rfl, _, rfl, ?_⟩
  by_cases hc : a = b
  · rw [decide_eq_true (show V.int a = V.int b by rw [hc])]
    refine iteT ⟨small1 (by show 1 ≤ 8; decide), fun p hp => ?_⟩
    have z := k p hp
    simp only [Nm.comp, if_pos hc] at z
    exact z
  · rw [decide_eq_false (show ¬ V.int a = V.int b from fun e => hc (V.int.inj e))]
    refine iteF ⟨small1 (by show 1 ≤ 8; decide), fun p hp => ?_⟩
    have z := k p hp
    simp only [Nm.comp, if_neg hc] at z
    exact z
theorem ok_pick {f : Addr} {fd : FuncData} (F : Fun K "_pick" "_pick" sPick f fd) : FnOk P w K mg base CX0 1 f fd ["c", "a", "b"] (spRule .pick) := by
  refine F.ok scPick (fun vs H Q E h => ?_) (fun cdv A outer s H vs Q E hr h => ?_)
  · obtain ⟨args, rfl, o, _⟩ := h
    obtain ⟨c, a, b, rfl, _⟩ := ok3 o
    rfl
  obtain ⟨args, rfl, o, k⟩ := h
  obtain ⟨c, a, b, rfl, hc, ha, hb⟩ := ok3 o
  refine ⟨_, pss_one (ps_ret (pe_tup (pa_cons (pe_ifExp (pt_cmpR op_eq (pv 0) pe_int (nomark _)) (pv 2) (pv 1)) pa_nil))), ?_⟩
  refine ⟨_, rfl, rfl, _, rfl, ?_⟩
  by_cases hc : c = 0
  · rw [decide_eq_true (show V.int c = V.int 0 by rw [hc])]
    refine iteT ⟨_, rfl, small1 (by show 1 ≤ 8; decide), fun p hp => ?_⟩
    have z := k p hp
    simp only [Nm.comp, if_pos hc] at z
    exact z
  · rw [decide_eq_false (show ¬ V.int c = V.int 0 from fun e => hc (V.int.inj e))]
    refine iteF ⟨_, rfl, small1 (by show 1 ≤ 8; decide), fun p hp => ?_⟩
    have z := k p hp
    simp only [Nm.comp, if_neg hc] at z
    exact z
theorem log_small {b : Int} (h : In32 b) : b.natAbs.log2 < 9000 := by
  have h2 : b.natAbs < 2 ^ 32 := by have := h.1; have := h.2; omega
  exact Nat.lt_trans (PySem.Flt.log2_lt_of (by decide) h2) (by decide)
theorem ok_divide {f : Addr} {fd : FuncData} (F : Fun K "_divide" "_divide" sDivide f fd) : FnOk P w K mg base CX0 1 f fd ["a", "b"] (spRule .divide) := by
  refine F.ok scDivide (fun vs H Q E h => len2 (by decide) h) (fun cdv A outer s H vs Q E hr h => ?_)
  obtain ⟨args, rfl, o, k⟩ := h
  obtain ⟨a, b, rfl, ha, hb⟩ := ok2 (by decide) o
  refine ⟨_, pss_cons (ps_if (pt_cmpR op_eq (pv 1) pe_int (nomark _)) (pss_one (ps_ret (pe_tup (pa_cons pe_int (pa_cons (pv 0) pa_nil))))) pss_nil)
    (pss_one (ps_ret (pe_tup (pa_cons (pe_op op_fdivW (pv 0) (pv 1)) (pa_cons (pe_op op_mod (pv 0) (pv 1)) pa_nil))))), ?_⟩
  refine ⟨_, rfl, rfl, _, rfl, ?_⟩
  by_cases hc : b = 0
  · rw [decide_eq_true (show V.int b = V.int 0 by rw [hc])]
    refine iteT ⟨_, rfl, small1 (by show 2 ≤ 8; decide), fun p hp => ?_⟩
    have z := k p hp
    simp only [Nm.comp, if_pos hc] at z
    exact z
  · rw [decide_eq_false (show ¬ V.int b = V.int 0 from fun e => hc (V.int.inj e))]
    have hpos : 0 < b := by have := hb.1; omega
    refine iteF ⟨_, rfl, _, rfl, _, _, rfl, rfl, ⟨hpos, log_small hb⟩, _, rfl, _, rfl, _, _, rfl, rfl, hpos, small1 (by show 2 ≤ 8; decide), fun p hp => ?_⟩
    have z := k p hp
    simp only [Nm.comp, if_neg hc] at z
    exact z

theorem scCo : FnScope ["self", "values", "rule"] ["self", "values"] (defScope sComp) := ⟨rfl, rfl, rfl, by decide +kernel, rfl, by decide +kernel, by decide +kernel⟩
theorem ok_comp {f : Addr} {fd : FuncData} (F : Fun K "compute" "Primitive.compute" sComp f fd) (T : Txt K w mg C)
    (RU : ∃ d es n, mg "RULES" = some (.ref d) ∧ KDict K w d es n ∧ ∀ nm : Nm, ∃ g, PySem.W.nsIn K d nm.s = some (some (.ref g)) ∧ FnR P w K mg base CX0 1 g (spRule nm) ∧ PySem.W.keepIn K (.ref g) = true) :
    FnOk P w K mg base CX0 2 f fd ["self", "values"] (spComp K C) := by
  refine F.ok scCo (fun vs H Q E h => ?_) (fun cdv A outer s H vs Q E hr h => ?_)
  · obtain ⟨p, t, dx, i, o, c, z, rfl, _⟩ := h
    rfl
  obtain ⟨p, t, dx, i, o, c, z, rfl, hp, hc⟩ := h
  obtain ⟨d, es, n, hd, D, hR⟩ := RU
  refine ⟨_, pss_cons (ps_if (pt_cmpR op_eq (pe_fld (pv 0) rfl) pe_str (nomark _)) (pss_one (ps_ret (pe_tup (pa_cons (pe_fld (pv 0) rfl) pa_nil)))) pss_nil)
    (pss_cons (ps_set (i := 2) scCo.nd rfl (.inl rfl) (pe_ix ix_kdict (pe_glob (v := .ref d) rfl hd rfl) (pe_fld (pv 0) rfl) (fun _ _ => rfl)))
    (pss_one (ps_ret (pe_callLS (i := 2) hr rfl (.inl rfl) pass0 (pv 1))))), ?_⟩
  refine ⟨_, rfl, p, C, dx, _, _, rfl, hp, T.cl, T.nN, F4_name _ _ _ _, rfl, _, rfl, ?_⟩
  rcases hc with ⟨nm, args, rfl, ht, hok, k⟩ | ⟨rfl, k⟩
  · obtain ⟨g, hg, G, kg⟩ := hR nm
    rw [decide_eq_false (show ¬ V.str nm.s = V.str "const" from fun e => nm_nc nm (V.str.inj e))]
    refine iteF ⟨_, rfl, p, C, dx, _, _, rfl, hp, T.cl, T.nN, F4_name _ _ _ _, d, nm.s, .ref g, rfl, rfl, ⟨es, n, _, D.at_, D.lit, hg, rfl⟩, ?_⟩
    exact ⟨g, spRule nm, rfl, G, kg, _, rfl, t, _, rfl, .inl ht, args, rfl, hok, fun r hr => k r hr⟩
  · rw [decide_eq_true rfl]
    exact iteT ⟨_, rfl, p, C, dx, _, _, rfl, hp, T.cl, T.nC, F4_const _ _ _ _, small1 (by show 1 ≤ 8; decide), fun r hr => k r hr⟩
theorem scDu : FnScope ["name", "values", "one", "other", "found"] ["name", "values"] (defScope sDue) := ⟨rfl, rfl, rfl, by decide +kernel, rfl, by decide +kernel, by decide +kernel⟩
theorem e32 : ((2 : Int) ^ (32 : Int).toNat) = 4294967296 := by decide
theorem ok_due {f : Addr} {fd : FuncData} (F : Fun K "_law_due" "_law_due" sDue f fd) : FnOk P w K mg base CX0 1 f fd ["name", "values"] (spDue K) := by
  refine F.ok scDu (fun vs H Q E h => ?_) (fun cdv A outer s H vs Q E hr h => ?_)
  · obtain ⟨nm, t, args, rfl, _⟩ := h
    rfl
  obtain ⟨nm, t, args, rfl, ht, hok, k⟩ := h
  refine ⟨_, pss_cons (ps_if (pt_cmpR op_eq (pv 0) pe_str (nomark _)) (pss_one (ps_ret (pe_ifExp (pt_cmpR op_eq (pe_ix ix_tup (pv 1) pe_int (fun _ _ => rfl)) pe_int (nomark _)) (pe_tup (pa_cons (pe_ix ix_tup (pv 1) pe_int (fun _ _ => rfl)) pa_nil)) (pe_tup (pa_cons (pe_ix ix_tup (pv 1) pe_int (fun _ _ => rfl)) pa_nil))))) pss_nil)
    (pss_cons (ps_asg (pv 1) (pg_tup (by rfl) (pgs_cons (pg_name (i := 2) scDu.nd rfl (.inl rfl)) (pgs_cons (pg_name (i := 3) scDu.nd rfl (.inl rfl)) pgs_nil))))
    (pss_cons (ps_if (pt_cmpR op_eq (pv 0) pe_str (nomark _)) (pss_cons (ps_set (i := 4) scDu.nd rfl (.inl rfl) (pe_op op_add (pv 2) (pv 3))) (pss_one (ps_ret (pe_ifExp (pt_cmpR op_lt (pv 4) (pe_op op_pow pe_int pe_int) (nomark _)) (pe_tup (pa_cons (pv 4) pa_nil)) (pe_tup (pa_cons (pe_op op_sub (pv 4) (pe_op op_pow pe_int pe_int)) pa_nil)))))) pss_nil)
    (pss_cons (ps_if (pt_cmpR op_eq (pv 0) pe_str (nomark _)) (pss_one (ps_ret (pe_ifExp (pt_cmpR op_ge (pv 2) (pv 3) (nomark _)) (pe_tup (pa_cons (pe_op op_sub (pv 2) (pv 3)) pa_nil)) (pe_tup (pa_cons (pe_op op_add (pe_op op_sub (pv 2) (pv 3)) (pe_op op_pow pe_int pe_int)) pa_nil))))) pss_nil)
    (pss_cons (ps_if (pt_cmpR op_eq (pv 0) pe_str (nomark _)) (pss_one (ps_ret (pe_tup (pa_cons (pe_op op_sub (pe_op op_mul (pv 2) (pv 3)) (pe_op op_mul (pe_op op_fdivW (pe_op op_mul (pv 2) (pv 3)) (pe_op op_pow pe_int pe_int)) (pe_op op_pow pe_int pe_int))) pa_nil)))) pss_nil)
    (pss_cons (ps_if (pt_cmpR op_eq (pv 0) pe_str (nomark _)) (pss_one (ps_ret (pe_ifExp (pt_cmpR op_lt (pv 2) (pv 3) (nomark _)) (pe_tup (pa_cons pe_int pa_nil)) (pe_tup (pa_cons pe_int pa_nil))))) pss_nil)
    (pss_cons (ps_if (pt_cmpR op_eq (pv 0) pe_str (nomark _)) (pss_one (ps_ret (pe_ifExp (pt_cmpR op_eq (pv 2) (pv 3) (nomark _)) (pe_tup (pa_cons pe_int pa_nil)) (pe_tup (pa_cons pe_int pa_nil))))) pss_nil)
    (pss_cons (ps_if (pt_cmpR op_eq (pv 3) pe_int (nomark _)) (pss_one (ps_ret (pe_tup (pa_cons pe_int (pa_cons (pv 2) pa_nil))))) pss_nil)
    (pss_one (ps_ret (pe_tup (pa_cons (pe_op op_fdivW (pv 2) (pv 3)) (pa_cons (pe_op op_sub (pv 2) (pe_op op_mul (pe_op op_fdivW (pv 2) (pv 3)) (pv 3))) pa_nil)))))))))))), ?_⟩
  have fin : ∀ {l : List Int} {p : Addr} {H' : Hp}, l = nm.comp args → H' = H → H' p = none → Q (.ref p) (upd H' p (.tup (l.map V.int))) := fun {l p H'} e e2 hp => by
    subst e e2
    exact k p hp
  have s1 : 1 ≤ sizeLine := small1 (by decide)
  have s2 : 2 ≤ sizeLine := small1 (by decide)
  have c32 : CPow 2 32 := ⟨by decide, by decide, by decide⟩
  have d32 : CDivW 0 ((2 : Int) ^ (32 : Int).toNat) := by rw [e32]; exact ⟨by decide, by decide +kernel⟩
  cases nm with
  | pick =>
    obtain ⟨c, a, b, rfl, hc, ha, hb⟩ := ok3 hok
    have at0 : atI [V.int c, V.int a, V.int b] 0 = some (.int c) := at_of (j := 0) rfl rfl
    have at1 : atI [V.int c, V.int a, V.int b] 1 = some (.int a) := at_of (j := 1) rfl rfl
    have at2 : atI [V.int c, V.int a, V.int b] 2 = some (.int b) := at_of (j := 2) rfl rfl
    refine ⟨_, rfl, rfl, true, seq (by decide +kernel), iteT ⟨_, rfl, t, _, _, _, rfl, rfl, ht, at0, rfl, _, rfl, ?_⟩⟩
    by_cases h0 : c = 0
    · rw [decide_eq_true (congrArg V.int h0)]
      refine iteT ⟨_, rfl, t, _, _, _, rfl, rfl, ht, at2, s1, fun p hp => fin (l := [b]) ?_ rfl hp⟩
      show _ = [if c = 0 then b else a]
      rw [if_pos h0]
    · rw [decide_eq_false (fun e => h0 (V.int.inj e))]
      refine iteF ⟨_, rfl, t, _, _, _, rfl, rfl, ht, at1, s1, fun p hp => fin (l := [a]) ?_ rfl hp⟩
      show _ = [if c = 0 then b else a]
      rw [if_neg h0]
  | add =>
    obtain ⟨a, b, rfl, ha, hb⟩ := ok2 (by decide) hok
    have h1 := ha.1; have h2 := ha.2; have h3 := hb.1; have h4 := hb.2
    refine ⟨_, rfl, rfl, false, seq (by decide +kernel), iteF ⟨_, rfl, t, _, rfl, ht, rfl, _, _, rfl, _, _, rfl, rfl, ?_⟩⟩
    refine ⟨_, rfl, rfl, true, seq (by decide +kernel), iteT ⟨_, rfl, _, rfl, _, _, rfl, rfl, ?_⟩⟩
    refine ⟨_, rfl, _, _, rfl, rfl, c32, _, _, rfl, rfl, _, rfl, ?_⟩
    rw [e32]
    by_cases h : a + b < 4294967296
    · rw [decide_eq_true h]
      refine iteT ⟨_, rfl, s1, fun p hp => fin (l := [a + b]) ?_ rfl hp⟩
      show _ = [(a + b) % 4294967296]
      rw [Int.emod_eq_of_lt (by omega) h]
    · rw [decide_eq_false h]
      refine iteF ⟨_, rfl, _, _, rfl, rfl, c32, _, _, rfl, rfl, s1, fun p hp => ?_⟩
      rw [e32]
      refine fin (l := [a + b - 4294967296]) ?_ rfl hp
      show _ = [(a + b) % 4294967296]
      congr 1
      omega
  | sub =>
    obtain ⟨a, b, rfl, ha, hb⟩ := ok2 (by decide) hok
    have h1 := ha.1; have h2 := ha.2; have h3 := hb.1; have h4 := hb.2
    refine ⟨_, rfl, rfl, false, seq (by decide +kernel), iteF ⟨_, rfl, t, _, rfl, ht, rfl, _, _, rfl, _, _, rfl, rfl, ?_⟩⟩
    refine ⟨_, rfl, rfl, false, seq (by decide +kernel), iteF ⟨_, rfl, rfl, true, seq (by decide +kernel), iteT ⟨_, rfl, _, rfl, _, _, rfl, rfl, _, rfl, ?_⟩⟩⟩
    by_cases h : b ≤ a
    · rw [decide_eq_true h]
      refine iteT ⟨_, rfl, _, rfl, _, _, rfl, rfl, s1, fun p hp => fin (l := [a - b]) ?_ rfl hp⟩
      show _ = [(a - b) % 4294967296]
      congr 1
      omega
    · rw [decide_eq_false h]
      refine iteF ⟨_, rfl, _, rfl, _, _, rfl, rfl, _, _, rfl, rfl, c32, _, _, rfl, rfl, s1, fun p hp => ?_⟩
      rw [e32]
      refine fin (l := [a - b + 4294967296]) ?_ rfl hp
      show _ = [(a - b) % 4294967296]
      congr 1
      omega
  | mul =>
    obtain ⟨a, b, rfl, ha, hb⟩ := ok2 (by decide) hok
    have h1 := ha.1; have h2 := ha.2; have h3 := hb.1; have h4 := hb.2
    refine ⟨_, rfl, rfl, false, seq (by decide +kernel), iteF ⟨_, rfl, t, _, rfl, ht, rfl, _, _, rfl, _, _, rfl, rfl, ?_⟩⟩
    refine ⟨_, rfl, rfl, false, seq (by decide +kernel), iteF ⟨_, rfl, rfl, false, seq (by decide +kernel), iteF ⟨_, rfl, rfl, true, seq (by decide +kernel), iteT ?_⟩⟩⟩
    refine ⟨_, rfl, _, rfl, _, _, rfl, rfl, .inl ⟨by omega, by omega⟩, _, rfl, _, rfl, _, _, rfl, rfl, .inl ⟨by omega, by omega⟩, _, _, rfl, rfl, c32, _, _, rfl, rfl, d32, _, _, rfl, rfl, c32, _, _, rfl, rfl, .inr (by rw [e32]; exact ⟨by decide, by decide⟩), _, _, rfl, rfl, s1, fun p hp => ?_⟩
    rw [e32]
    refine fin (l := [a * b - a * b / 4294967296 * 4294967296]) ?_ rfl hp
    show _ = [(a * b) % 4294967296]
    congr 1
    generalize a * b = m
    omega
  | less =>
    obtain ⟨a, b, rfl, ha, hb⟩ := ok2 (by decide) hok
    refine ⟨_, rfl, rfl, false, seq (by decide +kernel), iteF ⟨_, rfl, t, _, rfl, ht, rfl, _, _, rfl, _, _, rfl, rfl, ?_⟩⟩
    refine ⟨_, rfl, rfl, false, seq (by decide +kernel), iteF ⟨_, rfl, rfl, false, seq (by decide +kernel), iteF ⟨_, rfl, rfl, false, seq (by decide +kernel), iteF ⟨_, rfl, rfl, true, seq (by decide +kernel), iteT ?_⟩⟩⟩⟩
    refine ⟨_, rfl, _, rfl, _, _, rfl, rfl, _, rfl, ?_⟩
    by_cases h : a < b
    · rw [decide_eq_true h]
      refine iteT ⟨s1, fun p hp => fin (l := [1]) ?_ rfl hp⟩
      show _ = [if a < b then 1 else 0]
      rw [if_pos h]
    · rw [decide_eq_false h]
      refine iteF ⟨s1, fun p hp => fin (l := [0]) ?_ rfl hp⟩
      show _ = [if a < b then 1 else 0]
      rw [if_neg h]
  | equal =>
    obtain ⟨a, b, rfl, ha, hb⟩ := ok2 (by decide) hok
    refine ⟨_, rfl, rfl, false, seq (by decide +kernel), iteF ⟨_, rfl, t, _, rfl, ht, rfl, _, _, rfl, _, _, rfl, rfl, ?_⟩⟩
    refine ⟨_, rfl, rfl, false, seq (by decide +kernel), iteF ⟨_, rfl, rfl, false, seq (by decide +kernel), iteF ⟨_, rfl, rfl, false, seq (by decide +kernel), iteF ⟨_, rfl, rfl, false, seq (by decide +kernel), iteF ⟨_, rfl, rfl, true, seq (by decide +kernel), iteT ?_⟩⟩⟩⟩⟩
    refine ⟨_, rfl, _, rfl, rfl, _, rfl, ?_⟩
    by_cases h : a = b
    · rw [decide_eq_true (congrArg V.int h)]
      refine iteT ⟨s1, fun p hp => fin (l := [1]) ?_ rfl hp⟩
      show _ = [if a = b then 1 else 0]
      rw [if_pos h]
    · rw [decide_eq_false (fun e => h (V.int.inj e))]
      refine iteF ⟨s1, fun p hp => fin (l := [0]) ?_ rfl hp⟩
      show _ = [if a = b then 1 else 0]
      rw [if_neg h]
  | divide =>
    obtain ⟨a, b, rfl, ha, hb⟩ := ok2 (by decide) hok
    have h1 := ha.1; have h2 := ha.2; have h3 := hb.1; have h4 := hb.2
    refine ⟨_, rfl, rfl, false, seq (by decide +kernel), iteF ⟨_, rfl, t, _, rfl, ht, rfl, _, _, rfl, _, _, rfl, rfl, ?_⟩⟩
    refine ⟨_, rfl, rfl, false, seq (by decide +kernel), iteF ⟨_, rfl, rfl, false, seq (by decide +kernel), iteF ⟨_, rfl, rfl, false, seq (by decide +kernel), iteF ⟨_, rfl, rfl, false, seq (by decide +kernel), iteF ⟨_, rfl, rfl, false, seq (by decide +kernel), iteF ?_⟩⟩⟩⟩⟩
    refine ⟨_, rfl, rfl, _, rfl, ?_⟩
    by_cases h : b = 0
    · rw [decide_eq_true (congrArg V.int h)]
      refine iteT ⟨_, rfl, s2, fun p hp => fin (l := [0, a]) ?_ rfl hp⟩
      show _ = if b = 0 then [0, a] else [a / b, a % b]
      rw [if_pos h]
    · rw [decide_eq_false (fun e => h (V.int.inj e))]
      have hpos : 0 < b := by omega
      have hq : a / b ≤ a := Int.ediv_le_self _ h1
      have hq0 : 0 ≤ a / b := Int.ediv_nonneg h1 h3
      refine iteF ⟨_, rfl, _, rfl, _, _, rfl, rfl, ⟨hpos, log_small hb⟩, _, rfl, _, rfl, _, rfl, _, _, rfl, rfl, ⟨hpos, log_small hb⟩, _, rfl, _, _, rfl, rfl, .inl ⟨by omega, by omega⟩, _, _, rfl, rfl, s2, fun p hp => ?_⟩
      refine fin (l := [a / b, a - a / b * b]) ?_ rfl hp
      show _ = if b = 0 then [0, a] else [a / b, a % b]
      rw [if_neg h]
      congr 2
      have := Int.mul_ediv_add_emod a b
      rw [Int.mul_comm] at this
      omega
end
end K3
namespace K3
open PySem L2
/-! ### numbers as texts -/
theorem numL_head : ∀ n : Nat, 1 ≤ n → ∃ c r, TL.numL n = c :: r ∧ 49 ≤ c ∧ c ≤ 57 := by
  intro n
  induction n using Nat.strongRecOn with
  | _ n ih =>
    intro h
    by_cases h10 : n < 10
    · exact ⟨48 + n, [], TL.numL_lt h10, by omega, by omega⟩
    · obtain ⟨c, r, e, h1, h2⟩ := ih (n / 10) (by omega) (by omega)
      exact ⟨c, r ++ [48 + n % 10], by rw [TL.numL_step (by omega), e]; rfl, h1, h2⟩
theorem tl_int {n : Int} (h : 0 ≤ n) : (Str.ofString (toString n)).cps.toList = TL.numL n.toNat := by
  have e := TL.tl_num n.toNat
  rw [show ((n.toNat : Nat) : Int) = n by omega] at e
  exact e
theorem readV_num {n : Int} (h0 : 0 ≤ n) (h1 : n < 4294967296) : readV (Str.ofString (toString n)) = some n := by
  have et := tl_int h0
  have hl := num_len h0 h1
  have hlen : (Str.ofString (toString n)).length = (TL.numL n.toNat).length := by rw [TL.len_tl]; exact congrArg List.length et
  have hne := TL.numL_ne n.toNat
  have hpos : 1 ≤ (TL.numL n.toNat).length := by
    cases e : TL.numL n.toNat with
    | nil => exact absurd e hne
    | cons a r => simp
  have hall : (TL.numL n.toNat).all isD = true := List.all_eq_true.mpr fun c hc => by
    have z := TL.numL_digits n.toNat c hc
    unfold isD
    simp only [Bool.and_eq_true, decide_eq_true_eq]
    exact z
  have hd : dig10 (Str.ofString (toString n)) = true := by
    unfold dig10
    rw [et, hall, decide_eq_true (show 1 ≤ (Str.ofString (toString n)).length by omega), decide_eq_true hl]
    rfl
  have hz : ¬ ((⟨#[(Str.ofString (toString n)).cps.toList.headD 0]⟩ : Str) = "0" ∧ ¬ Str.ofString (toString n) = "0") := by
    rintro ⟨z1, z2⟩
    rw [et] at z1
    by_cases hn : n.toNat = 0
    · have : n = 0 := by omega
      subst this
      exact z2 (by decide +kernel)
    · obtain ⟨c, r, e, h2, _⟩ := numL_head n.toNat (by omega)
      rw [e] at z1
      have z3 : ((⟨#[c]⟩ : Str)).cps.toList = (("0" : Str)).cps.toList := congrArg (fun x : Str => x.cps.toList) z1
      rw [show (("0" : Str)).cps.toList = [48] by decide +kernel] at z3
      have : c = 48 := by simpa using z3
      omega
  have hv : ((NumText.digitsVal (Str.ofString (toString n)).cps.toList : Nat) : Int) = n := by
    rw [et, TL.numL_val]
    omega
  unfold readV
  rw [if_pos hd, if_neg hz, hv, if_pos h1]
theorem part_of {z : Str} (h : 32 ∉ z.cps.toList) (y : Str) : Txt.partition (z ++ " " ++ y) " " = (z, (" " : Str), y) := TL.partition_app (y := " ") (s := 32) (S := []) (by decide +kernel) h
theorem readP_num {z : Str} (hz : z = "const" ∨ z = "delay") {n : Int} (h0 : 0 ≤ n) (h1 : n < 4294967296) : readP (z ++ " " ++ Str.ofString (toString n)) = some (z, some n) := by
  have h32 : 32 ∉ z.cps.toList := by rcases hz with rfl | rfl <;> decide +kernel
  have hw : z ∈ words9 := by rcases hz with rfl | rfl <;> decide +kernel
  unfold readP
  rw [part_of h32]
  rw [if_pos hw, if_pos hz, readV_num h0 h1]
  rfl
theorem readP_nm (nm : Nm) : readP nm.s = some (nm.s, none) := by cases nm <;> decide +kernel
theorem const_sp (x : Str) : (("const " : Str)) ++ x = ("const" : Str) ++ " " ++ x := by
  have e : (("const " : Str)) = ("const" : Str) ++ " " := by decide +kernel
  rw [e]
theorem delay_sp (x : Str) : (("delay " : Str)) ++ x = ("delay" : Str) ++ " " ++ x := by
  have e : (("delay " : Str)) = ("delay" : Str) ++ " " := by decide +kernel
  rw [e]
theorem txt_some (z : Str) (n : Int) : txt z (some n) = z ++ " " ++ Str.ofString (toString n) := by
  have e : Str.empty ++ z = z := TL.ext_tl (by rw [TL.tl_append]; rfl)
  show Str.empty ++ z ++ " " ++ Str.ofString (toString n) = _
  rw [e]
/-! ### shown data is short -/
theorem join_len : ∀ ts : List Str, (Str.join ", " ts).length ≤ (ts.map fun t => t.length + 2).sum
  | [] => Nat.zero_le _
  | t :: r => by
    have z := join_length_add (t :: r) (by simp)
    have p : piled (t :: r) = ((t :: r).map fun t => t.length + 2).sum := rfl
    omega
theorem tup_len (ts : List Str) : (tupleText ts).length ≤ (ts.map fun t => t.length + 2).sum + 3 := by
  unfold tupleText
  rw [sl, sl]
  have h1 := join_len ts
  have h2 : (("(" : Str)).length = 1 := by decide +kernel
  have h3 : ((if ts.length == 1 then ",)" else ")" : String) : Str).length ≤ 2 := by
    split <;> decide +kernel
  omega
theorem ints_sh : ∀ (l : List Int), (∀ x ∈ l, In32 x) → PyData.showableAll (l.map PyData.int) = true ∧ PyData.hasDictAll (l.map PyData.int) = false ∧ PyData.depthAll (l.map PyData.int) ≤ 1 ∧ ((PyData.shownAll (l.map PyData.int)).map fun t => t.length + 2).sum ≤ 12 * l.length
  | [], _ => ⟨rfl, rfl, Nat.zero_le _, Nat.le_refl _⟩
  | x :: r, h => by
    obtain ⟨h1, h2, h3, h4⟩ := ints_sh r fun y hy => h y (List.mem_cons_of_mem _ hy)
    obtain ⟨a, b⟩ := h x List.mem_cons_self
    have hl := num_len a b
    have hs : PyData.showable (.int x) = true := by
      simp only [PyData.showable]
      exact decide_eq_true (log32 a b)
    refine ⟨?_, ?_, ?_, ?_⟩
    · simp only [List.map_cons, PyData.showableAll, hs, h1, Bool.and_self]
    · simp only [List.map_cons, PyData.hasDictAll, PyData.hasDict, h2, Bool.or_self]
    · simp only [List.map_cons, PyData.depthAll, PyData.depth]
      omega
    · simp only [List.map_cons, PyData.shownAll, PyData.shown, List.sum_cons, List.length_cons]
      omega
theorem dp_all {K : PySem.W.Frag} {H : Hp} : ∀ l : List Int, DpAll K H (l.map V.int) (l.map PyData.int)
  | [] => .nil
  | x :: r => .cons (.int x) (dp_all r)
theorem sh (l : List Int) (h : ∀ x ∈ l, In32 x) (hn : l.length ≤ 20) : (PyData.tuple (l.map PyData.int)).showable = true ∧ (PyData.tuple (l.map PyData.int)).hasDict = false ∧ (PyData.tuple (l.map PyData.int)).depth ≤ 60 ∧ (PyData.tuple (l.map PyData.int)).shown.length ≤ sizeLine := by
  obtain ⟨h1, h2, h3, h4⟩ := ints_sh l h
  refine ⟨by simpa only [PyData.showable] using h1, by simpa only [PyData.hasDict] using h2, by simp only [PyData.depth]; omega, ?_⟩
  simp only [PyData.shown]
  have := tup_len (PyData.shownAll (l.map PyData.int))
  exact Nat.le_of_lt (small1000 (by omega))
theorem ne_str {a b : Str} (h : a = b) {A B : Prop} (q : B) : if (!decide (V.str a = V.str b)) = true then A else B := by
  rw [decide_eq_true (congrArg V.str h)]
  exact iteF q
theorem in_mod (z : Int) : In32 (z % 4294967296) := ⟨Int.emod_nonneg _ (by decide), Int.emod_lt_of_pos _ (by decide)⟩
theorem comp_in (nm : Nm) {args : List Int} (h : nm.ok args) : (∀ x ∈ nm.comp args, In32 x) ∧ (nm.comp args).length ≤ 20 := by
  cases nm with
  | pick =>
    obtain ⟨c, a, b, rfl, hc, ha, hb⟩ := ok3 h
    show (∀ x ∈ [if c = 0 then b else a], In32 x) ∧ [if c = 0 then b else a].length ≤ 20
    split
    · exact ⟨fun x hx => by rw [List.mem_singleton] at hx; subst hx; exact hb, (by show 1 ≤ 20; decide)⟩
    · exact ⟨fun x hx => by rw [List.mem_singleton] at hx; subst hx; exact ha, (by show 1 ≤ 20; decide)⟩
  | divide =>
    obtain ⟨a, b, rfl, ha, hb⟩ := ok2 (by decide) h
    show (∀ x ∈ (if b = 0 then [0, a] else [a / b, a % b]), In32 x) ∧ (if b = 0 then [0, a] else [a / b, a % b]).length ≤ 20
    split
    · refine ⟨fun x hx => ?_, (by show 2 ≤ 20; decide)⟩
      simp only [List.mem_cons, List.not_mem_nil, or_false] at hx
      rcases hx with rfl | rfl
      · exact ⟨by decide, by decide⟩
      · exact ha
    · rename_i h0
      have h1 := ha.1
      have h2 := ha.2
      have h3 := hb.1
      have h4 := hb.2
      refine ⟨fun x hx => ?_, by simp⟩
      simp only [List.mem_cons, List.not_mem_nil, or_false] at hx
      rcases hx with rfl | rfl
      · exact ⟨Int.ediv_nonneg h1 h3, Int.lt_of_le_of_lt (Int.ediv_le_self _ h1) h2⟩
      · have := Int.emod_lt_of_pos a (show 0 < b by omega)
        exact ⟨Int.emod_nonneg _ h0, by omega⟩
  | less =>
    obtain ⟨a, b, rfl, ha, hb⟩ := ok2 (by decide) h
    show (∀ x ∈ [if a < b then (1 : Int) else 0], In32 x) ∧ 1 ≤ 20
    refine ⟨fun x hx => ?_, by decide⟩
    rw [List.mem_singleton] at hx
    subst hx
    split <;> exact ⟨by decide, by decide⟩
  | equal =>
    obtain ⟨a, b, rfl, ha, hb⟩ := ok2 (by decide) h
    show (∀ x ∈ [if a = b then (1 : Int) else 0], In32 x) ∧ 1 ≤ 20
    refine ⟨fun x hx => ?_, by decide⟩
    rw [List.mem_singleton] at hx
    subst hx
    split <;> exact ⟨by decide, by decide⟩
  | add =>
    obtain ⟨a, b, rfl, ha, hb⟩ := ok2 (by decide) h
    exact ⟨fun x hx => by have hx : x ∈ [(a + b) % 4294967296] := hx; rw [List.mem_singleton] at hx; subst hx; exact in_mod _, (by show 1 ≤ 20; decide)⟩
  | sub =>
    obtain ⟨a, b, rfl, ha, hb⟩ := ok2 (by decide) h
    exact ⟨fun x hx => by have hx : x ∈ [(a - b) % 4294967296] := hx; rw [List.mem_singleton] at hx; subst hx; exact in_mod _, (by show 1 ≤ 20; decide)⟩
  | mul =>
    obtain ⟨a, b, rfl, ha, hb⟩ := ok2 (by decide) h
    exact ⟨fun x hx => by have hx : x ∈ [(a * b) % 4294967296] := hx; rw [List.mem_singleton] at hx; subst hx; exact in_mod _, (by show 1 ≤ 20; decide)⟩
end K3
namespace K3
open PySem L2 Own StX ClX NdefX
def spLaw (K : PySem.W.Frag) : Sp := fun vs H Q _ => ∃ (a : Addr) (ns : List Int), vs = [.ref a] ∧ SqL K H a (ns.map V.int) ∧ ns.length ≤ 63 ∧ ∀ H', Q (.bl true) H'
abbrev nL : List Str := ["script", "k", "feed", "some", "turn", "again", "one", "other", "third", "name", "block", "values"]
/-- Primitive.parse, compute and str, callable -/
structure Par (P : Program) (w : World) (K : PySem.W.Frag) (mg : Str → Option Value) (base : Heap) (C : Addr) : Prop where
  cm : ∃ mc p g, CRead K C mc ∧ CMet K C mc "parse" p g ∧ FnR P w K mg base CX0 4 g (spParse K C)
  co : ∃ g fd, Meth K C "compute" g ∧ FnOk P w K mg base CX0 2 g fd ["self", "values"] (spComp K C) ∧ Binds K fd ["self", "values"] []
  st : ∃ g, PySem.W.findIn K (.ref C) "__str__" = some (some (.ref g)) ∧ PySem.W.isFn K (.ref g) = true ∧ FnR P w K mg base CX0 1 g (spStr C)
section
variable {P : Program} {w : World} {K : PySem.W.Frag} {mg : Str → Option Value} {base : Heap} {C : Addr}
theorem scL : FnScope nL ["script"] (defScope sLaw) := ⟨rfl, rfl, rfl, by decide +kernel, rfl, by decide +kernel, by decide +kernel⟩
theorem ok_law {f fF fT fP fD : Addr} {fd fdF fdT fdP fdD : FuncData} (F : Fun K "law" "law" sLaw f fd) (T : Txt K w mg C) (Pa : Par P w K mg base C)
    (GF : FnOk P w K mg base CX0 1 fF fdF ["script", "k"] (spFeed K)) (mF : mg "_law_feed" = some (.ref fF)) (kF : PySem.W.keepIn K (.ref fF) = true) (bF : Binds K fdF ["script", "k"] [])
    (GT : FnOk P w K mg base CX0 1 fT fdT ["feed", "many"] spTake) (mT : mg "_law_take" = some (.ref fT)) (kT : PySem.W.keepIn K (.ref fT) = true) (bT : Binds K fdT ["feed", "many"] [])
    (GP : FnOk P w K mg base CX0 2 fP fdP ["feed", "some"] spPickL) (mP : mg "_law_pick" = some (.ref fP)) (kP : PySem.W.keepIn K (.ref fP) = true) (bP : Binds K fdP ["feed", "some"] [])
    (GD : FnOk P w K mg base CX0 1 fD fdD ["name", "values"] (spDue K)) (mD : mg "_law_due" = some (.ref fD)) (kD : PySem.W.keepIn K (.ref fD) = true) (bD : Binds K fdD ["name", "values"] [])
    (mlen : mg "len" = none) (mmax : mg "max" = none) (mmin : mg "min" = none) (mrange : mg "range" = none) (mrepr : mg "repr" = none) : FnG P w K mg base CX0 5 f fd ["script"] (spLaw K) := by
  refine fun_okG F scL (fun vs H Q E h => ?_) (fun cdv A outer s H vs Q E hg hr h => ?_)
  · obtain ⟨a, ns, rfl, _⟩ := h
    rfl
  obtain ⟨a, ns, rfl, hS, hlen, k⟩ := h
  have hr1 := hr.mono (show 1 ≤ 4 by decide)
  have hr2 := hr.mono (show 2 ≤ 4 by decide)
  have hr3 := hr.mono (show 3 ≤ 4 by decide)
  have hu := hr.units
  obtain ⟨mc, pp, gp, cr, cm, G⟩ := Pa.cm
  obtain ⟨gc, fdc, me, GC, bC⟩ := Pa.co
  obtain ⟨gs, fs, is_, GS⟩ := Pa.st
  have e31 : ((2 : Int) ^ (31 : Int).toNat) = 2147483648 := by decide
  refine ⟨_, pss_cons (ps_for PassesOwn.never rfl (pi_range1 rfl mrange (pa_cons (pe_callB (call_max2 rfl) (by rfl) mmax (by decide +kernel) (pa_cons pe_int (pa_cons (pe_callB (call_min2 rfl) (by rfl) mmin (by decide +kernel) (pa_cons pe_int (pa_cons (pe_callB call_len_seq (by rfl) mlen PySem.boot_len (pa_cons (pv 0) pa_nil)) pa_nil))) pa_nil))) pa_nil)) (pg_name (i := 1) scL.nd rfl (.inl rfl))
      (pss_cons (ps_set (i := 2) scL.nd rfl (.inr rfl) (pe_call GF hr1 rfl mF kF bF .nil pass0 (pa_cons (pv 0) (pa_cons (pv 1) pa_nil))))
      (pss_cons (ps_set (i := 3) scL.nd rfl (.inr rfl) (pe_lst (pa_cons pe_int (pa_cons pe_int (pa_cons pe_int (pa_cons (pe_op op_pow pe_int pe_int) (pa_cons (pe_op op_sub (pe_op op_pow pe_int pe_int) pe_int) (pa_cons (pe_op op_sub (pe_op op_pow pe_int pe_int) pe_int) (pa_cons pe_int pa_nil)))))))))
      (pss_cons (ps_set (i := 3) scL.nd rfl (.inr rfl) (pe_op op_cat (pv 3) (pe_lst (pa_cons (pe_call GT hr1 rfl mT kT bT .nil pass0 (pa_cons (pv 2) (pa_cons (pe_op op_pow pe_int pe_int) pa_nil))) (pa_cons (pe_call GT hr1 rfl mT kT bT .nil pass0 (pa_cons (pv 2) (pa_cons pe_int pa_nil))) pa_nil)))))
      (pss_one (ps_for PassesOwn.never rfl (pi_range1 rfl mrange (pa_cons pe_int pa_nil)) (pg_name (i := 4) scL.nd rfl (.inl rfl))
        (pss_cons (ps_asg (pe_lc (own := [("again", 5)]) (g := gName 5) rfl scL.nd (pi_range1 rfl mrange (pa_cons pe_int pa_nil)) (blkOk_by (own := [("again", 5)]) (N := nL) (sc := defScope sLaw) (by decide +kernel)) (fun _ _ _ _ _ => pg_name (i := 5) scL.nd rfl (Or.inl rfl)) (fun _ _ _ _ _ => pts_nil)
            (fun _ _ _ _ _ => pe_call GP hr2 rfl mP kP bP .nil pass0 (pa_cons (pv 2) (pa_cons (pv 3) pa_nil)))) (pg_unl rfl (pgs_cons (pg_name (i := 6) scL.nd rfl (.inl rfl)) (pgs_cons (pg_name (i := 7) scL.nd rfl (.inl rfl)) (pgs_cons (pg_name (i := 8) scL.nd rfl (.inl rfl)) pgs_nil)))))
        (pss_cons (ps_for PassesOwn.never rfl (pi_list (pe_lst (pa_cons pe_str (pa_cons pe_str (pa_cons pe_str (pa_cons pe_str (pa_cons pe_str (pa_cons pe_str pa_nil)))))))) (pg_name (i := 9) scL.nd rfl (.inl rfl))
          (pss_cons (ps_set (i := 10) scL.nd rfl (.inl rfl) (pe_cmeth (pe_glob (v := .ref C) rfl T.mC rfl) cr cm G hr pass0 (pa_cons (pv 9) pa_nil)))
          (pss_one (ps_for PassesOwn.never rfl (pi_list (pe_lst (pa_cons (pe_tup (pa_cons (pv 6) (pa_cons (pv 7) pa_nil))) (pa_cons (pe_tup (pa_cons (pv 7) (pa_cons (pv 6) pa_nil))) (pa_cons (pe_tup (pa_cons (pv 6) (pa_cons (pv 6) pa_nil))) pa_nil))))) (pg_name (i := 11) scL.nd rfl (.inl rfl))
            (pss_cons (ps_for PassesOwn.never rfl (pi_range1 rfl mrange (pa_cons pe_int pa_nil)) (pg_name (i := 5) scL.nd rfl (.inl rfl))
              (pss_one (ps_if (pt_cmpR op_ne (pe_callB (call_reprD hg hu) (by rfl) mrepr (by decide +kernel) (pa_cons (pe_meth (pv 10) T.cl me GC hr2 bC .nil pass0 (pa_cons (pv 11) pa_nil)) pa_nil)) (pe_callB (call_reprD hg hu) (by rfl) mrepr (by decide +kernel) (pa_cons (pe_call GD hr1 rfl mD kD bD .nil pass0 (pa_cons (pv 9) (pa_cons (pv 11) pa_nil))) pa_nil)) (nomark _)) (pss_one (ps_ret pe_bl)) pss_nil)))
            (pss_one (ps_if (PW.pt (pw_or (pt_cmpR op_ne (pe_callTy (call_strO GS hr3 fs is_) (by rfl) T.zs (by decide +kernel) (pa_cons (pv 10) pa_nil)) (pv 9) (nomark _)) (pw_or1 (pt_cmpR op_notN (pe_fld (pv 10) rfl) pe_non (nomark _))))) (pss_one (ps_ret pe_bl)) pss_nil)))))))
        (pss_cons (ps_for PassesOwn.never rfl (pi_list (pe_lst (pa_cons (pe_tup (pa_cons (pv 6) (pa_cons (pv 7) (pa_cons (pv 8) pa_nil)))) (pa_cons (pe_tup (pa_cons pe_int (pa_cons (pv 6) (pa_cons (pv 7) pa_nil)))) (pa_cons (pe_tup (pa_cons (pv 8) (pa_cons (pv 6) (pa_cons (pv 6) pa_nil)))) pa_nil))))) (pg_name (i := 11) scL.nd rfl (.inl rfl))
          (pss_one (ps_if (pt_cmpR op_ne (pe_callB (call_reprD hg hu) (by rfl) mrepr (by decide +kernel) (pa_cons (pe_meth (pe_cmeth (pe_glob (v := .ref C) rfl T.mC rfl) cr cm G hr pass0 (pa_cons pe_str pa_nil)) T.cl me GC hr2 bC .nil pass0 (pa_cons (pv 11) pa_nil)) pa_nil)) (pe_callB (call_reprD hg hu) (by rfl) mrepr (by decide +kernel) (pa_cons (pe_call GD hr1 rfl mD kD bD .nil pass0 (pa_cons pe_str (pa_cons (pv 11) pa_nil))) pa_nil)) (nomark _)) (pss_one (ps_ret pe_bl)) pss_nil)))
        (pss_cons (ps_set (i := 10) scL.nd rfl (.inl rfl) (pe_cmeth (pe_glob (v := .ref C) rfl T.mC rfl) cr cm G hr pass0 (pa_cons (pe_op op_add_str pe_str (pe_callTy call_str_int (by rfl) T.zs (by decide +kernel) (pa_cons (pv 6) pa_nil))) pa_nil)))
        (pss_one (ps_for PassesOwn.never rfl (pi_range1 rfl mrange (pa_cons pe_int pa_nil)) (pg_name (i := 5) scL.nd rfl (.inl rfl))
          (pss_one (ps_if (PW.pt (pw_or (pt_cmpR op_ne (pe_callB (call_reprD hg hu) (by rfl) mrepr (by decide +kernel) (pa_cons (pe_meth (pv 10) T.cl me GC hr2 bC .nil pass0 (pa_cons (pe_tup pa_nil) pa_nil)) pa_nil)) (pe_callB (call_reprD hg hu) (by rfl) mrepr (by decide +kernel) (pa_cons (pe_tup (pa_cons (pv 6) pa_nil)) pa_nil)) (nomark _))
            (pw_or1 (pt_cmpR op_ne (pe_callTy (call_strO GS hr3 fs is_) (by rfl) T.zs (by decide +kernel) (pa_cons (pv 10) pa_nil)) (pe_op op_add_str pe_str (pe_callTy call_str_int (by rfl) T.zs (by decide +kernel) (pa_cons (pv 6) pa_nil))) (nomark _))))) (pss_one (ps_ret pe_bl)) pss_nil))))))))))))))
    (pss_one (ps_ret pe_bl)), ?_⟩
  have cp31 : CPow 2 31 := ⟨by decide, by decide, by decide⟩
  have cp32 : CPow 2 32 := ⟨by decide, by decide, by decide⟩
  refine ⟨_, rfl, a, _, rfl, .inl hS, _, _, rfl, _, _, rfl, _, rfl, by split <;> split <;> omega, by split <;> split <;> omega, ?_⟩
  refine for_range (lo := 0) (fun i σ H1 => ∃ v1 v2 v3 v4 v5 v6 v7 v8 v9 v10 v11, σ = [some (.ref a), v1, v2, v3, v4, v5, v6, v7, v8, v9, v10, v11] ∧ Same H H1) ⟨_, _, _, _, _, _, _, _, _, _, _, rfl, Same.refl _⟩ ?turn1 ?done1
  case done1 =>
    rintro σ H1 ⟨v1, v2, v3, v4, v5, v6, v7, v8, v9, v10, v11, rfl, s1⟩
    exact k H1
  rintro i σ H1 hi ⟨v1, v2, v3, v4, v5, v6, v7, v8, v9, v10, v11, rfl, s1⟩
  have hi6 : i < 7 := by
    have hi := hi
    rw [List.length_map] at hi
    split at hi <;> split at hi <;> omega
  refine ⟨_, rfl, _, rfl, a, ns, _, rfl, s1.seq hS, by omega, by omega, fun p d0 st0 hd0 hp => ?_⟩
  have hHp : H p = none := s1.free hp
  refine ⟨_, _, rfl, rfl, cp31, _, _, rfl, rfl, cp32, _, _, rfl, rfl, _, _, rfl, rfl, cp32, _, _, rfl, rfl, small1 (by show 7 ≤ 8; decide), fun q0 hq0 => ?_⟩
  have hpq0 : p ≠ q0 := ne_of_none upd_same hq0
  have hHq0 : H q0 = none := (same_put s1 hHp).free hq0
  refine ⟨_, rfl, _, rfl, _, _, rfl, rfl, cp32, p, d0, st0, _, rfl, by rw [upd_ne hpq0]; exact upd_same, hd0, by rw [e32]; decide, by rw [e32]; decide, fun r1 d1 st1 hd1 h10 h11 => ?_⟩
  rw [e32] at h11
  refine ⟨_, rfl, p, d1, st1, 50, rfl, upd_same, hd1, by decide, by decide, fun r2 d2 st2 hd2 h20 h21 => ⟨small1 (by show 2 ≤ 8; decide), fun q1 hq1 => ?_⟩⟩
  rw [upd_upd] at hq1 ⊢
  refine ⟨_, _, _, _, rfl, rfl, (by rw [upd_ne (ne_of_none (by rw [upd_ne hpq0.symm]; exact upd_same) hq1), upd_ne hpq0.symm]; exact upd_same), upd_same, Nat.le_of_lt (small1000 (by show 9 ≤ 1000; decide)), fun q hq => ?_⟩
  obtain ⟨H5, hH5⟩ : ∃ H5, H5 = upd (upd (upd (upd (upd H1 p (.lst [.int d0, .int st0])) q0 (.lst [.int 0, .int 1, .int 2, .int ((2 : Int) ^ (31 : Int).toNat), .int ((2 : Int) ^ (32 : Int).toNat - 1), .int ((2 : Int) ^ (32 : Int).toNat - 2), .int 65536])) p (.lst [.int d2, .int st2])) q1 (.lst [.int r1, .int r2])) q
      (.lst ([.int 0, .int 1, .int 2, .int ((2 : Int) ^ (31 : Int).toNat), .int ((2 : Int) ^ (32 : Int).toNat - 1), .int ((2 : Int) ^ (32 : Int).toNat - 2), .int 65536] ++ [.int r1, .int r2])) := ⟨_, rfl⟩
  have hpq1 : p ≠ q1 := ne_of_none upd_same hq1
  have hpq : p ≠ q := ne_of_none (by rw [upd_ne hpq1]; exact upd_same) hq
  have hp5 : H5 p = some (.lst [.int d2, .int st2]) := by rw [hH5, upd_ne hpq, upd_ne hpq1]; exact upd_same
  have S5 : Same H H5 := by
    rw [hH5]
    exact ((same_put (same_put (same_put s1 hHp) hHq0) hHp).trans (upd_new hq1)).trans (upd_new hq)
  obtain ⟨L, hLe⟩ : ∃ L : List V, L = [.int 0, .int 1, .int 2, .int ((2 : Int) ^ (31 : Int).toNat), .int ((2 : Int) ^ (32 : Int).toNat - 1), .int ((2 : Int) ^ (32 : Int).toNat - 2), .int 65536] ++ [.int r1, .int r2] := ⟨_, rfl⟩
  have hq5 : H5 q = some (.lst L) := by rw [hH5, hLe]; exact upd_same
  have hLn : L.length = 9 := by rw [hLe]; rfl
  have hL : ∀ x ∈ L, ∃ z, x = V.int z ∧ In32 z := by
    intro x hx
    rw [hLe, e31, e32] at hx
    simp only [List.cons_append, List.nil_append, List.mem_cons, List.not_mem_nil, or_false] at hx
    rcases hx with rfl | rfl | rfl | rfl | rfl | rfl | rfl | rfl | rfl
    · exact ⟨_, rfl, by decide, by decide⟩
    · exact ⟨_, rfl, by decide, by decide⟩
    · exact ⟨_, rfl, by decide, by decide⟩
    · exact ⟨_, rfl, by decide, by decide⟩
    · exact ⟨_, rfl, by decide, by decide⟩
    · exact ⟨_, rfl, by decide, by decide⟩
    · exact ⟨_, rfl, by decide, by decide⟩
    · exact ⟨_, rfl, h10, h11⟩
    · exact ⟨_, rfl, h20, by omega⟩
  rw [← hH5]
  clear hH5 hLe
  refine ⟨12, rfl, by decide, by decide, ?_⟩
  refine for_range (lo := 0) (n := 12) (fun j σ H3 => ∃ d s v4 v5 v6 v7 v8 v9 v10 v11, σ = [some (.ref a), some (.int (0 + (i : Int))), some (.ref p), some (.ref q), v4, v5, v6, v7, v8, v9, v10, v11] ∧ 0 ≤ d ∧ H3 p = some (.lst [.int d, .int s]) ∧ H3 q = some (.lst L) ∧ Same H H3)
    ⟨d2, st2, _, _, _, _, _, _, _, _, rfl, hd2, hp5, hq5, S5⟩ ?turn2 ?done2
  case done2 =>
    rintro σ H3 ⟨d, st, w4, w5, w6, w7, w8, w9, w10, w11, rfl, hd, hp3, hq3, s3⟩
    exact ⟨_, _, _, _, _, _, _, _, _, _, _, rfl, s3⟩
  rintro j σ H3 hj ⟨d, st, w4, w5, w6, w7, w8, w9, w10, w11, rfl, hd, hp3, hq3, s3⟩
  -- one, other, third
  refine ⟨3, rfl, by decide, by decide, fun D hD => ?_⟩
  have hHD : H D = none := s3.free hD
  have hpD : p ≠ D := ne_of_none hp3 hD
  have hqD : q ≠ D := ne_of_none hq3 hD
  refine lc_range (lo := 0) (n := 3) (fun m H4 => ∃ (d s : Int) (zs : List Int), zs.length = m ∧ 0 ≤ d ∧ (∀ z ∈ zs, In32 z) ∧ H4 p = some (.lst [.int d, .int s]) ∧ H4 q = some (.lst L) ∧ H4 D = some (.lst (zs.map V.int)) ∧ Same H H4)
    ⟨d, st, [], rfl, hd, fun _ h => absurd h List.not_mem_nil, upd_new hD _ _ hp3, upd_new hD _ _ hq3, upd_same, s3.trans (upd_new hD)⟩ ?turn3 ?done3
  case turn3 =>
    rintro m H4 hm ⟨d', st', zs, hz, hd', hzs, hp4, hq4, hD4, s4⟩
    refine ⟨rfl, ?_⟩
    refine ⟨_, rfl, _, rfl, p, q, d', st', L, rfl, hp4, hq4, hpq, hd', by omega, by omega, fun x d'' st'' hx hd'' => ?_⟩
    obtain ⟨x, rfl, hxin⟩ := hL x hx
    refine ⟨zs.map V.int, by rw [upd_ne hpD.symm]; exact hD4, by rw [List.length_map]; exact small1000 (by omega), d'', st'', zs ++ [x], by rw [List.length_append, hz]; rfl, hd'', fun z hz' => ?_, ?_, ?_, ?_, same_put (same_put s4 hHp) hHD⟩
    · rcases List.mem_append.mp hz' with h | h
      · exact hzs z h
      · rw [List.mem_singleton] at h
        subst h
        exact hxin
    · rw [upd_ne hpD]
      exact upd_same
    · rw [upd_ne hqD, upd_ne hpq.symm]
      exact hq4
    · rw [List.map_append]
      exact upd_same
  case done3 =>
  rintro H6 ⟨d', st', zs, hz, hd', hzs, hp6, hq6, hD6, s6⟩
  obtain ⟨x, y, z, rfl⟩ : ∃ x y z, zs = [x, y, z] := by
    match zs, hz with
    | [x, y, z], _ => exact ⟨x, y, z, rfl⟩
  have hx := hzs x (by simp)
  have hy := hzs y (by simp)
  have hzz := hzs z (by simp)
  refine ⟨D, _, rfl, .of hD6, rfl, _, _, rfl, _, _, rfl, _, _, rfl, rfl, ?_⟩
  -- the six words
  refine ⟨small1 (by show 6 ≤ 8; decide), fun ls hls => ?_⟩
  refine ⟨ls, rfl, ⟨_, .of upd_same⟩, for_list (K := K) (a := ls) (xs := [.str "add", .str "sub", .str "mul", .str "less", .str "equal", .str "divide"])
    (fun m σ H7 => ∃ v5 v9 v10 v11, σ = [some (.ref a), some (.int (0 + (i : Int))), some (.ref p), some (.ref q), some (.int (0 + (j : Int))), v5, some (.int x), some (.int y), some (.int z), v9, v10, v11] ∧ Same (upd H6 ls (.lst [.str "add", .str "sub", .str "mul", .str "less", .str "equal", .str "divide"])) H7)
    ⟨_, _, _, _, rfl, Same.refl _⟩ (fun m σ H7 _ ⟨_, _, _, _, _, s7⟩ => .of (s7 _ _ upd_same)) ?turn4 ?done4⟩
  case turn4 =>
    rintro m v σ H7 hi7 ⟨v5, v9, v10, v11, rfl, s7⟩
    obtain ⟨nm, rfl, hnp⟩ : ∃ nm : Nm, v = .str nm.s ∧ nm ≠ .pick := by
      match m, hi7 with
      | 0, hi => cases hi; exact ⟨.add, rfl, by decide⟩
      | 1, hi => cases hi; exact ⟨.sub, rfl, by decide⟩
      | 2, hi => cases hi; exact ⟨.mul, rfl, by decide⟩
      | 3, hi => cases hi; exact ⟨.less, rfl, by decide⟩
      | 4, hi => cases hi; exact ⟨.equal, rfl, by decide⟩
      | 5, hi => cases hi; exact ⟨.divide, rfl, by decide⟩
    have hnl : nm.s.length ≤ sizeLine := Nat.le_trans (nm_len nm) (by decide)
    have ok2' : ∀ {a b : Int}, In32 a → In32 b → nm.ok [a, b] := fun {a b} ha hb => by
      cases nm with
      | pick => exact absurd rfl hnp
      | _ => exact ⟨ha, hb⟩
    refine ⟨rfl, _, rfl, nm.s, nm.s, none, rfl, hnl, readP_nm nm, fun b dxb ib ob H8 s8 hb hb8 hio => ?_⟩
    refine ⟨_, rfl, _, rfl, small1 (by show 2 ≤ 8; decide), fun t1 ht1 => ⟨_, rfl, _, rfl, small1 (by show 2 ≤ 8; decide), fun t2 ht2 => ⟨_, rfl, _, rfl, small1 (by show 2 ≤ 8; decide), fun t3 ht3 => ⟨small1 (by show 3 ≤ 8; decide), fun lv hlv => ?_⟩⟩⟩⟩
    obtain ⟨H9, hH9⟩ : ∃ H9, H9 = upd (upd (upd (upd H8 t1 (.tup [.int x, .int y])) t2 (.tup [.int y, .int x])) t3 (.tup [.int x, .int x])) lv (.lst [.ref t1, .ref t2, .ref t3]) := ⟨_, rfl⟩
    have S9 : Same H8 H9 := by rw [hH9]; exact (upd_new ht1).trans ((upd_new ht2).trans ((upd_new ht3).trans (upd_new hlv)))
    have g1 : H9 t1 = some (.tup [.int x, .int y]) := by rw [hH9]; exact ((upd_new ht2).trans ((upd_new ht3).trans (upd_new hlv))) _ _ upd_same
    have g2 : H9 t2 = some (.tup [.int y, .int x]) := by rw [hH9]; exact ((upd_new ht3).trans (upd_new hlv)) _ _ upd_same
    have g3 : H9 t3 = some (.tup [.int x, .int x]) := by rw [hH9]; exact (upd_new hlv) _ _ upd_same
    have g4 : H9 lv = some (.lst [.ref t1, .ref t2, .ref t3]) := by rw [hH9]; exact upd_same
    rw [← hH9]
    clear hH9
    refine ⟨lv, rfl, ⟨_, .of g4⟩, for_list (K := K) (a := lv) (xs := [.ref t1, .ref t2, .ref t3])
      (fun m σ H10 => ∃ v5 v11, σ = [some (.ref a), some (.int (0 + (i : Int))), some (.ref p), some (.ref q), some (.int (0 + (j : Int))), v5, some (.int x), some (.int y), some (.int z), some (.str nm.s), some (.ref b), v11] ∧ Same H9 H10)
      ⟨_, _, rfl, Same.refl _⟩ (fun m σ H10 _ ⟨_, _, _, s10⟩ => .of (s10 _ _ g4)) ?turn5 ?done5⟩
    case done5 =>
      rintro σ H10 ⟨u5, u11, rfl, s10⟩
      exact ⟨_, _, _, _, rfl, s7.trans (s8.trans (S9.trans s10))⟩
    case turn5 =>
    rintro m' v' σ H10 hi10 ⟨u5, u11, rfl, s10⟩
    obtain ⟨t, x', y', rfl, gt, hx', hy'⟩ : ∃ t x' y', v' = .ref t ∧ H9 t = some (.tup [.int x', .int y']) ∧ In32 x' ∧ In32 y' := by
      match m', hi10 with
      | 0, hi => cases hi; exact ⟨_, _, _, rfl, g1, hx, hy⟩
      | 1, hi => cases hi; exact ⟨_, _, _, rfl, g2, hy, hx⟩
      | 2, hi => cases hi; exact ⟨_, _, _, rfl, g3, hx, hx⟩
    have hok := ok2' hx' hy'
    obtain ⟨w1, w2⟩ := comp_in nm hok
    obtain ⟨q1', q2', q3', q4'⟩ := sh (nm.comp [x', y']) w1 w2
    refine ⟨2, rfl, by decide, by decide, ?_⟩
    refine for_range (lo := 0) (n := 2) (fun m σ H11 => ∃ v5, σ = [some (.ref a), some (.int (0 + (i : Int))), some (.ref p), some (.ref q), some (.int (0 + (j : Int))), v5, some (.int x), some (.int y), some (.int z), some (.str nm.s), some (.ref b), some (.ref t)] ∧ Same H10 H11)
      ⟨_, rfl, Same.refl _⟩ ?turn6 ?done6
    case turn6 =>
      rintro m2 σ H11 hm2 ⟨u5', rfl, s11⟩
      have gt11 := s11 _ _ (s10 _ _ gt)
      have gb11 := s11 _ _ (s10 _ _ (S9 _ _ hb8))
      refine ⟨_, rfl, b, dxb, _, rfl, gb11, F4_no (by decide +kernel) (by decide +kernel) (by decide +kernel) (by decide +kernel), _, rfl, b, t, dxb, ib, ob, _, nm.s, rfl, gb11, .inl ⟨nm, [x', y'], rfl, .of gt11, hok, fun r1 hr1 => ?_⟩⟩
      refine ⟨r1, _, rfl, .tup (.of upd_same) (dp_all _), q1', q2', q3', q4', ?_⟩
      have gt12 := (upd_new (o := HO.tup ((nm.comp [x', y']).map V.int)) hr1) _ _ gt11
      refine ⟨_, rfl, _, rfl, nm, t, [x', y'], rfl, .of gt12, hok, fun r2 hr2 => ?_⟩
      refine ⟨r2, _, rfl, .tup (.of upd_same) (dp_all _), q1', q2', q3', q4', rfl, _, rfl, ne_str rfl ?_⟩
      exact ⟨_, rfl, s11.trans ((upd_new hr1).trans (upd_new hr2))⟩
    case done6 =>
    rintro σ H11 ⟨u5', rfl, s11⟩
    have gb11 := s11 _ _ (s10 _ _ (S9 _ _ hb8))
    refine ⟨_, rfl, b, dxb, _, rfl, gb11, b, dxb, nm.s, ib, ob, none, rfl, gb11, Nat.le_trans (nm_len nm) (by decide), (fun _ e => nomatch e), _, rfl, _, rfl, rfl, _, rfl, ne_str rfl ?_⟩
    refine ⟨_, rfl, b, C, dxb, _, _, rfl, gb11, T.cl, T.nC, F4_const _ _ _ _, rfl, _, rfl, iteNS rfl ?_⟩
    exact ⟨_, _, rfl, s10.trans s11⟩
  case done4 =>
  rintro σ H7 ⟨v5, v9, v10, v11, rfl, s7⟩
  have S7 : Same H6 H7 := (upd_new hls).trans s7
  -- pick
  refine ⟨_, rfl, _, rfl, _, rfl, small1 (by show 3 ≤ 8; decide), fun t1 ht1 => ⟨_, rfl, _, rfl, small1 (by show 3 ≤ 8; decide), fun t2 ht2 => ⟨_, rfl, _, rfl, _, rfl, small1 (by show 3 ≤ 8; decide), fun t3 ht3 => ⟨small1 (by show 3 ≤ 8; decide), fun lv hlv => ?_⟩⟩⟩⟩
  obtain ⟨H9, hH9⟩ : ∃ H9, H9 = upd (upd (upd (upd H7 t1 (.tup [.int x, .int y, .int z])) t2 (.tup [.int 0, .int x, .int y])) t3 (.tup [.int z, .int x, .int x])) lv (.lst [.ref t1, .ref t2, .ref t3]) := ⟨_, rfl⟩
  have S9 : Same H7 H9 := by rw [hH9]; exact (upd_new ht1).trans ((upd_new ht2).trans ((upd_new ht3).trans (upd_new hlv)))
  have g1 : H9 t1 = some (.tup [.int x, .int y, .int z]) := by rw [hH9]; exact ((upd_new ht2).trans ((upd_new ht3).trans (upd_new hlv))) _ _ upd_same
  have g2 : H9 t2 = some (.tup [.int 0, .int x, .int y]) := by rw [hH9]; exact ((upd_new ht3).trans (upd_new hlv)) _ _ upd_same
  have g3 : H9 t3 = some (.tup [.int z, .int x, .int x]) := by rw [hH9]; exact (upd_new hlv) _ _ upd_same
  have g4 : H9 lv = some (.lst [.ref t1, .ref t2, .ref t3]) := by rw [hH9]; exact upd_same
  rw [← hH9]
  clear hH9
  refine ⟨lv, rfl, ⟨_, .of g4⟩, for_list (K := K) (a := lv) (xs := [.ref t1, .ref t2, .ref t3])
    (fun m σ H10 => ∃ v11, σ = [some (.ref a), some (.int (0 + (i : Int))), some (.ref p), some (.ref q), some (.int (0 + (j : Int))), v5, some (.int x), some (.int y), some (.int z), v9, v10, v11] ∧ Same H9 H10)
    ⟨_, rfl, Same.refl _⟩ (fun m σ H10 _ ⟨_, _, s10⟩ => .of (s10 _ _ g4)) ?turn7 ?done7⟩
  case turn7 =>
    rintro m' v' σ H10 hi10 ⟨u11, rfl, s10⟩
    obtain ⟨t, c', x', y', rfl, gt, hc', hx', hy'⟩ : ∃ t c' x' y', v' = .ref t ∧ H9 t = some (.tup [.int c', .int x', .int y']) ∧ In32 c' ∧ In32 x' ∧ In32 y' := by
      match m', hi10 with
      | 0, hi => cases hi; exact ⟨_, _, _, _, rfl, g1, hx, hy, hzz⟩
      | 1, hi => cases hi; exact ⟨_, _, _, _, rfl, g2, ⟨by decide, by decide⟩, hx, hy⟩
      | 2, hi => cases hi; exact ⟨_, _, _, _, rfl, g3, hzz, hx, hx⟩
    have hok : Nm.pick.ok [c', x', y'] := ⟨hc', hx', hy'⟩
    obtain ⟨w1, w2⟩ := comp_in .pick hok
    obtain ⟨q1', q2', q3', q4'⟩ := sh (Nm.pick.comp [c', x', y']) w1 w2
    refine ⟨rfl, Nm.pick.s, Nm.pick.s, none, rfl, Nat.le_trans (nm_len .pick) (by decide), readP_nm .pick, fun b dxb ib ob H11 s11 hb hb11 hio => ?_⟩
    have gt11 := s11 _ _ (s10 _ _ gt)
    refine ⟨b, dxb, _, rfl, hb11, F4_no (by decide +kernel) (by decide +kernel) (by decide +kernel) (by decide +kernel), _, rfl, b, t, dxb, ib, ob, _, Nm.pick.s, rfl, hb11, .inl ⟨.pick, [c', x', y'], rfl, .of gt11, hok, fun r1 hr1 => ?_⟩⟩
    refine ⟨r1, _, rfl, .tup (.of upd_same) (dp_all _), q1', q2', q3', q4', ?_⟩
    have gt12 := (upd_new (o := HO.tup ((Nm.pick.comp [c', x', y']).map V.int)) hr1) _ _ gt11
    refine ⟨_, rfl, .pick, t, [c', x', y'], rfl, .of gt12, hok, fun r2 hr2 => ?_⟩
    refine ⟨r2, _, rfl, .tup (.of upd_same) (dp_all _), q1', q2', q3', q4', rfl, _, rfl, ne_str rfl ?_⟩
    exact ⟨_, rfl, s10.trans (s11.trans ((upd_new hr1).trans (upd_new hr2)))⟩
  case done7 =>
  rintro σ H10 ⟨u11, rfl, s10⟩
  -- const
  have hnum := num_len hx.1 hx.2
  have hcl : (("const " : Str)).length = 6 := by decide +kernel
  have hcl2 : (("const " : Str) ++ Str.ofString (toString x)).length ≤ 1000 := by rw [sl, hcl]; omega
  have hread : readP (("const " : Str) ++ Str.ofString (toString x)) = some ((("const" : Str)), some x) := by rw [const_sp]; exact readP_num (.inl rfl) hx.1 hx.2
  have hcat : (("const " : Str)).length + (Str.ofString (toString x)).length ≤ sizeLine := by rw [hcl]; exact Nat.le_of_lt (small1000 (by omega))
  refine ⟨rfl, _, rfl, x, rfl, log32 hx.1 hx.2, _, _, rfl, rfl, hcat, _, "const", some x, rfl, Nat.le_of_lt (small1000 hcl2), hread, fun b dxb ib ob H11 s11 hb hb11 hio => ?_⟩
  have S11 : Same H6 H11 := S7.trans (S9.trans (s10.trans s11))
  refine ⟨2, rfl, by decide, by decide, ?_⟩
  refine for_range (lo := 0) (n := 2) (fun m σ H12 => ∃ v5, σ = [some (.ref a), some (.int (0 + (i : Int))), some (.ref p), some (.ref q), some (.int (0 + (j : Int))), v5, some (.int x), some (.int y), some (.int z), v9, some (.ref b), u11] ∧ Same H11 H12)
    ⟨_, rfl, Same.refl _⟩ ?turn8 ?done8
  case turn8 =>
    rintro m2 σ H12 hm2 ⟨u5', rfl, s12⟩
    have hb12 := s12 _ _ hb11
    obtain ⟨q1', q2', q3', q4'⟩ := sh [x] (fun v hv => by rw [List.mem_singleton] at hv; subst hv; exact hx) (by show 1 ≤ 20; decide)
    refine ⟨_, rfl, b, dxb, _, rfl, hb12, F4_no (by decide +kernel) (by decide +kernel) (by decide +kernel) (by decide +kernel), small1 (by show 0 ≤ 8; decide), fun te hte => ?_⟩
    refine ⟨b, te, dxb, ib, ob, _, "const", rfl, (upd_new hte) _ _ hb12, .inr ⟨rfl, fun r1 hr1 => ?_⟩⟩
    refine ⟨r1, _, rfl, .tup (.of upd_same) (dp_all [x]), q1', q2', q3', q4', ?_⟩
    refine ⟨_, rfl, small1 (by show 1 ≤ 8; decide), fun r2 hr2 => ?_⟩
    refine ⟨r2, _, rfl, .tup (.of upd_same) (dp_all [x]), q1', q2', q3', q4', rfl, _, rfl, ne_str rfl ?_⟩
    have hb13 := ((upd_new hte).trans ((upd_new hr1).trans (upd_new (o := HO.tup [V.int x]) hr2))) _ _ hb12
    refine ⟨_, rfl, b, dxb, _, rfl, hb13, b, dxb, "const", ib, ob, some x, rfl, hb13, by decide +kernel, (fun n e => by cases e; exact hx), _, rfl, _, rfl, x, rfl, log32 hx.1 hx.2, _, _, rfl, rfl, hcat, rfl, _, rfl, ne_str ?_ ?_⟩
    · rw [txt_some, const_sp]
    · exact ⟨_, rfl, s12.trans ((upd_new hte).trans ((upd_new hr1).trans (upd_new hr2)))⟩
  case done8 =>
  rintro σ H12 ⟨u5', rfl, s12⟩
  have S12 : Same H6 H12 := S11.trans s12
  exact ⟨d', st', _, _, _, _, _, _, _, _, rfl, hd', S12 _ _ hp6, S12 _ _ hq6, s6.trans S12⟩
end
end K3
namespace K3
open PySem L2 Own StX ClX NdefX
theorem all_mk {w : World} {K : PySem.W.Frag} {h : Heap} {mg : Str → Option Value} {fa C B : Addr} (X : K.In h) (G : h.Ns mainGlobals mg) (hfa : mg "law" = some (.ref fa))
    {fRV : Addr} {odRV anRV : Option Addr} {slRV : Array (Option Value)} {ocRV kVRV dcRV pmRV cdRV ctRV : Value} {fRP : Addr} {odRP anRP : Option Addr} {slRP : Array (Option Value)} {ocRP kVRP dcRP pmRP cdRP ctRP : Value} {fBI : Addr} {odBI anBI : Option Addr} {slBI : Array (Option Value)} {ocBI kVBI dcBI pmBI cdBI ctBI : Value} {fPA : Addr} {odPA anPA : Option Addr} {slPA : Array (Option Value)} {ocPA kVPA dcPA pmPA cdPA ctPA : Value} {pPA : Addr} {restPA : List Value} {fST : Addr} {odST anST : Option Addr} {slST : Array (Option Value)} {ocST kVST dcST pmST cdST ctST : Value} {fPI cc cda : Addr} {odPI anPI cldPI cddPI : Option Addr} {slPI cslPI ccsPI : Array (Option Value)} {ocPI dcPI pmPI ctPI clPI cclPI : Value} {vsPI : Array Value} {tfPI : Tok} {cdD : ClassData} {tkM tkD tkW : Tok} {dP dW : Addr} {esP : Array DictEntry} {nP nW : Nat} {ddW : Option Addr} {slW : Array (Option Value)} {tW1 tW2 : Tok} {kk1 : Tok} {kk2 : Tok} {kk3 : Tok} {kk4 : Tok} {kk5 : Tok} {kk6 : Tok} {kk7 : Tok} {kk8 : Tok} {kk9 : Tok} {t1 x1 y1 : Addr} {m1 mx1 my1 : Nat} {dd1 dx1 dy1 : Option Addr} {s1 sx1 sy1 : Array (Option Value)} {ty1_0 : Tok} {t2 x2 y2 : Addr} {m2 mx2 my2 : Nat} {dd2 dx2 dy2 : Option Addr} {s2 sx2 sy2 : Array (Option Value)} {tx2_0 : Tok} {tx2_1 : Tok}{ty2_0 : Tok} {t3 x3 y3 : Addr} {m3 mx3 my3 : Nat} {dd3 dx3 dy3 : Option Addr} {s3 sx3 sy3 : Array (Option Value)} {tx3_0 : Tok} {tx3_1 : Tok}{ty3_0 : Tok} {t4 x4 y4 : Addr} {m4 mx4 my4 : Nat} {dd4 dx4 dy4 : Option Addr} {s4 sx4 sy4 : Array (Option Value)} {tx4_0 : Tok} {tx4_1 : Tok}{ty4_0 : Tok} {t5 x5 y5 : Addr} {m5 mx5 my5 : Nat} {dd5 dx5 dy5 : Option Addr} {s5 sx5 sy5 : Array (Option Value)} {tx5_0 : Tok} {tx5_1 : Tok}{ty5_0 : Tok} {t6 x6 y6 : Addr} {m6 mx6 my6 : Nat} {dd6 dx6 dy6 : Option Addr} {s6 sx6 sy6 : Array (Option Value)} {tx6_0 : Tok} {tx6_1 : Tok}{ty6_0 : Tok} {t7 x7 y7 : Addr} {m7 mx7 my7 : Nat} {dd7 dx7 dy7 : Option Addr} {s7 sx7 sy7 : Array (Option Value)} {tx7_0 : Tok} {tx7_1 : Tok} {tx7_2 : Tok}{ty7_0 : Tok} {t8 x8 y8 : Addr} {m8 mx8 my8 : Nat} {dd8 dx8 dy8 : Option Addr} {s8 sx8 sy8 : Array (Option Value)} {tx8_0 : Tok} {tx8_1 : Tok}{ty8_0 : Tok} {ty8_1 : Tok} {t9 x9 y9 : Addr} {m9 mx9 my9 : Nat} {dd9 dx9 dy9 : Option Addr} {s9 sx9 sy9 : Array (Option Value)} {tx9_0 : Tok}{ty9_0 : Tok} {fFE : Addr} {odFE anFE : Option Addr} {slFE : Array (Option Value)} {ocFE kVFE dcFE pmFE cdFE ctFE : Value} {fTK : Addr} {odTK anTK : Option Addr} {slTK : Array (Option Value)} {ocTK kVTK dcTK pmTK cdTK ctTK : Value} {fPK : Addr} {odPK anPK : Option Addr} {slPK : Array (Option Value)} {ocPK kVPK dcPK pmPK cdPK ctPK : Value} {fDU : Addr} {odDU anDU : Option Addr} {slDU : Array (Option Value)} {ocDU kVDU dcDU pmDU cdDU ctDU : Value} {fLA : Addr} {odLA anLA : Option Addr} {slLA : Array (Option Value)} {ocLA kVLA dcLA pmLA cdLA ctLA : Value} {fCO : Addr} {odCO anCO : Option Addr} {slCO : Array (Option Value)} {ocCO kVCO dcCO pmCO cdCO ctCO : Value} {fA1 : Addr} {odA1 anA1 : Option Addr} {slA1 : Array (Option Value)} {ocA1 kVA1 dcA1 pmA1 cdA1 ctA1 : Value} {fA2 : Addr} {odA2 anA2 : Option Addr} {slA2 : Array (Option Value)} {ocA2 kVA2 dcA2 pmA2 cdA2 ctA2 : Value} {fA3 : Addr} {odA3 anA3 : Option Addr} {slA3 : Array (Option Value)} {ocA3 kVA3 dcA3 pmA3 cdA3 ctA3 : Value} {fA4 : Addr} {odA4 anA4 : Option Addr} {slA4 : Array (Option Value)} {ocA4 kVA4 dcA4 pmA4 cdA4 ctA4 : Value} {fA5 : Addr} {odA5 anA5 : Option Addr} {slA5 : Array (Option Value)} {ocA5 kVA5 dcA5 pmA5 cdA5 ctA5 : Value} {fA6 : Addr} {odA6 anA6 : Option Addr} {slA6 : Array (Option Value)} {ocA6 kVA6 dcA6 pmA6 cdA6 ctA6 : Value} {fA7 : Addr} {odA7 anA7 : Option Addr} {slA7 : Array (Option Value)} {ocA7 kVA7 dcA7 pmA7 cdA7 ctA7 : Value} {dR : Addr} {esR : Array DictEntry} {nR : Nat}
    (aC : PySem.W.nsIn K mainGlobals "Primitive" = some (some (.ref C)))
    (aB : PySem.W.nsIn K mainGlobals "Block" = some (some (.ref B)))
    (aRV : PySem.W.nsIn K mainGlobals "read_value" = some (some (.ref fRV)))
    (lRV : K.lookup fRV = some ⟨ocRV, odRV, .func (PySem.W.fnOf "read_value" "read_value" (defArgs sRV) (defBody sRV) (defScope sRV) .none kVRV dcRV pmRV anRV cdRV ctRV), slRV⟩)
    (cRV : PySem.W.codeIn K cdRV "read_value" = true)
    (kRV : PySem.W.keepIn K (.ref fRV) = true)
    (aRP : PySem.W.nsIn K mainGlobals "read_primitive" = some (some (.ref fRP)))
    (lRP : K.lookup fRP = some ⟨ocRP, odRP, .func (PySem.W.fnOf "read_primitive" "read_primitive" (defArgs sRP) (defBody sRP) (defScope sRP) .none kVRP dcRP pmRP anRP cdRP ctRP), slRP⟩)
    (cRP : PySem.W.codeIn K cdRP "read_primitive" = true)
    (kRP : PySem.W.keepIn K (.ref fRP) = true)
    (aBI : PySem.W.findIn K (.ref B) "__init__" = some (some (.ref fBI)))
    (iBI : PySem.W.isFn K (.ref fBI) = true)
    (lBI : K.lookup fBI = some ⟨ocBI, odBI, .func (PySem.W.fnOf "__init__" "Block.__init__" (defArgs sBI) (defBody sBI) (defScope sBI) .none kVBI dcBI pmBI anBI cdBI ctBI), slBI⟩)
    (cBI : PySem.W.codeIn K cdBI "Block.__init__" = true)
    (kBI : PySem.W.keepIn K (.ref fBI) = true)
    (aPA : PySem.W.findCls K (.ref C) (.type "type") "parse" = some (.get (.builtin "classmethod.__get__") (.ref pPA) .none (.ref C)))
    (rPA : PySem.W.recIn K pPA "classmethod" = some (.ref fPA :: restPA))
    (iPA : PySem.W.fnIn K fPA = true)
    (lPA : K.lookup fPA = some ⟨ocPA, odPA, .func (PySem.W.fnOf "parse" "Primitive.parse" (defArgs sParse) (defBody sParse) (defScope sParse) .none kVPA dcPA pmPA anPA cdPA ctPA), slPA⟩)
    (cPA : PySem.W.codeIn K cdPA "Primitive.parse" = true)
    (kPA : PySem.W.keepIn K (.ref fPA) = true)
    (aST : PySem.W.findIn K (.ref C) "__str__" = some (some (.ref fST)))
    (iST : PySem.W.isFn K (.ref fST) = true)
    (lST : K.lookup fST = some ⟨ocST, odST, .func (PySem.W.fnOf "__str__" "Primitive.__str__" (defArgs sStr) (defBody sStr) (defScope sStr) .none kVST dcST pmST anST cdST ctST), slST⟩)
    (cST : PySem.W.codeIn K cdST "Primitive.__str__" = true)
    (kST : PySem.W.keepIn K (.ref fST) = true)
    (aPI : PySem.W.findIn K (.ref C) "__init__" = some (some (.ref fPI)))
    (iPI : PySem.W.isFn K (.ref fPI) = true)
    (lPI : K.lookup fPI = some ⟨ocPI, odPI, .func (PySem.W.fnX "__init__" "Primitive.__init__" (defArgs sPI) (defBody sPI) (defScope sPI) [(("__class__" : Str), cc)] .none .none dcPI pmPI anPI (.ref cda) ctPI), slPI⟩)
    (cPI : PySem.W.codeIn K (.ref cda) "Primitive.__init__" = true)
    (lcd : K.lookup cda = some ⟨cclPI, cddPI, .fields vsPI, ccsPI⟩)
    (vcd : vsPI[2]? = some (.str PySem.Challenge.pw_stepblocks_k03_what_primitives_compute.main.file tfPI))
    (lcc : K.lookup cc = some ⟨clPI, cldPI, .cell (some (.ref C)), cslPI⟩)
    (tpa : PySem.W.nsIn K PySem.cStatics "thirdparty.any" = some none)
    (sbs : PySem.W.mroIn K C (.ref C) = some true)
    (sat : PySem.W.ks_superIn K C C "__init__" = some (some (.ref fBI)))
    (sty : PySem.W.typeIn K (.ref fBI) = some (.type "function"))
    (sdc : PySem.W.clsIn K C = some cdD)
    (sfi : PySem.W.fnIn K fBI = true)
    (pg : PySem.W.plainGet K C Str.empty = true)
    (hd : PySem.W.hasDictIn K C = true)
    (po : PySem.W.plainOver K C = true)
    (sa : PySem.W.findIn K (.ref C) "__setattr__" = some (some (.builtin "object.__setattr__")))
    (mk : PySem.W.makesIn K C = true)
    (kc : PySem.W.keepIn K (.ref C) = true)
    (rdC : PySem.W.readsIn K C (.type "type") = true)
    (gaC : PySem.W.specialIn K (.ref C) "__getattribute__" = some (some (.builtin "type.__getattribute__")))
    (nN : PySem.W.findIn K (.ref C) "name" = some none)
    (nI : PySem.W.findIn K (.ref C) "inputs" = some none)
    (nO : PySem.W.findIn K (.ref C) "outputs" = some none)
    (nK : PySem.W.findIn K (.ref C) "constant" = some none)
    (aMo : PySem.W.nsIn K mainGlobals "MODULUS" = some (some (.int 4294967296 tkM)))
    (aMd : PySem.W.nsIn K mainGlobals "MOST_DIGITS" = some (some (.int 10 tkD)))
    (aDg : PySem.W.nsIn K mainGlobals "DIGITS" = some (some (.str "0123456789" tkW)))
    (aP : PySem.W.nsIn K mainGlobals "PRIMITIVE_PORTS" = some (some (.ref dP)))
    (lP : K.lookup dP = some ⟨.type "dict", none, .dict esP nP, #[]⟩)
    (qP : PySem.W.KeysLit w.params esP.toList)
    (oP : (dP == sysModules) = false)
    (kP : esP.toList.map (·.key) = [.str "const" kk1, .str "add" kk2, .str "sub" kk3, .str "mul" kk4, .str "less" kk5, .str "equal" kk6, .str "pick" kk7, .str "divide" kk8, .str "delay" kk9])
    (aW : PySem.W.nsIn K mainGlobals "WORDS_WITH_VALUE" = some (some (.ref dW)))
    (lW : K.lookup dW = some ⟨.type "tuple", ddW, .seq #[.str "const" tW1, .str "delay" tW2] nW, slW⟩)
    (u1 : PySem.W.nsIn K dP "const" = some (some (.ref t1)))
    (v1 : K.lookup t1 = some ⟨.type "tuple", dd1, .seq #[.ref x1, .ref y1] m1, s1⟩)
    (vx1 : K.lookup x1 = some ⟨.type "tuple", dx1, .seq #[] mx1, sx1⟩)
    (vy1 : K.lookup y1 = some ⟨.type "tuple", dy1, .seq #[.str "out" ty1_0] my1, sy1⟩)
    (vz1 : ¬ (x1 = y1))
    (u2 : PySem.W.nsIn K dP "add" = some (some (.ref t2)))
    (v2 : K.lookup t2 = some ⟨.type "tuple", dd2, .seq #[.ref x2, .ref y2] m2, s2⟩)
    (vx2 : K.lookup x2 = some ⟨.type "tuple", dx2, .seq #[.str "a" tx2_0, .str "b" tx2_1] mx2, sx2⟩)
    (vy2 : K.lookup y2 = some ⟨.type "tuple", dy2, .seq #[.str "out" ty2_0] my2, sy2⟩)
    (vz2 : ¬ (x2 = y2))
    (u3 : PySem.W.nsIn K dP "sub" = some (some (.ref t3)))
    (v3 : K.lookup t3 = some ⟨.type "tuple", dd3, .seq #[.ref x3, .ref y3] m3, s3⟩)
    (vx3 : K.lookup x3 = some ⟨.type "tuple", dx3, .seq #[.str "a" tx3_0, .str "b" tx3_1] mx3, sx3⟩)
    (vy3 : K.lookup y3 = some ⟨.type "tuple", dy3, .seq #[.str "out" ty3_0] my3, sy3⟩)
    (vz3 : ¬ (x3 = y3))
    (u4 : PySem.W.nsIn K dP "mul" = some (some (.ref t4)))
    (v4 : K.lookup t4 = some ⟨.type "tuple", dd4, .seq #[.ref x4, .ref y4] m4, s4⟩)
    (vx4 : K.lookup x4 = some ⟨.type "tuple", dx4, .seq #[.str "a" tx4_0, .str "b" tx4_1] mx4, sx4⟩)
    (vy4 : K.lookup y4 = some ⟨.type "tuple", dy4, .seq #[.str "out" ty4_0] my4, sy4⟩)
    (vz4 : ¬ (x4 = y4))
    (u5 : PySem.W.nsIn K dP "less" = some (some (.ref t5)))
    (v5 : K.lookup t5 = some ⟨.type "tuple", dd5, .seq #[.ref x5, .ref y5] m5, s5⟩)
    (vx5 : K.lookup x5 = some ⟨.type "tuple", dx5, .seq #[.str "a" tx5_0, .str "b" tx5_1] mx5, sx5⟩)
    (vy5 : K.lookup y5 = some ⟨.type "tuple", dy5, .seq #[.str "out" ty5_0] my5, sy5⟩)
    (vz5 : ¬ (x5 = y5))
    (u6 : PySem.W.nsIn K dP "equal" = some (some (.ref t6)))
    (v6 : K.lookup t6 = some ⟨.type "tuple", dd6, .seq #[.ref x6, .ref y6] m6, s6⟩)
    (vx6 : K.lookup x6 = some ⟨.type "tuple", dx6, .seq #[.str "a" tx6_0, .str "b" tx6_1] mx6, sx6⟩)
    (vy6 : K.lookup y6 = some ⟨.type "tuple", dy6, .seq #[.str "out" ty6_0] my6, sy6⟩)
    (vz6 : ¬ (x6 = y6))
    (u7 : PySem.W.nsIn K dP "pick" = some (some (.ref t7)))
    (v7 : K.lookup t7 = some ⟨.type "tuple", dd7, .seq #[.ref x7, .ref y7] m7, s7⟩)
    (vx7 : K.lookup x7 = some ⟨.type "tuple", dx7, .seq #[.str "c" tx7_0, .str "a" tx7_1, .str "b" tx7_2] mx7, sx7⟩)
    (vy7 : K.lookup y7 = some ⟨.type "tuple", dy7, .seq #[.str "out" ty7_0] my7, sy7⟩)
    (vz7 : ¬ (x7 = y7))
    (u8 : PySem.W.nsIn K dP "divide" = some (some (.ref t8)))
    (v8 : K.lookup t8 = some ⟨.type "tuple", dd8, .seq #[.ref x8, .ref y8] m8, s8⟩)
    (vx8 : K.lookup x8 = some ⟨.type "tuple", dx8, .seq #[.str "a" tx8_0, .str "b" tx8_1] mx8, sx8⟩)
    (vy8 : K.lookup y8 = some ⟨.type "tuple", dy8, .seq #[.str "quotient" ty8_0, .str "rest" ty8_1] my8, sy8⟩)
    (vz8 : ¬ (x8 = y8))
    (u9 : PySem.W.nsIn K dP "delay" = some (some (.ref t9)))
    (v9 : K.lookup t9 = some ⟨.type "tuple", dd9, .seq #[.ref x9, .ref y9] m9, s9⟩)
    (vx9 : K.lookup x9 = some ⟨.type "tuple", dx9, .seq #[.str "in" tx9_0] mx9, sx9⟩)
    (vy9 : K.lookup y9 = some ⟨.type "tuple", dy9, .seq #[.str "out" ty9_0] my9, sy9⟩)
    (vz9 : ¬ (x9 = y9))
    (zsuper : PySem.W.nsIn K mainGlobals "super" = some none)
    (zlen : PySem.W.nsIn K mainGlobals "len" = some none)
    (zall : PySem.W.nsIn K mainGlobals "all" = some none)
    (zint : PySem.W.nsIn K mainGlobals "int" = some none)
    (zstr : PySem.W.nsIn K mainGlobals "str" = some none)
    (aFE : PySem.W.nsIn K mainGlobals "_law_feed" = some (some (.ref fFE)))
    (lFE : K.lookup fFE = some ⟨ocFE, odFE, .func (PySem.W.fnOf "_law_feed" "_law_feed" (defArgs sFeed) (defBody sFeed) (defScope sFeed) .none kVFE dcFE pmFE anFE cdFE ctFE), slFE⟩)
    (cFE : PySem.W.codeIn K cdFE "_law_feed" = true)
    (kFE : PySem.W.keepIn K (.ref fFE) = true)
    (aTK : PySem.W.nsIn K mainGlobals "_law_take" = some (some (.ref fTK)))
    (lTK : K.lookup fTK = some ⟨ocTK, odTK, .func (PySem.W.fnOf "_law_take" "_law_take" (defArgs sTake) (defBody sTake) (defScope sTake) .none kVTK dcTK pmTK anTK cdTK ctTK), slTK⟩)
    (cTK : PySem.W.codeIn K cdTK "_law_take" = true)
    (kTK : PySem.W.keepIn K (.ref fTK) = true)
    (aPK : PySem.W.nsIn K mainGlobals "_law_pick" = some (some (.ref fPK)))
    (lPK : K.lookup fPK = some ⟨ocPK, odPK, .func (PySem.W.fnOf "_law_pick" "_law_pick" (defArgs sPickL) (defBody sPickL) (defScope sPickL) .none kVPK dcPK pmPK anPK cdPK ctPK), slPK⟩)
    (cPK : PySem.W.codeIn K cdPK "_law_pick" = true)
    (kPK : PySem.W.keepIn K (.ref fPK) = true)
    (aDU : PySem.W.nsIn K mainGlobals "_law_due" = some (some (.ref fDU)))
    (lDU : K.lookup fDU = some ⟨ocDU, odDU, .func (PySem.W.fnOf "_law_due" "_law_due" (defArgs sDue) (defBody sDue) (defScope sDue) .none kVDU dcDU pmDU anDU cdDU ctDU), slDU⟩)
    (cDU : PySem.W.codeIn K cdDU "_law_due" = true)
    (kDU : PySem.W.keepIn K (.ref fDU) = true)
    (aLA : PySem.W.nsIn K mainGlobals "law" = some (some (.ref fLA)))
    (lLA : K.lookup fLA = some ⟨ocLA, odLA, .func (PySem.W.fnOf "law" "law" (defArgs sLaw) (defBody sLaw) (defScope sLaw) .none kVLA dcLA pmLA anLA cdLA ctLA), slLA⟩)
    (cLA : PySem.W.codeIn K cdLA "law" = true)
    (kLA : PySem.W.keepIn K (.ref fLA) = true)
    (aCO : PySem.W.findIn K (.ref C) "compute" = some (some (.ref fCO)))
    (iCO : PySem.W.isFn K (.ref fCO) = true)
    (lCO : K.lookup fCO = some ⟨ocCO, odCO, .func (PySem.W.fnOf "compute" "Primitive.compute" (defArgs sComp) (defBody sComp) (defScope sComp) .none kVCO dcCO pmCO anCO cdCO ctCO), slCO⟩)
    (cCO : PySem.W.codeIn K cdCO "Primitive.compute" = true)
    (kCO : PySem.W.keepIn K (.ref fCO) = true)
    (aA1 : PySem.W.nsIn K mainGlobals "_add" = some (some (.ref fA1)))
    (lA1 : K.lookup fA1 = some ⟨ocA1, odA1, .func (PySem.W.fnOf "_add" "_add" (defArgs sAdd) (defBody sAdd) (defScope sAdd) .none kVA1 dcA1 pmA1 anA1 cdA1 ctA1), slA1⟩)
    (cA1 : PySem.W.codeIn K cdA1 "_add" = true)
    (kA1 : PySem.W.keepIn K (.ref fA1) = true)
    (aA2 : PySem.W.nsIn K mainGlobals "_sub" = some (some (.ref fA2)))
    (lA2 : K.lookup fA2 = some ⟨ocA2, odA2, .func (PySem.W.fnOf "_sub" "_sub" (defArgs sSub) (defBody sSub) (defScope sSub) .none kVA2 dcA2 pmA2 anA2 cdA2 ctA2), slA2⟩)
    (cA2 : PySem.W.codeIn K cdA2 "_sub" = true)
    (kA2 : PySem.W.keepIn K (.ref fA2) = true)
    (aA3 : PySem.W.nsIn K mainGlobals "_mul" = some (some (.ref fA3)))
    (lA3 : K.lookup fA3 = some ⟨ocA3, odA3, .func (PySem.W.fnOf "_mul" "_mul" (defArgs sMul) (defBody sMul) (defScope sMul) .none kVA3 dcA3 pmA3 anA3 cdA3 ctA3), slA3⟩)
    (cA3 : PySem.W.codeIn K cdA3 "_mul" = true)
    (kA3 : PySem.W.keepIn K (.ref fA3) = true)
    (aA4 : PySem.W.nsIn K mainGlobals "_less" = some (some (.ref fA4)))
    (lA4 : K.lookup fA4 = some ⟨ocA4, odA4, .func (PySem.W.fnOf "_less" "_less" (defArgs sLess) (defBody sLess) (defScope sLess) .none kVA4 dcA4 pmA4 anA4 cdA4 ctA4), slA4⟩)
    (cA4 : PySem.W.codeIn K cdA4 "_less" = true)
    (kA4 : PySem.W.keepIn K (.ref fA4) = true)
    (aA5 : PySem.W.nsIn K mainGlobals "_equal" = some (some (.ref fA5)))
    (lA5 : K.lookup fA5 = some ⟨ocA5, odA5, .func (PySem.W.fnOf "_equal" "_equal" (defArgs sEqual) (defBody sEqual) (defScope sEqual) .none kVA5 dcA5 pmA5 anA5 cdA5 ctA5), slA5⟩)
    (cA5 : PySem.W.codeIn K cdA5 "_equal" = true)
    (kA5 : PySem.W.keepIn K (.ref fA5) = true)
    (aA6 : PySem.W.nsIn K mainGlobals "_pick" = some (some (.ref fA6)))
    (lA6 : K.lookup fA6 = some ⟨ocA6, odA6, .func (PySem.W.fnOf "_pick" "_pick" (defArgs sPick) (defBody sPick) (defScope sPick) .none kVA6 dcA6 pmA6 anA6 cdA6 ctA6), slA6⟩)
    (cA6 : PySem.W.codeIn K cdA6 "_pick" = true)
    (kA6 : PySem.W.keepIn K (.ref fA6) = true)
    (aA7 : PySem.W.nsIn K mainGlobals "_divide" = some (some (.ref fA7)))
    (lA7 : K.lookup fA7 = some ⟨ocA7, odA7, .func (PySem.W.fnOf "_divide" "_divide" (defArgs sDivide) (defBody sDivide) (defScope sDivide) .none kVA7 dcA7 pmA7 anA7 cdA7 ctA7), slA7⟩)
    (cA7 : PySem.W.codeIn K cdA7 "_divide" = true)
    (kA7 : PySem.W.keepIn K (.ref fA7) = true)
    (zmax : PySem.W.nsIn K mainGlobals "max" = some none)
    (zmin : PySem.W.nsIn K mainGlobals "min" = some none)
    (zabs : PySem.W.nsIn K mainGlobals "abs" = some none)
    (zrange : PySem.W.nsIn K mainGlobals "range" = some none)
    (zrepr : PySem.W.nsIn K mainGlobals "repr" = some none)
    (aR : PySem.W.nsIn K mainGlobals "RULES" = some (some (.ref dR)))
    (lR : K.lookup dR = some ⟨.type "dict", none, .dict esR nR, #[]⟩)
    (qR : PySem.W.KeysLit w.params esR.toList)
    (oR : (dR == sysModules) = false)
    (w1 : PySem.W.nsIn K dR "add" = some (some (.ref fA1)))
    (w2 : PySem.W.nsIn K dR "sub" = some (some (.ref fA2)))
    (w3 : PySem.W.nsIn K dR "mul" = some (some (.ref fA3)))
    (w4 : PySem.W.nsIn K dR "less" = some (some (.ref fA4)))
    (w5 : PySem.W.nsIn K dR "equal" = some (some (.ref fA5)))
    (w6 : PySem.W.nsIn K dR "pick" = some (some (.ref fA6)))
    (w7 : PySem.W.nsIn K dR "divide" = some (some (.ref fA7))) :
    ∃ fd : FuncData, (∀ (s : Shared) (v : Value), BindsTo s fd ⟨[v], []⟩ [("script", v)]) ∧ ∀ base : Heap, K.In base → base.Ns mainGlobals mg → FnG PySem.Challenge.pw_stepblocks_k03_what_primitives_compute w K mg base CX0 5 fa fd ["script"] (spLaw K) := by
  have e := hfa.symm.trans (PySem.W.mg_of X G aLA)
  cases e
  have c : Cls K C := ⟨pg, hd, po, sa⟩
  have pair : ∀ {t x y : Addr} {m : Nat} {dd : Option Addr} {s : Array (Option Value)}, K.lookup t = some ⟨.type "tuple", dd, .seq #[.ref x, .ref y] m, s⟩ → ∀ H, SqT K H t [.ref x, .ref y] := fun l H =>
    .inr ⟨_, _, _, l, rfl, rfl, (by decide +kernel : 2 ≤ sizeLine), .cons rfl (.cons rfl .nil)⟩
  have D : KDict K w dP esP nP := ⟨lP, qP, oP⟩
  have po1 : PortsOk K "const" (.ref x1) (.ref y1) := by
    refine ⟨x1, y1, rfl, rfl, ?_, ?_, vz1⟩
    · rw [show insOf "const" = ([] : List Str) by decide +kernel]
      exact fun H => .inr ⟨_, _, _, vx1, rfl, rfl, (by decide +kernel : 0 ≤ sizeLine), .nil⟩
    · rw [show outsOf "const" = (["out"] : List Str) by decide +kernel]
      exact fun H => .inr ⟨_, _, _, vy1, rfl, rfl, (by decide +kernel : 1 ≤ sizeLine), (.cons ⟨_, rfl⟩ .nil)⟩
  have po2 : PortsOk K "add" (.ref x2) (.ref y2) := by
    refine ⟨x2, y2, rfl, rfl, ?_, ?_, vz2⟩
    · rw [show insOf "add" = (["a", "b"] : List Str) by decide +kernel]
      exact fun H => .inr ⟨_, _, _, vx2, rfl, rfl, (by decide +kernel : 2 ≤ sizeLine), (.cons ⟨_, rfl⟩ (.cons ⟨_, rfl⟩ .nil))⟩
    · rw [show outsOf "add" = (["out"] : List Str) by decide +kernel]
      exact fun H => .inr ⟨_, _, _, vy2, rfl, rfl, (by decide +kernel : 1 ≤ sizeLine), (.cons ⟨_, rfl⟩ .nil)⟩
  have po3 : PortsOk K "sub" (.ref x3) (.ref y3) := by
    refine ⟨x3, y3, rfl, rfl, ?_, ?_, vz3⟩
    · rw [show insOf "sub" = (["a", "b"] : List Str) by decide +kernel]
      exact fun H => .inr ⟨_, _, _, vx3, rfl, rfl, (by decide +kernel : 2 ≤ sizeLine), (.cons ⟨_, rfl⟩ (.cons ⟨_, rfl⟩ .nil))⟩
    · rw [show outsOf "sub" = (["out"] : List Str) by decide +kernel]
      exact fun H => .inr ⟨_, _, _, vy3, rfl, rfl, (by decide +kernel : 1 ≤ sizeLine), (.cons ⟨_, rfl⟩ .nil)⟩
  have po4 : PortsOk K "mul" (.ref x4) (.ref y4) := by
    refine ⟨x4, y4, rfl, rfl, ?_, ?_, vz4⟩
    · rw [show insOf "mul" = (["a", "b"] : List Str) by decide +kernel]
      exact fun H => .inr ⟨_, _, _, vx4, rfl, rfl, (by decide +kernel : 2 ≤ sizeLine), (.cons ⟨_, rfl⟩ (.cons ⟨_, rfl⟩ .nil))⟩
    · rw [show outsOf "mul" = (["out"] : List Str) by decide +kernel]
      exact fun H => .inr ⟨_, _, _, vy4, rfl, rfl, (by decide +kernel : 1 ≤ sizeLine), (.cons ⟨_, rfl⟩ .nil)⟩
  have po5 : PortsOk K "less" (.ref x5) (.ref y5) := by
    refine ⟨x5, y5, rfl, rfl, ?_, ?_, vz5⟩
    · rw [show insOf "less" = (["a", "b"] : List Str) by decide +kernel]
      exact fun H => .inr ⟨_, _, _, vx5, rfl, rfl, (by decide +kernel : 2 ≤ sizeLine), (.cons ⟨_, rfl⟩ (.cons ⟨_, rfl⟩ .nil))⟩
    · rw [show outsOf "less" = (["out"] : List Str) by decide +kernel]
      exact fun H => .inr ⟨_, _, _, vy5, rfl, rfl, (by decide +kernel : 1 ≤ sizeLine), (.cons ⟨_, rfl⟩ .nil)⟩
  have po6 : PortsOk K "equal" (.ref x6) (.ref y6) := by
    refine ⟨x6, y6, rfl, rfl, ?_, ?_, vz6⟩
    · rw [show insOf "equal" = (["a", "b"] : List Str) by decide +kernel]
      exact fun H => .inr ⟨_, _, _, vx6, rfl, rfl, (by decide +kernel : 2 ≤ sizeLine), (.cons ⟨_, rfl⟩ (.cons ⟨_, rfl⟩ .nil))⟩
    · rw [show outsOf "equal" = (["out"] : List Str) by decide +kernel]
      exact fun H => .inr ⟨_, _, _, vy6, rfl, rfl, (by decide +kernel : 1 ≤ sizeLine), (.cons ⟨_, rfl⟩ .nil)⟩
  have po7 : PortsOk K "pick" (.ref x7) (.ref y7) := by
    refine ⟨x7, y7, rfl, rfl, ?_, ?_, vz7⟩
    · rw [show insOf "pick" = (["c", "a", "b"] : List Str) by decide +kernel]
      exact fun H => .inr ⟨_, _, _, vx7, rfl, rfl, (by decide +kernel : 3 ≤ sizeLine), (.cons ⟨_, rfl⟩ (.cons ⟨_, rfl⟩ (.cons ⟨_, rfl⟩ .nil)))⟩
    · rw [show outsOf "pick" = (["out"] : List Str) by decide +kernel]
      exact fun H => .inr ⟨_, _, _, vy7, rfl, rfl, (by decide +kernel : 1 ≤ sizeLine), (.cons ⟨_, rfl⟩ .nil)⟩
  have po8 : PortsOk K "divide" (.ref x8) (.ref y8) := by
    refine ⟨x8, y8, rfl, rfl, ?_, ?_, vz8⟩
    · rw [show insOf "divide" = (["a", "b"] : List Str) by decide +kernel]
      exact fun H => .inr ⟨_, _, _, vx8, rfl, rfl, (by decide +kernel : 2 ≤ sizeLine), (.cons ⟨_, rfl⟩ (.cons ⟨_, rfl⟩ .nil))⟩
    · rw [show outsOf "divide" = (["quotient", "rest"] : List Str) by decide +kernel]
      exact fun H => .inr ⟨_, _, _, vy8, rfl, rfl, (by decide +kernel : 2 ≤ sizeLine), (.cons ⟨_, rfl⟩ (.cons ⟨_, rfl⟩ .nil))⟩
  have po9 : PortsOk K "delay" (.ref x9) (.ref y9) := by
    refine ⟨x9, y9, rfl, rfl, ?_, ?_, vz9⟩
    · rw [show insOf "delay" = (["in"] : List Str) by decide +kernel]
      exact fun H => .inr ⟨_, _, _, vx9, rfl, rfl, (by decide +kernel : 1 ≤ sizeLine), (.cons ⟨_, rfl⟩ .nil)⟩
    · rw [show outsOf "delay" = (["out"] : List Str) by decide +kernel]
      exact fun H => .inr ⟨_, _, _, vy9, rfl, rfl, (by decide +kernel : 1 ≤ sizeLine), (.cons ⟨_, rfl⟩ .nil)⟩
  have keysP : ∀ e ∈ esP.toList, ∃ x t, e.key = .str x t ∧ x ∈ words9 := fun e he => by
    have z : e.key ∈ esP.toList.map (·.key) := List.mem_map_of_mem he
    rw [kP] at z
    simp only [List.mem_cons, List.not_mem_nil, or_false] at z
    rcases z with z | z | z | z | z | z | z | z | z <;> exact ⟨_, _, z, by decide +kernel⟩
  have T : Txt K w mg C := by
    refine ⟨c, nN, nI, nO, nK, PySem.W.mg_of X G aC, ⟨dP, esP, nP, PySem.W.mg_of X G aP, D, fun z hz => ?_, fun z hz => miss_of lP keysP hz⟩,
      ⟨dW, PySem.W.mg_of X G aW, fun H => .inr ⟨_, _, _, lW, rfl, rfl, (by decide +kernel : 2 ≤ sizeLine), .cons ⟨_, rfl⟩ (.cons ⟨_, rfl⟩ .nil)⟩⟩, PySem.W.mg_none_of X G zsuper, ⟨_, PySem.W.mg_of X G aDg⟩, ⟨_, PySem.W.mg_of X G aMd⟩, ⟨_, PySem.W.mg_of X G aMo⟩,
      PySem.W.mg_none_of X G zlen, PySem.W.mg_none_of X G zall, PySem.W.mg_none_of X G zint, PySem.W.mg_none_of X G zstr⟩
    simp only [words9, List.mem_cons, List.not_mem_nil, or_false] at hz
    rcases hz with rfl | rfl | rfl | rfl | rfl | rfl | rfl | rfl | rfl
    · exact ⟨_, t1, .ref x1, .ref y1, u1, rfl, pair v1, po1⟩
    · exact ⟨_, t2, .ref x2, .ref y2, u2, rfl, pair v2, po2⟩
    · exact ⟨_, t3, .ref x3, .ref y3, u3, rfl, pair v3, po3⟩
    · exact ⟨_, t4, .ref x4, .ref y4, u4, rfl, pair v4, po4⟩
    · exact ⟨_, t5, .ref x5, .ref y5, u5, rfl, pair v5, po5⟩
    · exact ⟨_, t6, .ref x6, .ref y6, u6, rfl, pair v6, po6⟩
    · exact ⟨_, t7, .ref x7, .ref y7, u7, rfl, pair v7, po7⟩
    · exact ⟨_, t8, .ref x8, .ref y8, u8, rfl, pair v8, po8⟩
    · exact ⟨_, t9, .ref x9, .ref y9, u9, rfl, pair v9, po9⟩
  have FRV := fun_mk (st := sRV) lRV cRV kRV
  have bRV := FRV.binds (ps := ["text"]) fun _ _ _ _ _ _ us hl => match us, hl with | [_], _ => rfl
  have FRP := fun_mk (st := sRP) lRP cRP kRP
  have bRP := FRP.binds (ps := ["text"]) fun _ _ _ _ _ _ us hl => match us, hl with | [_], _ => rfl
  have FBI := fun_mk (st := sBI) lBI cBI kBI
  have bBI := FBI.binds (ps := ["self", "name", "inputs", "outputs"]) fun _ _ _ _ _ _ us hl => match us, hl with | [_, _, _, _], _ => rfl
  have FPA := fun_mk (st := sParse) lPA cPA kPA
  have bPA := FPA.binds (ps := ["cls", "text"]) fun _ _ _ _ _ _ us hl => match us, hl with | [_, _], _ => rfl
  have FST := fun_mk (st := sStr) lST cST kST
  have bST := FST.binds (ps := ["self"]) fun _ _ _ _ _ _ us hl => match us, hl with | [_], _ => rfl
  have FFE := fun_mk (st := sFeed) lFE cFE kFE
  have bFE := FFE.binds (ps := ["script", "k"]) fun _ _ _ _ _ _ us hl => match us, hl with | [_, _], _ => rfl
  have FTK := fun_mk (st := sTake) lTK cTK kTK
  have bTK := FTK.binds (ps := ["feed", "many"]) fun _ _ _ _ _ _ us hl => match us, hl with | [_, _], _ => rfl
  have FPK := fun_mk (st := sPickL) lPK cPK kPK
  have bPK := FPK.binds (ps := ["feed", "some"]) fun _ _ _ _ _ _ us hl => match us, hl with | [_, _], _ => rfl
  have FDU := fun_mk (st := sDue) lDU cDU kDU
  have bDU := FDU.binds (ps := ["name", "values"]) fun _ _ _ _ _ _ us hl => match us, hl with | [_, _], _ => rfl
  have FLA := fun_mk (st := sLaw) lLA cLA kLA
  have bLA := FLA.binds (ps := ["script"]) fun _ _ _ _ _ _ us hl => match us, hl with | [_], _ => rfl
  have FCO := fun_mk (st := sComp) lCO cCO kCO
  have bCO := FCO.binds (ps := ["self", "values"]) fun _ _ _ _ _ _ us hl => match us, hl with | [_, _], _ => rfl
  have FA1 := fun_mk (st := sAdd) lA1 cA1 kA1
  have bA1 := FA1.binds (ps := ["a", "b"]) fun _ _ _ _ _ _ us hl => match us, hl with | [_, _], _ => rfl
  have FA2 := fun_mk (st := sSub) lA2 cA2 kA2
  have bA2 := FA2.binds (ps := ["a", "b"]) fun _ _ _ _ _ _ us hl => match us, hl with | [_, _], _ => rfl
  have FA3 := fun_mk (st := sMul) lA3 cA3 kA3
  have bA3 := FA3.binds (ps := ["a", "b"]) fun _ _ _ _ _ _ us hl => match us, hl with | [_, _], _ => rfl
  have FA4 := fun_mk (st := sLess) lA4 cA4 kA4
  have bA4 := FA4.binds (ps := ["a", "b"]) fun _ _ _ _ _ _ us hl => match us, hl with | [_, _], _ => rfl
  have FA5 := fun_mk (st := sEqual) lA5 cA5 kA5
  have bA5 := FA5.binds (ps := ["a", "b"]) fun _ _ _ _ _ _ us hl => match us, hl with | [_, _], _ => rfl
  have FA6 := fun_mk (st := sPick) lA6 cA6 kA6
  have bA6 := FA6.binds (ps := ["c", "a", "b"]) fun _ _ _ _ _ _ us hl => match us, hl with | [_, _, _], _ => rfl
  have FA7 := fun_mk (st := sDivide) lA7 cA7 kA7
  have bA7 := FA7.binds (ps := ["a", "b"]) fun _ _ _ _ _ _ us hl => match us, hl with | [_, _], _ => rfl
  refine ⟨PySem.W.fnOf "law" "law" (defArgs sLaw) (defBody sLaw) (defScope sLaw) .none kVLA dcLA pmLA anLA cdLA ctLA, fun s v => .of_eq rfl, fun base _ _ => ?_⟩
  have PI : PIn K PySem.Challenge.pw_stepblocks_k03_what_primitives_compute C fPI cc cda fBI := ⟨⟨_, _, _, _, _, _, _, lPI, ⟨_, _, _, lPI⟩, ⟨_, rfl, rfl⟩, ⟨_, _, _, _, _, _, lcd, vcd, beq_self_eq_true _⟩, ⟨_, _, _, lcc⟩, by decide +kernel, tpa⟩, cPI, ⟨sbs, sat, sty, ⟨_, sdc⟩, sfi⟩⟩
  have GB : FnOk PySem.Challenge.pw_stepblocks_k03_what_primitives_compute w K mg base CX0 1 fBI _ ["self", "name", "inputs", "outputs"] (spBI K) := ok_bi FBI
  have GI := ok_pi PI T GB bBI
  have GRV : FnOk PySem.Challenge.pw_stepblocks_k03_what_primitives_compute w K mg base CX0 1 fRV _ ["text"] spRV := ok_rv FRV T
  have GRP : FnOk PySem.Challenge.pw_stepblocks_k03_what_primitives_compute w K mg base CX0 2 fRP _ ["text"] spRP := ok_rp FRP T GRV (PySem.W.mg_of X G aRV) kRV bRV
  have GPA : FnOk PySem.Challenge.pw_stepblocks_k03_what_primitives_compute w K mg base CX0 4 fPA _ ["cls", "text"] (spParse K C) := ok_parse FPA T GRP (PySem.W.mg_of X G aRP) kRP bRP ⟨mk, aPI, iPI, kc⟩ GI
  have GST : FnOk PySem.Challenge.pw_stepblocks_k03_what_primitives_compute w K mg base CX0 1 fST _ ["self"] (spStr C) := ok_str FST T
  have raw : ∀ {k : Nat} {f : Addr} {fd : FuncData} {ps : List Str} {sp : Sp}, FnOk PySem.Challenge.pw_stepblocks_k03_what_primitives_compute w K mg base CX0 k f fd ps sp → Binds K fd ps [] → FnR PySem.Challenge.pw_stepblocks_k03_what_primitives_compute w K mg base CX0 k f sp := fun g b => by
    have z := g.raw b .nil
    simpa only [List.append_nil] using z
  have GFE : FnOk PySem.Challenge.pw_stepblocks_k03_what_primitives_compute w K mg base CX0 1 fFE _ ["script", "k"] (spFeed K) := ok_feed FFE (PySem.W.mg_none_of X G zlen) (PySem.W.mg_none_of X G zmax) (PySem.W.mg_none_of X G zabs)
  have GTK : FnOk PySem.Challenge.pw_stepblocks_k03_what_primitives_compute w K mg base CX0 1 fTK _ ["feed", "many"] spTake := ok_take FTK
  have GPK : FnOk PySem.Challenge.pw_stepblocks_k03_what_primitives_compute w K mg base CX0 2 fPK _ ["feed", "some"] spPickL := ok_pickl FPK GTK (PySem.W.mg_of X G aTK) kTK bTK (PySem.W.mg_none_of X G zlen)
  have mM := PySem.W.mg_of X G aMo
  have GCO : FnOk PySem.Challenge.pw_stepblocks_k03_what_primitives_compute w K mg base CX0 2 fCO _ ["self", "values"] (spComp K C) := ok_comp FCO T ⟨dR, esR, nR, PySem.W.mg_of X G aR, ⟨lR, qR, oR⟩, fun nm => by
    cases nm
    · exact ⟨fA1, w1, raw (ok_add FA1 mM) bA1, kA1⟩
    · exact ⟨fA2, w2, raw (ok_sub FA2 mM) bA2, kA2⟩
    · exact ⟨fA3, w3, raw (ok_mul FA3 mM) bA3, kA3⟩
    · exact ⟨fA4, w4, raw (ok_less FA4) bA4, kA4⟩
    · exact ⟨fA5, w5, raw (ok_equal FA5) bA5, kA5⟩
    · exact ⟨fA6, w6, raw (ok_pick FA6) bA6, kA6⟩
    · exact ⟨fA7, w7, raw (ok_divide FA7) bA7, kA7⟩⟩
  have GDU : FnOk PySem.Challenge.pw_stepblocks_k03_what_primitives_compute w K mg base CX0 1 fDU _ ["name", "values"] (spDue K) := ok_due FDU
  have Pa : Par PySem.Challenge.pw_stepblocks_k03_what_primitives_compute w K mg base C := ⟨⟨.type "type", pPA, fPA, ⟨rdC, gaC⟩, ⟨aPA, ⟨_, rPA⟩, iPA⟩, raw GPA bPA⟩, ⟨fCO, _, ⟨aCO, iCO, kCO⟩, GCO, bCO⟩, ⟨fST, aST, iST, raw GST bST⟩⟩
  exact ok_law FLA T Pa GFE (PySem.W.mg_of X G aFE) kFE bFE GTK (PySem.W.mg_of X G aTK) kTK bTK GPK (PySem.W.mg_of X G aPK) kPK bPK GDU (PySem.W.mg_of X G aDU) kDU bDU (PySem.W.mg_none_of X G zlen) (PySem.W.mg_none_of X G zmax) (PySem.W.mg_none_of X G zmin) (PySem.W.mg_none_of X G zrange) (PySem.W.mg_none_of X G zrepr)
theorem walk {l : PySem.W.OpenLaw} {q : Program} {loose : List Str} {XP : (Str → Option Value) → Heap → Prop} {YP : World → Heap → Prop} {d : DefRec} {K : Params → PySem.W.Frag} (hn : l.most = some 63) (hdf : d.params.defaults = [])
    (hY : ∀ (w : World) (h : Heap), YP w h → (K w.params).In h)
    (F : ∀ (w : World) (mg : Str → Option Value) (fa : Addr) (h : Heap), (K w.params).In h → h.Ns mainGlobals mg → mg d.name = some (.ref fa) →
      ∃ fd : FuncData, (∀ (s : Shared) (u : Value), BindsTo s fd ⟨[u], []⟩ [("script", u)]) ∧ ∀ base : Heap, (K w.params).In base → base.Ns mainGlobals mg → FnG l.prog w (K w.params) mg base CX0 5 fa fd ["script"] (spLaw (K w.params))) :
    PySem.W.WalkO q loose XP YP l.row.toRowW d [] (fun f vs => PySem.call f vs) :=
  walk_ofG (n := 63) (k := 5) (x := "script") (sp := fun w => spLaw (K w.params)) hn (by decide) hdf ⟨rfl, by decide, by decide⟩ hY F (fun _ _ a ns hl _ hS => ⟨a, ns, rfl, hS, hl, fun _ => rfl⟩)
end K3
open PySem PySem.W PyProof.Rows
set_option maxRecDepth 100000 in
set_option maxHeartbeats 0 in
theorem PySem.Challenge.cw_stepblocks_k03_what_primitives_compute_holds : PySem.Challenge.rw_stepblocks_k03_what_primitives_compute.Holds := by
  w_on; o_law; k_head; (case hw => w_witness2)
  k_fill
  refine K3.walk (l := PySem.Challenge.rw_stepblocks_k03_what_primitives_compute) rfl rfl (fun w h Y => PySem.W.kIn_of Y) ?F
  case F =>
    intro w mg fa h KX G hmg
    refine' K3.all_mk KX G hmg ?aC ?aB ?aRV ?lRV ?cRV ?kRV ?aRP ?lRP ?cRP ?kRP ?aBI ?iBI ?lBI ?cBI ?kBI ?aPA ?rPA ?iPA ?lPA ?cPA ?kPA ?aST ?iST ?lST ?cST ?kST ?aPI ?iPI ?lPI ?cPI ?lcd ?vcd ?lcc ?tpa ?sbs ?sat ?sty ?sdc ?sfi ?pg ?hd ?po ?sa ?mk ?kc ?rdC ?gaC ?nN ?nI ?nO ?nK ?aMo ?aMd ?aDg ?aP ?lP ?qP ?oP ?kP ?aW ?lW ?u1 ?v1 ?vx1 ?vy1 ?vz1 ?u2 ?v2 ?vx2 ?vy2 ?vz2 ?u3 ?v3 ?vx3 ?vy3 ?vz3 ?u4 ?v4 ?vx4 ?vy4 ?vz4 ?u5 ?v5 ?vx5 ?vy5 ?vz5 ?u6 ?v6 ?vx6 ?vy6 ?vz6 ?u7 ?v7 ?vx7 ?vy7 ?vz7 ?u8 ?v8 ?vx8 ?vy8 ?vz8 ?u9 ?v9 ?vx9 ?vy9 ?vz9 ?zsuper ?zlen ?zall ?zint ?zstr ?aFE ?lFE ?cFE ?kFE ?aTK ?lTK ?cTK ?kTK ?aPK ?lPK ?cPK ?kPK ?aDU ?lDU ?cDU ?kDU ?aLA ?lLA ?cLA ?kLA ?aCO ?iCO ?lCO ?cCO ?kCO ?aA1 ?lA1 ?cA1 ?kA1 ?aA2 ?lA2 ?cA2 ?kA2 ?aA3 ?lA3 ?cA3 ?kA3 ?aA4 ?lA4 ?cA4 ?kA4 ?aA5 ?lA5 ?cA5 ?kA5 ?aA6 ?lA6 ?cA6 ?kA6 ?aA7 ?lA7 ?cA7 ?kA7 ?zmax ?zmin ?zabs ?zrange ?zrepr ?aR ?lR ?qR ?oR ?w1 ?w2 ?w3 ?w4 ?w5 ?w6 ?w7
    (case aC => k_is); (case aB => k_is); (case aRV => k_is); (case lRV => k_is); (case cRV => k_is); (case kRV => k_is); (case aRP => k_is); (case lRP => k_is)
    (case cRP => k_is); (case kRP => k_is); (case aBI => k_is); (case iBI => k_is); (case lBI => k_is); (case cBI => k_is); (case kBI => k_is); (case aPA => k_is)
    (case rPA => k_is); (case iPA => k_is); (case lPA => k_is); (case cPA => k_is); (case kPA => k_is); (case aST => k_is); (case iST => k_is); (case lST => k_is)
    (case cST => k_is); (case kST => k_is); (case aPI => k_is); (case iPI => k_is); (case lPI => k_is); (case cPI => k_is); (case lcd => k_is); (case vcd => exact rfl)
    (case lcc => k_is); (case tpa => k_is); (case sbs => k_is); (case sat => ks_is); (case sty => k_is); (case sdc => k_is); (case sfi => k_is); (case pg => k_is)
    (case hd => k_is); (case po => k_is); (case sa => k_is); (case mk => k_is); (case kc => k_is); (case rdC => k_is); (case gaC => k_is); (case nN => k_is)
    (case nI => k_is); (case nO => k_is); (case nK => k_is); (case aMo => k_is); (case aMd => k_is); (case aDg => k_is); (case aP => k_is); (case lP => k_is)
    (case qP => k_keys); (case oP => decide); (case kP => exact rfl); (case aW => k_is); (case lW => k_is); (case u1 => k_is); (case v1 => k_is); (case vx1 => k_is)
    (case vy1 => k_is); (case vz1 => decide); (case u2 => k_is); (case v2 => k_is); (case vx2 => k_is); (case vy2 => k_is); (case vz2 => decide); (case u3 => k_is)
    (case v3 => k_is); (case vx3 => k_is); (case vy3 => k_is); (case vz3 => decide); (case u4 => k_is); (case v4 => k_is); (case vx4 => k_is); (case vy4 => k_is)
    (case vz4 => decide); (case u5 => k_is); (case v5 => k_is); (case vx5 => k_is); (case vy5 => k_is); (case vz5 => decide); (case u6 => k_is); (case v6 => k_is)
    (case vx6 => k_is); (case vy6 => k_is); (case vz6 => decide); (case u7 => k_is); (case v7 => k_is); (case vx7 => k_is); (case vy7 => k_is); (case vz7 => decide)
    (case u8 => k_is); (case v8 => k_is); (case vx8 => k_is); (case vy8 => k_is); (case vz8 => decide); (case u9 => k_is); (case v9 => k_is); (case vx9 => k_is)
    (case vy9 => k_is); (case vz9 => decide); (case zsuper => k_is); (case zlen => k_is); (case zall => k_is); (case zint => k_is); (case zstr => k_is); (case aFE => k_is)
    (case lFE => k_is); (case cFE => k_is); (case kFE => k_is); (case aTK => k_is); (case lTK => k_is); (case cTK => k_is); (case kTK => k_is); (case aPK => k_is)
    (case lPK => k_is); (case cPK => k_is); (case kPK => k_is); (case aDU => k_is); (case lDU => k_is); (case cDU => k_is); (case kDU => k_is); (case aLA => k_is)
    (case lLA => k_is); (case cLA => k_is); (case kLA => k_is); (case aCO => k_is); (case iCO => k_is); (case lCO => k_is); (case cCO => k_is); (case kCO => k_is)
    (case aA1 => k_is); (case lA1 => k_is); (case cA1 => k_is); (case kA1 => k_is); (case aA2 => k_is); (case lA2 => k_is); (case cA2 => k_is); (case kA2 => k_is)
    (case aA3 => k_is); (case lA3 => k_is); (case cA3 => k_is); (case kA3 => k_is); (case aA4 => k_is); (case lA4 => k_is); (case cA4 => k_is); (case kA4 => k_is)
    (case aA5 => k_is); (case lA5 => k_is); (case cA5 => k_is); (case kA5 => k_is); (case aA6 => k_is); (case lA6 => k_is); (case cA6 => k_is); (case kA6 => k_is)
    (case aA7 => k_is); (case lA7 => k_is); (case cA7 => k_is); (case kA7 => k_is); (case zmax => k_is); (case zmin => k_is); (case zabs => k_is); (case zrange => k_is)
    (case zrepr => k_is); (case aR => k_is); (case lR => k_is); (case qR => k_keys); (case oR => decide); (case w1 => k_is); (case w2 => k_is); (case w3 => k_is)
    (case w4 => k_is); (case w5 => k_is); (case w6 => k_is); (case w7 => k_is)
