import PyProof.Rows.All
import Wide.All
import OpenK.AllK
import Wide.FinOn
import KE.KSuper
import HandS.Nested
import HandS.ClsMeth
import HandS.Star
import HandS.Ends
import HandS.Words
import HandS.List
import HandS.ForMost
import HandS.IsInst
import HandS.Wide
import HandS.More
import HandS.Walk
import HandS.FStr
import HandS.RaiseMore
import HandS.NoneIn
import HandS.Exc
import HandS.ExcIs
import HandS.ExcField
import HandS.ExcInit
import HandS.WordsExc
import HandS.ExcValue
import HandS.Codes
import KE.IntTextText
import HandS.StrSplit
import HandS.StrMore
import PySem.Challenge.RW_stepblocks_k02_texts_that_are_no_primiti
set_option Elab.async false
set_option linter.all false
set_option maxRecDepth 100000
set_option maxHeartbeats 8000000
/-! OwnA: super().__init__ of plain classes; a class held by a local, made; a def held by a local, called with a star. -/
namespace Own
open PySem PySem.Spec PyProof.Rows L2 NdefX ClX StX

/-! ### a block at its own code -/
structure PSA (X : Cx) (b0 : List Stmt) (sts : List Stmt) (t : TS) : Prop where
  run : ∀ (pins : List (Addr × Obj)) (s : Shared) (σ : L2.St) (H : Hp) (D : Ends), Inv X pins σ H s → t D σ H → _root_.PySem.wpAt (model X.prog X.w) X.A (.func b0 X.env) (execs sts X.env) (SP X pins D) X.xe s
theorem psa_of {X : Cx} {b0 sts : List Stmt} {t : TS} (h : PSs X sts t) : PSA X b0 sts t := ⟨fun pins s σ H D I q => wpAt_of_wpAny (h.run pins s σ H D I q)⟩
theorem psa_cons {X : Cx} {b0 rest : List Stmt} {st : Stmt} {t u : TS} (h1 : PS X st t) (h2 : PSA X b0 rest u) : PSA X b0 (st :: rest) (tSeq t u) := by
  refine ⟨fun pins s σ H D I q => PySem.ks_wpAt_execs_cons (wpAt_of_wpAny (thn (h1.run pins s σ H { D with nx := u D } I q) fun f s' hs => ?_))⟩
  cases f with
  | next =>
    obtain ⟨σ', H', I', q'⟩ := hs
    exact h2.run pins s' σ' H' D I' q'
  | brk => exact hs
  | cont => exact hs
  | ret u => exact hs

/-! ### super().m(e, ..) as a statement -/
/-- what the text says: the def's first parameter is slot 0; D: the class whose body holds the def; f2: the next class's method -/
structure SupK (K : PySem.W.Frag) (prog : Program) (f cda cc D : Addr) (fd : FuncData) (sf : Str) : Prop where
  fn : ∃ oc od osl, K.lookup f = some ⟨oc, od, .func fd, osl⟩
  par : ∃ ar, (fd.params.posonlyargs ++ fd.params.args).head? = some ar ∧ ar.arg = sf
  code : ∃ ccl cdd vs ccs file tf, K.lookup cda = some ⟨ccl, cdd, .fields vs, ccs⟩ ∧ vs[2]? = some (.str file tf) ∧ ((prog.main.file : Str) == file) = true
  cell : ∃ cl cld csl, K.lookup cc = some ⟨cl, cld, .cell (some (.ref D)), csl⟩
  top : (prog.main.scope.names.lookup ("super" : Str)).isSome = false
  st : PySem.W.nsIn K PySem.cStatics "thirdparty.any" = some none
/-- of an instance's class C -/
structure SupC (K : PySem.W.Frag) (C D : Addr) (m : Str) (f2 : Addr) : Prop where
  sub : PySem.W.mroIn K C (.ref D) = some true
  at_ : PySem.W.ks_superIn K C D m = some (some (.ref f2))
  ty : PySem.W.typeIn K (.ref f2) = some (.type "function")
  dcl : ∃ cdD, PySem.W.clsIn K D = some cdD
  fi : PySem.W.fnIn K f2 = true
def tSuper (K : PySem.W.Frag) (D : Addr) (m : Str) (f2 : Addr) (sp : Sp) (E : XK) (t : TA) : TS := fun D' σ H => ∃ x C dx fs, σ[0]? = some (some (.ref x)) ∧ H x = some (.ins C dx fs) ∧ SupC K C D m f2 ∧
  t σ H fun vs H1 => sp (.ref x :: vs) H1 (fun _ H2 => D'.nx σ H2) E
theorem psa_super {X : Cx} {CX : CXT} {k : Nat} {b0 rest : List Stmt} {p0 p1 apos pos spos : Pos} {m self : Str} {e : Expr} {es : List Expr} {t : TA} {u : TS} {f cda cc D f2 : Addr} {fd : FuncData} {sp : Sp} {E : XK} {pl : Sem Bool}
    (SK : SupK X.K X.prog f cda cc D fd self) (hfu : X.env.func = some f) (hco : X.env.code = .ref cda) (hcl : X.env.cells.lookup ("__class__" : Str) = some cc)
    (hks : X.env.kindOf "super" = some .globalImplicit) (hkc : X.env.kindOf "__class__" = some .free) (hN : X.N[0]? = some self) (hka : X.env.kindOf self = some .local) (hms : X.mg "super" = none)
    (F : FnR X.prog X.w X.K X.mg X.base CX k f2 sp) (hr : Room k X.A) (hx : Passes CX X E) (ha : PA X (e :: es) t) (hu : PSA X b0 rest u)
    (hm1 : (m == ("__class__" : Str)) = false := by decide +kernel)
    (hi : interactive X.env = false := by rfl) (hsw : swapsWith (.Call (.Attribute (.Call (.Name "super" p0) [] [] p1) m apos) (e :: es) [] pos) none spos.line X.env = pure false := by rfl)
    (hst : starEach (e :: es) X.env = (false, eval e X.env) :: starEach es X.env := by rfl) (hpl : (backTo pos (starEach es X.env)).any (·.1) = false := by rfl)
    (ht : eval (.Call (.Attribute (.Call (.Name "super" p0) [] [] p1) m apos) (e :: es) [] pos) X.env = (do
      let ov ← attributeBase (.Call (.Name "super" p0) [] [] p1) m X.env (eval (.Call (.Name "super" p0) [] [] p1) X.env)
      standAt apos.atName
      let (f, first) ← holding [ov] (getMethod ov m pl)
      callWith pos f first (backTo pos (starEach (e :: es) X.env)) []) := by rfl) :
    PSA X b0 (.Expr (.Call (.Attribute (.Call (.Name "super" p0) [] [] p1) m apos) (e :: es) [] pos) spos :: rest) (tSeq (tSuper X.K D m f2 sp E t) u) := by
  refine ⟨fun pins s σ H Dn I q => ?_⟩
  obtain ⟨x, C, dx, fs, hσ, hH, SC, q⟩ := q
  have KX := I.kIn
  obtain ⟨oc, od, osl, hf⟩ := SK.fn
  obtain ⟨ar, har, hself⟩ := SK.par
  obtain ⟨ccl, cdd, vs, ccs, file, tf, hcode, hvs, hfile⟩ := SK.code
  obtain ⟨cl, cld, csl, hcell⟩ := SK.cell
  obtain ⟨cdD, hD⟩ := SC.dcl
  obtain ⟨oD, hD1, hD2⟩ : ∃ oD, s.heap.get? D = some oD ∧ oD.data = .cls cdD := by
    unfold PySem.W.clsIn at hD
    split at hD
    · rename_i c d cd' sl ho
      cases hD
      exact ⟨_, KX _ _ ho, rfl⟩
    · cases hD
  obtain ⟨mA, O, rr, _, _, _⟩ := ins_get I.hok hH
  obtain ⟨odx, J, _⟩ := O.look
  obtain ⟨ml, hn, hl⟩ := id I.loc
  have hself' : ml ar.arg = some (.ref x) := by
    obtain ⟨w', rw', lk⟩ := hl 0 self (.ref x) hN hσ (.inl hka)
    rcases lk with ⟨_, e1⟩ | ⟨e1, _⟩
    · rw [hself, e1]
      exact congrArg some rw'
    · rw [hka] at e1
      rcases e1 with z | z <;> cases z
  obtain ⟨mb, hb1, hb2⟩ := I.mod.blt
  refine PySem.ks_wpAt_execs_cons (PySem.ks_wpAt_Expr_any (Q := fun f s' => match f with | .next => _root_.PySem.wpAt (model X.prog X.w) X.A (.func b0 X.env) (execs rest X.env) (SP X pins Dn) X.xe s' | f => SP X pins Dn f s') ?_ hi hsw)
  refine PySem.ks_wpAt_MethodCall (pl := pl) ?_ ht
  have e0 : s = ⟨s.heap, s.gens, s.drawn, s.toks, s.os⟩ := rfl
  refine PySem.ks_wpAt_super_base hks hkc hm1 hfu (KX _ _ hf) rfl har hco (KX _ _ hcode) rfl hvs hfile SK.top ?_
  refine PySem.W.ks_loadName_global I.ok.kind hks (Calls.loadGlobal_builtin (by rw [I.ok.glob]; exact I.mod.glob.keeps I.bk) hms (by rw [I.ok.blt]; exact hb1.keeps I.bk) ((hb2 "super" (by decide)).trans (by decide +kernel : bootBuiltins "super" = some (.type "super"))) ⟨rfl, ?_⟩)
  refine wpAny_loadName_free I.ok.kind hkc hcl ⟨_, KX _ _ hcell, rfl⟩ ?_
  refine wpAny_loadName_local I.ok.kind (by rw [hself]; exact hka) hn hself' ?_
  rw [e0]
  refine PySem.ks_wpAny_isType_cls hD1 hD2 ⟨rfl, ?_⟩
  refine PySem.ks_wpAny_call_super hD1 hD2 J.at_ J.cls (fun c e => ?_) (PySem.W.looks_mroIn KX SC.sub) (fun h' e k => ?_)
  · have z := J.no
    unfold PySem.W.notCls at z
    rw [e] at z
    exact Bool.noConfusion z
  have I1 : Inv X ((s.heap.objs.size, PySem.W.ks_superObj D x C) :: pins) σ H { s with heap := h', toks := s.toks } := pin_new I k (Nat.le_refl _) e (fun v z => nomatch z)
  have KX1 := I1.kIn
  cases hc : PySem.W.clsIn X.K C with
  | none =>
    have z := SC.at_
    unfold PySem.W.ks_superIn at z
    rw [hc] at z
    cases z
  | some cd =>
    have hm := SC.at_
    unfold PySem.W.ks_superIn at hm
    rw [hc] at hm
    obtain ⟨of, hof, hofc⟩ : ∃ of, h'.get? f2 = some of ∧ of.cls = .type "function" := by
      have ht' : (X.K.lookup f2).map (·.cls) = some (.type "function") := SC.ty
      cases z : X.K.lookup f2 with
      | none => rw [z] at ht'; cases ht'
      | some of => rw [z] at ht'; exact ⟨of, KX1 _ _ z, Option.some.inj ht'⟩
    refine PySem.ks_wpAny_getMethod_super e (PySem.W.looks_opaque KX1 SK.st) (l₀ := cd.mro) ?_ rfl KX1 hm hof hofc (PySem.W.ks_ne KX J hc) hm1 ?_
    · exact fun A Q E s k q => wpAny_bind ((PySem.W.looks_clsIn KX1 hc) A _ E s k (wpAny_pure q))
    have I2 : Inv X ((h'.objs.size, PySem.W.methodObj (.ref f2) (.ref x)) :: (s.heap.objs.size, PySem.W.ks_superObj D x C) :: pins) σ H { s with heap := h'.push (PySem.W.methodObj (.ref f2) (.ref x)), toks := s.toks + 1 } :=
      pin_new (s := { s with heap := h', toks := s.toks }) I1 (fun _ _ z => Heap.get?_push_of_some _ z) (Nat.le_refl _) (Heap.get?_push_size h' rfl) (fun v z => nomatch z)
    have hq := pin_at I2
    have hL : h'.objs.size ≠ X.env.locals := (I2.pin (h'.objs.size, PySem.W.methodObj (.ref f2) (.ref x)) (List.mem_append_right _ List.mem_cons_self)).2.2.1
    have hb0 : X.base.get? h'.objs.size = none := base_none I1 (Nat.le_refl _)
    refine PySem.W.callWith_M (K := X.K) (h₀ := X.base) (first := []) I.ok.mod.kin (news_at hL hb0 hq) List.mem_cons_self SC.fi (thn (ha.run pos _ _ σ H _ I2 q) fun us s3 ⟨vs3, H2, I3, rv, q2⟩ => ⟨⟨pin_at I3, I3.kIn⟩, ?_⟩) hst hpl
    have z := wpAny_call (PySem.W.method_call (pin_at I3) (run_fnR (us := .ref x :: us) (vs := .ref x :: vs3) F hr hx I3 (.cons rfl rv) q2))
    refine thn z fun v4 s4 ⟨v5, H5, I5, _, q5⟩ => ?_
    exact hu.run pins s4 σ H5 Dn (unpin (unpin I5)) q5

/-! ### a def with the cell __class__, by its body -/
theorem fnr_super {CX : CXT} {P : Program} {w : World} {K : PySem.W.Frag} {mg : Str → Option Value} {base : Heap} {k : Nat} {f cc D : Addr} {F : NF} {N ps : List Str} {sp : Sp} {oc doc pm ct : Value} {od an : Option Addr} {osl : Array (Option Value)}
    (lk : K.lookup f = some ⟨oc, od, .func (PySem.W.fnX F.name F.qual F.params F.body F.scope F.cl .none .none doc pm an (.ref F.c) ct), osl⟩) (hcd : PySem.W.codeIn K (.ref F.c) F.qual = true) (hcl : F.cl = [(("__class__" : Str), cc)])
    (hcell : ∃ cl cld csl, K.lookup cc = some ⟨cl, cld, .cell (some (.ref D)), csl⟩) (S : NScope N ps ["__class__"] F.scope)
    (hb : ∀ (us : List Value), us.length = ps.length → bindArgs (PySem.W.fnX F.name F.qual F.params F.body F.scope F.cl .none .none doc pm an (.ref F.c) ct) ⟨us, []⟩ = pure (ps.zip us))
    (len : ∀ vs H Q E, sp vs H Q E → vs.length = ps.length)
    (hbody : ∀ (A : Around) (outer : List Env) (s : Shared) (H : Hp) (vs : List V) (Q : VK) (E : XK), Room k (A.deeper (envF F f s.heap.objs.size)) → sp vs H Q E →
      ∃ t, PSA (ncx CX P w K mg base N F f A outer s H E) F.body F.body t ∧ t { nx := fun _ H' => Q .non H', rt := Q } (startF N vs [some (.ref D)]) H) :
    FnR P w K mg base CX (k + 1) f sp := by
  intro A outer s H us vs Q E hr e0 r hsp
  have hl := len _ _ _ _ hsp
  have KB : K.In base := e0.mod.kin
  have KX : K.In s.heap := KB.keeps fun b o e => (e0.bs b o e).1
  have lim : s.heap.NoLimit := e0.mod.nolimit.keeps fun b o e => (e0.bs b o e).1
  obtain ⟨cl, cld, csl, hc⟩ := hcell
  have hcl1 : ∀ y c, F.cl.lookup y = some c → y = "__class__" ∧ c = cc := fun y c e => by
    rw [hcl] at e
    by_cases hy : y = ("__class__" : Str)
    · subst hy
      have e2 : some cc = some c := by
        rw [← e]
        simp [List.lookup]
      exact ⟨rfl, (Option.some.inj e2).symm⟩
    · have hb0 : (y == ("__class__" : Str)) = false := beq_eq_false_iff_ne.mpr hy
      rw [List.lookup_cons, hb0] at e
      cases e
  have C : CellsAt F.cl ["__class__"] [some (.ref D)] s.heap H := by
    refine ⟨rfl, fun y c e => ?_, fun x y c e1 e2 => ?_, fun i y e => ?_⟩
    · obtain ⟨_, rfl⟩ := hcl1 y c e
      exact ⟨(e0.bs _ _ (KB _ _ hc)).2, some (.ref D), ⟨_, KX _ _ hc, rfl⟩⟩
    · exact (hcl1 x c e1).1.trans (hcl1 y c e2).1.symm
    · cases i with
      | zero =>
        cases e
        refine ⟨cc, by rw [hcl]; simp [List.lookup], fun v e2 => ?_⟩
        cases e2
        exact ⟨.ref D, rfl, ⟨_, KX _ _ hc, rfl⟩⟩
      | succ i => cases e
  refine codeAny_call_function hr.depth (KX _ _ lk) rfl S.co S.gen rfl (PySem.W.codeRec_of KX hcd) ?_
  rw [hb us (by rw [← r.length]; exact hl)]
  refine wpAny_pure (wpAny_newFunctionEnv S.nocell (fun ⟨n, _⟩ hy => S.par n (List.of_mem_zip hy).1) (fun h₁ hns hsb => ⟨lim.fresh _ hsb, ?_⟩) S.kind)
  show codeAny _ _ (.func F.body (envF F f s.heap.objs.size)) _ _
  refine PySem.ks_codeAny_funcAt ?_
  have kp : ∀ b o, s.heap.get? b = some o → h₁.get? b = some o := fun b o e => hsb.extBut b o (Nat.ne_of_lt (Heap.lt_size e)) (Heap.get?_push_of_some _ e)
  obtain ⟨t, ht, hq⟩ := hbody A outer s H vs Q E (hr.deeper _) hsp
  have I : Inv (ncx CX P w K mg base N F f A outer s H E) [] (startF N vs [some (.ref D)]) H { s with heap := h₁, toks := s.toks + (ps.zip us).length } := inv_startN S hr.hd e0 hl r C hns kp
  refine PySem.ks_wpAt_mono (ht.run [] _ (startF N vs [some (.ref D)]) H _ I hq) (fun fl s' hs => ?_) fun e s' hs => hs
  have fin : ∀ {σ' : L2.St} {H' : Hp} {v : V} {u : Value}, Inv (ncx CX P w K mg base N F f A outer s H E) [] σ' H' s' → L2.RelV v u → Q v H' → CE outer P w H s Q u s' :=
    fun {σ' H' v u} J rv q => ⟨v, H', J.os, J.bare, J.base, J.hok, rv, q⟩
  cases fl with
  | ret u =>
    obtain ⟨v, σ', H', J, rv, q⟩ := hs
    exact fin J rv q
  | next =>
    obtain ⟨σ', H', J, q⟩ := hs
    exact fin (v := V.non) (u := Value.none) J rfl q
  | brk =>
    obtain ⟨_, _, _, q⟩ := hs
    exact False.elim q
  | cont =>
    obtain ⟨_, _, _, q⟩ := hs
    exact False.elim q

/-! ### ways joined behind a statement -/
def tJoin (t u : TS) : TS := fun D σ H => ∃ Mid : L2.St → Hp → Prop, t { D with nx := Mid } σ H ∧ ∀ σ' H', Mid σ' H' → u D σ' H'
theorem pss_join {X : Cx} {st : Stmt} {rest : List Stmt} {t u : TS} (h1 : PS X st t) (h2 : PSs X rest u) : PSs X (st :: rest) (tJoin t u) := by
  refine ⟨fun pins s σ H D I h => ?_⟩
  obtain ⟨Mid, q1, q2⟩ := h
  refine wpAny_execs_cons (thn (h1.run pins s σ H _ I q1) fun f s' hs => ?_)
  cases f with
  | next =>
    obtain ⟨σ', H', I', m⟩ := hs
    exact h2.run pins s' σ' H' D I' (q2 σ' H' m)
  | brk => exact hs
  | cont => exact hs
  | ret u => exact hs

/-! ### x(e, ..), x a local that holds the class at C -/
section
variable {X : Cx} {CX : CXT} {k i : Nat} {f C : Addr} {sp : Sp} {E : XK} {x : Str} {e : Expr} {es : List Expr} {te : TE} {t : TA} {p pos sp_ : Pos}
def tMakeL (i : Nat) (C : Addr) (sp : Sp) (E : XK) (t : TA) : TE := fun σ H Q => σ[i]? = some (some (.ref C)) ∧ tMakeR C sp E t σ H Q
theorem pe_makeL (M : Mk X.K C f) (F : FnR X.prog X.w X.K X.mg X.base CX k f sp) (hr : Room (k + 1) X.A) (hN : X.N[i]? = some x) (hv : Vis X.env.scope x) (hx : Passes CX X E) (ha : PA X (e :: es) t)
    (hdb : (x == ("__debug__" : Str)) = false := by decide) (hcd : (x == ("__classdict__" : Str)) = false := by decide)
    (he : starEach (e :: es) X.env = (false, eval e X.env) :: starEach es X.env := by rfl) (hpl : (backTo pos (starEach es X.env)).any (·.1) = false := by rfl) : PE X (.Call (.Name x p) (e :: es) [] pos) (tMakeL i C sp E t) := by
  refine ⟨fun pins s σ H Q I h => ?_⟩
  obtain ⟨hs, h⟩ := h
  refine wpAny_Call_Name_kw (thn ((pe_var (pos := p) hN hv hdb hcd).run pins s σ H (fun v H1 => v = .ref C ∧ H1 = H) I ⟨.ref C, hs, rfl, rfl⟩) fun u s1 ⟨v, H1, I1, r1, q1⟩ => ?_)
  obtain ⟨rfl, rfl⟩ := q1
  cases r1
  refine PySem.W.callWith_K (h₀ := X.base) I.ok.mod.kin M.kp (thn (ha.run pos pins s1 σ _ _ I1 h) fun us s2 ⟨vs, H2, I2, r, q⟩ => ⟨I2.kIn, ?_⟩) he hpl
  exact run_makeR M F hr hx I2 r q
/-- x(*y), x a local that holds one of several defs -/
def tCallLS (X : Cx) (CX : CXT) (k i : Nat) (E : XK) (te : TE) : TE := fun σ H Q => ∃ f sp, σ[i]? = some (some (.ref f)) ∧ FnR X.prog X.w X.K X.mg X.base CX k f sp ∧ PySem.W.keepIn X.K (.ref f) = true ∧
  te σ H fun y H1 => ∃ a xs, y = V.ref a ∧ (SqT X.K H1 a xs ∨ SqL X.K H1 a xs) ∧ sp xs H1 Q E
theorem pe_callLS (hr : Room k X.A) (hN : X.N[i]? = some x) (hv : Vis X.env.scope x) (hx : Passes CX X E) (he : PE X e te) (hdb : (x == ("__debug__" : Str)) = false := by decide) (hcd : (x == ("__classdict__" : Str)) = false := by decide)
    (hst : starEach [.Starred e sp_] X.env = [(true, eval e X.env)] := by rfl) : PE X (.Call (.Name x p) [.Starred e sp_] [] pos) (tCallLS X CX k i E te) := by
  refine ⟨fun pins s σ H Q I h => ?_⟩
  obtain ⟨f, sp, hs, F, hk, h⟩ := h
  refine wpAny_Call_Name_kw (thn ((pe_var (pos := p) hN hv hdb hcd).run pins s σ H (fun v H1 => v = .ref f ∧ H1 = H) I ⟨.ref f, hs, rfl, rfl⟩) fun u s1 ⟨v, H1, I1, r1, q1⟩ => ?_)
  obtain ⟨rfl, rfl⟩ := q1
  cases r1
  refine PySem.W.callWith_S (h₀ := X.base) I.ok.mod.kin hk (thn (he.run pins s1 σ _ _ I1 h) fun v s2 ⟨y, H2, I2, ry, a, xs, ey, hxs, q⟩ => ?_) hst
  subst ey
  obtain rfl : v = Value.ref a := ry
  exact star_any I2 hxs fun us s3 I3 rv => ⟨I3.kIn, wpAny_call (run_fnR F hr hx I3 rv q)⟩
end
end Own
/-! OwnB: defs that ask that no repr runs around them; repr of data; str of an own instance. -/
namespace Own
open PySem PySem.Spec PyProof.Rows L2
/-! ### repr of data: where no repr runs around -/
theorem call_reprD {X : Cx} (hg : X.A.guards = some []) (hu : X.A.units + 64 < cLine) : CallR X (.builtin "repr") (fun xs H Q => ∃ (a : Addr) (d : PyData), xs = [.ref a] ∧ Dp X.K H (.ref a) d ∧ d.showable = true ∧ d.hasDict = false ∧ d.depth ≤ 60 ∧ d.shown.length ≤ sizeLine ∧ Q (.str d.shown) H) := by
  intro pins s σ H xs us Q I r h
  obtain ⟨a, d, rfl, hd, hs, hn, h60, hz, q⟩ := h
  obtain ⟨u, rfl, ru⟩ := vals1 r
  have hu' : u = .ref a := ru
  subst hu'
  obtain ⟨as, rd⟩ := Dp.reads I d _ _ hd rfl
  exact repr_of_reads' rd hs (PyData.noDict_hsm hn) hg (by omega) (fun _ _ e => e) (fun h' u tk hk => ⟨.str d.shown, H, I.kept hk, ⟨u, rfl⟩, q⟩) hz
/-! ### str(o) by the class's own __str__ -/
theorem call_strO {X : Cx} {C f : Addr} {k : Nat} {sp : Sp} (F : FnR X.prog X.w X.K X.mg X.base CX0 k f sp) (hr : Room (k + 2) X.A) (hs : PySem.W.findIn X.K (.ref C) "__str__" = some (some (.ref f))) (hf : PySem.W.isFn X.K (.ref f) = true) :
    CallR X (.type "str") (fun xs H Q => ∃ (x dx : Addr) (fs : List (Str × V)), xs = [.ref x] ∧ H x = some (.ins C dx fs) ∧ sp [.ref x] H (fun v H' => ∃ y, v = .str y ∧ Q v H') E0) := by
  intro pins s σ H xs us Q I r h
  obtain ⟨x, dx, fs, rfl, hx, q⟩ := h
  obtain ⟨u, rfl, ru⟩ := vals1 r
  have hu' : u = .ref x := ru
  subst hu'
  obtain ⟨mA, O, _⟩ := ins_get I.hok hx
  obtain ⟨od, J, _⟩ := O.look
  refine PySem.W.kso_call (hr.in1.in1.units0) I.kIn J hs hf (wpAny_call (codeAny_mono (F X.A.in1.in1 X.stack s H [.ref x] [.ref x] _ E0 hr.in1.in1 I.env0.in1.in1 (.cons rfl .nil) q) fun r s' hq => ?_))
  cases r with
  | error e => exact False.elim hq
  | ok fl =>
    cases fl with
    | ret u =>
      obtain ⟨v, H', I', rv, ⟨y, rfl, q'⟩⟩ := I.after hq
      obtain ⟨t, rfl⟩ := rv
      exact ⟨.str y, H', I', ⟨t, rfl⟩, q'⟩
    | next => exact False.elim hq
    | brk => exact False.elim hq
    | cont => exact False.elim hq
/-! ### a def that is called where no repr runs -/
structure FnG (P : Program) (w : World) (K : PySem.W.Frag) (mg : Str → Option Value) (base : Heap) (CX : CXT) (k : Nat) (f : Addr) (fd : FuncData) (ps : List Str) (sp : Sp) : Prop where
  len : ∀ vs H Q E, sp vs H Q E → vs.length = ps.length
  run : ∀ (A : Around) (outer : List Env) (s : Shared) (H : Hp) (args : Args) (us : List Value) (vs : List V) (Q : VK) (E : XK), A.guards = some [] → Room k A → Env0 P w K mg base A outer s H → BindsTo s fd args (ps.zip us) → Vals vs us → sp vs H Q E →
    codeAny (model P w) A (.call (.ref f) args) (CR CX outer P w H s Q E) s
theorem fng_of {CX : CXT} {P : Program} {w : World} {K : PySem.W.Frag} {mg : Str → Option Value} {base : Heap} {k : Nat} {f : Addr} {name qual : Str} {params : Arguments} {body : List Stmt} {scope : Scope} {dV kV doc pm cdv ct oc : Value} {an od : Option Addr}
    {osl : Array (Option Value)} {N ps : List Str} {sp : Sp} (lk : K.lookup f = some ⟨oc, od, .func (PySem.W.fnOf name qual params body scope dV kV doc pm an cdv ct), osl⟩) (hcd : PySem.W.codeIn K cdv qual = true) (S : FnScope N ps scope)
    (len : ∀ vs H Q E, sp vs H Q E → vs.length = ps.length)
    (hbody : ∀ (A : Around) (outer : List Env) (s : Shared) (H : Hp) (vs : List V) (Q : VK) (E : XK), (A.deeper (envOfC qual scope s.heap.objs.size f cdv)).guards = some [] → Room k (A.deeper (envOfC qual scope s.heap.objs.size f cdv)) → sp vs H Q E →
      ∃ t, PSs (cxOf CX P w K mg base N qual scope f cdv A outer s H E) body t ∧ t { nx := fun _ H' => Q .non H', rt := Q } (start N vs) H) :
    FnG P w K mg base CX (k + 1) f (PySem.W.fnOf name qual params body scope dV kV doc pm an cdv ct) ps sp := by
  refine ⟨len, fun A outer s H args us vs Q E hg hr e0 hb r hsp => ?_⟩
  have hl := len _ _ _ _ hsp
  have KX : K.In s.heap := e0.mod.kin.keeps fun b o e => (e0.bs b o e).1
  have lim : s.heap.NoLimit := e0.mod.nolimit.keeps fun b o e => (e0.bs b o e).1
  have hkind : ∀ y ∈ ps.zip us, scope.names.lookup y.1 = some .local ∨ (scope.names.lookup y.1 = some .cell ∧ ((cellsFrom (s.heap.objs.size + 1) scope.names []).lookup y.1).isSome = true) := fun ⟨n, v⟩ hy => by
    rcases S.par n (List.of_mem_zip hy).1 with q | q
    · exact .inl q
    · exact .inr ⟨q, PySem.W.cellsFrom_some _ _ _ (.inl q)⟩
  refine codeAny_call_function hr.depth (KX _ _ lk) rfl S.co S.gen rfl (PySem.W.codeRec_of KX hcd) (hb _ _ _ _ ?_)
  refine wpAny_newFunctionEnv_cells S.kind hkind fun env he s1 x => ?_
  subst he
  refine ⟨lim.keeps x.toInCall.keep, codeAny_func ?_⟩
  obtain ⟨t, ht, hq⟩ := hbody A outer s H vs Q E hg (hr.deeper _) hsp
  have I : Inv (cxOf CX P w K mg base N qual scope f cdv A outer s H E) [] (start N vs) H s1 := inv_start S hr.hd e0 hl r x
  refine wpAny_mono (ht.run [] s1 (start N vs) H _ I hq) (fun fl s' hs => ?_) fun e s' hs => hs
  have fin : ∀ {σ' : L2.St} {H' : Hp} {v : V} {u : Value}, Inv (cxOf CX P w K mg base N qual scope f cdv A outer s H E) [] σ' H' s' → RelV v u → Q v H' → CE outer P w H s Q u s' :=
    fun {σ' H' v u} J rv q => ⟨v, H', J.os, J.bare, J.base, J.hok, rv, q⟩
  cases fl with
  | ret u =>
    obtain ⟨v, σ', H', J, rv, q⟩ := hs
    exact fin J rv q
  | next =>
    obtain ⟨σ', H', J, q⟩ := hs
    exact fin (v := V.non) (u := Value.none) J rfl q
  | brk =>
    obtain ⟨_, _, _, q⟩ := hs
    exact False.elim q
  | cont =>
    obtain ⟨_, _, _, q⟩ := hs
    exact False.elim q
theorem fun_okG {P : Program} {w : World} {K : PySem.W.Frag} {mg : Str → Option Value} {base : Heap} {x qual : Str} {st : Stmt} {f : Addr} {fd : FuncData} {N ps : List Str} {k : Nat} {sp : Sp} (F : Fun K x qual st f fd) (S : FnScope N ps (defScope st)) (len : ∀ vs H Q E, sp vs H Q E → vs.length = ps.length)
    (hbody : ∀ (cdv : Value) (A : Around) (outer : List Env) (s : Shared) (H : Hp) (vs : List V) (Q : VK) (E : XK), (A.deeper (envOfC qual (defScope st) s.heap.objs.size f cdv)).guards = some [] → Room k (A.deeper (envOfC qual (defScope st) s.heap.objs.size f cdv)) → sp vs H Q E →
      ∃ t, PSs (cxOf CX0 P w K mg base N qual (defScope st) f cdv A outer s H E).nox (defBody st) t ∧ t { nx := fun _ H' => Q .non H', rt := Q } (start N vs) H) : FnG P w K mg base CX0 (k + 1) f fd ps sp := by
  obtain ⟨oc, od, kV, doc, pm, an, cdv, ct, osl, rfl, lk, hcd⟩ := F.ex
  refine fng_of lk hcd S len fun A outer s H vs Q E hg hr hsp => ?_
  obtain ⟨t, h, q⟩ := hbody cdv A outer s H vs Q E hg hr hsp
  exact ⟨t, h.nox, q⟩
/-! ### the law's end for such a def -/
theorem law_callG {P : Program} {w : World} {K : PySem.W.Frag} {mg mb : Str → Option Value} {CX : CXT} {k : Nat} {fa a : Addr} {fd : FuncData} {x : Str} {sp : Sp} {s₁ : Shared} {vs : List Value} {ns : List Int}
    (KX : K.In s₁.heap) (hns : s₁.heap.Ns mainGlobals mg) (hb : s₁.heap.Ns builtinsNs mb) (hbb : ∀ x : Str, x ≠ "__name__" → mb x = bootBuiltins x) (hlim : s₁.heap.NoLimit) (hg : s₁.gens = #[])
    (ha : s₁.heap.get? a = some { cls := .type "list", data := .seq vs.toArray }) (hi : IntsAre vs ns) (hl : ns.length ≤ sizeLine) (hr : Room k callerA)
    (F : ∀ base : Heap, K.In base → base.Ns mainGlobals mg → FnG P w K mg base CX k fa fd [x] sp) (hbind : ∀ (s : Shared) (u : Value), BindsTo s fd ⟨[u], []⟩ [(x, u)])
    (hsp : ∀ H : Hp, Only H → SqL K H a (ns.map V.int) → sp [.ref a] H (fun v _ => v = .bl true) fun _ _ _ => False)
    (hCX : ∀ H e s', CX [] H s₁ (fun _ _ _ => False) e s' → False) :
    codeAny (model P w) callerA (.call (.ref fa) ⟨[.ref a], []⟩) (fun r s' => r = .ok (.ret (.bool true)) ∧ OldK s₁.heap s'.heap ∧ s'.os = s₁.os ∧ AllBare s'.gens) s₁ := by
  have rv := vals_ints hi
  have lenV := hi.length
  have core : ∀ H : Hp, Only H → SqL K H a (ns.map V.int) → HOk P w H s₁.heap → (∀ b, H b ≠ none → b = a) → (H a ≠ none → K.lookup a = none) →
      codeAny (model P w) callerA (.call (.ref fa) ⟨[.ref a], []⟩) (fun r s' => r = .ok (.ret (.bool true)) ∧ OldK s₁.heap s'.heap ∧ s'.os = s₁.os ∧ AllBare s'.gens) s₁ := by
    intro H hO hS hok hA hK
    have base_of : ∀ {b : Addr} {o : Obj}, s₁.heap.get? b = some o → H b = none → (hidT s₁.heap H).get? b = some o := fun e n => hidT_get e n
    have noA : ∀ {b : Addr} {o : Obj} {es : Array DictEntry} {ep : Nat}, s₁.heap.get? b = some o → o.data = .dict es ep → H b = none := fun {b o es ep} e d => by
      cases q : H b with
      | none => rfl
      | some u =>
        have e' : b = a := hA b (by rw [q]; simp)
        subst e'
        rw [ha] at e; cases e
        have d' : Data.seq vs.toArray _ = Data.dict es ep := d
        cases d'
    have nsK : ∀ {b : Addr} {m : Str → Option Value}, s₁.heap.Ns b m → (hidT s₁.heap H).Ns b m := fun {b m} ⟨o, es, ep, e, d, r⟩ => ⟨o, es, ep, base_of e (noA e d), d, r⟩
    have hKb : K.In (hidT s₁.heap H) := fun b o e => base_of (KX b o e) (by
      cases q : H b with
      | none => rfl
      | some u =>
        have e' : b = a := hA b (by rw [q]; simp)
        subst e'
        rw [hK (by rw [q]; simp)] at e; cases e)
    have hM : Mod K mg (hidT s₁.heap H) := ⟨hKb, nsK hns, ⟨mb, nsK hb, hbb⟩, let ⟨mc, h1, h2⟩ := hlim; ⟨mc, nsK h1, h2⟩⟩
    have e0 : Env0 P w K mg (hidT s₁.heap H) callerA [] s₁ H := ⟨rfl, hM, fun b o e => of_hidT e, Nat.le_of_eq (hidT_size _ _), trivial, fun b hb => absurd (show b ∈ ([] : List Addr) from hb) (by simp), hok, .of_eq hg⟩
    refine codeAny_mono ((F _ hKb (nsK hns)).run callerA [] s₁ H ⟨[.ref a], []⟩ [.ref a] [.ref a] _ _ rfl hr e0 (hbind s₁ (.ref a)) (.cons rfl .nil) (hsp H hO hS)) fun r s' h => ?_
    cases r with
    | error e => exact (hCX H e s' h).elim
    | ok fl =>
      cases fl with
      | next => exact False.elim h
      | brk => exact False.elim h
      | cont => exact False.elim h
      | ret u =>
        obtain ⟨v, H', os, bare, un, hok', r', q⟩ := h
        have q' : v = .bl true := q
        subst q'
        obtain rfl : u = Value.bool true := r'
        refine ⟨rfl, OldK.of_keep fun b o e => ?_, os, bare⟩
        cases q : H b with
        | none => exact un.keep b o e q (by intro z; exact absurd (show b ∈ ([] : List Addr) from z) (by simp)) (by simp)
        | some u =>
          rcases hO b with z | ⟨ob, xs, z⟩
          · rw [q] at z; cases z
          · have z2 := un.frzs b ob _ z
            obtain ⟨e1, _⟩ := hok b _ z
            obtain ⟨e2, _⟩ := hok' b _ z2
            rw [e] at e1; cases e1
            exact e2
  cases hk : K.lookup a with
  | some o =>
    have e := KX a o hk
    rw [ha] at e
    cases e
    refine core (fun _ => none) (fun _ => .inl rfl) (.inr ⟨_, vs.toArray, _, hk, rfl, rfl, rfl, by rw [List.size_toArray, lenV]; exact hl, by simpa using rv⟩) (fun b u z => by have z' : (none : Option HO) = some u := z; cases z') (fun b z => absurd rfl z) fun z => absurd rfl z
  | none =>
    refine core (fun b => if b = a then some (.frz { cls := .type "list", data := .seq vs.toArray } (.lst (ns.map V.int))) else none) (fun b => ?_) (.inl (.inr ⟨{ cls := .type "list", data := .seq vs.toArray }, if_pos rfl⟩)) (fun b u z => ?_) (fun b z => ?_) fun _ => hk
    · by_cases hb : b = a
      · exact .inr ⟨_, _, if_pos hb⟩
      · exact .inl (if_neg hb)
    · by_cases hb : b = a
      · have z' := (if_pos hb).symm.trans z
        cases z'
        subst hb
        exact ⟨ha, by rw [List.length_map]; exact hl, vs, _, rv, ha⟩
      · have z' := (if_neg hb).symm.trans z
        cases z'
    · by_cases hb : b = a
      · exact hb
      · exact absurd (if_neg hb) z
theorem walk_ofG {l : PySem.W.OpenLaw} {n k : Nat} {q : Program} {loose : List Str} {XP : (Str → Option Value) → Heap → Prop} {YP : World → Heap → Prop} {d : DefRec} {K : Params → PySem.W.Frag} {sp : World → Sp} {x : Str}
    (hn : l.most = some n) (hn2 : n ≤ sizeLine) (hdf : d.params.defaults = []) (hr : Room k callerA)
    (hY : ∀ (w : World) (h : Heap), YP w h → (K w.params).In h)
    (F : ∀ (w : World) (mg : Str → Option Value) (fa : Addr) (h : Heap), (K w.params).In h → h.Ns mainGlobals mg → mg d.name = some (.ref fa) →
      ∃ fd : FuncData, (∀ (s : Shared) (u : Value), BindsTo s fd ⟨[u], []⟩ [(x, u)]) ∧
        ∀ base : Heap, (K w.params).In base → base.Ns mainGlobals mg → FnG l.prog w (K w.params) mg base CX0 k fa fd [x] (sp w))
    (hsp : ∀ (w : World) (H : Hp) (a : Addr) (ns : List Int), ns.length ≤ n → Only H → SqL (K w.params) H a (ns.map V.int) → sp w [.ref a] H (fun v _ => v = .bl true) fun _ _ _ => False) :
    PySem.W.WalkO q loose XP YP l.row.toRowW d [] (fun f vs => PySem.call f vs) := by
  refine Att.attach_call hn hdf fun w s₀ s₁ mg mb fa o pm cd doc a vs ns G Y ho hd hcd hmg hobj hints hlen hg => ?_
  have KX := hY w _ Y
  obtain ⟨fd, hb, hF⟩ := F w mg fa _ KX G.T.g hmg
  exact law_callG KX G.T.g G.T.b G.T.builtins G.T.nolimit hg hobj hints (Nat.le_trans hlen hn2) hr hF hb (fun H hO hS => hsp w H a ns hlen hO hS) fun H e s' z => z
/-! ### a written dict has no other key -/
theorem miss_of {K : PySem.W.Frag} {d : Addr} {es : Array DictEntry} {n : Nat} (l : K.lookup d = some ⟨.type "dict", none, .dict es n, #[]⟩) {ks : List Str} (hk : ∀ e ∈ es.toList, ∃ x t, e.key = .str x t ∧ x ∈ ks) {z : Str} (hz : ¬ z ∈ ks) : PySem.W.nsIn K d z = some none := by
  unfold PySem.W.nsIn
  rw [l]
  dsimp only
  have h1 : es.toList.find? (·.key.isStr z) = none := by
    rw [List.find?_eq_none]
    intro e he
    obtain ⟨x, t, e1, e2⟩ := hk e he
    rw [e1, PySem.W.isStr_of]
    intro q
    obtain ⟨t', e3⟩ := Value.isStrOf_shape q
    cases e3
    exact hz e2
  have h2 : es.toList.any (·.refKey) = false := by
    rw [List.any_eq_false]
    intro e he
    obtain ⟨x, t, e1, e2⟩ := hk e he
    simp [DictEntry.refKey, e1]
  rw [h1, h2]
  rfl
end Own
namespace K2
open PySem L2 Own StX ClX NdefX
/-! ### the text by places -/
def top (i : Nat) : Stmt := PySem.Challenge.pw_stepblocks_k02_texts_that_are_no_primiti.main.body.getD i (.Pass ⟨0, 0, 0, 0⟩)
abbrev sRV : Stmt := top 10
abbrev sRP : Stmt := top 11
abbrev sBI : Stmt := inClass (top 13) 0
abbrev sPI : Stmt := inClass (top 14) 0
abbrev sParse : Stmt := inClass (top 14) 1
abbrev sStr : Stmt := inClass (top 14) 4
abbrev sFeed : Stmt := top 16
abbrev sTake : Stmt := top (16 + 1)
abbrev sPickL : Stmt := top (16 + 2)
theorem small1 {n : Nat} (h : n ≤ 8) : n ≤ sizeLine := Nat.le_trans h (by decide)
theorem upd_new {H : Hp} {p : Addr} {o : HO} (h : H p = none) : Same H (upd H p o) := fun b u e => by
  rw [upd_ne (ne_of_none e h)]
  exact e
theorem same_put {H H1 : Hp} {p : Addr} {o : HO} (s : Same H H1) (h : H p = none) : Same H (upd H1 p o) := fun b u e => by
  rw [upd_ne (ne_of_none e h)]
  exact s b u e
/-! ### what the texts say -/
def optV : Option Int → V
  | some v => .int v
  | none => .non
def isD (c : Nat) : Bool := decide (48 ≤ c) && decide (c ≤ 57)
def dig10 (x : Str) : Bool := decide (1 ≤ x.length) && decide (x.length ≤ 10) && x.cps.toList.all isD
def readV (x : Str) : Option Int :=
  if dig10 x = true then
    if (⟨#[x.cps.toList.headD 0]⟩ : Str) = "0" ∧ ¬ x = "0" then none
    else if ((NumText.digitsVal x.cps.toList : Nat) : Int) < 4294967296 then some ((NumText.digitsVal x.cps.toList : Nat) : Int) else none
  else none
def words9 : List Str := ["const", "add", "sub", "mul", "less", "equal", "pick", "divide", "delay"]
def readP (x : Str) : Option (Str × Option Int) :=
  if (Txt.partition x " ").1 ∈ words9 then
    if (Txt.partition x " ").1 = "const" ∨ (Txt.partition x " ").1 = "delay" then (readV (Txt.partition x " ").2.2).map fun c => ((Txt.partition x " ").1, some c)
    else if (Txt.partition x " ").2.1.length = 0 then some ((Txt.partition x " ").1, none) else none
  else none
theorem isD_in (c : Nat) : decide (c ∈ (("0123456789" : Str)).cps.toList) = isD c := by
  have e : (("0123456789" : Str)).cps.toList = [48, 49, 50, 51, 52, 53, 54, 55, 56, 57] := by decide +kernel
  rw [e]
  unfold isD
  rw [Bool.eq_iff_iff]
  simp only [Bool.and_eq_true, decide_eq_true_eq, List.mem_cons, List.not_mem_nil, or_false]
  omega
theorem par_len {S : List Nat} : ∀ (l acc : List Nat) {p q : List Nat}, TL.par S acc l = some (p, q) → q.length ≤ l.length
  | [], acc, p, q, h => by cases h
  | c :: r, acc, p, q, h => by
    have h : (if TL.pre S (c :: r) = true then some (acc, (c :: r).drop S.length) else TL.par S (acc ++ [c]) r) = some (p, q) := h
    split at h
    · cases h
      rw [List.length_drop]
      omega
    · have := par_len r _ h
      rw [List.length_cons]
      omega
theorem part_rest (x : Str) : (Txt.partition x " ").2.2.length ≤ x.length := by
  rw [TL.partition_par x " " (by decide +kernel)]
  split
  · rename_i a b e
    have := par_len _ _ e
    simp only [Str.length] at *
    simpa using this
  · exact Nat.zero_le _
/-! ### an instance of Primitive -/
theorem putF_len {f : Str} {v : V} : ∀ fs : List (Str × V), (putF f v fs).length ≤ fs.length + 1
  | [] => Nat.le_refl _
  | (g, u) :: r => by
    show (if g = f then _ else _ : List (Str × V)).length ≤ _
    split
    · simp
    · have := putF_len (f := f) (v := v) r
      simp only [List.length_cons]
      omega
def F3 (n i o : V) : List (Str × V) := putF "outputs" o (putF "inputs" i (putF "name" n []))
def F4 (n i o c : V) : List (Str × V) := putF "constant" c (F3 n i o)
theorem F3_len (n i o : V) : (F3 n i o).length ≤ 3 := by
  have h1 := putF_len (f := "outputs") (v := o) (putF "inputs" i (putF "name" n []))
  have h2 := putF_len (f := "inputs") (v := i) (putF "name" n [])
  have h3 := putF_len (f := "name") (v := n) []
  simp only [List.length_nil] at h3
  unfold F3
  omega
theorem F4_name (n i o c : V) : (F4 n i o c).lookup ("name" : Str) = some n := by
  unfold F4 F3
  rw [lookup_putF, if_neg (by decide +kernel), lookup_putF, if_neg (by decide +kernel), lookup_putF, if_neg (by decide +kernel), lookup_putF, if_pos rfl]
theorem F4_ins (n i o c : V) : (F4 n i o c).lookup ("inputs" : Str) = some i := by
  unfold F4 F3
  rw [lookup_putF, if_neg (by decide +kernel), lookup_putF, if_neg (by decide +kernel), lookup_putF, if_pos rfl]
theorem F4_outs (n i o c : V) : (F4 n i o c).lookup ("outputs" : Str) = some o := by
  unfold F4 F3
  rw [lookup_putF, if_neg (by decide +kernel), lookup_putF, if_pos rfl]
theorem F4_const (n i o c : V) : (F4 n i o c).lookup ("constant" : Str) = some c := by
  unfold F4
  rw [lookup_putF, if_pos rfl]
theorem F4_no {n i o c : V} {m : Str} (h1 : ¬ m = "name") (h2 : ¬ m = "inputs") (h3 : ¬ m = "outputs") (h4 : ¬ m = "constant") : (F4 n i o c).lookup m = none := by
  unfold F4 F3
  rw [lookup_putF, if_neg h4, lookup_putF, if_neg h3, lookup_putF, if_neg h2, lookup_putF, if_neg h1]
  rfl
/-- the ports of a primitive -/
def insOf (z : Str) : List Str := if z = "const" then [] else if z = "delay" then ["in"] else if z = "pick" then ["c", "a", "b"] else ["a", "b"]
def outsOf (z : Str) : List Str := if z = "divide" then ["quotient", "rest"] else ["out"]
def PortsOk (K : PySem.W.Frag) (z : Str) (i o : V) : Prop := ∃ a b, i = .ref a ∧ o = .ref b ∧ (∀ H, SqT K H a ((insOf z).map V.str)) ∧ (∀ H, SqT K H b ((outsOf z).map V.str)) ∧ ¬ (a = b)
/-- what the top says -/
structure Txt (K : PySem.W.Frag) (w : World) (mg : Str → Option Value) (C : Addr) : Prop where
  cl : Cls K C
  nN : NoAttr K C "name"
  nI : NoAttr K C "inputs"
  nO : NoAttr K C "outputs"
  nC : NoAttr K C "constant"
  mC : mg "Primitive" = some (.ref C)
  pp : ∃ d es n, mg "PRIMITIVE_PORTS" = some (.ref d) ∧ KDict K w d es n ∧ (∀ z ∈ words9, ∃ u tp x y, PySem.W.nsIn K d z = some (some u) ∧ RelV (.ref tp) u ∧ (∀ H, SqT K H tp [x, y]) ∧ PortsOk K z x y) ∧ ∀ z, ¬ z ∈ words9 → PySem.W.nsIn K d z = some none
  ww : ∃ d, mg "WORDS_WITH_VALUE" = some (.ref d) ∧ ∀ H, SqT K H d [.str "const", .str "delay"]
  sup : mg "super" = none
  dg : ∃ t, mg "DIGITS" = some (.str "0123456789" t)
  md : ∃ t, mg "MOST_DIGITS" = some (.int 10 t)
  mo : ∃ t, mg "MODULUS" = some (.int 4294967296 t)
  zl : mg "len" = none
  za : mg "all" = none
  zi : mg "int" = none
  zs : mg "str" = none
def spRV : Sp := fun vs H Q _ => ∃ x : Str, vs = [.str x] ∧ x.length ≤ sizeLine ∧ ∀ H', Same H H' → Q (optV (readV x)) H'
def spRP : Sp := fun vs H Q _ => ∃ x : Str, vs = [.str x] ∧ x.length ≤ sizeLine ∧ (readP x = none → ∀ H', Same H H' → Q .non H') ∧
  (∀ z c, readP x = some (z, c) → ∀ t H', Same H H' → H t = none → H' t = some (.tup [.str z, optV c]) → Q (.ref t) H')
section
variable {P : Program} {w : World} {K : PySem.W.Frag} {mg : Str → Option Value} {base : Heap} {C : Addr}
theorem scRV : FnScope ["text", "value", "sign"] ["text"] (defScope sRV) := ⟨rfl, rfl, rfl, by decide +kernel, rfl, by decide +kernel, by decide +kernel⟩
theorem ok_rv {f : Addr} {fd : FuncData} (F : Fun K "read_value" "read_value" sRV f fd) (T : Txt K w mg C) : FnOk P w K mg base CX0 1 f fd ["text"] spRV := by
  refine F.ok scRV (fun vs H Q E h => ?_) (fun cdv A outer s H vs Q E hr h => ?_)
  · obtain ⟨x, rfl, _⟩ := h
    rfl
  obtain ⟨x, rfl, hx, k⟩ := h
  obtain ⟨tD, mD⟩ := T.dg
  obtain ⟨tM, mM⟩ := T.md
  obtain ⟨tO, mO⟩ := T.mo
  refine ⟨_, pss_cons (ps_if (PW.pt (pw_or (pt_not (pt_chain op_le op_le pe_int (pe_callB call_len_str (by rfl) T.zl PySem.boot_len (pa_cons (pv 0) pa_nil)) (pe_glob (v := .int 10) rfl mM ⟨_, rfl⟩)))
      (pw_or1 (pt_not (pt_val (pe_callB (cr_all rfl) (by rfl) T.za (by decide +kernel) (pa_cons (pe_lc (own := [("sign", 2)]) (g := gName 2) rfl scRV.nd (pi_str (pv 0)) (blkOk_by (own := [("sign", 2)]) (N := ["text", "value", "sign"]) (sc := defScope sRV) (by decide +kernel)) (fun _ _ _ _ _ => pg_name (i := 2) scRV.nd rfl (Or.inl rfl)) (fun _ _ _ _ _ => pts_nil)
        (fun _ _ _ _ _ => pe_cmpR op_in_sign (pv 2) (pe_glob (v := .str "0123456789") rfl mD ⟨_, rfl⟩) (by rfl))) pa_nil))))))) (pss_one (ps_ret pe_non)) pss_nil)
    (pss_cons (ps_if (PW.pt (pw_and (pt_cmpR op_eq (pe_ix ix_str (pv 0) pe_int (fun _ _ => rfl)) pe_str (nomark _)) (pw_and1 (pt_cmpR op_ne (pv 0) pe_str (nomark _))))) (pss_one (ps_ret pe_non)) pss_nil)
    (pss_cons (ps_set (i := 1) scRV.nd rfl (.inl rfl) (pe_callTy call_int_str (by rfl) T.zi (by decide +kernel) (pa_cons (pv 0) pa_nil)))
    (pss_one (ps_ret (pe_ifExp (pt_cmpR op_lt (pv 1) (pe_glob (v := .int 4294967296) rfl mO ⟨_, rfl⟩) (nomark _)) (pv 1) pe_non))))), ?_⟩
  have hsz : x.cps.toList.length = x.length := by simp [Str.length]
  have back : ∀ H', Same H H' → readV x = none → Q .non H' := fun H' s' e => by
    have z := k H' s'
    rw [e] at z
    exact z
  refine ⟨_, rfl, _, rfl, hx, _, _, rfl, rfl, _, rfl, ?_⟩
  by_cases h1 : (1 : Int) ≤ (x.length : Int)
  case neg =>
    rw [decide_eq_false h1]
    refine iteF ⟨_, rfl, iteT (back H (Same.refl H) ?_)⟩
    unfold readV dig10
    rw [if_neg]
    rw [decide_eq_false (show ¬ 1 ≤ x.length by omega)]
    simp
  rw [decide_eq_true h1]
  refine iteT ⟨_, _, rfl, rfl, _, rfl, ?_⟩
  by_cases h2 : (x.length : Int) ≤ 10
  case neg =>
    rw [decide_eq_false h2]
    refine iteT (back H (Same.refl H) ?_)
    unfold readV dig10
    rw [if_neg]
    rw [decide_eq_false (show ¬ x.length ≤ 10 by omega)]
    simp
  rw [decide_eq_true h2]
  refine iteF ⟨_, rfl, x, rfl, fun D hD => ?_⟩
  refine lc_it walk_str (fun i H' => Same H H' ∧ H' D = some (.lst ((x.cps.toList.take i).map fun c => V.bl (isD c)))) ⟨upd_new hD, upd_same⟩ (fun _ _ _ _ => True.intro) ?_ ?_
  · rintro i v H1 H2 hi ⟨s1, a1⟩ ⟨rfl, c, hc, rfl⟩
    have hc' : x.cps.toList[i]? = some c := by simpa using hc
    refine ⟨rfl, ?_⟩
    refine ⟨_, rfl, c, _, rfl, rfl, ?_⟩
    rw [isD_in]
    have hl : ((x.cps.toList.take i).map fun c => V.bl (isD c)).length < sizeLine := by
      rw [List.length_map, List.length_take]
      have : i < x.length := hi
      exact Nat.lt_of_le_of_lt (Nat.min_le_left _ _) (by have := small1000 (n := i) (by omega); exact this)
    refine ⟨_, a1, hl, same_put s1 hD, ?_⟩
    rw [upd_same, List.take_succ, hc']
    simp
  rintro H1 ⟨s1, a1⟩
  rw [List.take_of_length_le (show x.cps.toList.length ≤ x.cps.size by simp)] at a1
  refine ⟨D, x.cps.toList.map isD, rfl, .of (by rw [a1, List.map_map]; rfl), true && (x.cps.toList.map isD).all id, by simp, ?_⟩
  have hall : (x.cps.toList.map isD).all id = x.cps.toList.all isD := by rw [List.all_map]; rfl
  rw [hall, Bool.true_and]
  cases h3 : x.cps.toList.all isD with
  | false =>
    refine iteT (back H1 s1 ?_)
    unfold readV dig10
    rw [if_neg]
    rw [h3]
    simp
  | true =>
    have hd : dig10 x = true := by
      unfold dig10
      rw [h3, decide_eq_true (show 1 ≤ x.length by omega), decide_eq_true (show x.length ≤ 10 by omega)]
      rfl
    have hne : x.cps.toList ≠ [] := fun e => by rw [e] at hsz; simp at hsz; omega
    obtain ⟨c0, r0, he⟩ := List.exists_cons_of_ne_nil hne
    have hA : NumText.AllDigits x.cps.toList := fun c hc => by
      have z := List.all_eq_true.mp h3 c hc
      unfold isD at z
      simp only [Bool.and_eq_true, decide_eq_true_eq] at z
      exact z
    have hI : intText? x = some ((NumText.digitsVal x.cps.toList : Nat) : Int) := intText_digits hA hne (by omega)
    refine iteF ⟨_, rfl, x, 0, c0, rfl, rfl, hx, (by rw [he]; exact atI_nat (j := 0) rfl), rfl, _, rfl, ?_⟩
    have hh : x.cps.toList.headD 0 = c0 := by rw [he]; rfl
    have tail : ¬ ((⟨#[x.cps.toList.headD 0]⟩ : Str) = "0" ∧ ¬ x = "0") →
        tSeq (tAsg (tCB (fun xs H Q => ∃ a n, xs = [V.str a] ∧ intText? a = some n ∧ a.length ≤ 640 ∧ Q (.int n) H) (tCons (tVar 0) tNil)) (gName 1))
          (tRet (tIf (tTest (tOp (rI0 fun i j => .bl (decide (i < j))) (tVar 1) (tC (.int 4294967296)))) (tVar 1) (tC .non))) { nx := fun _ H' => Q .non H', rt := Q } [some (.str x), none, none] H1 := by
      intro hn
      have hv : readV x = if ((NumText.digitsVal x.cps.toList : Nat) : Int) < 4294967296 then some ((NumText.digitsVal x.cps.toList : Nat) : Int) else none := by
        unfold readV
        rw [if_pos hd, if_neg hn]
      refine ⟨_, rfl, x, _, rfl, hI, by omega, ?_⟩
      generalize ((NumText.digitsVal x.cps.toList : Nat) : Int) = v at hv
      refine ⟨_, rfl, v, 4294967296, rfl, rfl, _, rfl, ?_⟩
      by_cases h6 : v < 4294967296
      · rw [decide_eq_true h6]
        refine iteT ⟨_, rfl, ?_⟩
        have z := k H1 s1
        rw [hv, if_pos h6] at z
        exact z
      · rw [decide_eq_false h6]
        rw [if_neg h6] at hv
        exact iteF (back H1 s1 hv)
    by_cases h4 : (⟨#[c0]⟩ : Str) = "0"
    · rw [decide_eq_true (show V.str (⟨#[c0]⟩ : Str) = V.str "0" from congrArg V.str h4)]
      refine iteT ⟨_, rfl, rfl, _, rfl, ?_⟩
      by_cases h5 : x = "0"
      · rw [decide_eq_true (show V.str x = V.str "0" from congrArg V.str h5)]
        refine iteF ?_
        exact tail (fun z => z.2 h5)
      · rw [decide_eq_false (show ¬ V.str x = V.str "0" from fun e => h5 (V.str.inj e))]
        refine iteT (back H1 s1 ?_)
        unfold readV
        rw [if_pos hd, if_pos ⟨by rw [hh]; exact h4, h5⟩]
    · rw [decide_eq_false (show ¬ V.str (⟨#[c0]⟩ : Str) = V.str "0" from fun e => h4 (V.str.inj e))]
      refine iteF (iteF ?_)
      exact tail (fun z => h4 (by rw [hh] at z; exact z.1))
end
end K2
namespace K2
open PySem L2 Own StX ClX NdefX
def spBI (K : PySem.W.Frag) : Sp := fun vs H Q _ => ∃ p C dx n i o, vs = [.ref p, n, i, o] ∧ H p = some (.ins C dx []) ∧ Cls K C ∧ NoAttr K C "name" ∧ NoAttr K C "inputs" ∧ NoAttr K C "outputs" ∧ Q .non (upd H p (.ins C dx (F3 n i o)))
def spFeed (K : PySem.W.Frag) : Sp := fun vs H Q _ => ∃ (a : Addr) (ns : List Int) (k : Int), vs = [.ref a, .int k] ∧ SqL K H a (ns.map V.int) ∧ 0 ≤ k ∧ k ≤ 100 ∧
  ∀ p d s, 0 ≤ d → H p = none → Q (.ref p) (upd H p (.lst [.int d, .int s]))
def spTake : Sp := fun vs H Q _ => ∃ (a : Addr) (d s m : Int), vs = [.ref a, .int m] ∧ H a = some (.lst [.int d, .int s]) ∧ 0 ≤ d ∧ 0 < m ∧ m ≤ 8589934592 ∧
  ∀ r d' s', 0 ≤ d' → 0 ≤ r → r < m → Q (.int r) (upd H a (.lst [.int d', .int s']))
def spPickL : Sp := fun vs H Q _ => ∃ (a b : Addr) (d s : Int) (xs : List V), vs = [.ref a, .ref b] ∧ H a = some (.lst [.int d, .int s]) ∧ H b = some (.lst xs) ∧ a ≠ b ∧ 0 ≤ d ∧ 0 < xs.length ∧ xs.length ≤ 1000 ∧
  ∀ x d' s', x ∈ xs → 0 ≤ d' → Q x (upd H a (.lst [.int d', .int s']))

def spPI (K : PySem.W.Frag) (C : Addr) : Sp := fun vs H Q _ => ∃ (p dx : Addr) (z : Str) (c : V), vs = [.ref p, .str z, c] ∧ z ∈ words9 ∧ H p = some (.ins C dx []) ∧ ∀ i o, PortsOk K z i o → Q .non (upd H p (.ins C dx (F4 (.str z) i o c)))
def spParse (K : PySem.W.Frag) (C : Addr) : Sp := fun vs H Q _ => ∃ (x z : Str) (c : Option Int), vs = [.ref C, .str x] ∧ x.length ≤ sizeLine ∧ readP x = some (z, c) ∧ ∀ y dx i o H', Same H H' → H y = none → H' y = some (.ins C dx (F4 (.str z) i o (optV c))) → PortsOk K z i o → Q (.ref y) H'
/-- a primitive's text -/
def txt (z : Str) : Option Int → Str
  | none => z
  | some n => Str.empty ++ z ++ " " ++ Str.ofString (toString n)
def spStr (C : Addr) : Sp := fun vs H Q _ => ∃ (p dx : Addr) (z : Str) (i o : V) (c : Option Int), vs = [.ref p] ∧ H p = some (.ins C dx (F4 (.str z) i o (optV c))) ∧ z.length ≤ 100 ∧ (∀ n, c = some n → 0 ≤ n ∧ n < 4294967296) ∧ Q (.str (txt z c)) H
theorem sl (a b : Str) : (a ++ b).length = a.length + b.length := by rw [TL.len_tl, TL.len_tl a, TL.len_tl b, TL.tl_append, List.length_append]
theorem readP_word {x z : Str} {c : Option Int} (h : readP x = some (z, c)) : z ∈ words9 := by
  unfold readP at h
  split at h
  · rename_i hw
    split at h
    · cases e : readV (Txt.partition x " ").2.2 with
      | none => rw [e] at h; cases h
      | some v => rw [e] at h; cases h; exact hw
    · split at h
      · cases h; exact hw
      · cases h
  · cases h
theorem ww9 (z : Str) (h : z ∈ words9) : inV (.str z) [.str "const", .str "delay"] = decide (z = "const" ∨ z = "delay") := by
  simp only [words9, List.mem_cons, List.not_mem_nil, or_false] at h
  rcases h with rfl | rfl | rfl | rfl | rfl | rfl | rfl | rfl | rfl <;> decide +kernel
section
variable {P : Program} {w : World} {K : PySem.W.Frag} {mg : Str → Option Value} {base : Heap} {C : Addr}
theorem scRP : FnScope ["text", "word", "space", "rest", "constant"] ["text"] (defScope sRP) := ⟨rfl, rfl, rfl, by decide +kernel, rfl, by decide +kernel, by decide +kernel⟩
theorem ok_rp {f fV : Addr} {fd fdV : FuncData} (F : Fun K "read_primitive" "read_primitive" sRP f fd) (T : Txt K w mg C) (GV : FnOk P w K mg base CX0 1 fV fdV ["text"] spRV) (mV : mg "read_value" = some (.ref fV)) (kV : PySem.W.keepIn K (.ref fV) = true) (bV : Binds K fdV ["text"] []) :
    FnOk P w K mg base CX0 2 f fd ["text"] spRP := by
  refine F.ok scRP (fun vs H Q E h => ?_) (fun cdv A outer s H vs Q E hr h => ?_)
  · obtain ⟨x, rfl, _⟩ := h
    rfl
  obtain ⟨x, rfl, hx, kn, ks⟩ := h
  obtain ⟨d, es, n, hd, D, hP, hM⟩ := T.pp
  obtain ⟨dW, hW, hWs⟩ := T.ww
  refine ⟨_, pss_cons (ps_asg (pe_partition (pv 0) pe_str) (pg_tup (by rfl) (pgs_cons (pg_name (i := 1) scRP.nd rfl (.inl rfl)) (pgs_cons (pg_name (i := 2) scRP.nd rfl (.inl rfl)) (pgs_cons (pg_name (i := 3) scRP.nd rfl (.inl rfl)) pgs_nil)))))
    (pss_cons (ps_if (pt_cmpR (op_notIn_kd D) (pv 1) (pe_glob (v := .ref d) rfl hd rfl) (by rfl)) (pss_one (ps_ret pe_non)) pss_nil)
    (pss_cons (ps_if (pt_cmpR op_notIn_seq (pv 1) (pe_glob (v := .ref dW) rfl hW rfl) (by rfl)) (pss_one (ps_ret (pe_ifExp (pt_truth (pv 2) (by intro _; rfl)) pe_non (pe_tup (pa_cons (pv 1) (pa_cons pe_non pa_nil)))))) pss_nil)
    (pss_cons (ps_set (i := 4) scRP.nd rfl (.inl rfl) (pe_call GV hr rfl mV kV bV .nil pass0 (pa_cons (pv 3) pa_nil)))
    (pss_one (ps_ret (pe_ifExp (pt_cmpR op_isN (pv 4) pe_non (nomark _)) pe_non (pe_tup (pa_cons (pv 1) (pa_cons (pv 4) pa_nil))))))))), ?_⟩
  refine ⟨_, rfl, ⟨_, rfl⟩, _, _, rfl, rfl, by decide +kernel, hx, fun p hp => ?_⟩
  have hrest := part_rest x
  obtain ⟨R, er⟩ : ∃ R, readP x = R := ⟨_, rfl⟩
  rw [er] at kn ks
  unfold readP at er
  have hsp : (Txt.partition x " ").2.1.length ≤ 1 := by
    rw [TL.partition_par x " " (by decide +kernel)]
    split
    · exact (by decide +kernel : (" " : Str).length ≤ 1)
    · exact Nat.zero_le _
  generalize (Txt.partition x " ").1 = z at er
  generalize (Txt.partition x " ").2.1 = sp at er hsp
  generalize (Txt.partition x " ").2.2 = rs at er hrest
  refine ⟨p, _, rfl, .of upd_same, rfl, _, _, rfl, _, _, rfl, _, _, rfl, rfl, ?_⟩
  have s1 := upd_new (o := .tup [V.str z, V.str sp, V.str rs]) hp
  by_cases hz : z ∈ words9
  case neg =>
    rw [if_neg hz] at er
    exact ⟨_, rfl, z, none, rfl, rfl, hM z hz, _, rfl, iteT (kn er.symm _ s1)⟩
  rw [if_pos hz] at er
  obtain ⟨u, tp, i, o, h1, h2, h3, h4⟩ := hP z hz
  refine ⟨_, rfl, z, some u, rfl, rfl, h1, _, rfl, iteF ⟨_, rfl, dW, _, rfl, .inr (hWs _), rfl, rfl, _, rfl, ?_⟩⟩
  rw [ww9 z hz]
  by_cases hcd : z = "const" ∨ z = "delay"
  · rw [decide_eq_true hcd]
    rw [if_pos hcd] at er
    refine iteF ⟨_, rfl, rs, rfl, by omega, fun H1 s2 => ?_⟩
    have s3 := s1.trans s2
    cases ev : readV rs with
    | none =>
      rw [ev] at er
      exact ⟨_, rfl, rfl, _, rfl, iteT (kn er.symm _ s3)⟩
    | some v =>
      rw [ev] at er
      refine ⟨_, rfl, rfl, _, rfl, iteF ⟨_, rfl, _, rfl, small1 (by show 2 ≤ 8; decide), fun t ht => ?_⟩⟩
      exact ks z (some v) er.symm t _ (s3.trans (upd_new ht)) (s3.free ht) upd_same
  · rw [decide_eq_false hcd]
    rw [if_neg hcd] at er
    refine iteT ⟨_, rfl, _, ⟨Nat.le_trans hsp (by decide), rfl⟩, ?_⟩
    by_cases hs0 : sp.length = 0
    · rw [if_pos hs0] at er
      rw [show ((sp.length : Int) != 0) = false by simp [hs0]]
      refine iteF ⟨_, rfl, small1 (by show 2 ≤ 8; decide), fun t ht => ?_⟩
      exact ks z none er.symm t _ (s1.trans (upd_new ht)) (s1.free ht) upd_same
    · rw [if_neg hs0] at er
      rw [show ((sp.length : Int) != 0) = true by simp [hs0]]
      exact iteT (kn er.symm _ s1)
theorem scBI : FnScope ["self", "name", "inputs", "outputs"] ["self", "name", "inputs", "outputs"] (defScope sBI) := ⟨rfl, rfl, rfl, by decide +kernel, rfl, by decide +kernel, by decide +kernel⟩
theorem ok_bi {f : Addr} {fd : FuncData} (F : Fun K "__init__" "Block.__init__" sBI f fd) : FnOk P w K mg base CX0 1 f fd ["self", "name", "inputs", "outputs"] (spBI K) := by
  refine F.ok scBI (fun vs H Q E h => ?_) (fun cdv A outer s H vs Q E hr h => ?_)
  · obtain ⟨p, C, dx, n, i, o, rfl, _⟩ := h
    rfl
  obtain ⟨p, C, dx, n, i, o, rfl, hp, c, n1, n2, n3, k⟩ := h
  refine ⟨_, pss_cons (ps_fld (pv 0) (pv 1) rfl) (pss_cons (ps_fld (pv 0) (pv 2) rfl) (pss_one (ps_fld (pv 0) (pv 3) rfl))), ?_⟩
  refine ⟨_, rfl, _, rfl, p, C, dx, [], rfl, hp, c, n1, (by show 0 < 1000; decide), ?_⟩
  refine ⟨_, rfl, _, rfl, p, C, dx, _, rfl, upd_same, c, n2, (by have := putF_len (f := "name") (v := n) []; simp only [List.length_nil] at this; omega), ?_⟩
  refine ⟨_, rfl, _, rfl, p, C, dx, _, rfl, upd_same, c, n3, (by
    have h2 := putF_len (f := "inputs") (v := i) (putF "name" n [])
    have h3 := putF_len (f := "name") (v := n) []
    simp only [List.length_nil] at h3
    omega), ?_⟩
  rw [upd_upd, upd_upd]
  exact k

/-! ### Primitive.__init__ -/
def nfPI (cc cda : Addr) : NF := ⟨"__init__", "Primitive.__init__", defArgs sPI, defBody sPI, defScope sPI, [("__class__", cc)], cda⟩
theorem nsPI : NScope ["self", "name", "constant", "__class__", "inputs", "outputs"] ["self", "name", "constant"] ["__class__"] (defScope sPI) := nscope_by (by decide +kernel)
theorem ndPI : (["self", "name", "constant", "__class__", "inputs", "outputs"] : List Str).Nodup := by decide +kernel
structure PIn (K : PySem.W.Frag) (P : Program) (C f cc cda fB : Addr) : Prop where
  ex : ∃ oc od osl doc pm an ct, K.lookup f = some ⟨oc, od, .func (PySem.W.fnX "__init__" "Primitive.__init__" (defArgs sPI) (defBody sPI) (defScope sPI) [(("__class__" : Str), cc)] .none .none doc pm an (.ref cda) ct), osl⟩ ∧
    SupK K P f cda cc C (PySem.W.fnX "__init__" "Primitive.__init__" (defArgs sPI) (defBody sPI) (defScope sPI) [(("__class__" : Str), cc)] .none .none doc pm an (.ref cda) ct) "self"
  code : PySem.W.codeIn K (.ref cda) "Primitive.__init__" = true
  sc : SupC K C C "__init__" fB
theorem ok_pi {f cc cda fB : Addr} {fdB : FuncData} (Z : PIn K P C f cc cda fB) (T : Txt K w mg C) (GB : FnOk P w K mg base CX0 1 fB fdB ["self", "name", "inputs", "outputs"] (spBI K)) (bB : Binds K fdB ["self", "name", "inputs", "outputs"] []) :
    FnR P w K mg base CX0 2 f (spPI K C) := by
  obtain ⟨oc, od, osl, doc, pm, an, ct, lk, SK⟩ := Z.ex
  have GR : FnR P w K mg base CX0 1 fB (spBI K) := by
    have z := GB.raw bB .nil
    simpa only [List.append_nil] using z
  refine fnr_super (F := nfPI cc cda) (cc := cc) (D := C) lk Z.code rfl SK.cell nsPI (fun us hl => match us, hl with | [_, _, _], _ => rfl) (fun vs H Q E h => ?_) (fun A outer s H vs Q E hr h => ?_)
  · obtain ⟨p, dx, z, c, rfl, _⟩ := h
    rfl
  obtain ⟨p, dx, z, c, rfl, hz, hp, k⟩ := h
  obtain ⟨d, es, n, hd, D, hP, _⟩ := T.pp
  refine ⟨_, psa_cons (ps_asg (pe_ix ix_kdict (pe_glob (v := .ref d) rfl hd rfl) (pv 1) (fun _ _ => rfl)) (pg_tup (by rfl) (pgs_cons (pg_name (i := 4) ndPI rfl (.inl rfl)) (pgs_cons (pg_name (i := 5) ndPI rfl (.inl rfl)) pgs_nil))))
    (psa_super (self := "self") SK rfl rfl rfl rfl rfl rfl rfl T.sup GR hr pass0 (pa_cons (pv 1) (pa_cons (pv 4) (pa_cons (pv 5) pa_nil))) (psa_of (pss_one (ps_fld (pv 0) (pv 2) rfl)))), ?_⟩
  obtain ⟨u, tp, x, y, h1, h2, h3, h4⟩ := hP z hz
  refine ⟨_, rfl, d, z, .ref tp, rfl, rfl, ⟨es, n, u, D.at_, D.lit, h1, h2⟩, tp, _, rfl, h3 _, rfl, _, _, rfl, _, _, rfl, rfl, ?_⟩
  refine ⟨p, C, dx, [], rfl, hp, Z.sc, _, rfl, _, rfl, _, rfl, p, C, dx, _, _, _, rfl, hp, T.cl, T.nN, T.nI, T.nO, ?_⟩
  refine ⟨_, rfl, _, rfl, p, C, dx, _, rfl, upd_same, T.cl, T.nC, (by have := F3_len (.str z) x y; omega), ?_⟩
  rw [upd_upd]
  exact k x y h4
theorem scPa : FnScope ["cls", "text", "found", "name", "constant"] ["cls", "text"] (defScope sParse) := ⟨rfl, rfl, rfl, by decide +kernel, rfl, by decide +kernel, by decide +kernel⟩
theorem ok_parse {f fR fI : Addr} {fd fdR : FuncData} (F : Fun K "parse" "Primitive.parse" sParse f fd) (T : Txt K w mg C) (GR : FnOk P w K mg base CX0 2 fR fdR ["text"] spRP) (mR : mg "read_primitive" = some (.ref fR)) (kR : PySem.W.keepIn K (.ref fR) = true) (bR : Binds K fdR ["text"] [])
    (M : Mk K C fI) (GI : FnR P w K mg base CX0 2 fI (spPI K C)) : FnOk P w K mg base CX0 4 f fd ["cls", "text"] (spParse K C) := by
  refine F.ok scPa (fun vs H Q E h => ?_) (fun cdv A outer s H vs Q E hr h => ?_)
  · obtain ⟨x, z, c, rfl, _⟩ := h
    rfl
  obtain ⟨x, z, c, rfl, hx, hR, k⟩ := h
  refine ⟨_, pss_cons (ps_set (i := 2) scPa.nd rfl (.inl rfl) (pe_call GR (hr.mono (by decide)) rfl mR kR bR .nil pass0 (pa_cons (pv 1) pa_nil)))
    (pss_cons (ps_if (pt_cmpR op_isN (pv 2) pe_non (nomark _)) pss_never pss_nil)
    (pss_cons (ps_asg (pv 2) (pg_tup (by rfl) (pgs_cons (pg_name (i := 3) scPa.nd rfl (.inl rfl)) (pgs_cons (pg_name (i := 4) scPa.nd rfl (.inl rfl)) pgs_nil))))
    (pss_one (ps_ret (pe_makeL (i := 0) M GI hr rfl (.inl rfl) pass0 (pa_cons (pv 3) (pa_cons (pv 4) pa_nil))))))), ?_⟩
  refine ⟨_, rfl, x, rfl, hx, fun e => (by rw [hR] at e; cases e), fun z' c' e t H' s1 ht ht' => ?_⟩
  rw [hR] at e
  cases e
  refine ⟨_, rfl, rfl, _, rfl, iteF ?_⟩
  refine ⟨_, rfl, t, _, rfl, .of ht', rfl, _, _, rfl, _, _, rfl, rfl, ?_⟩
  refine ⟨rfl, _, rfl, _, rfl, fun y dx hy hdx hne => ⟨y, dx, z, optV c, rfl, readP_word hR, upd_same, fun i o hio => ⟨rfl, ?_⟩⟩⟩
  refine k y dx i o _ (fun b u e => ?_) (s1.free hy) upd_same hio
  have e1 := s1 b u e
  rw [upd_ne (ne_of_none e1 hy), upd_ne (ne_of_none e1 hy), upd_ne (ne_of_none e1 hdx)]
  exact e1
theorem scSt : FnScope ["self"] ["self"] (defScope sStr) := ⟨rfl, rfl, rfl, by decide +kernel, rfl, by decide +kernel, by decide +kernel⟩
theorem log32 {n : Int} (h0 : 0 ≤ n) (h1 : n < 4294967296) : n.natAbs.log2 < 1920 := by
  have h2 : n.natAbs < 2 ^ 32 := by omega
  exact Nat.lt_trans (PySem.Flt.log2_lt_of (by decide) h2) (by decide)
theorem num_len {n : Int} (h0 : 0 ≤ n) (h1 : n < 4294967296) : (Str.ofString (toString n)).length ≤ 10 := PyProof.Rows.toString_length_le h0 (by decide) (by omega)
theorem ok_str {f : Addr} {fd : FuncData} (F : Fun K "__str__" "Primitive.__str__" sStr f fd) (T : Txt K w mg C) : FnOk P w K mg base CX0 1 f fd ["self"] (spStr C) := by
  refine F.ok scSt (fun vs H Q E h => ?_) (fun cdv A outer s H vs Q E hr h => ?_)
  · obtain ⟨p, dx, z, i, o, c, rfl, _⟩ := h
    rfl
  obtain ⟨p, dx, z, i, o, c, rfl, hp, hz, hc, k⟩ := h
  refine ⟨_, pss_cons (ps_if (pt_cmpR op_isN (pe_fld (pv 0) rfl) pe_non (nomark _)) (pss_one (ps_ret (pe_callTy SkE.call_str_str (by rfl) T.zs (by decide +kernel) (pa_cons (pe_fld (pv 0) rfl) pa_nil)))) pss_nil)
    (pss_one (ps_ret (pe_joined (.cons (pe_fmt (pe_fld (pv 0) rfl)) (.cons pe_str (.cons (pe_fmt (pe_fld (pv 0) rfl)) .nil)))))), ?_⟩
  refine ⟨_, rfl, p, C, dx, _, _, rfl, hp, T.cl, T.nC, F4_const _ _ _ _, rfl, _, rfl, ?_⟩
  cases c with
  | none =>
    refine iteT ⟨_, rfl, p, C, dx, _, _, rfl, hp, T.cl, T.nN, F4_name _ _ _ _, _, rfl, k⟩
  | some n =>
    obtain ⟨h0, h1⟩ := hc n rfl
    have hl := num_len h0 h1
    have e1 : (Str.empty ++ z).length = z.length := by rw [sl]; exact Nat.zero_add _
    have e2 : (Str.empty ++ z ++ (" " : Str)).length = z.length + 1 := by rw [sl, e1]; rfl
    have e3 : (Str.empty ++ z ++ (" " : Str) ++ Str.ofString (toString n)).length ≤ 1000 := by rw [sl, e2]; omega
    refine iteF ⟨_, rfl, p, C, dx, _, _, rfl, hp, T.cl, T.nN, F4_name _ _ _ _, .inl ⟨z, rfl, Nat.le_trans hz (by decide), z, rfl, ?_, " ", rfl, ?_, _, rfl, p, C, dx, _, _, rfl, hp, T.cl, T.nC, F4_const _ _ _ _, .inr ⟨n, rfl, log32 h0 h1, _, rfl, ?_, k⟩⟩⟩
    · rw [e1]; exact Nat.le_trans hz (by decide)
    · rw [e2]; exact Nat.le_of_lt (small1000 (by omega))
    · exact Nat.le_of_lt (small1000 e3)
theorem scFe : FnScope ["script", "k", "cell", "digits", "state"] ["script", "k"] (defScope sFeed) := ⟨rfl, rfl, rfl, by decide +kernel, rfl, by decide +kernel, by decide +kernel⟩
theorem ok_feed {f : Addr} {fd : FuncData} (F : Fun K "_law_feed" "_law_feed" sFeed f fd) (mlen : mg "len" = none) (mmax : mg "max" = none) (mabs : mg "abs" = none) : FnOk P w K mg base CX0 1 f fd ["script", "k"] (spFeed K) := by
  refine F.ok scFe (fun vs H Q E h => ?_) (fun cdv A outer s H vs Q E hr h => ?_)
  · obtain ⟨a, ns, k, rfl, _⟩ := h
    rfl
  obtain ⟨a, ns, k, rfl, hS, h0, h1, q⟩ := h
  refine ⟨_, pss_join (ps_set (i := 2) scFe.nd rfl (.inl rfl) (pe_ifExp (pt_cmpR op_lt (pv 1) (pe_callB call_len_seq (by rfl) mlen PySem.boot_len (pa_cons (pv 0) pa_nil)) (nomark _)) (pe_ix ix_list (pv 0) (pv 1) (fun _ _ => rfl)) (pe_op op_add (pe_op op_mul pe_int (pv 1)) pe_int)))
    (pss_cons (ps_set (i := 3) scFe.nd rfl (.inl rfl) (pe_callB (call_max2 rfl) (by rfl) mmax (by decide +kernel) (pa_cons pe_int (pa_cons (pe_op op_sub (pe_callB call_abs (by rfl) mabs (by decide +kernel) (pa_cons (pv 2) pa_nil)) (pe_op op_pow pe_int pe_int)) pa_nil))))
    (pss_cons (ps_set (i := 4) scFe.nd rfl (.inl rfl) (pe_op op_mod (pe_op op_add (pe_op op_add (pe_op op_mul (pv 2) pe_int) (pe_op op_mul pe_int (pv 1))) pe_int) pe_int))
    (pss_one (ps_ret (pe_lst (pa_cons (pv 3) (pa_cons (pv 4) pa_nil))))))), ?_⟩
  refine ⟨fun σ H' => H' = H ∧ ∃ c : Int, σ = [some (.ref a), some (.int k), some (.int c), none, none], ?_, ?_⟩
  · refine ⟨_, rfl, _, rfl, a, _, rfl, .inl hS, _, _, rfl, rfl, _, rfl, ?_⟩
    by_cases hc : k < (ns.map V.int).length
    · rw [decide_eq_true hc]
      have hj : k.toNat < ns.length := by rw [List.length_map] at hc; omega
      exact iteT ⟨_, rfl, _, rfl, a, _, _, .int (ns[k.toNat]), rfl, rfl, hS, at_of (j := k.toNat) (by omega) (by simp [hj]), rfl, _, rfl⟩
    · rw [decide_eq_false hc]
      exact iteF ⟨_, rfl, _, _, rfl, rfl, .inl ⟨by decide, by decide⟩, _, _, rfl, rfl, rfl, _, rfl⟩
  rintro σ H' ⟨rfl, c, rfl⟩
  refine ⟨_, rfl, _, rfl, _, _, rfl, rfl, ⟨by decide, by decide, by decide⟩, _, _, rfl, rfl, _, _, rfl, ?_⟩
  refine ⟨_, rfl, _, _, rfl, rfl, .inr ⟨by decide, by decide⟩, _, rfl, _, _, rfl, rfl, .inl ⟨by decide, by decide⟩, _, _, rfl, rfl, _, _, rfl, rfl, _, _, rfl, rfl, (by show (0 : Int) < 2305843009213693951; decide), ?_⟩
  refine ⟨_, rfl, _, rfl, small1 (by show 2 ≤ 8; decide), fun p hp => q p _ _ ?_ hp⟩
  split <;> omega
theorem scTk : FnScope ["feed", "many", "digit"] ["feed", "many"] (defScope sTake) := ⟨rfl, rfl, rfl, by decide +kernel, rfl, by decide +kernel, by decide +kernel⟩
theorem log_many {m : Int} (h : 0 < m) (h2 : m ≤ 8589934592) : m.natAbs.log2 < 9000 := by
  have h2 : m.natAbs < 2 ^ 34 := by omega
  exact Nat.lt_trans (PySem.Flt.log2_lt_of (by decide) h2) (by decide)
theorem ok_take {f : Addr} {fd : FuncData} (F : Fun K "_law_take" "_law_take" sTake f fd) : FnOk P w K mg base CX0 1 f fd ["feed", "many"] spTake := by
  refine F.ok scTk (fun vs H Q E h => ?_) (fun cdv A outer s H vs Q E hr h => ?_)
  · obtain ⟨a, d, s, m, rfl, _⟩ := h
    rfl
  obtain ⟨a, d, s, m, rfl, ha, h0, hm, hm2, k⟩ := h
  have at0 : ∀ x y : Int, atI [V.int x, V.int y] 0 = some (.int x) := fun x y => at_of (j := 0) rfl rfl
  have at1 : ∀ x y : Int, atI [V.int x, V.int y] 1 = some (.int y) := fun x y => at_of (j := 1) rfl rfl
  have ix0 : ixN 2 0 = some 0 := by decide +kernel
  have ix1 : ixN 2 1 = some 1 := by decide +kernel
  refine ⟨_, pss_cons (ps_if (pt_cmpR op_gt (pe_ix ix_list (pv 0) pe_int (fun _ _ => rfl)) pe_int (nomark _))
      (pss_cons (ps_set (i := 2) scTk.nd rfl (.inl rfl) (pe_op op_mod (pe_ix ix_list (pv 0) pe_int (fun _ _ => rfl)) (pv 1)))
      (pss_cons (ps_asg (pe_op op_fdivW (pe_ix ix_list (pv 0) pe_int (fun _ _ => rfl)) (pv 1)) (pg_sub (pv 0) pe_int set_list))
      (pss_one (ps_ret (pv 2))))) pss_nil)
    (pss_cons (ps_asg (pe_op op_mod (pe_op op_add (pe_op op_mul (pe_ix ix_list (pv 0) pe_int (fun _ _ => rfl)) pe_int) pe_int) pe_int) (pg_sub (pv 0) pe_int set_list))
    (pss_one (ps_ret (pe_op op_mod (pe_op op_fdiv (pe_ix ix_list (pv 0) pe_int (fun _ _ => rfl)) pe_int) (pv 1))))), ?_⟩
  refine ⟨_, rfl, a, _, _, _, rfl, rfl, .of ha, at0 _ _, _, _, rfl, rfl, _, rfl, ?_⟩
  by_cases hc : 0 < d
  · rw [decide_eq_true hc]
    refine iteT ⟨_, rfl, a, _, _, _, rfl, rfl, .of ha, at0 _ _, _, rfl, _, _, rfl, rfl, hm, ?_⟩
    refine ⟨_, rfl, a, _, _, _, rfl, rfl, .of ha, at0 _ _, _, rfl, _, _, rfl, rfl, ⟨hm, log_many hm hm2⟩, _, rfl, a, _, _, 0, rfl, rfl, ha, ix0, ?_⟩
    exact ⟨_, rfl, k _ _ s (Int.ediv_nonneg h0 (by omega)) (Int.emod_nonneg _ (by omega)) (Int.emod_lt_of_pos _ hm)⟩
  · rw [decide_eq_false hc]
    refine iteF ⟨_, rfl, a, _, _, _, rfl, rfl, .of ha, at1 _ _, _, _, rfl, rfl, .inr ⟨by decide, by decide⟩, _, _, rfl, rfl, _, _, rfl, rfl, (by show (0 : Int) < 2305843009213693951; decide), _, rfl, a, _, _, 1, rfl, rfl, ha, ix1, ?_⟩
    refine ⟨_, rfl, a, _, _, _, rfl, rfl, .of upd_same, at1 _ _, _, _, rfl, rfl, ⟨by decide, by decide⟩, _, rfl, _, _, rfl, rfl, hm, ?_⟩
    exact k _ d _ h0 (Int.emod_nonneg _ (by omega)) (Int.emod_lt_of_pos _ hm)
theorem scPk : FnScope ["feed", "some"] ["feed", "some"] (defScope sPickL) := ⟨rfl, rfl, rfl, by decide +kernel, rfl, by decide +kernel, by decide +kernel⟩
theorem ok_pickl {f fT : Addr} {fd fdT : FuncData} (F : Fun K "_law_pick" "_law_pick" sPickL f fd) (GT : FnOk P w K mg base CX0 1 fT fdT ["feed", "many"] spTake) (mT : mg "_law_take" = some (.ref fT)) (kT : PySem.W.keepIn K (.ref fT) = true) (bT : Binds K fdT ["feed", "many"] []) (mlen : mg "len" = none) :
    FnOk P w K mg base CX0 2 f fd ["feed", "some"] spPickL := by
  refine F.ok scPk (fun vs H Q E h => ?_) (fun cdv A outer s H vs Q E hr h => ?_)
  · obtain ⟨a, b, d, s, xs, rfl, _⟩ := h
    rfl
  obtain ⟨a, b, d, s, xs, rfl, ha, hb, hab, h0, hx0, hx1, k⟩ := h
  refine ⟨_, pss_one (ps_ret (pe_ix ix_list (pv 1) (pe_call GT hr rfl mT kT bT .nil pass0 (pa_cons (pv 0) (pa_cons (pe_callB call_len_seq (by rfl) mlen PySem.boot_len (pa_cons (pv 1) pa_nil)) pa_nil))) (fun _ _ => rfl))), ?_⟩
  refine ⟨_, rfl, _, rfl, _, rfl, b, xs, rfl, .inl (.of hb), a, d, s, xs.length, rfl, ha, h0, by omega, by omega, fun r d' s' hd hr0 hr1 => ?_⟩
  have hj : r.toNat < xs.length := by omega
  refine ⟨b, xs, r, xs[r.toNat], rfl, rfl, .of ?_, at_of (j := r.toNat) (by omega) (by simp [hj]), k _ d' s' (List.getElem_mem _) hd⟩
  rw [upd_ne (fun e => hab e.symm)]
  exact hb

end
end K2
/-! OwnC: a caught exception that is kept behind its except suite. -/
namespace Own
open PySem PySem.Spec PyProof.Rows L2
/-- a caught exception of the class cls, its dict at d, kept at a -/
def XO (cls : Value) (d : Option Addr) (a : Addr) : HO := .ext fun h => ∃ (oe : Obj) (vs : Array Value), h.get? a = some oe ∧ Zc cls d oe ∧ oe.data = .fields vs
theorem xo_ok {P : Program} {w : World} {H : Hp} {h : Heap} {a : Addr} {cls : Value} {d : Option Addr} {oe : Obj} {vs : Array Value} (e : h.get? a = some oe) (z : Zc cls d oe) (q : oe.data = .fields vs) : ObjOk P w H h a (XO cls d a) :=
  ⟨⟨oe, vs, e, z, q⟩, ⟨oe, e⟩, fun _ _ ⟨o, v, q, r⟩ k => ⟨o, v, k o q, r⟩⟩
theorem xo_at {P : Program} {w : World} {H : Hp} {h : Heap} {a : Addr} {cls : Value} {d : Option Addr} (x : HOk P w H h) (e : H a = some (XO cls d a)) : ∃ (oe : Obj) (vs : Array Value), h.get? a = some oe ∧ Zc cls d oe ∧ oe.data = .fields vs := by
  have z : ObjOk P w H h a (.ext fun h => ∃ (oe : Obj) (vs : Array Value), h.get? a = some oe ∧ Zc cls d oe ∧ oe.data = .fields vs) := x a _ e
  exact z.1
section
variable {X : Cx} {pins : List (Addr × Obj)} {σ : L2.St} {H : Hp} {s : Shared}
/-- an object of the heap that was not there at the entry and is not tracked yet is tracked now -/
theorem keepX (I : Inv X pins σ H s) {a : Addr} {oe : Obj} {vs : Array Value} {cls : Value} {d : Option Addr} (n0 : X.s_0.heap.get? a = none) (he : s.heap.get? a = some oe) (hz : Zc cls d oe) (hd : oe.data = .fields vs) (na : H a = none) (nL : a ≠ X.env.locals)
    (np : ∀ p ∈ X.pn ++ pins, p.1 ≠ a) : Inv X pins σ (upd H a (XO cls d a)) s := by
  refine ⟨I.ok, I.os, I.bare, ⟨I.base.keep, I.base.slot, fun b o e n hx => ?_, I.base.there, fun b xs e => ?_, fun b o u e => ?_, fun b ps e => ?_⟩, I.loc, I.cell, ?_, fun x c e => ?_, fun p hp => ?_, I.hok.laidN (fun _ _ z => z) na (xo_ok he hz hd), I.len⟩
  · have hb : b ≠ a := fun z => by rw [z, n0] at e; cases e
    rw [upd_ne hb]
    exact I.base.free b o e n hx
  · have z := I.base.tups b xs e
    rw [upd_ne (ne_of_none z na)]
    exact z
  · have z := I.base.frzs b o u e
    rw [upd_ne (ne_of_none z na)]
    exact z
  · obtain ⟨m, z⟩ := I.base.tbls b ps e
    exact ⟨m, by rw [upd_ne (ne_of_none z na)]; exact z⟩
  · rw [upd_ne nL.symm]
    exact I.free
  · obtain ⟨v, o, ho, hv⟩ := I.cell x c e
    have hc : c ≠ a := fun z => by
      rw [z, he] at ho
      cases ho
      rw [hd] at hv
      cases hv
    rw [upd_ne hc]
    exact I.freeC x c e
  · obtain ⟨e, n, ne, nf, q⟩ := I.pin p hp
    exact ⟨e, by rw [upd_ne (np p hp)]; exact n, ne, nf, q⟩
end
end Own
namespace Own
open PySem PySem.Spec PySem.Calls PyProof.Rows PySem.W
/-- an attribute that is asked for (getAttr?) of an exception of an own class and comes from a descriptor of the class: the descriptor's call decides -/
theorem exc_ask {prog : Program} {w : World} {A : Around} {E : Value → Shared → Prop} {s : Shared} {K : Frag} {x D : Addr} {ox : Obj} {od : Option Obj} {name : Str} {g u : Value} {Q : Option Value → Shared → Prop} (C : L2.ExcC K D)
    (hf : findObj K D od name = some (.bind g u)) (X : K.In s.heap) (I : InstAt s.heap x ox D od)
    (call_ : ∀ (B : Around) (E' : Value → Shared → Prop) (Q' : Value → Shared → Prop), (∀ v, v = Value.ref D → Q' v { s with toks := s.toks + 1 }) → wpAny (model prog w) B (call g [u, .ref x, .ref D]) Q' E' { s with toks := s.toks + 1 })
    (h : Q (some (.ref D)) { s with toks := s.toks + 1 }) : wpAny (model prog w) A (getAttr? (.ref x) name) Q E s := by
  have nob : (Value.builtin "BaseException.__getattribute__" == Value.builtin "object.__getattribute__") = false := by decide +kernel
  obtain ⟨hp, gs, d, t, os⟩ := s
  have cls := I.type (M := model prog w)
  have below : Looks (model prog w) hp (isInstance (.ref x) (.type "BaseException")) true := cls.andThen (looks_subIn X C.hs)
  unfold getAttr? getAttrBy? getAttrBy
  refine wpAny_bind (wpAny_mkText (wpAny_bind (wpAny_attempt (wpAny_holding (wpAny_bind (cls.at (wpAny_bind ((looks_findIn (M := model prog w) X C.hg).at ?_))))))))
  dsimp only
  rw [nob, Bool.and_false, if_neg Bool.false_ne_true]
  unfold getAttrByItsOwn hookBefore
  refine wpAny_bind ?_
  rw [if_pos (show onTheHeap (Value.ref D) = true from rfl)]
  refine (looks_findIn (M := model prog w) X C.hk).at (wpAny_bind (wpAny_attempt (wpAny_holding ?_)))
  unfold callGetattribute
  rw [Bool.false_and, if_neg Bool.false_ne_true]
  unfold boundAndCalled
  rw [PySem.F.excAttr_ValueError.ga.bind (.ref x)]
  refine wpAny_bind (wpAny_pure (wpAny_call (codeAny_call_builtin PySem.F.excAttr_ValueError.ga.plain PySem.F.entry_bexc_ga ?_)))
  refine @check_slot (model prog w) _ _ ⟨hp, gs, d, t + 1, os⟩ "BaseException.__getattribute__" "BaseException" "__getattribute__" (.ref x) [.str name t] [] _ (by decide +kernel) (by decide +kernel) below (PySem.F.args_bexc_ga (.ref x) (.str name t)) ?_
  unfold Builtin.«object.__getattribute__»
  refine wpAny_bind (wpAny_of_eq (a := ((Value.ref x : Value), [Value.str name t])) (by first | rfl | (simp only [slotArgs]; rfl)) ?_)
  refine wpAny_bind (wpAny_pure (wpAny_bind (cls.at (wpAny_bind ((looks_find (M := model prog w) X I hf).at (wpAny_bind (wpAny_holding (call_ _ _ _ fun v hv => ?_))))))))
  subst hv
  refine wpAny_pure ?_
  show wpAny _ _ (handedOut (.ref D)) _ _ _
  rw [handedOut_of (v := .ref D) rfl]
  first
    | exact wpAny_pure (wpAny_pure h)
    | exact wpAny_pure h
    | exact wpAny_pure (wpAny_bind (wpAny_pure (wpAny_pure h)))
theorem kitx_excD {K : Frag} {x D : Addr} {ox : Obj} {od : Obj} (C : L2.ExcC K D) : KitX K (.ref x) (.ref D) (fun h => InstAt h x ox D (some od)) := by
  have Z := handS_kitx_exc (x := x) (ox := ox) C.hg C.hk C.hs C.hd C.ha C.hn C.ht C.hm
  refine ⟨fun _ _ _ I => I.type, fun _ _ X I => ?_, fun h tp dd its n sl X htp => Z.ne h tp dd its n sl X htp, fun X I k => exc_ask C (findObj_data ?_ C.ha C.hn C.ht) X I (fun B E' Q' hq => wpAny_call (class_get X I C.hm (hq _ rfl))) k⟩
  · obtain ⟨cdD, hcD, _⟩ := any_some C.hd
    unfold clsIn at hcD
    split at hcD
    · rename_i c' d' cd' sl' ho
      intro A' Q' E' s' k q
      unfold isType loadHead
      exact wpAny_bind (wpAny_loadPart (k _ _ (X _ _ ho)) (wpAny_pure q))
    · cases hcD
  · obtain ⟨cd, hc, _⟩ := any_some C.hd
    rw [hc]
    rfl
end Own
namespace Own
open PySem PySem.Spec PyProof.Rows L2
/-- isinstance(x, c), x a kept exception with a dict -/
def rIsX (K : PySem.W.Frag) : List V → Hp → VK → Prop := fun xs H Q => ∃ (a D dd : Addr) (fs : List (Str × V)) (c : V) (cv : Value) (b : Bool), xs = [.ref a, c] ∧ H a = some (XO (.ref D) (some dd) a) ∧ H dd = some (.xd fs) ∧ ExcC K D ∧ (∀ u, RelV c u → u = cv) ∧ PySem.W.kitOne K (.ref D) cv = some b ∧ Q (.bl b) H
theorem xo_inst {X : Cx} {pins : List (Addr × Obj)} {σ : L2.St} {H : Hp} {s : Shared} {a D dd : Addr} {fs : List (Str × V)} (I : Inv X pins σ H s) (ha : H a = some (XO (.ref D) (some dd) a)) (hd : H dd = some (.xd fs)) :
    ∃ (oe od : Obj), PySem.W.InstAt s.heap a oe D (some od) ∧ ∃ mA : Str → Option Value, (∀ f, PySem.W.lookIn f od = some (mA f)) ∧ ∀ f, RelO (fs.lookup f) (mA f) := by
  obtain ⟨oe, vs, he, hz, hv⟩ := xo_at I.hok ha
  have hx : ObjOk X.prog X.w H s.heap dd (.xd fs) := I.hok dd _ hd
  obtain ⟨mA, hns, hr⟩ := hx
  obtain ⟨od, ho, hl⟩ := lookIn_ns hns
  exact ⟨oe, od, ⟨he, hz.1, by unfold PySem.W.notCls; rw [hv] <;> rfl, by rw [hz.2]; exact ho⟩, mA, hl, hr⟩
theorem call_isX {X : Cx} : CallR X (.builtin "isinstance") (rIsX X.K) := by
  intro pins s σ H xs us Q I r h
  obtain ⟨a, D, dd, fs, c, cv, b, rfl, ha, hd, C, hcv, e, q⟩ := h
  obtain ⟨u1, u2, rfl, r1, r2⟩ := vals2 r
  obtain rfl : u1 = Value.ref a := r1
  obtain rfl := hcv _ r2
  obtain ⟨oe, od, J, _⟩ := xo_inst I ha hd
  exact PySem.W.kia_one (kitx_excD C) I.kIn J e (fun z => nomatch z) fun tk => ⟨.bl b, H, I.kept (t' := tk) fun _ _ z => z, rfl, q⟩
/-- x.f, x a kept exception -/
def tXk (K : PySem.W.Frag) (f : Str) (te : TE) : TE := fun σ H Q => te σ H fun x H1 => ∃ (a D dd : Addr) (fs : List (Str × V)) (v : V), x = .ref a ∧ H1 a = some (XO (.ref D) (some dd) a) ∧ H1 dd = some (.xd fs) ∧ XfC K D ∧ PySem.W.findIn K (.ref D) f = some none ∧ fs.lookup f = some v ∧ Q v H1
theorem pe_xk {X : Cx} {e : Expr} {te : TE} {pos : Pos} {n : Str} (he : PE X e te) (hb : attributeBase e n X.env (eval e X.env) = eval e X.env := by rfl) : PE X (.Attribute e n pos) (tXk X.K n te) := by
  refine ⟨fun pins s σ H Q I h => ?_⟩
  refine attr_of hb (thn (he.run pins s σ H _ I h) fun u s1 hh => ?_)
  obtain ⟨x, H1, I1, rx, a, D, dd, fs, v, ex, ha, hd, T, hno, l, q⟩ := hh
  subst ex
  obtain rfl : u = Value.ref a := rx
  obtain ⟨oe, od, J, mA, hl, hr⟩ := xo_inst I1 ha hd
  obtain ⟨u, hu, ru⟩ := RelO.some_of (v := v) (o := mA n) (by rw [← l]; exact hr n)
  exact PySem.HandSPX.exc_get I1.kIn J T.ga T.gg T.exC (PySem.W.findObj_own T.hdC hno rfl (by rw [hl, hu])) (handed_of ru) ⟨v, H1, I1.tok _, ru, q⟩
end Own
namespace Own
open PySem PySem.Spec PyProof.Rows L2
/-- the ends of an except suite whose exception is kept at a: the clause's name (slot i) goes, the exception stands -/
def keptE (i : Nat) (a : Addr) (cls : Value) (d : Option Addr) (D : Ends) : Ends where
  nx := fun σ' H' => H' a = none → D.nx (σ'.set i none) (upd H' a (XO cls d a))
  rt := fun v H' => H' a = none → D.rt v (upd H' a (XO cls d a))
  bk := fun σ' H' => H' a = none → D.bk (σ'.set i none) (upd H' a (XO cls d a))
  ct := fun σ' H' => H' a = none → D.ct (σ'.set i none) (upd H' a (XO cls d a))
/-- what a clause 'except x as n' (slot i is n's) that keeps its exception wishes of an exception of the body -/
def wAsK (K : PySem.W.Frag) (c : Value) (i : Nat) (ts : Addr → Value → Option Addr → TS) (Wout : WX) (D : Ends) : WX := fun cls d σ H =>
  ∃ b, PySem.W.exmOne K cls c = some b ∧ (b = true → ∀ a, H a = none → ts a cls d (keptE i a cls d D) (σ.set i (some (.ref a))) H) ∧ (b = false → Wout cls d σ H)
section
variable {X : Cx} {x n : Str} {c : Value} {i : Nat} {body suite : List Stmt} {b₀ : Stmt} {np pos pos' : Pos} {tb : WX → TS} {ts : Addr → Value → Option Addr → TS} {Wout : WX}
/-- an end of the body of a try is one of the try -/
theorem sp_try {pins : List (Addr × Obj)} {xe : Value → Shared → Prop} {D : Ends} {s : Shared} (ok : X.Ok) : ∀ f : Flow, SP (X.tr (X.pn ++ pins) xe) [] D f s → SP X pins D f s
  | .next, ⟨_, _, J, q⟩ => ⟨_, _, J.ofTry ok, q⟩
  | .brk, ⟨_, _, J, q⟩ => ⟨_, _, J.ofTry ok, q⟩
  | .cont, ⟨_, _, J, q⟩ => ⟨_, _, J.ofTry ok, q⟩
  | .ret _, ⟨_, _, _, J, r, q⟩ => ⟨_, _, _, J.ofTry ok, r, q⟩
/-- an end of the suite, the name let go, is one of the try; the exception is tracked from here on -/
theorem sp_kept {pins : List (Addr × Obj)} {D : Ends} {a : Addr} {oe : Obj} {vs : Array Value} {cls : Value} {d : Option Addr} {s : Shared} {E : Value → Shared → Prop} (ok : X.Ok) (hN : X.N.Nodup) (hi : X.N[i]? = some n) (hl : X.env.kindOf n = some .local)
    (z : Zc cls d oe) (hd : oe.data = .fields vs) (n0 : X.s_0.heap.get? a = none) (nL : a ≠ X.env.locals) (np : ∀ p ∈ X.pn ++ pins, p.1 ≠ a) (f : Flow) (h : SP (X.suite a ((a, oe) :: (X.pn ++ pins))) [] (keptE i a cls d D) f s) :
    wpAny (model X.prog X.w) X.A (do bindName X.env n .none; unbindBehindTheSuite X.env n pos') (fun _ s7 => SP X pins D f s7) E s := by
  have go : ∀ {σ : L2.St} {H : Hp}, Inv (X.suite a ((a, oe) :: (X.pn ++ pins))) [] σ H s → (∀ s7, H a = none → Inv X pins (σ.set i none) (upd H a (XO cls d a)) s7 → SP X pins D f s7) →
      wpAny (model X.prog X.w) X.A (do bindName X.env n .none; unbindBehindTheSuite X.env n pos') (fun _ s7 => SP X pins D f s7) E s := fun {σ H} S q => by
    refine gone_ok (X := X.suite a ((a, oe) :: (X.pn ++ pins))) S hN hi hl fun s7 S7 => ?_
    have p7 := S7.pin (a, oe) (List.mem_append_left _ List.mem_cons_self)
    exact q s7 p7.2.1 (keepX (S7.unsuite ok) n0 p7.1 z hd p7.2.1 nL np)
  revert go
  revert h
  cases f with
  | next => exact fun ⟨σ, H, S, q⟩ go => go S fun s7 e J => ⟨_, _, J, q e⟩
  | brk => exact fun ⟨σ, H, S, q⟩ go => go S fun s7 e J => ⟨_, _, J, q e⟩
  | cont => exact fun ⟨σ, H, S, q⟩ go => go S fun s7 e J => ⟨_, _, J, q e⟩
  | ret u => exact fun ⟨v, σ, H, S, r, q⟩ go => go S fun s7 e J => ⟨_, _, _, J, r, q e⟩
/-- a caught exception is a new object -/
theorem caught_new {pins : List (Addr × Obj)} {σ : L2.St} {H : Hp} {sI : Shared} {B : Heap} {a : Addr} (J : Inv X pins σ H sI) (hex : X.ex = []) (nb : ∀ b o, sI.heap.get? b = some o → b ∉ frs X.stack → B.get? b = some o) (Ba : B.get? a = none) (nfr : a ∉ frs X.stack) :
    X.s_0.heap.get? a = none ∧ ∀ p ∈ X.pn ++ pins, p.1 ≠ a := by
  have nI : ∀ o, sI.heap.get? a ≠ some o := fun o e => by
    have z := nb a o e nfr
    rw [Ba] at z
    cases z
  refine ⟨?_, fun p hp z => nI p.2 (by rw [← z]; exact (J.pin p hp).1)⟩
  cases e : X.s_0.heap.get? a with
  | none => rfl
  | some o =>
    obtain ⟨o', z⟩ := J.base.there a o e (by rw [hex]; exact fun z => nomatch z)
    exact absurd z (nI o')
/-- try: body / except x as n: suite, where the suite lets its exception out into a name or a list: it is kept -/
theorem ps_try_keep (hs : X.stack = X.env :: X.outer) (hf : X.env.frame = some X.env.locals) (hex : X.ex = []) (hN : X.N.Nodup) (hi : X.N[i]? = some n) (hln : X.env.kindOf n = some .local) (hc : Names X x c) (tk : Takes X Wout)
    (hb : ∀ (W : WX) (pn : List (Addr × Obj)) (xe : Value → Shared → Prop), Takes (X.tr pn xe) W → PassesOwn (model X.prog X.w) X.A X.env xe → PSs (X.tr pn xe) body (tb W))
    (hsu : ∀ (a : Addr) (oe : Obj) (cls : Value) (d : Option Addr) (pn : List (Addr × Obj)), Zc cls d oe → (∃ vs, oe.data = .fields vs) → PSs (X.suite a ((a, oe) :: pn)) (b₀ :: suite) (ts a cls d)) :
    PS X (.Try body [.ExceptHandler (some (.Name x np)) (some n) (b₀ :: suite) pos'] [] [] pos) (fun D σ H => tb (wAsK X.K c i ts Wout D) D σ H) := by
  refine ⟨fun pins s σ H D I h => wpAny_Try_except ?_⟩
  have ok := I.ok
  refine wpAny_mono ((hb (wAsK X.K c i ts Wout D) (X.pn ++ pins) (fun e s₁ => wpAny (model X.prog X.w) X.A (noteFrame e X.env) (fun _ s₂ => wpAny (model X.prog X.w) X.A (setFlight e none) (fun _ s₃ =>
    wpAny (model X.prog X.w) X.A (handleBy e X.env [.ExceptHandler (some (.Name x np)) (some n) (b₀ :: suite) pos']) (SP X pins D) X.xe s₃) X.xe s₂) X.xe s₁) (fun u s' air => ?_) PassesOwn.looking).run [] s σ H D (I.toTry _) h) (fun f s1 e => ?_) (fun e s1 he => he)
  case refine_2 =>
    have e := sp_try ok f e
    cases f with
    | next => exact wpAny_execs_nil e
    | brk => exact e
    | cont => exact e
    | ret u => exact e
  obtain ⟨a, B, sI, ps, τ, G, cls, d, rfl, JT, nb, up, sky, na, os, ag, b, hmatch, yes, no⟩ := air
  have J : Inv X pins τ G sI := JT.ofTry ok
  show wpAny (model X.prog X.w) X.A (noteFrame (.ref a) X.env) _ _ _
  refine Sky.land (outer := X.outer) Zc.steady (by rw [ok.frames, hs]) hf (by rw [← hs]; exact sky) fun h3 fl3 up3 => ?_
  have nfr : a ∉ frs (X.env :: X.outer) := fun hm => by
    obtain ⟨o3, v3, e3, _, d3⟩ := fl3.there
    obtain ⟨_, o', e', hnf⟩ := fl3.2.2.1.mem hm
    cases e3.symm.trans e'
    exact hnf _ d3
  obtain ⟨n0, apart⟩ := caught_new J hex nb fl3.2.1 (by rw [hs]; exact nfr)
  have nL : a ≠ X.env.locals := fun z => nfr (List.mem_filterMap.mpr ⟨X.env, List.mem_cons_self, by rw [hf, z]⟩)
  have nF : a ∉ X.fs := fun hm => by
    obtain ⟨e, he, q⟩ := List.mem_filterMap.mp hm
    exact nfr (List.mem_filterMap.mpr ⟨e, List.mem_cons_of_mem _ he, q⟩)
  have J3 : Inv X pins τ G { s' with heap := h3 } := J.landed nb fl3.1 (up.trans up3) os ag
  obtain ⟨o3, v3, e3, z3, d3⟩ := fl3.there
  have S3 := J3.suite e3 d3 na nL nF
  have hcls : ∀ {Q : Value → Shared → Prop} {E : Value → Shared → Prop}, Q c { s' with heap := h3 } → wpAny (model X.prog X.w) (X.A.mark (some (.ref a))) (eval (.Name x np) X.env) Q E { s' with heap := h3 } := fun {Q E} q => by
    obtain ⟨hg, hdb, hm | ⟨hm, hv, hnn⟩⟩ := hc
    · exact ld_glob (X := X.suite a ((a, o3) :: (X.pn ++ pins))) S3 hg hm q hdb
    · exact ld_blt (X := X.suite a ((a, o3) :: (X.pn ++ pins))) S3 hg hm hv q hnn hdb
  refine wpAny_handleBy_cons (codeAny_handlers_test (hcls ((PySem.W.exm_one (M := model X.prog X.w) J3.kIn (fun A Q E s k q => wpAny_typeOf_ref (k _ _ e3) (by rw [z3.1]; exact q)) hmatch).here ?_))) (by intro q; cases q)
  cases b with
  | true =>
    refine codeAny_handlers_suite_as (HandSPX.lands_againZ fl3 fun h4 fl4 up4 => ?_)
    obtain ⟨o4, v4, e4, z4, d4⟩ := fl4.there
    have S4 := Inv.suite (J.landed (s' := { s' with heap := h4 }) nb fl4.1 ((up.trans up3).trans up4) os ag) e4 d4 na nL nF
    refine store_ok (X := X.suite a ((a, o4) :: (X.pn ++ pins))) (v := .ref a) S4 hN hi (.inl hln) rfl (fun s5 S5 => ?_) (.inr hln)
    exact wpAny_mono ((hsu a o4 cls d (X.pn ++ pins) z4 ⟨_, d4⟩).run [] s5 _ G _ S5 (yes rfl a na)) (fun f s6 q => sp_kept ok hN hi hln z4 d4 n0 nL apart f q) fun _ _ z => False.elim z
  | false =>
    show wpAny _ X.A (handleBy (.ref a) X.env []) _ _ _
    refine wpAny_handleBy_nil ?_
    obtain ⟨_, _, _, oe, vs, T, oT, _, he, hz, hd, h1, _⟩ := id fl3
    unfold PySem.passOn
    refine wpAny_bind (wpAny_field he hd h1 ?_)
    rw [if_neg (show ¬ ((Value.ref T == Value.none) = true) from by simp)]
    have out : wpAny (model X.prog X.w) X.A (setFlight (.ref a) X.env.frame) (fun _ s4 => wpAny (model X.prog X.w) X.A (throw (.ref a) : Sem Flow) (SP X pins D) X.xe s4) X.xe { s' with heap := h3 } := by
      rw [hf]
      exact HandSPX.setFlight_upZ fl3 fun h4 held up4 => wpAny_throw (tk _ _ ⟨a, B, sI, pins, τ, G, cls, d, rfl, J, nb, (up.trans up3).trans up4, .inr (.inr (by rw [hs]; exact held)), na, os, ag, no rfl⟩)
    first
      | exact wpAny_bind (wpAny_pure (wpAny_bind out))
      | exact wpAny_bind out
end
end Own
namespace Own
open PySem PySem.Spec PyProof.Rows L2 ClX
/-- a classmethod called off its class, which may raise (what it lets out may speak of the slots) -/
def tCMethS (C : Addr) (sp : Sp) (E : L2.St → XK) (ta : TE) (t : TA) : TE := fun σ H Q => ta σ H fun x H1 => x = .ref C ∧ t σ H1 fun vs H2 => sp (.ref C :: vs) H2 Q (E σ)
theorem pe_cmethS {X : Cx} {CX : CXT} {k : Nat} {C p g : Addr} {mc : Value} {sp : Sp} {E : L2.St → XK} {o e : Expr} {es : List Expr} {m : Str} {pos apos : Pos} {ta : TE} {t : TA} {pl : Sem Bool} (he : PE X o ta) (r : CRead X.K C mc) (c : CMet X.K C mc m p g)
    (F : FnR X.prog X.w X.K X.mg X.base CX k g sp) (hr : Room k X.A) (hx : ∀ σ, PassesAt CX X σ (E σ)) (ha : PA X (e :: es) t)
    (hst : starEach (e :: es) X.env = (false, eval e X.env) :: starEach es X.env := by rfl) (hpl : (backTo pos (starEach es X.env)).any (·.1) = false := by rfl)
    (ht : eval (.Call (.Attribute o m apos) (e :: es) [] pos) X.env = (do
      let ov ← eval o X.env
      standAt apos.atName
      let (f, first) ← holding [ov] (getMethod ov m pl)
      callWith pos f first (backTo pos (starEach (e :: es) X.env)) (backToKw pos (keywordEach [] X.env))) := by rfl) :
    PE X (.Call (.Attribute o m apos) (e :: es) [] pos) (tCMethS C sp E ta t) := by
  refine ⟨fun pins s σ H Q I h => ?_⟩
  refine PySem.W.methodCall_KW (pl := pl) (thn (he.run pins s σ H _ I h) fun u s1 ⟨x, H1, I1, rx, ex, q⟩ => ?_) ht
  subst ex
  obtain rfl : u = Value.ref C := rx
  refine getmethcm_ok I1 r c fun s2 I2 => ?_
  refine callwith_cm I2 (base_none I1 (Nat.le_refl _)) c.fi (thn (ha.run pos _ s2 σ H1 _ I2 q) fun us s3 ⟨vs, H2, I3, rv, q2⟩ => ⟨⟨pin_at I3, I3.kIn⟩, ?_⟩) hst hpl
  have z : wpAny (model X.prog X.w) X.A (call (.ref s1.heap.objs.size) us) (EP X ((s1.heap.objs.size, PySem.W.methodObj (.ref g) (.ref C)) :: pins) σ Q) X.xe s3 := by
    refine wpAny_call (PySem.W.method_call (pin_at I3) (codeAny_mono (F X.A X.stack s3 H2 (.ref C :: us) (.ref C :: vs) Q (E σ) hr I3.env0 (.cons rfl rv) q2) fun r s' hq => ?_))
    cases r with
    | error e => exact hx σ _ H2 s3 e s' I3 hq
    | ok fl =>
      cases fl with
      | ret u => exact I3.after hq
      | next => exact False.elim hq
      | brk => exact False.elim hq
      | cont => exact False.elim hq
  exact thn z fun _ _ y => unpinE y
end Own
namespace K2
open PySem L2 Own StX ClX NdefX
abbrev sErr : Stmt := inClass (top 3) 0
/-- InvalidText: its class at CI, its __init__ at fI -/
structure ErrC (K : PySem.W.Frag) (mg : Str → Option Value) (CI fI : Addr) : Prop where
  ox : OexC K CI
  ini : PySem.W.findIn K (.ref CI) "__init__" = some (some (.ref fI))
  ty : PySem.W.typeIn K (.ref fI) = some (.type "function")
  row : PySem.W.findIn K (.ref CI) "row" = some none
  m : mg "InvalidText" = some (.ref CI)
def spErr (K : PySem.W.Frag) (CI : Addr) : Sp := fun vs H Q _ => ∃ (a : Addr) (r : Int), vs = [.ref a, .int r] ∧ H a = some (exo a CI none) ∧ ∀ dx, H dx = none → dx ≠ a → Q .non (upd (upd H dx (exd dx [("row", .int r)])) a (exo a CI (some dx)))
def spParseX (K : PySem.W.Frag) (C CI : Addr) : Sp := fun vs H Q E => ∃ x : Str, vs = [.ref C, .str x] ∧ x.length ≤ sizeLine ∧
  (readP x = none → ∀ d H', Same H H' → H d = none → H' d = some (.xd [("row", .int 0)]) → E (.ref CI) (some d) H') ∧
  (∀ z c, readP x = some (z, c) → ∀ y dx i o H', Same H H' → H y = none → H' y = some (.ins C dx (F4 (.str z) i o (optV c))) → PortsOk K z i o → Q (.ref y) H')
section
variable {P : Program} {w : World} {K : PySem.W.Frag} {mg : Str → Option Value} {base : Heap} {C CI : Addr}
theorem scEr : FnScope ["self", "row"] ["self", "row"] (defScope sErr) := ⟨rfl, rfl, rfl, by decide +kernel, rfl, by decide +kernel, by decide +kernel⟩
theorem ok_err {f fI : Addr} {fd : FuncData} (F : Fun K "__init__" "InvalidText.__init__" sErr f fd) (T : ErrC K mg CI fI) : FnOk P w K mg base CX0 1 f fd ["self", "row"] (spErr K CI) := by
  refine F.ok scEr (fun vs H Q E h => ?_) (fun cdv A outer s H vs Q E hr h => ?_)
  · obtain ⟨a, r, rfl, _⟩ := h
    rfl
  obtain ⟨a, r, rfl, ha, k⟩ := h
  refine ⟨_, pss_one (ps_ost (pv 0) (pv 1)), ?_⟩
  exact ⟨_, rfl, _, rfl, a, CI, rfl, T.ox, T.row, .inl ⟨ha, fun dx h1 h2 => k dx h1 h2⟩⟩
theorem ok_parseX {f fR fI fE : Addr} {fd fdR fdE : FuncData} (F : Fun K "parse" "Primitive.parse" sParse f fd) (T : Txt K w mg C) (GR : FnOk P w K mg base CX0 2 fR fdR ["text"] spRP) (mR : mg "read_primitive" = some (.ref fR)) (kR : PySem.W.keepIn K (.ref fR) = true) (bR : Binds K fdR ["text"] [])
    (M : Mk K C fI) (GI : FnR P w K mg base CX0 2 fI (spPI K C)) (Er : ErrC K mg CI fE) (GE : FnOk P w K mg base CX0 1 fE fdE ["self", "row"] (spErr K CI)) (bE : Binds K fdE ["self", "row"] []) : FnOk P w K mg base (L2.CX P w) 4 f fd ["cls", "text"] (spParseX K C CI) := by
  refine F.okX scPa (fun vs H Q E h => ?_) (fun cdv A outer s H vs Q E hr h => ?_)
  · obtain ⟨x, rfl, _⟩ := h
    rfl
  obtain ⟨x, rfl, hx, kN, kS⟩ := h
  refine ⟨_, pss_cons (ps_set (i := 2) scPa.nd rfl (.inl rfl) (pe_call GR (hr.mono (by decide)) rfl mR kR bR .nil pass0 (pa_cons (pv 1) pa_nil)))
    (pss_cons (ps_if (pt_cmpR op_isN (pv 2) pe_non (nomark _)) (pss_one (ps_raise rfl (takes_of rfl rfl rfl rfl) (pmk_oex Er.ox Er.ini Er.ty GE (hr.mono (by decide)) bE .nil pass0 rfl Er.m (pa_cons pe_int pa_nil)))) pss_nil)
    (pss_cons (ps_asg (pv 2) (pg_tup (by rfl) (pgs_cons (pg_name (i := 3) scPa.nd rfl (.inl rfl)) (pgs_cons (pg_name (i := 4) scPa.nd rfl (.inl rfl)) pgs_nil))))
    (pss_one (ps_ret (pe_makeL (i := 0) M GI hr rfl (.inl rfl) pass0 (pa_cons (pv 3) (pa_cons (pv 4) pa_nil))))))), ?_⟩
  refine ⟨_, rfl, x, rfl, hx, fun e H' s1 => ?_, fun z c e t H' s1 ht ht' => ?_⟩
  · refine ⟨_, rfl, rfl, _, rfl, iteT ⟨by decide, fun a ha => ⟨a, 0, rfl, upd_same, fun dx h1 h2 => ?_⟩⟩⟩
    have hdx : H' dx = none := by rw [← h1, upd_ne h2]
    refine ⟨rfl, dx, _, upd_same, by rw [upd_ne h2]; exact upd_same, hdx, kN e dx _ (fun b u q => ?_) (s1.free hdx) upd_same⟩
    have e1 := s1 b u q
    have hb := ne_of_none e1 ha
    have hd := ne_of_none e1 hdx
    rw [upd_ne hd, del_ne hb, upd_ne hb, upd_ne hd, upd_ne hb]
    exact e1
  · refine ⟨_, rfl, rfl, _, rfl, iteF ?_⟩
    refine ⟨_, rfl, t, _, rfl, .of ht', rfl, _, _, rfl, _, _, rfl, rfl, ?_⟩
    refine ⟨rfl, _, rfl, _, rfl, fun y dx hy hdx hne => ⟨y, dx, z, optV c, rfl, readP_word e, upd_same, fun i o hio => ⟨rfl, ?_⟩⟩⟩
    refine kS z c e y dx i o _ (fun b u e => ?_) (s1.free hy) upd_same hio
    have e1 := s1 b u e
    rw [upd_ne (ne_of_none e1 hy), upd_ne (ne_of_none e1 hy), upd_ne (ne_of_none e1 hdx)]
    exact e1
end
end K2
namespace K2
open PySem L2 Own StX ClX NdefX
abbrev sTold : Stmt := top 21
def told (x : Str) : V := match readP x with
  | some (z, c) => .str (txt z c)
  | none => .int 0
def spTold : Sp := fun vs H Q _ => ∃ x : Str, vs = [.str x] ∧ x.length ≤ sizeLine ∧ ∀ H', Same H H' → Q (told x) H'
/-- Primitive.parse and str, callable; the error's classes -/
structure Par (P : Program) (w : World) (K : PySem.W.Frag) (mg : Str → Option Value) (base : Heap) (C CI : Addr) : Prop where
  cm : ∃ mc p g, CRead K C mc ∧ CMet K C mc "parse" p g ∧ FnR P w K mg base (L2.CX P w) 4 g (spParseX K C CI)
  st : ∃ g, PySem.W.findIn K (.ref C) "__str__" = some (some (.ref g)) ∧ PySem.W.isFn K (.ref g) = true ∧ FnR P w K mg base CX0 1 g (spStr C)
  be : ∃ BE, mg "BlockError" = some (.ref BE) ∧ PySem.W.exmOne K (.ref CI) (.ref BE) = some true
  ex : ExcC K CI
  xf : XfC K CI
  row : PySem.W.findIn K (.ref CI) "row" = some none
  mI : mg "InvalidText" = some (.ref CI)
  ve : mg "ValueError" = none ∧ PySem.W.kitOne K (.ref CI) (.type "ValueError") = some true
  isi : mg "isinstance" = none
theorem readV_in {x : Str} {n : Int} (h : readV x = some n) : 0 ≤ n ∧ n < 4294967296 := by
  unfold readV at h
  split at h
  · split at h
    · cases h
    · split at h
      · cases h
        exact ⟨Int.natCast_nonneg _, by assumption⟩
      · cases h
  · cases h
theorem readP_val {x z : Str} {c : Option Int} (h : readP x = some (z, c)) {n : Int} (hn : c = some n) : 0 ≤ n ∧ n < 4294967296 := by
  unfold readP at h
  split at h
  · split at h
    · cases e : readV (Txt.partition x " ").2.2 with
      | none =>
        rw [e] at h
        cases h
      | some m =>
        rw [e] at h
        cases h
        cases hn
        exact readV_in e
    · split at h
      · cases h
        cases hn
      · cases h
  · cases h
theorem kit_self {K : PySem.W.Frag} (C : Addr) : PySem.W.kitOne K (.ref C) (.ref C) = some true := by
  unfold PySem.W.kitOne
  rw [if_pos (beq_self_eq_true _)]
section
variable {P : Program} {w : World} {K : PySem.W.Frag} {mg : Str → Option Value} {base : Heap} {C CI : Addr}
abbrev nT : List Str := ["text", "caught", "found", "error"]
theorem scTo : FnScope nT ["text"] (defScope sTold) := ⟨rfl, rfl, rfl, by decide +kernel, rfl, by decide +kernel, by decide +kernel⟩
theorem ok_told {f : Addr} {fd : FuncData} (F : Fun K "_law_told" "_law_told" sTold f fd) (T : Txt K w mg C) (Pa : Par P w K mg base C CI) : FnOk P w K mg base CX0 5 f fd ["text"] spTold := by
  refine F.ok scTo (fun vs H Q E h => ?_) (fun cdv A outer s H vs Q E hr h => ?_)
  · obtain ⟨x, rfl, _⟩ := h
    rfl
  obtain ⟨x, rfl, hx, k⟩ := h
  have hr3 := hr.mono (show 3 ≤ 4 by decide)
  obtain ⟨mc, pp, gp, cr, cm, G⟩ := Pa.cm
  obtain ⟨gs, fs, is_, GS⟩ := Pa.st
  obtain ⟨BE, mBE, kBE⟩ := Pa.be
  refine ⟨_, pss_cons (ps_asg (pe_tup (pa_cons pe_non (pa_cons pe_non pa_nil))) (pg_tup (by rfl) (pgs_cons (pg_name (i := 1) scTo.nd rfl (.inl rfl)) (pgs_cons (pg_name (i := 2) scTo.nd rfl (.inl rfl)) pgs_nil))))
    (pss_cons (ps_try_keep (i := 3) (tb := fun W => tAsg (tCMethS C (spParseX K C CI) (WE W) (tC (.ref C)) (tCons (tVar 0) tNil)) (gName 2)) (ts := fun _ _ _ => tAsg (tVar 3) (gName 1)) (Wout := fun _ _ _ _ => False) rfl rfl rfl scTo.nd rfl rfl ⟨rfl, by decide, .inl mBE⟩ takes0
        (fun W pn xe tk _ => pss_one (ps_set (i := 2) scTo.nd rfl (Or.inl rfl) (by exact (pe_cmethS (pe_glob (v := .ref C) rfl T.mC rfl) cr cm G hr (fun σ => passAt tk σ) (by exact (pa_cons (pv 0) pa_nil))))))
        (fun a oe cls d pn hz hf => pss_one (ps_set (i := 1) scTo.nd rfl (Or.inl rfl) (by exact (pv 3)))))
    (pss_cons (ps_if (pt_cmpR op_isN (pv 1) pe_non (nomark _)) (pss_one (ps_ret (pe_callTy (call_strO GS hr3 fs is_) (by rfl) T.zs (by decide +kernel) (pa_cons (pv 2) pa_nil)))) pss_nil)
    (pss_cons (ps_if (PW.pt (pw_or (pt_not (pt_val (pe_callB (id := "isinstance") call_isX (by rfl) Pa.isi (by decide +kernel) (pa_cons (pv 1) (pa_cons (pe_glob (v := .ref CI) rfl Pa.mI rfl) pa_nil)))))
          (pw_or1 (pt_not (pt_val (pe_callB (id := "isinstance") call_isX (by rfl) Pa.isi (by decide +kernel) (pa_cons (pv 1) (pa_cons (pe_bltn (v := .ty "ValueError") rfl Pa.ve.1 PyProof.Rows.Boot.«ValueError» rfl) pa_nil)))))))) (pss_one (ps_ret pe_str)) pss_nil)
    (pss_one (ps_ret (pe_xk (pv 1))))))), ?_⟩
  refine ⟨small1 (by show 2 ≤ 8; decide), fun t0 ht0 => ⟨t0, _, rfl, .of upd_same, rfl, _, _, rfl, _, _, rfl, rfl, ?_⟩⟩
  have sA := upd_new (o := HO.tup [V.non, V.non]) ht0
  refine ⟨rfl, _, rfl, x, rfl, hx, fun e d H1 s1 hd hd1 => ?_, fun z c e y dx i o H1 s1 hy hy1 hio => ?_⟩
  · refine ⟨true, kBE, fun _ a ha => ⟨_, rfl, fun hn => ?_⟩, fun q => Bool.noConfusion q⟩
    have had : d ≠ a := ne_of_none hd1 ha
    have hd2 : (upd H1 a (XO (.ref CI) (some d) a)) d = some (.xd [("row", .int 0)]) := by rw [upd_ne had]; exact hd1
    refine ⟨_, rfl, rfl, _, rfl, iteF ?_⟩
    refine ⟨_, rfl, a, CI, d, _, .ref CI, .ref CI, true, rfl, upd_same, hd2, Pa.ex, fun u r => r, kit_self CI, true, rfl, iteF ?_⟩
    refine ⟨_, rfl, a, CI, d, _, .ty "ValueError", .type "ValueError", true, rfl, upd_same, hd2, Pa.ex, fun u r => r, Pa.ve.2, true, rfl, iteF ?_⟩
    refine ⟨_, rfl, a, CI, d, _, .int 0, rfl, upd_same, hd2, Pa.xf, Pa.row, rfl, ?_⟩
    have et : told x = .int 0 := by unfold told; rw [e]
    rw [← et]
    exact k _ (sA.trans (s1.trans (upd_new ha)))
  · refine ⟨_, rfl, rfl, _, rfl, iteT ?_⟩
    refine ⟨_, rfl, y, dx, _, rfl, hy1, y, dx, z, i, o, c, rfl, hy1, ?_, ?_, _, rfl, ?_⟩
    · have hz := readP_word e
      simp only [words9, List.mem_cons, List.not_mem_nil, or_false] at hz
      rcases hz with rfl | rfl | rfl | rfl | rfl | rfl | rfl | rfl | rfl <;> decide +kernel
    · exact fun n hn => readP_val e hn
    have et : told x = .str (txt z c) := by unfold told; rw [e]
    rw [← et]
    exact k _ (sA.trans s1)
end
end K2
namespace K2
open PySem L2
/-! ### a number's text is the one of its value -/
theorem num_canon {cs : List Nat} (h : NumText.AllDigits cs) (hne : cs ≠ []) (hc : cs.length = 1 ∨ ∃ c r, cs = c :: r ∧ 49 ≤ c) : TL.numL (NumText.digitsVal cs) = cs := by
  obtain ⟨n, hn⟩ : ∃ n, cs.length = n + 1 := ⟨cs.length - 1, by have := List.length_pos_iff.mpr hne; omega⟩
  have e := NumText.toDigits_digitsVal n cs hn h (by
    rcases hc with hc | hc
    · exact .inl (by omega)
    · exact .inr hc)
  unfold TL.numL
  rw [e, List.map_map]
  have key : ∀ l : List Nat, NumText.AllDigits l → l.map (Char.toNat ∘ Char.ofNat) = l := by
    intro l
    induction l with
    | nil => exact fun _ => rfl
    | cons c r ih =>
      intro hl
      have h1 := hl c List.mem_cons_self
      have hd : ∀ d : Nat, d < 10 → (Char.toNat ∘ Char.ofNat) (48 + d) = 48 + d := by decide
      have h2 := hd (c - 48) (by omega)
      rw [show 48 + (c - 48) = c by omega] at h2
      rw [List.map_cons, h2, ih fun d hd => hl d (List.mem_cons_of_mem _ hd)]
  exact key cs h
theorem readV_canon {x : Str} {n : Int} (h : readV x = some n) : Str.ofString (toString n) = x := by
  unfold readV at h
  split at h
  case isFalse => cases h
  rename_i hd
  split at h
  case isTrue => cases h
  rename_i hz
  split at h
  case isFalse => cases h
  cases h
  unfold dig10 at hd
  rw [Bool.and_eq_true, Bool.and_eq_true] at hd
  obtain ⟨⟨h1, h2⟩, h3⟩ := hd
  have h1 := of_decide_eq_true h1
  have hsz : x.cps.toList.length = x.length := by simp [Str.length]
  have hne : x.cps.toList ≠ [] := fun e => by rw [e] at hsz; simp at hsz; omega
  have hA : NumText.AllDigits x.cps.toList := fun c hc => by
    have z := List.all_eq_true.mp h3 c hc
    unfold isD at z
    simp only [Bool.and_eq_true, decide_eq_true_eq] at z
    exact z
  refine TL.ext_tl ?_
  rw [TL.tl_num]
  refine num_canon hA hne ?_
  obtain ⟨c0, r0, he⟩ := List.exists_cons_of_ne_nil hne
  have hc0 := hA c0 (by rw [he]; exact List.mem_cons_self)
  by_cases hc : c0 = 48
  · left
    have hx : x = "0" := by
      by_cases hx : x = "0"
      · exact hx
      · refine absurd ⟨?_, hx⟩ hz
        rw [he]
        show (⟨#[c0]⟩ : Str) = "0"
        rw [hc]
        decide +kernel
    rw [hx]
    decide +kernel
  · exact .inr ⟨c0, r0, he, by omega⟩
/-! ### texts cut at the first blank -/
theorem cut_at (s : Nat) : ∀ l : List Nat, s ∉ l ∨ ∃ p q, l = p ++ (s :: q) ∧ s ∉ p
  | [] => .inl (fun h => nomatch h)
  | c :: r => by
    by_cases hc : c = s
    · exact .inr ⟨[], r, by rw [hc]; rfl, fun h => nomatch h⟩
    · rcases cut_at s r with h | ⟨p, q, rfl, hp⟩
      · refine .inl fun hm => ?_
        rcases List.mem_cons.mp hm with z | z
        · exact hc z.symm
        · exact h z
      · refine .inr ⟨c :: p, q, rfl, fun hm => ?_⟩
        rcases List.mem_cons.mp hm with z | z
        · exact hc z.symm
        · exact hp z
theorem sp32 : (" " : Str) = SX.S [32] := by decide +kernel
/-- a text without a blank -/
theorem no_blank {x : Str} (h : 32 ∉ x.cps.toList) : Txt.split x " " = [x] ∧ Txt.partition x " " = (x, Str.empty, Str.empty) := by
  refine ⟨?_, TL.partition_none (s := 32) (S := []) (by decide +kernel) h⟩
  have e := SX.split_S (a := x.cps.toList) (b := [32]) (by simp) (by decide)
  rw [SX.S_tl, ← sp32] at e
  rw [e]
  have z := SX.spl_join (c := 32) (sep := []) (parts := [x.cps.toList]) (by simp) (fun p hp => by rw [List.mem_singleton] at hp; subst hp; exact h)
  have j : TL.joinL [32] [x.cps.toList] = x.cps.toList := rfl
  rw [j] at z
  rw [z]
  show [SX.S x.cps.toList] = [x]
  rw [SX.S_tl]
/-- a text with one -/
theorem one_blank {x : Str} (h : 32 ∈ x.cps.toList) : ∃ p q : Str, x = p ++ " " ++ q ∧ 32 ∉ p.cps.toList ∧ Txt.split x " " = p :: Txt.split q " " ∧ Txt.partition x " " = (p, (" " : Str), q) := by
  rcases cut_at 32 x.cps.toList with z | ⟨p, q, hpq, hp⟩
  · exact absurd h z
  have ex : x = SX.S p ++ " " ++ SX.S q := by
    rw [sp32, SX.S_cat, SX.S_cat, List.append_assoc]
    rw [← SX.S_tl x, hpq]
    rfl
  refine ⟨SX.S p, SX.S q, ex, hp, ?_, ?_⟩
  · have e := SX.split_S (a := x.cps.toList) (b := [32]) (by simp) (by decide)
    rw [SX.S_tl, ← sp32] at e
    have e2 := SX.split_S (a := q) (b := [32]) (by simp) (by decide)
    rw [← sp32] at e2
    rw [e, e2, hpq]
    have z := SX.spl_free (sep := [32]) (p := p) q (by simp) (SX.free_head hp)
    have j : p ++ ([32] ++ q) = p ++ (32 :: q) := rfl
    rw [j] at z
    rw [z]
    rfl
  · rw [ex]
    exact TL.partition_app (y := " ") (s := 32) (S := []) (by decide +kernel) hp
theorem split_ne (x : Str) : ∃ p r, Txt.split x " " = p :: r := by
  by_cases h : 32 ∈ x.cps.toList
  · obtain ⟨p, q, _, _, e, _⟩ := one_blank h
    exact ⟨p, _, e⟩
  · exact ⟨x, [], (no_blank h).1⟩
theorem split_one {x : Str} {p : Str} (h : Txt.split x " " = [p]) : p = x ∧ 32 ∉ x.cps.toList := by
  by_cases hx : 32 ∈ x.cps.toList
  · obtain ⟨a, q, _, _, e, _⟩ := one_blank hx
    obtain ⟨b, r, e2⟩ := split_ne q
    rw [e, e2] at h
    cases h
  · rw [(no_blank hx).1] at h
    cases h
    exact ⟨rfl, hx⟩
theorem readV_blank {x : Str} (h : 32 ∈ x.cps.toList) : readV x = none := by
  unfold readV
  rw [if_neg]
  unfold dig10
  intro z
  rw [Bool.and_eq_true] at z
  have q := List.all_eq_true.mp z.2 32 h
  revert q
  decide
theorem readV_empty : readV Str.empty = none := by decide +kernel
/-! ### the law's own check -/
def words7 : List Str := ["add", "sub", "mul", "less", "equal", "pick", "divide"]
theorem w9_w7 {z : Str} (h : ¬ (z = "const" ∨ z = "delay")) : z ∈ words9 ↔ z ∈ words7 := by
  simp only [words9, words7, List.mem_cons, List.not_mem_nil, or_false]
  constructor
  · intro q
    rcases q with q | q | q | q | q | q | q | q | q
    · exact absurd (.inl q) h
    · exact .inl q
    · exact .inr (.inl q)
    · exact .inr (.inr (.inl q))
    · exact .inr (.inr (.inr (.inl q)))
    · exact .inr (.inr (.inr (.inr (.inl q))))
    · exact .inr (.inr (.inr (.inr (.inr (.inl q)))))
    · exact .inr (.inr (.inr (.inr (.inr (.inr q)))))
    · exact absurd (.inr q) h
  · intro q
    rcases q with q | q | q | q | q | q | q
    · exact .inr (.inl q)
    · exact .inr (.inr (.inl q))
    · exact .inr (.inr (.inr (.inl q)))
    · exact .inr (.inr (.inr (.inr (.inl q))))
    · exact .inr (.inr (.inr (.inr (.inr (.inl q)))))
    · exact .inr (.inr (.inr (.inr (.inr (.inr (.inl q))))))
    · exact .inr (.inr (.inr (.inr (.inr (.inr (.inr (.inl q)))))))
theorem w7_free {z : Str} (h : z ∈ words7) : 32 ∉ z.cps.toList := by
  simp only [words7, List.mem_cons, List.not_mem_nil, or_false] at h
  rcases h with rfl | rfl | rfl | rfl | rfl | rfl | rfl <;> decide +kernel
theorem cd_w9 {z : Str} (h : z = "const" ∨ z = "delay") : z ∈ words9 := by rcases h with rfl | rfl <;> decide +kernel
/-- two words, the first one const or delay -/
theorem isP_two {x p q : Str} (h : Txt.split x " " = [p, q]) (hp : p = "const" ∨ p = "delay") : (readP x).isSome = (readV q).isSome := by
  have hx : 32 ∈ x.cps.toList := by
    by_cases hx : 32 ∈ x.cps.toList
    · exact hx
    · rw [(no_blank hx).1] at h
      cases h
  obtain ⟨a, b, _, _, e, e2⟩ := one_blank hx
  rw [h] at e
  injection e with e3 e4
  obtain ⟨rfl, _⟩ := split_one e4.symm
  unfold readP
  rw [e2, if_pos (by rw [← e3]; exact cd_w9 hp), if_pos (by rw [← e3]; exact hp)]
  cases readV q <;> rfl
/-- another number of words, the first one const or delay -/
theorem isP_other {x p : Str} {r : List Str} (h : Txt.split x " " = p :: r) (hr : r.length ≠ 1) (hp : p = "const" ∨ p = "delay") : (readP x).isSome = false := by
  by_cases hx : 32 ∈ x.cps.toList
  · obtain ⟨a, b, _, _, e, e2⟩ := one_blank hx
    rw [h] at e
    injection e with e3 e4
    have hb : 32 ∈ b.cps.toList := by
      by_cases hb : 32 ∈ b.cps.toList
      · exact hb
      · rw [(no_blank hb).1] at e4
        rw [e4] at hr
        exact absurd rfl hr
    unfold readP
    rw [e2, if_pos (by rw [← e3]; exact cd_w9 hp), if_pos (by rw [← e3]; exact hp)]
    show (Option.map _ (readV b)).isSome = false
    rw [readV_blank hb]
    rfl
  · obtain ⟨e, e2⟩ := no_blank hx
    rw [h] at e
    injection e with e3 e4
    unfold readP
    rw [e2, if_pos (by rw [← e3]; exact cd_w9 hp), if_pos (by rw [← e3]; exact hp)]
    show (Option.map _ (readV Str.empty)).isSome = false
    rw [readV_empty]
    rfl
/-- the first word neither -/
theorem isP_word {x p : Str} {r : List Str} (h : Txt.split x " " = p :: r) (hp : ¬ (p = "const" ∨ p = "delay")) : (readP x).isSome = decide (x ∈ words7) := by
  by_cases hx : 32 ∈ x.cps.toList
  · obtain ⟨a, b, _, _, e, e2⟩ := one_blank hx
    rw [h] at e
    injection e with e3 e4
    rw [decide_eq_false (fun z => w7_free z hx)]
    unfold readP
    rw [e2]
    by_cases hw : a ∈ words9
    · rw [if_pos hw, if_neg (by rw [← e3]; exact hp), if_neg]
      · rfl
      · show ¬ ((" " : Str)).length = 0
        decide +kernel
    · rw [if_neg hw]
      rfl
  · obtain ⟨e, e2⟩ := no_blank hx
    rw [h] at e
    injection e with e3 e4
    subst e3
    unfold readP
    rw [e2]
    by_cases hw : p ∈ words9
    · rw [if_pos hw, if_neg hp, if_pos (by rfl), decide_eq_true ((w9_w7 hp).mp hw)]
      rfl
    · rw [if_neg hw, decide_eq_false fun z => hw ((w9_w7 hp).mpr z)]
      rfl
/-- what parse makes of a text is written as that text -/
theorem txt_back {x z : Str} {c : Option Int} (h : readP x = some (z, c)) : txt z c = x := by
  have hs : ∀ (z : Str) (n : Int), txt z (some n) = z ++ " " ++ Str.ofString (toString n) := fun z n => by
    have e : Str.empty ++ z = z := TL.ext_tl (by rw [TL.tl_append]; rfl)
    show Str.empty ++ z ++ " " ++ Str.ofString (toString n) = _
    rw [e]
  by_cases hx : 32 ∈ x.cps.toList
  · obtain ⟨a, b, ex, _, _, e2⟩ := one_blank hx
    unfold readP at h
    rw [e2] at h
    split at h
    case isFalse => cases h
    split at h
    · have h : (Option.map (fun c => (a, some c)) (readV b)) = some (z, c) := h
      cases hb : readV b with
      | none => rw [hb] at h; cases h
      | some n =>
        rw [hb] at h
        cases h
        rw [hs, readV_canon hb]
        exact ex.symm
    · split at h
      · rename_i q
        exact absurd q (by show ¬ ((" " : Str)).length = 0; decide +kernel)
      · cases h
  · obtain ⟨_, e2⟩ := no_blank hx
    unfold readP at h
    rw [e2] at h
    split at h
    case isFalse => cases h
    split at h
    · have h : (Option.map (fun c => (x, some c)) (readV Str.empty)) = some (z, c) := h
      rw [readV_empty] at h
      cases h
    · split at h
      · cases h
        rfl
      · cases h
end K2
namespace K2
open PySem L2 Own StX ClX NdefX
abbrev sNum : Stmt := top 19
abbrev sIsP : Stmt := top 20
/-- a text of at most n signs, all below 128 -/
def Tx (n : Nat) (x : Str) : Prop := x.length ≤ n ∧ ∀ c ∈ x.cps.toList, c < 128
theorem Tx.mono {m n : Nat} {x : Str} (h : Tx m x) (e : m ≤ n) : Tx n x := ⟨Nat.le_trans h.1 e, h.2⟩
def spNum : Sp := fun vs H Q _ => ∃ x : Str, vs = [.str x] ∧ x.length ≤ sizeLine ∧ (∀ c ∈ x.cps.toList, c < 128) ∧ ∀ H', Same H H' → Q (.bl (readV x).isSome) H'
theorem chr_ok (c : Nat) (h : c < 128) : PyData.canLay0 (.str ⟨#[c]⟩) = true := by
  revert c
  decide +kernel
theorem dp_chrs {K : PySem.W.Frag} {H : Hp} : ∀ l : List Nat, DpAll K H (l.map fun c => V.str ⟨#[c]⟩) (l.map fun c => PyData.str ⟨#[c]⟩)
  | [] => .nil
  | x :: r => .cons (.str _) (dp_chrs r)
theorem chrs_shaped (l : List Nat) (h : ∀ c ∈ l, c < 128) : SeqAt.shaped (.list (l.map fun c => PyData.str ⟨#[c]⟩)) = true := by
  unfold SeqAt.shaped
  have h1 : ∀ l : List Nat, (∀ c ∈ l, c < 128) → PyData.canLayAll0 (l.map fun c => PyData.str ⟨#[c]⟩) = true ∧ PyData.depthAll (l.map fun c => PyData.str ⟨#[c]⟩) ≤ 1 := by
    intro l
    induction l with
    | nil => exact fun _ => ⟨rfl, Nat.zero_le _⟩
    | cons c r ih =>
      intro h
      obtain ⟨a, b⟩ := ih fun d hd => h d (List.mem_cons_of_mem _ hd)
      refine ⟨?_, ?_⟩
      · simp only [List.map_cons, PyData.canLayAll0, a, chr_ok c (h c List.mem_cons_self), Bool.and_self]
      · simp only [List.map_cons, PyData.depthAll, PyData.depth]
        omega
  obtain ⟨a, b⟩ := h1 l h
  rw [Bool.and_eq_true]
  refine ⟨by simpa only [PyData.canLay0] using a, decide_eq_true ?_⟩
  simp only [PyData.depth]
  omega
section
variable {P : Program} {w : World} {K : PySem.W.Frag} {mg : Str → Option Value} {base : Heap} {C : Addr}
theorem scNu : FnScope ["word", "sign"] ["word"] (defScope sNum) := ⟨rfl, rfl, rfl, by decide +kernel, rfl, by decide +kernel, by decide +kernel⟩
theorem ok_num {f : Addr} {fd : FuncData} (F : Fun K "_law_is_number" "_law_is_number" sNum f fd) (T : Txt K w mg C) : FnOk P w K mg base CX0 1 f fd ["word"] spNum := by
  refine F.ok scNu (fun vs H Q E h => ?_) (fun cdv A outer s H vs Q E hr h => ?_)
  · obtain ⟨x, rfl, _⟩ := h
    rfl
  obtain ⟨x, rfl, hx, hc, k⟩ := h
  have hu := hr.units
  refine ⟨_, pss_cons (ps_if (PW.pt (pw_or (pt_not (pt_chain op_le op_le pe_int (pe_callB call_len_str (by rfl) T.zl PySem.boot_len (pa_cons (pv 0) pa_nil)) pe_int))
      (pw_or1 (pt_cmpR (op_neD hu) (pe_lc (own := [("sign", 1)]) (g := gName 1) rfl scNu.nd (pi_str (pv 0)) (blkOk_by (own := [("sign", 1)]) (N := ["word", "sign"]) (sc := defScope sNum) (by decide +kernel)) (fun _ _ _ _ _ => pg_name (i := 1) scNu.nd rfl (Or.inl rfl)) (fun _ _ _ _ _ => pts_one (pt_cmpR op_notIn_sign (pv 1) pe_str (by rfl)))
        (fun _ _ _ _ _ => pv 1)) (pe_lst pa_nil) (nomark _))))) (pss_one (ps_ret pe_bl)) pss_nil)
    (pss_one (ps_ret (pe_or (pe_cmpR op_eq (pv 0) pe_str (nomark _)) (pe_one (pe_and (pe_cmpR op_ne (pe_ix ix_str (pv 0) pe_int (fun _ _ => rfl)) pe_str (nomark _)) (pe_one (pe_cmpR op_lt (pe_callTy call_int_str (by rfl) T.zi (by decide +kernel) (pa_cons (pv 0) pa_nil)) (pe_op op_pow pe_int pe_int) (nomark _)))))))), ?_⟩
  have hsz : x.cps.toList.length = x.length := by simp [Str.length]
  have back : ∀ H', Same H H' → readV x = none → Q (.bl false) H' := fun H' s' e => by
    have z := k H' s'
    rw [e] at z
    exact z
  refine ⟨_, rfl, _, rfl, hx, _, _, rfl, rfl, _, rfl, ?_⟩
  by_cases h1 : (1 : Int) ≤ (x.length : Int)
  case neg =>
    rw [decide_eq_false h1]
    refine iteF ⟨_, rfl, iteT (back H (Same.refl H) ?_)⟩
    unfold readV dig10
    rw [if_neg]
    rw [decide_eq_false (show ¬ 1 ≤ x.length by omega)]
    simp
  rw [decide_eq_true h1]
  refine iteT ⟨_, _, rfl, rfl, _, rfl, ?_⟩
  by_cases h2 : (x.length : Int) ≤ 10
  case neg =>
    rw [decide_eq_false h2]
    refine iteT (back H (Same.refl H) ?_)
    unfold readV dig10
    rw [if_neg]
    rw [decide_eq_false (show ¬ x.length ≤ 10 by omega)]
    simp
  rw [decide_eq_true h2]
  refine iteF ⟨_, rfl, x, rfl, fun D hD => ?_⟩
  refine lc_it walk_str (fun i H' => Same H H' ∧ H' D = some (.lst (((x.cps.toList.take i).filter fun c => !isD c).map fun c => V.str ⟨#[c]⟩))) ⟨upd_new hD, upd_same⟩ (fun _ _ _ _ => True.intro) ?_ ?_
  · rintro i v H1 H2 hi ⟨s1, a1⟩ ⟨rfl, c, hcc, rfl⟩
    have hc' : x.cps.toList[i]? = some c := by simpa using hcc
    refine ⟨rfl, _, rfl, c, _, rfl, rfl, _, rfl, ?_⟩
    rw [isD_in]
    have tk : x.cps.toList.take (i + 1) = x.cps.toList.take i ++ [c] := by rw [List.take_succ, hc']; rfl
    cases hd : isD c with
    | true =>
      refine iteF ⟨s1, ?_⟩
      rw [a1, tk, List.filter_append]
      simp [hd]
    | false =>
      have hl : (((x.cps.toList.take i).filter fun c => !isD c).map fun c => V.str ⟨#[c]⟩).length < sizeLine := by
        rw [List.length_map]
        refine Nat.lt_of_le_of_lt (List.length_filter_le _ _) ?_
        rw [List.length_take]
        have : i < x.length := hi
        exact Nat.lt_of_le_of_lt (Nat.min_le_left _ _) (by have := small1000 (n := i) (by omega); exact this)
      refine iteT ⟨_, rfl, _, a1, hl, same_put s1 hD, ?_⟩
      rw [upd_same, tk, List.filter_append]
      simp [hd]
  rintro H1 ⟨s1, a1⟩
  rw [List.take_of_length_le (show x.cps.toList.length ≤ x.cps.size by simp)] at a1
  refine ⟨small1 (by show 0 ≤ 8; decide), fun p hp => ?_⟩
  have hDp := upd_new (o := HO.lst []) hp _ _ a1
  refine ⟨.list ((x.cps.toList.filter fun c => !isD c).map fun c => PyData.str ⟨#[c]⟩), .list [], .lst (.of hDp) (dp_chrs _), .lst (.of upd_same) .nil, chrs_shaped _ (fun c h => hc c (List.mem_filter.mp h).1), by decide +kernel, _, rfl, ?_⟩
  have s2 := s1.trans (upd_new (o := HO.lst []) hp)
  generalize hH2 : upd H1 p (.lst []) = H2 at *
  cases hf : x.cps.toList.filter fun c => !isD c with
  | cons c r =>
    refine iteT (back H2 s2 ?_)
    have hm : c ∈ x.cps.toList.filter fun c => !isD c := by rw [hf]; exact List.mem_cons_self
    rw [List.mem_filter] at hm
    unfold readV dig10
    rw [if_neg]
    intro z
    rw [Bool.and_eq_true] at z
    have q := List.all_eq_true.mp z.2 c hm.1
    have q2 := hm.2
    rw [q] at q2
    cases q2
  | nil =>
    have h3 : x.cps.toList.all isD = true := List.all_eq_true.mpr fun c hm => by
      cases hd : isD c with
      | true => rfl
      | false =>
        have z : c ∈ x.cps.toList.filter fun c => !isD c := List.mem_filter.mpr ⟨hm, by rw [hd]; rfl⟩
        rw [hf] at z
        cases z
    have hd : dig10 x = true := by
      unfold dig10
      rw [h3, decide_eq_true (show 1 ≤ x.length by omega), decide_eq_true (show x.length ≤ 10 by omega)]
      rfl
    have hne : x.cps.toList ≠ [] := fun e => by rw [e] at hsz; simp at hsz; omega
    obtain ⟨c0, r0, he⟩ := List.exists_cons_of_ne_nil hne
    have hA : NumText.AllDigits x.cps.toList := fun c hc => by
      have z := List.all_eq_true.mp h3 c hc
      unfold isD at z
      simp only [Bool.and_eq_true, decide_eq_true_eq] at z
      exact z
    have hI : intText? x = some ((NumText.digitsVal x.cps.toList : Nat) : Int) := intText_digits hA hne (by omega)
    have hh : x.cps.toList.headD 0 = c0 := by rw [he]; rfl
    have e32 : (2 : Int) ^ (32 : Int).toNat = 4294967296 := by decide
    refine iteF ⟨_, rfl, rfl, _, rfl, ?_⟩
    by_cases h5 : x = "0"
    · rw [decide_eq_true (show V.str x = V.str "0" from congrArg V.str h5)]
      refine iteT ?_
      have z := k H2 s2
      rw [h5, show (readV ("0" : Str)).isSome = true by decide +kernel] at z
      exact z
    rw [decide_eq_false (show ¬ V.str x = V.str "0" from fun e => h5 (V.str.inj e))]
    refine iteF ⟨_, rfl, x, 0, c0, rfl, rfl, hx, (by rw [he]; exact atI_nat (j := 0) rfl), rfl, _, rfl, ?_⟩
    by_cases h4 : (⟨#[c0]⟩ : Str) = "0"
    · rw [decide_eq_true (show V.str (⟨#[c0]⟩ : Str) = V.str "0" from congrArg V.str h4)]
      refine iteF (back H2 s2 ?_)
      unfold readV
      rw [if_pos hd, if_pos ⟨by rw [hh]; exact h4, h5⟩]
    · rw [decide_eq_false (show ¬ V.str (⟨#[c0]⟩ : Str) = V.str "0" from fun e => h4 (V.str.inj e))]
      have hv : readV x = if ((NumText.digitsVal x.cps.toList : Nat) : Int) < 4294967296 then some ((NumText.digitsVal x.cps.toList : Nat) : Int) else none := by
        unfold readV
        rw [if_pos hd, if_neg fun z => h4 (by rw [hh] at z; exact z.1)]
      refine iteT ⟨_, rfl, x, _, rfl, hI, by omega, _, _, rfl, rfl, ⟨by decide, by decide, by decide⟩, _, _, rfl, rfl, ?_⟩
      rw [e32]
      have z := k H2 s2
      rw [hv] at z
      show Q (V.bl (decide (((NumText.digitsVal x.cps.toList : Nat) : Int) < 4294967296))) H2
      by_cases h6 : ((NumText.digitsVal x.cps.toList : Nat) : Int) < 4294967296
      · rw [if_pos h6] at z
        rw [decide_eq_true h6]
        exact z
      · rw [if_neg h6] at z
        rw [decide_eq_false h6]
        exact z
end
end K2
namespace K2
open PySem L2 Own StX ClX NdefX
def spIsP : Sp := fun vs H Q _ => ∃ (n : Nat) (x : Str), vs = [.str x] ∧ Tx n x ∧ n ≤ 10000 ∧ ∀ H', Same H H' → Q (.bl (readP x).isSome) H'
theorem inV_strs (z : Str) (l : List Str) : inV (.str z) (l.map V.str) = decide (z ∈ l) := by
  induction l with
  | nil => rfl
  | cons a r ih =>
    show (eqV (.str a) (.str z) || inV (.str z) (r.map V.str)) = _
    rw [ih]
    have e : eqV (.str a) (.str z) = decide (z = a) := by
      show (a == z) = _
      by_cases h : z = a
      · rw [decide_eq_true h, h]
        exact beq_self_eq_true _
      · rw [decide_eq_false h]
        exact beq_eq_false_iff_ne.mpr fun q => h q.symm
    rw [e]
    by_cases h : z = a
    · simp [h]
    · simp [h]
theorem two_parts {x p q : Str} (h : Txt.split x " " = [p, q]) : x = p ++ " " ++ q := by
  have hx : 32 ∈ x.cps.toList := by
    by_cases hx : 32 ∈ x.cps.toList
    · exact hx
    · rw [(no_blank hx).1] at h
      cases h
  obtain ⟨a, b, ex, _, e, _⟩ := one_blank hx
  rw [h] at e
  injection e with e3 e4
  obtain ⟨rfl, _⟩ := split_one e4.symm
  rw [e3]
  exact ex
section
variable {P : Program} {w : World} {K : PySem.W.Frag} {mg : Str → Option Value} {base : Heap} {C : Addr}
theorem scIP : FnScope ["text", "words"] ["text"] (defScope sIsP) := ⟨rfl, rfl, rfl, by decide +kernel, rfl, by decide +kernel, by decide +kernel⟩
theorem ok_isp {f fN : Addr} {fd fdN : FuncData} (F : Fun K "_law_is_primitive" "_law_is_primitive" sIsP f fd) (T : Txt K w mg C) (GN : FnOk P w K mg base CX0 1 fN fdN ["word"] spNum) (mN : mg "_law_is_number" = some (.ref fN)) (kN : PySem.W.keepIn K (.ref fN) = true) (bN : Binds K fdN ["word"] []) : FnOk P w K mg base CX0 2 f fd ["text"] spIsP := by
  refine F.ok scIP (fun vs H Q E h => ?_) (fun cdv A outer s H vs Q E hr h => ?_)
  · obtain ⟨n, x, rfl, _⟩ := h
    rfl
  obtain ⟨n, x, rfl, hx, hn, k⟩ := h
  refine ⟨_, pss_cons (ps_set (i := 1) scIP.nd rfl (.inl rfl) (pe_split (pv 0) pe_str))
    (pss_cons (ps_if (pt_cmpR op_in_seq (pe_ix ix_list (pv 1) pe_int (fun _ _ => rfl)) (pe_lst (pa_cons pe_str (pa_cons pe_str pa_nil))) (by rfl)) (pss_one (ps_ret (pe_and (pe_cmpR op_eq (pe_callB call_len_seq (by rfl) T.zl PySem.boot_len (pa_cons (pv 1) pa_nil)) pe_int (nomark _)) (pe_one (pe_call GN hr rfl mN kN bN .nil pass0 (pa_cons (pe_ix ix_list (pv 1) pe_int (fun _ _ => rfl)) pa_nil)))))) pss_nil)
    (pss_one (ps_ret (pe_cmpR op_in_seq (pv 0) (pe_lst (pa_cons pe_str (pa_cons pe_str (pa_cons pe_str (pa_cons pe_str (pa_cons pe_str (pa_cons pe_str (pa_cons pe_str pa_nil)))))))) (by rfl))))), ?_⟩
  have at0 : ∀ (a : V) (r : List V), atI (a :: r) 0 = some a := fun a r => at_of (j := 0) rfl rfl
  have at1 : ∀ (a b : V), atI [a, b] 1 = some b := fun a b => at_of (j := 1) rfl rfl
  have hx1 := hx.1
  have hxs : x.length + 2 ≤ sizeLine := by rw [sizeLine_eq]; omega
  refine ⟨_, rfl, ⟨_, rfl⟩, _, _, rfl, rfl, by decide +kernel, hxs, fun ws hws => ?_⟩
  have sw := upd_new (o := HO.lst ((Txt.split x " ").map V.str)) hws
  obtain ⟨p, r, hsp⟩ := split_ne x
  rw [hsp] at sw ⊢
  refine ⟨_, rfl, ws, _, _, _, rfl, rfl, .of upd_same, at0 _ _, small1 (by show 2 ≤ 8; decide), fun l hl => ⟨l, _, rfl, .inl (.of upd_same), rfl, rfl, _, rfl, ?_⟩⟩
  have sW := sw.trans (upd_new (o := HO.lst [V.str "const", V.str "delay"]) hl)
  have hw2 := upd_new (o := HO.lst [V.str "const", V.str "delay"]) hl _ _ (upd_same (H := H) (a := ws) (o := HO.lst ((p :: r).map V.str)))
  show if inV (.str p) ((["const", "delay"] : List Str).map V.str) = true then _ else _
  rw [inV_strs]
  by_cases hp : p ∈ (["const", "delay"] : List Str)
  · rw [decide_eq_true hp]
    have hpcd : p = "const" ∨ p = "delay" := by simpa using hp
    refine iteT ⟨_, rfl, ws, _, rfl, .inl (.of hw2), rfl, _, rfl, ?_⟩
    by_cases hr1 : r.length = 1
    · obtain ⟨q, rfl⟩ : ∃ q, r = [q] := by
        match r, hr1 with
        | [q], _ => exact ⟨q, rfl⟩
      rw [decide_eq_true (show V.int (((([p, q] : List Str).map V.str).length : Nat) : Int) = V.int 2 from rfl)]
      have hq := two_parts hsp
      have hql : q.length ≤ x.length := by rw [hq, sl, sl]; omega
      have hqc : ∀ c ∈ q.cps.toList, c < 128 := fun c hc => hx.2 c (by
        rw [hq]
        have e : (p ++ " " ++ q).cps.toList = TL.tl (p ++ " ") ++ TL.tl q := TL.tl_append _ _
        rw [e]
        exact List.mem_append_right _ hc)
      refine iteT ⟨_, rfl, ws, _, _, _, rfl, rfl, .of hw2, at1 _ _, q, rfl, by omega, hqc, fun H' s' => ?_⟩
      rw [← isP_two hsp hpcd]
      exact k _ (sW.trans s')
    · rw [decide_eq_false (fun e => hr1 (by
        have z : ((((p :: r).map V.str).length : Nat) : Int) = 2 := V.int.inj e
        rw [List.length_map, List.length_cons] at z
        omega))]
      refine iteF ?_
      rw [← isP_other hsp hr1 hpcd]
      exact k _ sW
  · rw [decide_eq_false hp]
    have hpcd : ¬ (p = "const" ∨ p = "delay") := by simpa using hp
    refine iteF ⟨_, rfl, small1 (by show 7 ≤ 8; decide), fun l2 hl2 => ⟨l2, _, rfl, .inl (.of upd_same), rfl, rfl, ?_⟩⟩
    have e : inV (.str x) ((["add", "sub", "mul", "less", "equal", "pick", "divide"] : List Str).map V.str) = (readP x).isSome := by rw [inV_strs, isP_word hsp hpcd]; rfl
    have z := k _ (sW.trans (upd_new (o := HO.lst ((["add", "sub", "mul", "less", "equal", "pick", "divide"] : List Str).map V.str)) hl2))
    rw [← e] at z
    exact z
end
end K2
namespace K2
open PySem L2 Own StX ClX NdefX
abbrev sChanged : Stmt := top 22
/-- all but what stands at a is as it was -/
def SameX (a : Addr) (H H' : Hp) : Prop := ∀ b u, b ≠ a → H b = some u → H' b = some u
theorem SameX.trans {a : Addr} {H1 H2 H3 : Hp} (h : SameX a H1 H2) (k : SameX a H2 H3) : SameX a H1 H3 := fun b u n e => k b u n (h b u n e)
theorem SameX.of {a : Addr} {H1 H2 : Hp} (h : Same H1 H2) : SameX a H1 H2 := fun b u _ e => h b u e
theorem SameX.put {a : Addr} {H : Hp} {o : HO} : SameX a H (upd H a o) := fun b u n e => by rw [upd_ne n]; exact e
theorem SameX.new {a p : Addr} {H : Hp} {o : HO} (h : H p = none) : SameX a H (upd H p o) := .of (upd_new h)
theorem SameX.same {a : Addr} {H0 H1 H2 : Hp} (s : Same H0 H1) (h : H0 a = none) (k : SameX a H1 H2) : Same H0 H2 := fun b u e => k b u (fun z => by rw [z, h] at e; cases e) (s b u e)
theorem tx_cat {m n k : Nat} {x y : Str} (h : Tx m x) (g : Tx n y) (e : m + n ≤ k) : Tx k (x ++ y) := by
  refine ⟨?_, fun c hc => ?_⟩
  · have := h.1
    have := g.1
    rw [sl]
    omega
  · have e : (x ++ y).cps.toList = TL.tl x ++ TL.tl y := TL.tl_append _ _
    rw [e] at hc
    rcases List.mem_append.mp hc with z | z
    · exact h.2 c z
    · exact g.2 c z
theorem tx_cut {n : Nat} {x : Str} (h : Tx n x) (lo hi : Option Int) : Tx n (cutS x lo hi) := by
  have hsz : x.cps.toList.length = x.length := by simp [Str.length]
  refine ⟨?_, fun c hc => ?_⟩
  · have e : (cutS x lo hi).length = (((x.cps.toList.drop (HT.sIx x.length 0 lo)).take (HT.sIx x.length x.length hi - HT.sIx x.length 0 lo))).length := by rw [TL.len_tl]; rfl
    rw [e, List.length_take, List.length_drop]
    have := h.1
    omega
  · have hc : c ∈ (x.cps.toList.drop (HT.sIx x.length 0 lo)).take (HT.sIx x.length x.length hi - HT.sIx x.length 0 lo) := hc
    exact h.2 c (List.mem_of_mem_drop (List.mem_of_mem_take hc))
theorem cat_fits {m n : Nat} {x y : Str} (h : Tx m x) (g : Tx n y) (e : m + n ≤ 16000000) : x.length + y.length ≤ sizeLine := by
  have := h.1
  have := g.1
  rw [sizeLine_eq]
  omega
theorem tx_chr {c : Nat} (h : c < 128) : Tx 1 ⟨#[c]⟩ := ⟨Nat.le_refl _, fun d hd => by
  have hd : d ∈ [c] := hd
  rw [List.mem_singleton] at hd
  rw [hd]
  exact h⟩
def oddSigns : Str := " 0159-+.,aceldstn\nADE_~"
theorem odd_ok : ∀ c ∈ oddSigns.cps.toList, c < 128 := by decide +kernel
def oddWords : List Str := ["const", "delay", "add", "0", "00", "4294967295", "4294967296", "-1", "", "sub", "5", "name"]
theorem odd_words : ∀ x ∈ oddWords, Tx 10 x := by
  have h : ∀ x ∈ oddWords, x.length ≤ 10 ∧ (x.cps.toList.all fun c => decide (c < 128)) = true := by decide +kernel
  exact fun x hx => ⟨(h x hx).1, fun c hc => of_decide_eq_true (List.all_eq_true.mp (h x hx).2 c hc)⟩
theorem tx_sp : Tx 1 (" " : Str) := ⟨by decide +kernel, by decide +kernel⟩
theorem tx_nl : Tx 1 ("\n" : Str) := ⟨by decide +kernel, by decide +kernel⟩
def spPickS : Sp := fun vs H Q _ => ∃ (a : Addr) (y : Str) (d s : Int), vs = [.ref a, .str y] ∧ H a = some (.lst [.int d, .int s]) ∧ 0 ≤ d ∧ 0 < y.length ∧ y.length ≤ 1000 ∧
  ∀ c d' s', c ∈ y.cps.toList → 0 ≤ d' → Q (.str ⟨#[c]⟩) (upd H a (.lst [.int d', .int s']))
def spChanged : Sp := fun vs H Q _ => ∃ (a : Addr) (x : Str) (n : Nat) (d s : Int), vs = [.ref a, .str x] ∧ H a = some (.lst [.int d, .int s]) ∧ 0 ≤ d ∧ Tx n x ∧ n ≤ 2000 ∧
  ∀ y d' s' H', Tx (2 * n + 12) y → 0 ≤ d' → H' a = some (.lst [.int d', .int s']) → SameX a H H' → Q (.str y) H'
section
variable {P : Program} {w : World} {K : PySem.W.Frag} {mg : Str → Option Value} {base : Heap} {C : Addr}
theorem ok_picks {f fT : Addr} {fd fdT : FuncData} (F : Fun K "_law_pick" "_law_pick" sPickL f fd) (GT : FnOk P w K mg base CX0 1 fT fdT ["feed", "many"] spTake) (mT : mg "_law_take" = some (.ref fT)) (kT : PySem.W.keepIn K (.ref fT) = true) (bT : Binds K fdT ["feed", "many"] []) (mlen : mg "len" = none) :
    FnOk P w K mg base CX0 2 f fd ["feed", "some"] spPickS := by
  refine F.ok scPk (fun vs H Q E h => ?_) (fun cdv A outer s H vs Q E hr h => ?_)
  · obtain ⟨a, y, d, s, rfl, _⟩ := h
    rfl
  obtain ⟨a, y, d, s, rfl, ha, h0, hy0, hy1, k⟩ := h
  have hsz : y.cps.toList.length = y.length := by simp [Str.length]
  refine ⟨_, pss_one (ps_ret (pe_ix ix_str (pv 1) (pe_call GT hr rfl mT kT bT .nil pass0 (pa_cons (pv 0) (pa_cons (pe_callB call_len_str (by rfl) mlen PySem.boot_len (pa_cons (pv 1) pa_nil)) pa_nil))) (fun _ _ => rfl))), ?_⟩
  have hyl : y.length ≤ sizeLine := Nat.le_of_lt (small1000 (by omega))
  refine ⟨_, rfl, _, rfl, _, rfl, y, rfl, hyl, a, d, s, y.length, rfl, ha, h0, by omega, by omega, fun r d' s' hd hr0 hr1 => ?_⟩
  obtain ⟨j, rfl⟩ : ∃ j : Nat, r = j := ⟨r.toNat, by omega⟩
  have hj : j < y.cps.toList.length := by omega
  exact ⟨y, _, y.cps.toList[j]'hj, rfl, rfl, hyl, atI_nat (j := j) (List.getElem?_eq_getElem hj), k _ d' s' (List.getElem_mem _) hd⟩
abbrev nC : List Str := ["feed", "text", "at", "sign", "left", "right", "some", "words", "word"]
theorem scCh : FnScope nC ["feed", "text"] (defScope sChanged) := ⟨rfl, rfl, rfl, by decide +kernel, rfl, by decide +kernel, by decide +kernel⟩
theorem ok_changed {f fT fP : Addr} {fd fdT fdP : FuncData} (F : Fun K "_law_changed" "_law_changed" sChanged f fd) (GT : FnOk P w K mg base CX0 1 fT fdT ["feed", "many"] spTake) (mT : mg "_law_take" = some (.ref fT)) (kT : PySem.W.keepIn K (.ref fT) = true) (bT : Binds K fdT ["feed", "many"] []) (mlen : mg "len" = none)
    (GL : FnOk P w K mg base CX0 2 fP fdP ["feed", "some"] spPickL) (GS : FnOk P w K mg base CX0 2 fP fdP ["feed", "some"] spPickS) (mP : mg "_law_pick" = some (.ref fP)) (kP : PySem.W.keepIn K (.ref fP) = true) (bP : Binds K fdP ["feed", "some"] []) :
    FnOk P w K mg base CX0 3 f fd ["feed", "text"] spChanged := by
  refine F.ok scCh (fun vs H Q E h => ?_) (fun cdv A outer s H vs Q E hr h => ?_)
  · obtain ⟨a, x, n, d, s, rfl, _⟩ := h
    rfl
  obtain ⟨a, x, n, d, s, rfl, ha, h0, hx, hn, k⟩ := h
  have hr1 := hr.mono (show 1 ≤ 2 by decide)
  refine ⟨_, pss_cons (ps_set (i := 2) scCh.nd rfl (.inl rfl) (pe_call GT hr1 rfl mT kT bT .nil pass0 (pa_cons (pv 0) (pa_cons (pe_op op_add (pe_callB call_len_str (by rfl) mlen PySem.boot_len (pa_cons (pv 1) pa_nil)) pe_int) pa_nil))))
    (pss_cons (ps_set (i := 3) scCh.nd rfl (.inl rfl) (pe_call GS hr rfl mP kP bP .nil pass0 (pa_cons (pv 0) (pa_cons pe_str pa_nil))))
    (pss_cons (ps_par (i := 4) (j := 5) rfl scCh.nd rfl rfl (by decide) rfl rfl (pa_cons (pe_slice sl_str (pv 1) po_none (po_some (pv 2))) (pa_cons (pe_slice sl_str (pv 1) (po_some (pe_op op_add (pv 2) pe_int)) po_none) pa_nil)) (by rfl))
    (pss_cons (ps_set (i := 6) scCh.nd rfl (.inl rfl) (pe_lst (pa_cons (pe_op op_add_str (pe_op op_add_str (pv 4) (pv 3)) (pe_slice sl_str (pv 1) (po_some (pv 2)) po_none)) (pa_cons (pe_op op_add_str (pv 4) (pv 5)) (pa_cons (pe_op op_add_str (pe_op op_add_str (pv 4) (pv 3)) (pv 5)) (pa_cons (pe_op op_add_str (pe_op op_add_str (pv 1) pe_str) (pv 1)) pa_nil))))))
    (pss_cons (ps_set (i := 7) scCh.nd rfl (.inl rfl) (pe_lst (pa_cons pe_str (pa_cons pe_str (pa_cons pe_str (pa_cons pe_str (pa_cons pe_str (pa_cons pe_str (pa_cons pe_str (pa_cons pe_str (pa_cons pe_str (pa_cons pe_str (pa_cons pe_str (pa_cons pe_str pa_nil))))))))))))))
    (pss_cons (ps_set (i := 8) scCh.nd rfl (.inl rfl) (pe_call GL hr rfl mP kP bP .nil pass0 (pa_cons (pv 0) (pa_cons (pv 7) pa_nil))))
    (pss_one (ps_ret (pe_call GL hr rfl mP kP bP .nil pass0 (pa_cons (pv 0) (pa_cons (pe_op op_cat (pv 6) (pe_lst (pa_cons (pe_op op_add_str (pe_op op_add_str (pv 1) pe_str) (pv 8)) (pa_cons (pe_op op_add_str (pe_op op_add_str (pv 8) pe_str) (pv 1)) pa_nil)))) pa_nil)))))))))), ?_⟩
  have hxl : x.length ≤ sizeLine := Nat.le_of_lt (by rw [sizeLine_eq]; have := hx.1; omega)
  refine ⟨_, rfl, _, rfl, _, rfl, hxl, _, _, rfl, rfl, a, d, s, _, rfl, ha, h0, by omega, by have := hx.1; omega, fun t d1 s1 hd1 ht0 ht1 => ?_⟩
  refine ⟨_, rfl, a, oddSigns, d1, s1, rfl, upd_same, hd1, by decide +kernel, by decide +kernel, fun c d2 s2 hc hd2 => ?_⟩
  rw [upd_upd]
  have tS := tx_chr (odd_ok c hc)
  obtain ⟨lf, hlf⟩ : ∃ lf, lf = cutS x none (some t) := ⟨_, rfl⟩
  obtain ⟨rg, hrg⟩ : ∃ rg, rg = cutS x (some (t + 1)) none := ⟨_, rfl⟩
  obtain ⟨rt, hrt⟩ : ∃ rt, rt = cutS x (some t) none := ⟨_, rfl⟩
  have tL : Tx n lf := by rw [hlf]; exact tx_cut hx _ _
  have tR : Tx n rg := by rw [hrg]; exact tx_cut hx _ _
  have tT : Tx n rt := by rw [hrt]; exact tx_cut hx _ _
  have n2 : n + n ≤ 16000000 := by omega
  have n1 : n + 1 ≤ 16000000 := by omega
  have tLS : Tx (n + 1) (lf ++ ⟨#[c]⟩) := tx_cat tL tS (Nat.le_refl _)
  have tXN : Tx (n + 1) (x ++ "\n") := tx_cat hx tx_nl (Nat.le_refl _)
  refine ⟨_, rfl, _, rfl, t, rfl, x, rfl, hxl, ?_⟩
  rw [← hlf]
  refine ⟨_, rfl, _, rfl, _, _, rfl, rfl, t + 1, rfl, x, rfl, hxl, ?_⟩
  rw [← hrg]
  refine ⟨_, _, rfl, ?_⟩
  refine ⟨_, rfl, _, rfl, _, _, rfl, rfl, cat_fits tL tS n1, _, rfl, _, rfl, t, rfl, x, rfl, hxl, ?_⟩
  rw [← hrt]
  refine ⟨_, _, rfl, rfl, cat_fits tLS tT (by omega), _, rfl, _, rfl, _, _, rfl, rfl, cat_fits tL tR n2, _, rfl, _, rfl, _, _, rfl, rfl, cat_fits tL tS n1, _, rfl, _, _, rfl, rfl, cat_fits tLS tR (by omega), ?_⟩
  refine ⟨_, rfl, _, _, rfl, rfl, cat_fits hx tx_nl n1, _, rfl, _, _, rfl, rfl, cat_fits tXN hx (by omega), small1 (by show 4 ≤ 8; decide), fun l1 hl1 => ?_⟩
  refine ⟨Nat.le_of_lt (small1000 (by show 12 ≤ 1000; decide)), fun l2 hl2 => ?_⟩
  obtain ⟨H2, hH2⟩ : ∃ H2, H2 = upd (upd (upd H a (.lst [.int d2, .int s2])) l1 (.lst [.str (lf ++ ⟨#[c]⟩ ++ rt), .str (lf ++ rg), .str (lf ++ ⟨#[c]⟩ ++ rg), .str (x ++ "\n" ++ x)])) l2 (.lst (oddWords.map V.str)) := ⟨_, rfl⟩
  have hal1 : a ≠ l1 := ne_of_none upd_same hl1
  have hal2 : a ≠ l2 := ne_of_none (by rw [upd_ne hal1]; exact upd_same) hl2
  have h12 : l1 ≠ l2 := ne_of_none upd_same hl2
  have ga : H2 a = some (.lst [.int d2, .int s2]) := by rw [hH2, upd_ne hal2, upd_ne hal1]; exact upd_same
  have g1 : H2 l1 = some (.lst [.str (lf ++ ⟨#[c]⟩ ++ rt), .str (lf ++ rg), .str (lf ++ ⟨#[c]⟩ ++ rg), .str (x ++ "\n" ++ x)]) := by rw [hH2, upd_ne h12]; exact upd_same
  have g2 : H2 l2 = some (.lst (oddWords.map V.str)) := by rw [hH2]; exact upd_same
  have S2 : SameX a H H2 := by rw [hH2]; exact SameX.put.trans ((SameX.new hl1).trans (SameX.new hl2))
  show gName 7 _ _ (upd (upd (upd H a (.lst [.int d2, .int s2])) l1 (.lst [.str (lf ++ ⟨#[c]⟩ ++ rt), .str (lf ++ rg), .str (lf ++ ⟨#[c]⟩ ++ rg), .str (x ++ "\n" ++ x)])) l2 (.lst (oddWords.map V.str))) _
  rw [← hH2]
  clear hH2
  refine ⟨_, rfl, _, rfl, a, l2, d2, s2, oddWords.map V.str, rfl, ga, g2, hal2, hd2, by decide +kernel, by decide +kernel, fun wv d3 s3 hw hd3 => ?_⟩
  obtain ⟨wd, hwd, rfl⟩ := List.mem_map.mp hw
  have tW := odd_words wd hwd
  have tX1 : Tx (n + 1) (x ++ " ") := tx_cat hx tx_sp (Nat.le_refl _)
  have tW1 : Tx 11 (wd ++ " ") := tx_cat tW tx_sp (by decide)
  refine ⟨_, rfl, _, rfl, _, rfl, _, _, rfl, rfl, cat_fits hx tx_sp n1, _, rfl, _, _, rfl, rfl, cat_fits tX1 tW (by omega), ?_⟩
  refine ⟨_, rfl, _, _, rfl, rfl, cat_fits tW tx_sp (by decide), _, rfl, _, _, rfl, rfl, cat_fits tW1 hx (by omega), small1 (by show 2 ≤ 8; decide), fun l3 hl3 => ?_⟩
  have ga3 : (upd H2 a (.lst [.int d3, .int s3])) a = some (.lst [.int d3, .int s3]) := upd_same
  have ha3 : a ≠ l3 := ne_of_none ga3 hl3
  have g13 : (upd H2 a (.lst [.int d3, .int s3])) l1 = some (.lst [.str (lf ++ ⟨#[c]⟩ ++ rt), .str (lf ++ rg), .str (lf ++ ⟨#[c]⟩ ++ rg), .str (x ++ "\n" ++ x)]) := by rw [upd_ne (Ne.symm hal1)]; exact g1
  have h13 : l1 ≠ l3 := ne_of_none g13 hl3
  refine ⟨l1, l3, _, _, rfl, rfl, (by rw [upd_ne h13]; exact g13), upd_same, small1 (by show 6 ≤ 8; decide), fun l4 hl4 => ?_⟩
  have ha4 : a ≠ l4 := ne_of_none (by rw [upd_ne ha3]; exact ga3) hl4
  refine ⟨a, l4, d3, s3, _, rfl, (by rw [upd_ne ha4, upd_ne ha3]; exact ga3), upd_same, ha4, hd3, by show 0 < 6; decide, by show 6 ≤ 1000; decide, fun yv d4 s4 hy hd4 => ?_⟩
  obtain ⟨y, rfl, hyt⟩ : ∃ y, yv = .str y ∧ Tx (2 * n + 12) y := by
    simp only [List.cons_append, List.nil_append, List.mem_cons, List.not_mem_nil, or_false] at hy
    rcases hy with rfl | rfl | rfl | rfl | rfl | rfl
    · exact ⟨_, rfl, tx_cat tLS tT (by omega)⟩
    · exact ⟨_, rfl, tx_cat tL tR (by omega)⟩
    · exact ⟨_, rfl, tx_cat tLS tR (by omega)⟩
    · exact ⟨_, rfl, tx_cat tXN hx (by omega)⟩
    · exact ⟨_, rfl, tx_cat tX1 tW (by omega)⟩
    · exact ⟨_, rfl, tx_cat tW1 hx (by omega)⟩
  exact k y d4 s4 _ hyt hd4 upd_same (S2.trans (SameX.put.trans ((SameX.new hl3).trans ((SameX.new hl4).trans SameX.put))))
end
end K2
namespace K2
open PySem L2 Own StX ClX NdefX
/-! ### a text, many times -/
def repT (x : Str) (n : Int) : Str := ⟨(List.replicate n.toNat x.cps).foldl (· ++ ·) #[]⟩
theorem rep_tl (a : Array Nat) : ∀ (n : Nat) (acc : Array Nat), ((List.replicate n a).foldl (· ++ ·) acc).toList = acc.toList ++ (List.replicate n a.toList).flatten
  | 0, acc => by simp
  | n + 1, acc => by
    rw [List.replicate_succ, List.foldl_cons, rep_tl a n, List.replicate_succ, List.flatten_cons, Array.toList_append, List.append_assoc]
theorem repT_tl (x : Str) (n : Int) : (repT x n).cps.toList = (List.replicate n.toNat x.cps.toList).flatten := by
  unfold repT
  rw [rep_tl]
  rfl
theorem repT_len (x : Str) (n : Int) : (repT x n).length = n.toNat * x.length := by
  have e : (repT x n).length = (repT x n).cps.toList.length := by simp [Str.length]
  rw [e, repT_tl]
  simp [Str.length]
theorem tx_rep {m : Nat} {x : Str} (h : Tx m x) (n : Int) : Tx (n.toNat * m) (repT x n) := by
  refine ⟨by rw [repT_len]; exact Nat.mul_le_mul_left _ h.1, fun c hc => ?_⟩
  rw [repT_tl] at hc
  obtain ⟨l, hl, hcl⟩ := List.mem_flatten.mp hc
  rw [(List.mem_replicate.mp hl).2] at hcl
  exact h.2 c hcl
def rMulS : R2 := fun x y H Q => ∃ (i : Str) (n : Int), x = .str i ∧ y = .int n ∧ 2 ≤ n ∧ n ≤ 10000 ∧ 0 < i.length ∧ i.length ≤ 100 ∧ Q (.str (repT i n)) H
theorem op_mul_str {X : Cx} : OpR X (binaryOp .Mult) rMulS := by
  intro pins s σ H x y v u Q I rx ry h
  obtain ⟨i, n, rfl, rfl, h2, h3, h4, h5, q⟩ := h
  obtain ⟨t, rfl⟩ := rx
  obtain ⟨t', rfl⟩ := ry
  have hn1 : ¬ n < 1 := by omega
  have hc : (n == 1 || i.length == 0) = false := by
    rw [Bool.or_eq_false_iff]
    exact ⟨beq_eq_false_iff_ne.mpr (by omega), beq_eq_false_iff_ne.mpr (by omega)⟩
  have hz : (repT i n).length ≤ sizeLine := by
    rw [repT_len, sizeLine_eq]
    have : n.toNat ≤ 10000 := by omega
    have := Nat.mul_le_mul this h5
    omega
  have hm : i.length * n.toNat ≤ 1000000 := by
    have : n.toNat ≤ 10000 := by omega
    exact Nat.mul_le_mul h5 this
  refine PySem.P.mul_str (by rw [Bool.or_eq_false_iff]; exact ⟨decide_eq_false (by omega), decide_eq_false (by omega)⟩) (fun _ _ => ?_) (fun _ _ => ?_) ?_
  · have e : ((2 : Int) ^ 63 - 1) = 9223372036854775807 := by decide
    have e2 : (i.length : Int) * n = ((i.length * n.toNat : Nat) : Int) := by
      rw [Int.natCast_mul, Int.toNat_of_nonneg (by omega)]
    have h6 : (i.length : Int) ≤ (2 ^ 63 - 1) / n := Int.le_ediv_of_mul_le (by omega) (by rw [e2, e]; omega)
    omega
  · show decide (i.length * n.toNat > sizeLine) = false
    exact decide_eq_false (by rw [sizeLine_eq]; omega)
  · rw [if_neg hn1, if_neg (by rw [hc]; exact Bool.false_ne_true)]
    exact ⟨hz, ⟨.str (repT i n), H, I.tok _, ⟨_, rfl⟩, q⟩⟩
end K2
namespace K2
open PySem L2 Own StX ClX NdefX
abbrev sLaw : Stmt := top 23
def reprV : V → Str
  | .str a => reprText a
  | .int i => Str.ofString (toString i)
  | _ => Str.empty
def rReprV : List V → Hp → VK → Prop := fun xs H Q => ∃ v, xs = [v] ∧ ((∃ a, v = .str a ∧ (reprText a).length ≤ sizeLine) ∨ ∃ i : Int, v = .int i ∧ i.natAbs.log2 < 1920) ∧ Q (.str (reprV v)) H
theorem call_reprV {X : Cx} : CallR X (.builtin "repr") rReprV := by
  intro pins s σ H xs us Q I r h
  obtain ⟨v, rfl, h, q⟩ := h
  obtain ⟨u, rfl, ru⟩ := vals1 r
  rcases h with ⟨a, rfl, hz⟩ | ⟨i, rfl, hz⟩
  · obtain ⟨t, rfl⟩ := ru
    exact PySem.P.repr_of_str ⟨.str _, H, I.tok _, ⟨_, rfl⟩, q⟩ hz
  · obtain ⟨t, rfl⟩ := ru
    exact PySem.P.repr_of_int hz ⟨.str _, H, I.tok _, ⟨_, rfl⟩, q⟩
def dueV (x : Str) : V := if (readP x).isSome = true then .str x else .int 0
theorem told_due (x : Str) : told x = dueV x := by
  unfold told dueV
  cases e : readP x with
  | none => rfl
  | some q =>
    obtain ⟨z, c⟩ := q
    show V.str (txt z c) = V.str x
    rw [txt_back e]
theorem due_repr {n : Nat} {x : Str} (h : Tx n x) (hn : n ≤ 10000) : (∃ a, dueV x = .str a ∧ (reprText a).length ≤ sizeLine) ∨ ∃ i : Int, dueV x = .int i ∧ i.natAbs.log2 < 1920 := by
  unfold dueV
  split
  · refine .inl ⟨x, rfl, ?_⟩
    have z := StrLaws.reprText_len x (fun c hc => Nat.lt_trans (h.2 c hc) (by decide))
    have := h.1
    rw [sizeLine_eq]
    omega
  · exact .inr ⟨0, rfl, by decide⟩
/-! ### the law's texts -/
theorem tx_by {n : Nat} {x : Str} (h : (decide (x.length ≤ n) && x.cps.toList.all fun c => decide (c < 128)) = true) : Tx n x := by
  rw [Bool.and_eq_true] at h
  exact ⟨of_decide_eq_true h.1, fun c hc => of_decide_eq_true (List.all_eq_true.mp h.2 c hc)⟩
theorem tx_num {n : Int} (h0 : 0 ≤ n) (h1 : n < 10000000000) : Tx 10 (Str.ofString (toString n)) := by
  refine ⟨PyProof.Rows.toString_length_le h0 (by decide) (by omega), fun c hc => ?_⟩
  have e := TL.tl_num n.toNat
  rw [show ((n.toNat : Nat) : Int) = n by omega] at e
  have hc : c ∈ TL.tl (Str.ofString (toString n)) := hc
  rw [e] at hc
  have z := TL.numL_digits _ c hc
  omega
def AllTx (n : Nat) (l : List V) : Prop := ∀ v ∈ l, ∃ x, v = V.str x ∧ Tx n x
theorem AllTx.cons {n : Nat} {x : Str} {l : List V} (h : Tx n x) (k : AllTx n l) : AllTx n (.str x :: l) := fun v hv => by
  rcases List.mem_cons.mp hv with rfl | z
  · exact ⟨x, rfl, h⟩
  · exact k v z
theorem AllTx.nil {n : Nat} : AllTx n [] := fun _ h => nomatch h
theorem AllTx.mono {m n : Nat} {l : List V} (h : AllTx m l) (e : m ≤ n) : AllTx n l := fun v hv => let ⟨x, ex, hx⟩ := h v hv; ⟨x, ex, hx.mono e⟩
theorem AllTx.app {n : Nat} {l r : List V} (h : AllTx n l) (k : AllTx n r) : AllTx n (l ++ r) := fun v hv => by
  rcases List.mem_append.mp hv with z | z
  · exact h v z
  · exact k v z
theorem allTx_by {n : Nat} : ∀ l : List Str, (l.all fun x => decide (x.length ≤ n) && x.cps.toList.all fun c => decide (c < 128)) = true → AllTx n (l.map V.str)
  | [], _ => AllTx.nil
  | x :: r, h => by
    rw [List.all_cons, Bool.and_eq_true] at h
    exact .cons (tx_by h.1) (allTx_by r h.2)
theorem cut9 {xs : List V} (h : 9 ≤ xs.length) : cutV xs none (some 9) = xs.take 9 := by
  unfold cutV
  have e1 : HT.sIx xs.length 0 none = 0 := rfl
  have e2 : HT.sIx xs.length xs.length (some 9) = 9 := (HT.sIx_nat xs.length xs.length 9).trans (Nat.min_eq_left h)
  rw [e1, e2]
  rfl
def bnd : Nat → Nat
  | 0 => 20
  | m + 1 => 2 * bnd m + 12
theorem bnd_le {j : Nat} (h : j < 4) : bnd j ≤ 244 := by
  rcases (show j = 0 ∨ j = 1 ∨ j = 2 ∨ j = 3 by omega) with rfl | rfl | rfl | rfl <;> decide
theorem ne_str {a b : Str} (h : a = b) {A B : Prop} (q : B) : if (!decide (V.str a = V.str b)) = true then A else B := by
  rw [decide_eq_true (congrArg V.str h)]
  exact iteF q
def spLaw (K : PySem.W.Frag) : Sp := fun vs H Q _ => ∃ (a : Addr) (ns : List Int), vs = [.ref a] ∧ SqL K H a (ns.map V.int) ∧ ns.length ≤ 63 ∧ ∀ H', Q (.bl true) H'
abbrev nL : List Str := ["script", "k", "feed", "number", "texts", "turn", "text", "again", "due"]
section
variable {P : Program} {w : World} {K : PySem.W.Frag} {mg : Str → Option Value} {base : Heap} {C CI : Addr}
theorem scL : FnScope nL ["script"] (defScope sLaw) := ⟨rfl, rfl, rfl, by decide +kernel, rfl, by decide +kernel, by decide +kernel⟩
theorem ok_law {f fF fT fP fD fI fC : Addr} {fd fdF fdT fdP fdD fdI fdC : FuncData} (F : Fun K "law" "law" sLaw f fd) (T : Txt K w mg C)
    (GF : FnOk P w K mg base CX0 1 fF fdF ["script", "k"] (spFeed K)) (mF : mg "_law_feed" = some (.ref fF)) (kF : PySem.W.keepIn K (.ref fF) = true) (bF : Binds K fdF ["script", "k"] [])
    (GT : FnOk P w K mg base CX0 1 fT fdT ["feed", "many"] spTake) (mT : mg "_law_take" = some (.ref fT)) (kT : PySem.W.keepIn K (.ref fT) = true) (bT : Binds K fdT ["feed", "many"] [])
    (GL : FnOk P w K mg base CX0 2 fP fdP ["feed", "some"] spPickL) (mP : mg "_law_pick" = some (.ref fP)) (kP : PySem.W.keepIn K (.ref fP) = true) (bP : Binds K fdP ["feed", "some"] [])
    (GD : FnOk P w K mg base CX0 5 fD fdD ["text"] spTold) (mD : mg "_law_told" = some (.ref fD)) (kD : PySem.W.keepIn K (.ref fD) = true) (bD : Binds K fdD ["text"] [])
    (GI : FnOk P w K mg base CX0 2 fI fdI ["text"] spIsP) (mI : mg "_law_is_primitive" = some (.ref fI)) (kI : PySem.W.keepIn K (.ref fI) = true) (bI : Binds K fdI ["text"] [])
    (GC : FnOk P w K mg base CX0 3 fC fdC ["feed", "text"] spChanged) (mC : mg "_law_changed" = some (.ref fC)) (kC : PySem.W.keepIn K (.ref fC) = true) (bC : Binds K fdC ["feed", "text"] [])
    (mlen : mg "len" = none) (mmax : mg "max" = none) (mmin : mg "min" = none) (mrange : mg "range" = none) (mrepr : mg "repr" = none) : FnG P w K mg base CX0 6 f fd ["script"] (spLaw K) := by
  refine fun_okG F scL (fun vs H Q E h => ?_) (fun cdv A outer s H vs Q E hg hr h => ?_)
  · obtain ⟨a, ns, rfl, _⟩ := h
    rfl
  obtain ⟨a, ns, rfl, hS, hlen, k⟩ := h
  have hr1 := hr.mono (show 1 ≤ 5 by decide)
  have hr2 := hr.mono (show 2 ≤ 5 by decide)
  have hr3 := hr.mono (show 3 ≤ 5 by decide)
  refine ⟨_, pss_cons (ps_for PassesOwn.never rfl (pi_range1 rfl mrange (pa_cons (pe_callB (call_max2 rfl) (by rfl) mmax (by decide +kernel) (pa_cons pe_int (pa_cons (pe_callB (call_min2 rfl) (by rfl) mmin (by decide +kernel) (pa_cons pe_int (pa_cons (pe_callB call_len_seq (by rfl) mlen PySem.boot_len (pa_cons (pv 0) pa_nil)) pa_nil))) pa_nil))) pa_nil)) (pg_name (i := 1) scL.nd rfl (.inl rfl))
      (pss_cons (ps_set (i := 2) scL.nd rfl (.inl rfl) (pe_call GF hr1 rfl mF kF bF .nil pass0 (pa_cons (pv 0) (pa_cons (pv 1) pa_nil))))
      (pss_cons (ps_set (i := 3) scL.nd rfl (.inl rfl) (pe_call GL hr2 rfl mP kP bP .nil pass0 (pa_cons (pv 2) (pa_cons (pe_lst (pa_cons pe_int (pa_cons pe_int (pa_cons pe_int (pa_cons pe_int (pa_cons pe_int (pa_cons (pe_call GT hr1 rfl mT kT bT .nil pass0 (pa_cons (pv 2) (pa_cons (pe_op op_pow pe_int pe_int) pa_nil))) pa_nil))))))) pa_nil))))
      (pss_cons (ps_set (i := 4) scL.nd rfl (.inl rfl) (pe_lst (pa_cons (pe_op op_add_str pe_str (pe_callTy call_str_int (by rfl) T.zs (by decide +kernel) (pa_cons (pv 3) pa_nil))) (pa_cons (pe_op op_add_str pe_str (pe_callTy call_str_int (by rfl) T.zs (by decide +kernel) (pa_cons (pv 3) pa_nil))) (pa_cons pe_str (pa_cons pe_str (pa_cons pe_str (pa_cons pe_str (pa_cons pe_str pa_nil)))))))))
      (pss_cons (ps_set (i := 4) scL.nd rfl (.inl rfl) (pe_op op_cat (pv 4) (pe_lst (pa_cons pe_str (pa_cons pe_str (pa_cons pe_str (pa_cons pe_str (pa_cons pe_str (pa_cons pe_str (pa_cons pe_str (pa_cons pe_str (pa_cons pe_str pa_nil))))))))))))
      (pss_cons (ps_set (i := 4) scL.nd rfl (.inl rfl) (pe_op op_cat (pv 4) (pe_lst (pa_cons (pe_op op_add_str pe_str (pe_op op_mul_str pe_str pe_int)) (pa_cons (pe_op op_mul_str pe_str pe_int) (pa_cons pe_str (pa_cons pe_str pa_nil)))))))
      (pss_cons (ps_set (i := 4) scL.nd rfl (.inl rfl) (pe_op op_cat (pv 4) (pe_lst (pa_cons pe_str (pa_cons pe_str (pa_cons pe_str (pa_cons pe_str pa_nil)))))))
      (pss_cons (ps_for PassesOwn.never rfl (pi_range1 rfl mrange (pa_cons pe_int pa_nil)) (pg_name (i := 5) scL.nd rfl (.inl rfl))
        (pss_cons (ps_set (i := 6) scL.nd rfl (.inl rfl) (pe_call GL hr2 rfl mP kP bP .nil pass0 (pa_cons (pv 2) (pa_cons (pe_slice sl_list (pv 4) po_none (po_some pe_int)) pa_nil))))
        (pss_cons (ps_for PassesOwn.never rfl (pi_range1 rfl mrange (pa_cons (pe_call GL hr2 rfl mP kP bP .nil pass0 (pa_cons (pv 2) (pa_cons (pe_lst (pa_cons pe_int (pa_cons pe_int (pa_cons pe_int (pa_cons pe_int pa_nil))))) pa_nil))) pa_nil)) (pg_name (i := 7) scL.nd rfl (.inl rfl))
          (pss_one (ps_set (i := 6) scL.nd rfl (.inl rfl) (pe_call GC hr3 rfl mC kC bC .nil pass0 (pa_cons (pv 2) (pa_cons (pv 6) pa_nil))))))
        (pss_one (ps_expr (pe_bm PySem.F.plainAttrs_list PySem.F.slot_list_append PySem.F.type_list_append mt_append (pv 4) (pa_cons (pv 6) pa_nil)))))))
      (pss_one (ps_for PassesOwn.never rfl (pi_list (pv 4)) (pg_name (i := 6) scL.nd rfl (.inl rfl))
        (pss_cons (ps_set (i := 8) scL.nd rfl (.inl rfl) (pe_ifExp (pt_val (pe_call GI hr2 rfl mI kI bI .nil pass0 (pa_cons (pv 6) pa_nil))) (pv 6) pe_int))
        (pss_one (ps_if (pt_cmpR op_ne (pe_callB (id := "repr") call_reprV (by rfl) mrepr (by decide +kernel) (pa_cons (pe_call GD hr rfl mD kD bD .nil pass0 (pa_cons (pv 6) pa_nil)) pa_nil)) (pe_callB (id := "repr") call_reprV (by rfl) mrepr (by decide +kernel) (pa_cons (pv 8) pa_nil)) (nomark _)) (pss_one (ps_ret pe_bl)) pss_nil)))))))))))))
    (pss_one (ps_ret pe_bl)), ?_⟩
  have cp33 : CPow 2 33 := ⟨by decide, by decide, by decide⟩
  have e33 : (2 : Int) ^ (33 : Int).toNat = 8589934592 := by decide
  refine ⟨_, rfl, a, _, rfl, .inl hS, _, _, rfl, _, _, rfl, _, rfl, by split <;> split <;> omega, by split <;> split <;> omega, ?_⟩
  refine for_range (lo := 0) (fun i σ H1 => ∃ v1 v2 v3 v4 v5 v6 v7 v8, σ = [some (.ref a), v1, v2, v3, v4, v5, v6, v7, v8] ∧ Same H H1) ⟨_, _, _, _, _, _, _, _, rfl, Same.refl _⟩ ?turn1 ?done1
  case done1 =>
    rintro σ H1 ⟨v1, v2, v3, v4, v5, v6, v7, v8, rfl, s1⟩
    exact k H1
  rintro i σ H1 hi ⟨v1, v2, v3, v4, v5, v6, v7, v8, rfl, s1⟩
  have hi6 : i < 7 := by
    have hi := hi
    rw [List.length_map] at hi
    split at hi <;> split at hi <;> omega
  refine ⟨_, rfl, _, rfl, a, ns, _, rfl, s1.seq hS, by omega, by omega, fun p d0 st0 hd0 hp => ?_⟩
  have hHp : H p = none := s1.free hp
  refine ⟨_, rfl, _, rfl, _, _, rfl, rfl, cp33, p, d0, st0, _, rfl, upd_same, hd0, by rw [e33]; decide, by rw [e33]; decide, fun r d1 st1 hd1 h10 h11 => ⟨small1 (by show 6 ≤ 8; decide), fun q0 hq0 => ?_⟩⟩
  rw [e33] at h11
  rw [upd_upd] at hq0 ⊢
  have hpq0 : p ≠ q0 := ne_of_none upd_same hq0
  refine ⟨p, q0, d1, st1, _, rfl, (by rw [upd_ne hpq0]; exact upd_same), upd_same, hpq0, hd1, by show 0 < 6; decide, by show 6 ≤ 1000; decide, fun nv d2 st2 hnv hd2 => ?_⟩
  obtain ⟨n, rfl, hn0, hn1⟩ : ∃ n, nv = V.int n ∧ 0 ≤ n ∧ n < 10000000000 := by
    simp only [List.mem_cons, List.not_mem_nil, or_false] at hnv
    rcases hnv with rfl | rfl | rfl | rfl | rfl | rfl
    · exact ⟨_, rfl, by decide, by decide⟩
    · exact ⟨_, rfl, by decide, by decide⟩
    · exact ⟨_, rfl, by decide, by decide⟩
    · exact ⟨_, rfl, by decide, by decide⟩
    · exact ⟨_, rfl, by decide, by decide⟩
    · exact ⟨_, rfl, h10, by omega⟩
  have tN := tx_num hn0 hn1
  have ln : n.natAbs.log2 < 1920 := by
    have h2 : n.natAbs < 2 ^ 34 := by omega
    exact Nat.lt_trans (PySem.Flt.log2_lt_of (by decide) h2) (by decide)
  obtain ⟨H2, hH2⟩ : ∃ H2, H2 = upd (upd (upd H1 p (.lst [.int d1, .int st1])) q0 (.lst [.int 0, .int 7, .int 4294967295, .int 4294967296, .int 5000000000, .int r])) p (.lst [.int d2, .int st2]) := ⟨_, rfl⟩
  have hp2 : H2 p = some (.lst [.int d2, .int st2]) := by rw [hH2]; exact upd_same
  have S2 : Same H H2 := by
    rw [hH2]
    exact same_put ((same_put s1 hHp).trans (upd_new hq0)) hHp
  rw [← hH2]
  clear hH2
  -- the texts
  have tc1 : Tx 6 (("const " : Str)) := tx_by (by decide +kernel)
  have td1 : Tx 6 (("delay " : Str)) := tx_by (by decide +kernel)
  refine ⟨_, rfl, n, rfl, ln, _, _, rfl, rfl, cat_fits tc1 tN (by decide), _, rfl, n, rfl, ln, _, _, rfl, rfl, cat_fits td1 tN (by decide), small1 (by show 7 ≤ 8; decide), fun q1 hq1 => ?_⟩
  have A1 : AllTx 20 [.str (("const " : Str) ++ Str.ofString (toString n)), .str (("delay " : Str) ++ Str.ofString (toString n)), .str "add", .str "sub", .str "mul", .str "less", .str "equal"] :=
    .cons (tx_cat tc1 tN (by decide)) (.cons (tx_cat td1 tN (by decide)) (allTx_by (["add", "sub", "mul", "less", "equal"] : List Str) (by decide +kernel)))
  show gName 4 (.ref q1) _ (upd H2 q1 (.lst [V.str (("const " : Str) ++ Str.ofString (toString n)), .str (("delay " : Str) ++ Str.ofString (toString n)), .str "add", .str "sub", .str "mul", .str "less", .str "equal"])) _
  have n1 : [V.str (("const " : Str) ++ Str.ofString (toString n)), .str (("delay " : Str) ++ Str.ofString (toString n)), .str "add", .str "sub", .str "mul", .str "less", .str "equal"].length = 7 := rfl
  generalize [V.str (("const " : Str) ++ Str.ofString (toString n)), .str (("delay " : Str) ++ Str.ofString (toString n)), .str "add", .str "sub", .str "mul", .str "less", .str "equal"] = L1 at A1 n1 ⊢
  have S3 := S2.trans (upd_new (o := HO.lst L1) hq1)
  have hp3 := upd_new (o := HO.lst L1) hq1 _ _ hp2
  have g3 : (upd H2 q1 (.lst L1)) q1 = some (.lst L1) := upd_same
  generalize upd H2 q1 (.lst L1) = H3 at S3 hp3 g3 ⊢
  -- the second part
  refine ⟨_, rfl, Nat.le_of_lt (small1000 (by show 9 ≤ 1000; decide)), fun l2 hl2 => ⟨q1, l2, _, _, rfl, rfl, (upd_new hl2) _ _ g3, upd_same, Nat.le_of_lt (small1000 (by rw [n1]; show 16 ≤ 1000; decide)), fun q2 hq2 => ?_⟩⟩
  have A2 := A1.app (allTx_by (n := 20) (["pick", "divide", "const", "delay", "", " ", "name", "const 1e3", "end"] : List Str) (by decide +kernel))
  have n2 : (L1 ++ (["pick", "divide", "const", "delay", "", " ", "name", "const 1e3", "end"] : List Str).map V.str).length = 16 := by rw [List.length_append, n1]; rfl
  have S4 := S3.trans ((upd_new (o := HO.lst ((["pick", "divide", "const", "delay", "", " ", "name", "const 1e3", "end"] : List Str).map V.str)) hl2).trans (upd_new (o := HO.lst (L1 ++ (["pick", "divide", "const", "delay", "", " ", "name", "const 1e3", "end"] : List Str).map V.str)) hq2))
  have hp4 := ((upd_new (o := HO.lst ((["pick", "divide", "const", "delay", "", " ", "name", "const 1e3", "end"] : List Str).map V.str)) hl2).trans (upd_new (o := HO.lst (L1 ++ (["pick", "divide", "const", "delay", "", " ", "name", "const 1e3", "end"] : List Str).map V.str)) hq2)) _ _ hp3
  show gName 4 (.ref q2) _ (upd (upd H3 l2 (.lst ((["pick", "divide", "const", "delay", "", " ", "name", "const 1e3", "end"] : List Str).map V.str))) q2 (.lst (L1 ++ (["pick", "divide", "const", "delay", "", " ", "name", "const 1e3", "end"] : List Str).map V.str))) _
  generalize L1 ++ (["pick", "divide", "const", "delay", "", " ", "name", "const 1e3", "end"] : List Str).map V.str = L2 at A2 n2 S4 hp4 ⊢
  have g4 : (upd (upd H3 l2 (.lst ((["pick", "divide", "const", "delay", "", " ", "name", "const 1e3", "end"] : List Str).map V.str))) q2 (.lst L2)) q2 = some (.lst L2) := upd_same
  generalize (upd (upd H3 l2 (.lst ((["pick", "divide", "const", "delay", "", " ", "name", "const 1e3", "end"] : List Str).map V.str))) q2 (.lst L2)) = H4 at S4 hp4 g4 ⊢
  -- the third part
  have t7 : Tx 7 (("const 1" : Str)) := tx_by (by decide +kernel)
  have t0 : Tx 1 (("0" : Str)) := tx_by (by decide +kernel)
  have t3 : Tx 3 (("add" : Str)) := tx_by (by decide +kernel)
  have tb := tx_rep t0 5000
  have tb2 := tx_rep t3 999
  refine ⟨_, rfl, ("0" : Str), 5000, rfl, rfl, by decide, by decide, by decide +kernel, by decide +kernel, _, _, rfl, rfl, cat_fits t7 tb (by decide), ("add" : Str), 999, rfl, rfl, by decide, by decide, by decide +kernel, by decide +kernel, small1 (by show 4 ≤ 8; decide), fun l3 hl3 => ?_⟩
  have A3 : AllTx 6000 [V.str (("const 1" : Str) ++ repT "0" 5000), .str (repT "add" 999), .str "const 0123456789", .str "delay 0000000001"] :=
    .cons (tx_cat t7 tb (by decide)) (.cons (tb2.mono (by decide)) (allTx_by (["const 0123456789", "delay 0000000001"] : List Str) (by decide +kernel)))
  have n3 : [V.str (("const 1" : Str) ++ repT "0" 5000), .str (repT "add" 999), .str "const 0123456789", .str "delay 0000000001"].length = 4 := rfl
  refine ⟨q2, l3, L2, [V.str (("const 1" : Str) ++ repT "0" 5000), .str (repT "add" 999), .str "const 0123456789", .str "delay 0000000001"], rfl, rfl, (upd_new hl3) _ _ g4, upd_same, Nat.le_of_lt (small1000 (by rw [n2]; show 20 ≤ 1000; decide)), fun q3 hq3 => ?_⟩
  show gName 4 (.ref q3) _ (upd (upd H4 l3 (.lst [V.str (("const 1" : Str) ++ repT "0" 5000), .str (repT "add" 999), .str "const 0123456789", .str "delay 0000000001"])) q3 (.lst (L2 ++ [V.str (("const 1" : Str) ++ repT "0" 5000), .str (repT "add" 999), .str "const 0123456789", .str "delay 0000000001"]))) _
  have hq3 : (upd H4 l3 (.lst [V.str (("const 1" : Str) ++ repT "0" 5000), .str (repT "add" 999), .str "const 0123456789", .str "delay 0000000001"])) q3 = none := hq3
  have hl3 : H4 l3 = none := hl3
  generalize [V.str (("const 1" : Str) ++ repT "0" 5000), .str (repT "add" 999), .str "const 0123456789", .str "delay 0000000001"] = M3 at A3 hq3 n3 ⊢
  have B3 : AllTx 20 ((L2 ++ M3).take 9) := by
    rw [List.take_append_of_le_length (by rw [n2]; decide)]
    exact fun v hv => A2 v (List.mem_of_mem_take hv)
  have A4 := (A2.mono (show 20 ≤ 6000 by decide)).app A3
  have n4 : (L2 ++ M3).length = 20 := by rw [List.length_append, n2, n3]
  have s5 := (upd_new (o := HO.lst M3) hl3).trans (upd_new (o := HO.lst (L2 ++ M3)) hq3)
  have S5 := S4.trans s5
  have hp5 := s5 _ _ hp4
  generalize L2 ++ M3 = L4 at A4 B3 n4 S5 hp5 s5 ⊢
  have g5 : (upd (upd H4 l3 (.lst M3)) q3 (.lst L4)) q3 = some (.lst L4) := upd_same
  generalize upd (upd H4 l3 (.lst M3)) q3 (.lst L4) = H5 at S5 hp5 g5 ⊢
  -- the fourth part
  refine ⟨_, rfl, small1 (by show 4 ≤ 8; decide), fun l4 hl4 => ⟨q3, l4, _, _, rfl, rfl, (upd_new hl4) _ _ g5, upd_same, Nat.le_of_lt (small1000 (by rw [n4]; show 24 ≤ 1000; decide)), fun q hq => ?_⟩⟩
  show gName 4 (.ref q) _ (upd (upd H5 l4 (.lst ((["const 0000000000", "delay 4294967295", "const 04294967295", "const 9999999999"] : List Str).map V.str))) q (.lst (L4 ++ (["const 0000000000", "delay 4294967295", "const 04294967295", "const 9999999999"] : List Str).map V.str))) _
  have A5 := A4.app (allTx_by (n := 6000) (["const 0000000000", "delay 4294967295", "const 04294967295", "const 9999999999"] : List Str) (by decide +kernel))
  have n5 : (L4 ++ (["const 0000000000", "delay 4294967295", "const 04294967295", "const 9999999999"] : List Str).map V.str).length = 24 := by rw [List.length_append, n4]; rfl
  have B5 : AllTx 20 ((L4 ++ (["const 0000000000", "delay 4294967295", "const 04294967295", "const 9999999999"] : List Str).map V.str).take 9) := by
    rw [List.take_append_of_le_length (by rw [n4]; decide)]
    exact B3
  have hq : (upd H5 l4 (.lst ((["const 0000000000", "delay 4294967295", "const 04294967295", "const 9999999999"] : List Str).map V.str))) q = none := hq
  have hl4 : H5 l4 = none := hl4
  generalize (["const 0000000000", "delay 4294967295", "const 04294967295", "const 9999999999"] : List Str).map V.str = M4 at A5 B5 n5 hq ⊢
  have s6 := (upd_new (o := HO.lst M4) hl4).trans (upd_new (o := HO.lst (L4 ++ M4)) hq)
  have S6 := S5.trans s6
  have hp6 := s6 _ _ hp5
  have hpq : p ≠ q := ne_of_none ((upd_new (o := HO.lst M4) hl4) _ _ hp5) hq
  have hHq : H q = none := (S5.trans (upd_new (o := HO.lst M4) hl4)).free hq
  generalize L4 ++ M4 = TS at A5 B5 n5 S6 hp6 s6 ⊢
  have g6 : (upd (upd H5 l4 (.lst M4)) q (.lst TS)) q = some (.lst TS) := upd_same
  generalize upd (upd H5 l4 (.lst M4)) q (.lst TS) = H6 at S6 hp6 g6 ⊢
  clear s6 s5 hq hl4 g5 hp5 S5 hq3 hl3 g4 hp4 S4 g3 hp3 S3
  refine ⟨24, rfl, by decide, by decide, ?_⟩
  refine for_range (lo := 0) (n := 24) (fun m σ H7 => ∃ d s X w5 w6 w7, σ = [some (.ref a), some (.int (0 + (i : Int))), some (.ref p), some (.int n), some (.ref q), w5, w6, w7, v8] ∧ 0 ≤ d ∧ H7 p = some (.lst [.int d, .int s]) ∧ H7 q = some (.lst (TS ++ X)) ∧ X.length = m ∧ AllTx 6000 X ∧ Same H H7)
    ⟨d2, st2, [], _, _, _, rfl, hd2, hp6, by rw [List.append_nil]; exact g6, rfl, AllTx.nil, S6⟩ ?turn2 ?done2
  case turn2 =>
    rintro m σ H7 hm ⟨d, st, X, w5, w6, w7, rfl, hd, hp7, hq7, hX, aX, s7⟩
    have hm24 : m < 24 := hm
    refine ⟨_, rfl, _, rfl, 9, rfl, q, TS ++ X, rfl, .of hq7, fun l hl => ?_⟩
    have hpl : p ≠ l := ne_of_none hp7 hl
    have hHl : H l = none := s7.free hl
    rw [cut9 (by rw [List.length_append, n5]; omega), List.take_append_of_le_length (by rw [n5]; decide)]
    refine ⟨p, l, d, st, _, rfl, upd_new hl _ _ hp7, upd_same, hpl, hd, by rw [List.length_take, n5]; decide, by rw [List.length_take, n5]; decide, fun tv d3 st3 htv hd3 => ?_⟩
    obtain ⟨x, rfl, tx⟩ := B5 tv htv
    have hp8 : (upd (upd H7 l (.lst (TS.take 9))) p (.lst [.int d3, .int st3])) p = some (.lst [.int d3, .int st3]) := upd_same
    have hql : q ≠ l := ne_of_none hq7 hl
    have hq8 : (upd (upd H7 l (.lst (TS.take 9))) p (.lst [.int d3, .int st3])) q = some (.lst (TS ++ X)) := by rw [upd_ne (Ne.symm hpq), upd_ne hql]; exact hq7
    have s8 : Same H (upd (upd H7 l (.lst (TS.take 9))) p (.lst [.int d3, .int st3])) := same_put (s7.trans (upd_new hl)) hHp
    generalize upd (upd H7 l (.lst (TS.take 9))) p (.lst [.int d3, .int st3]) = H8 at hp8 hq8 s8 ⊢
    refine ⟨_, rfl, small1 (by show 4 ≤ 8; decide), fun l2 hl2 => ?_⟩
    have hpl2 : p ≠ l2 := ne_of_none hp8 hl2
    have hql2 : q ≠ l2 := ne_of_none hq8 hl2
    refine ⟨p, l2, d3, st3, _, rfl, upd_new hl2 _ _ hp8, upd_same, hpl2, hd3, by show 0 < 4; decide, by show 4 ≤ 1000; decide, fun zv d4 st4 hzv hd4 => ?_⟩
    obtain ⟨z, rfl, hz0, hz3⟩ : ∃ z, zv = V.int z ∧ 0 ≤ z ∧ z ≤ 3 := by
      simp only [List.mem_cons, List.not_mem_nil, or_false] at hzv
      rcases hzv with rfl | rfl | rfl | rfl <;> exact ⟨_, rfl, by decide, by decide⟩
    have hp9 : (upd (upd H8 l2 (.lst [.int 1, .int 1, .int 2, .int 3])) p (.lst [.int d4, .int st4])) p = some (.lst [.int d4, .int st4]) := upd_same
    have hq9 : (upd (upd H8 l2 (.lst [.int 1, .int 1, .int 2, .int 3])) p (.lst [.int d4, .int st4])) q = some (.lst (TS ++ X)) := by rw [upd_ne (Ne.symm hpq), upd_ne hql2]; exact hq8
    have s9 : Same H (upd (upd H8 l2 (.lst [.int 1, .int 1, .int 2, .int 3])) p (.lst [.int d4, .int st4])) := same_put (s8.trans (upd_new hl2)) hHp
    generalize upd (upd H8 l2 (.lst [.int 1, .int 1, .int 2, .int 3])) p (.lst [.int d4, .int st4]) = H9 at hp9 hq9 s9 ⊢
    refine ⟨z, rfl, by omega, by omega, ?_⟩
    refine for_range (lo := 0) (fun j σ H10 => ∃ d s y w7, σ = [some (.ref a), some (.int (0 + (i : Int))), some (.ref p), some (.int n), some (.ref q), some (.int (0 + (m : Int))), some (.str y), w7, v8] ∧ 0 ≤ d ∧ H10 p = some (.lst [.int d, .int s]) ∧ H10 q = some (.lst (TS ++ X)) ∧ Tx (bnd j) y ∧ Same H H10)
      ⟨d4, st4, x, _, rfl, hd4, hp9, hq9, tx, s9⟩ ?turn3 ?done3
    case turn3 =>
      rintro j σ H10 hj ⟨d5, st5, y, w7, rfl, hd5, hp10, hq10, ty, s10⟩
      have hj3 : j < 3 := by omega
      refine ⟨_, rfl, _, rfl, p, y, bnd j, d5, st5, rfl, hp10, hd5, ty, Nat.le_trans (bnd_le (by omega)) (by decide), fun y' d' s' H' ty' hd' hp' sx => ?_⟩
      exact ⟨d', s', y', _, rfl, hd', hp', sx q _ (Ne.symm hpq) hq10, ty', SameX.same s10 hHp sx⟩
    case done3 =>
    rintro σ H10 ⟨d5, st5, y, w7, rfl, hd5, hp10, hq10, ty, s10⟩
    have hlq : (TS ++ X).length < sizeLine := by rw [List.length_append, n5, hX, sizeLine_eq]; omega
    refine ⟨_, rfl, ?ty10, _, rfl, q, TS ++ X, .str y, rfl, rfl, hq10, hlq, ?app10⟩
    case ty10 => exact .inl ⟨rfl, _, .of hq10⟩
    refine ⟨d5, st5, X ++ [.str y], _, _, _, rfl, hd5, by rw [upd_ne hpq]; exact hp10, by rw [← List.append_assoc]; exact upd_same, by rw [List.length_append, hX]; rfl, aX.app (.cons (ty.mono (Nat.le_trans (bnd_le (by omega)) (by decide))) AllTx.nil), same_put s10 hHq⟩
  case done2 =>
  rintro σ H7 ⟨d, st, X, w5, w6, w7, rfl, hd, hp7, hq7, hX, aX, s7⟩
  have AT : AllTx 6000 (TS ++ X) := A5.app aX
  refine ⟨_, rfl, q, rfl, ⟨_, .of hq7⟩, for_list (K := K) (a := q) (xs := TS ++ X) (fun m σ H8 => ∃ w6 v8, σ = [some (.ref a), some (.int (0 + (i : Int))), some (.ref p), some (.int n), some (.ref q), w5, w6, w7, v8] ∧ Same H7 H8)
    ⟨_, _, rfl, Same.refl _⟩ (fun m σ H8 _ ⟨_, _, _, s8⟩ => .of (s8 _ _ hq7)) ?turn4 ?done4⟩
  case done4 =>
    rintro σ H8 ⟨w6, v8, rfl, s8⟩
    exact ⟨_, _, _, _, _, _, _, _, rfl, s7.trans s8⟩
  rintro m v σ H8 hm ⟨w6, v8, rfl, s8⟩
  obtain ⟨x, rfl, tx⟩ := AT v (List.mem_of_getElem? hm)
  have hxl : x.length ≤ sizeLine := by rw [sizeLine_eq]; have := tx.1; omega
  have hdr := due_repr tx (by decide)
  have htd := told_due x
  refine ⟨_, rfl, 6000, x, rfl, tx, by decide, fun H9 s9 => ⟨_, rfl, ?_⟩⟩
  cases hb : (readP x).isSome with
  | true =>
    have hd : dueV x = .str x := by unfold dueV; rw [hb]; rfl
    rw [hd] at hdr htd
    refine iteT ⟨_, rfl, _, rfl, x, rfl, hxl, fun H10 s10 => ?_⟩
    refine ⟨told x, rfl, by rw [htd]; exact hdr, _, rfl, .str x, rfl, hdr, rfl, _, rfl, ne_str (by rw [htd]) ?_⟩
    exact ⟨_, _, rfl, s8.trans (s9.trans s10)⟩
  | false =>
    have hd : dueV x = .int 0 := by unfold dueV; rw [hb]; rfl
    rw [hd] at hdr htd
    refine iteF ⟨_, rfl, x, rfl, hxl, fun H10 s10 => ?_⟩
    refine ⟨told x, rfl, by rw [htd]; exact hdr, _, rfl, .int 0, rfl, hdr, rfl, _, rfl, ne_str (by rw [htd]) ?_⟩
    exact ⟨_, _, rfl, s8.trans (s9.trans s10)⟩
end
end K2
namespace K2
open PySem L2 Own StX ClX NdefX
theorem all_mk {w : World} {K : PySem.W.Frag} {h : Heap} {mg : Str → Option Value} {fa C B : Addr} (X : K.In h) (G : h.Ns mainGlobals mg) (hfa : mg "law" = some (.ref fa))
    {fRV : Addr} {odRV anRV : Option Addr} {slRV : Array (Option Value)} {ocRV kVRV dcRV pmRV cdRV ctRV : Value} {fRP : Addr} {odRP anRP : Option Addr} {slRP : Array (Option Value)} {ocRP kVRP dcRP pmRP cdRP ctRP : Value} {fBI : Addr} {odBI anBI : Option Addr} {slBI : Array (Option Value)} {ocBI kVBI dcBI pmBI cdBI ctBI : Value} {fPA : Addr} {odPA anPA : Option Addr} {slPA : Array (Option Value)} {ocPA kVPA dcPA pmPA cdPA ctPA : Value} {pPA : Addr} {restPA : List Value} {fST : Addr} {odST anST : Option Addr} {slST : Array (Option Value)} {ocST kVST dcST pmST cdST ctST : Value} {fPI cc cda : Addr} {odPI anPI cldPI cddPI : Option Addr} {slPI cslPI ccsPI : Array (Option Value)} {ocPI dcPI pmPI ctPI clPI cclPI : Value} {vsPI : Array Value} {tfPI : Tok} {cdD : ClassData} {tkM tkD tkW : Tok} {dP dW : Addr} {esP : Array DictEntry} {nP nW : Nat} {ddW : Option Addr} {slW : Array (Option Value)} {tW1 tW2 : Tok} {kk1 : Tok} {kk2 : Tok} {kk3 : Tok} {kk4 : Tok} {kk5 : Tok} {kk6 : Tok} {kk7 : Tok} {kk8 : Tok} {kk9 : Tok} {t1 x1 y1 : Addr} {m1 mx1 my1 : Nat} {dd1 dx1 dy1 : Option Addr} {s1 sx1 sy1 : Array (Option Value)} {ty1_0 : Tok} {t2 x2 y2 : Addr} {m2 mx2 my2 : Nat} {dd2 dx2 dy2 : Option Addr} {s2 sx2 sy2 : Array (Option Value)} {tx2_0 : Tok} {tx2_1 : Tok}{ty2_0 : Tok} {t3 x3 y3 : Addr} {m3 mx3 my3 : Nat} {dd3 dx3 dy3 : Option Addr} {s3 sx3 sy3 : Array (Option Value)} {tx3_0 : Tok} {tx3_1 : Tok}{ty3_0 : Tok} {t4 x4 y4 : Addr} {m4 mx4 my4 : Nat} {dd4 dx4 dy4 : Option Addr} {s4 sx4 sy4 : Array (Option Value)} {tx4_0 : Tok} {tx4_1 : Tok}{ty4_0 : Tok} {t5 x5 y5 : Addr} {m5 mx5 my5 : Nat} {dd5 dx5 dy5 : Option Addr} {s5 sx5 sy5 : Array (Option Value)} {tx5_0 : Tok} {tx5_1 : Tok}{ty5_0 : Tok} {t6 x6 y6 : Addr} {m6 mx6 my6 : Nat} {dd6 dx6 dy6 : Option Addr} {s6 sx6 sy6 : Array (Option Value)} {tx6_0 : Tok} {tx6_1 : Tok}{ty6_0 : Tok} {t7 x7 y7 : Addr} {m7 mx7 my7 : Nat} {dd7 dx7 dy7 : Option Addr} {s7 sx7 sy7 : Array (Option Value)} {tx7_0 : Tok} {tx7_1 : Tok} {tx7_2 : Tok}{ty7_0 : Tok} {t8 x8 y8 : Addr} {m8 mx8 my8 : Nat} {dd8 dx8 dy8 : Option Addr} {s8 sx8 sy8 : Array (Option Value)} {tx8_0 : Tok} {tx8_1 : Tok}{ty8_0 : Tok} {ty8_1 : Tok} {t9 x9 y9 : Addr} {m9 mx9 my9 : Nat} {dd9 dx9 dy9 : Option Addr} {s9 sx9 sy9 : Array (Option Value)} {tx9_0 : Tok}{ty9_0 : Tok} {CI BE NE : Addr} {nmE qE : Str} {bsE subE : List Value} {snE : List Str} {abE : Bool} {colE : Option Bool} {ddE : Option Addr} {k0E k1E k2E k3E k5E : Option Value} {fER : Addr} {odER anER : Option Addr} {slER : Array (Option Value)} {ocER kVER dcER pmER cdER ctER : Value} {fFE : Addr} {odFE anFE : Option Addr} {slFE : Array (Option Value)} {ocFE kVFE dcFE pmFE cdFE ctFE : Value} {fTK : Addr} {odTK anTK : Option Addr} {slTK : Array (Option Value)} {ocTK kVTK dcTK pmTK cdTK ctTK : Value} {fPK : Addr} {odPK anPK : Option Addr} {slPK : Array (Option Value)} {ocPK kVPK dcPK pmPK cdPK ctPK : Value} {fNU : Addr} {odNU anNU : Option Addr} {slNU : Array (Option Value)} {ocNU kVNU dcNU pmNU cdNU ctNU : Value} {fIP : Addr} {odIP anIP : Option Addr} {slIP : Array (Option Value)} {ocIP kVIP dcIP pmIP cdIP ctIP : Value} {fTO : Addr} {odTO anTO : Option Addr} {slTO : Array (Option Value)} {ocTO kVTO dcTO pmTO cdTO ctTO : Value} {fCH : Addr} {odCH anCH : Option Addr} {slCH : Array (Option Value)} {ocCH kVCH dcCH pmCH cdCH ctCH : Value} {fLA : Addr} {odLA anLA : Option Addr} {slLA : Array (Option Value)} {ocLA kVLA dcLA pmLA cdLA ctLA : Value}
    (aC : PySem.W.nsIn K mainGlobals "Primitive" = some (some (.ref C)))
    (aB : PySem.W.nsIn K mainGlobals "Block" = some (some (.ref B)))
    (aRV : PySem.W.nsIn K mainGlobals "read_value" = some (some (.ref fRV)))
    (lRV : K.lookup fRV = some ⟨ocRV, odRV, .func (PySem.W.fnOf "read_value" "read_value" (defArgs sRV) (defBody sRV) (defScope sRV) .none kVRV dcRV pmRV anRV cdRV ctRV), slRV⟩)
    (cRV : PySem.W.codeIn K cdRV "read_value" = true)
    (kRV : PySem.W.keepIn K (.ref fRV) = true)
    (aRP : PySem.W.nsIn K mainGlobals "read_primitive" = some (some (.ref fRP)))
    (lRP : K.lookup fRP = some ⟨ocRP, odRP, .func (PySem.W.fnOf "read_primitive" "read_primitive" (defArgs sRP) (defBody sRP) (defScope sRP) .none kVRP dcRP pmRP anRP cdRP ctRP), slRP⟩)
    (cRP : PySem.W.codeIn K cdRP "read_primitive" = true)
    (kRP : PySem.W.keepIn K (.ref fRP) = true)
    (aBI : PySem.W.findIn K (.ref B) "__init__" = some (some (.ref fBI)))
    (iBI : PySem.W.isFn K (.ref fBI) = true)
    (lBI : K.lookup fBI = some ⟨ocBI, odBI, .func (PySem.W.fnOf "__init__" "Block.__init__" (defArgs sBI) (defBody sBI) (defScope sBI) .none kVBI dcBI pmBI anBI cdBI ctBI), slBI⟩)
    (cBI : PySem.W.codeIn K cdBI "Block.__init__" = true)
    (kBI : PySem.W.keepIn K (.ref fBI) = true)
    (aPA : PySem.W.findCls K (.ref C) (.type "type") "parse" = some (.get (.builtin "classmethod.__get__") (.ref pPA) .none (.ref C)))
    (rPA : PySem.W.recIn K pPA "classmethod" = some (.ref fPA :: restPA))
    (iPA : PySem.W.fnIn K fPA = true)
    (lPA : K.lookup fPA = some ⟨ocPA, odPA, .func (PySem.W.fnOf "parse" "Primitive.parse" (defArgs sParse) (defBody sParse) (defScope sParse) .none kVPA dcPA pmPA anPA cdPA ctPA), slPA⟩)
    (cPA : PySem.W.codeIn K cdPA "Primitive.parse" = true)
    (kPA : PySem.W.keepIn K (.ref fPA) = true)
    (aST : PySem.W.findIn K (.ref C) "__str__" = some (some (.ref fST)))
    (iST : PySem.W.isFn K (.ref fST) = true)
    (lST : K.lookup fST = some ⟨ocST, odST, .func (PySem.W.fnOf "__str__" "Primitive.__str__" (defArgs sStr) (defBody sStr) (defScope sStr) .none kVST dcST pmST anST cdST ctST), slST⟩)
    (cST : PySem.W.codeIn K cdST "Primitive.__str__" = true)
    (kST : PySem.W.keepIn K (.ref fST) = true)
    (aPI : PySem.W.findIn K (.ref C) "__init__" = some (some (.ref fPI)))
    (iPI : PySem.W.isFn K (.ref fPI) = true)
    (lPI : K.lookup fPI = some ⟨ocPI, odPI, .func (PySem.W.fnX "__init__" "Primitive.__init__" (defArgs sPI) (defBody sPI) (defScope sPI) [(("__class__" : Str), cc)] .none .none dcPI pmPI anPI (.ref cda) ctPI), slPI⟩)
    (cPI : PySem.W.codeIn K (.ref cda) "Primitive.__init__" = true)
    (lcd : K.lookup cda = some ⟨cclPI, cddPI, .fields vsPI, ccsPI⟩)
    (vcd : vsPI[2]? = some (.str PySem.Challenge.pw_stepblocks_k02_texts_that_are_no_primiti.main.file tfPI))
    (lcc : K.lookup cc = some ⟨clPI, cldPI, .cell (some (.ref C)), cslPI⟩)
    (tpa : PySem.W.nsIn K PySem.cStatics "thirdparty.any" = some none)
    (sbs : PySem.W.mroIn K C (.ref C) = some true)
    (sat : PySem.W.ks_superIn K C C "__init__" = some (some (.ref fBI)))
    (sty : PySem.W.typeIn K (.ref fBI) = some (.type "function"))
    (sdc : PySem.W.clsIn K C = some cdD)
    (sfi : PySem.W.fnIn K fBI = true)
    (pg : PySem.W.plainGet K C Str.empty = true)
    (hd : PySem.W.hasDictIn K C = true)
    (po : PySem.W.plainOver K C = true)
    (sa : PySem.W.findIn K (.ref C) "__setattr__" = some (some (.builtin "object.__setattr__")))
    (mk : PySem.W.makesIn K C = true)
    (kc : PySem.W.keepIn K (.ref C) = true)
    (rdC : PySem.W.readsIn K C (.type "type") = true)
    (gaC : PySem.W.specialIn K (.ref C) "__getattribute__" = some (some (.builtin "type.__getattribute__")))
    (nN : PySem.W.findIn K (.ref C) "name" = some none)
    (nI : PySem.W.findIn K (.ref C) "inputs" = some none)
    (nO : PySem.W.findIn K (.ref C) "outputs" = some none)
    (nK : PySem.W.findIn K (.ref C) "constant" = some none)
    (aMo : PySem.W.nsIn K mainGlobals "MODULUS" = some (some (.int 4294967296 tkM)))
    (aMd : PySem.W.nsIn K mainGlobals "MOST_DIGITS" = some (some (.int 10 tkD)))
    (aDg : PySem.W.nsIn K mainGlobals "DIGITS" = some (some (.str "0123456789" tkW)))
    (aP : PySem.W.nsIn K mainGlobals "PRIMITIVE_PORTS" = some (some (.ref dP)))
    (lP : K.lookup dP = some ⟨.type "dict", none, .dict esP nP, #[]⟩)
    (qP : PySem.W.KeysLit w.params esP.toList)
    (oP : (dP == sysModules) = false)
    (kP : esP.toList.map (·.key) = [.str "const" kk1, .str "add" kk2, .str "sub" kk3, .str "mul" kk4, .str "less" kk5, .str "equal" kk6, .str "pick" kk7, .str "divide" kk8, .str "delay" kk9])
    (aW : PySem.W.nsIn K mainGlobals "WORDS_WITH_VALUE" = some (some (.ref dW)))
    (lW : K.lookup dW = some ⟨.type "tuple", ddW, .seq #[.str "const" tW1, .str "delay" tW2] nW, slW⟩)
    (u1 : PySem.W.nsIn K dP "const" = some (some (.ref t1)))
    (v1 : K.lookup t1 = some ⟨.type "tuple", dd1, .seq #[.ref x1, .ref y1] m1, s1⟩)
    (vx1 : K.lookup x1 = some ⟨.type "tuple", dx1, .seq #[] mx1, sx1⟩)
    (vy1 : K.lookup y1 = some ⟨.type "tuple", dy1, .seq #[.str "out" ty1_0] my1, sy1⟩)
    (vz1 : ¬ (x1 = y1))
    (u2 : PySem.W.nsIn K dP "add" = some (some (.ref t2)))
    (v2 : K.lookup t2 = some ⟨.type "tuple", dd2, .seq #[.ref x2, .ref y2] m2, s2⟩)
    (vx2 : K.lookup x2 = some ⟨.type "tuple", dx2, .seq #[.str "a" tx2_0, .str "b" tx2_1] mx2, sx2⟩)
    (vy2 : K.lookup y2 = some ⟨.type "tuple", dy2, .seq #[.str "out" ty2_0] my2, sy2⟩)
    (vz2 : ¬ (x2 = y2))
    (u3 : PySem.W.nsIn K dP "sub" = some (some (.ref t3)))
    (v3 : K.lookup t3 = some ⟨.type "tuple", dd3, .seq #[.ref x3, .ref y3] m3, s3⟩)
    (vx3 : K.lookup x3 = some ⟨.type "tuple", dx3, .seq #[.str "a" tx3_0, .str "b" tx3_1] mx3, sx3⟩)
    (vy3 : K.lookup y3 = some ⟨.type "tuple", dy3, .seq #[.str "out" ty3_0] my3, sy3⟩)
    (vz3 : ¬ (x3 = y3))
    (u4 : PySem.W.nsIn K dP "mul" = some (some (.ref t4)))
    (v4 : K.lookup t4 = some ⟨.type "tuple", dd4, .seq #[.ref x4, .ref y4] m4, s4⟩)
    (vx4 : K.lookup x4 = some ⟨.type "tuple", dx4, .seq #[.str "a" tx4_0, .str "b" tx4_1] mx4, sx4⟩)
    (vy4 : K.lookup y4 = some ⟨.type "tuple", dy4, .seq #[.str "out" ty4_0] my4, sy4⟩)
    (vz4 : ¬ (x4 = y4))
    (u5 : PySem.W.nsIn K dP "less" = some (some (.ref t5)))
    (v5 : K.lookup t5 = some ⟨.type "tuple", dd5, .seq #[.ref x5, .ref y5] m5, s5⟩)
    (vx5 : K.lookup x5 = some ⟨.type "tuple", dx5, .seq #[.str "a" tx5_0, .str "b" tx5_1] mx5, sx5⟩)
    (vy5 : K.lookup y5 = some ⟨.type "tuple", dy5, .seq #[.str "out" ty5_0] my5, sy5⟩)
    (vz5 : ¬ (x5 = y5))
    (u6 : PySem.W.nsIn K dP "equal" = some (some (.ref t6)))
    (v6 : K.lookup t6 = some ⟨.type "tuple", dd6, .seq #[.ref x6, .ref y6] m6, s6⟩)
    (vx6 : K.lookup x6 = some ⟨.type "tuple", dx6, .seq #[.str "a" tx6_0, .str "b" tx6_1] mx6, sx6⟩)
    (vy6 : K.lookup y6 = some ⟨.type "tuple", dy6, .seq #[.str "out" ty6_0] my6, sy6⟩)
    (vz6 : ¬ (x6 = y6))
    (u7 : PySem.W.nsIn K dP "pick" = some (some (.ref t7)))
    (v7 : K.lookup t7 = some ⟨.type "tuple", dd7, .seq #[.ref x7, .ref y7] m7, s7⟩)
    (vx7 : K.lookup x7 = some ⟨.type "tuple", dx7, .seq #[.str "c" tx7_0, .str "a" tx7_1, .str "b" tx7_2] mx7, sx7⟩)
    (vy7 : K.lookup y7 = some ⟨.type "tuple", dy7, .seq #[.str "out" ty7_0] my7, sy7⟩)
    (vz7 : ¬ (x7 = y7))
    (u8 : PySem.W.nsIn K dP "divide" = some (some (.ref t8)))
    (v8 : K.lookup t8 = some ⟨.type "tuple", dd8, .seq #[.ref x8, .ref y8] m8, s8⟩)
    (vx8 : K.lookup x8 = some ⟨.type "tuple", dx8, .seq #[.str "a" tx8_0, .str "b" tx8_1] mx8, sx8⟩)
    (vy8 : K.lookup y8 = some ⟨.type "tuple", dy8, .seq #[.str "quotient" ty8_0, .str "rest" ty8_1] my8, sy8⟩)
    (vz8 : ¬ (x8 = y8))
    (u9 : PySem.W.nsIn K dP "delay" = some (some (.ref t9)))
    (v9 : K.lookup t9 = some ⟨.type "tuple", dd9, .seq #[.ref x9, .ref y9] m9, s9⟩)
    (vx9 : K.lookup x9 = some ⟨.type "tuple", dx9, .seq #[.str "in" tx9_0] mx9, sx9⟩)
    (vy9 : K.lookup y9 = some ⟨.type "tuple", dy9, .seq #[.str "out" ty9_0] my9, sy9⟩)
    (vz9 : ¬ (x9 = y9))
    (zsuper : PySem.W.nsIn K mainGlobals "super" = some none)
    (zlen : PySem.W.nsIn K mainGlobals "len" = some none)
    (zall : PySem.W.nsIn K mainGlobals "all" = some none)
    (zint : PySem.W.nsIn K mainGlobals "int" = some none)
    (zstr : PySem.W.nsIn K mainGlobals "str" = some none)
    (aBE : PySem.W.nsIn K mainGlobals "BlockError" = some (some (.ref BE)))
    (aCI : PySem.W.nsIn K mainGlobals "InvalidText" = some (some (.ref CI)))
    (xE : K.lookup CI = some (excClassObj nmE qE CI NE bsE [.ref BE, .type "ValueError", .type "Exception", .type "BaseException", .type "object"] true snE subE abE colE ddE k0E k1E k2E k3E k5E "ValueError.__new__"))
    (eSa : PySem.W.findIn K (.ref CI) "__setattr__" = some (some (.builtin "object.__setattr__")))
    (eGa : PySem.W.findIn K (.ref CI) "__getattribute__" = some (some (.builtin "BaseException.__getattribute__")))
    (eGg : PySem.W.findIn K (.ref CI) "__getattr__" = some none)
    (eRow : PySem.W.findIn K (.ref CI) "row" = some none)
    (eEx : PySem.W.subIn K (.ref CI) (.type "BaseException") = some true)
    (eTy : PySem.W.typeIn K (.ref CI) = some (.type "type"))
    (eK : PySem.W.keepIn K (.ref CI) = true)
    (eHd : PySem.W.hasDictIn K CI = true)
    (eCl : PySem.W.findIn K (.ref CI) "__class__" = some (some (.builtin "object.__class__")))
    (ohn : PySem.W.specialIn K (.builtin "object.__class__") "__get__" = some (some (.builtin "getset_descriptor.__get__")))
    (ohk : PySem.W.takesIn K (.builtin "object.__class__") = some true)
    (eMr : PySem.W.mroIn K CI (.type "object") = some true)
    (eVe : PySem.W.subIn K (.ref CI) (.type "ValueError") = some true)
    (eBe : PySem.W.subIn K (.ref CI) (.ref BE) = some true)
    (bEx : PySem.W.subIn K (.ref BE) (.type "BaseException") = some true)
    (bHd : PySem.W.hasDictIn K BE = true)
    (bTy : PySem.W.typeIn K (.ref BE) = some (.type "type"))
    (aER : PySem.W.findIn K (.ref CI) "__init__" = some (some (.ref fER)))
    (iER : PySem.W.isFn K (.ref fER) = true)
    (lER : K.lookup fER = some ⟨ocER, odER, .func (PySem.W.fnOf "__init__" "InvalidText.__init__" (defArgs sErr) (defBody sErr) (defScope sErr) .none kVER dcER pmER anER cdER ctER), slER⟩)
    (cER : PySem.W.codeIn K cdER "InvalidText.__init__" = true)
    (kER : PySem.W.keepIn K (.ref fER) = true)
    (tER : PySem.W.typeIn K (.ref fER) = some (.type "function"))
    (aFE : PySem.W.nsIn K mainGlobals "_law_feed" = some (some (.ref fFE)))
    (lFE : K.lookup fFE = some ⟨ocFE, odFE, .func (PySem.W.fnOf "_law_feed" "_law_feed" (defArgs sFeed) (defBody sFeed) (defScope sFeed) .none kVFE dcFE pmFE anFE cdFE ctFE), slFE⟩)
    (cFE : PySem.W.codeIn K cdFE "_law_feed" = true)
    (kFE : PySem.W.keepIn K (.ref fFE) = true)
    (aTK : PySem.W.nsIn K mainGlobals "_law_take" = some (some (.ref fTK)))
    (lTK : K.lookup fTK = some ⟨ocTK, odTK, .func (PySem.W.fnOf "_law_take" "_law_take" (defArgs sTake) (defBody sTake) (defScope sTake) .none kVTK dcTK pmTK anTK cdTK ctTK), slTK⟩)
    (cTK : PySem.W.codeIn K cdTK "_law_take" = true)
    (kTK : PySem.W.keepIn K (.ref fTK) = true)
    (aPK : PySem.W.nsIn K mainGlobals "_law_pick" = some (some (.ref fPK)))
    (lPK : K.lookup fPK = some ⟨ocPK, odPK, .func (PySem.W.fnOf "_law_pick" "_law_pick" (defArgs sPickL) (defBody sPickL) (defScope sPickL) .none kVPK dcPK pmPK anPK cdPK ctPK), slPK⟩)
    (cPK : PySem.W.codeIn K cdPK "_law_pick" = true)
    (kPK : PySem.W.keepIn K (.ref fPK) = true)
    (aNU : PySem.W.nsIn K mainGlobals "_law_is_number" = some (some (.ref fNU)))
    (lNU : K.lookup fNU = some ⟨ocNU, odNU, .func (PySem.W.fnOf "_law_is_number" "_law_is_number" (defArgs sNum) (defBody sNum) (defScope sNum) .none kVNU dcNU pmNU anNU cdNU ctNU), slNU⟩)
    (cNU : PySem.W.codeIn K cdNU "_law_is_number" = true)
    (kNU : PySem.W.keepIn K (.ref fNU) = true)
    (aIP : PySem.W.nsIn K mainGlobals "_law_is_primitive" = some (some (.ref fIP)))
    (lIP : K.lookup fIP = some ⟨ocIP, odIP, .func (PySem.W.fnOf "_law_is_primitive" "_law_is_primitive" (defArgs sIsP) (defBody sIsP) (defScope sIsP) .none kVIP dcIP pmIP anIP cdIP ctIP), slIP⟩)
    (cIP : PySem.W.codeIn K cdIP "_law_is_primitive" = true)
    (kIP : PySem.W.keepIn K (.ref fIP) = true)
    (aTO : PySem.W.nsIn K mainGlobals "_law_told" = some (some (.ref fTO)))
    (lTO : K.lookup fTO = some ⟨ocTO, odTO, .func (PySem.W.fnOf "_law_told" "_law_told" (defArgs sTold) (defBody sTold) (defScope sTold) .none kVTO dcTO pmTO anTO cdTO ctTO), slTO⟩)
    (cTO : PySem.W.codeIn K cdTO "_law_told" = true)
    (kTO : PySem.W.keepIn K (.ref fTO) = true)
    (aCH : PySem.W.nsIn K mainGlobals "_law_changed" = some (some (.ref fCH)))
    (lCH : K.lookup fCH = some ⟨ocCH, odCH, .func (PySem.W.fnOf "_law_changed" "_law_changed" (defArgs sChanged) (defBody sChanged) (defScope sChanged) .none kVCH dcCH pmCH anCH cdCH ctCH), slCH⟩)
    (cCH : PySem.W.codeIn K cdCH "_law_changed" = true)
    (kCH : PySem.W.keepIn K (.ref fCH) = true)
    (aLA : PySem.W.nsIn K mainGlobals "law" = some (some (.ref fLA)))
    (lLA : K.lookup fLA = some ⟨ocLA, odLA, .func (PySem.W.fnOf "law" "law" (defArgs sLaw) (defBody sLaw) (defScope sLaw) .none kVLA dcLA pmLA anLA cdLA ctLA), slLA⟩)
    (cLA : PySem.W.codeIn K cdLA "law" = true)
    (kLA : PySem.W.keepIn K (.ref fLA) = true)
    (zmax : PySem.W.nsIn K mainGlobals "max" = some none)
    (zmin : PySem.W.nsIn K mainGlobals "min" = some none)
    (zabs : PySem.W.nsIn K mainGlobals "abs" = some none)
    (zrange : PySem.W.nsIn K mainGlobals "range" = some none)
    (zrepr : PySem.W.nsIn K mainGlobals "repr" = some none)
    (zisinstance : PySem.W.nsIn K mainGlobals "isinstance" = some none)
    (zValueError : PySem.W.nsIn K mainGlobals "ValueError" = some none) :
    ∃ fd : FuncData, (∀ (s : Shared) (v : Value), BindsTo s fd ⟨[v], []⟩ [("script", v)]) ∧ ∀ base : Heap, K.In base → base.Ns mainGlobals mg → FnG PySem.Challenge.pw_stepblocks_k02_texts_that_are_no_primiti w K mg base CX0 6 fa fd ["script"] (spLaw K) := by
  have e := hfa.symm.trans (PySem.W.mg_of X G aLA)
  cases e
  have c : Cls K C := ⟨pg, hd, po, sa⟩
  have pair : ∀ {t x y : Addr} {m : Nat} {dd : Option Addr} {s : Array (Option Value)}, K.lookup t = some ⟨.type "tuple", dd, .seq #[.ref x, .ref y] m, s⟩ → ∀ H, SqT K H t [.ref x, .ref y] := fun l H =>
    .inr ⟨_, _, _, l, rfl, rfl, (by decide +kernel : 2 ≤ sizeLine), .cons rfl (.cons rfl .nil)⟩
  have D : KDict K w dP esP nP := ⟨lP, qP, oP⟩
  have po1 : PortsOk K "const" (.ref x1) (.ref y1) := by
    refine ⟨x1, y1, rfl, rfl, ?_, ?_, vz1⟩
    · rw [show insOf "const" = ([] : List Str) by decide +kernel]
      exact fun H => .inr ⟨_, _, _, vx1, rfl, rfl, (by decide +kernel : 0 ≤ sizeLine), .nil⟩
    · rw [show outsOf "const" = (["out"] : List Str) by decide +kernel]
      exact fun H => .inr ⟨_, _, _, vy1, rfl, rfl, (by decide +kernel : 1 ≤ sizeLine), (.cons ⟨_, rfl⟩ .nil)⟩
  have po2 : PortsOk K "add" (.ref x2) (.ref y2) := by
    refine ⟨x2, y2, rfl, rfl, ?_, ?_, vz2⟩
    · rw [show insOf "add" = (["a", "b"] : List Str) by decide +kernel]
      exact fun H => .inr ⟨_, _, _, vx2, rfl, rfl, (by decide +kernel : 2 ≤ sizeLine), (.cons ⟨_, rfl⟩ (.cons ⟨_, rfl⟩ .nil))⟩
    · rw [show outsOf "add" = (["out"] : List Str) by decide +kernel]
      exact fun H => .inr ⟨_, _, _, vy2, rfl, rfl, (by decide +kernel : 1 ≤ sizeLine), (.cons ⟨_, rfl⟩ .nil)⟩
  have po3 : PortsOk K "sub" (.ref x3) (.ref y3) := by
    refine ⟨x3, y3, rfl, rfl, ?_, ?_, vz3⟩
    · rw [show insOf "sub" = (["a", "b"] : List Str) by decide +kernel]
      exact fun H => .inr ⟨_, _, _, vx3, rfl, rfl, (by decide +kernel : 2 ≤ sizeLine), (.cons ⟨_, rfl⟩ (.cons ⟨_, rfl⟩ .nil))⟩
    · rw [show outsOf "sub" = (["out"] : List Str) by decide +kernel]
      exact fun H => .inr ⟨_, _, _, vy3, rfl, rfl, (by decide +kernel : 1 ≤ sizeLine), (.cons ⟨_, rfl⟩ .nil)⟩
  have po4 : PortsOk K "mul" (.ref x4) (.ref y4) := by
    refine ⟨x4, y4, rfl, rfl, ?_, ?_, vz4⟩
    · rw [show insOf "mul" = (["a", "b"] : List Str) by decide +kernel]
      exact fun H => .inr ⟨_, _, _, vx4, rfl, rfl, (by decide +kernel : 2 ≤ sizeLine), (.cons ⟨_, rfl⟩ (.cons ⟨_, rfl⟩ .nil))⟩
    · rw [show outsOf "mul" = (["out"] : List Str) by decide +kernel]
      exact fun H => .inr ⟨_, _, _, vy4, rfl, rfl, (by decide +kernel : 1 ≤ sizeLine), (.cons ⟨_, rfl⟩ .nil)⟩
  have po5 : PortsOk K "less" (.ref x5) (.ref y5) := by
    refine ⟨x5, y5, rfl, rfl, ?_, ?_, vz5⟩
    · rw [show insOf "less" = (["a", "b"] : List Str) by decide +kernel]
      exact fun H => .inr ⟨_, _, _, vx5, rfl, rfl, (by decide +kernel : 2 ≤ sizeLine), (.cons ⟨_, rfl⟩ (.cons ⟨_, rfl⟩ .nil))⟩
    · rw [show outsOf "less" = (["out"] : List Str) by decide +kernel]
      exact fun H => .inr ⟨_, _, _, vy5, rfl, rfl, (by decide +kernel : 1 ≤ sizeLine), (.cons ⟨_, rfl⟩ .nil)⟩
  have po6 : PortsOk K "equal" (.ref x6) (.ref y6) := by
    refine ⟨x6, y6, rfl, rfl, ?_, ?_, vz6⟩
    · rw [show insOf "equal" = (["a", "b"] : List Str) by decide +kernel]
      exact fun H => .inr ⟨_, _, _, vx6, rfl, rfl, (by decide +kernel : 2 ≤ sizeLine), (.cons ⟨_, rfl⟩ (.cons ⟨_, rfl⟩ .nil))⟩
    · rw [show outsOf "equal" = (["out"] : List Str) by decide +kernel]
      exact fun H => .inr ⟨_, _, _, vy6, rfl, rfl, (by decide +kernel : 1 ≤ sizeLine), (.cons ⟨_, rfl⟩ .nil)⟩
  have po7 : PortsOk K "pick" (.ref x7) (.ref y7) := by
    refine ⟨x7, y7, rfl, rfl, ?_, ?_, vz7⟩
    · rw [show insOf "pick" = (["c", "a", "b"] : List Str) by decide +kernel]
      exact fun H => .inr ⟨_, _, _, vx7, rfl, rfl, (by decide +kernel : 3 ≤ sizeLine), (.cons ⟨_, rfl⟩ (.cons ⟨_, rfl⟩ (.cons ⟨_, rfl⟩ .nil)))⟩
    · rw [show outsOf "pick" = (["out"] : List Str) by decide +kernel]
      exact fun H => .inr ⟨_, _, _, vy7, rfl, rfl, (by decide +kernel : 1 ≤ sizeLine), (.cons ⟨_, rfl⟩ .nil)⟩
  have po8 : PortsOk K "divide" (.ref x8) (.ref y8) := by
    refine ⟨x8, y8, rfl, rfl, ?_, ?_, vz8⟩
    · rw [show insOf "divide" = (["a", "b"] : List Str) by decide +kernel]
      exact fun H => .inr ⟨_, _, _, vx8, rfl, rfl, (by decide +kernel : 2 ≤ sizeLine), (.cons ⟨_, rfl⟩ (.cons ⟨_, rfl⟩ .nil))⟩
    · rw [show outsOf "divide" = (["quotient", "rest"] : List Str) by decide +kernel]
      exact fun H => .inr ⟨_, _, _, vy8, rfl, rfl, (by decide +kernel : 2 ≤ sizeLine), (.cons ⟨_, rfl⟩ (.cons ⟨_, rfl⟩ .nil))⟩
  have po9 : PortsOk K "delay" (.ref x9) (.ref y9) := by
    refine ⟨x9, y9, rfl, rfl, ?_, ?_, vz9⟩
    · rw [show insOf "delay" = (["in"] : List Str) by decide +kernel]
      exact fun H => .inr ⟨_, _, _, vx9, rfl, rfl, (by decide +kernel : 1 ≤ sizeLine), (.cons ⟨_, rfl⟩ .nil)⟩
    · rw [show outsOf "delay" = (["out"] : List Str) by decide +kernel]
      exact fun H => .inr ⟨_, _, _, vy9, rfl, rfl, (by decide +kernel : 1 ≤ sizeLine), (.cons ⟨_, rfl⟩ .nil)⟩
  have keysP : ∀ e ∈ esP.toList, ∃ x t, e.key = .str x t ∧ x ∈ words9 := fun e he => by
    have z : e.key ∈ esP.toList.map (·.key) := List.mem_map_of_mem he
    rw [kP] at z
    simp only [List.mem_cons, List.not_mem_nil, or_false] at z
    rcases z with z | z | z | z | z | z | z | z | z <;> exact ⟨_, _, z, by decide +kernel⟩
  have T : Txt K w mg C := by
    refine ⟨c, nN, nI, nO, nK, PySem.W.mg_of X G aC, ⟨dP, esP, nP, PySem.W.mg_of X G aP, D, fun z hz => ?_, fun z hz => miss_of lP keysP hz⟩,
      ⟨dW, PySem.W.mg_of X G aW, fun H => .inr ⟨_, _, _, lW, rfl, rfl, (by decide +kernel : 2 ≤ sizeLine), .cons ⟨_, rfl⟩ (.cons ⟨_, rfl⟩ .nil)⟩⟩, PySem.W.mg_none_of X G zsuper, ⟨_, PySem.W.mg_of X G aDg⟩, ⟨_, PySem.W.mg_of X G aMd⟩, ⟨_, PySem.W.mg_of X G aMo⟩,
      PySem.W.mg_none_of X G zlen, PySem.W.mg_none_of X G zall, PySem.W.mg_none_of X G zint, PySem.W.mg_none_of X G zstr⟩
    simp only [words9, List.mem_cons, List.not_mem_nil, or_false] at hz
    rcases hz with rfl | rfl | rfl | rfl | rfl | rfl | rfl | rfl | rfl
    · exact ⟨_, t1, .ref x1, .ref y1, u1, rfl, pair v1, po1⟩
    · exact ⟨_, t2, .ref x2, .ref y2, u2, rfl, pair v2, po2⟩
    · exact ⟨_, t3, .ref x3, .ref y3, u3, rfl, pair v3, po3⟩
    · exact ⟨_, t4, .ref x4, .ref y4, u4, rfl, pair v4, po4⟩
    · exact ⟨_, t5, .ref x5, .ref y5, u5, rfl, pair v5, po5⟩
    · exact ⟨_, t6, .ref x6, .ref y6, u6, rfl, pair v6, po6⟩
    · exact ⟨_, t7, .ref x7, .ref y7, u7, rfl, pair v7, po7⟩
    · exact ⟨_, t8, .ref x8, .ref y8, u8, rfl, pair v8, po8⟩
    · exact ⟨_, t9, .ref x9, .ref y9, u9, rfl, pair v9, po9⟩
  have FRV := fun_mk (st := sRV) lRV cRV kRV
  have bRV := FRV.binds (ps := ["text"]) fun _ _ _ _ _ _ us hl => match us, hl with | [_], _ => rfl
  have FRP := fun_mk (st := sRP) lRP cRP kRP
  have bRP := FRP.binds (ps := ["text"]) fun _ _ _ _ _ _ us hl => match us, hl with | [_], _ => rfl
  have FBI := fun_mk (st := sBI) lBI cBI kBI
  have bBI := FBI.binds (ps := ["self", "name", "inputs", "outputs"]) fun _ _ _ _ _ _ us hl => match us, hl with | [_, _, _, _], _ => rfl
  have FPA := fun_mk (st := sParse) lPA cPA kPA
  have bPA := FPA.binds (ps := ["cls", "text"]) fun _ _ _ _ _ _ us hl => match us, hl with | [_, _], _ => rfl
  have FST := fun_mk (st := sStr) lST cST kST
  have bST := FST.binds (ps := ["self"]) fun _ _ _ _ _ _ us hl => match us, hl with | [_], _ => rfl
  have FER := fun_mk (st := sErr) lER cER kER
  have bER := FER.binds (ps := ["self", "row"]) fun _ _ _ _ _ _ us hl => match us, hl with | [_, _], _ => rfl
  have FFE := fun_mk (st := sFeed) lFE cFE kFE
  have bFE := FFE.binds (ps := ["script", "k"]) fun _ _ _ _ _ _ us hl => match us, hl with | [_, _], _ => rfl
  have FTK := fun_mk (st := sTake) lTK cTK kTK
  have bTK := FTK.binds (ps := ["feed", "many"]) fun _ _ _ _ _ _ us hl => match us, hl with | [_, _], _ => rfl
  have FPK := fun_mk (st := sPickL) lPK cPK kPK
  have bPK := FPK.binds (ps := ["feed", "some"]) fun _ _ _ _ _ _ us hl => match us, hl with | [_, _], _ => rfl
  have FNU := fun_mk (st := sNum) lNU cNU kNU
  have bNU := FNU.binds (ps := ["word"]) fun _ _ _ _ _ _ us hl => match us, hl with | [_], _ => rfl
  have FIP := fun_mk (st := sIsP) lIP cIP kIP
  have bIP := FIP.binds (ps := ["text"]) fun _ _ _ _ _ _ us hl => match us, hl with | [_], _ => rfl
  have FTO := fun_mk (st := sTold) lTO cTO kTO
  have bTO := FTO.binds (ps := ["text"]) fun _ _ _ _ _ _ us hl => match us, hl with | [_], _ => rfl
  have FCH := fun_mk (st := sChanged) lCH cCH kCH
  have bCH := FCH.binds (ps := ["feed", "text"]) fun _ _ _ _ _ _ us hl => match us, hl with | [_, _], _ => rfl
  have FLA := fun_mk (st := sLaw) lLA cLA kLA
  have bLA := FLA.binds (ps := ["script"]) fun _ _ _ _ _ _ us hl => match us, hl with | [_], _ => rfl
  refine ⟨PySem.W.fnOf "law" "law" (defArgs sLaw) (defBody sLaw) (defScope sLaw) .none kVLA dcLA pmLA anLA cdLA ctLA, fun s v => .of_eq rfl, fun base _ _ => ?_⟩
  have PI : PIn K PySem.Challenge.pw_stepblocks_k02_texts_that_are_no_primiti C fPI cc cda fBI := ⟨⟨_, _, _, _, _, _, _, lPI, ⟨_, _, _, lPI⟩, ⟨_, rfl, rfl⟩, ⟨_, _, _, _, _, _, lcd, vcd, beq_self_eq_true _⟩, ⟨_, _, _, lcc⟩, by decide +kernel, tpa⟩, cPI, ⟨sbs, sat, sty, ⟨_, sdc⟩, sfi⟩⟩
  have GB : FnOk PySem.Challenge.pw_stepblocks_k02_texts_that_are_no_primiti w K mg base CX0 1 fBI _ ["self", "name", "inputs", "outputs"] (spBI K) := ok_bi FBI
  have GI := ok_pi PI T GB bBI
  have GRV : FnOk PySem.Challenge.pw_stepblocks_k02_texts_that_are_no_primiti w K mg base CX0 1 fRV _ ["text"] spRV := ok_rv FRV T
  have GRP : FnOk PySem.Challenge.pw_stepblocks_k02_texts_that_are_no_primiti w K mg base CX0 2 fRP _ ["text"] spRP := ok_rp FRP T GRV (PySem.W.mg_of X G aRV) kRV bRV
  have GPA : FnOk PySem.Challenge.pw_stepblocks_k02_texts_that_are_no_primiti w K mg base CX0 4 fPA _ ["cls", "text"] (spParse K C) := ok_parse FPA T GRP (PySem.W.mg_of X G aRP) kRP bRP ⟨mk, aPI, iPI, kc⟩ GI
  have GST : FnOk PySem.Challenge.pw_stepblocks_k02_texts_that_are_no_primiti w K mg base CX0 1 fST _ ["self"] (spStr C) := ok_str FST T
  have raw : ∀ {k : Nat} {f : Addr} {fd : FuncData} {ps : List Str} {sp : Sp}, FnOk PySem.Challenge.pw_stepblocks_k02_texts_that_are_no_primiti w K mg base CX0 k f fd ps sp → Binds K fd ps [] → FnR PySem.Challenge.pw_stepblocks_k02_texts_that_are_no_primiti w K mg base CX0 k f sp := fun g b => by
    have z := g.raw b .nil
    simpa only [List.append_nil] using z
  have GFE : FnOk PySem.Challenge.pw_stepblocks_k02_texts_that_are_no_primiti w K mg base CX0 1 fFE _ ["script", "k"] (spFeed K) := ok_feed FFE (PySem.W.mg_none_of X G zlen) (PySem.W.mg_none_of X G zmax) (PySem.W.mg_none_of X G zabs)
  have GTK : FnOk PySem.Challenge.pw_stepblocks_k02_texts_that_are_no_primiti w K mg base CX0 1 fTK _ ["feed", "many"] spTake := ok_take FTK
  have GPK : FnOk PySem.Challenge.pw_stepblocks_k02_texts_that_are_no_primiti w K mg base CX0 2 fPK _ ["feed", "some"] spPickL := ok_pickl FPK GTK (PySem.W.mg_of X G aTK) kTK bTK (PySem.W.mg_none_of X G zlen)

  have GPS : FnOk PySem.Challenge.pw_stepblocks_k02_texts_that_are_no_primiti w K mg base CX0 2 fPK _ ["feed", "some"] spPickS := ok_picks FPK GTK (PySem.W.mg_of X G aTK) kTK bTK (PySem.W.mg_none_of X G zlen)
  have Er : ErrC K mg CI fER := ⟨⟨⟨nmE, qE, NE, bsE, _, snE, subE, abE, colE, ddE, k0E, k1E, k2E, k3E, k5E, xE, by rfl⟩, eSa, eEx, eTy, eK⟩, aER, tER, eRow, PySem.W.mg_of X G aCI⟩
  have GER : FnOk PySem.Challenge.pw_stepblocks_k02_texts_that_are_no_primiti w K mg base CX0 1 fER _ ["self", "row"] (spErr K CI) := ok_err FER Er
  have GPX : FnOk PySem.Challenge.pw_stepblocks_k02_texts_that_are_no_primiti w K mg base (L2.CX PySem.Challenge.pw_stepblocks_k02_texts_that_are_no_primiti w) 4 fPA _ ["cls", "text"] (spParseX K C CI) := ok_parseX FPA T GRP (PySem.W.mg_of X G aRP) kRP bRP ⟨mk, aPI, iPI, kc⟩ GI Er GER bER
  have rawX : FnR PySem.Challenge.pw_stepblocks_k02_texts_that_are_no_primiti w K mg base (L2.CX PySem.Challenge.pw_stepblocks_k02_texts_that_are_no_primiti w) 4 fPA (spParseX K C CI) := by
    have z := GPX.raw bPA .nil
    simpa only [List.append_nil] using z
  have kV : PySem.W.kitOne K (.ref CI) (.type "ValueError") = some true := by
    unfold PySem.W.kitOne
    have hb : ((Value.ref CI) == (Value.type "ValueError")) = false := by
      cases e : ((Value.ref CI) == (Value.type "ValueError")) with
      | false => rfl
      | true => exact nomatch (eq_of_beq e)
    rw [hb, if_neg Bool.false_ne_true]
    unfold PySem.W.kitCls
    dsimp only
    rw [if_pos (by decide +kernel)]
    exact eVe
  have Pa : Par PySem.Challenge.pw_stepblocks_k02_texts_that_are_no_primiti w K mg base C CI := ⟨⟨.type "type", pPA, fPA, ⟨rdC, gaC⟩, ⟨aPA, ⟨_, rPA⟩, iPA⟩, rawX⟩, ⟨fST, aST, iST, raw GST bST⟩, ⟨BE, PySem.W.mg_of X G aBE, PySem.W.exm_ref bEx bHd bTy eBe⟩, ⟨eGa, eGg, eEx, eHd, eCl, ohn, ohk, eMr⟩, ⟨eGa, eGg, eEx, eHd⟩, eRow, PySem.W.mg_of X G aCI, ⟨PySem.W.mg_none_of X G zValueError, kV⟩, PySem.W.mg_none_of X G zisinstance⟩
  have GTO : FnOk PySem.Challenge.pw_stepblocks_k02_texts_that_are_no_primiti w K mg base CX0 5 fTO _ ["text"] spTold := ok_told FTO T Pa
  have GNU : FnOk PySem.Challenge.pw_stepblocks_k02_texts_that_are_no_primiti w K mg base CX0 1 fNU _ ["word"] spNum := ok_num FNU T
  have GIP : FnOk PySem.Challenge.pw_stepblocks_k02_texts_that_are_no_primiti w K mg base CX0 2 fIP _ ["text"] spIsP := ok_isp FIP T GNU (PySem.W.mg_of X G aNU) kNU bNU
  have GCH : FnOk PySem.Challenge.pw_stepblocks_k02_texts_that_are_no_primiti w K mg base CX0 3 fCH _ ["feed", "text"] spChanged := ok_changed FCH GTK (PySem.W.mg_of X G aTK) kTK bTK (PySem.W.mg_none_of X G zlen) GPK GPS (PySem.W.mg_of X G aPK) kPK bPK
  exact ok_law FLA T GFE (PySem.W.mg_of X G aFE) kFE bFE GTK (PySem.W.mg_of X G aTK) kTK bTK GPK (PySem.W.mg_of X G aPK) kPK bPK GTO (PySem.W.mg_of X G aTO) kTO bTO GIP (PySem.W.mg_of X G aIP) kIP bIP GCH (PySem.W.mg_of X G aCH) kCH bCH (PySem.W.mg_none_of X G zlen) (PySem.W.mg_none_of X G zmax) (PySem.W.mg_none_of X G zmin) (PySem.W.mg_none_of X G zrange) (PySem.W.mg_none_of X G zrepr)
theorem walk {l : PySem.W.OpenLaw} {q : Program} {loose : List Str} {XP : (Str → Option Value) → Heap → Prop} {YP : World → Heap → Prop} {d : DefRec} {K : Params → PySem.W.Frag} (hn : l.most = some 63) (hdf : d.params.defaults = [])
    (hY : ∀ (w : World) (h : Heap), YP w h → (K w.params).In h)
    (F : ∀ (w : World) (mg : Str → Option Value) (fa : Addr) (h : Heap), (K w.params).In h → h.Ns mainGlobals mg → mg d.name = some (.ref fa) →
      ∃ fd : FuncData, (∀ (s : Shared) (u : Value), BindsTo s fd ⟨[u], []⟩ [("script", u)]) ∧ ∀ base : Heap, (K w.params).In base → base.Ns mainGlobals mg → FnG l.prog w (K w.params) mg base CX0 6 fa fd ["script"] (spLaw (K w.params))) :
    PySem.W.WalkO q loose XP YP l.row.toRowW d [] (fun f vs => PySem.call f vs) :=
  walk_ofG (n := 63) (k := 6) (x := "script") (sp := fun w => spLaw (K w.params)) hn (by decide) hdf ⟨rfl, by decide, by decide⟩ hY F (fun _ _ a ns hl _ hS => ⟨a, ns, rfl, hS, hl, fun _ => rfl⟩)
end K2
open PySem PySem.W PyProof.Rows
set_option maxRecDepth 100000 in
set_option maxHeartbeats 0 in
theorem PySem.Challenge.cw_stepblocks_k02_texts_that_are_no_primiti_holds : PySem.Challenge.rw_stepblocks_k02_texts_that_are_no_primiti.Holds := by
  w_on; o_law; k_head; (case hw => w_witness2)
  k_fill
  refine K2.walk (l := PySem.Challenge.rw_stepblocks_k02_texts_that_are_no_primiti) rfl rfl (fun w h Y => PySem.W.kIn_of Y) ?F
  case F =>
    intro w mg fa h KX G hmg
    refine' K2.all_mk KX G hmg ?aC ?aB ?aRV ?lRV ?cRV ?kRV ?aRP ?lRP ?cRP ?kRP ?aBI ?iBI ?lBI ?cBI ?kBI ?aPA ?rPA ?iPA ?lPA ?cPA ?kPA ?aST ?iST ?lST ?cST ?kST ?aPI ?iPI ?lPI ?cPI ?lcd ?vcd ?lcc ?tpa ?sbs ?sat ?sty ?sdc ?sfi ?pg ?hd ?po ?sa ?mk ?kc ?rdC ?gaC ?nN ?nI ?nO ?nK ?aMo ?aMd ?aDg ?aP ?lP ?qP ?oP ?kP ?aW ?lW ?u1 ?v1 ?vx1 ?vy1 ?vz1 ?u2 ?v2 ?vx2 ?vy2 ?vz2 ?u3 ?v3 ?vx3 ?vy3 ?vz3 ?u4 ?v4 ?vx4 ?vy4 ?vz4 ?u5 ?v5 ?vx5 ?vy5 ?vz5 ?u6 ?v6 ?vx6 ?vy6 ?vz6 ?u7 ?v7 ?vx7 ?vy7 ?vz7 ?u8 ?v8 ?vx8 ?vy8 ?vz8 ?u9 ?v9 ?vx9 ?vy9 ?vz9 ?zsuper ?zlen ?zall ?zint ?zstr ?aBE ?aCI ?xE ?eSa ?eGa ?eGg ?eRow ?eEx ?eTy ?eK ?eHd ?eCl ?ohn ?ohk ?eMr ?eVe ?eBe ?bEx ?bHd ?bTy ?aER ?iER ?lER ?cER ?kER ?tER ?aFE ?lFE ?cFE ?kFE ?aTK ?lTK ?cTK ?kTK ?aPK ?lPK ?cPK ?kPK ?aNU ?lNU ?cNU ?kNU ?aIP ?lIP ?cIP ?kIP ?aTO ?lTO ?cTO ?kTO ?aCH ?lCH ?cCH ?kCH ?aLA ?lLA ?cLA ?kLA ?zmax ?zmin ?zabs ?zrange ?zrepr ?zisinstance ?zValueError
    (case aC => k_is); (case aB => k_is); (case aRV => k_is); (case lRV => k_is); (case cRV => k_is); (case kRV => k_is); (case aRP => k_is); (case lRP => k_is)
    (case cRP => k_is); (case kRP => k_is); (case aBI => k_is); (case iBI => k_is); (case lBI => k_is); (case cBI => k_is); (case kBI => k_is); (case aPA => k_is)
    (case rPA => k_is); (case iPA => k_is); (case lPA => k_is); (case cPA => k_is); (case kPA => k_is); (case aST => k_is); (case iST => k_is); (case lST => k_is)
    (case cST => k_is); (case kST => k_is); (case aPI => k_is); (case iPI => k_is); (case lPI => k_is); (case cPI => k_is); (case lcd => k_is); (case vcd => exact rfl)
    (case lcc => k_is); (case tpa => k_is); (case sbs => k_is); (case sat => ks_is); (case sty => k_is); (case sdc => k_is); (case sfi => k_is); (case pg => k_is)
    (case hd => k_is); (case po => k_is); (case sa => k_is); (case mk => k_is); (case kc => k_is); (case rdC => k_is); (case gaC => k_is); (case nN => k_is)
    (case nI => k_is); (case nO => k_is); (case nK => k_is); (case aMo => k_is); (case aMd => k_is); (case aDg => k_is); (case aP => k_is); (case lP => k_is)
    (case qP => k_keys); (case oP => decide); (case kP => exact rfl); (case aW => k_is); (case lW => k_is); (case u1 => k_is); (case v1 => k_is); (case vx1 => k_is)
    (case vy1 => k_is); (case vz1 => decide); (case u2 => k_is); (case v2 => k_is); (case vx2 => k_is); (case vy2 => k_is); (case vz2 => decide); (case u3 => k_is)
    (case v3 => k_is); (case vx3 => k_is); (case vy3 => k_is); (case vz3 => decide); (case u4 => k_is); (case v4 => k_is); (case vx4 => k_is); (case vy4 => k_is)
    (case vz4 => decide); (case u5 => k_is); (case v5 => k_is); (case vx5 => k_is); (case vy5 => k_is); (case vz5 => decide); (case u6 => k_is); (case v6 => k_is)
    (case vx6 => k_is); (case vy6 => k_is); (case vz6 => decide); (case u7 => k_is); (case v7 => k_is); (case vx7 => k_is); (case vy7 => k_is); (case vz7 => decide)
    (case u8 => k_is); (case v8 => k_is); (case vx8 => k_is); (case vy8 => k_is); (case vz8 => decide); (case u9 => k_is); (case v9 => k_is); (case vx9 => k_is)
    (case vy9 => k_is); (case vz9 => decide); (case zsuper => k_is); (case zlen => k_is); (case zall => k_is); (case zint => k_is); (case zstr => k_is); (case aBE => k_is)
    (case aCI => k_is); (case xE => k_is); (case eSa => k_is); (case eGa => k_is); (case eGg => k_is); (case eRow => k_is); (case eEx => k_is); (case eTy => k_is)
    (case eK => k_is); (case eHd => k_is); (case eCl => k_is); (case ohn => k_is); (case ohk => k_is); (case eMr => k_is); (case eVe => k_is); (case eBe => k_is)
    (case bEx => k_is); (case bHd => k_is); (case bTy => k_is); (case aER => k_is); (case iER => k_is); (case lER => k_is); (case cER => k_is); (case kER => k_is)
    (case tER => k_is); (case aFE => k_is); (case lFE => k_is); (case cFE => k_is); (case kFE => k_is); (case aTK => k_is); (case lTK => k_is); (case cTK => k_is)
    (case kTK => k_is); (case aPK => k_is); (case lPK => k_is); (case cPK => k_is); (case kPK => k_is); (case aNU => k_is); (case lNU => k_is); (case cNU => k_is)
    (case kNU => k_is); (case aIP => k_is); (case lIP => k_is); (case cIP => k_is); (case kIP => k_is); (case aTO => k_is); (case lTO => k_is); (case cTO => k_is)
    (case kTO => k_is); (case aCH => k_is); (case lCH => k_is); (case cCH => k_is); (case kCH => k_is); (case aLA => k_is); (case lLA => k_is); (case cLA => k_is)
    (case kLA => k_is); (case zmax => k_is); (case zmin => k_is); (case zabs => k_is); (case zrange => k_is); (case zrepr => k_is); (case zisinstance => k_is); (case zValueError => k_is)
