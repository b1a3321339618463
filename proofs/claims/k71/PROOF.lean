import PyProof.Rows.All
import Wide.All
import OpenK.AllK
import Wide.FinOn
import KE.KSuper
import HandS.Nested
import HandS.ClsMeth
import HandS.Star
import HandS.Ends
import HandS.Words
import HandS.List
import HandS.Exc
import HandS.ExcIs
import HandS.ExcField
import HandS.ExcInit
import HandS.WordsExc
import HandS.ExcValue
import HandS.Strs
import PyProof.Rows.SortShellAny
import HandS.TupAny
import HandS.ForMost
import HandS.IsInst
import HandS.Wide
import HandS.More
import HandS.Walk
import HandS.RaiseMore
import HandS.NoneIn
import HandS.TupLen
import HandS.MapObj
import HandS.Style
import PyProof.StrLawsRepr
import PySem.Challenge.RW_stepblocks_k71_interfaces_with_merged_ou
set_option Elab.async false
set_option linter.all false
set_option maxRecDepth 100000
set_option maxHeartbeats 8000000
/-! OwnA: super().__init__ of plain classes; a class held by a local, made; a def held by a local, called with a star. -/
namespace Own
open PySem PySem.Spec PyProof.Rows L2 NdefX ClX StX

/-! ### a block at its own code -/
structure PSA (X : Cx) (b0 : List Stmt) (sts : List Stmt) (t : TS) : Prop where
  run : ∀ (pins : List (Addr × Obj)) (s : Shared) (σ : L2.St) (H : Hp) (D : Ends), Inv X pins σ H s → t D σ H → _root_.PySem.wpAt (model X.prog X.w) X.A (.func b0 X.env) (execs sts X.env) (SP X pins D) X.xe s
theorem psa_of {X : Cx} {b0 sts : List Stmt} {t : TS} (h : PSs X sts t) : PSA X b0 sts t := ⟨fun pins s σ H D I q => wpAt_of_wpAny (h.run pins s σ H D I q)⟩
theorem psa_cons {X : Cx} {b0 rest : List Stmt} {st : Stmt} {t u : TS} (h1 : PS X st t) (h2 : PSA X b0 rest u) : PSA X b0 (st :: rest) (tSeq t u) := by
  refine ⟨fun pins s σ H D I q => PySem.ks_wpAt_execs_cons (wpAt_of_wpAny (thn (h1.run pins s σ H { D with nx := u D } I q) fun f s' hs => ?_))⟩
  cases f with
  | next =>
    obtain ⟨σ', H', I', q'⟩ := hs
    exact h2.run pins s' σ' H' D I' q'
  | brk => exact hs
  | cont => exact hs
  | ret u => exact hs

/-! ### super().m(e, ..) as a statement -/
/-- what the text says: the def's first parameter is slot 0; D: the class whose body holds the def; f2: the next class's method -/
structure SupK (K : PySem.W.Frag) (prog : Program) (f cda cc D : Addr) (fd : FuncData) (sf : Str) : Prop where
  fn : ∃ oc od osl, K.lookup f = some ⟨oc, od, .func fd, osl⟩
  par : ∃ ar, (fd.params.posonlyargs ++ fd.params.args).head? = some ar ∧ ar.arg = sf
  code : ∃ ccl cdd vs ccs file tf, K.lookup cda = some ⟨ccl, cdd, .fields vs, ccs⟩ ∧ vs[2]? = some (.str file tf) ∧ ((prog.main.file : Str) == file) = true
  cell : ∃ cl cld csl, K.lookup cc = some ⟨cl, cld, .cell (some (.ref D)), csl⟩
  top : (prog.main.scope.names.lookup ("super" : Str)).isSome = false
  st : PySem.W.nsIn K PySem.cStatics "thirdparty.any" = some none
/-- of an instance's class C -/
structure SupC (K : PySem.W.Frag) (C D : Addr) (m : Str) (f2 : Addr) : Prop where
  sub : PySem.W.mroIn K C (.ref D) = some true
  at_ : PySem.W.ks_superIn K C D m = some (some (.ref f2))
  ty : PySem.W.typeIn K (.ref f2) = some (.type "function")
  dcl : ∃ cdD, PySem.W.clsIn K D = some cdD
  fi : PySem.W.fnIn K f2 = true
def tSuper (K : PySem.W.Frag) (D : Addr) (m : Str) (f2 : Addr) (sp : Sp) (E : XK) (t : TA) : TS := fun D' σ H => ∃ x C dx fs, σ[0]? = some (some (.ref x)) ∧ H x = some (.ins C dx fs) ∧ SupC K C D m f2 ∧
  t σ H fun vs H1 => sp (.ref x :: vs) H1 (fun _ H2 => D'.nx σ H2) E
theorem psa_super {X : Cx} {CX : CXT} {k : Nat} {b0 rest : List Stmt} {p0 p1 apos pos spos : Pos} {m self : Str} {e : Expr} {es : List Expr} {t : TA} {u : TS} {f cda cc D f2 : Addr} {fd : FuncData} {sp : Sp} {E : XK} {pl : Sem Bool}
    (SK : SupK X.K X.prog f cda cc D fd self) (hfu : X.env.func = some f) (hco : X.env.code = .ref cda) (hcl : X.env.cells.lookup ("__class__" : Str) = some cc)
    (hks : X.env.kindOf "super" = some .globalImplicit) (hkc : X.env.kindOf "__class__" = some .free) (hN : X.N[0]? = some self) (hka : X.env.kindOf self = some .local) (hms : X.mg "super" = none)
    (F : FnR X.prog X.w X.K X.mg X.base CX k f2 sp) (hr : Room k X.A) (hx : Passes CX X E) (ha : PA X (e :: es) t) (hu : PSA X b0 rest u)
    (hm1 : (m == ("__class__" : Str)) = false := by decide +kernel)
    (hi : interactive X.env = false := by rfl) (hsw : swapsWith (.Call (.Attribute (.Call (.Name "super" p0) [] [] p1) m apos) (e :: es) [] pos) none spos.line X.env = pure false := by rfl)
    (hst : starEach (e :: es) X.env = (false, eval e X.env) :: starEach es X.env := by rfl) (hpl : (backTo pos (starEach es X.env)).any (·.1) = false := by rfl)
    (ht : eval (.Call (.Attribute (.Call (.Name "super" p0) [] [] p1) m apos) (e :: es) [] pos) X.env = (do
      let ov ← attributeBase (.Call (.Name "super" p0) [] [] p1) m X.env (eval (.Call (.Name "super" p0) [] [] p1) X.env)
      standAt apos.atName
      let (f, first) ← holding [ov] (getMethod ov m pl)
      callWith pos f first (backTo pos (starEach (e :: es) X.env)) []) := by rfl) :
    PSA X b0 (.Expr (.Call (.Attribute (.Call (.Name "super" p0) [] [] p1) m apos) (e :: es) [] pos) spos :: rest) (tSeq (tSuper X.K D m f2 sp E t) u) := by
  refine ⟨fun pins s σ H Dn I q => ?_⟩
  obtain ⟨x, C, dx, fs, hσ, hH, SC, q⟩ := q
  have KX := I.kIn
  obtain ⟨oc, od, osl, hf⟩ := SK.fn
  obtain ⟨ar, har, hself⟩ := SK.par
  obtain ⟨ccl, cdd, vs, ccs, file, tf, hcode, hvs, hfile⟩ := SK.code
  obtain ⟨cl, cld, csl, hcell⟩ := SK.cell
  obtain ⟨cdD, hD⟩ := SC.dcl
  obtain ⟨oD, hD1, hD2⟩ : ∃ oD, s.heap.get? D = some oD ∧ oD.data = .cls cdD := by
    unfold PySem.W.clsIn at hD
    split at hD
    · rename_i c d cd' sl ho
      cases hD
      exact ⟨_, KX _ _ ho, rfl⟩
    · cases hD
  obtain ⟨mA, O, rr, _, _, _⟩ := ins_get I.hok hH
  obtain ⟨odx, J, _⟩ := O.look
  obtain ⟨ml, hn, hl⟩ := id I.loc
  have hself' : ml ar.arg = some (.ref x) := by
    obtain ⟨w', rw', lk⟩ := hl 0 self (.ref x) hN hσ (.inl hka)
    rcases lk with ⟨_, e1⟩ | ⟨e1, _⟩
    · rw [hself, e1]
      exact congrArg some rw'
    · rw [hka] at e1
      rcases e1 with z | z <;> cases z
  obtain ⟨mb, hb1, hb2⟩ := I.mod.blt
  refine PySem.ks_wpAt_execs_cons (PySem.ks_wpAt_Expr_any (Q := fun f s' => match f with | .next => _root_.PySem.wpAt (model X.prog X.w) X.A (.func b0 X.env) (execs rest X.env) (SP X pins Dn) X.xe s' | f => SP X pins Dn f s') ?_ hi hsw)
  refine PySem.ks_wpAt_MethodCall (pl := pl) ?_ ht
  have e0 : s = ⟨s.heap, s.gens, s.drawn, s.toks, s.os⟩ := rfl
  refine PySem.ks_wpAt_super_base hks hkc hm1 hfu (KX _ _ hf) rfl har hco (KX _ _ hcode) rfl hvs hfile SK.top ?_
  refine PySem.W.ks_loadName_global I.ok.kind hks (Calls.loadGlobal_builtin (by rw [I.ok.glob]; exact I.mod.glob.keeps I.bk) hms (by rw [I.ok.blt]; exact hb1.keeps I.bk) ((hb2 "super" (by decide)).trans (by decide +kernel : bootBuiltins "super" = some (.type "super"))) ⟨rfl, ?_⟩)
  refine wpAny_loadName_free I.ok.kind hkc hcl ⟨_, KX _ _ hcell, rfl⟩ ?_
  refine wpAny_loadName_local I.ok.kind (by rw [hself]; exact hka) hn hself' ?_
  rw [e0]
  refine PySem.ks_wpAny_isType_cls hD1 hD2 ⟨rfl, ?_⟩
  refine PySem.ks_wpAny_call_super hD1 hD2 J.at_ J.cls (fun c e => ?_) (PySem.W.looks_mroIn KX SC.sub) (fun h' e k => ?_)
  · have z := J.no
    unfold PySem.W.notCls at z
    rw [e] at z
    exact Bool.noConfusion z
  have I1 : Inv X ((s.heap.objs.size, PySem.W.ks_superObj D x C) :: pins) σ H { s with heap := h', toks := s.toks } := pin_new I k (Nat.le_refl _) e (fun v z => nomatch z)
  have KX1 := I1.kIn
  cases hc : PySem.W.clsIn X.K C with
  | none =>
    have z := SC.at_
    unfold PySem.W.ks_superIn at z
    rw [hc] at z
    cases z
  | some cd =>
    have hm := SC.at_
    unfold PySem.W.ks_superIn at hm
    rw [hc] at hm
    obtain ⟨of, hof, hofc⟩ : ∃ of, h'.get? f2 = some of ∧ of.cls = .type "function" := by
      have ht' : (X.K.lookup f2).map (·.cls) = some (.type "function") := SC.ty
      cases z : X.K.lookup f2 with
      | none => rw [z] at ht'; cases ht'
      | some of => rw [z] at ht'; exact ⟨of, KX1 _ _ z, Option.some.inj ht'⟩
    refine PySem.ks_wpAny_getMethod_super e (PySem.W.looks_opaque KX1 SK.st) (l₀ := cd.mro) ?_ rfl KX1 hm hof hofc (PySem.W.ks_ne KX J hc) hm1 ?_
    · exact fun A Q E s k q => wpAny_bind ((PySem.W.looks_clsIn KX1 hc) A _ E s k (wpAny_pure q))
    have I2 : Inv X ((h'.objs.size, PySem.W.methodObj (.ref f2) (.ref x)) :: (s.heap.objs.size, PySem.W.ks_superObj D x C) :: pins) σ H { s with heap := h'.push (PySem.W.methodObj (.ref f2) (.ref x)), toks := s.toks + 1 } :=
      pin_new (s := { s with heap := h', toks := s.toks }) I1 (fun _ _ z => Heap.get?_push_of_some _ z) (Nat.le_refl _) (Heap.get?_push_size h' rfl) (fun v z => nomatch z)
    have hq := pin_at I2
    have hL : h'.objs.size ≠ X.env.locals := (I2.pin (h'.objs.size, PySem.W.methodObj (.ref f2) (.ref x)) (List.mem_append_right _ List.mem_cons_self)).2.2.1
    have hb0 : X.base.get? h'.objs.size = none := base_none I1 (Nat.le_refl _)
    refine PySem.W.callWith_M (K := X.K) (h₀ := X.base) (first := []) I.ok.mod.kin (news_at hL hb0 hq) List.mem_cons_self SC.fi (thn (ha.run pos _ _ σ H _ I2 q) fun us s3 ⟨vs3, H2, I3, rv, q2⟩ => ⟨⟨pin_at I3, I3.kIn⟩, ?_⟩) hst hpl
    have z := wpAny_call (PySem.W.method_call (pin_at I3) (run_fnR (us := .ref x :: us) (vs := .ref x :: vs3) F hr hx I3 (.cons rfl rv) q2))
    refine thn z fun v4 s4 ⟨v5, H5, I5, _, q5⟩ => ?_
    exact hu.run pins s4 σ H5 Dn (unpin (unpin I5)) q5

/-! ### a def with the cell __class__, by its body -/
theorem fnr_super {CX : CXT} {P : Program} {w : World} {K : PySem.W.Frag} {mg : Str → Option Value} {base : Heap} {k : Nat} {f cc D : Addr} {F : NF} {N ps : List Str} {sp : Sp} {oc doc pm ct : Value} {od an : Option Addr} {osl : Array (Option Value)}
    (lk : K.lookup f = some ⟨oc, od, .func (PySem.W.fnX F.name F.qual F.params F.body F.scope F.cl .none .none doc pm an (.ref F.c) ct), osl⟩) (hcd : PySem.W.codeIn K (.ref F.c) F.qual = true) (hcl : F.cl = [(("__class__" : Str), cc)])
    (hcell : ∃ cl cld csl, K.lookup cc = some ⟨cl, cld, .cell (some (.ref D)), csl⟩) (S : NScope N ps ["__class__"] F.scope)
    (hb : ∀ (us : List Value), us.length = ps.length → bindArgs (PySem.W.fnX F.name F.qual F.params F.body F.scope F.cl .none .none doc pm an (.ref F.c) ct) ⟨us, []⟩ = pure (ps.zip us))
    (len : ∀ vs H Q E, sp vs H Q E → vs.length = ps.length)
    (hbody : ∀ (A : Around) (outer : List Env) (s : Shared) (H : Hp) (vs : List V) (Q : VK) (E : XK), Room k (A.deeper (envF F f s.heap.objs.size)) → sp vs H Q E →
      ∃ t, PSA (ncx CX P w K mg base N F f A outer s H E) F.body F.body t ∧ t { nx := fun _ H' => Q .non H', rt := Q } (startF N vs [some (.ref D)]) H) :
    FnR P w K mg base CX (k + 1) f sp := by
  intro A outer s H us vs Q E hr e0 r hsp
  have hl := len _ _ _ _ hsp
  have KB : K.In base := e0.mod.kin
  have KX : K.In s.heap := KB.keeps fun b o e => (e0.bs b o e).1
  have lim : s.heap.NoLimit := e0.mod.nolimit.keeps fun b o e => (e0.bs b o e).1
  obtain ⟨cl, cld, csl, hc⟩ := hcell
  have hcl1 : ∀ y c, F.cl.lookup y = some c → y = "__class__" ∧ c = cc := fun y c e => by
    rw [hcl] at e
    by_cases hy : y = ("__class__" : Str)
    · subst hy
      have e2 : some cc = some c := by
        rw [← e]
        simp [List.lookup]
      exact ⟨rfl, (Option.some.inj e2).symm⟩
    · have hb0 : (y == ("__class__" : Str)) = false := beq_eq_false_iff_ne.mpr hy
      rw [List.lookup_cons, hb0] at e
      cases e
  have C : CellsAt F.cl ["__class__"] [some (.ref D)] s.heap H := by
    refine ⟨rfl, fun y c e => ?_, fun x y c e1 e2 => ?_, fun i y e => ?_⟩
    · obtain ⟨_, rfl⟩ := hcl1 y c e
      exact ⟨(e0.bs _ _ (KB _ _ hc)).2, some (.ref D), ⟨_, KX _ _ hc, rfl⟩⟩
    · exact (hcl1 x c e1).1.trans (hcl1 y c e2).1.symm
    · cases i with
      | zero =>
        cases e
        refine ⟨cc, by rw [hcl]; simp [List.lookup], fun v e2 => ?_⟩
        cases e2
        exact ⟨.ref D, rfl, ⟨_, KX _ _ hc, rfl⟩⟩
      | succ i => cases e
  refine codeAny_call_function hr.depth (KX _ _ lk) rfl S.co S.gen rfl (PySem.W.codeRec_of KX hcd) ?_
  rw [hb us (by rw [← r.length]; exact hl)]
  refine wpAny_pure (wpAny_newFunctionEnv S.nocell (fun ⟨n, _⟩ hy => S.par n (List.of_mem_zip hy).1) (fun h₁ hns hsb => ⟨lim.fresh _ hsb, ?_⟩) S.kind)
  show codeAny _ _ (.func F.body (envF F f s.heap.objs.size)) _ _
  refine PySem.ks_codeAny_funcAt ?_
  have kp : ∀ b o, s.heap.get? b = some o → h₁.get? b = some o := fun b o e => hsb.extBut b o (Nat.ne_of_lt (Heap.lt_size e)) (Heap.get?_push_of_some _ e)
  obtain ⟨t, ht, hq⟩ := hbody A outer s H vs Q E (hr.deeper _) hsp
  have I : Inv (ncx CX P w K mg base N F f A outer s H E) [] (startF N vs [some (.ref D)]) H { s with heap := h₁, toks := s.toks + (ps.zip us).length } := inv_startN S hr.hd e0 hl r C hns kp
  refine PySem.ks_wpAt_mono (ht.run [] _ (startF N vs [some (.ref D)]) H _ I hq) (fun fl s' hs => ?_) fun e s' hs => hs
  have fin : ∀ {σ' : L2.St} {H' : Hp} {v : V} {u : Value}, Inv (ncx CX P w K mg base N F f A outer s H E) [] σ' H' s' → L2.RelV v u → Q v H' → CE outer P w H s Q u s' :=
    fun {σ' H' v u} J rv q => ⟨v, H', J.os, J.bare, J.base, J.hok, rv, q⟩
  cases fl with
  | ret u =>
    obtain ⟨v, σ', H', J, rv, q⟩ := hs
    exact fin J rv q
  | next =>
    obtain ⟨σ', H', J, q⟩ := hs
    exact fin (v := V.non) (u := Value.none) J rfl q
  | brk =>
    obtain ⟨_, _, _, q⟩ := hs
    exact False.elim q
  | cont =>
    obtain ⟨_, _, _, q⟩ := hs
    exact False.elim q

/-! ### ways joined behind a statement -/
def tJoin (t u : TS) : TS := fun D σ H => ∃ Mid : L2.St → Hp → Prop, t { D with nx := Mid } σ H ∧ ∀ σ' H', Mid σ' H' → u D σ' H'
theorem pss_join {X : Cx} {st : Stmt} {rest : List Stmt} {t u : TS} (h1 : PS X st t) (h2 : PSs X rest u) : PSs X (st :: rest) (tJoin t u) := by
  refine ⟨fun pins s σ H D I h => ?_⟩
  obtain ⟨Mid, q1, q2⟩ := h
  refine wpAny_execs_cons (thn (h1.run pins s σ H _ I q1) fun f s' hs => ?_)
  cases f with
  | next =>
    obtain ⟨σ', H', I', m⟩ := hs
    exact h2.run pins s' σ' H' D I' (q2 σ' H' m)
  | brk => exact hs
  | cont => exact hs
  | ret u => exact hs

/-! ### x(e, ..), x a local that holds the class at C -/
section
variable {X : Cx} {CX : CXT} {k i : Nat} {f C : Addr} {sp : Sp} {E : XK} {x : Str} {e : Expr} {es : List Expr} {te : TE} {t : TA} {p pos sp_ : Pos}
def tMakeL (i : Nat) (C : Addr) (sp : Sp) (E : XK) (t : TA) : TE := fun σ H Q => σ[i]? = some (some (.ref C)) ∧ tMakeR C sp E t σ H Q
theorem pe_makeL (M : Mk X.K C f) (F : FnR X.prog X.w X.K X.mg X.base CX k f sp) (hr : Room (k + 1) X.A) (hN : X.N[i]? = some x) (hv : Vis X.env.scope x) (hx : Passes CX X E) (ha : PA X (e :: es) t)
    (hdb : (x == ("__debug__" : Str)) = false := by decide) (hcd : (x == ("__classdict__" : Str)) = false := by decide)
    (he : starEach (e :: es) X.env = (false, eval e X.env) :: starEach es X.env := by rfl) (hpl : (backTo pos (starEach es X.env)).any (·.1) = false := by rfl) : PE X (.Call (.Name x p) (e :: es) [] pos) (tMakeL i C sp E t) := by
  refine ⟨fun pins s σ H Q I h => ?_⟩
  obtain ⟨hs, h⟩ := h
  refine wpAny_Call_Name_kw (thn ((pe_var (pos := p) hN hv hdb hcd).run pins s σ H (fun v H1 => v = .ref C ∧ H1 = H) I ⟨.ref C, hs, rfl, rfl⟩) fun u s1 ⟨v, H1, I1, r1, q1⟩ => ?_)
  obtain ⟨rfl, rfl⟩ := q1
  cases r1
  refine PySem.W.callWith_K (h₀ := X.base) I.ok.mod.kin M.kp (thn (ha.run pos pins s1 σ _ _ I1 h) fun us s2 ⟨vs, H2, I2, r, q⟩ => ⟨I2.kIn, ?_⟩) he hpl
  exact run_makeR M F hr hx I2 r q
/-- x(*y), x a local that holds one of several defs -/
def tCallLS (X : Cx) (CX : CXT) (k i : Nat) (E : XK) (te : TE) : TE := fun σ H Q => ∃ f sp, σ[i]? = some (some (.ref f)) ∧ FnR X.prog X.w X.K X.mg X.base CX k f sp ∧ PySem.W.keepIn X.K (.ref f) = true ∧
  te σ H fun y H1 => ∃ a xs, y = V.ref a ∧ (SqT X.K H1 a xs ∨ SqL X.K H1 a xs) ∧ sp xs H1 Q E
theorem pe_callLS (hr : Room k X.A) (hN : X.N[i]? = some x) (hv : Vis X.env.scope x) (hx : Passes CX X E) (he : PE X e te) (hdb : (x == ("__debug__" : Str)) = false := by decide) (hcd : (x == ("__classdict__" : Str)) = false := by decide)
    (hst : starEach [.Starred e sp_] X.env = [(true, eval e X.env)] := by rfl) : PE X (.Call (.Name x p) [.Starred e sp_] [] pos) (tCallLS X CX k i E te) := by
  refine ⟨fun pins s σ H Q I h => ?_⟩
  obtain ⟨f, sp, hs, F, hk, h⟩ := h
  refine wpAny_Call_Name_kw (thn ((pe_var (pos := p) hN hv hdb hcd).run pins s σ H (fun v H1 => v = .ref f ∧ H1 = H) I ⟨.ref f, hs, rfl, rfl⟩) fun u s1 ⟨v, H1, I1, r1, q1⟩ => ?_)
  obtain ⟨rfl, rfl⟩ := q1
  cases r1
  refine PySem.W.callWith_S (h₀ := X.base) I.ok.mod.kin hk (thn (he.run pins s1 σ _ _ I1 h) fun v s2 ⟨y, H2, I2, ry, a, xs, ey, hxs, q⟩ => ?_) hst
  subst ey
  obtain rfl : v = Value.ref a := ry
  exact star_any I2 hxs fun us s3 I3 rv => ⟨I3.kIn, wpAny_call (run_fnR F hr hx I3 rv q)⟩
end
end Own
/-! OwnB: defs that ask that no repr runs around them; repr of data; str of an own instance. -/
namespace Own
open PySem PySem.Spec PyProof.Rows L2
/-! ### repr of data: where no repr runs around -/
theorem call_reprD {X : Cx} (hg : X.A.guards = some []) (hu : X.A.units + 64 < cLine) : CallR X (.builtin "repr") (fun xs H Q => ∃ (a : Addr) (d : PyData), xs = [.ref a] ∧ Dp X.K H (.ref a) d ∧ d.showable = true ∧ d.hasDict = false ∧ d.depth ≤ 60 ∧ d.shown.length ≤ sizeLine ∧ Q (.str d.shown) H) := by
  intro pins s σ H xs us Q I r h
  obtain ⟨a, d, rfl, hd, hs, hn, h60, hz, q⟩ := h
  obtain ⟨u, rfl, ru⟩ := vals1 r
  have hu' : u = .ref a := ru
  subst hu'
  obtain ⟨as, rd⟩ := Dp.reads I d _ _ hd rfl
  exact repr_of_reads' rd hs (PyData.noDict_hsm hn) hg (by omega) (fun _ _ e => e) (fun h' u tk hk => ⟨.str d.shown, H, I.kept hk, ⟨u, rfl⟩, q⟩) hz
/-! ### str(o) by the class's own __str__ -/
theorem call_strO {X : Cx} {C f : Addr} {k : Nat} {sp : Sp} (F : FnR X.prog X.w X.K X.mg X.base CX0 k f sp) (hr : Room (k + 2) X.A) (hs : PySem.W.findIn X.K (.ref C) "__str__" = some (some (.ref f))) (hf : PySem.W.isFn X.K (.ref f) = true) :
    CallR X (.type "str") (fun xs H Q => ∃ (x dx : Addr) (fs : List (Str × V)), xs = [.ref x] ∧ H x = some (.ins C dx fs) ∧ sp [.ref x] H (fun v H' => ∃ y, v = .str y ∧ Q v H') E0) := by
  intro pins s σ H xs us Q I r h
  obtain ⟨x, dx, fs, rfl, hx, q⟩ := h
  obtain ⟨u, rfl, ru⟩ := vals1 r
  have hu' : u = .ref x := ru
  subst hu'
  obtain ⟨mA, O, _⟩ := ins_get I.hok hx
  obtain ⟨od, J, _⟩ := O.look
  refine PySem.W.kso_call (hr.in1.in1.units0) I.kIn J hs hf (wpAny_call (codeAny_mono (F X.A.in1.in1 X.stack s H [.ref x] [.ref x] _ E0 hr.in1.in1 I.env0.in1.in1 (.cons rfl .nil) q) fun r s' hq => ?_))
  cases r with
  | error e => exact False.elim hq
  | ok fl =>
    cases fl with
    | ret u =>
      obtain ⟨v, H', I', rv, ⟨y, rfl, q'⟩⟩ := I.after hq
      obtain ⟨t, rfl⟩ := rv
      exact ⟨.str y, H', I', ⟨t, rfl⟩, q'⟩
    | next => exact False.elim hq
    | brk => exact False.elim hq
    | cont => exact False.elim hq
/-! ### a def that is called where no repr runs -/
structure FnG (P : Program) (w : World) (K : PySem.W.Frag) (mg : Str → Option Value) (base : Heap) (CX : CXT) (k : Nat) (f : Addr) (fd : FuncData) (ps : List Str) (sp : Sp) : Prop where
  len : ∀ vs H Q E, sp vs H Q E → vs.length = ps.length
  run : ∀ (A : Around) (outer : List Env) (s : Shared) (H : Hp) (args : Args) (us : List Value) (vs : List V) (Q : VK) (E : XK), A.guards = some [] → Room k A → Env0 P w K mg base A outer s H → BindsTo s fd args (ps.zip us) → Vals vs us → sp vs H Q E →
    codeAny (model P w) A (.call (.ref f) args) (CR CX outer P w H s Q E) s
theorem fng_of {CX : CXT} {P : Program} {w : World} {K : PySem.W.Frag} {mg : Str → Option Value} {base : Heap} {k : Nat} {f : Addr} {name qual : Str} {params : Arguments} {body : List Stmt} {scope : Scope} {dV kV doc pm cdv ct oc : Value} {an od : Option Addr}
    {osl : Array (Option Value)} {N ps : List Str} {sp : Sp} (lk : K.lookup f = some ⟨oc, od, .func (PySem.W.fnOf name qual params body scope dV kV doc pm an cdv ct), osl⟩) (hcd : PySem.W.codeIn K cdv qual = true) (S : FnScope N ps scope)
    (len : ∀ vs H Q E, sp vs H Q E → vs.length = ps.length)
    (hbody : ∀ (A : Around) (outer : List Env) (s : Shared) (H : Hp) (vs : List V) (Q : VK) (E : XK), (A.deeper (envOfC qual scope s.heap.objs.size f cdv)).guards = some [] → Room k (A.deeper (envOfC qual scope s.heap.objs.size f cdv)) → sp vs H Q E →
      ∃ t, PSs (cxOf CX P w K mg base N qual scope f cdv A outer s H E) body t ∧ t { nx := fun _ H' => Q .non H', rt := Q } (start N vs) H) :
    FnG P w K mg base CX (k + 1) f (PySem.W.fnOf name qual params body scope dV kV doc pm an cdv ct) ps sp := by
  refine ⟨len, fun A outer s H args us vs Q E hg hr e0 hb r hsp => ?_⟩
  have hl := len _ _ _ _ hsp
  have KX : K.In s.heap := e0.mod.kin.keeps fun b o e => (e0.bs b o e).1
  have lim : s.heap.NoLimit := e0.mod.nolimit.keeps fun b o e => (e0.bs b o e).1
  have hkind : ∀ y ∈ ps.zip us, scope.names.lookup y.1 = some .local ∨ (scope.names.lookup y.1 = some .cell ∧ ((cellsFrom (s.heap.objs.size + 1) scope.names []).lookup y.1).isSome = true) := fun ⟨n, v⟩ hy => by
    rcases S.par n (List.of_mem_zip hy).1 with q | q
    · exact .inl q
    · exact .inr ⟨q, PySem.W.cellsFrom_some _ _ _ (.inl q)⟩
  refine codeAny_call_function hr.depth (KX _ _ lk) rfl S.co S.gen rfl (PySem.W.codeRec_of KX hcd) (hb _ _ _ _ ?_)
  refine wpAny_newFunctionEnv_cells S.kind hkind fun env he s1 x => ?_
  subst he
  refine ⟨lim.keeps x.toInCall.keep, codeAny_func ?_⟩
  obtain ⟨t, ht, hq⟩ := hbody A outer s H vs Q E hg (hr.deeper _) hsp
  have I : Inv (cxOf CX P w K mg base N qual scope f cdv A outer s H E) [] (start N vs) H s1 := inv_start S hr.hd e0 hl r x
  refine wpAny_mono (ht.run [] s1 (start N vs) H _ I hq) (fun fl s' hs => ?_) fun e s' hs => hs
  have fin : ∀ {σ' : L2.St} {H' : Hp} {v : V} {u : Value}, Inv (cxOf CX P w K mg base N qual scope f cdv A outer s H E) [] σ' H' s' → RelV v u → Q v H' → CE outer P w H s Q u s' :=
    fun {σ' H' v u} J rv q => ⟨v, H', J.os, J.bare, J.base, J.hok, rv, q⟩
  cases fl with
  | ret u =>
    obtain ⟨v, σ', H', J, rv, q⟩ := hs
    exact fin J rv q
  | next =>
    obtain ⟨σ', H', J, q⟩ := hs
    exact fin (v := V.non) (u := Value.none) J rfl q
  | brk =>
    obtain ⟨_, _, _, q⟩ := hs
    exact False.elim q
  | cont =>
    obtain ⟨_, _, _, q⟩ := hs
    exact False.elim q
theorem fun_okG {P : Program} {w : World} {K : PySem.W.Frag} {mg : Str → Option Value} {base : Heap} {x qual : Str} {st : Stmt} {f : Addr} {fd : FuncData} {N ps : List Str} {k : Nat} {sp : Sp} (F : Fun K x qual st f fd) (S : FnScope N ps (defScope st)) (len : ∀ vs H Q E, sp vs H Q E → vs.length = ps.length)
    (hbody : ∀ (cdv : Value) (A : Around) (outer : List Env) (s : Shared) (H : Hp) (vs : List V) (Q : VK) (E : XK), (A.deeper (envOfC qual (defScope st) s.heap.objs.size f cdv)).guards = some [] → Room k (A.deeper (envOfC qual (defScope st) s.heap.objs.size f cdv)) → sp vs H Q E →
      ∃ t, PSs (cxOf CX0 P w K mg base N qual (defScope st) f cdv A outer s H E).nox (defBody st) t ∧ t { nx := fun _ H' => Q .non H', rt := Q } (start N vs) H) : FnG P w K mg base CX0 (k + 1) f fd ps sp := by
  obtain ⟨oc, od, kV, doc, pm, an, cdv, ct, osl, rfl, lk, hcd⟩ := F.ex
  refine fng_of lk hcd S len fun A outer s H vs Q E hg hr hsp => ?_
  obtain ⟨t, h, q⟩ := hbody cdv A outer s H vs Q E hg hr hsp
  exact ⟨t, h.nox, q⟩
/-! ### the law's end for such a def -/
theorem law_callG {P : Program} {w : World} {K : PySem.W.Frag} {mg mb : Str → Option Value} {CX : CXT} {k : Nat} {fa a : Addr} {fd : FuncData} {x : Str} {sp : Sp} {s₁ : Shared} {vs : List Value} {ns : List Int}
    (KX : K.In s₁.heap) (hns : s₁.heap.Ns mainGlobals mg) (hb : s₁.heap.Ns builtinsNs mb) (hbb : ∀ x : Str, x ≠ "__name__" → mb x = bootBuiltins x) (hlim : s₁.heap.NoLimit) (hg : s₁.gens = #[])
    (ha : s₁.heap.get? a = some { cls := .type "list", data := .seq vs.toArray }) (hi : IntsAre vs ns) (hl : ns.length ≤ sizeLine) (hr : Room k callerA)
    (F : ∀ base : Heap, K.In base → base.Ns mainGlobals mg → FnG P w K mg base CX k fa fd [x] sp) (hbind : ∀ (s : Shared) (u : Value), BindsTo s fd ⟨[u], []⟩ [(x, u)])
    (hsp : ∀ H : Hp, Only H → SqL K H a (ns.map V.int) → sp [.ref a] H (fun v _ => v = .bl true) fun _ _ _ => False)
    (hCX : ∀ H e s', CX [] H s₁ (fun _ _ _ => False) e s' → False) :
    codeAny (model P w) callerA (.call (.ref fa) ⟨[.ref a], []⟩) (fun r s' => r = .ok (.ret (.bool true)) ∧ OldK s₁.heap s'.heap ∧ s'.os = s₁.os ∧ AllBare s'.gens) s₁ := by
  have rv := vals_ints hi
  have lenV := hi.length
  have core : ∀ H : Hp, Only H → SqL K H a (ns.map V.int) → HOk P w H s₁.heap → (∀ b, H b ≠ none → b = a) → (H a ≠ none → K.lookup a = none) →
      codeAny (model P w) callerA (.call (.ref fa) ⟨[.ref a], []⟩) (fun r s' => r = .ok (.ret (.bool true)) ∧ OldK s₁.heap s'.heap ∧ s'.os = s₁.os ∧ AllBare s'.gens) s₁ := by
    intro H hO hS hok hA hK
    have base_of : ∀ {b : Addr} {o : Obj}, s₁.heap.get? b = some o → H b = none → (hidT s₁.heap H).get? b = some o := fun e n => hidT_get e n
    have noA : ∀ {b : Addr} {o : Obj} {es : Array DictEntry} {ep : Nat}, s₁.heap.get? b = some o → o.data = .dict es ep → H b = none := fun {b o es ep} e d => by
      cases q : H b with
      | none => rfl
      | some u =>
        have e' : b = a := hA b (by rw [q]; simp)
        subst e'
        rw [ha] at e; cases e
        have d' : Data.seq vs.toArray _ = Data.dict es ep := d
        cases d'
    have nsK : ∀ {b : Addr} {m : Str → Option Value}, s₁.heap.Ns b m → (hidT s₁.heap H).Ns b m := fun {b m} ⟨o, es, ep, e, d, r⟩ => ⟨o, es, ep, base_of e (noA e d), d, r⟩
    have hKb : K.In (hidT s₁.heap H) := fun b o e => base_of (KX b o e) (by
      cases q : H b with
      | none => rfl
      | some u =>
        have e' : b = a := hA b (by rw [q]; simp)
        subst e'
        rw [hK (by rw [q]; simp)] at e; cases e)
    have hM : Mod K mg (hidT s₁.heap H) := ⟨hKb, nsK hns, ⟨mb, nsK hb, hbb⟩, let ⟨mc, h1, h2⟩ := hlim; ⟨mc, nsK h1, h2⟩⟩
    have e0 : Env0 P w K mg (hidT s₁.heap H) callerA [] s₁ H := ⟨rfl, hM, fun b o e => of_hidT e, Nat.le_of_eq (hidT_size _ _), trivial, fun b hb => absurd (show b ∈ ([] : List Addr) from hb) (by simp), hok, .of_eq hg⟩
    refine codeAny_mono ((F _ hKb (nsK hns)).run callerA [] s₁ H ⟨[.ref a], []⟩ [.ref a] [.ref a] _ _ rfl hr e0 (hbind s₁ (.ref a)) (.cons rfl .nil) (hsp H hO hS)) fun r s' h => ?_
    cases r with
    | error e => exact (hCX H e s' h).elim
    | ok fl =>
      cases fl with
      | next => exact False.elim h
      | brk => exact False.elim h
      | cont => exact False.elim h
      | ret u =>
        obtain ⟨v, H', os, bare, un, hok', r', q⟩ := h
        have q' : v = .bl true := q
        subst q'
        obtain rfl : u = Value.bool true := r'
        refine ⟨rfl, OldK.of_keep fun b o e => ?_, os, bare⟩
        cases q : H b with
        | none => exact un.keep b o e q (by intro z; exact absurd (show b ∈ ([] : List Addr) from z) (by simp)) (by simp)
        | some u =>
          rcases hO b with z | ⟨ob, xs, z⟩
          · rw [q] at z; cases z
          · have z2 := un.frzs b ob _ z
            obtain ⟨e1, _⟩ := hok b _ z
            obtain ⟨e2, _⟩ := hok' b _ z2
            rw [e] at e1; cases e1
            exact e2
  cases hk : K.lookup a with
  | some o =>
    have e := KX a o hk
    rw [ha] at e
    cases e
    refine core (fun _ => none) (fun _ => .inl rfl) (.inr ⟨_, vs.toArray, _, hk, rfl, rfl, rfl, by rw [List.size_toArray, lenV]; exact hl, by simpa using rv⟩) (fun b u z => by have z' : (none : Option HO) = some u := z; cases z') (fun b z => absurd rfl z) fun z => absurd rfl z
  | none =>
    refine core (fun b => if b = a then some (.frz { cls := .type "list", data := .seq vs.toArray } (.lst (ns.map V.int))) else none) (fun b => ?_) (.inl (.inr ⟨{ cls := .type "list", data := .seq vs.toArray }, if_pos rfl⟩)) (fun b u z => ?_) (fun b z => ?_) fun _ => hk
    · by_cases hb : b = a
      · exact .inr ⟨_, _, if_pos hb⟩
      · exact .inl (if_neg hb)
    · by_cases hb : b = a
      · have z' := (if_pos hb).symm.trans z
        cases z'
        subst hb
        exact ⟨ha, by rw [List.length_map]; exact hl, vs, _, rv, ha⟩
      · have z' := (if_neg hb).symm.trans z
        cases z'
    · by_cases hb : b = a
      · exact hb
      · exact absurd (if_neg hb) z
theorem walk_ofG {l : PySem.W.OpenLaw} {n k : Nat} {q : Program} {loose : List Str} {XP : (Str → Option Value) → Heap → Prop} {YP : World → Heap → Prop} {d : DefRec} {K : Params → PySem.W.Frag} {sp : World → Sp} {x : Str}
    (hn : l.most = some n) (hn2 : n ≤ sizeLine) (hdf : d.params.defaults = []) (hr : Room k callerA)
    (hY : ∀ (w : World) (h : Heap), YP w h → (K w.params).In h)
    (F : ∀ (w : World) (mg : Str → Option Value) (fa : Addr) (h : Heap), (K w.params).In h → h.Ns mainGlobals mg → mg d.name = some (.ref fa) →
      ∃ fd : FuncData, (∀ (s : Shared) (u : Value), BindsTo s fd ⟨[u], []⟩ [(x, u)]) ∧
        ∀ base : Heap, (K w.params).In base → base.Ns mainGlobals mg → FnG l.prog w (K w.params) mg base CX0 k fa fd [x] (sp w))
    (hsp : ∀ (w : World) (H : Hp) (a : Addr) (ns : List Int), ns.length ≤ n → Only H → SqL (K w.params) H a (ns.map V.int) → sp w [.ref a] H (fun v _ => v = .bl true) fun _ _ _ => False) :
    PySem.W.WalkO q loose XP YP l.row.toRowW d [] (fun f vs => PySem.call f vs) := by
  refine Att.attach_call hn hdf fun w s₀ s₁ mg mb fa o pm cd doc a vs ns G Y ho hd hcd hmg hobj hints hlen hg => ?_
  have KX := hY w _ Y
  obtain ⟨fd, hb, hF⟩ := F w mg fa _ KX G.T.g hmg
  exact law_callG KX G.T.g G.T.b G.T.builtins G.T.nolimit hg hobj hints (Nat.le_trans hlen hn2) hr hF hb (fun H hO hS => hsp w H a ns hlen hO hS) fun H e s' z => z
/-! ### a written dict has no other key -/
theorem miss_of {K : PySem.W.Frag} {d : Addr} {es : Array DictEntry} {n : Nat} (l : K.lookup d = some ⟨.type "dict", none, .dict es n, #[]⟩) {ks : List Str} (hk : ∀ e ∈ es.toList, ∃ x t, e.key = .str x t ∧ x ∈ ks) {z : Str} (hz : ¬ z ∈ ks) : PySem.W.nsIn K d z = some none := by
  unfold PySem.W.nsIn
  rw [l]
  dsimp only
  have h1 : es.toList.find? (·.key.isStr z) = none := by
    rw [List.find?_eq_none]
    intro e he
    obtain ⟨x, t, e1, e2⟩ := hk e he
    rw [e1, PySem.W.isStr_of]
    intro q
    obtain ⟨t', e3⟩ := Value.isStrOf_shape q
    cases e3
    exact hz e2
  have h2 : es.toList.any (·.refKey) = false := by
    rw [List.any_eq_false]
    intro e he
    obtain ⟨x, t, e1, e2⟩ := hk e he
    simp [DictEntry.refKey, e1]
  rw [h1, h2]
  rfl
end Own
/-! OwnC: a caught exception that is kept behind its except suite. -/
namespace Own
open PySem PySem.Spec PyProof.Rows L2
/-- a caught exception of the class cls, its dict at d, kept at a -/
def XO (cls : Value) (d : Option Addr) (a : Addr) : HO := .ext fun h => ∃ (oe : Obj) (vs : Array Value), h.get? a = some oe ∧ Zc cls d oe ∧ oe.data = .fields vs
theorem xo_ok {P : Program} {w : World} {H : Hp} {h : Heap} {a : Addr} {cls : Value} {d : Option Addr} {oe : Obj} {vs : Array Value} (e : h.get? a = some oe) (z : Zc cls d oe) (q : oe.data = .fields vs) : ObjOk P w H h a (XO cls d a) :=
  ⟨⟨oe, vs, e, z, q⟩, ⟨oe, e⟩, fun _ _ ⟨o, v, q, r⟩ k => ⟨o, v, k o q, r⟩⟩
theorem xo_at {P : Program} {w : World} {H : Hp} {h : Heap} {a : Addr} {cls : Value} {d : Option Addr} (x : HOk P w H h) (e : H a = some (XO cls d a)) : ∃ (oe : Obj) (vs : Array Value), h.get? a = some oe ∧ Zc cls d oe ∧ oe.data = .fields vs := by
  have z : ObjOk P w H h a (.ext fun h => ∃ (oe : Obj) (vs : Array Value), h.get? a = some oe ∧ Zc cls d oe ∧ oe.data = .fields vs) := x a _ e
  exact z.1
section
variable {X : Cx} {pins : List (Addr × Obj)} {σ : L2.St} {H : Hp} {s : Shared}
/-- an object of the heap that was not there at the entry and is not tracked yet is tracked now -/
theorem keepX (I : Inv X pins σ H s) {a : Addr} {oe : Obj} {vs : Array Value} {cls : Value} {d : Option Addr} (n0 : X.s_0.heap.get? a = none) (he : s.heap.get? a = some oe) (hz : Zc cls d oe) (hd : oe.data = .fields vs) (na : H a = none) (nL : a ≠ X.env.locals)
    (np : ∀ p ∈ X.pn ++ pins, p.1 ≠ a) : Inv X pins σ (upd H a (XO cls d a)) s := by
  refine ⟨I.ok, I.os, I.bare, ⟨I.base.keep, I.base.slot, fun b o e n hx => ?_, I.base.there, fun b xs e => ?_, fun b o u e => ?_, fun b ps e => ?_⟩, I.loc, I.cell, ?_, fun x c e => ?_, fun p hp => ?_, I.hok.laidN (fun _ _ z => z) na (xo_ok he hz hd), I.len⟩
  · have hb : b ≠ a := fun z => by rw [z, n0] at e; cases e
    rw [upd_ne hb]
    exact I.base.free b o e n hx
  · have z := I.base.tups b xs e
    rw [upd_ne (ne_of_none z na)]
    exact z
  · have z := I.base.frzs b o u e
    rw [upd_ne (ne_of_none z na)]
    exact z
  · obtain ⟨m, z⟩ := I.base.tbls b ps e
    exact ⟨m, by rw [upd_ne (ne_of_none z na)]; exact z⟩
  · rw [upd_ne nL.symm]
    exact I.free
  · obtain ⟨v, o, ho, hv⟩ := I.cell x c e
    have hc : c ≠ a := fun z => by
      rw [z, he] at ho
      cases ho
      rw [hd] at hv
      cases hv
    rw [upd_ne hc]
    exact I.freeC x c e
  · obtain ⟨e, n, ne, nf, q⟩ := I.pin p hp
    exact ⟨e, by rw [upd_ne (np p hp)]; exact n, ne, nf, q⟩
end
end Own
namespace Own
open PySem PySem.Spec PySem.Calls PyProof.Rows PySem.W
/-- an attribute that is asked for (getAttr?) of an exception of an own class and comes from a descriptor of the class: the descriptor's call decides -/
theorem exc_ask {prog : Program} {w : World} {A : Around} {E : Value → Shared → Prop} {s : Shared} {K : Frag} {x D : Addr} {ox : Obj} {od : Option Obj} {name : Str} {g u : Value} {Q : Option Value → Shared → Prop} (C : L2.ExcC K D)
    (hf : findObj K D od name = some (.bind g u)) (X : K.In s.heap) (I : InstAt s.heap x ox D od)
    (call_ : ∀ (B : Around) (E' : Value → Shared → Prop) (Q' : Value → Shared → Prop), (∀ v, v = Value.ref D → Q' v { s with toks := s.toks + 1 }) → wpAny (model prog w) B (call g [u, .ref x, .ref D]) Q' E' { s with toks := s.toks + 1 })
    (h : Q (some (.ref D)) { s with toks := s.toks + 1 }) : wpAny (model prog w) A (getAttr? (.ref x) name) Q E s := by
  have nob : (Value.builtin "BaseException.__getattribute__" == Value.builtin "object.__getattribute__") = false := by decide +kernel
  obtain ⟨hp, gs, d, t, os⟩ := s
  have cls := I.type (M := model prog w)
  have below : Looks (model prog w) hp (isInstance (.ref x) (.type "BaseException")) true := cls.andThen (looks_subIn X C.hs)
  unfold getAttr? getAttrBy? getAttrBy
  refine wpAny_bind (wpAny_mkText (wpAny_bind (wpAny_attempt (wpAny_holding (wpAny_bind (cls.at (wpAny_bind ((looks_findIn (M := model prog w) X C.hg).at ?_))))))))
  dsimp only
  rw [nob, Bool.and_false, if_neg Bool.false_ne_true]
  unfold getAttrByItsOwn hookBefore
  refine wpAny_bind ?_
  rw [if_pos (show onTheHeap (Value.ref D) = true from rfl)]
  refine (looks_findIn (M := model prog w) X C.hk).at (wpAny_bind (wpAny_attempt (wpAny_holding ?_)))
  unfold callGetattribute
  rw [Bool.false_and, if_neg Bool.false_ne_true]
  unfold boundAndCalled
  rw [PySem.F.excAttr_ValueError.ga.bind (.ref x)]
  refine wpAny_bind (wpAny_pure (wpAny_call (codeAny_call_builtin PySem.F.excAttr_ValueError.ga.plain PySem.F.entry_bexc_ga ?_)))
  refine @check_slot (model prog w) _ _ ⟨hp, gs, d, t + 1, os⟩ "BaseException.__getattribute__" "BaseException" "__getattribute__" (.ref x) [.str name t] [] _ (by decide +kernel) (by decide +kernel) below (PySem.F.args_bexc_ga (.ref x) (.str name t)) ?_
  unfold Builtin.«object.__getattribute__»
  refine wpAny_bind (wpAny_of_eq (a := ((Value.ref x : Value), [Value.str name t])) (by first | rfl | (simp only [slotArgs]; rfl)) ?_)
  refine wpAny_bind (wpAny_pure (wpAny_bind (cls.at (wpAny_bind ((looks_find (M := model prog w) X I hf).at (wpAny_bind (wpAny_holding (call_ _ _ _ fun v hv => ?_))))))))
  subst hv
  refine wpAny_pure ?_
  show wpAny _ _ (handedOut (.ref D)) _ _ _
  rw [handedOut_of (v := .ref D) rfl]
  first
    | exact wpAny_pure (wpAny_pure h)
    | exact wpAny_pure h
    | exact wpAny_pure (wpAny_bind (wpAny_pure (wpAny_pure h)))
theorem kitx_excD {K : Frag} {x D : Addr} {ox : Obj} {od : Obj} (C : L2.ExcC K D) : KitX K (.ref x) (.ref D) (fun h => InstAt h x ox D (some od)) := by
  have Z := handS_kitx_exc (x := x) (ox := ox) C.hg C.hk C.hs C.hd C.ha C.hn C.ht C.hm
  refine ⟨fun _ _ _ I => I.type, fun _ _ X I => ?_, fun h tp dd its n sl X htp => Z.ne h tp dd its n sl X htp, fun X I k => exc_ask C (findObj_data ?_ C.ha C.hn C.ht) X I (fun B E' Q' hq => wpAny_call (class_get X I C.hm (hq _ rfl))) k⟩
  · obtain ⟨cdD, hcD, _⟩ := any_some C.hd
    unfold clsIn at hcD
    split at hcD
    · rename_i c' d' cd' sl' ho
      intro A' Q' E' s' k q
      unfold isType loadHead
      exact wpAny_bind (wpAny_loadPart (k _ _ (X _ _ ho)) (wpAny_pure q))
    · cases hcD
  · obtain ⟨cd, hc, _⟩ := any_some C.hd
    rw [hc]
    rfl
end Own
namespace Own
open PySem PySem.Spec PyProof.Rows L2
/-- isinstance(x, c), x a kept exception with a dict -/
def rIsX (K : PySem.W.Frag) : List V → Hp → VK → Prop := fun xs H Q => ∃ (a D dd : Addr) (fs : List (Str × V)) (c : V) (cv : Value) (b : Bool), xs = [.ref a, c] ∧ H a = some (XO (.ref D) (some dd) a) ∧ H dd = some (.xd fs) ∧ ExcC K D ∧ (∀ u, RelV c u → u = cv) ∧ PySem.W.kitOne K (.ref D) cv = some b ∧ Q (.bl b) H
theorem xo_inst {X : Cx} {pins : List (Addr × Obj)} {σ : L2.St} {H : Hp} {s : Shared} {a D dd : Addr} {fs : List (Str × V)} (I : Inv X pins σ H s) (ha : H a = some (XO (.ref D) (some dd) a)) (hd : H dd = some (.xd fs)) :
    ∃ (oe od : Obj), PySem.W.InstAt s.heap a oe D (some od) ∧ ∃ mA : Str → Option Value, (∀ f, PySem.W.lookIn f od = some (mA f)) ∧ ∀ f, RelO (fs.lookup f) (mA f) := by
  obtain ⟨oe, vs, he, hz, hv⟩ := xo_at I.hok ha
  have hx : ObjOk X.prog X.w H s.heap dd (.xd fs) := I.hok dd _ hd
  obtain ⟨mA, hns, hr⟩ := hx
  obtain ⟨od, ho, hl⟩ := lookIn_ns hns
  exact ⟨oe, od, ⟨he, hz.1, by unfold PySem.W.notCls; rw [hv] <;> rfl, by rw [hz.2]; exact ho⟩, mA, hl, hr⟩
theorem call_isX {X : Cx} : CallR X (.builtin "isinstance") (rIsX X.K) := by
  intro pins s σ H xs us Q I r h
  obtain ⟨a, D, dd, fs, c, cv, b, rfl, ha, hd, C, hcv, e, q⟩ := h
  obtain ⟨u1, u2, rfl, r1, r2⟩ := vals2 r
  obtain rfl : u1 = Value.ref a := r1
  obtain rfl := hcv _ r2
  obtain ⟨oe, od, J, _⟩ := xo_inst I ha hd
  exact PySem.W.kia_one (kitx_excD C) I.kIn J e (fun z => nomatch z) fun tk => ⟨.bl b, H, I.kept (t' := tk) fun _ _ z => z, rfl, q⟩
/-- x.f, x a kept exception -/
def tXk (K : PySem.W.Frag) (f : Str) (te : TE) : TE := fun σ H Q => te σ H fun x H1 => ∃ (a D dd : Addr) (fs : List (Str × V)) (v : V), x = .ref a ∧ H1 a = some (XO (.ref D) (some dd) a) ∧ H1 dd = some (.xd fs) ∧ XfC K D ∧ PySem.W.findIn K (.ref D) f = some none ∧ fs.lookup f = some v ∧ Q v H1
theorem pe_xk {X : Cx} {e : Expr} {te : TE} {pos : Pos} {n : Str} (he : PE X e te) (hb : attributeBase e n X.env (eval e X.env) = eval e X.env := by rfl) : PE X (.Attribute e n pos) (tXk X.K n te) := by
  refine ⟨fun pins s σ H Q I h => ?_⟩
  refine attr_of hb (thn (he.run pins s σ H _ I h) fun u s1 hh => ?_)
  obtain ⟨x, H1, I1, rx, a, D, dd, fs, v, ex, ha, hd, T, hno, l, q⟩ := hh
  subst ex
  obtain rfl : u = Value.ref a := rx
  obtain ⟨oe, od, J, mA, hl, hr⟩ := xo_inst I1 ha hd
  obtain ⟨u, hu, ru⟩ := RelO.some_of (v := v) (o := mA n) (by rw [← l]; exact hr n)
  exact PySem.HandSPX.exc_get I1.kIn J T.ga T.gg T.exC (PySem.W.findObj_own T.hdC hno rfl (by rw [hl, hu])) (handed_of ru) ⟨v, H1, I1.tok _, ru, q⟩
end Own
namespace Own
open PySem PySem.Spec PyProof.Rows L2
/-- the ends of an except suite whose exception is kept at a: the clause's name (slot i) goes, the exception stands -/
def keptE (i : Nat) (a : Addr) (cls : Value) (d : Option Addr) (D : Ends) : Ends where
  nx := fun σ' H' => H' a = none → D.nx (σ'.set i none) (upd H' a (XO cls d a))
  rt := fun v H' => H' a = none → D.rt v (upd H' a (XO cls d a))
  bk := fun σ' H' => H' a = none → D.bk (σ'.set i none) (upd H' a (XO cls d a))
  ct := fun σ' H' => H' a = none → D.ct (σ'.set i none) (upd H' a (XO cls d a))
/-- what a clause 'except x as n' (slot i is n's) that keeps its exception wishes of an exception of the body -/
def wAsK (K : PySem.W.Frag) (c : Value) (i : Nat) (ts : Addr → Value → Option Addr → TS) (Wout : WX) (D : Ends) : WX := fun cls d σ H =>
  ∃ b, PySem.W.exmOne K cls c = some b ∧ (b = true → ∀ a, H a = none → ts a cls d (keptE i a cls d D) (σ.set i (some (.ref a))) H) ∧ (b = false → Wout cls d σ H)
section
variable {X : Cx} {x n : Str} {c : Value} {i : Nat} {body suite : List Stmt} {b₀ : Stmt} {np pos pos' : Pos} {tb : WX → TS} {ts : Addr → Value → Option Addr → TS} {Wout : WX}
/-- an end of the body of a try is one of the try -/
theorem sp_try {pins : List (Addr × Obj)} {xe : Value → Shared → Prop} {D : Ends} {s : Shared} (ok : X.Ok) : ∀ f : Flow, SP (X.tr (X.pn ++ pins) xe) [] D f s → SP X pins D f s
  | .next, ⟨_, _, J, q⟩ => ⟨_, _, J.ofTry ok, q⟩
  | .brk, ⟨_, _, J, q⟩ => ⟨_, _, J.ofTry ok, q⟩
  | .cont, ⟨_, _, J, q⟩ => ⟨_, _, J.ofTry ok, q⟩
  | .ret _, ⟨_, _, _, J, r, q⟩ => ⟨_, _, _, J.ofTry ok, r, q⟩
/-- an end of the suite, the name let go, is one of the try; the exception is tracked from here on -/
theorem sp_kept {pins : List (Addr × Obj)} {D : Ends} {a : Addr} {oe : Obj} {vs : Array Value} {cls : Value} {d : Option Addr} {s : Shared} {E : Value → Shared → Prop} (ok : X.Ok) (hN : X.N.Nodup) (hi : X.N[i]? = some n) (hl : X.env.kindOf n = some .local)
    (z : Zc cls d oe) (hd : oe.data = .fields vs) (n0 : X.s_0.heap.get? a = none) (nL : a ≠ X.env.locals) (np : ∀ p ∈ X.pn ++ pins, p.1 ≠ a) (f : Flow) (h : SP (X.suite a ((a, oe) :: (X.pn ++ pins))) [] (keptE i a cls d D) f s) :
    wpAny (model X.prog X.w) X.A (do bindName X.env n .none; unbindBehindTheSuite X.env n pos') (fun _ s7 => SP X pins D f s7) E s := by
  have go : ∀ {σ : L2.St} {H : Hp}, Inv (X.suite a ((a, oe) :: (X.pn ++ pins))) [] σ H s → (∀ s7, H a = none → Inv X pins (σ.set i none) (upd H a (XO cls d a)) s7 → SP X pins D f s7) →
      wpAny (model X.prog X.w) X.A (do bindName X.env n .none; unbindBehindTheSuite X.env n pos') (fun _ s7 => SP X pins D f s7) E s := fun {σ H} S q => by
    refine gone_ok (X := X.suite a ((a, oe) :: (X.pn ++ pins))) S hN hi hl fun s7 S7 => ?_
    have p7 := S7.pin (a, oe) (List.mem_append_left _ List.mem_cons_self)
    exact q s7 p7.2.1 (keepX (S7.unsuite ok) n0 p7.1 z hd p7.2.1 nL np)
  revert go
  revert h
  cases f with
  | next => exact fun ⟨σ, H, S, q⟩ go => go S fun s7 e J => ⟨_, _, J, q e⟩
  | brk => exact fun ⟨σ, H, S, q⟩ go => go S fun s7 e J => ⟨_, _, J, q e⟩
  | cont => exact fun ⟨σ, H, S, q⟩ go => go S fun s7 e J => ⟨_, _, J, q e⟩
  | ret u => exact fun ⟨v, σ, H, S, r, q⟩ go => go S fun s7 e J => ⟨_, _, _, J, r, q e⟩
/-- a caught exception is a new object -/
theorem caught_new {pins : List (Addr × Obj)} {σ : L2.St} {H : Hp} {sI : Shared} {B : Heap} {a : Addr} (J : Inv X pins σ H sI) (hex : X.ex = []) (nb : ∀ b o, sI.heap.get? b = some o → b ∉ frs X.stack → B.get? b = some o) (Ba : B.get? a = none) (nfr : a ∉ frs X.stack) :
    X.s_0.heap.get? a = none ∧ ∀ p ∈ X.pn ++ pins, p.1 ≠ a := by
  have nI : ∀ o, sI.heap.get? a ≠ some o := fun o e => by
    have z := nb a o e nfr
    rw [Ba] at z
    cases z
  refine ⟨?_, fun p hp z => nI p.2 (by rw [← z]; exact (J.pin p hp).1)⟩
  cases e : X.s_0.heap.get? a with
  | none => rfl
  | some o =>
    obtain ⟨o', z⟩ := J.base.there a o e (by rw [hex]; exact fun z => nomatch z)
    exact absurd z (nI o')
/-- try: body / except x as n: suite, where the suite lets its exception out into a name or a list: it is kept -/
theorem ps_try_keep (hs : X.stack = X.env :: X.outer) (hf : X.env.frame = some X.env.locals) (hex : X.ex = []) (hN : X.N.Nodup) (hi : X.N[i]? = some n) (hln : X.env.kindOf n = some .local) (hc : Names X x c) (tk : Takes X Wout)
    (hb : ∀ (W : WX) (pn : List (Addr × Obj)) (xe : Value → Shared → Prop), Takes (X.tr pn xe) W → PassesOwn (model X.prog X.w) X.A X.env xe → PSs (X.tr pn xe) body (tb W))
    (hsu : ∀ (a : Addr) (oe : Obj) (cls : Value) (d : Option Addr) (pn : List (Addr × Obj)), Zc cls d oe → (∃ vs, oe.data = .fields vs) → PSs (X.suite a ((a, oe) :: pn)) (b₀ :: suite) (ts a cls d)) :
    PS X (.Try body [.ExceptHandler (some (.Name x np)) (some n) (b₀ :: suite) pos'] [] [] pos) (fun D σ H => tb (wAsK X.K c i ts Wout D) D σ H) := by
  refine ⟨fun pins s σ H D I h => wpAny_Try_except ?_⟩
  have ok := I.ok
  refine wpAny_mono ((hb (wAsK X.K c i ts Wout D) (X.pn ++ pins) (fun e s₁ => wpAny (model X.prog X.w) X.A (noteFrame e X.env) (fun _ s₂ => wpAny (model X.prog X.w) X.A (setFlight e none) (fun _ s₃ =>
    wpAny (model X.prog X.w) X.A (handleBy e X.env [.ExceptHandler (some (.Name x np)) (some n) (b₀ :: suite) pos']) (SP X pins D) X.xe s₃) X.xe s₂) X.xe s₁) (fun u s' air => ?_) PassesOwn.looking).run [] s σ H D (I.toTry _) h) (fun f s1 e => ?_) (fun e s1 he => he)
  case refine_2 =>
    have e := sp_try ok f e
    cases f with
    | next => exact wpAny_execs_nil e
    | brk => exact e
    | cont => exact e
    | ret u => exact e
  obtain ⟨a, B, sI, ps, τ, G, cls, d, rfl, JT, nb, up, sky, na, os, ag, b, hmatch, yes, no⟩ := air
  have J : Inv X pins τ G sI := JT.ofTry ok
  show wpAny (model X.prog X.w) X.A (noteFrame (.ref a) X.env) _ _ _
  refine Sky.land (outer := X.outer) Zc.steady (by rw [ok.frames, hs]) hf (by rw [← hs]; exact sky) fun h3 fl3 up3 => ?_
  have nfr : a ∉ frs (X.env :: X.outer) := fun hm => by
    obtain ⟨o3, v3, e3, _, d3⟩ := fl3.there
    obtain ⟨_, o', e', hnf⟩ := fl3.2.2.1.mem hm
    cases e3.symm.trans e'
    exact hnf _ d3
  obtain ⟨n0, apart⟩ := caught_new J hex nb fl3.2.1 (by rw [hs]; exact nfr)
  have nL : a ≠ X.env.locals := fun z => nfr (List.mem_filterMap.mpr ⟨X.env, List.mem_cons_self, by rw [hf, z]⟩)
  have nF : a ∉ X.fs := fun hm => by
    obtain ⟨e, he, q⟩ := List.mem_filterMap.mp hm
    exact nfr (List.mem_filterMap.mpr ⟨e, List.mem_cons_of_mem _ he, q⟩)
  have J3 : Inv X pins τ G { s' with heap := h3 } := J.landed nb fl3.1 (up.trans up3) os ag
  obtain ⟨o3, v3, e3, z3, d3⟩ := fl3.there
  have S3 := J3.suite e3 d3 na nL nF
  have hcls : ∀ {Q : Value → Shared → Prop} {E : Value → Shared → Prop}, Q c { s' with heap := h3 } → wpAny (model X.prog X.w) (X.A.mark (some (.ref a))) (eval (.Name x np) X.env) Q E { s' with heap := h3 } := fun {Q E} q => by
    obtain ⟨hg, hdb, hm | ⟨hm, hv, hnn⟩⟩ := hc
    · exact ld_glob (X := X.suite a ((a, o3) :: (X.pn ++ pins))) S3 hg hm q hdb
    · exact ld_blt (X := X.suite a ((a, o3) :: (X.pn ++ pins))) S3 hg hm hv q hnn hdb
  refine wpAny_handleBy_cons (codeAny_handlers_test (hcls ((PySem.W.exm_one (M := model X.prog X.w) J3.kIn (fun A Q E s k q => wpAny_typeOf_ref (k _ _ e3) (by rw [z3.1]; exact q)) hmatch).here ?_))) (by intro q; cases q)
  cases b with
  | true =>
    refine codeAny_handlers_suite_as (HandSPX.lands_againZ fl3 fun h4 fl4 up4 => ?_)
    obtain ⟨o4, v4, e4, z4, d4⟩ := fl4.there
    have S4 := Inv.suite (J.landed (s' := { s' with heap := h4 }) nb fl4.1 ((up.trans up3).trans up4) os ag) e4 d4 na nL nF
    refine store_ok (X := X.suite a ((a, o4) :: (X.pn ++ pins))) (v := .ref a) S4 hN hi (.inl hln) rfl (fun s5 S5 => ?_) (.inr hln)
    exact wpAny_mono ((hsu a o4 cls d (X.pn ++ pins) z4 ⟨_, d4⟩).run [] s5 _ G _ S5 (yes rfl a na)) (fun f s6 q => sp_kept ok hN hi hln z4 d4 n0 nL apart f q) fun _ _ z => False.elim z
  | false =>
    show wpAny _ X.A (handleBy (.ref a) X.env []) _ _ _
    refine wpAny_handleBy_nil ?_
    obtain ⟨_, _, _, oe, vs, T, oT, _, he, hz, hd, h1, _⟩ := id fl3
    unfold PySem.passOn
    refine wpAny_bind (wpAny_field he hd h1 ?_)
    rw [if_neg (show ¬ ((Value.ref T == Value.none) = true) from by simp)]
    have out : wpAny (model X.prog X.w) X.A (setFlight (.ref a) X.env.frame) (fun _ s4 => wpAny (model X.prog X.w) X.A (throw (.ref a) : Sem Flow) (SP X pins D) X.xe s4) X.xe { s' with heap := h3 } := by
      rw [hf]
      exact HandSPX.setFlight_upZ fl3 fun h4 held up4 => wpAny_throw (tk _ _ ⟨a, B, sI, pins, τ, G, cls, d, rfl, J, nb, (up.trans up3).trans up4, .inr (.inr (by rw [hs]; exact held)), na, os, ag, no rfl⟩)
    first
      | exact wpAny_bind (wpAny_pure (wpAny_bind out))
      | exact wpAny_bind out
end
end Own
namespace Own
open PySem PySem.Spec PyProof.Rows L2 ClX
/-- a classmethod called off its class, which may raise (what it lets out may speak of the slots) -/
def tCMethS (C : Addr) (sp : Sp) (E : L2.St → XK) (ta : TE) (t : TA) : TE := fun σ H Q => ta σ H fun x H1 => x = .ref C ∧ t σ H1 fun vs H2 => sp (.ref C :: vs) H2 Q (E σ)
theorem pe_cmethS {X : Cx} {CX : CXT} {k : Nat} {C p g : Addr} {mc : Value} {sp : Sp} {E : L2.St → XK} {o e : Expr} {es : List Expr} {m : Str} {pos apos : Pos} {ta : TE} {t : TA} {pl : Sem Bool} (he : PE X o ta) (r : CRead X.K C mc) (c : CMet X.K C mc m p g)
    (F : FnR X.prog X.w X.K X.mg X.base CX k g sp) (hr : Room k X.A) (hx : ∀ σ, PassesAt CX X σ (E σ)) (ha : PA X (e :: es) t)
    (hst : starEach (e :: es) X.env = (false, eval e X.env) :: starEach es X.env := by rfl) (hpl : (backTo pos (starEach es X.env)).any (·.1) = false := by rfl)
    (ht : eval (.Call (.Attribute o m apos) (e :: es) [] pos) X.env = (do
      let ov ← eval o X.env
      standAt apos.atName
      let (f, first) ← holding [ov] (getMethod ov m pl)
      callWith pos f first (backTo pos (starEach (e :: es) X.env)) (backToKw pos (keywordEach [] X.env))) := by rfl) :
    PE X (.Call (.Attribute o m apos) (e :: es) [] pos) (tCMethS C sp E ta t) := by
  refine ⟨fun pins s σ H Q I h => ?_⟩
  refine PySem.W.methodCall_KW (pl := pl) (thn (he.run pins s σ H _ I h) fun u s1 ⟨x, H1, I1, rx, ex, q⟩ => ?_) ht
  subst ex
  obtain rfl : u = Value.ref C := rx
  refine getmethcm_ok I1 r c fun s2 I2 => ?_
  refine callwith_cm I2 (base_none I1 (Nat.le_refl _)) c.fi (thn (ha.run pos _ s2 σ H1 _ I2 q) fun us s3 ⟨vs, H2, I3, rv, q2⟩ => ⟨⟨pin_at I3, I3.kIn⟩, ?_⟩) hst hpl
  have z : wpAny (model X.prog X.w) X.A (call (.ref s1.heap.objs.size) us) (EP X ((s1.heap.objs.size, PySem.W.methodObj (.ref g) (.ref C)) :: pins) σ Q) X.xe s3 := by
    refine wpAny_call (PySem.W.method_call (pin_at I3) (codeAny_mono (F X.A X.stack s3 H2 (.ref C :: us) (.ref C :: vs) Q (E σ) hr I3.env0 (.cons rfl rv) q2) fun r s' hq => ?_))
    cases r with
    | error e => exact hx σ _ H2 s3 e s' I3 hq
    | ok fl =>
      cases fl with
      | ret u => exact I3.after hq
      | next => exact False.elim hq
      | brk => exact False.elim hq
      | cont => exact False.elim hq
  exact thn z fun _ _ y => unpinE y
end Own
/-! OwnD: sets of texts, made of a tuple or a list of any length. -/
namespace Own
open PySem PySem.Spec PySem.Calls PyProof.Rows
/-- a set that holds exactly the texts of xs; c tells by its size whether they differ -/
def SetT (prog : Program) (w : World) (h : Heap) (S : Addr) (xs : List Str) : Prop := ∃ c, h.SetOf (strKind prog w) S (fun k => decide (k ∈ xs)) c ∧ c ≤ xs.length ∧ (c = xs.length ↔ xs.Nodup)
theorem SetT.move {prog : Program} {w : World} {h h' : Heap} {S : Addr} {xs : List Str} (T : SetT prog w h S xs) (k : ∀ o, h.get? S = some o → h'.get? S = some o) : SetT prog w h' S xs := by
  obtain ⟨c, ⟨o, es, ep, t, ho, rest⟩, r⟩ := T
  exact ⟨c, ⟨o, es, ep, t, k o ho, rest⟩, r⟩
theorem SetT.more {prog : Program} {w : World} {h' : Heap} {S : Addr} {xs : List Str} {x : Str} {c : Nat} (hc : c ≤ xs.length) (hn : c = xs.length ↔ xs.Nodup)
    (T : h'.SetOf (strKind prog w) S (fun k => decide (k ∈ xs) || decide (k = x)) (if decide (x ∈ xs) then c else c + 1)) : SetT prog w h' S (xs ++ [x]) := by
  refine ⟨if decide (x ∈ xs) then c else c + 1, SetOf_congr T (fun k => by simp [List.mem_append]) rfl, ?_, ?_⟩
  · rw [List.length_append]
    split
    · exact Nat.le_trans hc (Nat.le_add_right _ _)
    · exact Nat.succ_le_succ hc
  · rw [List.length_append, List.length_singleton, List.nodup_append]
    by_cases hx : x ∈ xs
    · rw [decide_eq_true hx, if_pos rfl]
      refine ⟨fun e => by omega, fun e => ?_⟩
      exact absurd rfl (e.2.2 x hx x List.mem_cons_self)
    · rw [decide_eq_false hx, if_neg Bool.false_ne_true]
      refine ⟨fun e => ⟨hn.mp (by omega), by simp, fun a ha b hb => ?_⟩, fun e => by rw [hn.mpr e.1]⟩
      rw [List.mem_singleton] at hb
      subst hb
      exact fun z => hx (z ▸ ha)
section
variable {prog : Program} {w : World} {A : Around} {R : Result → Shared → Prop} {I : Addr} {fp wr : List Addr} {G : Array GenState → Array GenState → Prop} {n : Nat} {P : Nat → Value → Prop} {St : Nat → Shared → Prop}
/-- the loop that fills it -/
theorem fill_texts (W : WalksS prog w A.in1 I fp wr G n P St) (S : Addr) (hS : S ∉ fp) (xs : List Str) (hl : xs.length = n) (hb : n + 1 < scanBound) (hv : ∀ i v, P i v → ∃ x t, xs[i]? = some x ∧ v = .str x t) :
    ∀ (left i : Nat) (s : Shared), i + left = n → St i s → SetT prog w s.heap S (xs.take i) → (∀ s', Moved (S :: wr) G s s' → SetT prog w s'.heap S xs → R (.ok (.ret .none)) s') →
      codeAny (model prog w) A (.builtin "set.update.loop" ⟨[.ref S, .ref I], []⟩) R s := by
  have nw : S ∉ wr := fun h => hS (W.sub _ h)
  have up : ∀ b ∈ wr, b ∈ S :: wr := fun b hb => List.mem_cons_of_mem _ hb
  intro left
  induction left with
  | zero =>
    intro i s e hst T k
    have e : i = n := e
    subst e
    refine codeAny_builtin F.entry_set_update_loop ?_
    rw [Around.under_plainId F.plain_set_update_loop _]
    show wpAny _ A.in1 (pyNext (.ref I) >>= _) _ _ s
    refine wpAny_bind (W.done s _ _ hst fun s' m => wpAny_pure (k s' (m.mono up) ?_))
    rw [List.take_of_length_le (Nat.le_of_eq hl)] at T
    exact T.move fun o e => m.heap S o nw e
  | succ left ih =>
    intro i s e hst T k
    refine codeAny_builtin F.entry_set_update_loop ?_
    rw [Around.under_plainId F.plain_set_update_loop _]
    show wpAny _ A.in1 (pyNext (.ref I) >>= _) _ _ s
    refine wpAny_bind (W.item i s _ _ (by omega) hst fun v s' pv hst' m => ?_)
    obtain ⟨x, t, hx, rfl⟩ := hv i v pv
    obtain ⟨c, T1, hc, hn⟩ := T.move (h' := s'.heap) fun o e => m.heap S o nw e
    have lt : (xs.take i).length = i := by rw [List.length_take]; omega
    show wpAny _ A.in1 (holding [Value.str x t] (setAdd S (.str x t)) >>= _) _ _ s'
    refine wpAny_bind (wpAny_holding ?_)
    unfold setAdd
    refine wpAny_holding (wpAny_bind ((strKind prog w).pyHash (k := x) (strKind_is _ _ _ _) ?_))
    refine wpAny_setAddHashed_of (knd := strKind prog w) (s := { s' with toks := s'.toks + 1 }) (strKind_is _ _ _ _) rfl T1 (by rw [lt] at hc; omega) fun h' sb T2 => ?_
    have T3 : SetT prog w h' S (xs.take (i + 1)) := by
      rw [List.take_add_one, hx]
      exact SetT.more hc hn T2
    refine wpAny_pure ⟨plainId_quiet F.plain_set_update_loop _, ih (i + 1) _ (by omega) (W.frame _ s' _ _ hst' (Nat.le_succ _) fun b hb o e => ?_) T3 fun s2 m2 T4 => k s2 (Moved.trans W.gtrans ((m.mono up).then_heap (Nat.le_succ _) fun b o nb e => ?_) m2) T4⟩
    · rw [sb.2 b fun z => hS (z ▸ hb)]
      exact e
    · rw [sb.2 b fun z => nb (z ▸ List.mem_cons_self)]
      exact e
end
end Own
namespace Own
open PySem PySem.Spec PySem.Calls PyProof.Rows L2 SS
section
variable {prog : Program} {w : World} {A : Around} {E : Value → Shared → Prop} {s : Shared}
abbrev freshSet (led : Bool) : Obj := { cls := .type "set", dict := none, data := .set #[] 0 (.fresh 0 0 led) }
/-- set(x): what __init__ does at the fresh set decides -/
theorem call_set_by {x : Value} {Q : Value → Shared → Prop}
    (fill : ∀ led : Bool, wpAny (model prog w) A.in1.in1 (Builtin.«set.__init__» ⟨[.ref s.heap.objs.size, x], []⟩)
        (fun fin s' => match fin with | .done f => wants (fun r s₂ => r = .none ∧ Q (.ref s.heap.objs.size) s₂) E (.ok f) s' | .again c' => c'.quiet = true ∧ codeAny (model prog w) A.in1 c' (wants (fun r s₂ => r = .none ∧ Q (.ref s.heap.objs.size) s₂) E) s')
        (fun e s' => wants (fun r s₂ => r = .none ∧ Q (.ref s.heap.objs.size) s₂) E (.error e) s') { s with heap := s.heap.push (freshSet led) }) :
    wpAny (model prog w) A (call (.type "set") [x]) Q E s := by
  obtain ⟨c, tl, hmro⟩ := PySem.F.called_set.mro
  have hmade := PySem.F.called_set.made
  have hsub := PySem.F.called_set.sub
  have h1 := PySem.F.called_set.notType
  have h2 := PySem.F.called_set.canCreate
  have hct := PySem.F.typeCall_set_1 x
  refine wpAny_call (codeAny_of_tree ?_)
  show wpAny _ _ (callAny (.type "set") _) _ _ _
  refine wpAny_pure ⟨Code.quiet_builtin _ (by decide +kernel), codeAny_builtin PySem.F.entry_type_call ?_⟩
  rw [Around.under_plain (weight_type_call_type "set" [x] []) rfl]
  repeat (any_goals (first | assumption | wp_step))

  refine codeAny_mono (code_set_new_1 x (E := E) (Q₁ := fun obj s₁ => ∃ led : Bool, obj = .ref s.heap.objs.size ∧ s₁ = { s with heap := s.heap.push (freshSet led) }) fun led => ⟨led, rfl, rfl⟩) fun r s₁ hr => ?_
  cases r with
  | error e => exact hr
  | ok fl =>
    cases fl with
    | ret obj =>
      obtain ⟨led, rfl, rfl⟩ := hr
      have hT : Shared.TypeIs { s with heap := s.heap.push (freshSet led) } (.ref s.heap.objs.size) "set" := ⟨_, Heap.get?_push_size _ rfl, rfl⟩
      have hli := PySem.F.called_set.init.lookup
      have hbi := PySem.F.called_set.init.bind (.ref s.heap.objs.size)
      repeat (any_goals (first | assumption | wp_step))

      refine codeAny_mono (codeAny_call_builtin PySem.F.called_set.init.plain PySem.F.entry_set_init (check_set_init_1 hT (fill led))) fun r₂ s₂ hr₂ => ?_
      cases r₂ with
      | error e => exact hr₂
      | ok fl₂ =>
        cases fl₂ with
        | ret r =>
          obtain ⟨rfl, hq⟩ := hr₂
          repeat (any_goals (first | assumption | wp_step))
        | _ => exact hr₂.elim
    | _ => exact hr.elim
/-- set(l), l a tuple of texts -/
theorem call_set_texts {l : Addr} {items : Array Value} {xs : List Str} {Q : Value → Shared → Prop} (hh : A.handled = none) (hl : s.heap.IsTuple l items) (hi : StrsAre items.toList xs) (hb : xs.length + 1 < scanBound)
    (h : ∀ (h' : Heap) (tk : Nat), SetT prog w h' s.heap.objs.size xs → (∀ b o, b < s.heap.objs.size → s.heap.get? b = some o → h'.get? b = some o) → Q (.ref s.heap.objs.size) { s with heap := h', toks := tk }) :
    wpAny (model prog w) A (call (.type "set") [.ref l]) Q E s := by
  refine call_set_by fun led => ?_
  obtain ⟨hp, g, d, tk, os⟩ := s
  dsimp only at hl h ⊢
  have hS : (hp.push { cls := .type "set", dict := none, data := .set #[] 0 (.fresh 0 0 led) }).get? hp.objs.size = some { cls := .type "set", dict := none, data := .set #[] 0 (.fresh 0 0 led) } := Heap.get?_push_size _ rfl
  have hT : Shared.TypeIs ⟨hp.push { cls := .type "set", dict := none, data := .set #[] 0 (.fresh 0 0 led) }, g, d, tk, os⟩ (.ref hp.objs.size) "set" := ⟨_, hS, rfl⟩
  have hl1 : (hp.push { cls := .type "set", dict := none, data := .set #[] 0 (.fresh 0 0 led) }).IsTuple l items := hl.push _
  obtain ⟨⟨ocls, odict, odata, oslots⟩, hol, hcl, nl, hdl⟩ := id hl1
  simp only at hcl hdl
  subst hcl
  subst hdl
  have hsls := PySem.F.sub_tuple_set
  have hslf := PySem.F.sub_tuple_frozenset
  have hne : (Value.type "tuple" == Value.type "dict") = false := by decide
  unfold Builtin.«set.__init__» noKeywords Builtin.Frozenset.updateFrom
  generalize hPI : pyIter = PI
  wp_walk
  subst hPI
  refine wpAny_pyIter_tuple hl1 (wpAny_bind (wpAny_runValue ?_))
  have lS : l < hp.objs.size := let ⟨_, e, _⟩ := hl; Heap.lt_size e
  have zI : (hp.push (freshSet led)).objs.size = hp.objs.size + 1 := Heap.size_push ..
  have len : xs.length = items.size := by rw [← StrsAre.len_eq hi, Array.length_toList]
  refine fill_texts ((Walks.tuple (A := A.in1.in1.in1) (by simp [hh]) _ l (by rw [zI]; exact Nat.ne_of_lt (Nat.lt_succ_of_lt lS)) items).toS) hp.objs.size (by
      rw [zI]
      simp only [List.mem_cons, List.not_mem_nil, or_false, not_or]
      exact ⟨Nat.ne_of_lt (Nat.lt_succ_self _), Nat.ne_of_gt lS⟩) xs len (by rw [← len]; exact hb) (fun i v e => ?_) items.size 0 _ (by omega) ⟨⟨_, Heap.get?_push_size _ rfl, rfl, rfl⟩, hl1.push _⟩ ?_ fun s' m T => ?_
  · obtain ⟨t, e2⟩ := strs_at hi i v (by rw [Array.getElem?_toList]; exact e)
    have hi' : i < xs.length := by rw [len]; exact (Array.getElem?_eq_some_iff.mp e).1
    refine ⟨xs[i], t, List.getElem?_eq_getElem hi', ?_⟩
    rw [e2, List.getD_eq_getElem?_getD, List.getElem?_eq_getElem hi'] <;> rfl
  · refine ⟨0, SetOf_congr ((setObjOf_fresh (knd := strKind prog w) led).setOf (Heap.get?_push_of_some _ hS) (by unfold scanBound; omega)) (fun k => by simp) rfl, Nat.zero_le _, by simp⟩
  · obtain ⟨h', g', d', tk', os'⟩ := s'
    obtain rfl : g' = g := m.gens
    obtain rfl : d' = d := m.drawn
    obtain rfl : os' = os := m.os
    refine wpAny_pure ?_
    show wpAny _ _ (ret Value.none) _ _ _
    refine wpAny_pure ⟨rfl, h h' tk' T fun b o hb e => ?_⟩
    refine m.heap b o ?_ (Heap.get?_push_of_some _ (Heap.get?_push_of_some _ e))
    rw [zI]
    simp only [List.mem_cons, List.not_mem_nil, or_false, not_or]
    exact ⟨Nat.ne_of_lt hb, Nat.ne_of_lt (Nat.lt_succ_of_lt hb)⟩
end
end Own
namespace Own
open PySem PySem.Spec PyProof.Rows L2
/-- len(set(a)), a a tuple of texts: the number is told by whether they differ -/
def tLenSetT (K : PySem.W.Frag) (ta : TE) : TE := fun σ H Q => ta σ H fun x H1 => ∃ (l : Addr) (xs : List Str), x = .ref l ∧ SqT K H1 l (xs.map V.str) ∧ xs.length ≤ 1000 ∧
  ∀ c : Nat, c ≤ xs.length → (c = xs.length ↔ xs.Nodup) → Q (.int (c : Nat)) H1
theorem pe_lenSetT {X : Cx} {a : Expr} {ta : TE} {p p2 q pos : Pos} (hc : X.calm = true) (hg : Gl X "len") (hm : X.mg "len" = none) (hg2 : Gl X "set") (hm2 : X.mg "set" = none) (ha : PE X a ta)
    (na : starEach [a] X.env = (false, eval a X.env) :: starEach [] X.env := by rfl) : PE X (.Call (.Name "len" p) [.Call (.Name "set" p2) [a] [] q] [] pos) (tLenSetT X.K ta) := by
  refine ⟨fun pins s σ H Q I h => Call_ (ld_blt I hg hm boot_len ?_)⟩
  refine PyProof.Rows.callWith_builtin1 (PyProof.Rows.args_cons ?_ rfl) rfl rfl
  refine Call_ (ld_blt I hg2 hm2 boot_set ?_)
  refine PyProof.Rows.callWith_type1 (PyProof.Rows.args_cons (thn (ha.run pins s σ H _ I h) fun v s1 ⟨x, H1, I1, r1, l, xs, ex, ht, hl, k⟩ => PyProof.Rows.args_nil ?_) na) na rfl
  subst ex
  obtain rfl : v = Value.ref l := r1
  obtain ⟨its, r, pl, _⟩ := I1.tuple ht
  refine call_set_texts (I1.ok.hd hc) pl (by simpa using strsAre_of r) (by unfold scanBound; omega) fun h' tk T keep => PyProof.Rows.args_nil ?_
  obtain ⟨c, ⟨o, es, ep, t, ho, hex, hd, _, _, _, hf, hn⟩, hc1, hc2⟩ := T
  have I2 : Inv X pins σ H1 { s1 with heap := h', toks := tk } := I1.kept fun b o e => keep b o (Heap.lt_size e) e
  exact call_len_set ho hex hd hf (by rw [hn]; omega) ⟨.int (c : Nat), H1, I2.tok _, ⟨_, by rw [hn]⟩, k c hc1 hc2⟩
end Own
/-! OwnE: sorted(t), t a tuple of texts. -/
namespace Own
open PySem PySem.Spec PySem.Calls PyProof.Rows L2
section
variable {prog : Program} {w : World} {A : Around} {E : Value → Shared → Prop} {s : Shared}
/-- the items of a tuple, collected -/
theorem collect_tuple {l : Addr} {vs : List Value} {Q : List Value → Shared → Prop} (hl : s.heap.IsTuple l vs.toArray) (hz : vs.length ≤ sizeLine)
    (h : Q vs { s with heap := (s.heap.push (seqObj "list" #[] 0)).update s.heap.objs.size (Obj.mapSeq (· ++ vs.toArray)) }) : wpAny (model prog w) A (collect (.ref l)) Q E s := by
  obtain ⟨o, ho, hc, n, hd⟩ := hl
  have fresh : (s.heap.push (seqObj "list" #[] 0)).get? s.heap.objs.size = some (seqObj "list" #[] 0) := Heap.get?_push_size _ rfl
  have there : (s.heap.push (seqObj "list" #[] 0)).get? l = some o := Heap.get?_push_of_some _ ho
  have size : ((#[] : Array Value) ++ vs.toArray).size ≤ sizeLine + 1 := by simp only [Array.size_append, List.size_toArray, List.length_nil]; omega
  unfold collect
  refine wpAny_bind (wpAny_runValue (codeAny_builtin entry_proto_collect' ?_))
  show wpAny _ _ (do again (.builtin "list.__iadd__" ⟨[← newList [], .ref l], []⟩)) _ _ s
  refine wpAny_bind (wpAny_newList (wpAny_pure ⟨Code.quiet_builtin _ (by decide +kernel), codeAny_builtin entry_list_iadd' ?_⟩))
  show wpAny _ _ (Builtin.List.listExtendWith (.ref s.heap.objs.size) (.ref l) (.ref s.heap.objs.size)) _ _ { s with heap := s.heap.push (seqObj "list" #[] 0) }
  unfold Builtin.List.listExtendWith
  refine wpAny_bind (wpAny_typeOf (T := "tuple") ⟨o, there, hc⟩ ?_)
  rw [if_pos (show _ = true by rw [show (Value.type "tuple" == Value.type "tuple") = true from rfl]; simp)]
  refine wpAny_bind (listItems_at there hd (wpAny_bind (listItems_at (xs := #[]) (n := 0) fresh rfl ?_)))
  rw [if_neg (by simp)]
  refine wpAny_bind (listUpdate_at (xs := #[]) (n := 0) fresh rfl (wpAny_pure ?_) (Nat.zero_le _) size)
  show wpAny (model prog w) A (do
      let o ← load s.heap.objs.size
      match o.data with
      | .seq xs _ => pure xs.toList
      | _ => unsupported "internal:collect") Q E { s with heap := (s.heap.push (seqObj "list" #[] 0)).update s.heap.objs.size (Obj.mapSeq (· ++ vs.toArray)) }
  refine wpAny_bind (wpAny_load (get?_update_seq fresh _) ?_)
  show wpAny _ _ (pure ((#[] : Array Value) ++ vs.toArray).toList) Q E _
  rw [show ((#[] : Array Value) ++ vs.toArray).toList = vs by simp]
  exact wpAny_pure h
theorem sorted_texts {l : Addr} {vs : List Value} {xs : List Str} {Q : Value → Shared → Prop} (hl : s.heap.IsTuple l vs.toArray) (hS : StrsAre vs xs) (hz : vs.length ≤ sizeLine)
    (h : ∀ (out : Array Value) (ys : List Str), StrsAre out.toList ys → ys.Perm xs → sortedS ys = true → Q (.ref (s.heap.objs.size + 1)) { s with heap := sortedAll s.heap vs out }) :
    wpAny (model prog w) A (call (.builtin "sorted") [.ref l]) Q E s := by
  refine Calls.call_function_entry kind_sorted plain_sorted entry_sorted (args_sorted1 _) ?_
  unfold Builtin.«sorted»
  refine wpAny_bind (m := checkCount "sorted" 1 1 _) (wpAny_pure (wpAny_bind (collect_tuple hl hz (wpAny_bind (wpAny_newList ?_)))))
  have size : ((s.heap.push (seqObj "list" #[] 0)).update s.heap.objs.size (Obj.mapSeq (· ++ vs.toArray))).objs.size = s.heap.objs.size + 1 := by rw [Heap.size_update, size_push']
  have new : (((s.heap.push (seqObj "list" #[] 0)).update s.heap.objs.size (Obj.mapSeq (· ++ vs.toArray))).push (seqObj "list" vs.toArray 0)).get? (s.heap.objs.size + 1) = some (seqObj "list" vs.toArray 0) := by
    rw [← size]
    exact Heap.get?_push_size _ rfl
  show wpAny _ _ _ _ _ { s with heap := ((s.heap.push (seqObj "list" #[] 0)).update s.heap.objs.size (Obj.mapSeq (· ++ vs.toArray))).push (seqObj "list" vs.toArray 0) }
  rw [size]
  refine wpAny_bind (wpAny_holding (wpAny_call_entry slot_list_sort ⟨_, new, rfl⟩ entry_list_sort (list_sort_treeKAny strKind_oneLt new hS.keysOf (fun v₁ v₂ rest e => keyKind_strs (by rw [← e]; exact hS)) hz fun st' hp hs => ⟨_, rfl, ?_⟩) (args_list_sort _)))
  obtain ⟨ys, h1, h2, h3⟩ := sorted_out_str hS hp hs
  exact wpAny_pure ⟨_, rfl, h _ ys h1 h2 h3⟩
end
def rSortedT (K : PySem.W.Frag) : List V → Hp → VK → Prop := fun vs H Q => ∃ (a : Addr) (xs : List Str), vs = [V.ref a] ∧ SqT K H a (xs.map V.str) ∧
  ∀ (ys : List Str) (p : Addr), ys.Perm xs → sortedS ys = true → H p = none → Q (.ref p) (upd H p (.lst (ys.map V.str)))
theorem cr_sortedTup {X : Cx} : CallR X (.builtin "sorted") (rSortedT X.K) := by
  intro pins s σ H vs us Q I r h
  obtain ⟨a, xs, rfl, ht, q⟩ := h
  obtain ⟨its, rv, hl, hz⟩ := I.tuple ht
  rw [Vals.ref1 r]
  refine sorted_texts hl rv.strs (by rw [← rv.length]; exact hz) fun out ys h1 h2 h3 => ?_
  obtain ⟨ep, he⟩ := PyProof.Rows.sortedAll_at s.heap its out
  have len : (ys.map V.str).length ≤ sizeLine := by
    rw [List.length_map] at hz
    rw [List.length_map, h2.length_eq]
    exact hz
  exact ⟨.ref _, upd H (s.heap.objs.size + 1) (.lst (ys.map V.str)), I.laid (t' := s.toks) (fun _ _ => PyProof.Rows.sortedAll_old) (Nat.le_succ _) ⟨len, out.toList, ep, vals_of_strs h1, he⟩, rfl, q ys _ h2 h3 (I.hok.fresh (Nat.le_succ _))⟩
/-- sorted of a list of texts, of any length -/
def rSortedL (K : PySem.W.Frag) : List V → Hp → VK → Prop := fun vs H Q => ∃ (a : Addr) (xs : List Str), vs = [V.ref a] ∧ SqL K H a (xs.map V.str) ∧
  ∀ (ys : List Str) (p : Addr), ys.Perm xs → sortedS ys = true → H p = none → Q (.ref p) (upd H p (.lst (ys.map V.str)))
theorem cr_sortedLst {X : Cx} : CallR X (.builtin "sorted") (rSortedL X.K) := by
  intro pins s σ H vs us Q I r h
  obtain ⟨a, xs, rfl, ht, q⟩ := h
  obtain ⟨its, rv, hl, hz⟩ := I.list ht
  rw [Vals.ref1 r]
  refine PyProof.Rows.sorted_strsAny hl.isList rv.strs (by rw [← rv.length]; exact hz) fun out ys h1 h2 h3 => ?_
  obtain ⟨ep, he⟩ := PyProof.Rows.sortedAll_at s.heap its out
  have len : (ys.map V.str).length ≤ sizeLine := by
    rw [List.length_map] at hz
    rw [List.length_map, h2.length_eq]
    exact hz
  exact ⟨.ref _, upd H (s.heap.objs.size + 1) (.lst (ys.map V.str)), I.laid (t' := s.toks) (fun _ _ => PyProof.Rows.sortedAll_old) (Nat.le_succ _) ⟨len, out.toList, ep, vals_of_strs h1, he⟩, rfl, q ys _ h2 h3 (I.hok.fresh (Nat.le_succ _))⟩
/-- .. of ints -/
def rSortedN (K : PySem.W.Frag) : List V → Hp → VK → Prop := fun vs H Q => ∃ (a : Addr) (ns : List Int), vs = [V.ref a] ∧ SqL K H a (ns.map V.int) ∧
  ∀ (ms : List Int) (p : Addr), ms.Perm ns → ms.Pairwise (· ≤ ·) → H p = none → Q (.ref p) (upd H p (.lst (ms.map V.int)))
theorem cr_sortedInt {X : Cx} : CallR X (.builtin "sorted") (rSortedN X.K) := by
  intro pins s σ H vs us Q I r h
  obtain ⟨a, ns, rfl, ht, q⟩ := h
  obtain ⟨its, rv, hl, hz⟩ := I.list ht
  rw [Vals.ref1 r]
  have hi := rv.ints
  refine PyProof.Rows.sorted_intsAny hl.isList hi (by rw [← rv.length]; exact hz) fun out ms h1 h2 h3 => ?_
  obtain ⟨ep, he⟩ := PyProof.Rows.sortedAll_at s.heap its out
  have len : (ms.map V.int).length ≤ sizeLine := by
    rw [List.length_map] at hz
    rw [List.length_map, h2.length_eq]
    exact hz
  exact ⟨.ref _, upd H (s.heap.objs.size + 1) (.lst (ms.map V.int)), I.laid (t' := s.toks) (fun _ _ => PyProof.Rows.sortedAll_old) (Nat.le_succ _) ⟨len, out.toList, ep, vals_of_ints h1, he⟩, rfl, q ms _ h2 h3 (I.hok.fresh (Nat.le_succ _))⟩
end Own
/-! tuples whose objects are known to have no dict: tuple(l) makes them, their methods can be called -/
namespace Own
open PySem PySem.Spec PyProof.Rows L2
def IxT (H : Hp) (a : Addr) (xs : List V) : Prop := ∃ o : Obj, H a = some (.frz o (.tup xs)) ∧ o.cls = .type "tuple" ∧ o.dict = none
theorem IxT.sq {K : PySem.W.Frag} {H : Hp} {a : Addr} {xs : List V} (h : IxT H a xs) : SqT K H a xs := by
  obtain ⟨o, h, _⟩ := h
  exact .inl (.inr ⟨o, h⟩)
section
variable {X : Cx}
/-- tuple(l), l a list -/
def rTupIx (K : PySem.W.Frag) : List V → Hp → VK → Prop := fun xs H Q => ∃ p ys, xs = [.ref p] ∧ SqL K H p ys ∧ ∀ l o, H l = none → o.cls = .type "tuple" → o.dict = none → Q (.ref l) (upd H l (.frz o (.tup ys)))
theorem call_tuple_ix : CallR X (.type "tuple") (rTupIx X.K) := by
  intro pins s σ H xs us Q I r h
  obtain ⟨p, ys, rfl, hq, q⟩ := h
  obtain ⟨u, rfl, rx⟩ := vals1 r
  cases rx
  obtain ⟨its, r', pl, hz⟩ := I.list hq
  have hlen := r'.length
  refine call_tuple_list pl.isList (fun h' kp => ?_) (by simp only [List.size_toArray] <;> omega)
  have I1 : Inv X pins σ H { s with heap := h' } := I.kept (t' := s.toks) kp
  have I2 : Inv X pins σ (upd H h'.objs.size (.frz { cls := .type "tuple", data := .seq its.toArray } (.tup ys))) { s with heap := h'.push { cls := .type "tuple", data := .seq its.toArray } } :=
    I1.laid (t' := s.toks) (fun b o e => Heap.get?_push_of_some _ e) (Nat.le_refl _) (show ObjOk X.prog X.w _ _ _ (.frz _ (.tup ys)) from ⟨Heap.get?_push_size _ rfl, hz, its, r', IsTup.new _ _⟩)
  exact ⟨.ref h'.objs.size, _, I2, rfl, q _ _ (I1.hok.fresh (Nat.le_refl _)) rfl rfl⟩
theorem ix_ty {pins : List (Addr × Obj)} {σ : L2.St} {H : Hp} {s : Shared} {x : V} {v : Value} (I : Inv X pins σ H s) (r : RelV x v) (ty : ∃ a xs, x = .ref a ∧ IxT H a xs) :
    s.TypeIs v "tuple" ∧ ∀ a, v = .ref a → ∃ ob, s.heap.get? a = some ob ∧ ob.dict = none := by
  obtain ⟨a, xs, rfl, o, h, hc, hd⟩ := ty
  cases (show v = Value.ref a from r)
  obtain ⟨g, _⟩ := (show ObjOk X.prog X.w H s.heap a (.frz o (.tup xs)) from I.hok a _ h)
  exact ⟨⟨o, g, hc⟩, fun b e => by cases e; exact ⟨o, g, hd⟩⟩
def rTIx (K : PySem.W.Frag) : V → List V → Hp → VK → Prop := fun x xs H Q => ∃ p, ∃ ys : List Str, ∃ z j, x = .ref p ∧ xs = [.str z] ∧ SqT K H p (ys.map V.str) ∧ ys[j]? = some z ∧ (∀ m, m < j → ys[m]? ≠ some z) ∧ Q (.int (j : Nat)) H
theorem mt_tix : MtR X "tuple.index" (rTIx X.K) := mt_tup_index
def tTM (r : V → List V → Hp → VK → Prop) (to : TE) (t : TA) : TE := fun σ H Q => to σ H fun x H1 => (∃ a xs, x = .ref a ∧ IxT H1 a xs) ∧ t σ H1 fun xs H2 => r x xs H2 Q
theorem pe_tm {o e : Expr} {es : List Expr} {to : TE} {t : TA} {name : Str} {apos cpos : Pos} {id : String} {r : V → List V → Hp → VK → Prop} (slot : Slot "tuple" name id) (hty : typeOf (.builtin id) = pure (.type "method_descriptor")) (hm : MtR X id r) (ho : PE X o to) (ha : PA X (e :: es) t)
    (hbase : attributeBase o name X.env (eval o X.env) = eval o X.env := by rfl)
    (hfew : ((backTo cpos (starEach (e :: es) X.env)).all (fun x => !x.1) && (backToKw cpos (keywordEach [] X.env)).all (fun x => x.1.isSome)
      && decide ((e :: es).length + ([] : List Keyword).length + (if ([] : List Keyword).isEmpty then 0 else 1) < 30)) = true := by rfl)
    (hline : (apos.endLine == cpos.line) = true := by rfl) (hs : starEach (e :: es) X.env = (false, eval e X.env) :: starEach es X.env := by rfl) (hplain : (backTo cpos (starEach es X.env)).any (·.1) = false := by rfl) :
    PE X (.Call (.Attribute o name apos) (e :: es) [] cpos) (tTM r to t) := by
  refine ⟨fun pins s σ H Q I h => ?_⟩
  refine wpAny_Call_method_late hbase hfew hline rfl (thn (ho.run pins s σ H _ I h) fun v s1 ⟨x, H1, I1, r1, ty, q1⟩ => ?_)
  obtain ⟨h1, h2⟩ := ix_ty I1 r1 ty
  refine ⟨"tuple", id, PySem.F.plainAttrs_tuple, slot, hty, h1, h2, ?_⟩
  have hA := ha.run cpos pins s1 σ H1 _ I1 q1
  rw [hs] at hA ⊢
  refine Calls.callWith_builtin (by show (false || (backTo cpos (starEach es X.env)).any (·.1)) = false; rw [hplain] <;> rfl) (Calls.evalArgs_plain ?_)
  exact thn hA fun us s2 ⟨vs, H2, I2, r2, q2⟩ => hm pins s2 σ H2 x vs v us Q I2 r1 r2 q2
end
end Own
namespace K71
open PySem L2 Own StX ClX NdefX
/-! ### the text by places -/
def top (i : Nat) : Stmt := PySem.Challenge.pw_stepblocks_k71_interfaces_with_merged_ou.main.body.getD i (.Pass ⟨0, 0, 0, 0⟩)
abbrev sName : Stmt := top 5
abbrev sPorts : Stmt := top 6
abbrev sIface : Stmt := top 15
abbrev sStep : Stmt := top 16
abbrev sSel : Stmt := top 17
abbrev sMerged : Stmt := top 19
abbrev sFeed : Stmt := top 21
abbrev sTakeL : Stmt := top 22
abbrev sPickL : Stmt := top 23
abbrev sMade : Stmt := top 24
abbrev sDue : Stmt := top 25
abbrev sLaw : Stmt := top 26
theorem small1 {n : Nat} (h : n ≤ 8) : n ≤ sizeLine := Nat.le_trans h (by decide)
theorem upd_new {H : Hp} {p : Addr} {o : HO} (h : H p = none) : Same H (upd H p o) := fun b u e => by
  rw [upd_ne (ne_of_none e h)]
  exact e
theorem same_put {H H1 : Hp} {p : Addr} {o : HO} (s : Same H H1) (h : H p = none) : Same H (upd H1 p o) := fun b u e => by
  rw [upd_ne (ne_of_none e h)]
  exact s b u e
def reserved : List Str := ["block", "part", "end", "self"]
def isL (c : Nat) : Bool := decide (97 ≤ c) && decide (c ≤ 122)
def isNm (x : Str) : Bool := decide (1 ≤ x.length) && decide (x.length ≤ 8) && !decide (x ∈ reserved) && x.cps.toList.all isL
/-- what the texts module has -/
structure Txt (K : PySem.W.Frag) (mg : Str → Option Value) : Prop where
  le : ∃ t, mg "LETTERS" = some (.str "abcdefghijklmnopqrstuvwxyz" t)
  ml : ∃ t, mg "MOST_LETTERS" = some (.int 8 t)
  re : ∃ a, mg "RESERVED_WORDS" = some (.ref a) ∧ ∀ H, SqT K H a (reserved.map V.str)
  is_ : mg "isinstance" = none
  zl : mg "len" = none
  za : mg "all" = none
  zs : mg "str" = none
  zt : mg "tuple" = none
theorem isL_in (c : Nat) : decide (c ∈ (("abcdefghijklmnopqrstuvwxyz" : Str)).cps.toList) = isL c := by
  have e : (("abcdefghijklmnopqrstuvwxyz" : Str)).cps.toList = (List.range 26).map (· + 97) := by decide +kernel
  rw [e]
  unfold isL
  by_cases h : 97 ≤ c ∧ c ≤ 122
  · rw [decide_eq_true h.1, decide_eq_true h.2]
    exact decide_eq_true (List.mem_map.mpr ⟨c - 97, List.mem_range.mpr (by omega), by omega⟩)
  · have : ¬ c ∈ (List.range 26).map (· + 97) := fun hm => by
      obtain ⟨k, hk, rfl⟩ := List.mem_map.mp hm
      have := List.mem_range.mp hk
      omega
    rw [decide_eq_false this]
    by_cases h1 : 97 ≤ c
    · rw [decide_eq_true h1, decide_eq_false (fun h2 => h ⟨h1, h2⟩)]
      rfl
    · rw [decide_eq_false h1]
      rfl
theorem inV_strs (z : Str) (l : List Str) : inV (.str z) (l.map V.str) = decide (z ∈ l) := by
  induction l with
  | nil => rfl
  | cons a r ih =>
    show (eqV (.str a) (.str z) || inV (.str z) (r.map V.str)) = _
    rw [ih]
    have e : eqV (.str a) (.str z) = decide (z = a) := by
      show (a == z) = _
      by_cases h : z = a
      · rw [decide_eq_true h, h]
        exact beq_self_eq_true _
      · rw [decide_eq_false h]
        exact beq_eq_false_iff_ne.mpr fun q => h q.symm
    rw [e]
    by_cases h : z = a
    · simp [h]
    · simp [h]
def spName : Sp := fun vs H Q _ => ∃ x : Str, vs = [.str x] ∧ x.length ≤ sizeLine ∧ ∀ H', Same H H' → Q (.bl (isNm x)) H'
section
variable {P : Program} {w : World} {K : PySem.W.Frag} {mg : Str → Option Value} {base : Heap}
abbrev nN : List Str := ["value", "letter"]
theorem scN : FnScope nN ["value"] (defScope sName) := ⟨rfl, rfl, rfl, by decide +kernel, rfl, by decide +kernel, by decide +kernel⟩
theorem ok_name {f : Addr} {fd : FuncData} (F : Fun K "is_name" "is_name" sName f fd) (T : Txt K mg) : FnOk P w K mg base CX0 1 f fd ["value"] spName := by
  refine F.ok scN (fun vs H Q E h => ?_) (fun cdv A outer s H vs Q E hr h => ?_)
  · obtain ⟨x, rfl, _⟩ := h
    rfl
  obtain ⟨x, rfl, hx, k⟩ := h
  obtain ⟨tL, mL⟩ := T.le
  obtain ⟨tM, mM⟩ := T.ml
  obtain ⟨aR, mR, hR⟩ := T.re
  refine ⟨_, pss_cons (ps_if (PW.pt (pw_or (pt_not (pt_val (pe_callB (id := "isinstance") call_isi (by rfl) T.is_ (by decide +kernel) (pa_cons (pv 0) (pa_cons (pe_bltn (v := .ty "str") rfl T.zs PyProof.Rows.Boot.«str» rfl) pa_nil)))))
        (pw_or1 (pt_not (pt_chain op_le op_le pe_int (pe_callB call_len_str (by rfl) T.zl PySem.boot_len (pa_cons (pv 0) pa_nil)) (pe_glob (v := .int 8) rfl mM ⟨_, rfl⟩)))))) (pss_one (ps_ret pe_bl)) pss_nil)
    (pss_one (ps_ret (pe_and (pe_cmpR op_notIn_seq (pv 0) (pe_glob (v := .ref aR) rfl mR rfl) (by rfl)) (pe_one (pe_callB (cr_all rfl) (by rfl) T.za (by decide +kernel) (pa_cons (pe_lc (own := [("letter", 1)]) (g := gName 1) rfl scN.nd (pi_str (pv 0)) (blkOk_by (own := [("letter", 1)]) (N := nN) (sc := defScope sName) (by decide +kernel)) (fun _ _ _ _ _ => pg_name (i := 1) scN.nd rfl (Or.inl rfl)) (fun _ _ _ _ _ => pts_nil)
        (fun _ _ _ _ _ => pe_cmpR op_in_sign (pv 1) (pe_glob (v := .str "abcdefghijklmnopqrstuvwxyz") rfl mL ⟨_, rfl⟩) (by rfl))) pa_nil)))))), ?_⟩
  refine ⟨_, rfl, .str x, _, _, _, true, rfl, .ty "str", .base (.str x), rfl, _, rfl, ?_⟩
  have hsz : x.cps.toList.length = x.length := by simp [Str.length]
  refine iteF ⟨_, rfl, _, rfl, hx, _, _, rfl, rfl, _, rfl, ?_⟩
  have back : ∀ H', Same H H' → isNm x = false → Q (.bl false) H' := fun H' s' e => by
    have z := k H' s'
    rw [e] at z
    exact z
  by_cases h1 : (1 : Int) ≤ (x.length : Int)
  case neg =>
    rw [decide_eq_false h1]
    refine iteF ⟨_, rfl, iteT (back H (Same.refl H) ?_)⟩
    unfold isNm
    rw [decide_eq_false (show ¬ 1 ≤ x.length by omega)]
    rfl
  rw [decide_eq_true h1]
  refine iteT ⟨_, _, rfl, rfl, _, rfl, ?_⟩
  by_cases h2 : (x.length : Int) ≤ 8
  case neg =>
    rw [decide_eq_false h2]
    refine iteT (back H (Same.refl H) ?_)
    unfold isNm
    rw [decide_eq_false (show ¬ x.length ≤ 8 by omega), Bool.and_false]
    rfl
  rw [decide_eq_true h2]
  refine iteF ⟨_, rfl, aR, _, rfl, .inr (hR H), rfl, rfl, _, rfl, ?_⟩
  show if (!inV (.str x) (reserved.map V.str)) = true then _ else _
  rw [inV_strs]
  by_cases h3 : x ∈ reserved
  · rw [decide_eq_true h3]
    refine iteF (back H (Same.refl H) ?_)
    unfold isNm
    rw [decide_eq_true h3, Bool.not_true, Bool.and_false, Bool.false_and]
  rw [decide_eq_false h3]
  refine iteT ⟨_, rfl, x, rfl, fun D hD => ?_⟩
  refine lc_it walk_str (fun i H' => Same H H' ∧ H' D = some (.lst ((x.cps.toList.take i).map fun c => V.bl (isL c)))) ⟨upd_new hD, upd_same⟩ (fun _ _ _ _ => True.intro) ?_ ?_
  · rintro i v H1 H2 hi ⟨s1, a1⟩ ⟨rfl, c, hc, rfl⟩
    have hc' : x.cps.toList[i]? = some c := by simpa using hc
    refine ⟨rfl, ?_⟩
    refine ⟨_, rfl, c, _, rfl, rfl, ?_⟩
    rw [isL_in]
    have hl : ((x.cps.toList.take i).map fun c => V.bl (isL c)).length < sizeLine := by
      rw [List.length_map, List.length_take]
      have : i < x.length := hi
      exact Nat.lt_of_le_of_lt (Nat.min_le_left _ _) (by have := small1000 (n := i) (by omega); exact this)
    refine ⟨_, a1, hl, same_put s1 hD, ?_⟩
    rw [upd_same, List.take_succ, hc']
    simp
  rintro H1 ⟨s1, a1⟩
  rw [List.take_of_length_le (show x.cps.toList.length ≤ x.cps.size by simp)] at a1
  refine ⟨D, x.cps.toList.map isL, rfl, .of (by rw [a1, List.map_map]; rfl), ?_⟩
  have hall : (x.cps.toList.map isL).all id = x.cps.toList.all isL := by rw [List.all_map]; rfl
  rw [hall]
  have z := k H1 s1
  have e : isNm x = x.cps.toList.all isL := by
    unfold isNm
    rw [decide_eq_true (show 1 ≤ x.length by omega), decide_eq_true (show x.length ≤ 8 by omega), decide_eq_false h3]
    simp
  rw [e] at z
  exact z
end
end K71
namespace K71
open PySem L2 Own StX ClX NdefX
theorem eqv_strs : ∀ l m : List Str, PyData.eqvAll (l.map PyData.str) (m.map PyData.str) = decide (l = m)
  | [], [] => rfl
  | [], _ :: _ => rfl
  | _ :: _, [] => rfl
  | x :: l, y :: m => by
    simp only [List.map_cons, PyData.eqvAll, PyData.eqv, eqv_strs l m]
    by_cases h : x = y
    · subst h
      simp
    · rw [show (x == y) = false from beq_eq_false_iff_ne.mpr h, decide_eq_false (fun e => h (List.cons.inj e).1)]
      rfl
theorem nm_ok {x : Str} (h : isNm x = true) : PyData.canLay0 (.str x) = true := by
  unfold isNm at h
  rw [Bool.and_eq_true] at h
  show (x.cps.all (· < 0x110000)) = true
  rw [← Array.all_toList]
  refine List.all_eq_true.mpr fun c hc => ?_
  have z := List.all_eq_true.mp h.2 c hc
  unfold isL at z
  simp only [Bool.and_eq_true, decide_eq_true_eq] at z
  exact decide_eq_true (by omega)
theorem strs_shaped (l : List Str) (h : ∀ x ∈ l, isNm x = true) : SeqAt.shaped (.list (l.map PyData.str)) = true := by
  have h1 : ∀ l : List Str, (∀ c ∈ l, isNm c = true) → PyData.canLayAll0 (l.map PyData.str) = true ∧ PyData.depthAll (l.map PyData.str) ≤ 1 := by
    intro l
    induction l with
    | nil => exact fun _ => ⟨rfl, Nat.zero_le _⟩
    | cons c r ih =>
      intro h
      obtain ⟨a, b⟩ := ih fun d hd => h d (List.mem_cons_of_mem _ hd)
      refine ⟨?_, ?_⟩
      · simp only [List.map_cons, PyData.canLayAll0, a, nm_ok (h c List.mem_cons_self), Bool.and_self]
      · simp only [List.map_cons, PyData.depthAll, PyData.depth]
        omega
  obtain ⟨a, b⟩ := h1 l h
  unfold SeqAt.shaped
  rw [Bool.and_eq_true]
  refine ⟨by simpa only [PyData.canLay0] using a, decide_eq_true ?_⟩
  simp only [PyData.depth]
  omega
theorem dp_strs {K : PySem.W.Frag} {H : Hp} : ∀ l : List Str, DpAll K H (l.map V.str) (l.map PyData.str)
  | [] => .nil
  | x :: r => .cons (.str x) (dp_strs r)
theorem strs_flat (l : List Str) : (l.map V.str).all flatV = true := List.all_eq_true.mpr fun y hy => by
  obtain ⟨z, _, rfl⟩ := List.mem_map.mp hy
  rfl
theorem sqT_same {K : PySem.W.Frag} {H H' : Hp} {a : Addr} {xs : List V} (e : Same H H') (h : SqT K H a xs) : SqT K H' a xs := by
  rcases h with (h | ⟨o, h⟩) | h
  · exact .inl (.inl (e _ _ h))
  · exact .inl (.inr ⟨o, e _ _ h⟩)
  · exact .inr h
theorem ty_sq {K : PySem.W.Frag} {H : Hp} {a : Addr} {xs : List V} (h : SqT K H a xs) : TyX K H (.ref a) (.type "tuple") := by
  rcases h with (h | ⟨o, h⟩) | ⟨o, _, _, h1, h2, _⟩
  · exact .base (.tup h)
  · exact .fTuple h
  · exact .kTuple h1 h2
theorem isNm_len {x : Str} (h : isNm x = true) : 1 ≤ x.length ∧ x.length ≤ 8 := by
  unfold isNm at h
  simp only [Bool.and_eq_true, decide_eq_true_eq] at h
  exact ⟨h.1.1.1, h.1.1.2⟩
theorem ixT_same {H H' : Hp} {a : Addr} {xs : List V} (e : Same H H') (h : IxT H a xs) : IxT H' a xs := by
  obtain ⟨o, h1, h2⟩ := h
  exact ⟨o, e _ _ h1, h2⟩
/-! ### interfaces -/
structure If where
  ins : List Str
  outs : List Str
  prof : List (List Str × List Str)
abbrev Fnc : Type := List Str × List Str
structure OkI (f : If) : Prop where
  ni : ∀ x ∈ f.ins, isNm x = true
  no : ∀ x ∈ f.outs, isNm x = true
  nd : (f.ins ++ f.outs).Nodup
  il : f.ins.length ≤ 6
  ol : f.outs.length ≤ 6
  pl : f.prof.length ≤ 6
  ne : ∀ s ∈ f.prof, s.1 ≠ []
  so : ∀ s ∈ f.prof, s.1 = f.outs.filter fun x => decide (x ∈ s.1)
  sn : ∀ s ∈ f.prof, s.2 = f.ins.filter fun x => decide (x ∈ s.2)
  fi : (f.prof.map fun s => f.outs.idxOf (s.1.headD Str.empty)).Pairwise (· ≤ ·)
  pm : (f.prof.flatMap (·.1)).Perm f.outs
def StepAt (K : PySem.W.Frag) (H : Hp) (a : Addr) (s : Fnc) : Prop := ∃ x y, SqT K H a [.ref x, .ref y] ∧ SqT K H x (s.1.map V.str) ∧ SqT K H y (s.2.map V.str)
theorem StepAt.same {K : PySem.W.Frag} {H H' : Hp} {a : Addr} {s : Fnc} (e : Same H H') (h : StepAt K H a s) : StepAt K H' a s := by
  obtain ⟨x, y, h1, h2, h3⟩ := h
  exact ⟨x, y, sqT_same e h1, sqT_same e h2, sqT_same e h3⟩
def StepsAt (K : PySem.W.Frag) (H : Hp) (as : List Addr) (ps : List Fnc) : Prop := as.length = ps.length ∧ ∀ (i : Nat) (a : Addr) (s : Fnc), as[i]? = some a → ps[i]? = some s → StepAt K H a s
theorem StepsAt.same {K : PySem.W.Frag} {H H' : Hp} {as : List Addr} {ps : List Fnc} (e : Same H H') (h : StepsAt K H as ps) : StepsAt K H' as ps := ⟨h.1, fun i a s h1 h2 => (h.2 i a s h1 h2).same e⟩
theorem StepsAt.at {K : PySem.W.Frag} {H : Hp} {as : List Addr} {ps : List Fnc} (h : StepsAt K H as ps) {i : Nat} {a : Addr} (ha : as[i]? = some a) : ∃ s, ps[i]? = some s ∧ StepAt K H a s := by
  have hi : i < ps.length := by rw [← h.1]; exact (List.getElem?_eq_some_iff.mp ha).1
  exact ⟨ps[i], List.getElem?_eq_getElem hi, h.2 i a _ ha (List.getElem?_eq_getElem hi)⟩
/-- it stands at v; its profile at p -/
def IfAt (K : PySem.W.Frag) (H : Hp) (v : Addr) (f : If) : Prop := ∃ (i o p : Addr) (as : List Addr), SqT K H v [.ref i, .ref o, .ref p] ∧ SqT K H i (f.ins.map V.str) ∧ IxT H o (f.outs.map V.str) ∧ SqT K H p (as.map V.ref) ∧ StepsAt K H as f.prof
theorem IfAt.same {K : PySem.W.Frag} {H H' : Hp} {v : Addr} {f : If} (e : Same H H') (h : IfAt K H v f) : IfAt K H' v f := by
  obtain ⟨i, o, p, as, h1, h2, h3, h4, h5⟩ := h
  exact ⟨i, o, p, as, sqT_same e h1, sqT_same e h2, ixT_same e h3, sqT_same e h4, h5.same e⟩
/-! ### _is_selection, _is_step_function -/
def spSel (K : PySem.W.Frag) : Sp := fun vs H Q _ => ∃ (a b : Addr) (xs ns : List Str), vs = [.ref a, .ref b] ∧ SqT K H a (xs.map V.str) ∧ SqT K H b (ns.map V.str) ∧ ns.length ≤ 1000 ∧ (∀ x ∈ ns, isNm x = true) ∧ (xs = ns.filter fun x => decide (x ∈ xs)) ∧ ∀ H', Same H H' → Q (.bl true) H'
def spStep (K : PySem.W.Frag) : Sp := fun vs H Q _ => ∃ (a i o : Addr) (s : Fnc) (ins outs : List Str), vs = [.ref a, .ref i, .ref o] ∧ StepAt K H a s ∧ SqT K H i (ins.map V.str) ∧ SqT K H o (outs.map V.str) ∧ ins.length ≤ 1000 ∧ outs.length ≤ 1000 ∧ (∀ x ∈ ins, isNm x = true) ∧ (∀ x ∈ outs, isNm x = true) ∧
  s.1 ≠ [] ∧ (s.1 = outs.filter fun x => decide (x ∈ s.1)) ∧ (s.2 = ins.filter fun x => decide (x ∈ s.2)) ∧ ∀ H', Same H H' → Q (.bl true) H'
section
variable {P : Program} {w : World} {K : PySem.W.Frag} {mg : Str → Option Value} {base : Heap}
theorem scSe : FnScope ["value", "names", "name"] ["value", "names"] (defScope sSel) := ⟨rfl, rfl, rfl, by decide +kernel, rfl, by decide +kernel, by decide +kernel⟩
theorem ok_sel {f : Addr} {fd : FuncData} (F : Fun K "_is_selection" "_is_selection" sSel f fd) (T : Txt K mg) (ml : mg "list" = none) : FnOk P w K mg base CX0 1 f fd ["value", "names"] (spSel K) := by
  refine F.ok scSe (fun vs H Q E h => ?_) (fun cdv A outer s H vs Q E hr h => ?_)
  · obtain ⟨a, b, xs, ns, rfl, _⟩ := h
    rfl
  obtain ⟨a, b, xs, ns, rfl, ha, hb, hbl, hnm, hsel, k⟩ := h
  have hu := hr.units
  refine ⟨_, pss_one (ps_ret (pe_and (pe_callB (id := "isinstance") call_isi (by rfl) T.is_ (by decide +kernel) (pa_cons (pv 0) (pa_cons (pe_bltn (v := .ty "tuple") rfl T.zt PyProof.Rows.Boot.«tuple» rfl) pa_nil))) (pe_one (pe_cmpR (op_eqD hu) (pe_callTy call_list_of (by rfl) ml (by decide +kernel) (pa_cons (pv 0) pa_nil))
      (pe_lc (own := [("name", 2)]) (g := gName 2) rfl scSe.nd (pi_tup (pv 1)) (blkOk_by (own := [("name", 2)]) (N := ["value", "names", "name"]) (sc := defScope sSel) (by decide +kernel)) (fun _ _ _ _ _ => pg_name (i := 2) scSe.nd rfl (Or.inl rfl)) (fun _ _ _ _ _ => pts_one (pt_cmpR (show OpR _ (compareOp .In) (rIn K false) from op_in_seq) (pv 2) (pv 0) (by rfl)))
        (fun _ _ _ _ _ => pv 2)) (nomark _))))), ?_⟩
  have hxn : ∀ x ∈ xs, isNm x = true := fun x hx => by
    rw [hsel] at hx
    exact hnm x (List.mem_filter.mp hx).1
  refine ⟨_, rfl, .ref a, _, _, _, true, rfl, .ty "tuple", ty_sq ha, rfl, _, rfl, ?_⟩
  refine iteT ⟨_, rfl, a, _, rfl, .inr ha, fun l hl => ?_⟩
  have s2 := upd_new (o := HO.lst (xs.map V.str)) hl
  have gl : (upd H l (.lst (xs.map V.str))) l = some (.lst (xs.map V.str)) := upd_same
  show tLc _ _ _ _ _ _ (upd H l (.lst (xs.map V.str))) _
  generalize upd H l (.lst (xs.map V.str)) = H2 at s2 gl ⊢
  refine ⟨_, rfl, b, rfl, ⟨_, sqT_same s2 hb⟩, fun D hD => ?_⟩
  refine lc_tup (K := K) (a := b) (xs := ns.map V.str) (fun i H' => Same H2 H' ∧ H' D = some (.lst (((ns.take i).filter fun n => decide (n ∈ xs)).map V.str))) ⟨upd_new hD, upd_same⟩ (fun i H' _ p => sqT_same p.1 (sqT_same s2 hb)) ?_ ?_
  · rintro i v H3 hi ⟨s3, a3⟩
    rw [List.getElem?_map] at hi
    obtain ⟨x, hx, rfl⟩ := Option.map_eq_some_iff.mp hi
    have tk : ns.take (i + 1) = ns.take i ++ [x] := by rw [List.take_add_one, hx]; rfl
    refine ⟨rfl, _, rfl, _, rfl, a, xs.map V.str, rfl, .inr (sqT_same s3 (sqT_same s2 ha)), rfl, strs_flat xs, _, rfl, ?_⟩
    show if inV (.str x) (xs.map V.str) = true then _ else _
    rw [inV_strs]
    by_cases hm : x ∈ xs
    · rw [decide_eq_true hm]
      refine iteT ⟨_, rfl, _, a3, ?_, same_put s3 hD, ?_⟩
      · rw [List.length_map]
        refine Nat.lt_of_le_of_lt (Nat.le_trans (List.length_filter_le _ _) (by rw [List.length_take]; exact Nat.le_trans (Nat.min_le_right _ _) hbl)) (by rw [sizeLine_eq]; omega)
      · rw [upd_same, tk, List.filter_append]
        simp [hm]
    · rw [decide_eq_false hm]
      refine iteF ⟨s3, ?_⟩
      rw [a3, tk, List.filter_append]
      simp [hm]
  rintro H3 ⟨s3, a3⟩
  rw [List.take_of_length_le (by rw [List.length_map]; exact Nat.le_refl _), ← hsel] at a3
  refine ⟨.list (xs.map PyData.str), .list (xs.map PyData.str), .lst (.of (s3 _ _ gl)) (dp_strs _), .lst (.of a3) (dp_strs _), strs_shaped _ hxn, strs_shaped _ hxn, ?_⟩
  have z := k H3 (s2.trans s3)
  show Q (.bl (PyData.eqvAll _ _)) H3
  rw [eqv_strs, decide_eq_true rfl]
  exact z
abbrev nS : List Str := ["value", "inputs", "outputs", "names", "needs"]
theorem scSt : FnScope nS ["value", "inputs", "outputs"] (defScope sStep) := ⟨rfl, rfl, rfl, by decide +kernel, rfl, by decide +kernel, by decide +kernel⟩
theorem ok_step {f fS : Addr} {fd fdS : FuncData} (F : Fun K "_is_step_function" "_is_step_function" sStep f fd) (T : Txt K mg) (GS : FnOk P w K mg base CX0 1 fS fdS ["value", "names"] (spSel K)) (mS : mg "_is_selection" = some (.ref fS)) (kS : PySem.W.keepIn K (.ref fS) = true) (bS : Binds K fdS ["value", "names"] []) :
    FnOk P w K mg base CX0 2 f fd ["value", "inputs", "outputs"] (spStep K) := by
  refine F.ok scSt (fun vs H Q E h => ?_) (fun cdv A outer s H vs Q E hr h => ?_)
  · obtain ⟨a, i, o, s, ins, outs, rfl, _⟩ := h
    rfl
  obtain ⟨a, i, o, st, ins, outs, rfl, ⟨x, y, h1, h2, h3⟩, hi, ho, hil, hol, hin, hon, hne, hso, hsn, k⟩ := h
  refine ⟨_, pss_cons (ps_if (PW.pt (pw_or (pt_not (pt_val (pe_callB (id := "isinstance") call_isi (by rfl) T.is_ (by decide +kernel) (pa_cons (pv 0) (pa_cons (pe_bltn (v := .ty "tuple") rfl T.zt PyProof.Rows.Boot.«tuple» rfl) pa_nil)))))
        (pw_or1 (pt_cmpR op_ne (pe_callB call_len_seq (by rfl) T.zl PySem.boot_len (pa_cons (pv 0) pa_nil)) pe_int (nomark _))))) (pss_one (ps_ret pe_bl)) pss_nil)
    (pss_cons (ps_asg (pv 0) (pg_tup (by rfl) (pgs_cons (pg_name (i := 3) scSt.nd rfl (.inl rfl)) (pgs_cons (pg_name (i := 4) scSt.nd rfl (.inl rfl)) pgs_nil))))
    (pss_one (ps_ret (pe_and (pe_call GS hr rfl mS kS bS .nil pass0 (pa_cons (pv 3) (pa_cons (pv 2) pa_nil))) (pe_and (pe_cmpR op_gt (pe_callB call_len_seq (by rfl) T.zl PySem.boot_len (pa_cons (pv 3) pa_nil)) pe_int (nomark _)) (pe_one (pe_call GS hr rfl mS kS bS .nil pass0 (pa_cons (pv 4) (pa_cons (pv 1) pa_nil))))))))), ?_⟩
  refine ⟨_, rfl, .ref a, _, _, _, true, rfl, .ty "tuple", ty_sq h1, rfl, _, rfl, iteF ?_⟩
  refine ⟨_, rfl, a, _, rfl, .inr h1, rfl, _, rfl, iteF ?_⟩
  refine ⟨_, rfl, a, _, rfl, h1, rfl, _, _, rfl, _, _, rfl, rfl, ?_⟩
  refine ⟨_, rfl, _, rfl, x, o, _, _, rfl, h2, ho, hol, hon, hso, fun H1 s1 => ⟨_, rfl, iteT ?_⟩⟩
  refine ⟨_, rfl, x, _, rfl, .inr (sqT_same s1 h2), _, _, rfl, rfl, _, rfl, ?_⟩
  have e : decide ((((st.1.map V.str).length : Nat) : Int) > 0) = true := decide_eq_true (by
    rw [List.length_map]
    have : 0 < st.1.length := List.length_pos_iff.mpr hne
    omega)
  rw [e]
  refine iteT ⟨_, rfl, _, rfl, y, i, _, _, rfl, sqT_same s1 h3, sqT_same s1 hi, hil, hin, hsn, fun H2 s2 => ?_⟩
  exact k H2 (s1.trans s2)
end
end K71
namespace K71
open PySem L2 Own StX ClX NdefX
def spPorts (K : PySem.W.Frag) : Sp := fun vs H Q _ => ∃ (i o : Addr) (ins outs : List Str), vs = [.ref i, .ref o, .int 8] ∧ SqT K H i (ins.map V.str) ∧ SqT K H o (outs.map V.str) ∧ ins.length ≤ 8 ∧ outs.length ≤ 8 ∧ (∀ x ∈ ins, isNm x = true) ∧ (∀ x ∈ outs, isNm x = true) ∧ (ins ++ outs).Nodup ∧ ∀ H', Same H H' → Q (.bl true) H'
section
variable {P : Program} {w : World} {K : PySem.W.Frag} {mg : Str → Option Value} {base : Heap}
abbrev nPo : List Str := ["inputs", "outputs", "most", "value", "name"]
theorem scPo : FnScope nPo ["inputs", "outputs", "most"] (defScope sPorts) := ⟨rfl, rfl, rfl, by decide +kernel, rfl, by decide +kernel, by decide +kernel⟩
theorem ok_ports {f fN : Addr} {fd fdN : FuncData} (F : Fun K "are_port_names" "are_port_names" sPorts f fd) (T : Txt K mg) (zse : mg "set" = none) (GN : FnOk P w K mg base CX0 1 fN fdN ["value"] spName) (mN : mg "is_name" = some (.ref fN)) (kN : PySem.W.keepIn K (.ref fN) = true) (bN : Binds K fdN ["value"] []) :
    FnOk P w K mg base CX0 2 f fd ["inputs", "outputs", "most"] (spPorts K) := by
  refine F.ok scPo (fun vs H Q E h => ?_) (fun cdv A outer s H vs Q E hr h => ?_)
  · obtain ⟨i, o, ins, outs, rfl, _⟩ := h
    rfl
  obtain ⟨i, o, ins, outs, rfl, hi, ho, hil, hol, hni, hno, hnd, k⟩ := h
  refine ⟨_, pss_cons (ps_for PassesOwn.never rfl (pi_tup (pe_tup (pa_cons (pv 0) (pa_cons (pv 1) pa_nil)))) (pg_name (i := 3) scPo.nd rfl (.inl rfl))
      (pss_one (ps_if (PW.pt (pw_or (pt_not (pt_val (pe_callB (id := "isinstance") call_isi (by rfl) T.is_ (by decide +kernel) (pa_cons (pv 3) (pa_cons (pe_bltn (v := .ty "tuple") rfl T.zt PyProof.Rows.Boot.«tuple» rfl) pa_nil)))))
        (pw_or (pt_cmpR op_gt (pe_callB call_len_seq (by rfl) T.zl PySem.boot_len (pa_cons (pv 3) pa_nil)) (pv 2) (nomark _))
        (pw_or1 (pt_not (pt_val (pe_callB (cr_all rfl) (by rfl) T.za (by decide +kernel) (pa_cons (pe_lc (own := [("name", 4)]) (g := gName 4) rfl scPo.nd (pi_tup (pv 3)) (blkOk_by (own := [("name", 4)]) (N := nPo) (sc := defScope sPorts) (by decide +kernel)) (fun _ _ _ _ _ => pg_name (i := 4) scPo.nd rfl (Or.inl rfl)) (fun _ _ _ _ _ => pts_nil)
          (fun _ _ _ _ _ => pe_call GN hr rfl mN kN bN .nil pass0 (pa_cons (pv 4) pa_nil))) pa_nil)))))))) (pss_one (ps_ret pe_bl)) pss_nil)))
    (pss_one (ps_ret (pe_cmpR op_eq (pe_lenSetT rfl rfl T.zl rfl zse (pe_op op_catA (pv 0) (pv 1))) (pe_op op_add (pe_callB call_len_seq (by rfl) T.zl PySem.boot_len (pa_cons (pv 0) pa_nil)) (pe_callB call_len_seq (by rfl) T.zl PySem.boot_len (pa_cons (pv 1) pa_nil))) (nomark _)))), ?_⟩
  have big : ∀ {n : Nat}, n ≤ 100000 → n ≤ sizeLine := fun h => by rw [sizeLine_eq]; omega
  have lt : ∀ {n : Nat}, n ≤ 100000 → n < sizeLine := fun h => by rw [sizeLine_eq]; omega
  refine ⟨_, rfl, _, rfl, small1 (by show 2 ≤ 8; decide), fun t ht => ?_⟩
  have s1 := upd_new (o := HO.tup [V.ref i, V.ref o]) ht
  have g1 := upd_same (H := H) (a := t) (o := HO.tup [V.ref i, V.ref o])
  generalize upd H t (HO.tup [V.ref i, V.ref o]) = H1 at s1 g1 ⊢
  refine ⟨t, rfl, ⟨_, .of g1⟩, for_tup (K := K) (a := t) (xs := [V.ref i, V.ref o]) (fun j σ H2 => ∃ u3, σ = [some (.ref i), some (.ref o), some (.int 8), u3, none] ∧ Same H1 H2) ⟨_, rfl, Same.refl _⟩ (fun j σ H2 _ q => by
      obtain ⟨_, _, s⟩ := q
      exact .of (s _ _ g1)) ?turn ?done⟩
  case turn =>
    rintro j x σ H2 hx ⟨u3, rfl, s2⟩
    obtain ⟨b, xs, rfl, hb, hxl, hxn⟩ : ∃ (b : Addr) (xs : List Str), x = .ref b ∧ SqT K H2 b (xs.map V.str) ∧ xs.length ≤ 8 ∧ ∀ y ∈ xs, isNm y = true := by
      have hm := List.mem_of_getElem? hx
      simp only [List.mem_cons, List.not_mem_nil, or_false] at hm
      rcases hm with rfl | rfl
      · exact ⟨_, _, rfl, sqT_same s2 (sqT_same s1 hi), hil, hni⟩
      · exact ⟨_, _, rfl, sqT_same s2 (sqT_same s1 ho), hol, hno⟩
    refine ⟨_, rfl, .ref b, _, _, _, true, rfl, .ty "tuple", ty_sq hb, rfl, _, rfl, iteF ?_⟩
    refine ⟨_, rfl, b, _, rfl, .inr hb, _, rfl, _, _, rfl, rfl, _, rfl, ?_⟩
    have e : decide ((((xs.map V.str).length : Nat) : Int) > 8) = false := decide_eq_false (by rw [List.length_map]; omega)
    rw [e]
    refine iteF ⟨_, rfl, b, rfl, ⟨_, hb⟩, fun D hD => ?_⟩
    refine lc_tup (K := K) (a := b) (xs := xs.map V.str) (fun m H' => Same H2 H' ∧ H' D = some (.lst (((xs.take m).map fun x => V.bl (isNm x))))) ⟨upd_new hD, upd_same⟩ (fun m H' _ p => sqT_same p.1 hb) ?_ ?_
    · rintro m v H3 hm ⟨s3, a3⟩
      rw [List.getElem?_map] at hm
      obtain ⟨y, hy, rfl⟩ := Option.map_eq_some_iff.mp hm
      have hyn := hxn y (List.mem_of_getElem? hy)
      refine ⟨rfl, _, rfl, y, rfl, small1 (isNm_len hyn).2, fun H4 s4 => ⟨_, s4 _ _ a3, lt ?_, same_put (s3.trans s4) hD, ?_⟩⟩
      · rw [List.length_map, List.length_take]
        omega
      · rw [upd_same, List.take_add_one, hy]
        simp
    rintro H3 ⟨s3, a3⟩
    rw [List.take_of_length_le (by rw [List.length_map]; exact Nat.le_refl _)] at a3
    refine ⟨D, xs.map isNm, rfl, .of (by rw [a3, List.map_map]; rfl), _, rfl, ?_⟩
    have e2 : (xs.map isNm).all id = true := by
      rw [List.all_map]
      exact List.all_eq_true.mpr fun y hy => hxn y hy
    rw [e2]
    exact iteF ⟨_, rfl, s2.trans s3⟩
  rintro σ H2 ⟨u3, rfl, s2⟩
  have s3 := s1.trans s2
  have last : ∀ (c : Nat) (H3 : Hp), c = (ins ++ outs).length → Same H H3 → Q (V.bl (decide (V.int ((c : Nat) : Int) = V.int ((((ins.map V.str).length : Nat) : Int) + (((outs.map V.str).length : Nat) : Int))))) H3 := fun c H3 e s => by
    rw [e, List.length_map, List.length_map, List.length_append, decide_eq_true (congrArg V.int (by omega))]
    exact k H3 s
  have l1000 : (ins ++ outs).length ≤ 1000 := by rw [List.length_append]; omega
  have hi3 := sqT_same s3 hi
  have ho3 := sqT_same s3 ho
  refine ⟨_, rfl, _, rfl, i, o, _, _, rfl, rfl, hi3, ho3, by rw [List.length_map, List.length_map]; exact big (by omega), fun e => ?_, fun _ e => ?_, fun _ _ p hp => ?_⟩
  · have hl : SqT K H2 o ((ins ++ outs).map V.str) := by
      rw [List.map_append, e]
      exact ho3
    exact ⟨o, ins ++ outs, rfl, hl, l1000, fun c _ hc => ⟨_, rfl, i, _, rfl, .inr hi3, _, rfl, o, _, rfl, .inr ho3, _, _, rfl, rfl, rfl, last c H2 (hc.mpr hnd) s3⟩⟩
  · have hl : SqT K H2 i ((ins ++ outs).map V.str) := by
      rw [List.map_append, e, List.append_nil]
      exact hi3
    exact ⟨i, ins ++ outs, rfl, hl, l1000, fun c _ hc => ⟨_, rfl, i, _, rfl, .inr hi3, _, rfl, o, _, rfl, .inr ho3, _, _, rfl, rfl, rfl, last c H2 (hc.mpr hnd) s3⟩⟩
  · have s4 := upd_new (o := HO.tup (ins.map V.str ++ outs.map V.str)) hp
    have hl : SqT K (upd H2 p (HO.tup (ins.map V.str ++ outs.map V.str))) p ((ins ++ outs).map V.str) := by
      rw [List.map_append]
      exact .of upd_same
    exact ⟨p, ins ++ outs, rfl, hl, l1000, fun c _ hc => ⟨_, rfl, i, _, rfl, .inr (sqT_same s4 hi3), _, rfl, o, _, rfl, .inr (sqT_same s4 ho3), _, _, rfl, rfl, rfl, last c _ (hc.mpr hnd) (s3.trans s4)⟩⟩
end
end K71
/-! OwnF: a field as a target (a.f, b.g = ..). -/
namespace Own
open PySem PySem.Spec PyProof.Rows L2
/-- o.f = .. as a target -/
def gFld (K : PySem.W.Frag) (f : Str) (ta : TE) : TG := fun v σ H Q => ta σ H fun x H1 => ∃ a C dx fs, x = .ref a ∧ H1 a = some (.ins C dx fs) ∧ Cls K C ∧ NoAttr K C f ∧ fs.length < 1000 ∧ Q σ (upd H1 a (.ins C dx (putF f v fs)))
theorem pg_fld {X : Cx} {o : Expr} {ta : TE} {f : Str} {pos : Pos} (ha : PE X o ta) : PG X (.Attribute o f pos) (gFld X.K f ta) := by
  refine ⟨fun pins s σ H v u Q I r h => ?_⟩
  rw [PySem.assign_Attribute]
  refine wpAny_bind (wpAny_holding (thn (ha.run pins s σ H _ I h) fun ov s1 ⟨x, H1, I1, rx, a, C, dx, fs, ex, ea, c, n, l, q⟩ => ?_))
  subst ex
  obtain rfl : ov = Value.ref a := rx
  exact wpAny_bind (wpAny_standAt (wpAny_bind (wpAny_holding (setattr_ok I1 ea c n l r fun s2 I2 => wpAny_release ⟨σ, _, I2, q⟩))))
end Own
/-! OwnG: the truth of a dict with tuple keys. -/
namespace Own
open PySem PySem.Spec PyProof.Rows L2
section
variable {prog : Program} {w : World} {K : Type} [DecidableEq K] {knd : HeapKind prog w K} {A : Around} {E : Value → Shared → Prop} {s : Shared}
theorem truth_dictH {d : Addr} {xs : List (K × Addr × Value)} {Q : Bool → Shared → Prop} (hd : (d == sysModules) = false) (dd : s.heap.DictOfH knd d xs) (fit : (xs.length : Int) < 2 ^ 63) (q : ∀ s', s' = { s with toks := s.toks + 1 + 1 } → Q (!xs.isEmpty) s') :
    wpAny (model prog w) A (truthy (.ref d)) Q E s := by
  have q := q _ rfl
  have ne : ((xs.length : Int) != 0) = !xs.isEmpty := by cases xs <;> simp <;> omega
  have tl : wpAny (model prog w) A (runValue (.builtin "len" ⟨[.ref d], []⟩)) (fun r t => r = .int xs.length (s.toks + 1) ∧ Q (!xs.isEmpty) t) E s := by
    refine wpAny_runValue (codeAny_builtin entry_len (by
      rw [Around.under_plainId plain_len _]
      refine wpAny_mono (wpAny_len_body_dictH (Q := fun r t => r = .int xs.length (s.toks + 1) ∧ Q (!xs.isEmpty) t) hd dd fit ⟨rfl, q⟩) (fun fin t z => ?_) fun _ _ e => e
      obtain ⟨r, rfl, z⟩ := z
      exact z))
  have ty := dd.typeIs
  unfold truthy
  first
    | refine wpAny_bind (wpAny_callSpecial?_none (name := Str.ofString "__bool__") ty noBool_dict ?_)
    | refine wpAny_bind (wpAny_pure (wpAny_bind (wpAny_callSpecial?_none (name := Str.ofString "__bool__") ty noBool_dict ?_)))
  first
    | refine wpAny_bind (wpAny_specialOf (name := Str.ofString "__len__") ty F.slot_dict_len.lookup ?_)
    | refine wpAny_bind (wpAny_pure (wpAny_bind (wpAny_specialOf (name := Str.ofString "__len__") ty F.slot_dict_len.lookup ?_)))
  first
    | exact wpAny_bind (wpAny_mono tl (fun r t z => by obtain ⟨rfl, z⟩ := z; exact wpAny_pure (ne ▸ z)) fun _ _ e => e)
    | exact wpAny_bind (wpAny_pure (wpAny_bind (wpAny_mono tl (fun r t z => by obtain ⟨rfl, z⟩ := z; exact wpAny_pure (ne ▸ z)) fun _ _ e => e)))
end
/-- not e, e a dict with tuple keys -/
def tNotW (ta : TE) : TE := fun σ H Q => ta σ H fun x H1 => ∃ (a : Addr) (kvs : List (List Key × V)), x = .ref a ∧ H1 a = some (.dT kvs) ∧ Q (.bl kvs.isEmpty) H1
theorem pe_notW {X : Cx} {a : Expr} {ta : TE} {pos : Pos} (ha : PE X a ta) : PE X (.UnaryOp .Not a pos) (tNotW ta) := by
  refine ⟨fun pins s σ H Q I h => ?_⟩
  refine UnaryOp_ (thn (ha.run pins s σ H _ I h) fun v s1 ⟨x, H1, I1, r1, p, kvs, ex, hp, q⟩ => ?_)
  subst ex
  obtain rfl : v = .ref p := r1
  obtain ⟨z, hd, ys, rel, dd⟩ := dt_of I1.hok hp
  have hl : kvs.length = ys.length := Paired.length rel
  have he : (!ys.isEmpty) = !kvs.isEmpty := by
    cases kvs <;> cases ys <;> first | rfl | (simp at hl)
  refine not_of (truth_dictH hd dd (by rw [← hl]; rw [sizeLine_eq] at z; omega) fun t et => ?_)
  rw [et, he]
  exact ⟨.bl (!(!kvs.isEmpty)), H1, I1.tok _, rfl, by rw [Bool.not_not]; exact q⟩
end Own
/-! OwnH: a walk whose turn is any statement of the heap; the second source of a comprehension. -/
namespace Own
open PySem PySem.Spec PyProof.Rows L2
theorem out_it {J : It} {n : Nat} {G : Hp → Prop} {Y : Nat → Hp → V → Hp → Prop} (w : Walk J n G Y) {S : Hp} {Qd : Hp → Prop} {B : (Hp → Prop) → V → Hp → Prop} (Pv : Nat → Hp → Prop) (h0 : Pv 0 S) (hG : ∀ i H, i ≤ n → Pv i H → G H)
    (hs : ∀ i x H H', i < n → Pv i H → Y i H x H' → B (Pv (i + 1)) x H') (hd : ∀ H, Pv n H → Qd H) :
    ∃ W : Nat → Nat → Hp → Prop, (∃ m, W 0 m S) ∧ ∀ i m H, W i m H → (J.stop i H ∧ Qd H) ∨ (J.go i H ∧ ∃ Nx : Hp → Prop, (∀ H', Nx H' → ∃ m', m' < m ∧ W (i + 1) m' H') ∧ ∀ x H', J.yld i H x H' → B Nx x H') := by
  refine ⟨fun i m H => m + i = n ∧ Pv i H, ⟨n, rfl, h0⟩, fun i m H hw => ?_⟩
  obtain ⟨hm, p⟩ := hw
  have hi : i ≤ n := by omega
  have q := hG i H hi p
  by_cases hlt : i < n
  · refine .inr ⟨w.goes i H hlt q, Pv (i + 1), fun H' p' => ⟨n - (i + 1), by omega, by omega, p'⟩, fun x H' y => ?_⟩
    exact hs i x H H' hlt p (w.yields i H x H' hlt q y)
  · have e : i = n := by omega
    subst e
    exact .inl ⟨w.stops H q, hd H p⟩
end Own
namespace K71
open PySem L2 Own StX ClX NdefX
/-! ### texts in order -/
def leS (x y : Str) : Prop := x.cps.toList ≤ y.cps.toList
theorem leS_iff {x y : Str} : leS x y ↔ PySem.Spec.ltCps y.cps.toList x.cps.toList = false := by
  rw [PyProof.Rows.ltCps_eq]
  unfold leS
  rw [decide_eq_false_iff_not, List.not_lt]
theorem leS_anti {x y : Str} (h : leS x y) (g : leS y x) : x = y := TL.ext_tl (List.le_antisymm h g)
theorem leS_trans {x y z : Str} (h : leS x y) (g : leS y z) : leS x z := List.le_trans h g
theorem rising_pw : ∀ (l : List Str) (p : Str), PyProof.Rows.risingS p l = true → (p :: l).Pairwise leS
  | [], p, _ => List.pairwise_singleton _ _
  | x :: r, p, h => by
    simp only [PyProof.Rows.risingS, Bool.and_eq_true, Bool.not_eq_true'] at h
    have ih := rising_pw r x h.2
    have hpx : leS p x := leS_iff.mpr h.1
    refine List.pairwise_cons.mpr ⟨fun y hy => ?_, ih⟩
    rcases List.mem_cons.mp hy with rfl | hy
    · exact hpx
    · exact leS_trans hpx ((List.pairwise_cons.mp ih).1 y hy)
theorem sorted_pw {l : List Str} (h : PyProof.Rows.sortedS l = true) : l.Pairwise leS := by
  cases l with
  | nil => exact List.Pairwise.nil
  | cons p r => exact rising_pw r p h
theorem sorted_same {l m n o : List Str} (hl : PyProof.Rows.sortedS l = true) (hm : PyProof.Rows.sortedS m = true) (h1 : l.Perm n) (h2 : m.Perm o) (h : n.Perm o) : l = m :=
  List.Perm.eq_of_pairwise (fun _ _ _ _ => leS_anti) (sorted_pw hl) (sorted_pw hm) (h1.trans (h.trans h2.symm))
theorem ints_shaped (l : List Int) : SeqAt.shaped (.list (l.map PyData.int)) = true := by
  have h1 : ∀ l : List Int, PyData.canLayAll0 (l.map PyData.int) = true ∧ PyData.depthAll (l.map PyData.int) ≤ 1 := by
    intro l
    induction l with
    | nil => exact ⟨rfl, Nat.zero_le _⟩
    | cons c r ih =>
      obtain ⟨a, b⟩ := ih
      refine ⟨?_, ?_⟩
      · simp only [List.map_cons, PyData.canLayAll0, a, PyData.canLay0, Bool.and_self]
      · simp only [List.map_cons, PyData.depthAll, PyData.depth]
        omega
  obtain ⟨a, b⟩ := h1 l
  unfold SeqAt.shaped
  rw [Bool.and_eq_true]
  refine ⟨by simpa only [PyData.canLay0] using a, decide_eq_true ?_⟩
  simp only [PyData.depth]
  omega
theorem dp_ints {K : PySem.W.Frag} {H : Hp} : ∀ l : List Int, DpAll K H (l.map V.int) (l.map PyData.int)
  | [] => .nil
  | x :: r => .cons (.int x) (dp_ints r)
theorem eqv_shaped {d : PyData} (h : SeqAt.shaped d = true) : PyData.eqv d d = true := by
  unfold SeqAt.shaped at h
  rw [Bool.and_eq_true] at h
  exact PySem.SeqAt.eqv_refl d h.1
theorem tk1 {α : Type} {l : List α} {i : Nat} {a : α} (h : l[i]? = some a) : l.take (i + 1) = l.take i ++ [a] := by rw [List.take_add_one, h]; rfl
theorem idx_at : ∀ (l : List Str) (x : Str), x ∈ l → l[l.idxOf x]? = some x ∧ ∀ m, m < l.idxOf x → l[m]? ≠ some x
  | [], x, h => by cases h
  | a :: l, x, h => by
    by_cases e : a = x
    · subst e
      rw [List.idxOf_cons_self]
      exact ⟨rfl, fun m hm => by cases hm⟩
    · have hx : x ∈ l := (List.mem_cons.mp h).resolve_left fun z => e z.symm
      obtain ⟨h1, h2⟩ := idx_at l x hx
      have hi : (a :: l).idxOf x = l.idxOf x + 1 := by
        rw [List.idxOf_cons, show (a == x) = false from beq_eq_false_iff_ne.mpr e]
        rfl
      rw [hi]
      refine ⟨h1, fun m hm => ?_⟩
      cases m with
      | zero => exact fun z => e (Option.some.inj z)
      | succ m => exact h2 m (by omega)
theorem at0 {l : List Str} (h : l ≠ []) : atI (l.map V.str) 0 = some (.str (l.headD Str.empty)) := by
  cases l with
  | nil => exact absurd rfl h
  | cons a r => simp [atI, ixN]
theorem head_mem {l : List Str} (h : l ≠ []) : l.headD Str.empty ∈ l := by
  cases l with
  | nil => exact absurd rfl h
  | cons a r => exact List.mem_cons_self
def firstOf (outs : List Str) (s : Fnc) : Int := ((outs.idxOf (s.1.headD Str.empty) : Nat) : Int)
/-- Diagram.MAX_PORTS -/
structure Dia (K : PySem.W.Frag) (mg : Str → Option Value) : Prop where
  ex : ∃ C mc u, mg "Diagram" = some (.ref C) ∧ CRead K C mc ∧ CVal K C mc "MAX_PORTS" (.int 8) u
def spIface (K : PySem.W.Frag) : Sp := fun vs H Q _ => ∃ (v : Addr) (f : If), vs = [.ref v] ∧ IfAt K H v f ∧ OkI f ∧ ∀ H', Same H H' → Q (.bl true) H'
section
variable {P : Program} {w : World} {K : PySem.W.Frag} {mg : Str → Option Value} {base : Heap}
abbrev nIf : List Str := ["value", "inputs", "outputs", "profile", "step", "names", "_", "firsts", "name", "named"]
theorem scIf : FnScope nIf ["value"] (defScope sIface) := ⟨rfl, rfl, rfl, by decide +kernel, rfl, by decide +kernel, by decide +kernel⟩
theorem ok_iface {f fP fS : Addr} {fd fdP fdS : FuncData} (F : Fun K "is_interface" "is_interface" sIface f fd) (T : Txt K mg) (Di : Dia K mg) (zso : mg "sorted" = none)
    (GP : FnOk P w K mg base CX0 2 fP fdP ["inputs", "outputs", "most"] (spPorts K)) (mP : mg "are_port_names" = some (.ref fP)) (kP : PySem.W.keepIn K (.ref fP) = true) (bP : Binds K fdP ["inputs", "outputs", "most"] [])
    (GS : FnOk P w K mg base CX0 2 fS fdS ["value", "inputs", "outputs"] (spStep K)) (mS : mg "_is_step_function" = some (.ref fS)) (kS : PySem.W.keepIn K (.ref fS) = true) (bS : Binds K fdS ["value", "inputs", "outputs"] []) :
    FnOk P w K mg base CX0 3 f fd ["value"] (spIface K) := by
  refine F.ok scIf (fun vs H Q E h => ?_) (fun cdv A outer s H vs Q E hr h => ?_)
  · obtain ⟨v, g, rfl, _⟩ := h
    rfl
  obtain ⟨v, g, rfl, ⟨i, o, p, as, hv, hi, ho, hp, hst⟩, ok, k⟩ := h
  have hu := hr.units
  obtain ⟨C, mc, uC, mC, rC, vC⟩ := Di.ex
  refine ⟨_, pss_cons (ps_if (PW.pt (pw_or (pt_not (pt_val (pe_callB (id := "isinstance") call_isi (by rfl) T.is_ (by decide +kernel) (pa_cons (pv 0) (pa_cons (pe_bltn (v := .ty "tuple") rfl T.zt PyProof.Rows.Boot.«tuple» rfl) pa_nil)))))
        (pw_or1 (pt_cmpR op_ne (pe_callB call_len_seq (by rfl) T.zl PySem.boot_len (pa_cons (pv 0) pa_nil)) pe_int (nomark _))))) (pss_one (ps_ret pe_bl)) pss_nil)
    (pss_cons (ps_asg (pv 0) (pg_tup (by rfl) (pgs_cons (pg_name (i := 1) scIf.nd rfl (.inr rfl)) (pgs_cons (pg_name (i := 2) scIf.nd rfl (.inr rfl)) (pgs_cons (pg_name (i := 3) scIf.nd rfl (.inl rfl)) pgs_nil)))))
    (pss_cons (ps_if (PW.pt (pw_or (pt_not (pt_val (pe_call GP hr rfl mP kP bP .nil pass0 (pa_cons (pv 1) (pa_cons (pv 2) (pa_cons (pe_cval (pe_glob (v := .ref C) rfl mC rfl)) pa_nil))))))
        (pw_or1 (pt_not (pt_val (pe_callB (id := "isinstance") call_isi (by rfl) T.is_ (by decide +kernel) (pa_cons (pv 3) (pa_cons (pe_bltn (v := .ty "tuple") rfl T.zt PyProof.Rows.Boot.«tuple» rfl) pa_nil)))))))) (pss_one (ps_ret pe_bl)) pss_nil)
    (pss_cons (ps_if (pt_not (pt_val (pe_callB (cr_all rfl) (by rfl) T.za (by decide +kernel) (pa_cons (pe_lc (own := [("step", 4)]) (g := gName 4) rfl scIf.nd (pi_tup (pv 3)) (blkOk_by (own := [("step", 4)]) (N := nIf) (sc := defScope sIface) (by decide +kernel)) (fun _ _ _ _ _ => pg_name (i := 4) scIf.nd rfl (Or.inl rfl)) (fun _ _ _ _ _ => pts_nil)
          (fun _ _ _ _ _ => pe_call GS hr rfl mS kS bS .nil pass0 (pa_cons (pv 4) (pa_cons (pv 1) (pa_cons (pv 2) pa_nil))))) pa_nil)))) (pss_one (ps_ret pe_bl)) pss_nil)
    (pss_cons (ps_setLc (i := 7) (own := [("names", 5), ("_", 6)]) (g := gTup K 2 (gCons (gName 5) (gCons (gName 6) gNil))) rfl scIf.nd rfl rfl (sw_true rfl rfl rfl (by decide +kernel)) (pi_tup (pv 3)) (blkOk_by (own := [("names", 5), ("_", 6)]) (N := nIf) (sc := defScope sIface) (by decide +kernel)) (fun _ _ _ _ _ => by exact (pg_tup rfl (pgs_cons (pg_name (i := 5) scIf.nd rfl (Or.inl rfl)) (pgs_cons (pg_name (i := 6) scIf.nd rfl (Or.inl rfl)) pgs_nil)))) (fun _ _ _ _ _ => pts_nil)
      (fun _ _ _ _ _ => by exact (pe_tm PySem.F.slot_tuple_index PySem.F.type_tuple_index (show MtR _ "tuple.index" (rTIx K) from mt_tix) (pv 2) (pa_cons (pe_ix (show IxR _ (rIxT K) from ix_tup) (pv 5) pe_int (fun _ _ => rfl)) pa_nil))))
    (pss_cons (ps_setLc2 (i := 9) (own := [("names", 5), ("_", 6), ("name", 8)]) (g := gTup K 2 (gCons (gName 5) (gCons (gName 6) gNil))) (g1 := gName 8) (wi1 := iTup K (tVar 5)) (vs1 := [8]) rfl scIf.nd rfl rfl (sw_true rfl rfl rfl (by decide +kernel)) (pi_tup (pv 3)) (blkOk_by (own := [("names", 5), ("_", 6), ("name", 8)]) (N := nIf) (sc := defScope sIface) (by decide +kernel)) (by decide) (fun _ _ _ _ _ => by exact (pg_tup rfl (pgs_cons (pg_name (i := 5) scIf.nd rfl (Or.inl rfl)) (pgs_cons (pg_name (i := 6) scIf.nd rfl (Or.inl rfl)) pgs_nil)))) (fun _ _ _ _ _ => pts_nil)
      (fun _ _ _ _ _ => by exact (pi_tup (pv 5))) (fun _ _ _ _ _ => pg_name (i := 8) scIf.nd rfl (Or.inl rfl)) (fun _ _ _ _ _ => pts_nil) (fun _ _ _ _ _ => pv 8))
    (pss_one (ps_ret (pe_and (pe_cmpR (op_eqD hu) (pv 7) (pe_callB (id := "sorted") cr_sortedInt (by rfl) zso (by decide +kernel) (pa_cons (pv 7) pa_nil)) (nomark _)) (pe_one (pe_cmpR (op_eqD hu) (pe_callB (id := "sorted") cr_sortedLst (by rfl) zso (by decide +kernel) (pa_cons (pv 9) pa_nil)) (pe_callB (id := "sorted") cr_sortedTup (by rfl) zso (by decide +kernel) (pa_cons (pv 2) pa_nil)) (nomark _))))))))))), ?_⟩
  have lt : ∀ {n : Nat}, n ≤ 100000 → n < sizeLine := fun h => by rw [sizeLine_eq]; omega
  have hal : as.length = g.prof.length := hst.1
  have hpl := ok.pl
  have hil := ok.il
  have hol := ok.ol
  refine ⟨_, rfl, .ref v, _, _, _, true, rfl, .ty "tuple", ty_sq hv, rfl, _, rfl, iteF ?_⟩
  refine ⟨_, rfl, v, _, rfl, .inr hv, rfl, _, rfl, iteF ?_⟩
  refine ⟨_, rfl, v, _, rfl, hv, rfl, _, _, rfl, _, _, rfl, _, _, rfl, rfl, ?_⟩
  refine ⟨_, rfl, _, rfl, C, mc, .int 8, uC, rfl, rC, vC, i, o, _, _, rfl, hi, ho.sq, by omega, by omega, ok.ni, ok.no, ok.nd, fun H1 s1 => ⟨_, rfl, iteF ?_⟩⟩
  have hp1 := sqT_same s1 hp
  refine ⟨_, rfl, .ref p, _, _, _, true, rfl, .ty "tuple", ty_sq hp1, rfl, _, rfl, iteF ?_⟩
  -- the step functions
  refine ⟨_, rfl, p, rfl, ⟨_, hp1⟩, fun D hD => ?_⟩
  refine lc_tup (K := K) (a := p) (xs := as.map V.ref) (fun m H' => Same H1 H' ∧ H' D = some (.lst ((as.take m).map fun _ => V.bl true))) ⟨upd_new hD, upd_same⟩ (fun m H' _ q => sqT_same q.1 hp1) ?_ ?_
  · rintro m x H3 hm ⟨s3, a3⟩
    rw [List.getElem?_map] at hm
    obtain ⟨a, ha, rfl⟩ := Option.map_eq_some_iff.mp hm
    obtain ⟨st, hs1, sa⟩ := hst.at ha
    have hmem := List.mem_of_getElem? hs1
    have s13 := s1.trans s3
    refine ⟨rfl, _, rfl, _, rfl, _, rfl, a, i, o, st, _, _, rfl, sa.same s13, sqT_same s13 hi, sqT_same s13 ho.sq, by omega, by omega, ok.ni, ok.no, ok.ne st hmem, ok.so st hmem, ok.sn st hmem, fun H4 s4 => ⟨_, s4 _ _ a3, lt ?_, same_put (s3.trans s4) hD, ?_⟩⟩
    · rw [List.length_map, List.length_take]
      omega
    · rw [upd_same, tk1 ha, List.map_append]
      rfl
  rintro H3 ⟨s3, a3⟩
  rw [List.take_of_length_le (by rw [List.length_map]; exact Nat.le_refl _)] at a3
  refine ⟨D, as.map fun _ => true, rfl, .of (by rw [a3, List.map_map]; rfl), _, rfl, ?_⟩
  have e2 : (as.map fun _ => true).all id = true := by
    rw [List.all_map]
    exact List.all_eq_true.mpr fun _ _ => rfl
  rw [e2]
  have s13 := s1.trans s3
  have hp3 := sqT_same s13 hp
  -- firsts
  refine iteF ⟨_, rfl, p, rfl, ⟨_, hp3⟩, fun D1 hD1 => ?_⟩
  refine out_it (walk_tup (xs := as.map V.ref)) (fun m H' => Same H3 H' ∧ H' D1 = some (.lst (((g.prof.take m).map (firstOf g.outs)).map V.int))) ⟨upd_new hD1, upd_same⟩ (fun m H' _ q => sqT_same q.1 hp3) ?_ ?_
  · rintro m x H4 H5 hm ⟨s4, a4⟩ ⟨rfl, hx⟩
    rw [List.getElem?_map] at hx
    obtain ⟨a, ha, rfl⟩ := Option.map_eq_some_iff.mp hx
    obtain ⟨st, hs1, sa⟩ := hst.at ha
    have hmem := List.mem_of_getElem? hs1
    have s14 := s13.trans s4
    obtain ⟨x, y, h1, h2, h3⟩ := sa.same s14
    have hne := ok.ne st hmem
    have hh : st.1.headD Str.empty ∈ g.outs := by
      have z := head_mem hne
      rw [ok.so st hmem] at z
      have z := (List.mem_filter.mp z).1
      rw [← ok.so st hmem] at z
      exact z
    obtain ⟨q1, q2⟩ := idx_at g.outs _ hh
    refine ⟨a, _, rfl, h1, rfl, _, _, rfl, _, _, rfl, rfl, rfl, ?_⟩
    have D1n : H3 D1 = none := hD1
    refine ⟨_, rfl, ⟨o, _, rfl, ixT_same s14 ho⟩, _, rfl, x, _, 0, _, rfl, rfl, h2, at0 hne, o, g.outs, _, _, rfl, rfl, sqT_same s14 ho.sq, q1, q2, _, a4, lt ?_, same_put s4 D1n, ?_⟩
    · rw [List.length_map, List.length_map, List.length_take]
      omega
    · rw [upd_same, tk1 hs1, List.map_append, List.map_append]
      rfl
  rintro H4 ⟨s4, a4⟩
  rw [List.take_of_length_le (by rw [List.length_map]; omega)] at a4
  have s14 := s13.trans s4
  have hp4 := sqT_same s14 hp
  -- named
  have htot : (g.prof.flatMap (·.1)).length ≤ 6 := by
    rw [ok.pm.length_eq]
    exact hol
  have hflat : ∀ m, ((g.prof.take m).flatMap (·.1)).length ≤ 6 := fun m => by
    have e : g.prof.flatMap (·.1) = (g.prof.take m).flatMap (·.1) ++ (g.prof.drop m).flatMap (·.1) := by rw [← List.flatMap_append, List.take_append_drop]
    rw [e, List.length_append] at htot
    omega
  refine ⟨_, rfl, p, rfl, ⟨_, hp4⟩, fun D2 hD2 => ?_⟩
  refine out_it (walk_tup (xs := as.map V.ref)) (fun m H' => Same H4 H' ∧ H' D2 = some (.lst (((g.prof.take m).flatMap (·.1)).map V.str))) ⟨upd_new hD2, upd_same⟩ (fun m H' _ q => sqT_same q.1 hp4) ?_ ?_
  · rintro m x H5 H6 hm ⟨s5, a5⟩ ⟨rfl, hx⟩
    rw [List.getElem?_map] at hx
    obtain ⟨a, ha, rfl⟩ := Option.map_eq_some_iff.mp hx
    obtain ⟨st, hs1, sa⟩ := hst.at ha
    have s15 := s14.trans s5
    obtain ⟨x, y, h1, h2, h3⟩ := sa.same s14
    refine ⟨a, _, rfl, sqT_same s5 h1, rfl, _, _, rfl, _, _, rfl, rfl, rfl, ?_⟩
    refine ⟨_, rfl, x, rfl, ⟨_, sqT_same s5 h2⟩, ?_⟩
    refine out_it (walk_tup (xs := st.1.map V.str)) (fun j H' => Same H4 H' ∧ H' D2 = some (.lst (((g.prof.take m).flatMap (·.1) ++ st.1.take j).map V.str))) ⟨s5, by rw [List.take_zero, List.append_nil]; exact a5⟩ (fun j H' _ q => sqT_same q.1 h2) ?_ ?_
    · rintro j z H7 H8 hj ⟨s7, a7⟩ ⟨rfl, hz⟩
      rw [List.getElem?_map] at hz
      obtain ⟨nm, hnm, rfl⟩ := Option.map_eq_some_iff.mp hz
      refine ⟨rfl, _, rfl, _, a7, lt ?_, same_put s7 hD2, ?_⟩
      · have z := hflat (m + 1)
        rw [tk1 hs1, List.flatMap_append, List.length_append] at z
        have z2 : ([st].flatMap (·.1)).length = st.1.length := by simp
        rw [z2] at z
        rw [List.length_map, List.length_append, List.length_take]
        omega
      · rw [upd_same, tk1 hnm]
        simp
    rintro H7 ⟨s7, a7⟩
    rw [List.length_map, List.take_length] at a7
    refine ⟨s7, ?_⟩
    rw [a7, tk1 hs1, List.flatMap_append]
    simp
  rintro H5 ⟨s5, a5⟩
  rw [List.take_of_length_le (by rw [List.length_map]; omega)] at a5
  have f5 := s5 _ _ a4
  have s15 := s14.trans s5
  refine ⟨_, rfl, _, rfl, D1, g.prof.map (firstOf g.outs), rfl, .of f5, fun ms q hperm hpw hq => ?_⟩
  have hms : ms = g.prof.map (firstOf g.outs) := List.Perm.eq_of_pairwise (fun _ _ _ _ h1 h2 => Int.le_antisymm h1 h2) hpw (by
    have z := ok.fi
    rw [List.pairwise_map] at z ⊢
    exact z.imp fun h => by unfold firstOf; omega) hperm
  subst hms
  have s6 := upd_new (o := HO.lst ((g.prof.map (firstOf g.outs)).map V.int)) hq
  refine ⟨.list ((g.prof.map (firstOf g.outs)).map PyData.int), .list ((g.prof.map (firstOf g.outs)).map PyData.int), .lst (.of (s6 _ _ f5)) (dp_ints _), .lst (.of upd_same) (dp_ints _), ints_shaped _, ints_shaped _, _, rfl, ?_⟩
  rw [eqv_shaped (ints_shaped _)]
  have a6 := s6 _ _ a5
  have s16 := s15.trans s6
  generalize upd H5 q (HO.lst ((g.prof.map (firstOf g.outs)).map V.int)) = H6 at s6 a6 s16 ⊢
  have hnn : ∀ x ∈ g.prof.flatMap (·.1), isNm x = true := fun x hx => ok.no x (ok.pm.mem_iff.mp hx)
  refine iteT ⟨_, rfl, D2, g.prof.flatMap (·.1), rfl, .of a6, fun ys q1 hp1 hs1 hq1 => ⟨_, rfl, o, g.outs, rfl, sqT_same (s16.trans (upd_new hq1)) ho.sq, fun zs q2 hp2 hs2 hq2 => ?_⟩⟩
  have e : ys = zs := sorted_same hs1 hs2 hp1 hp2 ok.pm
  subst e
  have hyn : ∀ x ∈ ys, isNm x = true := fun x hx => hnn x (hp1.mem_iff.mp hx)
  refine ⟨.list (ys.map PyData.str), .list (ys.map PyData.str), .lst (.of ((upd_new hq2) _ _ upd_same)) (dp_strs _), .lst (.of upd_same) (dp_strs _), strs_shaped _ hyn, strs_shaped _ hyn, ?_⟩
  rw [eqv_shaped (strs_shaped _ hyn)]
  exact k _ (s16.trans ((upd_new hq1).trans (upd_new hq2)))
end
end K71
namespace K71
open PySem
/-! ### merging, by lists -/
def FN (l : List Fnc) : List Str := l.flatMap (·.1)
def FD (l : List Fnc) : List Str := l.flatMap (·.2)
theorem FN_app (l m : List Fnc) : FN (l ++ m) = FN l ++ FN m := List.flatMap_append
theorem FN_cons (s : Fnc) (l : List Fnc) : FN (s :: l) = s.1 ++ FN l := List.flatMap_cons
theorem FD_app (l m : List Fnc) : FD (l ++ m) = FD l ++ FD m := List.flatMap_append
theorem FD_cons (s : Fnc) (l : List Fnc) : FD (s :: l) = s.2 ++ FD l := List.flatMap_cons
theorem mem_FN {l : List Fnc} {x : Str} : x ∈ FN l ↔ ∃ u ∈ l, x ∈ u.1 := List.mem_flatMap
def joinedI (f : If) (a b : Str) : List Fnc := f.prof.filter fun s => decide (a ∈ s.1) || decide (b ∈ s.1)
def wholeI (f : If) (J : List Fnc) : Fnc := (f.outs.filter fun x => decide (x ∈ FN J), f.ins.filter fun x => decide (x ∈ FD J))
def mergeI (f : If) (a b : Str) : If := match joinedI f a b with
  | [s, t] => ⟨f.ins, f.outs, (f.prof.filter fun u => !decide (u = t)).map fun u => if u = s then wholeI f [s, t] else u⟩
  | _ => f
def withI (f : If) (x : Str) : Fnc := (f.prof.filter fun s => decide (x ∈ s.1)).headD ([], [])
def dueStep (W one two : Fnc) (u : Fnc) : List Fnc := if W.1.headD Str.empty ∈ u.1 then [W] else if u = one then [] else if u = two then [] else [u]
def dueW (f : If) (one two : Fnc) : Fnc := (f.outs.filter fun x => decide (x ∈ one.1 ++ two.1), f.ins.filter fun x => decide (x ∈ one.2 ++ two.2))
def dueI (f : If) (a b : Str) : If :=
  if withI f a = withI f b then f else ⟨f.ins, f.outs, f.prof.flatMap (dueStep (dueW f (withI f a) (withI f b)) (withI f a) (withI f b))⟩
theorem OkI.fl {f : If} (ok : OkI f) : (FN f.prof).Nodup := ok.pm.nodup_iff.mpr (List.nodup_append.mp ok.nd).2.1
theorem OkI.on {f : If} (ok : OkI f) : f.outs.Nodup := (List.nodup_append.mp ok.nd).2.1
theorem uniq {l1 l2 : List Fnc} {s : Fnc} (h : (FN (l1 ++ s :: l2)).Nodup) {x : Str} (hx : x ∈ s.1) : (∀ u ∈ l1, x ∉ u.1) ∧ ∀ u ∈ l2, x ∉ u.1 := by
  rw [FN_app, FN_cons] at h
  obtain ⟨h1, h2, h3⟩ := List.nodup_append.mp h
  obtain ⟨h4, h5, h6⟩ := List.nodup_append.mp h2
  exact ⟨fun u hu hx2 => h3 x (mem_FN.mpr ⟨u, hu, hx2⟩) x (List.mem_append_left _ hx) rfl, fun u hu hx2 => h6 x hx x (mem_FN.mpr ⟨u, hu, hx2⟩) rfl⟩
/-- both in one -/
structure OneS (f : If) (a b : Str) (l1 : List Fnc) (s : Fnc) (l2 : List Fnc) : Prop where
  e : f.prof = l1 ++ s :: l2
  ia : a ∈ s.1
  ib : b ∈ s.1
  n : ∀ u ∈ l1 ++ l2, a ∉ u.1 ∧ b ∉ u.1
/-- each in its own -/
structure Two (f : If) (a b : Str) (l1 : List Fnc) (s : Fnc) (l2 : List Fnc) (t : Fnc) (l3 : List Fnc) : Prop where
  e : f.prof = l1 ++ s :: (l2 ++ t :: l3)
  ab : (a ∈ s.1 ∧ b ∈ t.1 ∧ a ∉ t.1 ∧ b ∉ s.1) ∨ (b ∈ s.1 ∧ a ∈ t.1 ∧ b ∉ t.1 ∧ a ∉ s.1)
  n : ∀ u ∈ l1 ++ (l2 ++ l3), a ∉ u.1 ∧ b ∉ u.1
theorem Two.swap {f : If} {a b : Str} {l1 l2 l3 : List Fnc} {s t : Fnc} (h : Two f a b l1 s l2 t l3) : Two f b a l1 s l2 t l3 := ⟨h.e, h.ab.symm, fun u hu => (h.n u hu).symm⟩
theorem split2 {f : If} (ok : OkI f) {a b : Str} (ha : a ∈ f.outs) (hb : b ∈ f.outs) : (∃ l1 s l2, OneS f a b l1 s l2) ∨ ∃ l1 s l2 t l3, Two f a b l1 s l2 t l3 := by
  obtain ⟨s, hs, has⟩ := mem_FN.mp (ok.pm.mem_iff.mpr ha)
  obtain ⟨t, ht, hbt⟩ := mem_FN.mp (ok.pm.mem_iff.mpr hb)
  obtain ⟨l1, l2, e⟩ := List.append_of_mem hs
  have fl := ok.fl
  rw [e] at fl ht
  obtain ⟨n1, n2⟩ := uniq fl has
  rcases List.mem_append.mp ht with ht | ht
  · obtain ⟨m1, m2, e2⟩ := List.append_of_mem ht
    subst e2
    rw [List.append_assoc, List.cons_append] at fl
    obtain ⟨p1, p2⟩ := uniq fl hbt
    have e3 : f.prof = m1 ++ t :: (m2 ++ s :: l2) := by rw [e, List.append_assoc, List.cons_append]
    refine .inr ⟨m1, t, m2, s, l2, e3, .inr ⟨hbt, has, p2 s (by simp), n1 t (by simp)⟩, fun u hu => ?_⟩
    simp only [List.mem_append] at hu
    rcases hu with hu | hu | hu
    · exact ⟨n1 u (by simp [hu]), p1 u hu⟩
    · exact ⟨n1 u (by simp [hu]), p2 u (by simp [hu])⟩
    · exact ⟨n2 u hu, p2 u (by simp [hu])⟩
  rcases List.mem_cons.mp ht with rfl | ht
  · obtain ⟨p1, p2⟩ := uniq fl hbt
    refine .inl ⟨l1, t, l2, e, has, hbt, fun u hu => ?_⟩
    rcases List.mem_append.mp hu with hu | hu
    · exact ⟨n1 u hu, p1 u hu⟩
    · exact ⟨n2 u hu, p2 u hu⟩
  · obtain ⟨m1, m2, e2⟩ := List.append_of_mem ht
    subst e2
    have fl2 : (FN ((l1 ++ s :: m1) ++ t :: m2)).Nodup := by
      rw [List.append_assoc, List.cons_append]
      exact fl
    obtain ⟨p1, p2⟩ := uniq fl2 hbt
    refine .inr ⟨l1, s, m1, t, m2, e, .inl ⟨has, hbt, n2 t (by simp), p1 s (by simp)⟩, fun u hu => ?_⟩
    simp only [List.mem_append] at hu
    rcases hu with hu | hu | hu
    · exact ⟨n1 u hu, p1 u (by simp [hu])⟩
    · exact ⟨n2 u (by simp [hu]), p1 u (by simp [hu])⟩
    · exact ⟨n2 u (by simp [hu]), p2 u hu⟩
theorem filter_none {α : Type} {p : α → Bool} {l : List α} (h : ∀ u ∈ l, p u = false) : l.filter p = [] := List.filter_eq_nil_iff.mpr fun u hu => by rw [h u hu]; exact Bool.false_ne_true
theorem OneS.joined {f : If} {a b : Str} {l1 l2 : List Fnc} {s : Fnc} (h : OneS f a b l1 s l2) : joinedI f a b = [s] := by
  unfold joinedI
  have z : ∀ u ∈ l1 ++ l2, (decide (a ∈ u.1) || decide (b ∈ u.1)) = false := fun u hu => by
    obtain ⟨h1, h2⟩ := h.n u hu
    simp [h1, h2]
  rw [h.e, List.filter_append, List.filter_cons_of_pos (by simp [h.ia]), filter_none (fun u hu => z u (List.mem_append_left _ hu)), filter_none (fun u hu => z u (List.mem_append_right _ hu))]
  rfl
theorem Two.joined {f : If} {a b : Str} {l1 l2 l3 : List Fnc} {s t : Fnc} (h : Two f a b l1 s l2 t l3) : joinedI f a b = [s, t] := by
  unfold joinedI
  have z : ∀ u ∈ l1 ++ (l2 ++ l3), (decide (a ∈ u.1) || decide (b ∈ u.1)) = false := fun u hu => by
    obtain ⟨h1, h2⟩ := h.n u hu
    simp [h1, h2]
  have hs : (decide (a ∈ s.1) || decide (b ∈ s.1)) = true := by rcases h.ab with ⟨q, _⟩ | ⟨q, _⟩ <;> simp [q]
  have ht : (decide (a ∈ t.1) || decide (b ∈ t.1)) = true := by rcases h.ab with ⟨_, q, _⟩ | ⟨_, q, _⟩ <;> simp [q]
  rw [h.e, List.filter_append, List.filter_cons_of_pos (by exact hs), List.filter_append, List.filter_cons_of_pos (by exact ht), filter_none (fun u hu => z u (by simp [hu])), filter_none (fun u hu => z u (by simp [hu])), filter_none (fun u hu => z u (by simp [hu]))]
  rfl
theorem nd_prof {f : If} (ok : OkI f) {l1 l2 : List Fnc} {s : Fnc} (e : f.prof = l1 ++ s :: l2) : s ∉ l1 ∧ s ∉ l2 := by
  have fl := ok.fl
  rw [e] at fl
  have hne := ok.ne s (by rw [e]; simp)
  obtain ⟨x, hx⟩ := List.exists_mem_of_ne_nil _ hne
  obtain ⟨n1, n2⟩ := uniq fl hx
  exact ⟨fun h => n1 s h hx, fun h => n2 s h hx⟩
/-- the merged step functions -/
theorem Two.merged {f : If} (ok : OkI f) {a b : Str} {l1 l2 l3 : List Fnc} {s t : Fnc} (h : Two f a b l1 s l2 t l3) : mergeI f a b = ⟨f.ins, f.outs, l1 ++ wholeI f [s, t] :: (l2 ++ l3)⟩ := by
  unfold mergeI
  rw [h.joined]
  have e2 : f.prof = (l1 ++ s :: l2) ++ t :: l3 := by rw [h.e, List.append_assoc, List.cons_append]
  obtain ⟨t1, t2⟩ := nd_prof ok e2
  obtain ⟨s1, s2⟩ := nd_prof ok h.e
  have hf : f.prof.filter (fun u => !decide (u = t)) = l1 ++ s :: (l2 ++ l3) := by
    rw [e2, List.filter_append, List.filter_cons_of_neg (by simp)]
    have k : ∀ l : List Fnc, t ∉ l → l.filter (fun u => !decide (u = t)) = l := fun l hl => List.filter_eq_self.mpr fun u hu => by
      have : u ≠ t := fun z => hl (z ▸ hu)
      simp [this]
    rw [k _ t1, k _ t2, List.append_assoc, List.cons_append]
  dsimp only
  rw [hf]
  have k : ∀ l : List Fnc, s ∉ l → l.map (fun u => if u = s then wholeI f [s, t] else u) = l := fun l hl => by
    have : l.map (fun u => if u = s then wholeI f [s, t] else u) = l.map id := List.map_congr_left fun u hu => by
      have : u ≠ s := fun z => hl (z ▸ hu)
      simp [this]
    rw [this, List.map_id]
  have s3 : s ∉ l2 ++ l3 := fun z => s2 (by
    rcases List.mem_append.mp z with z | z
    · simp [z]
    · simp [z])
  rw [List.map_append, List.map_cons, k _ s1, k _ s3, if_pos rfl]
/-- the first one of a list for which p is -/
theorem first_of {α : Type} (p : α → Bool) : ∀ l : List α, l.filter p ≠ [] → ∃ u x v, l = u ++ x :: v ∧ p x = true ∧ (∀ y ∈ u, p y = false)
  | [], h => absurd rfl h
  | a :: l, h => by
    by_cases ha : p a = true
    · exact ⟨[], a, l, rfl, ha, fun y hy => by cases hy⟩
    · have ha' : p a = false := by simpa using ha
      rw [List.filter_cons_of_neg ha] at h
      obtain ⟨u, x, v, e, h1, h2⟩ := first_of p l h
      refine ⟨a :: u, x, v, by rw [e]; rfl, h1, fun y hy => ?_⟩
      rcases List.mem_cons.mp hy with rfl | hy
      · exact ha'
      · exact h2 y hy
theorem head_filter {α : Type} {p : α → Bool} {u v : List α} {x d : α} (hx : p x = true) (hu : ∀ y ∈ u, p y = false) : ((u ++ x :: v).filter p).headD d = x := by
  rw [List.filter_append, filter_none hu, List.filter_cons_of_pos hx]
  rfl
theorem idx_of {u v : List Str} {x : Str} (h : x ∉ u) : (u ++ x :: v).idxOf x = u.length := by
  rw [List.idxOf_append, if_neg h, List.idxOf_cons_self]
  omega
/-- the first output of both is that of the first one -/
theorem head_whole {f : If} (ok : OkI f) {s t : Fnc} (hs : s ∈ f.prof) (ht : t ∈ f.prof) (hst : f.outs.idxOf (s.1.headD Str.empty) ≤ f.outs.idxOf (t.1.headD Str.empty)) {p : Str → Bool} (hp : ∀ x, p x = (decide (x ∈ s.1) || decide (x ∈ t.1))) :
    (f.outs.filter p).headD Str.empty = s.1.headD Str.empty := by
  obtain ⟨u1, x1, v1, e1, h1, g1⟩ := first_of (fun x => decide (x ∈ s.1)) f.outs (by rw [← ok.so s hs]; exact ok.ne s hs)
  obtain ⟨u2, x2, v2, e2, h2, g2⟩ := first_of (fun x => decide (x ∈ t.1)) f.outs (by rw [← ok.so t ht]; exact ok.ne t ht)
  have k1 : s.1.headD Str.empty = x1 := by rw [ok.so s hs, e1]; exact head_filter h1 g1
  have k2 : t.1.headD Str.empty = x2 := by rw [ok.so t ht, e2]; exact head_filter h2 g2
  have n1 : x1 ∉ u1 := fun z => by
    have := g1 x1 z
    rw [h1] at this
    cases this
  have n2 : x2 ∉ u2 := fun z => by
    have := g2 x2 z
    rw [h2] at this
    cases this
  rw [k1, k2] at hst
  have i1 : f.outs.idxOf x1 = u1.length := by rw [e1]; exact idx_of n1
  have i2 : f.outs.idxOf x2 = u2.length := by rw [e2]; exact idx_of n2
  rw [i1, i2] at hst
  have pr : u1 <+: u2 := List.prefix_of_prefix_length_le (l₃ := f.outs) ⟨_, e1.symm⟩ ⟨_, e2.symm⟩ hst
  rw [k1, e1]
  refine head_filter ?_ fun y hy => ?_
  · rw [hp, h1]
    rfl
  · rw [hp, g1 y hy, g2 y (pr.subset hy)]
    rfl
end K71
namespace K71
open PySem
theorem joined_swap (f : If) (a b : Str) : joinedI f b a = joinedI f a b := List.filter_congr fun u _ => Bool.or_comm _ _
theorem merge_swap (f : If) (a b : Str) : mergeI f b a = mergeI f a b := by
  unfold mergeI
  rw [joined_swap]
theorem OneS.merged {f : If} {a b : Str} {l1 l2 : List Fnc} {s : Fnc} (h : OneS f a b l1 s l2) : mergeI f a b = f := by
  unfold mergeI
  rw [h.joined]
theorem with_of {f : If} {x : Str} {l1 l2 : List Fnc} {s : Fnc} (e : f.prof = l1 ++ s :: l2) (hx : x ∈ s.1) (n : ∀ u ∈ l1 ++ l2, x ∉ u.1) : f.prof.filter (fun u => decide (x ∈ u.1)) = [s] := by
  rw [e, List.filter_append, List.filter_cons_of_pos (by simp [hx]), filter_none (fun u hu => by simp [n u (List.mem_append_left _ hu)]), filter_none (fun u hu => by simp [n u (List.mem_append_right _ hu)])]
  rfl
theorem with_eq {f : If} {x : Str} {l1 l2 : List Fnc} {s : Fnc} (e : f.prof = l1 ++ s :: l2) (hx : x ∈ s.1) (n : ∀ u ∈ l1 ++ l2, x ∉ u.1) : withI f x = s := by
  unfold withI
  rw [with_of e hx n]
  rfl
theorem OneS.due {f : If} {a b : Str} {l1 l2 : List Fnc} {s : Fnc} (h : OneS f a b l1 s l2) : dueI f a b = f := by
  unfold dueI
  rw [with_eq h.e h.ia (fun u hu => (h.n u hu).1), with_eq h.e h.ib (fun u hu => (h.n u hu).2), if_pos rfl]
theorem Two.e2 {f : If} {a b : Str} {l1 l2 l3 : List Fnc} {s t : Fnc} (h : Two f a b l1 s l2 t l3) : f.prof = (l1 ++ s :: l2) ++ t :: l3 := by rw [h.e, List.append_assoc, List.cons_append]
theorem Two.mem_s {f : If} {a b : Str} {l1 l2 l3 : List Fnc} {s t : Fnc} (h : Two f a b l1 s l2 t l3) : s ∈ f.prof := by rw [h.e]; simp
theorem Two.mem_t {f : If} {a b : Str} {l1 l2 l3 : List Fnc} {s t : Fnc} (h : Two f a b l1 s l2 t l3) : t ∈ f.prof := by rw [h.e]; simp
theorem Two.ne {f : If} {a b : Str} {l1 l2 l3 : List Fnc} {s t : Fnc} (h : Two f a b l1 s l2 t l3) : s ≠ t := fun z => by
  subst z
  rcases h.ab with ⟨h1, _, h2, _⟩ | ⟨h1, _, h2, _⟩ <;> exact h2 h1
/-- which steps have the two outputs -/
theorem Two.withs {f : If} {a b : Str} {l1 l2 l3 : List Fnc} {s t : Fnc} (h : Two f a b l1 s l2 t l3) : (withI f a = s ∧ withI f b = t) ∨ (withI f a = t ∧ withI f b = s) := by
  have n1 : ∀ x : Str, x ∉ t.1 → (∀ u ∈ l1 ++ (l2 ++ l3), x ∉ u.1) → ∀ u ∈ l1 ++ (l2 ++ t :: l3), x ∉ u.1 := fun x hx hn u hu => by
    simp only [List.mem_append, List.mem_cons] at hu
    rcases hu with hu | hu | rfl | hu
    · exact hn u (by simp [hu])
    · exact hn u (by simp [hu])
    · exact hx
    · exact hn u (by simp [hu])
  have n2 : ∀ x : Str, x ∉ s.1 → (∀ u ∈ l1 ++ (l2 ++ l3), x ∉ u.1) → ∀ u ∈ (l1 ++ s :: l2) ++ l3, x ∉ u.1 := fun x hx hn u hu => by
    simp only [List.mem_append, List.mem_cons] at hu
    rcases hu with (hu | rfl | hu) | hu
    · exact hn u (by simp [hu])
    · exact hx
    · exact hn u (by simp [hu])
    · exact hn u (by simp [hu])
  rcases h.ab with ⟨h1, h2, h3, h4⟩ | ⟨h1, h2, h3, h4⟩
  · exact .inl ⟨with_eq h.e h1 (n1 a h3 fun u hu => (h.n u hu).1), with_eq h.e2 h2 (n2 b h4 fun u hu => (h.n u hu).2)⟩
  · exact .inr ⟨with_eq h.e2 h2 (n2 a h4 fun u hu => (h.n u hu).1), with_eq h.e h1 (n1 b h3 fun u hu => (h.n u hu).2)⟩
theorem Two.idx {f : If} (ok : OkI f) {a b : Str} {l1 l2 l3 : List Fnc} {s t : Fnc} (h : Two f a b l1 s l2 t l3) : f.outs.idxOf (s.1.headD Str.empty) ≤ f.outs.idxOf (t.1.headD Str.empty) := by
  have z := ok.fi
  rw [h.e, List.map_append, List.map_cons] at z
  exact (List.pairwise_cons.mp (List.pairwise_append.mp z).2.1).1 _ (by simp)
theorem FN2 (s t : Fnc) : FN [s, t] = s.1 ++ t.1 := by simp [FN]
theorem FD2 (s t : Fnc) : FD [s, t] = s.2 ++ t.2 := by simp [FD]
theorem Two.head {f : If} (ok : OkI f) {a b : Str} {l1 l2 l3 : List Fnc} {s t : Fnc} (h : Two f a b l1 s l2 t l3) : (wholeI f [s, t]).1.headD Str.empty = s.1.headD Str.empty :=
  head_whole ok h.mem_s h.mem_t (h.idx ok) fun x => by
    rw [FN2, ← Bool.decide_or]
    exact decide_eq_decide.mpr List.mem_append
theorem due_whole (f : If) (s t : Fnc) : dueW f s t = wholeI f [s, t] ∧ dueW f t s = wholeI f [s, t] := by
  refine ⟨?_, ?_⟩ <;> refine Prod.ext (List.filter_congr fun x _ => decide_eq_decide.mpr ?_) (List.filter_congr fun x _ => decide_eq_decide.mpr ?_)
  · rw [FN2]
  · rw [FD2]
  · rw [FN2, List.mem_append, List.mem_append]
    exact Or.comm
  · rw [FD2, List.mem_append, List.mem_append]
    exact Or.comm
theorem Two.due {f : If} (ok : OkI f) {a b : Str} {l1 l2 l3 : List Fnc} {s t : Fnc} (h : Two f a b l1 s l2 t l3) : dueI f a b = ⟨f.ins, f.outs, l1 ++ wholeI f [s, t] :: (l2 ++ l3)⟩ := by
  have hne := h.ne
  have hh := h.head ok
  have hs := ok.ne s h.mem_s
  have hm := head_mem hs
  have fl := ok.fl
  rw [h.e] at fl
  obtain ⟨u1, u2⟩ := uniq fl hm
  obtain ⟨s1, s2⟩ := nd_prof ok h.e
  obtain ⟨t1, t2⟩ := nd_prof ok h.e2
  have key : ∀ W one two : Fnc, W.1.headD Str.empty = s.1.headD Str.empty → ((one = s ∧ two = t) ∨ (one = t ∧ two = s)) → f.prof.flatMap (dueStep W one two) = l1 ++ W :: (l2 ++ l3) := fun W one two hW ho => by
    have st : ∀ u : Fnc, s.1.headD Str.empty ∉ u.1 → u ≠ s → u ≠ t → dueStep W one two u = [u] := fun u h1 h2 h3 => by
      unfold dueStep
      rw [hW, if_neg h1]
      rcases ho with ⟨rfl, rfl⟩ | ⟨rfl, rfl⟩
      · rw [if_neg h2, if_neg h3]
      · rw [if_neg h3, if_neg h2]
    have all : ∀ l : List Fnc, (∀ u ∈ l, s.1.headD Str.empty ∉ u.1 ∧ u ≠ s ∧ u ≠ t) → l.flatMap (dueStep W one two) = l := fun l => by
      induction l with
      | nil => exact fun _ => rfl
      | cons u r ih =>
        intro hl
        obtain ⟨h1, h2, h3⟩ := hl u List.mem_cons_self
        rw [List.flatMap_cons, st u h1 h2 h3, ih fun v hv => hl v (List.mem_cons_of_mem _ hv)]
        rfl
    have es : dueStep W one two s = [W] := by
      unfold dueStep
      rw [hW, if_pos hm]
    have et : dueStep W one two t = [] := by
      unfold dueStep
      rw [hW, if_neg (u2 t (by simp))]
      rcases ho with ⟨rfl, rfl⟩ | ⟨rfl, rfl⟩
      · rw [if_neg hne.symm, if_pos rfl]
      · rw [if_pos rfl]
    rw [h.e, List.flatMap_append, List.flatMap_cons, List.flatMap_append, List.flatMap_cons, es, et,
      all l1 fun u hu => ⟨u1 u hu, fun z => s1 (z ▸ hu), fun z => t1 (by rw [← z]; simp [hu])⟩,
      all l2 fun u hu => ⟨u2 u (by simp [hu]), fun z => s2 (by rw [← z]; simp [hu]), fun z => t1 (by rw [← z]; simp [hu])⟩,
      all l3 fun u hu => ⟨u2 u (by simp [hu]), fun z => s2 (by rw [← z]; simp [hu]), fun z => t2 (z ▸ hu)⟩]
    rfl
  unfold dueI
  obtain ⟨d1, d2⟩ := due_whole f s t
  rcases h.withs with ⟨w1, w2⟩ | ⟨w1, w2⟩
  · rw [w1, w2, if_neg hne, d1, key _ s t hh (.inl ⟨rfl, rfl⟩)]
  · rw [w1, w2, if_neg hne.symm, d2, key _ t s hh (.inr ⟨rfl, rfl⟩)]
theorem due_merge {f : If} (ok : OkI f) {a b : Str} (ha : a ∈ f.outs) (hb : b ∈ f.outs) : dueI f a b = mergeI f a b := by
  rcases split2 ok ha hb with ⟨l1, s, l2, h⟩ | ⟨l1, s, l2, t, l3, h⟩
  · rw [h.due, h.merged]
  · rw [h.due ok, h.merged ok]
/-- what is merged is an interface -/
theorem Two.ok {f : If} (ok : OkI f) {a b : Str} {l1 l2 l3 : List Fnc} {s t : Fnc} (h : Two f a b l1 s l2 t l3) : OkI ⟨f.ins, f.outs, l1 ++ wholeI f [s, t] :: (l2 ++ l3)⟩ := by
  have hs := h.mem_s
  have ht := h.mem_t
  have sub : ∀ x, x ∈ s.1 ++ t.1 → x ∈ f.outs := fun x hx => by
    rcases List.mem_append.mp hx with z | z
    · rw [ok.so s hs] at z
      exact (List.mem_filter.mp z).1
    · rw [ok.so t ht] at z
      exact (List.mem_filter.mp z).1
  have mW : ∀ x, x ∈ (wholeI f [s, t]).1 ↔ x ∈ s.1 ++ t.1 := fun x => by
    unfold wholeI
    rw [List.mem_filter, FN2, decide_eq_true_eq]
    exact ⟨fun z => z.2, fun z => ⟨sub x z, z⟩⟩
  have old : ∀ u ∈ l1 ++ (l2 ++ l3), u ∈ f.prof := fun u hu => by
    rw [h.e]
    simp only [List.mem_append, List.mem_cons] at hu ⊢
    rcases hu with hu | hu | hu <;> simp [hu]
  have all : ∀ p : Fnc → Prop, (∀ u ∈ f.prof, p u) → p (wholeI f [s, t]) → ∀ u ∈ l1 ++ wholeI f [s, t] :: (l2 ++ l3), p u := fun p hp hw u hu => by
    simp only [List.mem_append, List.mem_cons] at hu
    rcases hu with hu | rfl | hu | hu
    · exact hp u (old u (by simp [hu]))
    · exact hw
    · exact hp u (old u (by simp [hu]))
    · exact hp u (old u (by simp [hu]))
  have hns := ok.ne s hs
  refine ⟨ok.ni, ok.no, ok.nd, ok.il, ok.ol, ?_, all _ ok.ne fun z => ?_, all _ ok.so ?_, all _ ok.sn ?_, ?_, ?_⟩
  · have := ok.pl
    rw [h.e] at this
    simp only [List.length_append, List.length_cons] at this ⊢
    omega
  · have z2 := (mW (s.1.headD Str.empty)).mpr (List.mem_append_left _ (head_mem hns))
    rw [z] at z2
    cases z2
  · show (wholeI f [s, t]).1 = f.outs.filter fun x => decide (x ∈ (wholeI f [s, t]).1)
    exact List.filter_congr fun x _ => decide_eq_decide.mpr (by rw [mW, FN2])
  · show (wholeI f [s, t]).2 = f.ins.filter fun x => decide (x ∈ (wholeI f [s, t]).2)
    refine List.filter_congr fun x hx => decide_eq_decide.mpr ?_
    unfold wholeI
    rw [List.mem_filter, decide_eq_true_eq]
    exact ⟨fun z => ⟨hx, z⟩, fun z => z.2⟩
  · have z := ok.fi
    rw [h.e] at z
    show ((l1 ++ wholeI f [s, t] :: (l2 ++ l3)).map fun s => f.outs.idxOf (s.1.headD Str.empty)).Pairwise (· ≤ ·)
    rw [List.map_append, List.map_cons, h.head ok]
    rw [List.map_append, List.map_cons] at z
    refine List.Pairwise.sublist (List.Sublist.append (List.Sublist.refl _) (List.Sublist.cons₂ _ ?_)) z
    rw [List.map_append, List.map_append]
    exact List.Sublist.append (List.Sublist.refl _) (by rw [List.map_cons]; exact List.sublist_cons_self _ _)
  · have fl := ok.fl
    show (FN (l1 ++ wholeI f [s, t] :: (l2 ++ l3))).Perm f.outs
    refine List.Perm.trans ?_ ok.pm
    show (FN (l1 ++ wholeI f [s, t] :: (l2 ++ l3))).Perm (FN f.prof)
    have hW : (wholeI f [s, t]).1.Perm (s.1 ++ t.1) := by
      refine (List.perm_ext_iff_of_nodup (List.Nodup.sublist List.filter_sublist ok.on) ?_).mpr mW
      rw [h.e, FN_app, FN_cons, FN_app, FN_cons] at fl
      have z := (List.nodup_append.mp fl).2.1
      refine List.Nodup.sublist (List.Sublist.append (List.Sublist.refl _) ?_) z
      exact (List.sublist_append_left _ _).trans (List.sublist_append_right _ _)
    rw [h.e, FN_app, FN_cons, FN_app, FN_app, FN_cons, FN_app]
    refine List.Perm.append_left _ ?_
    refine (hW.append_right _).trans ?_
    rw [List.append_assoc]
    refine List.Perm.append_left _ ?_
    rw [← List.append_assoc]
    refine (List.perm_append_comm.append_right _).trans ?_
    rw [List.append_assoc, FN_cons]
theorem merge_ok {f : If} (ok : OkI f) {a b : Str} (ha : a ∈ f.outs) (hb : b ∈ f.outs) : OkI (mergeI f a b) ∧ (mergeI f a b).outs = f.outs ∧ (mergeI f a b).ins = f.ins ∧ mergeI (mergeI f a b) a b = mergeI f a b := by
  rcases split2 ok ha hb with ⟨l1, s, l2, h⟩ | ⟨l1, s, l2, t, l3, h⟩
  · rw [h.merged]
    exact ⟨ok, rfl, rfl, h.merged⟩
  · rw [h.merged ok]
    have ok2 := h.ok ok
    refine ⟨ok2, rfl, rfl, ?_⟩
    have mW : ∀ x, x ∈ f.outs → x ∈ s.1 ++ t.1 → x ∈ (wholeI f [s, t]).1 := fun x h1 h2 => by
      unfold wholeI
      rw [List.mem_filter, FN2, decide_eq_true_eq]
      exact ⟨h1, h2⟩
    have o : OneS ⟨f.ins, f.outs, l1 ++ wholeI f [s, t] :: (l2 ++ l3)⟩ a b l1 (wholeI f [s, t]) (l2 ++ l3) := by
      refine ⟨rfl, mW a ha ?_, mW b hb ?_, h.n⟩
      · rcases h.ab with ⟨z, _⟩ | ⟨_, z, _⟩ <;> simp [z]
      · rcases h.ab with ⟨_, z, _⟩ | ⟨z, _⟩ <;> simp [z]
    exact o.merged
end K71
namespace K71
open PySem L2 Own StX ClX NdefX
def spMerged (K : PySem.W.Frag) : Sp := fun vs H Q _ => ∃ (v : Addr) (f : If) (a b : Str), vs = [.ref v, .str a, .str b] ∧ IfAt K H v f ∧ OkI f ∧ a ∈ f.outs ∧ b ∈ f.outs ∧ ∀ v' H', Same H H' → IfAt K H' v' (mergeI f a b) → Q (.ref v') H'
/-! ### data of step functions -/
def fncD (s : Fnc) : PyData := .tuple [.tuple (s.1.map .str), .tuple (s.2.map .str)]
theorem fncD_eqv (s t : Fnc) : PyData.eqv (fncD s) (fncD t) = decide (s = t) := by
  obtain ⟨s1, s2⟩ := s
  obtain ⟨t1, t2⟩ := t
  simp only [fncD, PyData.eqv, PyData.eqvAll, eqv_strs, Bool.and_true]
  by_cases h1 : s1 = t1
  · by_cases h2 : s2 = t2
    · simp [h1, h2]
    · simp [h1, h2]
  · simp [h1]
theorem names_lay (l : List Str) (h : ∀ x ∈ l, isNm x = true) : PyData.canLayAll0 (l.map PyData.str) = true ∧ PyData.depthAll (l.map PyData.str) ≤ 1 := by
  induction l with
  | nil => exact ⟨by simp [PyData.canLayAll0], by simp [PyData.depthAll]⟩
  | cons c r ih =>
    obtain ⟨a, b⟩ := ih fun d hd => h d (List.mem_cons_of_mem _ hd)
    refine ⟨?_, ?_⟩
    · simp only [List.map_cons, PyData.canLayAll0, a, nm_ok (h c List.mem_cons_self), Bool.and_self]
    · simp only [List.map_cons, PyData.depthAll, PyData.depth]
      omega
def FncN (s : Fnc) : Prop := (∀ x ∈ s.1, isNm x = true) ∧ ∀ x ∈ s.2, isNm x = true
theorem fncD_lay {s : Fnc} (h : FncN s) : (fncD s).canLay0 = true ∧ (fncD s).depth ≤ 4 := by
  obtain ⟨a, b⟩ := names_lay s.1 h.1
  obtain ⟨c, d⟩ := names_lay s.2 h.2
  simp only [fncD, PyData.canLay0, PyData.canLayAll0, a, c, Bool.and_self, PyData.depth, PyData.depthAll]
  refine ⟨trivial, by omega⟩
theorem fncD_shaped {s : Fnc} (h : FncN s) : SeqAt.shaped (fncD s) = true := by
  obtain ⟨a, b⟩ := fncD_lay h
  unfold SeqAt.shaped
  rw [Bool.and_eq_true]
  exact ⟨a, decide_eq_true (by omega)⟩
theorem StepAt.dp {K : PySem.W.Frag} {H : Hp} {a : Addr} {s : Fnc} (h : StepAt K H a s) : Dp K H (.ref a) (fncD s) := by
  obtain ⟨x, y, h1, h2, h3⟩ := h
  exact .tup h1 (.cons (.tup h2 (dp_strs _)) (.cons (.tup h3 (dp_strs _)) .nil))
theorem OkI.fn {f : If} (ok : OkI f) {s : Fnc} (hs : s ∈ f.prof) : FncN s := by
  refine ⟨fun x hx => ?_, fun x hx => ?_⟩
  · rw [ok.so s hs] at hx
    exact ok.no x (List.mem_filter.mp hx).1
  · rw [ok.sn s hs] at hx
    exact ok.ni x (List.mem_filter.mp hx).1
theorem StepsAt.nil {K : PySem.W.Frag} {H : Hp} : StepsAt K H [] [] := ⟨rfl, fun i a s e _ => by cases e⟩
theorem StepsAt.snoc {K : PySem.W.Frag} {H : Hp} {as : List Addr} {ps : List Fnc} {a : Addr} {s : Fnc} (h : StepsAt K H as ps) (g : StepAt K H a s) : StepsAt K H (as ++ [a]) (ps ++ [s]) := by
  refine ⟨by rw [List.length_append, List.length_append, h.1]; rfl, fun i b t e1 e2 => ?_⟩
  by_cases hi : i < as.length
  · rw [List.getElem?_append_left hi] at e1
    rw [List.getElem?_append_left (by rw [← h.1]; exact hi)] at e2
    exact h.2 i b t e1 e2
  · rw [List.getElem?_append_right (by omega)] at e1
    rw [List.getElem?_append_right (by rw [← h.1]; omega), ← h.1] at e2
    cases hk : i - as.length with
    | zero =>
      rw [hk] at e1 e2
      cases e1
      cases e2
      exact g
    | succ j =>
      rw [hk] at e1
      cases e1
theorem FN_take {l : List Fnc} {m : Nat} {s : Fnc} (h : l[m]? = some s) : FN (l.take (m + 1)) = FN (l.take m) ++ s.1 := by
  rw [tk1 h, FN_app]
  simp [FN]
theorem FD_take {l : List Fnc} {m : Nat} {s : Fnc} (h : l[m]? = some s) : FD (l.take (m + 1)) = FD (l.take m) ++ s.2 := by
  rw [tk1 h, FD_app]
  simp [FD]
theorem fn_len {l : List Fnc} (h : ∀ s ∈ l, s.1.length ≤ 6 ∧ s.2.length ≤ 6) : (FN l).length ≤ 6 * l.length ∧ (FD l).length ≤ 6 * l.length := by
  induction l with
  | nil => exact ⟨Nat.le_refl _, Nat.le_refl _⟩
  | cons s r ih =>
    obtain ⟨h1, h2⟩ := ih fun t ht => h t (List.mem_cons_of_mem _ ht)
    obtain ⟨h3, h4⟩ := h s List.mem_cons_self
    rw [FN_cons, FD_cons, List.length_append, List.length_append, List.length_cons]
    omega
theorem OkI.sl {f : If} (ok : OkI f) {s : Fnc} (hs : s ∈ f.prof) : s.1.length ≤ 6 ∧ s.2.length ≤ 6 := by
  rw [ok.so s hs, ok.sn s hs]
  have h1 := List.length_filter_le (fun x => decide (x ∈ s.1)) f.outs
  have h2 := List.length_filter_le (fun x => decide (x ∈ s.2)) f.ins
  have := ok.il
  have := ok.ol
  exact ⟨by omega, by omega⟩
section
variable {P : Program} {w : World} {K : PySem.W.Frag} {mg : Str → Option Value} {base : Heap}
abbrev nM : List Str := ["interface", "first", "second", "inputs", "outputs", "profile", "step", "joined", "name", "names", "needs", "whole", "steps"]
theorem scM : FnScope nM ["interface", "first", "second"] (defScope sMerged) := ⟨rfl, rfl, rfl, by decide +kernel, rfl, by decide +kernel, by decide +kernel⟩
theorem ok_merged {f : Addr} {fd : FuncData} (F : Fun K "merged" "merged" sMerged f fd) (T : Txt K mg) : FnOk P w K mg base CX0 1 f fd ["interface", "first", "second"] (spMerged K) := by
  refine F.ok scM (fun vs H Q E h => ?_) (fun cdv A outer s H vs Q E hr h => ?_)
  · obtain ⟨v, g, a, b, rfl, _⟩ := h
    rfl
  obtain ⟨v, g, a, b, rfl, hI, ok, ha, hb, k⟩ := h
  obtain ⟨i, o, p, as, hv, hi, ho, hp, hst⟩ := id hI
  have hu := hr.units
  refine ⟨_, pss_cons (ps_asg (pv 0) (pg_tup (by rfl) (pgs_cons (pg_name (i := 3) scM.nd rfl (.inl rfl)) (pgs_cons (pg_name (i := 4) scM.nd rfl (.inl rfl)) (pgs_cons (pg_name (i := 5) scM.nd rfl (.inl rfl)) pgs_nil)))))
    (pss_cons (ps_set (i := 7) scM.nd rfl (.inr rfl) (by exact (pe_lc (own := [("step", 6)]) (g := gName 6) (wi := iTup K (tVar 5)) rfl scM.nd (pi_tup (pv 5)) (blkOk_by (own := [("step", 6)]) (N := nM) (sc := defScope sMerged) (by decide +kernel)) (fun _ _ _ _ _ => pg_name (i := 6) scM.nd rfl (Or.inl rfl))
      (fun _ _ _ _ _ => by exact (pts_one (PW.pt (pw_or (pt_cmpR (show OpR _ (compareOp .In) (rIn K false) from op_in_seq) (pv 1) (pe_ix (show IxR _ (rIxT K) from ix_tup) (pv 6) pe_int (fun _ _ => rfl)) (by rfl)) (pw_or1 (pt_cmpR (show OpR _ (compareOp .In) (rIn K false) from op_in_seq) (pv 2) (pe_ix (show IxR _ (rIxT K) from ix_tup) (pv 6) pe_int (fun _ _ => rfl)) (by rfl))))))) (fun _ _ _ _ _ => pv 6))))
    (pss_cons (ps_if (pt_cmpR op_eq (pe_callB call_len_seq (by rfl) T.zl PySem.boot_len (pa_cons (pv 7) pa_nil)) pe_int (nomark _)) (pss_one (ps_ret (pv 0))) pss_nil)
    (pss_cons (ps_set (i := 9) scM.nd rfl (.inr rfl) (by exact (pe_lc2 (own := [("step", 6), ("name", 8)]) (g := gName 6) (g1 := gName 8) (wi := iList K (tVar 7)) (wi1 := iTup K (tOp (rIxT K) (tVar 6) (tC (.int 0)))) (vs1 := [8]) rfl scM.nd (pi_list (pv 7)) (blkOk_by (own := [("step", 6), ("name", 8)]) (N := nM) (sc := defScope sMerged) (by decide +kernel)) (by decide) (fun _ _ _ _ _ => pg_name (i := 6) scM.nd rfl (Or.inl rfl)) (fun _ _ _ _ _ => pts_nil)
      (fun _ _ _ _ _ => by exact (pi_tup (pe_ix (show IxR _ (rIxT K) from ix_tup) (pv 6) pe_int (fun _ _ => rfl)))) (fun _ _ _ _ _ => pg_name (i := 8) scM.nd rfl (Or.inl rfl)) (fun _ _ _ _ _ => pts_nil) (fun _ _ _ _ _ => pv 8))))
    (pss_cons (ps_set (i := 10) scM.nd rfl (.inr rfl) (by exact (pe_lc2 (own := [("step", 6), ("name", 8)]) (g := gName 6) (g1 := gName 8) (wi := iList K (tVar 7)) (wi1 := iTup K (tOp (rIxT K) (tVar 6) (tC (.int 1)))) (vs1 := [8]) rfl scM.nd (pi_list (pv 7)) (blkOk_by (own := [("step", 6), ("name", 8)]) (N := nM) (sc := defScope sMerged) (by decide +kernel)) (by decide) (fun _ _ _ _ _ => pg_name (i := 6) scM.nd rfl (Or.inl rfl)) (fun _ _ _ _ _ => pts_nil)
      (fun _ _ _ _ _ => by exact (pi_tup (pe_ix (show IxR _ (rIxT K) from ix_tup) (pv 6) pe_int (fun _ _ => rfl)))) (fun _ _ _ _ _ => pg_name (i := 8) scM.nd rfl (Or.inl rfl)) (fun _ _ _ _ _ => pts_nil) (fun _ _ _ _ _ => pv 8))))
    (pss_cons (ps_set (i := 11) scM.nd rfl (.inr rfl) (pe_tup (pa_cons (pe_callTy call_tuple_of (by rfl) T.zt (by decide +kernel) (pa_cons (pe_lc (own := [("name", 8)]) (g := gName 8) (wi := iTup K (tVar 4)) rfl scM.nd (pi_tup (pv 4)) (blkOk_by (own := [("name", 8)]) (N := nM) (sc := defScope sMerged) (by decide +kernel)) (fun _ _ _ _ _ => pg_name (i := 8) scM.nd rfl (Or.inl rfl)) (fun _ _ _ _ _ => by exact (pts_one (pt_cmpR (show OpR _ (compareOp .In) (rIn K false) from op_in_seq) (pv 8) (pv 9) (by rfl)))) (fun _ _ _ _ _ => pv 8)) pa_nil))
      (pa_cons (pe_callTy call_tuple_of (by rfl) T.zt (by decide +kernel) (pa_cons (pe_lc (own := [("name", 8)]) (g := gName 8) (wi := iTup K (tVar 3)) rfl scM.nd (pi_tup (pv 3)) (blkOk_by (own := [("name", 8)]) (N := nM) (sc := defScope sMerged) (by decide +kernel)) (fun _ _ _ _ _ => pg_name (i := 8) scM.nd rfl (Or.inl rfl)) (fun _ _ _ _ _ => by exact (pts_one (pt_cmpR (show OpR _ (compareOp .In) (rIn K false) from op_in_seq) (pv 8) (pv 10) (by rfl)))) (fun _ _ _ _ _ => pv 8)) pa_nil)) pa_nil))))
    (pss_cons (ps_setLc (i := 12) (own := [("step", 6)]) (g := gName 6) rfl scM.nd rfl rfl (sw_true rfl rfl rfl (by decide +kernel)) (pi_tup (pv 5)) (blkOk_by (own := [("step", 6)]) (N := nM) (sc := defScope sMerged) (by decide +kernel)) (fun _ _ _ _ _ => pg_name (i := 6) scM.nd rfl (Or.inl rfl))
      (fun _ _ _ _ _ => by exact (pts_one (pt_cmpR (show OpR _ (compareOp .NotEq) (rNeD K) from op_neD hu) (pv 6) (pe_ix (show IxR _ (rIxL K) from ix_list) (pv 7) pe_int (fun _ _ => rfl)) (by rfl))))
      (fun _ _ _ _ _ => by exact (pe_ifExp (pt_cmpR (show OpR _ (compareOp .Eq) (rEqD K) from op_eqD hu) (pv 6) (pe_ix (show IxR _ (rIxL K) from ix_list) (pv 7) pe_int (fun _ _ => rfl)) (by rfl)) (pv 11) (pv 6))))
    (pss_one (ps_ret (pe_tup (pa_cons (pv 3) (pa_cons (pv 4) (pa_cons (pe_callTy call_tuple_of (by rfl) T.zt (by decide +kernel) (pa_cons (pv 12) pa_nil)) pa_nil)))))))))))), ?_⟩
  have lt : ∀ {n : Nat}, n ≤ 100000 → n < sizeLine := fun h => by rw [sizeLine_eq]; omega
  have hal : as.length = g.prof.length := hst.1
  have hpl := ok.pl
  have hil := ok.il
  have hol := ok.ol
  refine ⟨_, rfl, v, _, rfl, hv, rfl, _, _, rfl, _, _, rfl, _, _, rfl, rfl, ?_⟩
  -- joined
  refine ⟨_, rfl, p, rfl, ⟨_, hp⟩, fun D hD => ?_⟩
  refine out_it (walk_tup (xs := as.map V.ref)) (fun m H' => Same H H' ∧ ∃ js : List Addr, H' D = some (.lst (js.map V.ref)) ∧ StepsAt K H js ((g.prof.take m).filter fun u => decide (a ∈ u.1) || decide (b ∈ u.1))) ⟨upd_new hD, [], upd_same, .nil⟩ (fun m H' _ q => sqT_same q.1 hp) ?_ ?_
  · rintro m x H1 H2 hm ⟨s1, js, e1, j1⟩ ⟨rfl, hx⟩
    rw [List.getElem?_map] at hx
    obtain ⟨c, hc, rfl⟩ := Option.map_eq_some_iff.mp hx
    obtain ⟨st, hs1, sa⟩ := hst.at hc
    obtain ⟨x, y, h1, h2, h3⟩ := sa.same s1
    have hjl : js.length ≤ 6 := by
      rw [j1.1]
      refine Nat.le_trans (List.length_filter_le _ _) ?_
      rw [List.length_take]
      omega
    have put : ((g.prof.take (m + 1)).filter fun u => decide (a ∈ u.1) || decide (b ∈ u.1)) = ((g.prof.take m).filter fun u => decide (a ∈ u.1) || decide (b ∈ u.1)) ++ [st].filter fun u => decide (a ∈ u.1) || decide (b ∈ u.1) := by rw [tk1 hs1, List.filter_append]
    have add : (decide (a ∈ st.1) || decide (b ∈ st.1)) = true → Same H (upd H2 D (.lst (js.map V.ref ++ [.ref c]))) ∧ ∃ js' : List Addr, upd H2 D (.lst (js.map V.ref ++ [.ref c])) D = some (.lst (js'.map V.ref)) ∧ StepsAt K H js' ((g.prof.take (m + 1)).filter fun u => decide (a ∈ u.1) || decide (b ∈ u.1)) := fun hh => by
      refine ⟨same_put s1 hD, js ++ [c], by rw [upd_same, List.map_append]; rfl, ?_⟩
      rw [put, List.filter_cons_of_pos (by exact hh)]
      exact j1.snoc sa
    refine ⟨rfl, _, rfl, _, rfl, c, _, 0, _, rfl, rfl, h1, rfl, x, _, rfl, .inr h2, rfl, strs_flat _, _, rfl, ?_⟩
    have e3 : inV (.str a) (st.1.map V.str) = decide (a ∈ st.1) := inV_strs _ _
    have e4 : inV (.str b) (st.1.map V.str) = decide (b ∈ st.1) := inV_strs _ _
    have hjL : (js.map V.ref).length < sizeLine := lt (by rw [List.length_map]; omega)
    show if inV (.str a) (st.1.map V.str) = true then _ else _
    rw [e3]
    by_cases ia : a ∈ st.1
    · rw [decide_eq_true ia]
      exact iteT ⟨_, rfl, _, e1, hjL, add (by simp [ia])⟩
    · rw [decide_eq_false ia]
      refine iteF ⟨_, rfl, _, rfl, c, _, 0, _, rfl, rfl, h1, rfl, x, _, rfl, .inr h2, rfl, strs_flat _, _, rfl, ?_⟩
      show if inV (.str b) (st.1.map V.str) = true then _ else _
      rw [e4]
      by_cases ib : b ∈ st.1
      · rw [decide_eq_true ib]
        exact iteT ⟨_, rfl, _, e1, hjL, add (by simp [ib])⟩
      · rw [decide_eq_false ib]
        refine iteF ⟨s1, js, e1, ?_⟩
        rw [put, List.filter_cons_of_neg (by simp [ia, ib]), List.filter_nil, List.append_nil]
        exact j1
  rintro H1 ⟨s1, js, e1, j1⟩
  rw [List.take_of_length_le (by rw [List.length_map]; omega)] at j1
  have j1 : StepsAt K H js (joinedI g a b) := j1
  refine ⟨_, rfl, D, _, rfl, .inl (.of e1), rfl, _, rfl, ?_⟩
  have hJl : js.length = (joinedI g a b).length := j1.1
  rcases split2 ok ha hb with ⟨l1, st, l2, h⟩ | ⟨l1, st, l2, tt, l3, h⟩
  · rw [h.joined] at hJl
    rw [List.length_map, hJl, decide_eq_true (show V.int (([st].length : Nat) : Int) = V.int 1 from rfl)]
    refine iteT ⟨_, rfl, k v H1 s1 ?_⟩
    rw [h.merged]
    exact hI.same s1
  have hJ2 : js.length = 2 := by rw [hJl, h.joined]; rfl
  rw [List.length_map, hJ2, decide_eq_false (show ¬ V.int ((2 : Nat) : Int) = V.int 1 from fun z => by cases z)]
  refine iteF ?_
  have s1r : Same H1 H1 := Same.refl _
  refine ⟨_, rfl, D, rfl, ⟨_, .of e1⟩, fun D2 hD2 => ?_⟩
  refine out_it (walk_list (xs := js.map V.ref)) (fun m H' => Same H1 H' ∧ H' D2 = some (.lst ((FN ((joinedI g a b).take m)).map V.str))) ⟨upd_new hD2, upd_same⟩ (fun m H' _ q => .of (q.1 _ _ e1)) ?_ ?_
  · rintro m x H5 H6 hm ⟨s5, a5⟩ ⟨rfl, hx⟩
    rw [List.getElem?_map] at hx
    obtain ⟨c, hc, rfl⟩ := Option.map_eq_some_iff.mp hx
    obtain ⟨st, hs1, sa⟩ := j1.at hc
    have hstm : st ∈ g.prof := (List.mem_filter.mp (List.mem_of_getElem? hs1)).1
    obtain ⟨x, y, h1, h2, h3⟩ := sa.same s1
    refine ⟨rfl, _, rfl, c, _, 0, _, rfl, rfl, sqT_same s5 h1, rfl, x, rfl, ⟨_, sqT_same s5 h2⟩, ?_⟩
    refine out_it (walk_tup (xs := st.1.map V.str)) (fun j H' => Same H1 H' ∧ H' D2 = some (.lst ((FN ((joinedI g a b).take m) ++ st.1.take j).map V.str))) ⟨s5, by rw [List.take_zero, List.append_nil]; exact a5⟩ (fun j H' _ q => sqT_same q.1 h2) ?_ ?_
    · rintro j z H7 H8 hj ⟨s7, a7⟩ ⟨rfl, hz⟩
      rw [List.getElem?_map] at hz
      obtain ⟨nm, hnm, rfl⟩ := Option.map_eq_some_iff.mp hz
      refine ⟨rfl, _, rfl, _, a7, lt ?_, same_put s7 hD2, ?_⟩
      · have z := (fn_len (l := (joinedI g a b).take m) fun s hs => ok.sl (List.mem_filter.mp (List.mem_of_mem_take hs)).1).1
        have z2 := (ok.sl hstm).1
        rw [List.length_map, List.length_append, List.length_take]
        rw [List.length_take] at z
        omega
      · rw [upd_same, tk1 hnm]
        simp
    rintro H7 ⟨s7, a7⟩
    rw [List.length_map, List.take_length] at a7
    exact ⟨s7, by rw [a7, FN_take hs1]⟩
  rintro H2 ⟨s20, a2⟩
  rw [List.take_of_length_le (by rw [List.length_map, hJl]; exact Nat.le_refl _)] at a2
  have s2 := s20
  refine ⟨_, rfl, D, rfl, ⟨_, .of (s2 _ _ e1)⟩, fun D3 hD3 => ?_⟩
  refine out_it (walk_list (xs := js.map V.ref)) (fun m H' => Same H2 H' ∧ H' D3 = some (.lst ((FD ((joinedI g a b).take m)).map V.str))) ⟨upd_new hD3, upd_same⟩ (fun m H' _ q => .of (q.1 _ _ (s2 _ _ e1))) ?_ ?_
  · rintro m x H5 H6 hm ⟨s5, a5⟩ ⟨rfl, hx⟩
    rw [List.getElem?_map] at hx
    obtain ⟨c, hc, rfl⟩ := Option.map_eq_some_iff.mp hx
    obtain ⟨st, hs1, sa⟩ := j1.at hc
    have hstm : st ∈ g.prof := (List.mem_filter.mp (List.mem_of_getElem? hs1)).1
    obtain ⟨x, y, h1, h2, h3⟩ := sa.same (s1.trans s2)
    refine ⟨rfl, _, rfl, c, _, 1, _, rfl, rfl, sqT_same s5 h1, rfl, y, rfl, ⟨_, sqT_same s5 h3⟩, ?_⟩
    refine out_it (walk_tup (xs := st.2.map V.str)) (fun j H' => Same H2 H' ∧ H' D3 = some (.lst ((FD ((joinedI g a b).take m) ++ st.2.take j).map V.str))) ⟨s5, by rw [List.take_zero, List.append_nil]; exact a5⟩ (fun j H' _ q => sqT_same q.1 h3) ?_ ?_
    · rintro j z H7 H8 hj ⟨s7, a7⟩ ⟨rfl, hz⟩
      rw [List.getElem?_map] at hz
      obtain ⟨nm, hnm, rfl⟩ := Option.map_eq_some_iff.mp hz
      refine ⟨rfl, _, rfl, _, a7, lt ?_, same_put s7 hD3, ?_⟩
      · have z := (fn_len (l := (joinedI g a b).take m) fun s hs => ok.sl (List.mem_filter.mp (List.mem_of_mem_take hs)).1).2
        have z2 := (ok.sl hstm).2
        rw [List.length_map, List.length_append, List.length_take]
        rw [List.length_take] at z
        omega
      · rw [upd_same, tk1 hnm]
        simp
    rintro H7 ⟨s7, a7⟩
    rw [List.length_map, List.take_length] at a7
    exact ⟨s7, by rw [a7, FD_take hs1]⟩
  rintro H3 ⟨s30, a3⟩
  rw [List.take_of_length_le (by rw [List.length_map, hJl]; exact Nat.le_refl _)] at a3
  have s3 := s30
  have S3 := s1.trans (s2.trans s3)
  have b2 := s3 _ _ a2
  have b3 := a3
  refine ⟨_, rfl, o, rfl, ⟨_, sqT_same S3 ho.sq⟩, fun D4 hD4 => ?_⟩
  refine out_it (walk_tup (xs := g.outs.map V.str)) (fun m H' => Same H3 H' ∧ H' D4 = some (.lst (((g.outs.take m).filter fun x => decide (x ∈ FN (joinedI g a b))).map V.str))) ⟨upd_new hD4, upd_same⟩ (fun m H' _ q => sqT_same q.1 (sqT_same S3 ho.sq)) ?_ ?_
  · rintro m x H5 H6 hm ⟨s5, a5⟩ ⟨rfl, hx⟩
    rw [List.getElem?_map] at hx
    obtain ⟨x, hxm, rfl⟩ := Option.map_eq_some_iff.mp hx
    refine ⟨rfl, _, rfl, _, rfl, D2, _, rfl, .inl (.of (s5 _ _ b2)), rfl, strs_flat _, _, rfl, ?_⟩
    show if inV (.str x) ((FN (joinedI g a b)).map V.str) = true then _ else _
    rw [inV_strs]
    by_cases hm : x ∈ FN (joinedI g a b)
    · rw [decide_eq_true hm]
      refine iteT ⟨_, rfl, _, a5, lt ?_, same_put s5 hD4, ?_⟩
      · rw [List.length_map]
        refine Nat.le_trans (List.length_filter_le _ _) ?_
        rw [List.length_take]
        omega
      · rw [upd_same, tk1 hxm, List.filter_append]
        simp [hm]
    · rw [decide_eq_false hm]
      refine iteF ⟨s5, ?_⟩
      rw [a5, tk1 hxm, List.filter_append]
      simp [hm]
  rintro H4 ⟨tH4, aH4⟩
  rw [List.take_of_length_le (by rw [List.length_map]; exact Nat.le_refl _)] at aH4
  refine ⟨D4, _, rfl, .inl ⟨.of aH4, fun W1 hW1 => ?_⟩⟩
  have gW1 := upd_same (H := H4) (a := W1) (o := HO.tup ((g.outs.filter fun x => decide (x ∈ FN (joinedI g a b))).map V.str))
  have t5 := upd_new (o := HO.tup ((g.outs.filter fun x => decide (x ∈ FN (joinedI g a b))).map V.str)) hW1
  generalize upd H4 W1 (HO.tup ((g.outs.filter fun x => decide (x ∈ FN (joinedI g a b))).map V.str)) = H5 at gW1 t5 ⊢
  have S5 := S3.trans (tH4.trans t5)
  have b3 := t5 _ _ (tH4 _ _ a3)
  refine ⟨_, rfl, i, rfl, ⟨_, sqT_same S5 hi⟩, fun D5 hD5 => ?_⟩
  refine out_it (walk_tup (xs := g.ins.map V.str)) (fun m H' => Same H5 H' ∧ H' D5 = some (.lst (((g.ins.take m).filter fun x => decide (x ∈ FD (joinedI g a b))).map V.str))) ⟨upd_new hD5, upd_same⟩ (fun m H' _ q => sqT_same q.1 (sqT_same S5 hi)) ?_ ?_
  · rintro m x H5 H6 hm ⟨s5, a5⟩ ⟨rfl, hx⟩
    rw [List.getElem?_map] at hx
    obtain ⟨x, hxm, rfl⟩ := Option.map_eq_some_iff.mp hx
    refine ⟨rfl, _, rfl, _, rfl, D3, _, rfl, .inl (.of (s5 _ _ b3)), rfl, strs_flat _, _, rfl, ?_⟩
    show if inV (.str x) ((FD (joinedI g a b)).map V.str) = true then _ else _
    rw [inV_strs]
    by_cases hm : x ∈ FD (joinedI g a b)
    · rw [decide_eq_true hm]
      refine iteT ⟨_, rfl, _, a5, lt ?_, same_put s5 hD5, ?_⟩
      · rw [List.length_map]
        refine Nat.le_trans (List.length_filter_le _ _) ?_
        rw [List.length_take]
        omega
      · rw [upd_same, tk1 hxm, List.filter_append]
        simp [hm]
    · rw [decide_eq_false hm]
      refine iteF ⟨s5, ?_⟩
      rw [a5, tk1 hxm, List.filter_append]
      simp [hm]
  rintro H6 ⟨tH6, aH6⟩
  rw [List.take_of_length_le (by rw [List.length_map]; exact Nat.le_refl _)] at aH6
  refine ⟨D5, _, rfl, .inl ⟨.of aH6, fun W2 hW2 => ?_⟩⟩
  have gW2 := upd_same (H := H6) (a := W2) (o := HO.tup ((g.ins.filter fun x => decide (x ∈ FD (joinedI g a b))).map V.str))
  have t7 := upd_new (o := HO.tup ((g.ins.filter fun x => decide (x ∈ FD (joinedI g a b))).map V.str)) hW2
  generalize upd H6 W2 (HO.tup ((g.ins.filter fun x => decide (x ∈ FD (joinedI g a b))).map V.str)) = H7 at gW2 t7 ⊢
  refine ⟨small1 (by show 2 ≤ 8; decide), fun wh hwh => ?_⟩
  have t8 := upd_new (o := HO.tup [V.ref W1, V.ref W2]) hwh
  have sW : StepAt K (upd H7 wh (HO.tup [V.ref W1, V.ref W2])) wh (wholeI g (joinedI g a b)) := ⟨W1, W2, .of upd_same, .of (t8 _ _ (t7 _ _ (tH6 _ _ gW1))), .of (t8 _ _ gW2)⟩
  generalize upd H7 wh (HO.tup [V.ref W1, V.ref W2]) = H8 at t8 sW ⊢
  have S8 := S5.trans (tH6.trans (t7.trans t8))
  have e8 : H8 D = some (.lst (js.map V.ref)) := t8 _ _ (t7 _ _ (tH6 _ _ (t5 _ _ (tH4 _ _ (s3 _ _ (s2 _ _ e1))))))
  obtain ⟨c0, c1, rfl⟩ : ∃ c0 c1, js = [c0, c1] := by
    match js, hJ2 with
    | [c0, c1], _ => exact ⟨c0, c1, rfl⟩
  have q0 : StepAt K H c0 st := j1.2 0 c0 st rfl (by rw [h.joined]; rfl)
  have q1 : StepAt K H c1 tt := j1.2 1 c1 tt rfl (by rw [h.joined]; rfl)
  have nst := ok.fn h.mem_s
  have ntt := ok.fn h.mem_t
  have hp8 := sqT_same S8 hp
  -- steps
  refine ⟨_, rfl, p, rfl, ⟨_, hp8⟩, fun D6 hD6 => ?_⟩
  refine out_it (walk_tup (xs := as.map V.ref)) (fun m H' => Same H8 H' ∧ ∃ ks : List Addr, H' D6 = some (.lst (ks.map V.ref)) ∧ StepsAt K H8 ks (((g.prof.take m).filter fun u => !decide (u = tt)).map fun u => if u = st then wholeI g [st, tt] else u)) ⟨upd_new hD6, [], upd_same, .nil⟩ (fun m H' _ q => sqT_same q.1 hp8) ?_ ?_
  · rintro m x H9 H10 hm ⟨s9, ks, a9, k9⟩ ⟨rfl, hx⟩
    rw [List.getElem?_map] at hx
    obtain ⟨c, hc, rfl⟩ := Option.map_eq_some_iff.mp hx
    obtain ⟨u, hs1, sa⟩ := hst.at hc
    have num := ok.fn (List.mem_of_getElem? hs1)
    have S9 := S8.trans s9
    have du := (sa.same S9).dp
    have put : (((g.prof.take (m + 1)).filter fun u => !decide (u = tt)).map fun u => if u = st then wholeI g [st, tt] else u) = (((g.prof.take m).filter fun u => !decide (u = tt)).map fun u => if u = st then wholeI g [st, tt] else u) ++ (([u].filter fun u => !decide (u = tt)).map fun u => if u = st then wholeI g [st, tt] else u) := by rw [tk1 hs1, List.filter_append, List.map_append]
    have hkl : (ks.map V.ref).length < sizeLine := lt (by
      rw [List.length_map, k9.1, List.length_map]
      refine Nat.le_trans (List.length_filter_le _ _) ?_
      rw [List.length_take]
      omega)
    refine ⟨rfl, _, rfl, _, rfl, D, _, 1, .ref c1, rfl, rfl, .of (s9 _ _ e8), rfl, fncD u, fncD tt, du, (q1.same S9).dp, fncD_shaped num, fncD_shaped ntt, _, rfl, ?_⟩
    rw [fncD_eqv]
    by_cases hut : u = tt
    · rw [decide_eq_true hut]
      refine iteF ⟨s9, ks, a9, ?_⟩
      rw [put, List.filter_cons_of_neg (by simp [hut]), List.filter_nil, List.map_nil, List.append_nil]
      exact k9
    rw [decide_eq_false hut]
    refine iteT ⟨_, rfl, _, rfl, D, _, 0, .ref c0, rfl, rfl, .of (s9 _ _ e8), rfl, fncD u, fncD st, du, (q0.same S9).dp, fncD_shaped num, fncD_shaped nst, _, rfl, ?_⟩
    rw [fncD_eqv]
    have put2 : ([u].filter fun u => !decide (u = tt)) = [u] := by rw [List.filter_cons_of_pos (by simp [hut]), List.filter_nil]
    rw [put2, List.map_cons, List.map_nil] at put
    by_cases hus : u = st
    · rw [decide_eq_true hus]
      refine iteT ⟨_, rfl, _, a9, hkl, same_put s9 hD6, ks ++ [wh], by rw [upd_same, List.map_append]; rfl, ?_⟩
      rw [put, if_pos hus, ← h.joined]
      rw [h.joined] at sW ⊢
      exact k9.snoc sW
    · rw [decide_eq_false hus]
      refine iteF ⟨_, rfl, _, a9, hkl, same_put s9 hD6, ks ++ [c], by rw [upd_same, List.map_append]; rfl, ?_⟩
      rw [put, if_neg hus]
      exact k9.snoc (sa.same S8)
  rintro H9 ⟨s9, ks, a9, k9⟩
  rw [List.take_of_length_le (by rw [List.length_map]; omega)] at k9
  refine ⟨_, rfl, _, rfl, _, rfl, D6, _, rfl, .inl ⟨.of a9, fun p2 hp2 => ⟨small1 (by show 3 ≤ 8; decide), fun v2 hv2 => ?_⟩⟩⟩
  have t10 := (upd_new (o := HO.tup (ks.map V.ref)) hp2).trans (upd_new (o := HO.tup [V.ref i, V.ref o, V.ref p2]) hv2)
  have S10 := S8.trans (s9.trans t10)
  have em : mergeI g a b = ⟨g.ins, g.outs, (g.prof.filter fun u => !decide (u = tt)).map fun u => if u = st then wholeI g [st, tt] else u⟩ := by
    unfold mergeI
    rw [h.joined]
  refine k v2 _ S10 ?_
  rw [em]
  exact ⟨i, o, p2, ks, .of upd_same, sqT_same S10 hi, ixT_same S10 ho, .of ((upd_new hv2) _ _ upd_same), k9.same (s9.trans t10)⟩
end
end K71
namespace K71
open PySem L2 Own StX ClX NdefX
def spDue (K : PySem.W.Frag) : Sp := fun vs H Q _ => ∃ (v : Addr) (f : If) (a b : Str), vs = [.ref v, .str a, .str b] ∧ IfAt K H v f ∧ OkI f ∧ a ∈ f.outs ∧ b ∈ f.outs ∧ ∀ v' H', Same H H' → IfAt K H' v' (dueI f a b) → Q (.ref v') H'
theorem catA_of {K : PySem.W.Frag} {H : Hp} {a b : Addr} {xs ys : List V} {Q : VK} (ha : SqT K H a xs) (hb : SqT K H b ys) (hl : xs.length + ys.length ≤ sizeLine) (h : ∀ c H', Same H H' → SqT K H' c (xs ++ ys) → Q (.ref c) H') : rCatA K (.ref a) (.ref b) H Q := by
  refine ⟨a, b, xs, ys, rfl, rfl, ha, hb, hl, fun e => h b H (Same.refl _) ?_, fun _ e => h a H (Same.refl _) ?_, fun _ _ p hp => h p _ (upd_new hp) (.of upd_same)⟩
  · rw [e, List.nil_append]
    exact hb
  · rw [e, List.append_nil]
    exact ha
theorem sqT_updL {K : PySem.W.Frag} {H : Hp} {F b : Addr} {l xs : List V} {o : HO} (e : H F = some (.lst l)) (h : SqT K H b xs) : SqT K (upd H F o) b xs := by
  rcases h with (h | ⟨q, h⟩) | h
  · exact .inl (.inl ((upd_ne fun z => by rw [z, e] at h; cases h).trans h))
  · exact .inl (.inr ⟨q, (upd_ne fun z => by rw [z, e] at h; cases h).trans h⟩)
  · exact .inr h
theorem StepAt.updL {K : PySem.W.Frag} {H : Hp} {F a : Addr} {l : List V} {s : Fnc} {o : HO} (e : H F = some (.lst l)) (h : StepAt K H a s) : StepAt K (upd H F o) a s := by
  obtain ⟨x, y, h1, h2, h3⟩ := h
  exact ⟨x, y, sqT_updL e h1, sqT_updL e h2, sqT_updL e h3⟩
theorem StepsAt.updL {K : PySem.W.Frag} {H : Hp} {F : Addr} {as : List Addr} {ps : List Fnc} {l : List V} {o : HO} (e : H F = some (.lst l)) (h : StepsAt K H as ps) : StepsAt K (upd H F o) as ps := ⟨h.1, fun i a s h1 h2 => (h.2 i a s h1 h2).updL e⟩
theorem with_ne {f : If} (ok : OkI f) {a : Str} (ha : a ∈ f.outs) : ∃ r, (f.prof.filter fun u => decide (a ∈ u.1)) = withI f a :: r ∧ withI f a ∈ f.prof ∧ a ∈ (withI f a).1 := by
  obtain ⟨s, hs, has⟩ := mem_FN.mp (ok.pm.mem_iff.mpr ha)
  have hm : s ∈ f.prof.filter fun u => decide (a ∈ u.1) := List.mem_filter.mpr ⟨hs, decide_eq_true has⟩
  unfold withI
  cases e : f.prof.filter fun u => decide (a ∈ u.1) with
  | nil => rw [e] at hm; cases hm
  | cons t r =>
    have ht : t ∈ f.prof.filter fun u => decide (a ∈ u.1) := by rw [e]; exact List.mem_cons_self
    exact ⟨r, rfl, (List.mem_filter.mp ht).1, of_decide_eq_true (List.mem_filter.mp ht).2⟩
section
variable {P : Program} {w : World} {K : PySem.W.Frag} {mg : Str → Option Value} {base : Heap}
abbrev nD : List Str := ["interface", "first", "second", "inputs", "outputs", "profile", "function", "one", "two", "both", "needs", "found", "output", "port"]
theorem scD : FnScope nD ["interface", "first", "second"] (defScope sDue) := ⟨rfl, rfl, rfl, by decide +kernel, rfl, by decide +kernel, by decide +kernel⟩
theorem ok_due {f : Addr} {fd : FuncData} (F : Fun K "_law_due" "_law_due" sDue f fd) (T : Txt K mg) : FnOk P w K mg base CX0 1 f fd ["interface", "first", "second"] (spDue K) := by
  refine F.ok scD (fun vs H Q E h => ?_) (fun cdv A outer s H vs Q E hr h => ?_)
  · obtain ⟨v, g, a, b, rfl, _⟩ := h
    rfl
  obtain ⟨v, g, a, b, rfl, hI, ok, ha, hb, k⟩ := h
  obtain ⟨i, o, p, as, hv, hi, ho, hp, hst⟩ := id hI
  have hu := hr.units
  refine ⟨_, pss_cons (ps_asg (pv 0) (pg_tup (by rfl) (pgs_cons (pg_name (i := 3) scD.nd rfl (.inl rfl)) (pgs_cons (pg_name (i := 4) scD.nd rfl (.inl rfl)) (pgs_cons (pg_name (i := 5) scD.nd rfl (.inl rfl)) pgs_nil)))))
    (pss_cons (ps_set (i := 7) scD.nd rfl (.inr rfl) (pe_ix (show IxR _ (rIxL K) from ix_list) (pe_lc (own := [("function", 6)]) (g := gName 6) (wi := iTup K (tVar 5)) rfl scD.nd (pi_tup (pv 5)) (blkOk_by (own := [("function", 6)]) (N := nD) (sc := defScope sDue) (by decide +kernel)) (fun _ _ _ _ _ => pg_name (i := 6) scD.nd rfl (Or.inl rfl))
      (fun _ _ _ _ _ => by exact (pts_one (pt_cmpR (show OpR _ (compareOp .In) (rIn K false) from op_in_seq) (pv 1) (pe_ix (show IxR _ (rIxT K) from ix_tup) (pv 6) pe_int (fun _ _ => rfl)) (by rfl)))) (fun _ _ _ _ _ => pv 6)) pe_int (fun _ _ => rfl)))
    (pss_cons (ps_set (i := 8) scD.nd rfl (.inr rfl) (pe_ix (show IxR _ (rIxL K) from ix_list) (pe_lc (own := [("function", 6)]) (g := gName 6) (wi := iTup K (tVar 5)) rfl scD.nd (pi_tup (pv 5)) (blkOk_by (own := [("function", 6)]) (N := nD) (sc := defScope sDue) (by decide +kernel)) (fun _ _ _ _ _ => pg_name (i := 6) scD.nd rfl (Or.inl rfl))
      (fun _ _ _ _ _ => by exact (pts_one (pt_cmpR (show OpR _ (compareOp .In) (rIn K false) from op_in_seq) (pv 2) (pe_ix (show IxR _ (rIxT K) from ix_tup) (pv 6) pe_int (fun _ _ => rfl)) (by rfl)))) (fun _ _ _ _ _ => pv 6)) pe_int (fun _ _ => rfl)))
    (pss_cons (ps_if (pt_cmpR (op_eqD hu) (pv 7) (pv 8) (nomark _)) (pss_one (ps_ret (pv 0))) pss_nil)
    (pss_cons (ps_set (i := 9) scD.nd rfl (.inl rfl) (pe_callTy call_tuple_of (by rfl) T.zt (by decide +kernel) (pa_cons (pe_lc (own := [("output", 12)]) (g := gName 12) (wi := iTup K (tVar 4)) rfl scD.nd (pi_tup (pv 4)) (blkOk_by (own := [("output", 12)]) (N := nD) (sc := defScope sDue) (by decide +kernel)) (fun _ _ _ _ _ => pg_name (i := 12) scD.nd rfl (Or.inl rfl))
      (fun _ _ _ _ _ => by exact (pts_one (pt_cmpR (show OpR _ (compareOp .In) (rIn K false) from op_in_seq) (pv 12) (pe_op (show OpR _ (binaryOp .Add) (rCatA K) from op_catA) (pe_ix (show IxR _ (rIxT K) from ix_tup) (pv 7) pe_int (fun _ _ => rfl)) (pe_ix (show IxR _ (rIxT K) from ix_tup) (pv 8) pe_int (fun _ _ => rfl))) (by rfl)))) (fun _ _ _ _ _ => pv 12)) pa_nil)))
    (pss_cons (ps_set (i := 10) scD.nd rfl (.inl rfl) (pe_callTy call_tuple_of (by rfl) T.zt (by decide +kernel) (pa_cons (pe_lc (own := [("port", 13)]) (g := gName 13) (wi := iTup K (tVar 3)) rfl scD.nd (pi_tup (pv 3)) (blkOk_by (own := [("port", 13)]) (N := nD) (sc := defScope sDue) (by decide +kernel)) (fun _ _ _ _ _ => pg_name (i := 13) scD.nd rfl (Or.inl rfl))
      (fun _ _ _ _ _ => by exact (pts_one (pt_cmpR (show OpR _ (compareOp .In) (rIn K false) from op_in_seq) (pv 13) (pe_op (show OpR _ (binaryOp .Add) (rCatA K) from op_catA) (pe_ix (show IxR _ (rIxT K) from ix_tup) (pv 7) pe_int (fun _ _ => rfl)) (pe_ix (show IxR _ (rIxT K) from ix_tup) (pv 8) pe_int (fun _ _ => rfl))) (by rfl)))) (fun _ _ _ _ _ => pv 13)) pa_nil)))
    (pss_cons (ps_set (i := 11) scD.nd rfl (.inl rfl) (pe_lst pa_nil))
    (pss_cons (ps_for PassesOwn.never rfl (pi_tup (pv 5)) (pg_name (i := 6) scD.nd rfl (.inl rfl))
      (pss_one (ps_if (pt_cmpR op_in_seq (pe_ix ix_tup (pv 9) pe_int (fun _ _ => rfl)) (pe_ix ix_tup (pv 6) pe_int (fun _ _ => rfl)) (by rfl))
        (pss_one (ps_expr (pe_bm PySem.F.plainAttrs_list PySem.F.slot_list_append PySem.F.type_list_append mt_append (pv 11) (pa_cons (pe_tup (pa_cons (pv 9) (pa_cons (pv 10) pa_nil))) pa_nil))))
        (pss_one (ps_if (PW.pt (pw_and (pt_cmpR (op_neD hu) (pv 6) (pv 7) (nomark _)) (pw_and1 (pt_cmpR (op_neD hu) (pv 6) (pv 8) (nomark _)))))
          (pss_one (ps_expr (pe_bm PySem.F.plainAttrs_list PySem.F.slot_list_append PySem.F.type_list_append mt_append (pv 11) (pa_cons (pv 6) pa_nil)))) pss_nil)))))
    (pss_one (ps_ret (pe_tup (pa_cons (pv 3) (pa_cons (pv 4) (pa_cons (pe_callTy call_tuple_of (by rfl) T.zt (by decide +kernel) (pa_cons (pv 11) pa_nil)) pa_nil))))))))))))), ?_⟩
  have lt : ∀ {n : Nat}, n ≤ 100000 → n < sizeLine := fun h => by rw [sizeLine_eq]; omega
  have hal : as.length = g.prof.length := hst.1
  have hpl := ok.pl
  have hil := ok.il
  have hol := ok.ol
  have S0 : Same H H := Same.refl _
  refine ⟨_, rfl, v, _, rfl, hv, rfl, _, _, rfl, _, _, rfl, _, _, rfl, rfl, ?_⟩
  refine ⟨_, rfl, p, rfl, ⟨_, sqT_same S0 hp⟩, fun D1 hD1 => ?_⟩
  refine out_it (walk_tup (xs := as.map V.ref)) (fun m H' => Same H H' ∧ ∃ js : List Addr, H' D1 = some (.lst (js.map V.ref)) ∧ StepsAt K H js ((g.prof.take m).filter fun u => decide (a ∈ u.1))) ⟨upd_new hD1, [], upd_same, .nil⟩ (fun m H' _ q => sqT_same q.1 (sqT_same S0 hp)) ?_ ?_
  · rintro m x H5 H6 hm ⟨s5, js, e5, j5⟩ ⟨rfl, hx⟩
    rw [List.getElem?_map] at hx
    obtain ⟨c, hc, rfl⟩ := Option.map_eq_some_iff.mp hx
    obtain ⟨st, hs1, sa⟩ := hst.at hc
    obtain ⟨x, y, h1, h2, h3⟩ := (sa.same S0).same s5
    have hjl : (js.map V.ref).length < sizeLine := lt (by
      rw [List.length_map, j5.1]
      refine Nat.le_trans (List.length_filter_le _ _) ?_
      rw [List.length_take]
      omega)
    refine ⟨rfl, _, rfl, _, rfl, c, _, 0, _, rfl, rfl, h1, rfl, x, _, rfl, .inr h2, rfl, strs_flat _, _, rfl, ?_⟩
    show if inV (.str a) (st.1.map V.str) = true then _ else _
    rw [inV_strs, tk1 hs1, List.filter_append]
    by_cases ia : a ∈ st.1
    · rw [decide_eq_true ia]
      refine iteT ⟨_, rfl, _, e5, hjl, same_put s5 hD1, js ++ [c], by rw [upd_same, List.map_append]; rfl, ?_⟩
      rw [List.filter_cons_of_pos (by simp [ia]), List.filter_nil]
      exact j5.snoc sa
    · rw [decide_eq_false ia]
      refine iteF ⟨s5, js, e5, ?_⟩
      rw [List.filter_cons_of_neg (by simp [ia]), List.filter_nil, List.append_nil]
      exact j5
  rintro H1 ⟨tH1, js, e5, j5⟩
  rw [List.take_of_length_le (by rw [List.length_map]; omega)] at j5
  obtain ⟨rc1, erc1, mc1, ic1⟩ := with_ne ok ha
  rw [erc1] at j5
  obtain ⟨c1, jr, rfl⟩ : ∃ c r, js = c :: r := by
    cases js with
    | nil => cases j5.1
    | cons c r => exact ⟨c, r, rfl⟩
  have qc1 : StepAt K H c1 (withI g a) := j5.2 0 c1 _ rfl rfl
  refine ⟨D1, _, 0, _, rfl, rfl, .of e5, show atI ((((c1 :: jr) : List Addr).map V.ref)) 0 = some (.ref c1) by simp [atI, ixN], ?_⟩
  clear j5 e5
  refine ⟨_, rfl, p, rfl, ⟨_, sqT_same tH1 hp⟩, fun D2 hD2 => ?_⟩
  refine out_it (walk_tup (xs := as.map V.ref)) (fun m H' => Same H1 H' ∧ ∃ js : List Addr, H' D2 = some (.lst (js.map V.ref)) ∧ StepsAt K H js ((g.prof.take m).filter fun u => decide (b ∈ u.1))) ⟨upd_new hD2, [], upd_same, .nil⟩ (fun m H' _ q => sqT_same q.1 (sqT_same tH1 hp)) ?_ ?_
  · rintro m x H5 H6 hm ⟨s5, js, e5, j5⟩ ⟨rfl, hx⟩
    rw [List.getElem?_map] at hx
    obtain ⟨c, hc, rfl⟩ := Option.map_eq_some_iff.mp hx
    obtain ⟨st, hs1, sa⟩ := hst.at hc
    obtain ⟨x, y, h1, h2, h3⟩ := (sa.same tH1).same s5
    have hjl : (js.map V.ref).length < sizeLine := lt (by
      rw [List.length_map, j5.1]
      refine Nat.le_trans (List.length_filter_le _ _) ?_
      rw [List.length_take]
      omega)
    refine ⟨rfl, _, rfl, _, rfl, c, _, 0, _, rfl, rfl, h1, rfl, x, _, rfl, .inr h2, rfl, strs_flat _, _, rfl, ?_⟩
    show if inV (.str b) (st.1.map V.str) = true then _ else _
    rw [inV_strs, tk1 hs1, List.filter_append]
    by_cases ia : b ∈ st.1
    · rw [decide_eq_true ia]
      refine iteT ⟨_, rfl, _, e5, hjl, same_put s5 hD2, js ++ [c], by rw [upd_same, List.map_append]; rfl, ?_⟩
      rw [List.filter_cons_of_pos (by simp [ia]), List.filter_nil]
      exact j5.snoc sa
    · rw [decide_eq_false ia]
      refine iteF ⟨s5, js, e5, ?_⟩
      rw [List.filter_cons_of_neg (by simp [ia]), List.filter_nil, List.append_nil]
      exact j5
  rintro H2 ⟨tH2, js, e5, j5⟩
  rw [List.take_of_length_le (by rw [List.length_map]; omega)] at j5
  obtain ⟨rc2, erc2, mc2, ic2⟩ := with_ne ok hb
  rw [erc2] at j5
  obtain ⟨c2, jr, rfl⟩ : ∃ c r, js = c :: r := by
    cases js with
    | nil => cases j5.1
    | cons c r => exact ⟨c, r, rfl⟩
  have qc2 : StepAt K H c2 (withI g b) := j5.2 0 c2 _ rfl rfl
  refine ⟨D2, _, 0, _, rfl, rfl, .of e5, show atI ((((c2 :: jr) : List Addr).map V.ref)) 0 = some (.ref c2) by simp [atI, ixN], ?_⟩
  clear j5 e5
  have S2 := tH1.trans tH2
  have n1 := ok.fn mc1
  have n2 := ok.fn mc2
  refine ⟨_, rfl, _, rfl, fncD (withI g a), fncD (withI g b), (qc1.same S2).dp, (qc2.same S2).dp, fncD_shaped n1, fncD_shaped n2, _, rfl, ?_⟩
  rw [fncD_eqv]
  by_cases heq : withI g a = withI g b
  · rw [decide_eq_true heq]
    refine iteT ⟨_, rfl, k v H2 S2 ?_⟩
    unfold dueI
    rw [if_pos heq]
    exact hI.same S2
  rw [decide_eq_false heq]
  refine iteF ?_
  refine ⟨_, rfl, o, rfl, ⟨_, sqT_same S2 ho.sq⟩, fun D3 hD3 => ?_⟩
  refine out_it (walk_tup (xs := g.outs.map V.str)) (fun m H' => Same H2 H' ∧ H' D3 = some (.lst (((g.outs.take m).filter (fun x => decide (x ∈ (withI g a).1 ++ (withI g b).1))).map V.str))) ⟨upd_new hD3, upd_same⟩ (fun m H' _ q => sqT_same q.1 (sqT_same S2 ho.sq)) ?_ ?_
  · rintro m x H5 H6 hm ⟨s5, a5⟩ ⟨rfl, hx⟩
    rw [List.getElem?_map] at hx
    obtain ⟨x, hxm, rfl⟩ := Option.map_eq_some_iff.mp hx
    obtain ⟨x1, y1, h1, h2, h3⟩ := (qc1.same S2).same s5
    obtain ⟨x2, y2, g1, g2, g3⟩ := (qc2.same S2).same s5
    refine ⟨rfl, _, rfl, _, rfl, c1, _, 0, _, rfl, rfl, h1, rfl, _, rfl, c2, _, 0, _, rfl, rfl, g1, rfl, ?_⟩
    refine catA_of h2 g2 (Nat.le_of_lt (lt (by rw [List.length_map, List.length_map]; have := ok.sl mc1; have := ok.sl mc2; omega))) fun c H7 s7 hc => ?_
    rw [← List.map_append] at hc
    refine ⟨c, _, rfl, .inr hc, rfl, strs_flat _, _, rfl, ?_⟩
    show if inV (.str x) (((withI g a).1 ++ (withI g b).1).map V.str) = true then _ else _
    rw [inV_strs]
    by_cases hm : x ∈ (withI g a).1 ++ (withI g b).1
    · rw [decide_eq_true hm]
      refine iteT ⟨_, rfl, _, s7 _ _ a5, lt ?_, same_put (s5.trans s7) hD3, ?_⟩
      · rw [List.length_map]
        refine Nat.le_trans (List.length_filter_le _ _) ?_
        rw [List.length_take]
        omega
      · rw [upd_same, tk1 hxm, List.filter_append, List.filter_cons_of_pos (by exact decide_eq_true hm)]
        simp
    · rw [decide_eq_false hm]
      refine iteF ⟨s5.trans s7, ?_⟩
      rw [s7 _ _ a5, tk1 hxm, List.filter_append, List.filter_cons_of_neg (by rw [decide_eq_false hm]; exact Bool.false_ne_true)]
      simp
  rintro H3 ⟨tH3, aH3⟩
  rw [List.take_of_length_le (by rw [List.length_map]; exact Nat.le_refl _)] at aH3
  refine ⟨D3, _, rfl, .inl ⟨.of aH3, fun W1 hW1 => ?_⟩⟩
  have gW1 := upd_same (H := H3) (a := W1) (o := HO.tup ((g.outs.filter fun x => decide (x ∈ (withI g a).1 ++ (withI g b).1)).map V.str))
  have t4 := upd_new (o := HO.tup ((g.outs.filter fun x => decide (x ∈ (withI g a).1 ++ (withI g b).1)).map V.str)) hW1
  generalize upd H3 W1 (HO.tup ((g.outs.filter fun x => decide (x ∈ (withI g a).1 ++ (withI g b).1)).map V.str)) = H4 at gW1 t4 ⊢
  have S4 := S2.trans (tH3.trans t4)
  refine ⟨_, rfl, i, rfl, ⟨_, sqT_same S4 hi⟩, fun D5 hD5 => ?_⟩
  refine out_it (walk_tup (xs := g.ins.map V.str)) (fun m H' => Same H4 H' ∧ H' D5 = some (.lst (((g.ins.take m).filter (fun x => decide (x ∈ (withI g a).2 ++ (withI g b).2))).map V.str))) ⟨upd_new hD5, upd_same⟩ (fun m H' _ q => sqT_same q.1 (sqT_same S4 hi)) ?_ ?_
  · rintro m x H5 H6 hm ⟨s5, a5⟩ ⟨rfl, hx⟩
    rw [List.getElem?_map] at hx
    obtain ⟨x, hxm, rfl⟩ := Option.map_eq_some_iff.mp hx
    obtain ⟨x1, y1, h1, h2, h3⟩ := (qc1.same S4).same s5
    obtain ⟨x2, y2, g1, g2, g3⟩ := (qc2.same S4).same s5
    refine ⟨rfl, _, rfl, _, rfl, c1, _, 1, _, rfl, rfl, h1, rfl, _, rfl, c2, _, 1, _, rfl, rfl, g1, rfl, ?_⟩
    refine catA_of h3 g3 (Nat.le_of_lt (lt (by rw [List.length_map, List.length_map]; have := ok.sl mc1; have := ok.sl mc2; omega))) fun c H7 s7 hc => ?_
    rw [← List.map_append] at hc
    refine ⟨c, _, rfl, .inr hc, rfl, strs_flat _, _, rfl, ?_⟩
    show if inV (.str x) (((withI g a).2 ++ (withI g b).2).map V.str) = true then _ else _
    rw [inV_strs]
    by_cases hm : x ∈ (withI g a).2 ++ (withI g b).2
    · rw [decide_eq_true hm]
      refine iteT ⟨_, rfl, _, s7 _ _ a5, lt ?_, same_put (s5.trans s7) hD5, ?_⟩
      · rw [List.length_map]
        refine Nat.le_trans (List.length_filter_le _ _) ?_
        rw [List.length_take]
        omega
      · rw [upd_same, tk1 hxm, List.filter_append, List.filter_cons_of_pos (by exact decide_eq_true hm)]
        simp
    · rw [decide_eq_false hm]
      refine iteF ⟨s5.trans s7, ?_⟩
      rw [s7 _ _ a5, tk1 hxm, List.filter_append, List.filter_cons_of_neg (by rw [decide_eq_false hm]; exact Bool.false_ne_true)]
      simp
  rintro H8 ⟨tH8, aH8⟩
  rw [List.take_of_length_le (by rw [List.length_map]; exact Nat.le_refl _)] at aH8
  refine ⟨D5, _, rfl, .inl ⟨.of aH8, fun W2 hW2 => ?_⟩⟩
  have gW2 := upd_same (H := H8) (a := W2) (o := HO.tup ((g.ins.filter fun x => decide (x ∈ (withI g a).2 ++ (withI g b).2)).map V.str))
  have t9 := upd_new (o := HO.tup ((g.ins.filter fun x => decide (x ∈ (withI g a).2 ++ (withI g b).2)).map V.str)) hW2
  generalize upd H8 W2 (HO.tup ((g.ins.filter fun x => decide (x ∈ (withI g a).2 ++ (withI g b).2)).map V.str)) = H9 at gW2 t9 ⊢
  have S9 := S4.trans (tH8.trans t9)
  have gW1' := t9 _ _ (tH8 _ _ gW1)
  obtain ⟨W, hW⟩ : ∃ W, W = dueW g (withI g a) (withI g b) := ⟨_, rfl⟩
  have gA : H9 W1 = some (.tup (W.1.map V.str)) := by rw [hW]; exact gW1'
  have gB : H9 W2 = some (.tup (W.2.map V.str)) := by rw [hW]; exact gW2
  have aW : a ∈ W.1 := by
    rw [hW]
    exact List.mem_filter.mpr ⟨ha, decide_eq_true (List.mem_append_left _ ic1)⟩
  have neW : W.1 ≠ [] := fun e => by
    rw [e] at aW
    cases aW
  have atW := at0 neW
  -- the loop
  refine ⟨small1 (by show 0 ≤ 8; decide), fun Fo hFo => ?_⟩
  refine ⟨_, rfl, p, rfl, ⟨_, sqT_same (S9.trans (upd_new hFo)) hp⟩, for_tup (K := K) (a := p) (xs := as.map V.ref) (fun m σ H' => ∃ u6, σ = [some (.ref v), some (.str a), some (.str b), some (.ref i), some (.ref o), some (.ref p), u6, some (.ref c1), some (.ref c2), some (.ref W1), some (.ref W2), some (.ref Fo), none, none] ∧ Same H9 H' ∧
      ∃ ks : List Addr, H' Fo = some (.lst (ks.map V.ref)) ∧ StepsAt K H' ks ((g.prof.take m).flatMap (dueStep W (withI g a) (withI g b))) ∧ ks.length ≤ m) ⟨_, rfl, upd_new hFo, [], upd_same, .nil, Nat.zero_le _⟩ (fun m σ H' _ q => by
        obtain ⟨_, _, s, _⟩ := q
        exact sqT_same (S9.trans s) hp) ?turn ?done⟩
  case turn =>
    rintro m x σ H10 hx ⟨u6, rfl, s10, ks, e10, k10, hkm⟩
    rw [List.getElem?_map] at hx
    obtain ⟨c, hc, rfl⟩ := Option.map_eq_some_iff.mp hx
    obtain ⟨st, hs1, sa⟩ := hst.at hc
    have S10 := S9.trans s10
    obtain ⟨x, y, h1, h2, h3⟩ := sa.same S10
    have hm6 : m < 6 := by
      have := (List.getElem?_eq_some_iff.mp hc).1
      omega
    have nst := ok.fn (List.mem_of_getElem? hs1)
    have ds := (sa.same S10).dp
    have put : (g.prof.take (m + 1)).flatMap (dueStep W (withI g a) (withI g b)) = (g.prof.take m).flatMap (dueStep W (withI g a) (withI g b)) ++ dueStep W (withI g a) (withI g b) st := by
      rw [tk1 hs1, List.flatMap_append]
      simp
    have hkl : (ks.map V.ref).length < sizeLine := lt (by rw [List.length_map]; omega)
    refine ⟨_, rfl, W1, _, 0, _, rfl, rfl, .of (s10 _ _ gA), atW, _, rfl, c, _, 0, _, rfl, rfl, h1, rfl, x, _, rfl, .inr h2, rfl, strs_flat _, _, rfl, ?_⟩
    show if inV (.str (W.1.headD Str.empty)) (st.1.map V.str) = true then _ else _
    rw [inV_strs]
    by_cases hin : W.1.headD Str.empty ∈ st.1
    · rw [decide_eq_true hin]
      refine iteT ⟨_, rfl, .inl ⟨rfl, _, .of e10⟩, _, rfl, _, rfl, small1 (by show 2 ≤ 8; decide), fun t ht => ?_⟩
      have s11 := upd_new (o := HO.tup [V.ref W1, V.ref W2]) ht
      have sW : StepAt K (upd H10 t (HO.tup [V.ref W1, V.ref W2])) t W := ⟨W1, W2, .of upd_same, .of (s11 _ _ (s10 _ _ gA)), .of (s11 _ _ (s10 _ _ gB))⟩
      have e11 := s11 _ _ e10
      have k11 := k10.same s11
      generalize upd H10 t (HO.tup [V.ref W1, V.ref W2]) = H11 at s11 sW e11 k11 ⊢
      refine ⟨Fo, _, _, rfl, rfl, e11, hkl, _, rfl, same_put (s10.trans s11) hFo, ks ++ [t], by rw [upd_same, List.map_append]; rfl, ?_, by rw [List.length_append]; show _ + 1 ≤ _; omega⟩
      have ed : dueStep W (withI g a) (withI g b) st = [W] := by
        unfold dueStep
        rw [if_pos hin]
      rw [put, ed]
      exact (k11.snoc sW).updL e11
    rw [decide_eq_false hin]
    refine iteF ⟨_, rfl, _, rfl, fncD st, fncD (withI g a), ds, (qc1.same S10).dp, fncD_shaped nst, fncD_shaped n1, _, rfl, ?_⟩
    rw [fncD_eqv]
    by_cases h1' : st = withI g a
    · rw [decide_eq_true h1']
      refine iteF ⟨_, rfl, s10, ks, e10, ?_, by omega⟩
      have ed : dueStep W (withI g a) (withI g b) st = [] := by
        unfold dueStep
        rw [if_neg hin, if_pos h1']
      rw [put, ed, List.append_nil]
      exact k10
    rw [decide_eq_false h1']
    refine iteT ⟨_, rfl, _, rfl, fncD st, fncD (withI g b), ds, (qc2.same S10).dp, fncD_shaped nst, fncD_shaped n2, _, rfl, ?_⟩
    rw [fncD_eqv]
    by_cases h2' : st = withI g b
    · rw [decide_eq_true h2']
      refine iteF ⟨_, rfl, s10, ks, e10, ?_, by omega⟩
      have ed : dueStep W (withI g a) (withI g b) st = [] := by
        unfold dueStep
        rw [if_neg hin, if_neg h1', if_pos h2']
      rw [put, ed, List.append_nil]
      exact k10
    rw [decide_eq_false h2']
    refine iteT ⟨_, rfl, .inl ⟨rfl, _, .of e10⟩, _, rfl, Fo, _, _, rfl, rfl, e10, hkl, _, rfl, same_put s10 hFo, ks ++ [c], by rw [upd_same, List.map_append]; rfl, ?_, by rw [List.length_append]; show _ + 1 ≤ _; omega⟩
    have ed : dueStep W (withI g a) (withI g b) st = [st] := by
      unfold dueStep
      rw [if_neg hin, if_neg h1', if_neg h2']
    rw [put, ed]
    exact (k10.snoc (sa.same S10)).updL e10
  rintro σ H10 ⟨u6, rfl, s10, ks, e10, k10, hkm⟩
  rw [List.take_of_length_le (by rw [List.length_map]; omega)] at k10
  refine ⟨_, rfl, _, rfl, _, rfl, Fo, _, rfl, .inl ⟨.of e10, fun p2 hp2 => ⟨small1 (by show 3 ≤ 8; decide), fun v2 hv2 => ?_⟩⟩⟩
  have t11 := (upd_new (o := HO.tup (ks.map V.ref)) hp2).trans (upd_new (o := HO.tup [V.ref i, V.ref o, V.ref p2]) hv2)
  have S11 := S9.trans (s10.trans t11)
  refine k v2 _ S11 ?_
  unfold dueI
  rw [if_neg heq, ← hW]
  exact ⟨i, o, p2, ks, .of upd_same, sqT_same S11 hi, ixT_same S11 ho, .of ((upd_new hv2) _ _ upd_same), k10.same t11⟩
end
end K71
/-! OwnI: a def with the cell __class__ and cells of its own (parameters that a comprehension reads). -/
namespace Own
open PySem PySem.Spec PyProof.Rows L2 NdefX ClX StX
theorem cells_acc : ∀ (names : List (Str × NameKind)) (n : Nat) (acc : List (Str × Addr)), cellsFrom n names acc = cellsFrom n names [] ++ acc
  | [], _, _ => rfl
  | (x, k) :: r, n, acc => by
    unfold cellsFrom
    split
    · rw [cells_acc r (n + 1) ((x, n) :: acc), cells_acc r (n + 1) [(x, n)], List.append_assoc]
      rfl
    · exact cells_acc r n acc
section
variable {M : Model} {A : Around} {E : Value → Shared → Prop} {s₀ s : Shared} {m cm : Str → Option Value} {env : Env} {cs : List (Str × Addr)}
theorem put_local {n : Str} {v : Value} {Q : Unit → Shared → Prop} (x : InCallC s₀ env.locals m cs cm s) (hk : env.scope.kind = .function) (hl : env.kindOf n = some .local) (q : ∀ t, InCallC s₀ env.locals (fun y => if y = n then some v else m y) cs cm t → Q () t) :
    wpAny M A (storeName env n v) Q E s := by
  have old := x.toInCall.fresh
  obtain ⟨g, tk, es⟩ := x.toInCall.same
  refine wpAny_storeName_local hl x.toInCall.ns (fun h' hn sb => q _ ⟨⟨?_, hn, ?_, old⟩, ?_, x.apart, x.above⟩) (by rw [hk]; rfl)
  · rw [es]
    exact ⟨h', _, rfl⟩
  · intro b o e
    have lt := Nat.lt_of_lt_of_le (Heap.lt_size e) old
    exact sb.extBut b o (Nat.ne_of_lt lt) (x.toInCall.keep b o e)
  · intro k c e
    have ab := x.above k c (mem_of_lookup e)
    exact (x.cell k c e).sameBut sb (Nat.ne_of_gt ab)
theorem put_cell {n : Str} {c : Addr} {v : Value} {Q : Unit → Shared → Prop} (x : InCallC s₀ env.locals m cs cm s) (hk : env.scope.kind = .function) (hl : env.kindOf n = some .cell) (hc : env.cells.lookup n = some c) (hc' : cs.lookup n = some c)
    (q : ∀ t, InCallC s₀ env.locals m cs (fun y => if y = n then some v else cm y) t → Q () t) : wpAny M A (storeName env n v) Q E s := by
  have ab := x.above n c (mem_of_lookup hc')
  obtain ⟨g, tk, es⟩ := x.toInCall.same
  refine wpAny_storeName_cell hk hl hc (x.cell n c hc') fun h' hn sb => q _ ⟨⟨?_, ?_, ?_, x.toInCall.fresh⟩, ?_, x.apart, x.above⟩
  · rw [es]
    exact ⟨h', _, rfl⟩
  · exact x.toInCall.ns.sameBut sb (Nat.ne_of_lt ab)
  · intro b o e
    have lt := Nat.lt_trans (Nat.lt_of_lt_of_le (Heap.lt_size e) x.toInCall.fresh) ab
    exact sb.extBut b o (Nat.ne_of_lt lt) (x.toInCall.keep b o e)
  · intro k d e
    by_cases hkn : k = n
    · subst hkn
      rw [hc'] at e
      cases e
      rw [if_pos rfl]
      exact hn
    · rw [if_neg hkn]
      refine (x.cell k d e).sameBut sb fun z => ?_
      rw [z] at e
      exact hkn (name_of_addr x.apart (mem_of_lookup e) (mem_of_lookup hc'))
theorem put_all (f : Str × Value → PUnit → Sem (ForInStep PUnit)) (hf : ∀ n v u, f (n, v) u = (do storeName env n v; pure (.yield ⟨⟩))) (hk : env.scope.kind = .function) (sub : ∀ n c, cs.lookup n = some c → env.cells.lookup n = some c) :
    ∀ (bs : List (Str × Value)) (m cm : Str → Option Value) (s : Shared) (Q : PUnit → Shared → Prop), InCallC s₀ env.locals m cs cm s → (∀ x ∈ bs, env.kindOf x.1 = some .local ∨ (env.kindOf x.1 = some .cell ∧ ∃ c, cs.lookup x.1 = some c)) →
      (∀ t, InCallC s₀ env.locals (bindL env.kindOf bs m) cs (bindC env.kindOf bs cm) t → Q ⟨⟩ t) → wpAny M A (forIn bs ⟨⟩ f) Q E s
  | [], m, cm, s, Q, x, _, q => by
    rw [List.forIn_nil]
    exact wpAny_pure (q s x)
  | (n, v) :: r, m, cm, s, Q, x, kinds, q => by
    have tl : ∀ y ∈ r, env.kindOf y.1 = some .local ∨ (env.kindOf y.1 = some .cell ∧ ∃ c, cs.lookup y.1 = some c) := fun y hy => kinds y (List.mem_cons_of_mem _ hy)
    rw [List.forIn_cons, hf]
    rcases kinds (n, v) List.mem_cons_self with hl | ⟨hl, c, hc⟩
    · refine wpAny_bind (wpAny_bind (put_local x hk hl fun t y => wpAny_pure (put_all f hf hk sub r _ _ t Q y tl fun u z => q u ?_)))
      rw [show bindL env.kindOf ((n, v) :: r) m = _ from rfl, show bindC env.kindOf ((n, v) :: r) cm = _ from rfl]
      unfold bindL bindC
      rw [if_pos hl, if_pos hl]
      exact z
    · have nl : ¬ env.kindOf n = some .local := by rw [hl]; decide
      refine wpAny_bind (wpAny_bind (put_cell x hk hl (sub n c hc) hc fun t y => wpAny_pure (put_all f hf hk sub r _ _ t Q y tl fun u z => q u ?_)))
      unfold bindL bindC
      rw [if_neg nl, if_neg nl]
      exact z
end
theorem look_app {α : Type} : ∀ {l r : List (Str × α)} {n : Str} {c : α}, l.lookup n = some c → (l ++ r).lookup n = some c
  | (k, v) :: l, r, n, c, h => by
    rw [List.lookup_cons] at h
    rw [List.cons_append, List.lookup_cons]
    cases hb : n == k with
    | true => rw [hb] at h; exact h
    | false =>
      rw [hb] at h
      exact look_app h
/-- its names: the parameters, then __class__, then its locals; parameters may be cells -/
structure DScope (N ps : List Str) (sc : Scope) : Prop where
  kind : sc.kind = .function
  co : sc.isCoroutine = false
  gen : sc.isGenerator = false
  nd : N.Nodup
  pre : N.take (ps.length + 1) = ps ++ (["__class__"] : List Str)
  par : ∀ x ∈ ps, sc.names.lookup x = some .local ∨ sc.names.lookup x = some .cell
  free : ∀ y ∈ sc.names, y.2 = .free → y.1 = "__class__"
  frk : sc.names.lookup ("__class__" : Str) = some .free
  noc : ∀ y ∈ sc.names, y.2 = .cell → y.1 ≠ "__class__"
def dscB (N ps : List Str) (sc : Scope) : Bool :=
  decide (sc.kind = .function) && !sc.isCoroutine && !sc.isGenerator && decide N.Nodup && decide (N.take (ps.length + 1) = ps ++ (["__class__"] : List Str)) && ps.all (fun x => decide (sc.names.lookup x = some .local) || decide (sc.names.lookup x = some .cell)) && sc.names.all (fun y => !decide (y.2 = .free) || decide (y.1 = "__class__")) && decide (sc.names.lookup ("__class__" : Str) = some .free) && sc.names.all (fun y => !decide (y.2 = .cell) || decide (y.1 ≠ "__class__"))
theorem dscope_by {N ps : List Str} {sc : Scope} (h : dscB N ps sc = true) : DScope N ps sc := by
  unfold dscB at h
  simp only [Bool.and_eq_true, Bool.not_eq_true', decide_eq_true_eq, List.all_eq_true, Bool.or_eq_true, decide_eq_false_iff_not] at h
  obtain ⟨⟨⟨⟨⟨⟨⟨⟨h1, h2⟩, h3⟩, h4⟩, h5⟩, h6⟩, h7⟩, h8⟩, h9⟩ := h
  exact ⟨h1, h2, h3, h4, h5, h6, fun y hy e => (h7 y hy).elim (fun z => absurd e z) id, h8, fun y hy e => (h9 y hy).elim (fun z => absurd e z) id⟩
abbrev envD (F : NF) (f L : Addr) : Env := PySem.W.envX F.qual F.scope L f (.ref F.c) (cellsFrom (L + 1) F.scope.names [] ++ F.cl)
def dcx (CX : CXT) (P : Program) (w : World) (K : PySem.W.Frag) (mg : Str → Option Value) (base : Heap) (N : List Str) (F : NF) (f : Addr) (A : Around) (outer : List Env) (s : Shared) (H : Hp) (E : XK) : Cx :=
  { ncx CX P w K mg base N F f A outer s H E with A := A.deeper (envD F f s.heap.objs.size), env := envD F f s.heap.objs.size, stack := envD F f s.heap.objs.size :: outer, xe := fun e s' => wpAny (model P w) (A.deeper (envD F f s.heap.objs.size)) (leaving (envD F f s.heap.objs.size) e) (fun _ s'' => CX outer H s E e s'') (fun e' s'' => CX outer H s E e' s'') s' }
section
variable {CX : CXT} {P : Program} {w : World} {K : PySem.W.Frag} {mg : Str → Option Value} {base : Heap} {N ps : List Str} {F : NF} {f cc D : Addr} {A : Around} {outer : List Env} {s s1 : Shared} {H : Hp} {E : XK} {us : List Value} {vs : List V}
theorem inv_startD (S : DScope N ps F.scope) (hd : A.handled = none) (e0 : Env0 P w K mg base A outer s H) (hl : vs.length = ps.length) (r : Vals vs us) (hcl : F.cl = [(("__class__" : Str), cc)]) (hc0 : H cc = none) (hc1 : s.heap.IsCell cc (some (.ref D)))
    (x : InCallC s s.heap.objs.size (bindL (envD F f s.heap.objs.size).kindOf (ps.zip us) fun _ => none) (cellsFrom (s.heap.objs.size + 1) F.scope.names []) (bindC (envD F f s.heap.objs.size).kindOf (ps.zip us) fun _ => none) s1) :
    Inv (dcx CX P w K mg base N F f A outer s H E) [] (startF N vs [some (.ref D)]) H s1 := by
  have hpl : ps.length + 1 ≤ N.length := by
    have q := congrArg List.length S.pre
    rw [List.length_take, List.length_append] at q
    have : (["__class__"] : List Str).length = 1 := rfl
    omega
  obtain ⟨h1, tk, rfl, hk⟩ := x.done
  have noA : ∀ b : Addr, b ∉ (dcx CX P w K mg base N F f A outer s H E).ex := fun b z => absurd (show b ∈ ([] : List Addr) from z) (by simp)
  have ccell : h1.IsCell cc (some (.ref D)) := by
    obtain ⟨o, ho, hd⟩ := hc1
    exact ⟨o, hk _ _ ho, hd⟩
  have cclt : cc < s.heap.objs.size := by
    obtain ⟨o, ho, _⟩ := hc1
    exact Heap.lt_size ho
  -- the two kinds of cells
  have split : ∀ y c, (cellsFrom (s.heap.objs.size + 1) F.scope.names [] ++ F.cl).lookup y = some c → (cellsFrom (s.heap.objs.size + 1) F.scope.names []).lookup y = some c ∨ (y = "__class__" ∧ c = cc) := fun y c e => by
    rw [List.lookup_append] at e
    cases q : (cellsFrom (s.heap.objs.size + 1) F.scope.names []).lookup y with
    | some d =>
      rw [q] at e
      exact .inl e
    | none =>
      rw [q, hcl] at e
      have e : ([(("__class__" : Str), cc)] : List (Str × Addr)).lookup y = some c := e
      rw [List.lookup_cons] at e
      cases hb : y == ("__class__" : Str) with
      | true =>
        rw [hb] at e
        cases e
        exact .inr ⟨beq_iff_eq.mp hb, rfl⟩
      | false =>
        rw [hb] at e
        cases e
  have noown : (cellsFrom (s.heap.objs.size + 1) F.scope.names []).lookup ("__class__" : Str) = none := by
    cases q : (cellsFrom (s.heap.objs.size + 1) F.scope.names []).lookup ("__class__" : Str) with
    | none => rfl
    | some d =>
      exfalso
      have z : ∀ (names : List (Str × NameKind)) (n : Nat) (acc : List (Str × Addr)) (y : Str) (d : Addr), (y, d) ∈ cellsFrom n names acc → (y, d) ∈ acc ∨ (y, NameKind.cell) ∈ names := by
        intro names
        induction names with
        | nil => exact fun n acc y d h => .inl h
        | cons p r ih =>
          obtain ⟨a, k⟩ := p
          intro n acc y d h
          unfold cellsFrom at h
          split at h
          · rename_i hkc
            rcases ih _ _ _ _ h with q | q
            · rcases List.mem_cons.mp q with q | q
              · cases q
                exact .inr (by rw [eq_of_beq hkc]; exact List.mem_cons_self)
              · exact .inl q
            · exact .inr (List.mem_cons_of_mem _ q)
          · rcases ih _ _ _ _ h with q | q
            · exact .inl q
            · exact .inr (List.mem_cons_of_mem _ q)
      rcases z _ _ _ _ _ (mem_of_lookup q) with q | q
      · cases q
      · exact S.noc _ q rfl rfl
  have mine : (cellsFrom (s.heap.objs.size + 1) F.scope.names [] ++ F.cl).lookup ("__class__" : Str) = some cc := by
    rw [List.lookup_append, noown, hcl]
    simp [List.lookup]
  have ab : ∀ y c, (cellsFrom (s.heap.objs.size + 1) F.scope.names []).lookup y = some c → s.heap.objs.size < c := fun y c e => x.above y c (mem_of_lookup e)
  refine ⟨⟨e0.mod, S.kind, rfl, rfl, Nat.le_refl _, fun y z c e1 e2 => ?_, fun y hy => ?_, fun y c z _ => ?_, fun _ => hd, Around.frames_deeper e0.frames, .inr ⟨rfl, rfl⟩, fun b z => absurd z (noA b), e0.bs, e0.bsz, fun b _ _ => noA b, fun b z => absurd z (noA b), e0.funs, e0.frf⟩,
    rfl, e0.bare, Un.kept hk, ⟨_, x.toInCall.ns, fun i y v e1 e2 e3 => ?_⟩, fun y c e => ?_, e0.hok.fresh (Nat.le_refl _), fun y c e => ?_, fun p hp => absurd (show p ∈ ([] : List (Addr × Obj)) from hp) (by simp), e0.hok.kept hk, ?_⟩
  · rcases split y c e1 with q1 | ⟨q1, q2⟩ <;> rcases split z c e2 with p1 | ⟨p1, p2⟩
    · exact name_of_addr x.apart (mem_of_lookup q1) (mem_of_lookup p1)
    · have := ab _ _ q1
      rw [p2] at this
      exact absurd (Nat.lt_trans cclt this) (Nat.lt_irrefl _)
    · have := ab _ _ p1
      rw [q2] at this
      exact absurd (Nat.lt_trans cclt this) (Nat.lt_irrefl _)
    · rw [q1, p1]
  · have hy : F.scope.names.lookup y = some .cell ∨ F.scope.names.lookup y = some .free := hy
    rcases hy with hy | hy
    · obtain ⟨c, e⟩ := cell_has (n := s.heap.objs.size + 1) hy
      exact ⟨c, look_app e⟩
    · have e : y = "__class__" := S.free _ (mem_of_lookup hy) rfl
      exact ⟨cc, by rw [e]; exact mine⟩
  · have z : false = true := z
    cases z
  · have e1 : N[i]? = some y := e1
    unfold startF at e2
    by_cases h1 : i < ps.length
    · have hq : (ps ++ (["__class__"] : List Str))[i]? = some y := by
        rw [← S.pre, List.getElem?_take_of_lt (by omega)]
        exact e1
      rw [List.getElem?_append_left h1] at hq
      rw [List.getElem?_append_left (by rw [List.length_map]; omega), List.getElem?_map] at e2
      obtain ⟨a, ha, ea⟩ := Option.map_eq_some_iff.mp e2
      cases ea
      obtain ⟨u, hu, rv⟩ := r.get ha
      have ndP : ps.Nodup := by
        have q := S.nd.sublist (List.take_sublist (ps.length + 1) N)
        rw [S.pre] at q
        exact (List.nodup_append.mp q).1
      refine ⟨u, rv, ?_⟩
      rcases S.par y (List.mem_of_getElem? hq) with k | k
      · exact .inl ⟨k, bindL_get ndP hq hu k⟩
      · obtain ⟨c, e⟩ := cell_has (n := s.heap.objs.size + 1) k
        refine .inr ⟨.inl k, c, look_app e, ?_⟩
        have q := x.cell y c e
        rw [bindC_get ndP hq hu (by show F.scope.names.lookup y ≠ _; rw [k]; decide)] at q
        exact q
    · rw [List.getElem?_append_right (by rw [List.length_map]; omega), List.length_map, hl] at e2
      by_cases h2 : i = ps.length
      · have hq : (ps ++ (["__class__"] : List Str))[i]? = some y := by
          rw [← S.pre, List.getElem?_take_of_lt (by omega)]
          exact e1
        rw [h2, List.getElem?_append_right (Nat.le_refl _), Nat.sub_self] at hq
        rw [h2, Nat.sub_self] at e2
        cases hq
        cases e2
        exact ⟨.ref D, rfl, .inr ⟨.inr S.frk, cc, mine, ccell⟩⟩
      · obtain ⟨j, hj⟩ : ∃ j, i - ps.length = j + 1 := ⟨i - ps.length - 1, by omega⟩
        rw [hj, List.singleton_append, List.getElem?_cons_succ, List.getElem?_replicate] at e2
        split at e2 <;> cases e2
  · rcases split y c e with q | ⟨q1, q2⟩
    · exact ⟨_, x.cell y c q⟩
    · exact ⟨_, by rw [q2]; exact ccell⟩
  · rcases split y c e with q | ⟨q1, q2⟩
    · exact e0.hok.fresh (Nat.le_of_lt (ab y c q))
    · rw [q2]
      exact hc0
  · unfold startF
    show _ = N.length
    rw [List.length_append, List.length_append, List.length_map, List.length_replicate]
    have : ([some (.ref D)] : List (Option V)).length = 1 := rfl
    omega
theorem env_clo {M : Model} {B : Around} {E' : Value → Shared → Prop} {binds : List (Str × Value)} {Q : Env → Shared → Prop} (S : DScope N ps F.scope) (hkind : ∀ x ∈ binds, F.scope.names.lookup x.1 = some .local ∨ F.scope.names.lookup x.1 = some .cell)
    (q : ∀ t, InCallC s s.heap.objs.size (bindL (envD F f s.heap.objs.size).kindOf binds fun _ => none) (cellsFrom (s.heap.objs.size + 1) F.scope.names []) (bindC (envD F f s.heap.objs.size).kindOf binds fun _ => none) t → Q (envD F f s.heap.objs.size) t) :
    wpAny M B (newFunctionEnv F.scope mainGlobals F.cl binds (F.qual ++ ".<locals>.") (some f) (.ref F.c) none builtinsNs) Q E' s := by
  simp only [newFunctionEnv, Option.isSome_none, Bool.false_eq_true, if_false]
  refine wpAny_bind (wpAny_alloc (wpAny_bind (wpAny_layCells _ (fun name kind cells => by cases z : kind == NameKind.cell <;> simp [z]) _ _ _ _ ?_)))
  have cok := cellsFrom_ok F.scope.names (s.heap.push { cls := .type "frame", data := .dict #[] }) (s.heap.objs.size + 1) [] ⟨fun _ _ z => (nomatch z), List.Pairwise.nil⟩ (by rw [Heap.size_push]; exact Nat.le_refl _)
  have size : (s.heap.push { cls := .type "frame", data := .dict #[] }).objs.size = s.heap.objs.size + 1 := Heap.size_push ..
  rw [size] at cok
  rw [show ({ s with heap := s.heap.push { cls := .type "frame", data := .dict #[] } } : Shared).heap.objs.size = s.heap.objs.size + 1 from size, cells_acc]
  have start : InCallC s s.heap.objs.size (fun _ => none) (cellsFrom (s.heap.objs.size + 1) F.scope.names []) (fun _ => none) { s with heap := pushCells (s.heap.push { cls := .type "frame", data := .dict #[] }) F.scope.names } :=
    ⟨⟨⟨_, _, rfl⟩, (Heap.Ns.new s.heap (.type "frame")).keeps (pushCells_keeps _ _), fun b o e => pushCells_keeps _ _ b o (Heap.get?_push_of_some _ e), Nat.le_refl _⟩, fun n c e => (cok.empty n c (mem_of_lookup e)).1, cok.apart, fun n c e => (cok.empty n c e).2⟩
  refine wpAny_bind (put_all (s₀ := s) (env := envD F f s.heap.objs.size) (cs := cellsFrom (s.heap.objs.size + 1) F.scope.names []) _ (fun _ _ _ => rfl) S.kind (fun n c e => look_app e) binds (fun _ => none) (fun _ => none) _ _ start (fun y hy => ?_) fun t x => wpAny_pure (q t x))
  rcases hkind y hy with z | z
  · exact .inl z
  · exact .inr ⟨z, cell_has z⟩
theorem fnr_superC {k : Nat} {sp : Sp} {oc doc pm ct : Value} {od an : Option Addr} {osl : Array (Option Value)}
    (lk : K.lookup f = some ⟨oc, od, .func (PySem.W.fnX F.name F.qual F.params F.body F.scope F.cl .none .none doc pm an (.ref F.c) ct), osl⟩) (hcd : PySem.W.codeIn K (.ref F.c) F.qual = true) (hcl : F.cl = [(("__class__" : Str), cc)])
    (hcell : ∃ cl cld csl, K.lookup cc = some ⟨cl, cld, .cell (some (.ref D)), csl⟩) (S : DScope N ps F.scope)
    (hb : ∀ (us : List Value), us.length = ps.length → bindArgs (PySem.W.fnX F.name F.qual F.params F.body F.scope F.cl .none .none doc pm an (.ref F.c) ct) ⟨us, []⟩ = pure (ps.zip us))
    (len : ∀ vs H Q E, sp vs H Q E → vs.length = ps.length)
    (hbody : ∀ (A : Around) (outer : List Env) (s : Shared) (H : Hp) (vs : List V) (Q : VK) (E : XK), Room k (A.deeper (envD F f s.heap.objs.size)) → sp vs H Q E →
      ∃ t, PSA (dcx CX P w K mg base N F f A outer s H E) F.body F.body t ∧ t { nx := fun _ H' => Q .non H', rt := Q } (startF N vs [some (.ref D)]) H) :
    FnR P w K mg base CX (k + 1) f sp := by
  intro A outer s H us vs Q E hr e0 r hsp
  have hl := len _ _ _ _ hsp
  have KB : K.In base := e0.mod.kin
  have KX : K.In s.heap := KB.keeps fun b o e => (e0.bs b o e).1
  have lim : s.heap.NoLimit := e0.mod.nolimit.keeps fun b o e => (e0.bs b o e).1
  obtain ⟨cl, cld, csl, hc⟩ := hcell
  refine codeAny_call_function hr.depth (KX _ _ lk) rfl S.co S.gen rfl (PySem.W.codeRec_of KX hcd) ?_
  rw [hb us (by rw [← r.length]; exact hl)]
  refine wpAny_pure (env_clo (f := f) S (fun ⟨n, _⟩ hy => S.par n (List.of_mem_zip hy).1) fun s1 x => ⟨lim.keeps x.toInCall.keep, ?_⟩)
  show codeAny _ _ (.func F.body (envD F f s.heap.objs.size)) _ _
  refine PySem.ks_codeAny_funcAt ?_
  obtain ⟨t, ht, hq⟩ := hbody A outer s H vs Q E (hr.deeper _) hsp
  have I : Inv (dcx CX P w K mg base N F f A outer s H E) [] (startF N vs [some (.ref D)]) H s1 := inv_startD S hr.hd e0 hl r hcl (e0.bs _ _ (KB _ _ hc)).2 ⟨_, KX _ _ hc, rfl⟩ x
  refine PySem.ks_wpAt_mono (ht.run [] _ (startF N vs [some (.ref D)]) H _ I hq) (fun fl t hs => ?_) fun e t hs => hs
  have fin : ∀ {σ' : L2.St} {H' : Hp} {v : V} {u : Value}, Inv (dcx CX P w K mg base N F f A outer s H E) [] σ' H' t → L2.RelV v u → Q v H' → CE outer P w H s Q u t :=
    fun {σ' H' v u} J rv q => ⟨v, H', J.os, J.bare, J.base, J.hok, rv, q⟩
  cases fl with
  | next =>
    obtain ⟨σ', H', J, q⟩ := hs
    exact fin (v := V.non) (u := Value.none) J rfl q
  | ret u =>
    obtain ⟨v, σ', H', J, rv, q⟩ := hs
    exact fin J rv q
  | cont =>
    obtain ⟨_, _, _, q⟩ := hs
    exact False.elim q
  | brk =>
    obtain ⟨_, _, _, q⟩ := hs
    exact False.elim q
end
end Own
/-! OwnJ: sep.join(a text). -/
namespace Own
open PySem PySem.Spec PyProof.Rows L2
theorem strs_by : ∀ (vs : List Value) (ys : List Str), vs.length = ys.length → (∀ (i : Nat) (v : Value), vs[i]? = some v → ∃ (y : Str) (t : Tok), ys[i]? = some y ∧ v = .str y t) → StrsAre vs ys
  | [], [], _, _ => .nil
  | [], _ :: _, h, _ => by cases h
  | _ :: _, [], h, _ => by cases h
  | v :: vs, y :: ys, h, k => by
    obtain ⟨z, t, e1, e2⟩ := k 0 v rfl
    cases e1
    subst e2
    exact .cons y t (strs_by vs ys (Nat.succ.inj h) fun i v e => k (i + 1) v e)
def signsOf (y : Str) : List Str := y.cps.toList.map fun c => ⟨#[c]⟩
section
variable {prog : Program} {w : World} {A : Around} {E : Value → Shared → Prop} {s : Shared}
theorem join_signs {x y : Str} {t u : Tok} {Q : Value → Shared → Prop} (hh : A.handled = none) (hy : y.cps.size ≤ sizeLine) (hok : ((signsOf y).map (·.length)).sum + (signsOf y).length * x.length ≤ 16777216)
    (hq : ∀ s' : Shared, (∀ b o, s.heap.get? b = some o → s'.heap.get? b = some o) → s'.gens = s.gens → s'.drawn = s.drawn → s'.os = s.os → ∀ t' k, Q (.str (Txt.join x (signsOf y)) t') { s' with toks := k }) :
    wpAny (model prog w) A (call (.builtin "str.join") [.str x t, .str y u]) Q E s := by
  refine wpAny_call (codeAny_call_builtin F.slot_str_join.plain F.entry_str_join (F.slot_str_join.check _ _ _ _ _ _ _ _ (typeIs_str _ _ _) (F.args_str_join_2 _ _) ?_))
  show wpAny _ A.in1 (typeOf (.str y u) >>= fun ty => _) _ _ s
  refine wpAny_bind (wpAny_typeOf (T := "str") (v := .str y u) rfl ?_)
  show wpAny _ A.in1 ((pyIter (.str y u)).tryCatch _ >>= fun it => collect it >>= fun items => joinTail x items) _ _ s
  refine wpAny_bind (wpAny_tryCatch (wpAny_pyIter_strU ?_))
  have hI : ({ s with heap := s.heap.push { cls := .type (strIterType y), data := .fields #[.str y u, .int 0 0] } } : Shared).heap.IsStrIter s.heap.objs.size (strIterType y) y u 0 := ⟨_, Heap.get?_push_size _ rfl, rfl, rfl⟩
  have hT : strIterType y = "str_ascii_iterator" ∨ strIterType y = "str_iterator" := by
    unfold strIterType
    split
    · exact .inl rfl
    · exact .inr rfl
  refine wpAny_bind (wpAny_collect_strIter hh hT hI (fun s' acc k1 k2 k3 k4 items => ?_) hy)
  have hS : StrsAre acc.toList (signsOf y) := by
    refine strs_by _ _ ?_ fun i v e => ?_
    · unfold signsOf
      rw [List.length_map, Array.length_toList, Array.length_toList, items.1]
    · obtain ⟨c, q, e1, e2⟩ := items.2 i v (by rw [← Array.getElem?_toList]; exact e)
      refine ⟨⟨#[c]⟩, q, ?_, e2⟩
      unfold signsOf
      rw [List.getElem?_map, Array.getElem?_toList, e1]
      rfl
  obtain ⟨l, hl, ht⟩ := strsAre_values hS
  rw [hl]
  rw [← ht] at hok hq
  have ok := joinOk_of hok
  unfold JoinOk at ok
  rw [Bool.not_eq_true'] at ok
  have g : Gives (joinTail x (strValues l)) (joinMade x l) := by
    have z := gives_joinTail x l ok
    cases l with
    | nil => exact z
    | cons p r =>
      cases r with
      | nil => exact z
      | cons q r => exact z
  refine g prog w A (wants Q E) s' (post_join l ⟨joinFit_length ok, hq s' (fun b o e => k1 b o (Nat.ne_of_lt (Heap.lt_size e)) (Heap.get?_push_of_some _ e)) k2 k3 k4⟩)
end
/-- sep.join(y), y a text -/
theorem mt_joinS {X : Cx} (hh : X.A.handled = none) : MtR X "str.join" (fun x xs H Q => ∃ a y : Str, x = .str a ∧ xs = [.str y] ∧ y.cps.size ≤ 1000 ∧ a.length ≤ 1000 ∧ Q (.str (Txt.join a (signsOf y))) H) := by
  intro pins s σ H x xs v us Q I rx rs h
  obtain ⟨a, y, rfl, rfl, hy, ha, q⟩ := h
  obtain ⟨t, rfl⟩ := rx
  cases rs with
  | cons r1 rs =>
    cases rs
    obtain ⟨u, rfl⟩ := r1
    have hl : (signsOf y).length = y.cps.size := by unfold signsOf; rw [List.length_map, Array.length_toList]
    have hs : ((signsOf y).map (·.length)).sum ≤ (signsOf y).length * 1 := by
      unfold signsOf
      generalize y.cps.toList = l
      induction l with
      | nil => exact Nat.zero_le _
      | cons c r ih =>
        simp only [List.map_cons, List.sum_cons, List.length_cons]
        have : ((⟨#[c]⟩ : Str)).length = 1 := rfl
        omega
    refine join_signs hh (by rw [sizeLine_eq]; omega) ?_ fun s' k1 k2 k3 k4 t' k => ?_
    · have := Nat.mul_le_mul (show (signsOf y).length ≤ 1000 by omega) ha
      omega
    · obtain ⟨h', g', d', n', o'⟩ := s'
      have e2 : g' = s.gens := k2
      have e3 : d' = s.drawn := k3
      have e4 : o' = s.os := k4
      subst e2
      subst e3
      subst e4
      exact ⟨.str _, H, I.kept (t' := k) k1, ⟨t', rfl⟩, q⟩
theorem pe_joinS {X : Cx} {o e : Expr} {to te : TE} {apos pos : Pos} (hh : X.A.handled = none) (ho : PE X o to) (he : PE X e te) (hs : starEach [e] X.env = [(false, eval e X.env)] := by rfl) (hbase : attributeBase o "join" X.env (eval o X.env) = eval o X.env := by rfl) (hline : (apos.endLine == pos.line) = true := by rfl) :
    PE X (.Call (.Attribute o "join" apos) [e] [] pos) (tM1 (fun x xs H Q => ∃ a y : Str, x = .str a ∧ xs = [.str y] ∧ y.cps.size ≤ 1000 ∧ a.length ≤ 1000 ∧ Q (.str (Txt.join a (signsOf y))) H) to te) :=
  pe_m1 F.slot_str_join F.type_str_join (mt_joinS hh) ho he hs hbase hline
end Own
/-! OwnK: a text, once or many times. -/
namespace Own
open PySem PySem.Spec PyProof.Rows L2
def repT (x : Str) (n : Int) : Str := ⟨(List.replicate n.toNat x.cps).foldl (· ++ ·) #[]⟩
theorem rep_tl (a : Array Nat) : ∀ (n : Nat) (acc : Array Nat), ((List.replicate n a).foldl (· ++ ·) acc).toList = acc.toList ++ (List.replicate n a.toList).flatten
  | 0, acc => by simp
  | n + 1, acc => by
    rw [List.replicate_succ, List.foldl_cons, rep_tl a n, List.replicate_succ, List.flatten_cons, Array.toList_append, List.append_assoc]
theorem repT_tl (x : Str) (n : Int) : (repT x n).cps.toList = (List.replicate n.toNat x.cps.toList).flatten := by
  unfold repT
  rw [rep_tl]
  rfl
theorem repT_len (x : Str) (n : Int) : (repT x n).length = n.toNat * x.length := by
  have e : (repT x n).length = (repT x n).cps.toList.length := by simp [Str.length]
  rw [e, repT_tl]
  simp [Str.length]
theorem repT_one (x : Str) : repT x 1 = x := by
  unfold repT
  show (⟨(#[] : Array Nat) ++ x.cps⟩ : Str) = x
  rw [Array.empty_append]
def rMulN : R2 := fun x y H Q => ∃ (i : Str) (n : Int), x = .str i ∧ y = .int n ∧ 1 ≤ n ∧ n ≤ 100000 ∧ 0 < i.length ∧ i.length ≤ 100 ∧ Q (.str (repT i n)) H
theorem op_mul_strN {X : Cx} : OpR X (binaryOp .Mult) rMulN := by
  intro pins s σ H x y v u Q I rx ry h
  obtain ⟨i, n, rfl, rfl, h2, h3, h4, h5, q⟩ := h
  obtain ⟨t, rfl⟩ := rx
  obtain ⟨t', rfl⟩ := ry
  have hn1 : ¬ n < 1 := by omega
  have hm : i.length * n.toNat ≤ 10000000 := by
    have : n.toNat ≤ 100000 := by omega
    exact Nat.mul_le_mul h5 this
  have hz : (repT i n).length ≤ sizeLine := by
    rw [repT_len, sizeLine_eq, Nat.mul_comm]
    omega
  refine PySem.P.mul_str (by rw [Bool.or_eq_false_iff]; exact ⟨decide_eq_false (by omega), decide_eq_false (by omega)⟩) (fun _ _ => ?_) (fun _ _ => ?_) ?_
  · have e : ((2 : Int) ^ 63 - 1) = 9223372036854775807 := by decide
    have e2 : (i.length : Int) * n = ((i.length * n.toNat : Nat) : Int) := by
      rw [Int.natCast_mul, Int.toNat_of_nonneg (by omega)]
    have h6 : (i.length : Int) ≤ (2 ^ 63 - 1) / n := Int.le_ediv_of_mul_le (by omega) (by rw [e2, e]; omega)
    omega
  · show decide (i.length * n.toNat > sizeLine) = false
    exact decide_eq_false (by rw [sizeLine_eq]; omega)
  · rw [if_neg hn1]
    by_cases h1 : n = 1
    · subst h1
      have hc : ((1 : Int) == 1 || i.length == 0) = true := rfl
      rw [if_pos hc]
      rw [repT_one] at q
      exact ⟨.str i, H, I, ⟨_, rfl⟩, q⟩
    · have hc : (n == 1 || i.length == 0) = false := by
        rw [Bool.or_eq_false_iff]
        exact ⟨beq_eq_false_iff_ne.mpr h1, beq_eq_false_iff_ne.mpr (by omega)⟩
      rw [if_neg (by rw [hc]; exact Bool.false_ne_true)]
      exact ⟨hz, ⟨.str (repT i n), H, I.tok _, ⟨_, rfl⟩, q⟩⟩
end Own
namespace K71
open PySem L2 Own StX ClX NdefX

def spFeed (K : PySem.W.Frag) : Sp := fun vs H Q _ => ∃ (a : Addr) (ns : List Int) (k : Int), vs = [.ref a, .int k] ∧ SqL K H a (ns.map V.int) ∧ 0 ≤ k ∧ k ≤ 100 ∧
  ∀ p d s, 0 ≤ d → H p = none → Q (.ref p) (upd H p (.lst [.int d, .int s]))
def spTakeL : Sp := fun vs H Q _ => ∃ (a : Addr) (d s m : Int), vs = [.ref a, .int m] ∧ H a = some (.lst [.int d, .int s]) ∧ 0 ≤ d ∧ 0 < m ∧ m ≤ 8589934592 ∧
  ∀ r d' s', 0 ≤ d' → 0 ≤ r → r < m → Q (.int r) (upd H a (.lst [.int d', .int s']))
def spPick : Sp := fun vs H Q _ => ∃ (a l : Addr) (d s : Int) (xs : List V), vs = [.ref a, .ref l] ∧ H a = some (.lst [.int d, .int s]) ∧ 0 ≤ d ∧ a ≠ l ∧ H l = some (.lst xs) ∧ 0 < xs.length ∧ xs.length ≤ 1000 ∧
  ∀ (i : Nat) x d' s', xs[i]? = some x → 0 ≤ d' → Q x (upd H a (.lst [.int d', .int s']))
def spPickT (K : PySem.W.Frag) : Sp := fun vs H Q _ => ∃ (a l : Addr) (d s : Int) (xs : List V), vs = [.ref a, .ref l] ∧ H a = some (.lst [.int d, .int s]) ∧ 0 ≤ d ∧ SqT K H l xs ∧ 0 < xs.length ∧ xs.length ≤ 1000 ∧
  ∀ (i : Nat) x d' s', xs[i]? = some x → 0 ≤ d' → Q x (upd H a (.lst [.int d', .int s']))
section
variable {P : Program} {w : World} {K : PySem.W.Frag} {mg : Str → Option Value} {base : Heap}
theorem scFe : FnScope ["script", "index", "cell", "great"] ["script", "index"] (defScope sFeed) := ⟨rfl, rfl, rfl, by decide +kernel, rfl, by decide +kernel, by decide +kernel⟩
theorem ok_feed {f : Addr} {fd : FuncData} (F : Fun K "_law_feed" "_law_feed" sFeed f fd) (mlen : mg "len" = none) (mmax : mg "max" = none) (mabs : mg "abs" = none) : FnOk P w K mg base CX0 1 f fd ["script", "index"] (spFeed K) := by
  refine F.ok scFe (fun vs H Q E h => ?_) (fun cdv A outer s H vs Q E hr h => ?_)
  · obtain ⟨a, ns, k, rfl, _⟩ := h
    rfl
  obtain ⟨a, ns, k, rfl, hS, h0, h1, q⟩ := h
  refine ⟨_, pss_join (ps_set (i := 2) scFe.nd rfl (.inl rfl) (pe_ifExp (pt_cmpR op_lt (pv 1) (pe_callB call_len_seq (by rfl) mlen PySem.boot_len (pa_cons (pv 0) pa_nil)) (nomark _)) (pe_ix ix_list (pv 0) (pv 1) (fun _ _ => rfl)) (pe_op op_add (pe_op op_mul pe_int (pv 1)) pe_int)))
    (pss_cons (ps_set (i := 3) scFe.nd rfl (.inl rfl) (pe_op op_sub (pe_callB call_abs (by rfl) mabs (by decide +kernel) (pa_cons (pv 2) pa_nil)) (pe_op op_pow pe_int pe_int)))
    (pss_one (ps_ret (pe_lst (pa_cons (pe_callB (call_max2 rfl) (by rfl) mmax (by decide +kernel) (pa_cons pe_int (pa_cons (pv 3) pa_nil))) (pa_cons (pe_op op_mod (pe_op op_add (pe_op op_mul (pv 2) pe_int) (pe_op op_mul pe_int (pe_op op_add (pv 1) pe_int))) pe_int) pa_nil)))))), ?_⟩
  refine ⟨fun σ H' => H' = H ∧ ∃ c : Int, σ = [some (.ref a), some (.int k), some (.int c), none], ?_, ?_⟩
  · refine ⟨_, rfl, _, rfl, a, _, rfl, .inl hS, _, _, rfl, rfl, _, rfl, ?_⟩
    by_cases hc : k < (ns.map V.int).length
    · rw [decide_eq_true hc]
      have hj : k.toNat < ns.length := by rw [List.length_map] at hc; omega
      exact iteT ⟨_, rfl, _, rfl, a, _, _, .int (ns[k.toNat]), rfl, rfl, hS, at_of (j := k.toNat) (by omega) (by simp [hj]), rfl, _, rfl⟩
    · rw [decide_eq_false hc]
      exact iteF ⟨_, rfl, _, _, rfl, rfl, .inl ⟨by decide, by decide⟩, _, _, rfl, rfl, rfl, _, rfl⟩
  rintro σ H' ⟨rfl, c, rfl⟩
  refine ⟨_, rfl, _, rfl, _, _, rfl, rfl, ⟨by decide, by decide, by decide⟩, _, _, rfl, rfl, ?_⟩
  refine ⟨_, rfl, _, _, rfl, ?_⟩
  refine ⟨_, rfl, _, _, rfl, rfl, .inr ⟨by decide, by decide⟩, _, rfl, _, _, rfl, rfl, _, _, rfl, rfl, .inl ⟨by decide, by decide⟩, _, _, rfl, rfl, _, _, rfl, rfl, (by show (0 : Int) < 2305843009213693951; decide), ?_⟩
  refine ⟨small1 (by show 2 ≤ 8; decide), fun p hp => q p _ _ ?_ hp⟩
  split <;> omega
theorem scTkL : FnScope ["feed", "size", "digit"] ["feed", "size"] (defScope sTakeL) := ⟨rfl, rfl, rfl, by decide +kernel, rfl, by decide +kernel, by decide +kernel⟩
theorem log_many {m : Int} (h : 0 < m) (h2 : m ≤ 8589934592) : m.natAbs.log2 < 9000 := by
  have h2 : m.natAbs < 2 ^ 34 := by omega
  exact Nat.lt_trans (PySem.Flt.log2_lt_of (by decide) h2) (by decide)
theorem ok_takeL {f : Addr} {fd : FuncData} (F : Fun K "_law_take" "_law_take" sTakeL f fd) : FnOk P w K mg base CX0 1 f fd ["feed", "size"] spTakeL := by
  refine F.ok scTkL (fun vs H Q E h => ?_) (fun cdv A outer s H vs Q E hr h => ?_)
  · obtain ⟨a, d, s, m, rfl, _⟩ := h
    rfl
  obtain ⟨a, d, s, m, rfl, ha, h0, hm, hm2, k⟩ := h
  have at0 : ∀ x y : Int, atI [V.int x, V.int y] 0 = some (.int x) := fun x y => at_of (j := 0) rfl rfl
  have at1 : ∀ x y : Int, atI [V.int x, V.int y] 1 = some (.int y) := fun x y => at_of (j := 1) rfl rfl
  have ix0 : ixN 2 0 = some 0 := by decide +kernel
  have ix1 : ixN 2 1 = some 1 := by decide +kernel
  refine ⟨_, pss_cons (ps_if (pt_cmpR op_gt (pe_ix ix_list (pv 0) pe_int (fun _ _ => rfl)) pe_int (nomark _))
      (pss_cons (ps_set (i := 2) scTkL.nd rfl (.inl rfl) (pe_op op_mod (pe_ix ix_list (pv 0) pe_int (fun _ _ => rfl)) (pv 1)))
      (pss_cons (ps_asg (pe_op op_fdivW (pe_ix ix_list (pv 0) pe_int (fun _ _ => rfl)) (pv 1)) (pg_sub (pv 0) pe_int set_list))
      (pss_one (ps_ret (pv 2))))) pss_nil)
    (pss_cons (ps_asg (pe_op op_mod (pe_op op_add (pe_op op_mul (pe_ix ix_list (pv 0) pe_int (fun _ _ => rfl)) pe_int) pe_int) pe_int) (pg_sub (pv 0) pe_int set_list))
    (pss_one (ps_ret (pe_op op_mod (pe_op op_fdiv (pe_ix ix_list (pv 0) pe_int (fun _ _ => rfl)) pe_int) (pv 1))))), ?_⟩
  refine ⟨_, rfl, a, _, _, _, rfl, rfl, .of ha, at0 _ _, _, _, rfl, rfl, _, rfl, ?_⟩
  by_cases hc : 0 < d
  · rw [decide_eq_true hc]
    refine iteT ⟨_, rfl, a, _, _, _, rfl, rfl, .of ha, at0 _ _, _, rfl, _, _, rfl, rfl, hm, ?_⟩
    refine ⟨_, rfl, a, _, _, _, rfl, rfl, .of ha, at0 _ _, _, rfl, _, _, rfl, rfl, ⟨hm, log_many hm hm2⟩, _, rfl, a, _, _, 0, rfl, rfl, ha, ix0, ?_⟩
    exact ⟨_, rfl, k _ _ s (Int.ediv_nonneg h0 (by omega)) (Int.emod_nonneg _ (by omega)) (Int.emod_lt_of_pos _ hm)⟩
  · rw [decide_eq_false hc]
    refine iteF ⟨_, rfl, a, _, _, _, rfl, rfl, .of ha, at1 _ _, _, _, rfl, rfl, .inr ⟨by decide, by decide⟩, _, _, rfl, rfl, _, _, rfl, rfl, (by show (0 : Int) < 2305843009213693951; decide), _, rfl, a, _, _, 1, rfl, rfl, ha, ix1, ?_⟩
    refine ⟨_, rfl, a, _, _, _, rfl, rfl, .of upd_same, at1 _ _, _, _, rfl, rfl, ⟨by decide, by decide⟩, _, rfl, _, _, rfl, rfl, hm, ?_⟩
    exact k _ d _ h0 (Int.emod_nonneg _ (by omega)) (Int.emod_lt_of_pos _ hm)

theorem scPk : FnScope ["feed", "options"] ["feed", "options"] (defScope sPickL) := ⟨rfl, rfl, rfl, by decide +kernel, rfl, by decide +kernel, by decide +kernel⟩
theorem ok_pick {f fT : Addr} {fd fdT : FuncData} (F : Fun K "_law_pick" "_law_pick" sPickL f fd) (GT : FnOk P w K mg base CX0 1 fT fdT ["feed", "size"] spTakeL) (mT : mg "_law_take" = some (.ref fT)) (kT : PySem.W.keepIn K (.ref fT) = true) (bT : Binds K fdT ["feed", "size"] []) (mlen : mg "len" = none) :
    FnOk P w K mg base CX0 2 f fd ["feed", "options"] spPick := by
  refine F.ok scPk (fun vs H Q E h => ?_) (fun cdv A outer s H vs Q E hr h => ?_)
  · obtain ⟨a, l, d, s, xs, rfl, _⟩ := h
    rfl
  obtain ⟨a, l, d, s, xs, rfl, ha, h0, hne, hl, hx0, hx1, k⟩ := h
  refine ⟨_, pss_one (ps_ret (pe_ix ix_list (pv 1) (pe_call GT hr rfl mT kT bT .nil pass0 (pa_cons (pv 0) (pa_cons (pe_callB call_len_seq (by rfl) mlen PySem.boot_len (pa_cons (pv 1) pa_nil)) pa_nil))) (fun _ _ => rfl))), ?_⟩
  refine ⟨_, rfl, _, rfl, _, rfl, l, xs, rfl, .inl (.of hl), a, d, s, xs.length, rfl, ha, h0, by omega, by omega, fun r d' s' hd hr0 hr1 => ?_⟩
  have hj : r.toNat < xs.length := by omega
  exact ⟨l, xs, r, xs[r.toNat], rfl, rfl, .of ((upd_ne (Ne.symm hne)).trans hl), at_of (j := r.toNat) (by omega) (List.getElem?_eq_getElem hj), k r.toNat _ d' s' (List.getElem?_eq_getElem hj) hd⟩
theorem ok_pickT {f fT : Addr} {fd fdT : FuncData} (F : Fun K "_law_pick" "_law_pick" sPickL f fd) (GT : FnOk P w K mg base CX0 1 fT fdT ["feed", "size"] spTakeL) (mT : mg "_law_take" = some (.ref fT)) (kT : PySem.W.keepIn K (.ref fT) = true) (bT : Binds K fdT ["feed", "size"] []) (mlen : mg "len" = none) :
    FnOk P w K mg base CX0 2 f fd ["feed", "options"] (spPickT K) := by
  refine F.ok scPk (fun vs H Q E h => ?_) (fun cdv A outer s H vs Q E hr h => ?_)
  · obtain ⟨a, l, d, s, xs, rfl, _⟩ := h
    rfl
  obtain ⟨a, l, d, s, xs, rfl, ha, h0, hl, hx0, hx1, k⟩ := h
  refine ⟨_, pss_one (ps_ret (pe_ix ix_tup (pv 1) (pe_call GT hr rfl mT kT bT .nil pass0 (pa_cons (pv 0) (pa_cons (pe_callB call_len_seq (by rfl) mlen PySem.boot_len (pa_cons (pv 1) pa_nil)) pa_nil))) (fun _ _ => rfl))), ?_⟩
  refine ⟨_, rfl, _, rfl, _, rfl, l, xs, rfl, .inr hl, a, d, s, xs.length, rfl, ha, h0, by omega, by omega, fun r d' s' hd hr0 hr1 => ?_⟩
  have hj : r.toNat < xs.length := by omega
  exact ⟨l, xs, r, xs[r.toNat], rfl, rfl, sqT_updL ha hl, at_of (j := r.toNat) (by omega) (List.getElem?_eq_getElem hj), k r.toNat _ d' s' (List.getElem?_eq_getElem hj) hd⟩
end
end K71
namespace K71
open PySem
/-- outputs put into groups, one behind the other -/
def addG (G : List (List Str)) (k : Nat) (x : Str) : List (List Str) := if k = G.length then G ++ [[x]] else G.set k (G.getD k [] ++ [x])
structure Gr (outs : List Str) (m : Nat) (G : List (List Str)) : Prop where
  ne : ∀ g ∈ G, g ≠ []
  so : ∀ g ∈ G, g = (outs.take m).filter fun y => decide (y ∈ g)
  fi : (G.map fun g => outs.idxOf (g.headD Str.empty)).Pairwise (· ≤ ·)
  pm : G.flatten.Perm (outs.take m)
  len : G.length ≤ m
theorem Gr.nil (outs : List Str) : Gr outs 0 [] := ⟨fun g h => (by cases h), fun g h => (by cases h), List.Pairwise.nil, List.Perm.refl _, Nat.le_refl _⟩
theorem mem_take_ne {outs : List Str} {m : Nat} {x : Str} (hn : outs.Nodup) (hx : outs[m]? = some x) : x ∉ outs.take m := fun h => by
  have z : (outs.take (m + 1)).Nodup := List.Nodup.sublist (List.take_sublist _ _) hn
  rw [tk1 hx] at z
  exact (List.nodup_append.mp z).2.2 x h x (List.mem_singleton.mpr rfl) rfl
theorem Gr.mem {outs : List Str} {m : Nat} {G : List (List Str)} (h : Gr outs m G) {g : List Str} (hg : g ∈ G) {y : Str} (hy : y ∈ g) : y ∈ outs.take m := by
  rw [h.so g hg] at hy
  exact (List.mem_filter.mp hy).1
theorem so_next {outs : List Str} {m : Nat} {x : Str} (hx : outs[m]? = some x) (hn : x ∉ outs.take m) {g : List Str} (h : g = (outs.take m).filter fun y => decide (y ∈ g)) : g = (outs.take (m + 1)).filter fun y => decide (y ∈ g) := by
  have hxg : x ∉ g := fun z => hn (by rw [h] at z; exact (List.mem_filter.mp z).1)
  rw [tk1 hx, List.filter_append, List.filter_cons_of_neg (by rw [decide_eq_false hxg]; exact Bool.false_ne_true), List.filter_nil, List.append_nil]
  exact h
theorem so_add {outs : List Str} {m : Nat} {x : Str} (hx : outs[m]? = some x) (hn : x ∉ outs.take m) {g : List Str} (h : g = (outs.take m).filter fun y => decide (y ∈ g)) : g ++ [x] = (outs.take (m + 1)).filter fun y => decide (y ∈ g ++ [x]) := by
  rw [tk1 hx, List.filter_append, List.filter_cons_of_pos (by simp), List.filter_nil]
  congr 1
  refine Eq.trans h (List.filter_congr fun y hy => decide_eq_decide.mpr ?_)
  have : y ≠ x := fun z => hn (z ▸ hy)
  simp [this]
theorem head_app {g : List Str} (h : g ≠ []) (x : Str) : (g ++ [x]).headD Str.empty = g.headD Str.empty := by
  cases g with
  | nil => exact absurd rfl h
  | cons a r => rfl
theorem set_split {α : Type} : ∀ (l : List α) (k : Nat) (d a : α), k < l.length → ∃ u v, l = u ++ l.getD k d :: v ∧ u.length = k ∧ l.set k a = u ++ a :: v
  | [], k, d, a, h => by cases h
  | b :: l, 0, d, a, h => ⟨[], l, rfl, rfl, rfl⟩
  | b :: l, k + 1, d, a, h => by
    obtain ⟨u, v, e1, e2, e3⟩ := set_split l k d a (by simpa using h)
    refine ⟨b :: u, v, ?_, by simp [e2], ?_⟩
    · rw [List.getD_cons_succ, List.cons_append, ← e1]
    · rw [List.set_cons_succ, e3]
      rfl
theorem Gr.add {outs : List Str} {m : Nat} {G : List (List Str)} (h : Gr outs m G) (hnd : outs.Nodup) {x : Str} (hx : outs[m]? = some x) {k : Nat} (hk : k ≤ G.length) : Gr outs (m + 1) (addG G k x) := by
  have hn := mem_take_ne hnd hx
  have hix : outs.idxOf x = m := by
    have hm := (List.getElem?_eq_some_iff.mp hx).1
    have e : outs = outs.take m ++ x :: outs.drop (m + 1) := by
      have e1 : outs.drop m = x :: outs.drop (m + 1) := by
        rw [List.drop_eq_getElem_cons hm, (List.getElem?_eq_some_iff.mp hx).2]
      rw [← e1, List.take_append_drop]
    rw [e, idx_of hn, List.length_take]
    omega
  have hlt : ∀ y ∈ outs.take m, outs.idxOf y < m := fun y hy => by
    have e : outs = outs.take m ++ outs.drop m := (List.take_append_drop _ _).symm
    rw [e, List.idxOf_append, if_pos hy]
    have := List.idxOf_lt_length_of_mem hy
    rw [List.length_take] at this
    omega
  unfold addG
  by_cases hkl : k = G.length
  · rw [if_pos hkl]
    refine ⟨fun g hg => ?_, fun g hg => ?_, ?_, ?_, ?_⟩
    · rcases List.mem_append.mp hg with z | z
      · exact h.ne g z
      · rw [List.mem_singleton.mp z]
        simp
    · rcases List.mem_append.mp hg with z | z
      · exact so_next hx hn (h.so g z)
      · rw [List.mem_singleton.mp z]
        have z2 := so_add (g := []) hx hn (by rw [List.filter_eq_nil_iff.mpr (by simp)])
        exact z2
    · rw [List.map_append]
      refine List.pairwise_append.mpr ⟨h.fi, List.pairwise_singleton _ _, fun a ha b hb => ?_⟩
      obtain ⟨g, hg, rfl⟩ := List.mem_map.mp ha
      rw [List.map_cons, List.map_nil] at hb
      rw [List.mem_singleton.mp hb]
      have := hlt _ (h.mem hg (head_mem (h.ne g hg)))
      show outs.idxOf (g.headD Str.empty) ≤ outs.idxOf x
      omega
    · rw [List.flatten_append, tk1 hx]
      exact h.pm.append_right _
    · rw [List.length_append]
      have := h.len
      show _ + 1 ≤ _
      omega
  · rw [if_neg hkl]
    obtain ⟨u, v, e1, e2, e3⟩ := set_split G k [] (G.getD k [] ++ [x]) (by omega)
    rw [e3]
    generalize G.getD k [] = g at e1 e3 ⊢
    have hg : g ∈ G := by rw [e1]; simp
    have old : ∀ q, q ∈ u ∨ q ∈ v → q ∈ G := fun q hq => by
      rw [e1]
      rcases hq with z | z <;> simp [z]
    refine ⟨fun q hq => ?_, fun q hq => ?_, ?_, ?_, ?_⟩
    · simp only [List.mem_append, List.mem_cons] at hq
      rcases hq with z | rfl | z
      · exact h.ne q (old q (.inl z))
      · simp
      · exact h.ne q (old q (.inr z))
    · simp only [List.mem_append, List.mem_cons] at hq
      rcases hq with z | rfl | z
      · exact so_next hx hn (h.so q (old q (.inl z)))
      · exact so_add hx hn (h.so g hg)
      · exact so_next hx hn (h.so q (old q (.inr z)))
    · have z := h.fi
      rw [e1, List.map_append, List.map_cons] at z
      rw [List.map_append, List.map_cons, head_app (h.ne g hg)]
      exact z
    · rw [tk1 hx]
      have z := h.pm
      rw [e1] at z
      simp only [List.flatten_append, List.flatten_cons] at z ⊢
      have z2 : (u.flatten ++ ((g ++ [x]) ++ v.flatten)).Perm ((u.flatten ++ (g ++ v.flatten)) ++ [x]) := by
        rw [List.append_assoc, List.append_assoc, List.append_assoc]
        exact List.Perm.append_left _ (List.Perm.append_left _ List.perm_append_comm)
      exact z2.trans (z.append_right _)
    · have := h.len
      rw [e1] at this
      simp only [List.length_append, List.length_cons] at this ⊢
      omega
/-- a part of a list, in its order -/
theorem sub_filter : ∀ {s l : List Str}, s.Sublist l → l.Nodup → s = l.filter fun x => decide (x ∈ s) := by
  intro s l h
  induction h with
  | slnil => exact fun _ => rfl
  | @cons s l a h ih =>
    intro hn
    obtain ⟨h1, h2⟩ := List.nodup_cons.mp hn
    have ha : a ∉ s := fun z => h1 (h.subset z)
    rw [List.filter_cons_of_neg (by rw [decide_eq_false ha]; exact Bool.false_ne_true)]
    exact ih h2
  | @cons_cons s l a h ih =>
    intro hn
    obtain ⟨h1, h2⟩ := List.nodup_cons.mp hn
    rw [List.filter_cons_of_pos (by simp)]
    congr 1
    refine (ih h2).trans (List.filter_congr fun x hx => decide_eq_decide.mpr ?_)
    have : x ≠ a := fun z => h1 (z ▸ hx)
    simp [this]
/-- groups and needs make an interface -/
theorem made_ok {ins outs : List Str} {G : List (List Str)} {N : List (List Str)} (ni : ∀ x ∈ ins, isNm x = true) (no : ∀ x ∈ outs, isNm x = true) (nd : (ins ++ outs).Nodup) (il : ins.length ≤ 6) (ol : outs.length ≤ 6) (h : Gr outs outs.length G) (hl : N.length = G.length) (hN : ∀ n ∈ N, n.Sublist ins) :
    OkI ⟨ins, outs, G.zip N⟩ := by
  have e1 : (G.zip N).map (·.1) = G := List.map_fst_zip (by omega)
  have m1 : ∀ s ∈ G.zip N, s.1 ∈ G := fun s hs => by rw [← e1]; exact List.mem_map_of_mem hs
  have m2 : ∀ s ∈ G.zip N, s.2 ∈ N := fun s hs => by
    have z : (G.zip N).map (·.2) = N := List.map_snd_zip (by omega)
    rw [← z]
    exact List.mem_map_of_mem hs
  have ht : outs.take outs.length = outs := List.take_length
  refine ⟨ni, no, nd, il, ol, ?_, fun s hs => h.ne _ (m1 s hs), fun s hs => ?_, fun s hs => sub_filter (hN _ (m2 s hs)) (List.nodup_append.mp nd).1, ?_, ?_⟩
  · show (G.zip N).length ≤ 6
    rw [List.length_zip]
    have := h.len
    omega
  · have z := h.so _ (m1 s hs)
    rw [ht] at z
    exact z
  · have z := h.fi
    rw [← e1, List.map_map] at z
    exact z
  · have z := h.pm
    rw [ht, ← e1] at z
    exact z
end K71
namespace K71
open PySem L2 Own StX ClX NdefX
def SameX (a : Addr) (H H' : Hp) : Prop := ∀ b u, b ≠ a → H b = some u → H' b = some u
theorem SameX.of {a : Addr} {H1 H2 : Hp} (h : Same H1 H2) : SameX a H1 H2 := fun b u _ e => h b u e
theorem SameX.put {a : Addr} {H : Hp} {o : HO} : SameX a H (upd H a o) := fun b u n e => by rw [upd_ne n]; exact e
theorem SameX.trans {a : Addr} {H1 H2 H3 : Hp} (h : SameX a H1 H2) (k : SameX a H2 H3) : SameX a H1 H3 := fun b u n e => k b u n (h b u n e)
theorem SameX.new {a p : Addr} {o : HO} {H H1 : Hp} (h : SameX a H H1) (hn : H p = none) : SameX a H (upd H1 p o) := fun b u n e => by
  rw [upd_ne (ne_of_none e hn)]
  exact h b u n e
theorem SameX.refl (a : Addr) (H : Hp) : SameX a H H := fun _ _ _ e => e
theorem sqT_X {K : PySem.W.Frag} {a b : Addr} {H H' : Hp} {l xs : List V} (x : SameX a H H') (e : H a = some (.lst l)) (h : SqT K H b xs) : SqT K H' b xs := by
  rcases h with (h | ⟨q, h⟩) | h
  · exact .inl (.inl (x _ _ (fun z => by rw [z, e] at h; cases h) h))
  · exact .inl (.inr ⟨q, x _ _ (fun z => by rw [z, e] at h; cases h) h⟩)
  · exact .inr h
theorem ixT_X {a b : Addr} {H H' : Hp} {l xs : List V} (x : SameX a H H') (e : H a = some (.lst l)) (h : IxT H b xs) : IxT H' b xs := by
  obtain ⟨q, h, r⟩ := h
  exact ⟨q, x _ _ (fun z => by rw [z, e] at h; cases h) h, r⟩
theorem StepAt.X {K : PySem.W.Frag} {a b : Addr} {H H' : Hp} {l : List V} {s : Fnc} (x : SameX a H H') (e : H a = some (.lst l)) (h : StepAt K H b s) : StepAt K H' b s := by
  obtain ⟨p, q, h1, h2, h3⟩ := h
  exact ⟨p, q, sqT_X x e h1, sqT_X x e h2, sqT_X x e h3⟩
theorem StepsAt.X {K : PySem.W.Frag} {a : Addr} {H H' : Hp} {l : List V} {as : List Addr} {ps : List Fnc} (x : SameX a H H') (e : H a = some (.lst l)) (h : StepsAt K H as ps) : StepsAt K H' as ps := ⟨h.1, fun i b s h1 h2 => (h.2 i b s h1 h2).X x e⟩
theorem IfAt.X {K : PySem.W.Frag} {a v : Addr} {H H' : Hp} {l : List V} {f : If} (x : SameX a H H') (e : H a = some (.lst l)) (h : IfAt K H v f) : IfAt K H' v f := by
  obtain ⟨i, o, p, as, h1, h2, h3, h4, h5⟩ := h
  exact ⟨i, o, p, as, sqT_X x e h1, sqT_X x e h2, ixT_X x e h3, sqT_X x e h4, h5.X x e⟩
theorem cut_low (xs : List V) (n : Nat) : cutV xs none (some (n : Int)) = xs.take n := by
  unfold cutV
  rw [HT.sIx_nat, HT.sIx_none, List.drop_zero, Nat.sub_zero]
  rcases Nat.le_total n xs.length with q | q
  · rw [Nat.min_eq_left q]
  · rw [Nat.min_eq_right q, List.take_length, List.take_of_length_le q]
def insL : List Str := ["i", "j", "k", "l", "m", "n"]
def outL : List Str := ["p", "q", "r", "s", "t", "u"]
theorem insL_nm : ∀ x ∈ insL, isNm x = true := by decide +kernel
theorem outL_nm : ∀ x ∈ outL, isNm x = true := by decide +kernel
theorem io_nd : (insL ++ outL).Nodup := by decide +kernel
/-- the groups stand at qs -/
structure QsAt (Hb H : Hp) (L : Addr) (qs : List Addr) (G : List (List Str)) : Prop where
  len : qs.length = G.length
  nd : qs.Nodup
  at_ : ∀ (i : Nat) (q : Addr) (g : List Str), qs[i]? = some q → G[i]? = some g → Hb q = none ∧ q ≠ L ∧ H q = some (.lst (g.map V.str))
theorem QsAt.keep {Hb H H' : Hp} {L : Addr} {qs : List Addr} {G : List (List Str)} (h : QsAt Hb H L qs G) (k : ∀ q u, Hb q = none → q ≠ L → H q = some u → H' q = some u) : QsAt Hb H' L qs G :=
  ⟨h.len, h.nd, fun i q g e1 e2 => by
    obtain ⟨z1, z2, z3⟩ := h.at_ i q g e1 e2
    exact ⟨z1, z2, k q _ z1 z2 z3⟩⟩
theorem QsAt.snoc {Hb H H' : Hp} {L q : Addr} {qs : List Addr} {G : List (List Str)} (h : QsAt Hb H L qs G) (hq : H q = none) (hb : Hb q = none) (hL : q ≠ L) (k : ∀ b u, b ≠ L → H b = some u → H' b = some u) (hn : H' q = some (.lst [])) : QsAt Hb H' L (qs ++ [q]) (G ++ [[]]) := by
  have hmem : ∀ b ∈ qs, ∃ u, H b = some u := fun b hb => by
    obtain ⟨i, hi, rfl⟩ := List.getElem_of_mem hb
    have hi2 : i < G.length := by rw [← h.len]; exact hi
    obtain ⟨_, _, z⟩ := h.at_ i _ _ (List.getElem?_eq_getElem hi) (List.getElem?_eq_getElem hi2)
    exact ⟨_, z⟩
  refine ⟨by rw [List.length_append, List.length_append, h.len]; rfl, List.nodup_append.mpr ⟨h.nd, by simp, fun x hx y hy e => ?_⟩, fun i b g e1 e2 => ?_⟩
  · rw [List.mem_singleton.mp hy] at e
    obtain ⟨u, hu⟩ := hmem x hx
    rw [e, hq] at hu
    cases hu
  · by_cases hi : i < qs.length
    · rw [List.getElem?_append_left hi] at e1
      rw [List.getElem?_append_left (by rw [← h.len]; exact hi)] at e2
      obtain ⟨z1, z2, z3⟩ := h.at_ i b g e1 e2
      exact ⟨z1, z2, k _ _ z2 z3⟩
    · rw [List.getElem?_append_right (by omega)] at e1
      rw [List.getElem?_append_right (by rw [← h.len]; omega), ← h.len] at e2
      cases hk : i - qs.length with
      | zero =>
        rw [hk] at e1 e2
        cases e1
        cases e2
        exact ⟨hb, hL, hn⟩
      | succ j =>
        rw [hk] at e1
        cases e1
theorem QsAt.set {Hb H : Hp} {L q : Addr} {qs : List Addr} {G : List (List Str)} (h : QsAt Hb H L qs G) {k : Nat} (hq : qs[k]? = some q) (g' : List Str) : QsAt Hb (upd H q (.lst (g'.map V.str))) L qs (G.set k g') := by
  refine ⟨by rw [List.length_set]; exact h.len, h.nd, fun i b g e1 e2 => ?_⟩
  have hk := (List.getElem?_eq_some_iff.mp hq).1
  by_cases hik : i = k
  · subst hik
    rw [hq] at e1
    cases e1
    rw [List.getElem?_set_self (by rw [← h.len]; exact hk)] at e2
    cases e2
    obtain ⟨z1, z2, _⟩ := h.at_ i q _ hq (List.getElem?_eq_getElem (by rw [← h.len]; exact hk))
    exact ⟨z1, z2, upd_same⟩
  · rw [List.getElem?_set_ne (fun z => hik z.symm)] at e2
    obtain ⟨z1, z2, z3⟩ := h.at_ i b g e1 e2
    refine ⟨z1, z2, (upd_ne fun e => hik ?_).trans z3⟩
    have l1 := (List.getElem?_eq_some_iff.mp e1).1
    exact (List.getElem_inj (h₀ := l1) (h₁ := hk) h.nd).mp ((List.getElem?_eq_some_iff.mp e1).2.trans (e.trans (List.getElem?_eq_some_iff.mp hq).2.symm))
def spMade (K : PySem.W.Frag) : Sp := fun vs H Q _ => ∃ (a : Addr) (d s : Int), vs = [.ref a] ∧ H a = some (.lst [.int d, .int s]) ∧ 0 ≤ d ∧
  ∀ (v : Addr) (f : If) d' s' H', SameX a H H' → H' a = some (.lst [.int d', .int s']) → 0 ≤ d' → IfAt K H' v f → OkI f → f.outs ≠ [] → Q (.ref v) H'
section
variable {P : Program} {w : World} {K : PySem.W.Frag} {mg : Str → Option Value} {base : Heap}
abbrev nMu : List Str := ["feed", "inputs", "outputs", "groups", "output", "at", "profile", "group", "needs", "name"]
theorem scMu : FnScope nMu ["feed"] (defScope sMade) := ⟨rfl, rfl, rfl, by decide +kernel, rfl, by decide +kernel, by decide +kernel⟩
theorem ok_made {f fT : Addr} {fd fdT : FuncData} (F : Fun K "_law_made_up" "_law_made_up" sMade f fd) (T : Txt K mg) (GT : FnOk P w K mg base CX0 1 fT fdT ["feed", "size"] spTakeL) (mT : mg "_law_take" = some (.ref fT)) (kT : PySem.W.keepIn K (.ref fT) = true) (bT : Binds K fdT ["feed", "size"] []) :
    FnOk P w K mg base CX0 2 f fd ["feed"] (spMade K) := by
  refine F.ok scMu (fun vs H Q E h => ?_) (fun cdv A outer s H vs Q E hr h => ?_)
  · obtain ⟨a, d, s, rfl, _⟩ := h
    rfl
  obtain ⟨a, d, s0, rfl, ha, hd, k⟩ := h
  refine ⟨_, pss_cons (ps_set (i := 1) scMu.nd rfl (.inl rfl) (pe_callTy call_tuple_ix (by rfl) T.zt (by decide +kernel) (pa_cons (pe_slice sl_list (pe_lst (pa_cons pe_str (pa_cons pe_str (pa_cons pe_str (pa_cons pe_str (pa_cons pe_str (pa_cons pe_str pa_nil))))))) po_none (po_some (pe_call GT hr rfl mT kT bT .nil pass0 (pa_cons (pv 0) (pa_cons pe_int pa_nil))))) pa_nil)))
    (pss_cons (ps_set (i := 2) scMu.nd rfl (.inl rfl) (pe_callTy call_tuple_ix (by rfl) T.zt (by decide +kernel) (pa_cons (pe_slice sl_list (pe_lst (pa_cons pe_str (pa_cons pe_str (pa_cons pe_str (pa_cons pe_str (pa_cons pe_str (pa_cons pe_str pa_nil))))))) po_none (po_some (pe_op op_add pe_int (pe_call GT hr rfl mT kT bT .nil pass0 (pa_cons (pv 0) (pa_cons pe_int pa_nil)))))) pa_nil)))
    (pss_cons (ps_set (i := 3) scMu.nd rfl (.inl rfl) (pe_lst pa_nil))
    (pss_cons (ps_for PassesOwn.never rfl (pi_tup (pv 2)) (pg_name (i := 4) scMu.nd rfl (.inl rfl))
      (pss_cons (ps_set (i := 5) scMu.nd rfl (.inl rfl) (pe_call GT hr rfl mT kT bT .nil pass0 (pa_cons (pv 0) (pa_cons (pe_op op_add (pe_callB call_len_seq (by rfl) T.zl PySem.boot_len (pa_cons (pv 3) pa_nil)) pe_int) pa_nil))))
      (pss_join (ps_if (pt_cmpR op_eq (pv 5) (pe_callB call_len_seq (by rfl) T.zl PySem.boot_len (pa_cons (pv 3) pa_nil)) (nomark _)) (pss_one (ps_expr (pe_bm PySem.F.plainAttrs_list PySem.F.slot_list_append PySem.F.type_list_append mt_append (pv 3) (pa_cons (pe_lst pa_nil) pa_nil)))) pss_nil)
      (pss_one (ps_expr (pe_bm PySem.F.plainAttrs_list PySem.F.slot_list_append PySem.F.type_list_append mt_append (pe_ix ix_list (pv 3) (pv 5) (fun _ _ => rfl)) (pa_cons (pv 4) pa_nil)))))))
    (pss_cons (ps_set (i := 6) scMu.nd rfl (.inl rfl) (pe_lst pa_nil))
    (pss_cons (ps_for PassesOwn.never rfl (pi_list (pv 3)) (pg_name (i := 7) scMu.nd rfl (.inl rfl))
      (pss_cons (ps_setLc (i := 8) (own := [("name", 9)]) (g := gName 9) (wi := iTup K (tVar 1)) rfl scMu.nd rfl rfl (sw_true rfl rfl rfl (by decide +kernel)) (pi_tup (pv 1)) (blkOk_by (own := [("name", 9)]) (N := nMu) (sc := defScope sMade) (by decide +kernel)) (fun _ _ _ _ _ => pg_name (i := 9) scMu.nd rfl (Or.inl rfl))
        (fun _ _ _ _ _ => by exact (pts_one (pt_cmpR op_eq (pe_call GT hr rfl mT kT bT .nil pass0 (pa_cons (pv 0) (pa_cons pe_int pa_nil))) pe_int (by rfl)))) (fun _ _ _ _ _ => pv 9))
      (pss_one (ps_expr (pe_bm PySem.F.plainAttrs_list PySem.F.slot_list_append PySem.F.type_list_append mt_append (pv 6) (pa_cons (pe_tup (pa_cons (pe_callTy call_tuple_of (by rfl) T.zt (by decide +kernel) (pa_cons (pv 7) pa_nil)) (pa_cons (pe_callTy call_tuple_of (by rfl) T.zt (by decide +kernel) (pa_cons (pv 8) pa_nil)) pa_nil))) pa_nil))))))
    (pss_one (ps_ret (pe_tup (pa_cons (pv 1) (pa_cons (pv 2) (pa_cons (pe_callTy call_tuple_of (by rfl) T.zt (by decide +kernel) (pa_cons (pv 6) pa_nil)) pa_nil))))))))))), ?_⟩
  have lt : ∀ {n : Nat}, n ≤ 100000 → n < sizeLine := fun h => by rw [sizeLine_eq]; omega
  -- inputs
  refine ⟨small1 (by show 6 ≤ 8; decide), fun l1 hl1 => ?_⟩
  have g1 : upd H l1 (HO.lst [V.str "i", V.str "j", V.str "k", V.str "l", V.str "m", V.str "n"]) l1 = some (.lst (insL.map V.str)) := upd_same
  have t1 := upd_new (o := HO.lst [V.str "i", V.str "j", V.str "k", V.str "l", V.str "m", V.str "n"]) hl1
  generalize upd H l1 (HO.lst [V.str "i", V.str "j", V.str "k", V.str "l", V.str "m", V.str "n"]) = H1 at g1 t1 ⊢
  have a1 := t1 _ _ ha
  refine ⟨_, rfl, a, d, s0, 7, rfl, a1, hd, by decide, by decide, fun r1 d1 s1 hd1 r10 r11 => ?_⟩
  obtain ⟨n1, rfl⟩ : ∃ n : Nat, r1 = (n : Int) := ⟨r1.toNat, by omega⟩
  have X2 : SameX a H (upd H1 a (.lst [.int d1, .int s1])) := (SameX.of t1).trans SameX.put
  have a2 : upd H1 a (.lst [.int d1, .int s1]) a = some (.lst [.int d1, .int s1]) := upd_same
  have nl1 : l1 ≠ a := (ne_of_none ha hl1).symm
  have g2 := (upd_ne (o := HO.lst [.int d1, .int s1]) (H := H1) nl1).trans g1
  generalize upd H1 a (.lst [.int d1, .int s1]) = H2 at X2 a2 g2 ⊢
  refine ⟨_, rfl, l1, _, rfl, .of g2, fun l2 hl2 => ?_⟩
  rw [cut_low, ← List.map_take]
  refine ⟨l2, _, rfl, .of upd_same, fun i oi hi0 hoc hod => ?_⟩
  have t3 := (upd_new (o := HO.lst ((insL.take n1).map V.str)) hl2).trans (upd_new (o := HO.frz oi (.tup ((insL.take n1).map V.str))) hi0)
  have i3 : IxT (upd (upd H2 l2 (.lst ((insL.take n1).map V.str))) i (.frz oi (.tup ((insL.take n1).map V.str)))) i ((insL.take n1).map V.str) := ⟨oi, upd_same, hoc, hod⟩
  generalize upd (upd H2 l2 (.lst ((insL.take n1).map V.str))) i (.frz oi (.tup ((insL.take n1).map V.str))) = H3 at t3 i3 ⊢
  have X3 := X2.trans (SameX.of t3)
  have a3 := t3 _ _ a2
  -- outputs
  refine ⟨small1 (by show 6 ≤ 8; decide), fun l3 hl3 => ?_⟩
  have g4 : upd H3 l3 (HO.lst [V.str "p", V.str "q", V.str "r", V.str "s", V.str "t", V.str "u"]) l3 = some (.lst (outL.map V.str)) := upd_same
  have t4 := upd_new (o := HO.lst [V.str "p", V.str "q", V.str "r", V.str "s", V.str "t", V.str "u"]) hl3
  have nl3 : l3 ≠ a := (ne_of_none a3 hl3).symm
  generalize upd H3 l3 (HO.lst [V.str "p", V.str "q", V.str "r", V.str "s", V.str "t", V.str "u"]) = H4 at g4 t4 ⊢
  have a4 := t4 _ _ a3
  refine ⟨_, rfl, a, d1, s1, 6, rfl, a4, hd1, by decide, by decide, fun r2 d2 s2 hd2 r20 r21 => ?_⟩
  obtain ⟨n2, rfl⟩ : ∃ n : Nat, r2 = (n : Int) := ⟨r2.toNat, by omega⟩
  have X5 : SameX a H3 (upd H4 a (.lst [.int d2, .int s2])) := (SameX.of t4).trans SameX.put
  have a5 : upd H4 a (.lst [.int d2, .int s2]) a = some (.lst [.int d2, .int s2]) := upd_same
  have g5 := (upd_ne (o := HO.lst [.int d2, .int s2]) (H := H4) nl3).trans g4
  generalize upd H4 a (.lst [.int d2, .int s2]) = H5 at X5 a5 g5 ⊢
  refine ⟨_, _, rfl, rfl, _, rfl, l3, _, rfl, .of g5, fun l4 hl4 => ?_⟩
  rw [show (1 : Int) + (n2 : Int) = ((1 + n2 : Nat) : Int) by omega, cut_low, ← List.map_take]
  refine ⟨l4, _, rfl, .of upd_same, fun o oo ho0 hpc hpd => ?_⟩
  have t6 := (upd_new (o := HO.lst ((outL.take (1 + n2)).map V.str)) hl4).trans (upd_new (o := HO.frz oo (.tup ((outL.take (1 + n2)).map V.str))) ho0)
  have o6 : IxT (upd (upd H5 l4 (.lst ((outL.take (1 + n2)).map V.str))) o (.frz oo (.tup ((outL.take (1 + n2)).map V.str)))) o ((outL.take (1 + n2)).map V.str) := ⟨oo, upd_same, hpc, hpd⟩
  generalize upd (upd H5 l4 (.lst ((outL.take (1 + n2)).map V.str))) o (.frz oo (.tup ((outL.take (1 + n2)).map V.str))) = H6 at t6 o6 ⊢
  have X36 : SameX a H3 H6 := X5.trans (SameX.of t6)
  have X6 := X3.trans X36
  have a6 := t6 _ _ a5
  have i6 := ixT_X X36 a3 i3
  have hni : ∀ x ∈ insL.take n1, isNm x = true := fun x hx => insL_nm x (List.mem_of_mem_take hx)
  have hno : ∀ x ∈ outL.take (1 + n2), isNm x = true := fun x hx => outL_nm x (List.mem_of_mem_take hx)
  have hnd : (insL.take n1 ++ outL.take (1 + n2)).Nodup := List.Nodup.sublist (List.Sublist.append (List.take_sublist _ _) (List.take_sublist _ _)) io_nd
  have hil : (insL.take n1).length ≤ 6 := by rw [List.length_take]; exact Nat.min_le_right _ _
  have hol : (outL.take (1 + n2)).length ≤ 6 := by rw [List.length_take]; exact Nat.min_le_right _ _
  have hone : outL.take (1 + n2) ≠ [] := fun e => by
    have z := congrArg List.length e
    rw [List.length_take, show outL.length = 6 from rfl] at z
    simp at z
  generalize insL.take n1 = INS at i6 hni hnd hil i3
  generalize outL.take (1 + n2) = OUTS at o6 hno hnd hol hone
  clear g1 t1 a1 X2 a2 g2 t3 X3 a3 g4 t4 a4 X5 a5 g5 t6 X36 i3
  have hon := (List.nodup_append.mp hnd).2.1
  -- groups
  refine ⟨small1 (by show 0 ≤ 8; decide), fun L hL0 => ?_⟩
  have naL : a ≠ L := ne_of_none a6 hL0
  have o7 := sqT_same (upd_new (o := HO.lst []) hL0) o6.sq (K := K)
  refine ⟨_, rfl, o, rfl, ⟨_, o7⟩, for_tup (K := K) (a := o) (xs := OUTS.map V.str) (fun m σ H' => ∃ (u4 u5 : Option V) (d s : Int) (qs : List Addr) (G : List (List Str)), σ = [some (.ref a), some (.ref i), some (.ref o), some (.ref L), u4, u5, none, none, none, none] ∧ SameX a H6 H' ∧ H' a = some (.lst [.int d, .int s]) ∧ 0 ≤ d ∧
      H' L = some (.lst (qs.map V.ref)) ∧ QsAt H6 H' L qs G ∧ Gr OUTS m G) ⟨none, none, d2, s2, [], [], rfl, (SameX.refl a H6).new hL0, (upd_ne naL).trans a6, hd2, upd_same, ⟨rfl, List.nodup_nil, fun i q g e => by cases e⟩, Gr.nil _⟩ (fun m σ H' _ q => by
        obtain ⟨_, _, _, _, _, _, _, x, _⟩ := q
        exact sqT_X x a6 o6.sq) ?turn1 ?done1⟩
  case turn1 =>
    rintro m x σ H8 hx ⟨u4, u5, d8, s8, qs, G, rfl, x8, a8, hd8, L8, Q8, G8⟩
    rw [List.getElem?_map] at hx
    obtain ⟨y, hy, rfl⟩ := Option.map_eq_some_iff.mp hx
    have hm6 : m < 6 := by
      have := (List.getElem?_eq_some_iff.mp hy).1
      omega
    have hGl := G8.len
    have hql := Q8.len
    refine ⟨_, rfl, _, rfl, L, _, rfl, .inl (.of L8), _, _, rfl, rfl, a, d8, s8, _, rfl, a8, hd8, by rw [List.length_map]; omega, by rw [List.length_map]; omega, fun r d9 s9 hd9 r0 r1 => ?_⟩
    obtain ⟨rn, rfl⟩ : ∃ n : Nat, r = (n : Int) := ⟨r.toNat, by omega⟩
    rw [List.length_map] at r1
    have hrn : rn ≤ G.length := by omega
    have x9 : SameX a H6 (upd H8 a (.lst [.int d9, .int s9])) := x8.trans SameX.put
    have a9 : upd H8 a (.lst [.int d9, .int s9]) a = some (.lst [.int d9, .int s9]) := upd_same
    have L9 := (upd_ne (o := HO.lst [.int d9, .int s9]) (H := H8) naL.symm).trans L8
    have Q9 : QsAt H6 (upd H8 a (.lst [.int d9, .int s9])) L qs G := Q8.keep fun q u e _ h => (upd_ne (ne_of_none a6 e).symm).trans h
    generalize upd H8 a (.lst [.int d9, .int s9]) = H9 at x9 a9 L9 Q9 ⊢
    refine ⟨fun σ H' => σ = [some (.ref a), some (.ref i), some (.ref o), some (.ref L), some (.str y), some (.int (rn : Int)), none, none, none, none] ∧ SameX a H6 H' ∧ H' a = some (.lst [.int d9, .int s9]) ∧ ∃ (qs' : List Addr) (G' : List (List Str)), H' L = some (.lst (qs'.map V.ref)) ∧ QsAt H6 H' L qs' G' ∧ rn < G'.length ∧ G'.set rn (G'.getD rn [] ++ [y]) = addG G rn y ∧ (G'.getD rn []).length ≤ 6, ?_, ?_⟩
    · refine ⟨_, rfl, _, rfl, L, _, rfl, .inl (.of L9), rfl, _, rfl, ?_⟩
      by_cases hc : rn = G.length
      · have e : V.int ((rn : Nat) : Int) = V.int (((qs.map V.ref).length : Nat) : Int) := by rw [List.length_map, hql, hc]
        rw [decide_eq_true e]
        refine iteT ⟨_, rfl, .inl ⟨rfl, _, .of L9⟩, small1 (by show 0 ≤ 8; decide), fun q hq => ?_⟩
        have nqL : L ≠ q := ne_of_none L9 hq
        have L10 := (upd_ne (o := HO.lst []) (H := H9) nqL).trans L9
        refine ⟨L, _, _, rfl, rfl, L10, lt (by rw [List.length_map]; omega), rfl, fun b u n e => ?_, ?_, qs ++ [q], G ++ [[]], by rw [upd_same, List.map_append]; rfl, ?_, by rw [List.length_append]; show rn < _ + 1; omega, ?_, ?_⟩
        · have z := x9 b u n e
          have nb : b ≠ L := ne_of_none e hL0
          exact (upd_ne nb).trans ((upd_ne (ne_of_none z hq)).trans z)
        · exact (upd_ne naL).trans ((upd_ne (ne_of_none a9 hq)).trans a9)
        · have hb6 : H6 q = none := by
            cases e : H6 q with
            | none => rfl
            | some u =>
              by_cases hqa : q = a
              · rw [hqa, a9] at hq
                cases hq
              · rw [x9 _ _ hqa e] at hq
                cases hq
          exact Q9.snoc hq hb6 nqL.symm (fun b u nb e => (upd_ne nb).trans ((upd_ne (ne_of_none e hq)).trans e)) ((upd_ne nqL.symm).trans upd_same)
        · unfold addG
          rw [if_pos hc, hc]
          simp
        · rw [hc]
          simp
      · have e : ¬ V.int ((rn : Nat) : Int) = V.int (((qs.map V.ref).length : Nat) : Int) := fun z => hc (by
          have z := V.int.inj z
          rw [List.length_map, hql] at z
          omega)
        rw [decide_eq_false e]
        refine iteF ⟨rfl, x9, a9, qs, G, L9, Q9, by omega, ?_, ?_⟩
        · unfold addG
          rw [if_neg hc]
        · have hlt : rn < G.length := by omega
          have hg : G.getD rn [] ∈ G := by
            rw [List.getD_eq_getElem?_getD, List.getElem?_eq_getElem hlt]
            exact List.getElem_mem hlt
          have z := congrArg List.length (G8.so _ hg)
          have z2 := List.length_filter_le (fun y => decide (y ∈ G.getD rn [])) (OUTS.take m)
          rw [List.length_take] at z2
          omega
    rintro σ H10 ⟨rfl, x10, a10, qs', G', L10, Q10, hr', eG, hgl⟩
    have hrq : rn < qs'.length := by rw [Q10.len]; exact hr'
    obtain ⟨z1, z2, z3⟩ := Q10.at_ rn _ _ (List.getElem?_eq_getElem hrq) (List.getElem?_eq_getElem hr')
    have eg : G'[rn] = G'.getD rn [] := by rw [List.getD_eq_getElem?_getD, List.getElem?_eq_getElem hr']; rfl
    rw [eg] at z3
    refine ⟨_, rfl, _, rfl, L, _, _, .ref qs'[rn], rfl, rfl, .of L10, at_of (j := rn) rfl (by rw [List.getElem?_map, List.getElem?_eq_getElem hrq]; rfl), .inl ⟨rfl, _, .of z3⟩, _, rfl, qs'[rn], _, _, rfl, rfl, z3, lt (by rw [List.length_map]; omega), some (.str y), some (.int (rn : Int)), d9, s9, qs', addG G rn y, rfl, ?_, ?_, hd9, ?_, ?_, G8.add hon hy hrn⟩
    · exact fun b u n e => (upd_ne (ne_of_none e z1)).trans (x10 b u n e)
    · exact (upd_ne (ne_of_none a6 z1)).trans a10
    · exact (upd_ne z2.symm).trans L10
    · have z := Q10.set (List.getElem?_eq_getElem hrq) (G'.getD rn [] ++ [y])
      rw [eG, List.map_append] at z
      exact z
  rintro σ H8 ⟨u4, u5, d8, s8, qs, G, rfl, x8, a8, hd8, L8, Q8, G8⟩
  rw [List.length_map] at G8
  have hGl := G8.len
  have hql := Q8.len
  have i8 := ixT_X x8 a6 i6
  have o8 := ixT_X x8 a6 o6
  -- the profile
  refine ⟨small1 (by show 0 ≤ 8; decide), fun Pr hPr => ?_⟩
  have naP : a ≠ Pr := ne_of_none a8 hPr
  refine ⟨_, rfl, L, rfl, ⟨_, .of ((upd_ne (ne_of_none L8 hPr)).trans L8)⟩, for_list (K := K) (a := L) (xs := qs.map V.ref) (fun m σ H' => ∃ (u7 u8 : Option V) (d s : Int) (ps : List Addr) (N : List (List Str)), σ = [some (.ref a), some (.ref i), some (.ref o), some (.ref L), u4, u5, some (.ref Pr), u7, u8, none] ∧ SameX a H8 H' ∧ H' a = some (.lst [.int d, .int s]) ∧ 0 ≤ d ∧
      H' Pr = some (.lst (ps.map V.ref)) ∧ StepsAt K H' ps ((G.take m).zip N) ∧ N.length = m ∧ ∀ n ∈ N, n.Sublist INS) ⟨none, none, d8, s8, [], [], rfl, (SameX.refl a H8).new hPr, (upd_ne naP).trans a8, hd8, upd_same, by rw [List.zip_nil_right]; exact .nil, rfl, fun n hn => by cases hn⟩ (fun m σ H' _ q => by
        obtain ⟨_, _, _, _, _, _, _, x, _⟩ := q
        exact .of (x _ _ naL.symm L8)) ?turn2 ?done2⟩
  case turn2 =>
    rintro m x σ H9 hx ⟨u7, u8, d9, s9, ps, N, rfl, x9, a9, hd9, p9, k9, hN, hNs⟩
    rw [List.getElem?_map] at hx
    obtain ⟨q, hq, rfl⟩ := Option.map_eq_some_iff.mp hx
    have hmq := (List.getElem?_eq_some_iff.mp hq).1
    have hmG : m < G.length := by omega
    have hg : G[m]? = some G[m] := List.getElem?_eq_getElem hmG
    generalize G[m] = g at hg
    obtain ⟨z1, z2, z3⟩ := Q8.at_ m q g hq hg
    have nqa : q ≠ a := (ne_of_none a6 z1).symm
    have q9 := x9 _ _ nqa z3
    -- needs
    have i9 := sqT_X x9 a8 (i8.sq (K := K))
    refine ⟨_, rfl, i, rfl, ⟨_, i9⟩, fun D hD => ?_⟩
    have naD : a ≠ D := ne_of_none a9 hD
    refine out_it (walk_tup (xs := INS.map V.str)) (fun j H' => SameX a H9 H' ∧ ∃ (d s : Int) (n : List Str), H' a = some (.lst [.int d, .int s]) ∧ 0 ≤ d ∧ H' D = some (.lst (n.map V.str)) ∧ n.Sublist (INS.take j) ∧ n.length ≤ j) ⟨(SameX.refl a H9).new hD, d9, s9, [], (upd_ne naD).trans a9, hd9, upd_same, List.nil_sublist _, Nat.zero_le _⟩ (fun j H' _ z => sqT_X z.1 a9 i9) ?_ ?_
    · rintro j x H10 H11 hj ⟨x10, d10, s10, n, a10, hd10, e10, hsub, hnl⟩ ⟨rfl, hx⟩
      rw [List.getElem?_map] at hx
      obtain ⟨y, hy, rfl⟩ := Option.map_eq_some_iff.mp hx
      have hj6 : j < 6 := by
        have := (List.getElem?_eq_some_iff.mp hy).1
        omega
      refine ⟨rfl, _, rfl, a, d10, s10, 3, rfl, a10, hd10, by decide, by decide, fun r d11 s11 hd11 r0 r1 => ?_⟩
      have x11 : SameX a H9 (upd H11 a (.lst [.int d11, .int s11])) := x10.trans SameX.put
      have a11 : upd H11 a (.lst [.int d11, .int s11]) a = some (.lst [.int d11, .int s11]) := upd_same
      have e11 := (upd_ne (o := HO.lst [.int d11, .int s11]) (H := H11) naD.symm).trans e10
      generalize upd H11 a (.lst [.int d11, .int s11]) = H12 at x11 a11 e11 ⊢
      refine ⟨rfl, _, rfl, ?_⟩
      rw [tk1 hy]
      by_cases hr0 : r = 0
      · rw [decide_eq_true (congrArg V.int hr0)]
        refine iteT ⟨_, rfl, _, e11, lt (by rw [List.length_map]; omega), x11.new hD, d11, s11, n ++ [y], (upd_ne naD).trans a11, hd11, by rw [upd_same, List.map_append]; rfl, hsub.append (List.Sublist.refl _), by rw [List.length_append]; show _ + 1 ≤ _; omega⟩
      · rw [decide_eq_false (fun z => hr0 (V.int.inj z))]
        exact iteF ⟨x11, d11, s11, n, a11, hd11, e11, hsub.trans (List.sublist_append_left _ _), by omega⟩
    rintro H10 ⟨x10, d10, s10, n, a10, hd10, e10, hsub, hnl⟩
    rw [List.length_map, List.take_length] at hsub
    rw [List.length_map] at hnl
    have q10 := x10 _ _ nqa q9
    have p10 := x10 _ _ naP.symm p9
    have k10 := k9.X x10 a9
    -- append
    refine ⟨_, rfl, .inl ⟨rfl, _, .of p10⟩, _, rfl, q, _, rfl, .inl ⟨.of q10, fun t1 ht1 => ⟨_, rfl, D, _, rfl, .inl ⟨.of ((upd_new ht1) _ _ e10), fun t2 ht2 => ⟨small1 (by show 2 ≤ 8; decide), fun t3 ht3 => ?_⟩⟩⟩⟩⟩
    have y1 := (upd_new (o := HO.tup (g.map V.str)) ht1).trans ((upd_new (o := HO.tup (n.map V.str)) ht2).trans (upd_new (o := HO.tup [V.ref t1, V.ref t2]) ht3))
    have w1 : StepAt K (upd (upd (upd H10 t1 (HO.tup (g.map V.str))) t2 (HO.tup (n.map V.str))) t3 (HO.tup [V.ref t1, V.ref t2])) t3 (g, n) := ⟨t1, t2, .of upd_same, .of ((upd_new ht3) _ _ ((upd_new ht2) _ _ upd_same)), .of ((upd_new ht3) _ _ upd_same)⟩
    generalize upd (upd (upd H10 t1 (HO.tup (g.map V.str))) t2 (HO.tup (n.map V.str))) t3 (HO.tup [V.ref t1, V.ref t2]) = H11 at y1 w1 ⊢
    have p11 := y1 _ _ p10
    have hpl : ps.length ≤ 6 := by
      rw [k9.1, List.length_zip, List.length_take]
      omega
    refine ⟨Pr, _, _, rfl, rfl, p11, lt (by rw [List.length_map]; omega), some (.ref q), some (.ref D), d10, s10, ps ++ [t3], N ++ [n], rfl, ?_, (upd_ne naP).trans (y1 _ _ a10), hd10, by rw [upd_same, List.map_append]; rfl, ?_, by rw [List.length_append, hN]; rfl, fun v hv => ?_⟩
    · exact (x9.trans (x10.trans (SameX.of y1))).new hPr
    · rw [tk1 hg, List.zip_append (by rw [List.length_take, hN]; omega)]
      exact ((k10.same y1).snoc w1).updL p11
    · rcases List.mem_append.mp hv with z | z
      · exact hNs v z
      · rw [List.mem_singleton.mp z]
        exact hsub
  rintro σ H9 ⟨u7, u8, d9, s9, ps, N, rfl, x9, a9, hd9, p9, k9, hN, hNs⟩
  rw [List.length_map, hql] at hN k9
  rw [List.take_length] at k9
  have i9 := ixT_X x9 a8 i8
  have o9 := ixT_X x9 a8 o8
  refine ⟨_, rfl, _, rfl, _, rfl, Pr, _, rfl, .inl ⟨.of p9, fun p2 hp2 => ⟨small1 (by show 3 ≤ 8; decide), fun v2 hv2 => ?_⟩⟩⟩
  have y1 := (upd_new (o := HO.tup (ps.map V.ref)) hp2).trans (upd_new (o := HO.tup [V.ref i, V.ref o, V.ref p2]) hv2)
  exact k v2 ⟨INS, OUTS, G.zip N⟩ d9 s9 _ (X6.trans (x8.trans (x9.trans (SameX.of y1)))) (y1 _ _ a9) hd9 ⟨i, o, p2, ps, .of upd_same, sqT_same y1 i9.sq, ixT_same y1 o9, .of ((upd_new hv2) _ _ upd_same), k9.same y1⟩ (made_ok hni hno hnd hil hol G8 hN hNs) hone
end
end K71
namespace K71
open PySem L2 Own StX ClX NdefX PyProof.Rows
def Asc (x : Str) : Prop := ∀ c ∈ x.cps.toList, c < 128
theorem sl (a b : Str) : (a ++ b).length = a.length + b.length := by rw [TL.len_tl, TL.len_tl a, TL.len_tl b, TL.tl_append, List.length_append]
theorem asc_nm {x : Str} (h : isNm x = true) : Asc x := fun c hc => by
  unfold isNm at h
  rw [Bool.and_eq_true] at h
  have z := List.all_eq_true.mp h.2 c hc
  unfold isL at z
  rw [Bool.and_eq_true, decide_eq_true_eq, decide_eq_true_eq] at z
  omega
theorem depths {l : List PyData} {n : Nat} (h : ∀ d ∈ l, d.depth ≤ n) : PyData.depthAll l ≤ n := by
  induction l with
  | nil => simp [PyData.depthAll]
  | cons d r ih =>
    have h1 := h d List.mem_cons_self
    have h2 := ih fun e he => h e (List.mem_cons_of_mem _ he)
    simp only [PyData.depthAll]
    omega
theorem jn_len : ∀ ts : List Str, (Str.join ", " ts).length ≤ (ts.map fun t => t.length + 2).sum
  | [] => Nat.zero_le _
  | t :: r => by
    have z := join_length_add (t :: r) (by simp)
    have p : piled (t :: r) = ((t :: r).map fun t => t.length + 2).sum := rfl
    omega
theorem tup_len (ts : List Str) : (tupleText ts).length ≤ (ts.map fun t => t.length + 2).sum + 3 := by
  unfold tupleText
  rw [sl, sl]
  have h1 := jn_len ts
  have h2 : (("(" : Str)).length = 1 := by decide +kernel
  have h3 : ((if ts.length == 1 then ",)" else ")" : String) : Str).length ≤ 2 := by
    split <;> decide +kernel
  omega
theorem shownAll_map : ∀ l : List PyData, PyData.shownAll l = l.map PyData.shown
  | [] => by simp [PyData.shownAll]
  | d :: r => by simp [PyData.shownAll, shownAll_map r]
theorem shown_tup {l : List PyData} {c n : Nat} (h : ∀ d ∈ l, d.shown.length ≤ c) (hn : l.length ≤ n) : (PyData.tuple l).shown.length ≤ n * (c + 2) + 3 := by
  have q := tup_len (PyData.shownAll l)
  have e : (PyData.tuple l).shown = tupleText (PyData.shownAll l) := by simp [PyData.shown]
  rw [e]
  rw [shownAll_map] at q ⊢
  have s : ∀ (m : List PyData) (k : Nat), m.length ≤ k → (∀ d ∈ m, d.shown.length ≤ c) → ((m.map PyData.shown).map fun t => t.length + 2).sum ≤ k * (c + 2) := fun m => by
    induction m with
    | nil => exact fun k _ _ => Nat.zero_le _
    | cons d r ih =>
      intro k hk hm
      cases k with
      | zero => cases hk
      | succ k =>
        have i := ih k (Nat.le_of_succ_le_succ hk) fun z hz => hm z (List.mem_cons_of_mem _ hz)
        have g := hm d List.mem_cons_self
        rw [List.map_cons, List.map_cons, List.sum_cons, Nat.succ_mul]
        omega
  have := s l n hn h
  omega
theorem shown_str {x : Str} {n : Nat} (h : x.length ≤ n) (a : Asc x) : (PyData.str x).shown.length ≤ 10 * n + 2 := by
  have e : (PyData.str x).shown = reprText x := by simp [PyData.shown]
  rw [e]
  have := PySem.StrLaws.reprText_len x fun c hc => Nat.lt_of_lt_of_le (a c hc) (by decide)
  omega
theorem showables {l : List PyData} (h : ∀ d ∈ l, d.showable = true) : PyData.showableAll l = true := by
  induction l with
  | nil => simp [PyData.showableAll]
  | cons d r ih => simp [PyData.showableAll, h d List.mem_cons_self, ih fun e he => h e (List.mem_cons_of_mem _ he)]
theorem hasDicts {l : List PyData} (h : ∀ d ∈ l, d.hasDict = false) : PyData.hasDictAll l = false := by
  induction l with
  | nil => simp [PyData.hasDictAll]
  | cons d r ih => simp [PyData.hasDictAll, h d List.mem_cons_self, ih fun e he => h e (List.mem_cons_of_mem _ he)]
structure Sh (n c : Nat) (x : PyData) : Prop where
  s : x.showable = true
  h : x.hasDict = false
  d : x.depth ≤ n
  l : x.shown.length ≤ c
theorem Sh.str {x : Str} {n : Nat} (h : x.length ≤ n) (a : Asc x) : Sh 0 (10 * n + 2) (.str x) := ⟨by simp [PyData.showable], by simp [PyData.hasDict], by simp [PyData.depth], shown_str h a⟩
theorem Sh.tup {l : List PyData} {k c n : Nat} (h : ∀ d ∈ l, Sh k c d) (hn : l.length ≤ n) : Sh (k + 1) (n * (c + 2) + 3) (.tuple l) := by
  refine ⟨?_, ?_, ?_, shown_tup (fun d hd => (h d hd).l) hn⟩
  · simp only [PyData.showable]
    exact showables fun d hd => (h d hd).s
  · simp only [PyData.hasDict]
    exact hasDicts fun d hd => (h d hd).h
  · have := depths fun d hd => (h d hd).d
    simp only [PyData.depth]
    omega
theorem Sh.mono {n m c e : Nat} {d : PyData} (h : Sh n c d) (a : n ≤ m) (b : c ≤ e) : Sh m e d := ⟨h.s, h.h, Nat.le_trans h.d a, Nat.le_trans h.l b⟩
def ifD (f : If) : PyData := .tuple [.tuple (f.ins.map .str), .tuple (f.outs.map .str), .tuple (f.prof.map fncD)]
theorem sh_names {l : List Str} (h : ∀ x ∈ l, isNm x = true) (hl : l.length ≤ 6) : Sh 1 600 (.tuple (l.map .str)) :=
  (Sh.tup (k := 0) (c := 82) (n := 6) (fun d hd => by
    obtain ⟨x, hx, rfl⟩ := List.mem_map.mp hd
    exact Sh.str (isNm_len (h x hx)).2 (asc_nm (h x hx))) (by rw [List.length_map]; exact hl)).mono (by decide) (by decide)
theorem sh_if {f : If} (ok : OkI f) : Sh 60 100000 (ifD f) := by
  have p : Sh 3 10000 (.tuple (f.prof.map fncD)) := (Sh.tup (k := 2) (c := 1300) (n := 6) (fun e he => by
    obtain ⟨s, hs, rfl⟩ := List.mem_map.mp he
    obtain ⟨k1, k2⟩ := ok.fn hs
    obtain ⟨l1, l2⟩ := ok.sl hs
    exact (Sh.tup (k := 1) (c := 600) (n := 2) (fun e he => by
      simp only [List.mem_cons, List.not_mem_nil, or_false] at he
      rcases he with rfl | rfl
      · exact sh_names k1 l1
      · exact sh_names k2 l2) (Nat.le_refl _)).mono (by decide) (by decide)) (by rw [List.length_map]; exact ok.pl)).mono (by decide) (by decide)
  have z : Sh 4 (3 * (10000 + 2) + 3) (ifD f) := Sh.tup (k := 3) (c := 10000) (n := 3) (fun e he => by
    simp only [List.mem_cons, List.not_mem_nil, or_false] at he
    rcases he with rfl | rfl | rfl
    · exact (sh_names ok.ni ok.il).mono (by decide) (by decide)
    · exact (sh_names ok.no ok.ol).mono (by decide) (by decide)
    · exact p) (Nat.le_refl _)
  exact z.mono (by decide) (by decide)
theorem lays {l : List PyData} (h : ∀ d ∈ l, d.canLay0 = true) : PyData.canLayAll0 l = true := by
  induction l with
  | nil => simp [PyData.canLayAll0]
  | cons d r ih => simp [PyData.canLayAll0, h d List.mem_cons_self, ih fun e he => h e (List.mem_cons_of_mem _ he)]
theorem if_shaped {f : If} (ok : OkI f) : SeqAt.shaped (ifD f) = true := by
  have h1 := (sh_if ok).d
  obtain ⟨a, _⟩ := names_lay f.ins ok.ni
  obtain ⟨b, _⟩ := names_lay f.outs ok.no
  have c : PyData.canLayAll0 (f.prof.map fncD) = true := lays fun d hd => by
    obtain ⟨s, hs, rfl⟩ := List.mem_map.mp hd
    exact (fncD_lay (ok.fn hs)).1
  obtain ⟨_, a2⟩ := names_lay f.ins ok.ni
  obtain ⟨_, b2⟩ := names_lay f.outs ok.no
  have c2 : PyData.depthAll (f.prof.map fncD) ≤ 4 := depths fun d hd => by
    obtain ⟨s, hs, rfl⟩ := List.mem_map.mp hd
    exact (fncD_lay (ok.fn hs)).2
  unfold SeqAt.shaped
  rw [Bool.and_eq_true]
  refine ⟨by simp only [ifD, PyData.canLay0, PyData.canLayAll0, a, b, c, Bool.and_self], decide_eq_true ?_⟩
  simp only [ifD, PyData.depth, PyData.depthAll]
  omega
theorem dp_steps {K : PySem.W.Frag} {H : Hp} : ∀ (as : List Addr) (ps : List Fnc), StepsAt K H as ps → DpAll K H (as.map V.ref) (ps.map fncD)
  | [], [], _ => .nil
  | [], _ :: _, h => by cases h.1
  | _ :: _, [], h => by cases h.1
  | a :: as, p :: ps, h => .cons (h.2 0 a p rfl rfl).dp (dp_steps as ps ⟨Nat.succ.inj h.1, fun i c q e1 e2 => h.2 (i + 1) c q e1 e2⟩)
theorem IfAt.dp {K : PySem.W.Frag} {H : Hp} {v : Addr} {f : If} (h : IfAt K H v f) : Dp K H (.ref v) (ifD f) := by
  obtain ⟨i, o, p, as, h1, h2, h3, h4, h5⟩ := h
  exact .tup h1 (.cons (.tup h2 (dp_strs _)) (.cons (.tup h3.sq (dp_strs _)) (.cons (.tup h4 (dp_steps _ _ h5)) .nil)))
end K71
namespace K71
open PySem L2 Own StX ClX NdefX
def spLaw (K : PySem.W.Frag) : Sp := fun vs H Q _ => ∃ (a : Addr) (ns : List Int), vs = [.ref a] ∧ SqL K H a (ns.map V.int) ∧ ns.length ≤ 63 ∧ ∀ H', Q (.bl true) H'
theorem same_of {p : Addr} {H H1 H2 : Hp} (s : Same H H1) (x : SameX p H1 H2) (h : H p = none) : Same H H2 := fun b u e => x b u (ne_of_none e h) (s b u e)
theorem ne_str {a b : Str} (h : a = b) {A B : Prop} (q : B) : if (!decide (V.str a = V.str b)) = true then A else B := by
  rw [decide_eq_true (congrArg V.str h)]
  exact iteF q
section
variable {P : Program} {w : World} {K : PySem.W.Frag} {mg : Str → Option Value} {base : Heap}
abbrev nL : List Str := ["script", "k", "feed", "interface", "turn", "first", "second", "found"]
theorem scL : FnScope nL ["script"] (defScope sLaw) := ⟨rfl, rfl, rfl, by decide +kernel, rfl, by decide +kernel, by decide +kernel⟩
theorem ok_law {f fF fU fK fM fD fI : Addr} {fd fdF fdU fdK fdM fdD fdI : FuncData} (F : Fun K "law" "law" sLaw f fd) (T : Txt K mg)
    (GF : FnOk P w K mg base CX0 1 fF fdF ["script", "index"] (spFeed K)) (mF : mg "_law_feed" = some (.ref fF)) (kF : PySem.W.keepIn K (.ref fF) = true) (bF : Binds K fdF ["script", "index"] [])
    (GU : FnOk P w K mg base CX0 2 fU fdU ["feed"] (spMade K)) (mU : mg "_law_made_up" = some (.ref fU)) (kU : PySem.W.keepIn K (.ref fU) = true) (bU : Binds K fdU ["feed"] [])
    (GK : FnOk P w K mg base CX0 2 fK fdK ["feed", "options"] spPick) (GKT : FnOk P w K mg base CX0 2 fK fdK ["feed", "options"] (spPickT K)) (mK : mg "_law_pick" = some (.ref fK)) (kK : PySem.W.keepIn K (.ref fK) = true) (bK : Binds K fdK ["feed", "options"] [])
    (GM : FnOk P w K mg base CX0 1 fM fdM ["interface", "first", "second"] (spMerged K)) (mM : mg "merged" = some (.ref fM)) (kM : PySem.W.keepIn K (.ref fM) = true) (bM : Binds K fdM ["interface", "first", "second"] [])
    (GD : FnOk P w K mg base CX0 1 fD fdD ["interface", "first", "second"] (spDue K)) (mD : mg "_law_due" = some (.ref fD)) (kD : PySem.W.keepIn K (.ref fD) = true) (bD : Binds K fdD ["interface", "first", "second"] [])
    (GI : FnOk P w K mg base CX0 3 fI fdI ["value"] (spIface K)) (mI : mg "is_interface" = some (.ref fI)) (kI : PySem.W.keepIn K (.ref fI) = true) (bI : Binds K fdI ["value"] [])
    (mlen : mg "len" = none) (mmax : mg "max" = none) (mmin : mg "min" = none) (mrange : mg "range" = none) (mrepr : mg "repr" = none) : FnG P w K mg base CX0 4 f fd ["script"] (spLaw K) := by
  refine fun_okG F scL (fun vs H Q E h => ?_) (fun cdv A outer s H vs Q E hg hr h => ?_)
  · obtain ⟨a, ns, rfl, _⟩ := h
    rfl
  obtain ⟨a, ns, rfl, hS, hlen, k⟩ := h
  have hr1 := hr.mono (show 1 ≤ 3 by decide)
  have hr2 := hr.mono (show 2 ≤ 3 by decide)
  have hu := hr.units
  refine ⟨_, pss_cons (ps_for PassesOwn.never rfl (pi_range1 rfl mrange (pa_cons (pe_callB (call_max2 rfl) (by rfl) mmax (by decide +kernel) (pa_cons pe_int (pa_cons (pe_callB (call_min2 rfl) (by rfl) mmin (by decide +kernel) (pa_cons pe_int (pa_cons (pe_callB call_len_seq (by rfl) mlen PySem.boot_len (pa_cons (pv 0) pa_nil)) pa_nil))) pa_nil))) pa_nil)) (pg_name (i := 1) scL.nd rfl (.inl rfl))
      (pss_cons (ps_set (i := 2) scL.nd rfl (.inl rfl) (pe_call GF hr1 rfl mF kF bF .nil pass0 (pa_cons (pv 0) (pa_cons (pv 1) pa_nil))))
      (pss_cons (ps_set (i := 3) scL.nd rfl (.inl rfl) (pe_call GU hr2 rfl mU kU bU .nil pass0 (pa_cons (pv 2) pa_nil)))
      (pss_one (ps_for PassesOwn.never rfl (pi_range1 rfl mrange (pa_cons pe_int pa_nil)) (pg_name (i := 4) scL.nd rfl (.inl rfl))
        (pss_cons (ps_par (i := 5) (j := 6) rfl scL.nd rfl rfl (by decide) rfl rfl (pa_cons (pe_call GKT hr2 rfl mK kK bK .nil pass0 (pa_cons (pv 2) (pa_cons (pe_ix ix_tup (pv 3) pe_int (fun _ _ => rfl)) pa_nil))) (pa_cons (pe_call GKT hr2 rfl mK kK bK .nil pass0 (pa_cons (pv 2) (pa_cons (pe_ix ix_tup (pv 3) pe_int (fun _ _ => rfl)) pa_nil))) pa_nil)) rfl)
        (pss_cons (ps_set (i := 7) scL.nd rfl (.inl rfl) (pe_call GM hr1 rfl mM kM bM .nil pass0 (pa_cons (pv 3) (pa_cons (pv 5) (pa_cons (pv 6) pa_nil)))))
        (pss_cons (ps_if (PW.pt (pw_or (pt_cmpR op_ne (pe_callB (call_reprD hg hu) (by rfl) mrepr (by decide +kernel) (pa_cons (pv 7) pa_nil)) (pe_callB (call_reprD hg hu) (by rfl) mrepr (by decide +kernel) (pa_cons (pe_call GD hr1 rfl mD kD bD .nil pass0 (pa_cons (pv 3) (pa_cons (pv 5) (pa_cons (pv 6) pa_nil)))) pa_nil)) (nomark _))
            (pw_or1 (pt_cmpR op_notBl (pe_call GI hr rfl mI kI bI .nil pass0 (pa_cons (pv 7) pa_nil)) pe_bl (nomark _))))) (pss_one (ps_ret pe_bl)) pss_nil)
        (pss_cons (ps_if (PW.pt (pw_or (pt_cmpR (op_neD hu) (pe_call GM hr1 rfl mM kM bM .nil pass0 (pa_cons (pv 3) (pa_cons (pv 6) (pa_cons (pv 5) pa_nil)))) (pv 7) (nomark _))
            (pw_or1 (pt_cmpR (op_neD hu) (pe_call GM hr1 rfl mM kM bM .nil pass0 (pa_cons (pv 7) (pa_cons (pv 5) (pa_cons (pv 6) pa_nil)))) (pv 7) (nomark _))))) (pss_one (ps_ret pe_bl)) pss_nil)
        (pss_one (ps_set (i := 3) scL.nd rfl (.inl rfl) (pe_call GK hr2 rfl mK kK bK .nil pass0 (pa_cons (pv 2) (pa_cons (pe_lst (pa_cons (pv 3) (pa_cons (pv 7) pa_nil))) pa_nil))))))))))))))
    (pss_one (ps_ret pe_bl)), ?_⟩
  refine ⟨_, rfl, a, _, rfl, .inl hS, _, _, rfl, _, _, rfl, _, rfl, by split <;> split <;> omega, by split <;> split <;> omega, ?_⟩
  refine for_range (lo := 0) (fun i σ H1 => ∃ v1 v2 v3 v4 v5 v6 v7, σ = [some (.ref a), v1, v2, v3, v4, v5, v6, v7] ∧ Same H H1) ⟨_, _, _, _, _, _, _, rfl, Same.refl _⟩ ?turn1 ?done1
  case done1 =>
    rintro σ H1 ⟨v1, v2, v3, v4, v5, v6, v7, rfl, s1⟩
    exact k H1
  rintro i σ H1 hi ⟨v1, v2, v3, v4, v5, v6, v7, rfl, s1⟩
  have hi7 : i < 7 := by
    have hi := hi
    rw [List.length_map] at hi
    split at hi <;> split at hi <;> omega
  refine ⟨_, rfl, _, rfl, a, ns, _, rfl, s1.seq hS, by omega, by omega, fun p d st hd hp => ?_⟩
  have s2 : Same H (upd H1 p (.lst [.int d, .int st])) := s1.trans (upd_new hp)
  have a2 : upd H1 p (.lst [.int d, .int st]) p = some (.lst [.int d, .int st]) := upd_same
  have hHp : H p = none := s1.free hp
  generalize upd H1 p (.lst [.int d, .int st]) = H2 at s2 a2 ⊢
  refine ⟨_, rfl, p, d, st, rfl, a2, hd, fun v f d3 st3 H3 x3 a3 hd3 hI ok hne => ?_⟩
  have s3 := same_of s2 x3 hHp
  refine ⟨3, rfl, by decide, by decide, ?_⟩
  refine for_range (lo := 0) (n := 3) (fun m σ H' => ∃ (v4 v5 v6 v7 : Option V) (v : Addr) (f : If) (d s : Int), σ = [some (.ref a), some (.int (0 + (i : Int))), some (.ref p), some (.ref v), v4, v5, v6, v7] ∧ Same H H' ∧ H' p = some (.lst [.int d, .int s]) ∧ 0 ≤ d ∧ IfAt K H' v f ∧ OkI f ∧ f.outs ≠ []) ⟨_, _, _, _, v, f, d3, st3, rfl, s3, a3, hd3, hI, ok, hne⟩ ?turn2 ?done2
  case done2 =>
    rintro σ H' ⟨w4, w5, w6, w7, v, f, d, s, rfl, s', _⟩
    exact ⟨_, _, _, _, _, _, _, rfl, s'⟩
  rintro m σ H4 hm ⟨w4, w5, w6, w7, v, f, d4, st4, rfl, s4, a4, hd4, hI, ok, hne⟩
  obtain ⟨i0, o0, p0, as0, hv, hin, ho, hpr, hst⟩ := id hI
  have hol := ok.ol
  have hop : 0 < (f.outs.map V.str).length := by
    rw [List.length_map]
    exact List.length_pos_iff.mpr hne
  have hol1 : (f.outs.map V.str).length ≤ 1000 := by rw [List.length_map]; omega
  have pick : ∀ {j : Nat} {x : V}, (f.outs.map V.str)[j]? = some x → ∃ y, x = .str y ∧ y ∈ f.outs := fun {j x} e => by
    rw [List.getElem?_map] at e
    obtain ⟨y, hy, rfl⟩ := Option.map_eq_some_iff.mp e
    exact ⟨y, rfl, List.mem_of_getElem? hy⟩
  refine ⟨_, rfl, _, rfl, v, _, 1, _, rfl, rfl, hv, rfl, p, o0, d4, st4, f.outs.map V.str, rfl, a4, hd4, ho.sq, hop, hol1, fun j1 x1 d5 st5 hx1 hd5 => ?_⟩
  obtain ⟨y1, rfl, m1⟩ := pick hx1
  have X5 : SameX p H4 (upd H4 p (.lst [.int d5, .int st5])) := SameX.put
  have a5 : upd H4 p (.lst [.int d5, .int st5]) p = some (.lst [.int d5, .int st5]) := upd_same
  generalize upd H4 p (.lst [.int d5, .int st5]) = H5 at X5 a5 ⊢
  have hv5 := sqT_X X5 a4 hv
  have ho5 := ixT_X X5 a4 ho
  have hI5 := hI.X X5 a4
  have s5 := same_of s4 X5 hHp
  refine ⟨_, rfl, _, rfl, v, _, 1, _, rfl, rfl, hv5, rfl, p, o0, d5, st5, f.outs.map V.str, rfl, a5, hd5, ho5.sq, hop, hol1, fun j2 x2 d6 st6 hx2 hd6 => ?_⟩
  obtain ⟨y2, rfl, m2⟩ := pick hx2
  have X6 : SameX p H5 (upd H5 p (.lst [.int d6, .int st6])) := SameX.put
  have a6 : upd H5 p (.lst [.int d6, .int st6]) p = some (.lst [.int d6, .int st6]) := upd_same
  generalize upd H5 p (.lst [.int d6, .int st6]) = H6 at X6 a6 ⊢
  have hI6 := hI5.X X6 a5
  have s6 := same_of s5 X6 hHp
  clear hI hv hin ho hpr hst hv5 ho5 hI5 X5 X6 hx1 hx2
  obtain ⟨okM, oM, iM, mM2⟩ := merge_ok ok m1 m2
  have hdue := due_merge ok m1 m2
  have hsw := merge_swap f y1 y2
  -- merged
  refine ⟨_, _, rfl, _, rfl, _, rfl, _, rfl, v, f, y1, y2, rfl, hI6, ok, m1, m2, fun u H7 s7 hU => ?_⟩
  have sh := sh_if okM
  have shl : (ifD (mergeI f y1 y2)).shown.length ≤ sizeLine := Nat.le_trans sh.l (by rw [sizeLine_eq]; decide)
  have shp := if_shaped okM
  have eqs := eqv_shaped shp
  refine ⟨_, rfl, u, ifD (mergeI f y1 y2), rfl, hU.dp, sh.s, sh.h, sh.d, shl, ?_⟩
  refine ⟨_, rfl, _, rfl, _, rfl, v, f, y1, y2, rfl, hI6.same s7, ok, m1, m2, fun w1 H8 s8 hW => ?_⟩
  rw [hdue] at hW
  have dW := hW.dp
  have shs := sh.s
  have shh := sh.h
  have shd := sh.d
  refine ⟨w1, ifD (mergeI f y1 y2), rfl, dW, shs, shh, shd, shl, rfl, _, rfl, ne_str rfl ?_⟩
  have hU8 := hU.same s8
  refine ⟨_, rfl, u, mergeI f y1 y2, rfl, hU8, okM, fun H9 s9 => ⟨true, true, rfl, rfl, _, rfl, iteF ?_⟩⟩
  have hU9 := hU8.same s9
  have hI9 := hI6.same (s7.trans (s8.trans s9))
  -- once more
  refine ⟨_, rfl, _, rfl, _, rfl, v, f, y2, y1, rfl, hI9, ok, m2, m1, fun w2 H10 s10 hW2 => ?_⟩
  rw [hsw] at hW2
  have hU10 := hU9.same s10
  refine ⟨_, rfl, ifD (mergeI f y1 y2), ifD (mergeI f y1 y2), hW2.dp, hU10.dp, shp, shp, _, rfl, ?_⟩
  rw [eqs]
  refine iteF ⟨_, rfl, _, rfl, _, rfl, u, mergeI f y1 y2, y1, y2, rfl, hU10, okM, by rw [oM]; exact m1, by rw [oM]; exact m2, fun w3 H11 s11 hW3 => ?_⟩
  rw [mM2] at hW3
  have hU11 := hU10.same s11
  refine ⟨_, rfl, ifD (mergeI f y1 y2), ifD (mergeI f y1 y2), hW3.dp, hU11.dp, shp, shp, _, rfl, ?_⟩
  rw [eqs]
  have s611 := s7.trans (s8.trans (s9.trans (s10.trans s11)))
  have a11 := s611 _ _ a6
  have hI11 := hI6.same s611
  -- the next one
  refine iteF ⟨_, rfl, _, rfl, _, rfl, small1 (by show 2 ≤ 8; decide), fun l hl => ?_⟩
  have t12 := upd_new (o := HO.lst [V.ref v, V.ref u]) hl
  refine ⟨p, l, d6, st6, _, rfl, t12 _ _ a11, hd6, ne_of_none a11 hl, upd_same, by show 0 < 2; decide, by show 2 ≤ 1000; decide, fun j x d7 st7 hx hd7 => ?_⟩
  have X12 : SameX p (upd H11 l (.lst [.ref v, .ref u])) (upd (upd H11 l (.lst [.ref v, .ref u])) p (.lst [.int d7, .int st7])) := SameX.put
  have sF : Same H (upd (upd H11 l (.lst [.ref v, .ref u])) p (.lst [.int d7, .int st7])) := same_of (s6.trans (s611.trans t12)) X12 hHp
  have aF : upd (upd H11 l (.lst [.ref v, .ref u])) p (.lst [.int d7, .int st7]) p = some (.lst [.int d7, .int st7]) := upd_same
  match j, hx with
  | 0, hx =>
    have e := Option.some.inj hx
    subst e
    exact ⟨_, _, _, _, v, f, d7, st7, rfl, sF, aF, hd7, (hI11.same t12).X X12 (t12 _ _ a11), ok, hne⟩
  | 1, hx =>
    have e := Option.some.inj hx
    subst e
    exact ⟨_, _, _, _, u, mergeI f y1 y2, d7, st7, rfl, sF, aF, hd7, (hU11.same t12).X X12 (t12 _ _ a11), okM, by rw [oM]; exact hne⟩
end
end K71
namespace K71
open PySem L2 Own StX ClX NdefX
theorem all_mk {w : World} {K : PySem.W.Frag} {h : Heap} {mg : Str → Option Value} {fa C : Addr} (X : K.In h) (G : h.Ns mainGlobals mg) (hfa : mg "law" = some (.ref fa))
    {fNA : Addr} {odNA anNA : Option Addr} {slNA : Array (Option Value)} {ocNA kVNA dcNA pmNA cdNA ctNA : Value} {fPN : Addr} {odPN anPN : Option Addr} {slPN : Array (Option Value)} {ocPN kVPN dcPN pmPN cdPN ctPN : Value} {fIF : Addr} {odIF anIF : Option Addr} {slIF : Array (Option Value)} {ocIF kVIF dcIF pmIF cdIF ctIF : Value} {fSF : Addr} {odSF anSF : Option Addr} {slSF : Array (Option Value)} {ocSF kVSF dcSF pmSF cdSF ctSF : Value} {fSE : Addr} {odSE anSE : Option Addr} {slSE : Array (Option Value)} {ocSE kVSE dcSE pmSE cdSE ctSE : Value} {fME : Addr} {odME anME : Option Addr} {slME : Array (Option Value)} {ocME kVME dcME pmME cdME ctME : Value} {tv8 : Tok} {tkL tkE : Tok} {dE : Addr} {nE : Nat} {ddE : Option Addr} {slE : Array (Option Value)} {tE1 tE2 tE3 tE4 : Tok} {fFE : Addr} {odFE anFE : Option Addr} {slFE : Array (Option Value)} {ocFE kVFE dcFE pmFE cdFE ctFE : Value} {fTK : Addr} {odTK anTK : Option Addr} {slTK : Array (Option Value)} {ocTK kVTK dcTK pmTK cdTK ctTK : Value} {fPK : Addr} {odPK anPK : Option Addr} {slPK : Array (Option Value)} {ocPK kVPK dcPK pmPK cdPK ctPK : Value} {fMU : Addr} {odMU anMU : Option Addr} {slMU : Array (Option Value)} {ocMU kVMU dcMU pmMU cdMU ctMU : Value} {fDU : Addr} {odDU anDU : Option Addr} {slDU : Array (Option Value)} {ocDU kVDU dcDU pmDU cdDU ctDU : Value} {fLA : Addr} {odLA anLA : Option Addr} {slLA : Array (Option Value)} {ocLA kVLA dcLA pmLA cdLA ctLA : Value}
    (aC : PySem.W.nsIn K mainGlobals "Diagram" = some (some (.ref C)))
    (aNA : PySem.W.nsIn K mainGlobals "is_name" = some (some (.ref fNA)))
    (lNA : K.lookup fNA = some ⟨ocNA, odNA, .func (PySem.W.fnOf "is_name" "is_name" (defArgs sName) (defBody sName) (defScope sName) .none kVNA dcNA pmNA anNA cdNA ctNA), slNA⟩)
    (cNA : PySem.W.codeIn K cdNA "is_name" = true)
    (kNA : PySem.W.keepIn K (.ref fNA) = true)
    (aPN : PySem.W.nsIn K mainGlobals "are_port_names" = some (some (.ref fPN)))
    (lPN : K.lookup fPN = some ⟨ocPN, odPN, .func (PySem.W.fnOf "are_port_names" "are_port_names" (defArgs sPorts) (defBody sPorts) (defScope sPorts) .none kVPN dcPN pmPN anPN cdPN ctPN), slPN⟩)
    (cPN : PySem.W.codeIn K cdPN "are_port_names" = true)
    (kPN : PySem.W.keepIn K (.ref fPN) = true)
    (aIF : PySem.W.nsIn K mainGlobals "is_interface" = some (some (.ref fIF)))
    (lIF : K.lookup fIF = some ⟨ocIF, odIF, .func (PySem.W.fnOf "is_interface" "is_interface" (defArgs sIface) (defBody sIface) (defScope sIface) .none kVIF dcIF pmIF anIF cdIF ctIF), slIF⟩)
    (cIF : PySem.W.codeIn K cdIF "is_interface" = true)
    (kIF : PySem.W.keepIn K (.ref fIF) = true)
    (aSF : PySem.W.nsIn K mainGlobals "_is_step_function" = some (some (.ref fSF)))
    (lSF : K.lookup fSF = some ⟨ocSF, odSF, .func (PySem.W.fnOf "_is_step_function" "_is_step_function" (defArgs sStep) (defBody sStep) (defScope sStep) .none kVSF dcSF pmSF anSF cdSF ctSF), slSF⟩)
    (cSF : PySem.W.codeIn K cdSF "_is_step_function" = true)
    (kSF : PySem.W.keepIn K (.ref fSF) = true)
    (aSE : PySem.W.nsIn K mainGlobals "_is_selection" = some (some (.ref fSE)))
    (lSE : K.lookup fSE = some ⟨ocSE, odSE, .func (PySem.W.fnOf "_is_selection" "_is_selection" (defArgs sSel) (defBody sSel) (defScope sSel) .none kVSE dcSE pmSE anSE cdSE ctSE), slSE⟩)
    (cSE : PySem.W.codeIn K cdSE "_is_selection" = true)
    (kSE : PySem.W.keepIn K (.ref fSE) = true)
    (aME : PySem.W.nsIn K mainGlobals "merged" = some (some (.ref fME)))
    (lME : K.lookup fME = some ⟨ocME, odME, .func (PySem.W.fnOf "merged" "merged" (defArgs sMerged) (defBody sMerged) (defScope sMerged) .none kVME dcME pmME anME cdME ctME), slME⟩)
    (cME : PySem.W.codeIn K cdME "merged" = true)
    (kME : PySem.W.keepIn K (.ref fME) = true)
    (rdC : PySem.W.readsIn K C (.type "type") = true)
    (gaC : PySem.W.specialIn K (.ref C) "__getattribute__" = some (some (.builtin "type.__getattribute__")))
    (v8 : PySem.W.findCls K (.ref C) (.type "type") "MAX_PORTS" = some (.val (.int 8 tv8)))
    (aLe : PySem.W.nsIn K mainGlobals "LETTERS" = some (some (.str "abcdefghijklmnopqrstuvwxyz" tkL)))
    (aMl : PySem.W.nsIn K mainGlobals "MOST_LETTERS" = some (some (.int 8 tkE)))
    (aE : PySem.W.nsIn K mainGlobals "RESERVED_WORDS" = some (some (.ref dE)))
    (lE : K.lookup dE = some ⟨.type "tuple", ddE, .seq #[.str "block" tE1, .str "part" tE2, .str "end" tE3, .str "self" tE4] nE, slE⟩)
    (zlen : PySem.W.nsIn K mainGlobals "len" = some none)
    (zall : PySem.W.nsIn K mainGlobals "all" = some none)
    (zstr : PySem.W.nsIn K mainGlobals "str" = some none)
    (ztuple : PySem.W.nsIn K mainGlobals "tuple" = some none)
    (zisinstance : PySem.W.nsIn K mainGlobals "isinstance" = some none)
    (zset : PySem.W.nsIn K mainGlobals "set" = some none)
    (zsorted : PySem.W.nsIn K mainGlobals "sorted" = some none)
    (zlist : PySem.W.nsIn K mainGlobals "list" = some none)
    (zmax : PySem.W.nsIn K mainGlobals "max" = some none)
    (zmin : PySem.W.nsIn K mainGlobals "min" = some none)
    (zabs : PySem.W.nsIn K mainGlobals "abs" = some none)
    (zrange : PySem.W.nsIn K mainGlobals "range" = some none)
    (zrepr : PySem.W.nsIn K mainGlobals "repr" = some none)
    (aFE : PySem.W.nsIn K mainGlobals "_law_feed" = some (some (.ref fFE)))
    (lFE : K.lookup fFE = some ⟨ocFE, odFE, .func (PySem.W.fnOf "_law_feed" "_law_feed" (defArgs sFeed) (defBody sFeed) (defScope sFeed) .none kVFE dcFE pmFE anFE cdFE ctFE), slFE⟩)
    (cFE : PySem.W.codeIn K cdFE "_law_feed" = true)
    (kFE : PySem.W.keepIn K (.ref fFE) = true)
    (aTK : PySem.W.nsIn K mainGlobals "_law_take" = some (some (.ref fTK)))
    (lTK : K.lookup fTK = some ⟨ocTK, odTK, .func (PySem.W.fnOf "_law_take" "_law_take" (defArgs sTakeL) (defBody sTakeL) (defScope sTakeL) .none kVTK dcTK pmTK anTK cdTK ctTK), slTK⟩)
    (cTK : PySem.W.codeIn K cdTK "_law_take" = true)
    (kTK : PySem.W.keepIn K (.ref fTK) = true)
    (aPK : PySem.W.nsIn K mainGlobals "_law_pick" = some (some (.ref fPK)))
    (lPK : K.lookup fPK = some ⟨ocPK, odPK, .func (PySem.W.fnOf "_law_pick" "_law_pick" (defArgs sPickL) (defBody sPickL) (defScope sPickL) .none kVPK dcPK pmPK anPK cdPK ctPK), slPK⟩)
    (cPK : PySem.W.codeIn K cdPK "_law_pick" = true)
    (kPK : PySem.W.keepIn K (.ref fPK) = true)
    (aMU : PySem.W.nsIn K mainGlobals "_law_made_up" = some (some (.ref fMU)))
    (lMU : K.lookup fMU = some ⟨ocMU, odMU, .func (PySem.W.fnOf "_law_made_up" "_law_made_up" (defArgs sMade) (defBody sMade) (defScope sMade) .none kVMU dcMU pmMU anMU cdMU ctMU), slMU⟩)
    (cMU : PySem.W.codeIn K cdMU "_law_made_up" = true)
    (kMU : PySem.W.keepIn K (.ref fMU) = true)
    (aDU : PySem.W.nsIn K mainGlobals "_law_due" = some (some (.ref fDU)))
    (lDU : K.lookup fDU = some ⟨ocDU, odDU, .func (PySem.W.fnOf "_law_due" "_law_due" (defArgs sDue) (defBody sDue) (defScope sDue) .none kVDU dcDU pmDU anDU cdDU ctDU), slDU⟩)
    (cDU : PySem.W.codeIn K cdDU "_law_due" = true)
    (kDU : PySem.W.keepIn K (.ref fDU) = true)
    (aLA : PySem.W.nsIn K mainGlobals "law" = some (some (.ref fLA)))
    (lLA : K.lookup fLA = some ⟨ocLA, odLA, .func (PySem.W.fnOf "law" "law" (defArgs sLaw) (defBody sLaw) (defScope sLaw) .none kVLA dcLA pmLA anLA cdLA ctLA), slLA⟩)
    (cLA : PySem.W.codeIn K cdLA "law" = true)
    (kLA : PySem.W.keepIn K (.ref fLA) = true) :
    ∃ fd : FuncData, (∀ (s : Shared) (v : Value), BindsTo s fd ⟨[v], []⟩ [("script", v)]) ∧ ∀ base : Heap, K.In base → base.Ns mainGlobals mg → FnG PySem.Challenge.pw_stepblocks_k71_interfaces_with_merged_ou w K mg base CX0 4 fa fd ["script"] (spLaw K) := by
  have e := hfa.symm.trans (PySem.W.mg_of X G aLA)
  cases e
  have T : Txt K mg := ⟨⟨_, PySem.W.mg_of X G aLe⟩, ⟨_, PySem.W.mg_of X G aMl⟩, ⟨dE, PySem.W.mg_of X G aE, fun H => .inr ⟨_, _, _, lE, rfl, rfl, (by decide +kernel : 4 ≤ sizeLine), .cons ⟨_, rfl⟩ (.cons ⟨_, rfl⟩ (.cons ⟨_, rfl⟩ (.cons ⟨_, rfl⟩ .nil)))⟩⟩,
      PySem.W.mg_none_of X G zisinstance, PySem.W.mg_none_of X G zlen, PySem.W.mg_none_of X G zall, PySem.W.mg_none_of X G zstr, PySem.W.mg_none_of X G ztuple⟩
  have Di : Dia K mg := ⟨C, .type "type", _, PySem.W.mg_of X G aC, ⟨rdC, gaC⟩, ⟨v8, ⟨_, rfl⟩⟩⟩
  have FNA := fun_mk (st := sName) lNA cNA kNA
  have bNA := FNA.binds (ps := ["value"]) fun _ _ _ _ _ _ us hl => match us, hl with | [_], _ => rfl
  have FPN := fun_mk (st := sPorts) lPN cPN kPN
  have bPN := FPN.binds (ps := ["inputs", "outputs", "most"]) fun _ _ _ _ _ _ us hl => match us, hl with | [_, _, _], _ => rfl
  have FIF := fun_mk (st := sIface) lIF cIF kIF
  have bIF := FIF.binds (ps := ["value"]) fun _ _ _ _ _ _ us hl => match us, hl with | [_], _ => rfl
  have FSF := fun_mk (st := sStep) lSF cSF kSF
  have bSF := FSF.binds (ps := ["value", "inputs", "outputs"]) fun _ _ _ _ _ _ us hl => match us, hl with | [_, _, _], _ => rfl
  have FSE := fun_mk (st := sSel) lSE cSE kSE
  have bSE := FSE.binds (ps := ["value", "names"]) fun _ _ _ _ _ _ us hl => match us, hl with | [_, _], _ => rfl
  have FME := fun_mk (st := sMerged) lME cME kME
  have bME := FME.binds (ps := ["interface", "first", "second"]) fun _ _ _ _ _ _ us hl => match us, hl with | [_, _, _], _ => rfl
  have FFE := fun_mk (st := sFeed) lFE cFE kFE
  have bFE := FFE.binds (ps := ["script", "index"]) fun _ _ _ _ _ _ us hl => match us, hl with | [_, _], _ => rfl
  have FTK := fun_mk (st := sTakeL) lTK cTK kTK
  have bTK := FTK.binds (ps := ["feed", "size"]) fun _ _ _ _ _ _ us hl => match us, hl with | [_, _], _ => rfl
  have FPK := fun_mk (st := sPickL) lPK cPK kPK
  have bPK := FPK.binds (ps := ["feed", "options"]) fun _ _ _ _ _ _ us hl => match us, hl with | [_, _], _ => rfl
  have FMU := fun_mk (st := sMade) lMU cMU kMU
  have bMU := FMU.binds (ps := ["feed"]) fun _ _ _ _ _ _ us hl => match us, hl with | [_], _ => rfl
  have FDU := fun_mk (st := sDue) lDU cDU kDU
  have bDU := FDU.binds (ps := ["interface", "first", "second"]) fun _ _ _ _ _ _ us hl => match us, hl with | [_, _, _], _ => rfl
  have FLA := fun_mk (st := sLaw) lLA cLA kLA
  have bLA := FLA.binds (ps := ["script"]) fun _ _ _ _ _ _ us hl => match us, hl with | [_], _ => rfl
  refine ⟨PySem.W.fnOf "law" "law" (defArgs sLaw) (defBody sLaw) (defScope sLaw) .none kVLA dcLA pmLA anLA cdLA ctLA, fun s v => .of_eq rfl, fun base _ _ => ?_⟩
  have GNA : FnOk PySem.Challenge.pw_stepblocks_k71_interfaces_with_merged_ou w K mg base CX0 1 fNA _ ["value"] spName := ok_name FNA T
  have GSE : FnOk PySem.Challenge.pw_stepblocks_k71_interfaces_with_merged_ou w K mg base CX0 1 fSE _ ["value", "names"] (spSel K) := ok_sel FSE T (PySem.W.mg_none_of X G zlist)
  have GSF : FnOk PySem.Challenge.pw_stepblocks_k71_interfaces_with_merged_ou w K mg base CX0 2 fSF _ ["value", "inputs", "outputs"] (spStep K) := ok_step FSF T GSE (PySem.W.mg_of X G aSE) kSE bSE
  have GPN : FnOk PySem.Challenge.pw_stepblocks_k71_interfaces_with_merged_ou w K mg base CX0 2 fPN _ ["inputs", "outputs", "most"] (spPorts K) := ok_ports FPN T (PySem.W.mg_none_of X G zset) GNA (PySem.W.mg_of X G aNA) kNA bNA
  have GIF : FnOk PySem.Challenge.pw_stepblocks_k71_interfaces_with_merged_ou w K mg base CX0 3 fIF _ ["value"] (spIface K) := ok_iface FIF T Di (PySem.W.mg_none_of X G zsorted) GPN (PySem.W.mg_of X G aPN) kPN bPN GSF (PySem.W.mg_of X G aSF) kSF bSF
  have GME : FnOk PySem.Challenge.pw_stepblocks_k71_interfaces_with_merged_ou w K mg base CX0 1 fME _ ["interface", "first", "second"] (spMerged K) := ok_merged FME T
  have GFE : FnOk PySem.Challenge.pw_stepblocks_k71_interfaces_with_merged_ou w K mg base CX0 1 fFE _ ["script", "index"] (spFeed K) := ok_feed FFE (PySem.W.mg_none_of X G zlen) (PySem.W.mg_none_of X G zmax) (PySem.W.mg_none_of X G zabs)
  have GTK : FnOk PySem.Challenge.pw_stepblocks_k71_interfaces_with_merged_ou w K mg base CX0 1 fTK _ ["feed", "size"] spTakeL := ok_takeL FTK 
  have GPK : FnOk PySem.Challenge.pw_stepblocks_k71_interfaces_with_merged_ou w K mg base CX0 2 fPK _ ["feed", "options"] spPick := ok_pick FPK GTK (PySem.W.mg_of X G aTK) kTK bTK (PySem.W.mg_none_of X G zlen)
  have GPT : FnOk PySem.Challenge.pw_stepblocks_k71_interfaces_with_merged_ou w K mg base CX0 2 fPK _ ["feed", "options"] (spPickT K) := ok_pickT FPK GTK (PySem.W.mg_of X G aTK) kTK bTK (PySem.W.mg_none_of X G zlen)
  have GMU : FnOk PySem.Challenge.pw_stepblocks_k71_interfaces_with_merged_ou w K mg base CX0 2 fMU _ ["feed"] (spMade K) := ok_made FMU T GTK (PySem.W.mg_of X G aTK) kTK bTK
  have GDU : FnOk PySem.Challenge.pw_stepblocks_k71_interfaces_with_merged_ou w K mg base CX0 1 fDU _ ["interface", "first", "second"] (spDue K) := ok_due FDU T
  exact ok_law FLA T GFE (PySem.W.mg_of X G aFE) kFE bFE GMU (PySem.W.mg_of X G aMU) kMU bMU GPK GPT (PySem.W.mg_of X G aPK) kPK bPK GME (PySem.W.mg_of X G aME) kME bME GDU (PySem.W.mg_of X G aDU) kDU bDU GIF (PySem.W.mg_of X G aIF) kIF bIF (PySem.W.mg_none_of X G zlen) (PySem.W.mg_none_of X G zmax) (PySem.W.mg_none_of X G zmin) (PySem.W.mg_none_of X G zrange) (PySem.W.mg_none_of X G zrepr)
theorem walk {l : PySem.W.OpenLaw} {q : Program} {loose : List Str} {XP : (Str → Option Value) → Heap → Prop} {YP : World → Heap → Prop} {d : DefRec} {K : Params → PySem.W.Frag} (hn : l.most = some 63) (hdf : d.params.defaults = [])
    (hY : ∀ (w : World) (h : Heap), YP w h → (K w.params).In h)
    (F : ∀ (w : World) (mg : Str → Option Value) (fa : Addr) (h : Heap), (K w.params).In h → h.Ns mainGlobals mg → mg d.name = some (.ref fa) →
      ∃ fd : FuncData, (∀ (s : Shared) (u : Value), BindsTo s fd ⟨[u], []⟩ [("script", u)]) ∧ ∀ base : Heap, (K w.params).In base → base.Ns mainGlobals mg → FnG l.prog w (K w.params) mg base CX0 4 fa fd ["script"] (spLaw (K w.params))) :
    PySem.W.WalkO q loose XP YP l.row.toRowW d [] (fun f vs => PySem.call f vs) :=
  walk_ofG (n := 63) (k := 4) (x := "script") (sp := fun w => spLaw (K w.params)) hn (by decide) hdf ⟨rfl, by decide, by decide⟩ hY F (fun _ _ a ns hl _ hS => ⟨a, ns, rfl, hS, hl, fun _ => rfl⟩)
end K71
open PySem PySem.W PyProof.Rows
set_option maxRecDepth 100000 in
set_option maxHeartbeats 0 in
theorem PySem.Challenge.cw_stepblocks_k71_interfaces_with_merged_ou_holds : PySem.Challenge.rw_stepblocks_k71_interfaces_with_merged_ou.Holds := by
  w_on; o_law; k_head; (case hw => w_witness2)
  k_fill
  refine K71.walk (l := PySem.Challenge.rw_stepblocks_k71_interfaces_with_merged_ou) rfl rfl (fun w h Y => PySem.W.kIn_of Y) ?F
  case F =>
    intro w mg fa h KX G hmg
    refine' K71.all_mk KX G hmg ?aC ?aNA ?lNA ?cNA ?kNA ?aPN ?lPN ?cPN ?kPN ?aIF ?lIF ?cIF ?kIF ?aSF ?lSF ?cSF ?kSF ?aSE ?lSE ?cSE ?kSE ?aME ?lME ?cME ?kME ?rdC ?gaC ?v8 ?aLe ?aMl ?aE ?lE ?zlen ?zall ?zstr ?ztuple ?zisinstance ?zset ?zsorted ?zlist ?zmax ?zmin ?zabs ?zrange ?zrepr ?aFE ?lFE ?cFE ?kFE ?aTK ?lTK ?cTK ?kTK ?aPK ?lPK ?cPK ?kPK ?aMU ?lMU ?cMU ?kMU ?aDU ?lDU ?cDU ?kDU ?aLA ?lLA ?cLA ?kLA
    (case aC => k_is); (case aNA => k_is); (case lNA => k_is); (case cNA => k_is); (case kNA => k_is); (case aPN => k_is); (case lPN => k_is); (case cPN => k_is)
    (case kPN => k_is); (case aIF => k_is); (case lIF => k_is); (case cIF => k_is); (case kIF => k_is); (case aSF => k_is); (case lSF => k_is); (case cSF => k_is)
    (case kSF => k_is); (case aSE => k_is); (case lSE => k_is); (case cSE => k_is); (case kSE => k_is); (case aME => k_is); (case lME => k_is); (case cME => k_is)
    (case kME => k_is); (case rdC => k_is); (case gaC => k_is); (case v8 => k_is); (case aLe => k_is); (case aMl => k_is); (case aE => k_is); (case lE => k_is)
    (case zlen => k_is); (case zall => k_is); (case zstr => k_is); (case ztuple => k_is); (case zisinstance => k_is); (case zset => k_is); (case zsorted => k_is); (case zlist => k_is)
    (case zmax => k_is); (case zmin => k_is); (case zabs => k_is); (case zrange => k_is); (case zrepr => k_is); (case aFE => k_is); (case lFE => k_is); (case cFE => k_is)
    (case kFE => k_is); (case aTK => k_is); (case lTK => k_is); (case cTK => k_is); (case kTK => k_is); (case aPK => k_is); (case lPK => k_is); (case cPK => k_is)
    (case kPK => k_is); (case aMU => k_is); (case lMU => k_is); (case cMU => k_is); (case kMU => k_is); (case aDU => k_is); (case lDU => k_is); (case cDU => k_is)
    (case kDU => k_is); (case aLA => k_is); (case lLA => k_is); (case cLA => k_is); (case kLA => k_is)
