import PyProof.Rows.All
import Wide.All
import OpenK.AllK
import Wide.FinOn
import KE.KSuper
import HandS.Nested
import HandS.ClsMeth
import HandS.Star
import HandS.Ends
import HandS.Words
import HandS.List
import HandS.Exc
import HandS.ExcIs
import HandS.ExcField
import HandS.ExcInit
import HandS.WordsExc
import HandS.ExcValue
import HandS.Strs
import PyProof.Rows.SortShellAny
import HandS.ForMost
import HandS.IsInst
import HandS.Wide
import HandS.More
import HandS.Walk
import HandS.FStr
import HandS.RaiseMore
import HandS.NoneIn
import HandS.StrMore
import HandS.Conv
import HandS.Dict
import HandS.WordsDict
import HandS.TupAny
import HandS.TupLen
import HandS.DictComp
import HandS.MapObj
import HandS.Codes
import KE.IntTextText
import KE.SortData
import HandS.Deep
import HandS.SetFor
import PyProof.Rows.ListStrD
import PyProof.StrLawsRepr
import HandS.Style
import PySem.Challenge.RW_stepblocks_k05_diagrams_read_and_written
set_option Elab.async false
set_option linter.all false
set_option maxRecDepth 100000
set_option maxHeartbeats 8000000
/-! OwnA: super().__init__ of plain classes; a class held by a local, made; a def held by a local, called with a star. -/
namespace Own
open PySem PySem.Spec PyProof.Rows L2 NdefX ClX StX

/-! ### a block at its own code -/
structure PSA (X : Cx) (b0 : List Stmt) (sts : List Stmt) (t : TS) : Prop where
  run : ∀ (pins : List (Addr × Obj)) (s : Shared) (σ : L2.St) (H : Hp) (D : Ends), Inv X pins σ H s → t D σ H → _root_.PySem.wpAt (model X.prog X.w) X.A (.func b0 X.env) (execs sts X.env) (SP X pins D) X.xe s
theorem psa_of {X : Cx} {b0 sts : List Stmt} {t : TS} (h : PSs X sts t) : PSA X b0 sts t := ⟨fun pins s σ H D I q => wpAt_of_wpAny (h.run pins s σ H D I q)⟩
theorem psa_cons {X : Cx} {b0 rest : List Stmt} {st : Stmt} {t u : TS} (h1 : PS X st t) (h2 : PSA X b0 rest u) : PSA X b0 (st :: rest) (tSeq t u) := by
  refine ⟨fun pins s σ H D I q => PySem.ks_wpAt_execs_cons (wpAt_of_wpAny (thn (h1.run pins s σ H { D with nx := u D } I q) fun f s' hs => ?_))⟩
  cases f with
  | next =>
    obtain ⟨σ', H', I', q'⟩ := hs
    exact h2.run pins s' σ' H' D I' q'
  | brk => exact hs
  | cont => exact hs
  | ret u => exact hs

/-! ### super().m(e, ..) as a statement -/
/-- what the text says: the def's first parameter is slot 0; D: the class whose body holds the def; f2: the next class's method -/
structure SupK (K : PySem.W.Frag) (prog : Program) (f cda cc D : Addr) (fd : FuncData) (sf : Str) : Prop where
  fn : ∃ oc od osl, K.lookup f = some ⟨oc, od, .func fd, osl⟩
  par : ∃ ar, (fd.params.posonlyargs ++ fd.params.args).head? = some ar ∧ ar.arg = sf
  code : ∃ ccl cdd vs ccs file tf, K.lookup cda = some ⟨ccl, cdd, .fields vs, ccs⟩ ∧ vs[2]? = some (.str file tf) ∧ ((prog.main.file : Str) == file) = true
  cell : ∃ cl cld csl, K.lookup cc = some ⟨cl, cld, .cell (some (.ref D)), csl⟩
  top : (prog.main.scope.names.lookup ("super" : Str)).isSome = false
  st : PySem.W.nsIn K PySem.cStatics "thirdparty.any" = some none
/-- of an instance's class C -/
structure SupC (K : PySem.W.Frag) (C D : Addr) (m : Str) (f2 : Addr) : Prop where
  sub : PySem.W.mroIn K C (.ref D) = some true
  at_ : PySem.W.ks_superIn K C D m = some (some (.ref f2))
  ty : PySem.W.typeIn K (.ref f2) = some (.type "function")
  dcl : ∃ cdD, PySem.W.clsIn K D = some cdD
  fi : PySem.W.fnIn K f2 = true
def tSuper (K : PySem.W.Frag) (D : Addr) (m : Str) (f2 : Addr) (sp : Sp) (E : XK) (t : TA) : TS := fun D' σ H => ∃ x C dx fs, σ[0]? = some (some (.ref x)) ∧ H x = some (.ins C dx fs) ∧ SupC K C D m f2 ∧
  t σ H fun vs H1 => sp (.ref x :: vs) H1 (fun _ H2 => D'.nx σ H2) E
theorem psa_super {X : Cx} {CX : CXT} {k : Nat} {b0 rest : List Stmt} {p0 p1 apos pos spos : Pos} {m self : Str} {e : Expr} {es : List Expr} {t : TA} {u : TS} {f cda cc D f2 : Addr} {fd : FuncData} {sp : Sp} {E : XK} {pl : Sem Bool}
    (SK : SupK X.K X.prog f cda cc D fd self) (hfu : X.env.func = some f) (hco : X.env.code = .ref cda) (hcl : X.env.cells.lookup ("__class__" : Str) = some cc)
    (hks : X.env.kindOf "super" = some .globalImplicit) (hkc : X.env.kindOf "__class__" = some .free) (hN : X.N[0]? = some self) (hka : X.env.kindOf self = some .local) (hms : X.mg "super" = none)
    (F : FnR X.prog X.w X.K X.mg X.base CX k f2 sp) (hr : Room k X.A) (hx : Passes CX X E) (ha : PA X (e :: es) t) (hu : PSA X b0 rest u)
    (hm1 : (m == ("__class__" : Str)) = false := by decide +kernel)
    (hi : interactive X.env = false := by rfl) (hsw : swapsWith (.Call (.Attribute (.Call (.Name "super" p0) [] [] p1) m apos) (e :: es) [] pos) none spos.line X.env = pure false := by rfl)
    (hst : starEach (e :: es) X.env = (false, eval e X.env) :: starEach es X.env := by rfl) (hpl : (backTo pos (starEach es X.env)).any (·.1) = false := by rfl)
    (ht : eval (.Call (.Attribute (.Call (.Name "super" p0) [] [] p1) m apos) (e :: es) [] pos) X.env = (do
      let ov ← attributeBase (.Call (.Name "super" p0) [] [] p1) m X.env (eval (.Call (.Name "super" p0) [] [] p1) X.env)
      standAt apos.atName
      let (f, first) ← holding [ov] (getMethod ov m pl)
      callWith pos f first (backTo pos (starEach (e :: es) X.env)) []) := by rfl) :
    PSA X b0 (.Expr (.Call (.Attribute (.Call (.Name "super" p0) [] [] p1) m apos) (e :: es) [] pos) spos :: rest) (tSeq (tSuper X.K D m f2 sp E t) u) := by
  refine ⟨fun pins s σ H Dn I q => ?_⟩
  obtain ⟨x, C, dx, fs, hσ, hH, SC, q⟩ := q
  have KX := I.kIn
  obtain ⟨oc, od, osl, hf⟩ := SK.fn
  obtain ⟨ar, har, hself⟩ := SK.par
  obtain ⟨ccl, cdd, vs, ccs, file, tf, hcode, hvs, hfile⟩ := SK.code
  obtain ⟨cl, cld, csl, hcell⟩ := SK.cell
  obtain ⟨cdD, hD⟩ := SC.dcl
  obtain ⟨oD, hD1, hD2⟩ : ∃ oD, s.heap.get? D = some oD ∧ oD.data = .cls cdD := by
    unfold PySem.W.clsIn at hD
    split at hD
    · rename_i c d cd' sl ho
      cases hD
      exact ⟨_, KX _ _ ho, rfl⟩
    · cases hD
  obtain ⟨mA, O, rr, _, _, _⟩ := ins_get I.hok hH
  obtain ⟨odx, J, _⟩ := O.look
  obtain ⟨ml, hn, hl⟩ := id I.loc
  have hself' : ml ar.arg = some (.ref x) := by
    obtain ⟨w', rw', lk⟩ := hl 0 self (.ref x) hN hσ (.inl hka)
    rcases lk with ⟨_, e1⟩ | ⟨e1, _⟩
    · rw [hself, e1]
      exact congrArg some rw'
    · rw [hka] at e1
      rcases e1 with z | z <;> cases z
  obtain ⟨mb, hb1, hb2⟩ := I.mod.blt
  refine PySem.ks_wpAt_execs_cons (PySem.ks_wpAt_Expr_any (Q := fun f s' => match f with | .next => _root_.PySem.wpAt (model X.prog X.w) X.A (.func b0 X.env) (execs rest X.env) (SP X pins Dn) X.xe s' | f => SP X pins Dn f s') ?_ hi hsw)
  refine PySem.ks_wpAt_MethodCall (pl := pl) ?_ ht
  have e0 : s = ⟨s.heap, s.gens, s.drawn, s.toks, s.os⟩ := rfl
  refine PySem.ks_wpAt_super_base hks hkc hm1 hfu (KX _ _ hf) rfl har hco (KX _ _ hcode) rfl hvs hfile SK.top ?_
  refine PySem.W.ks_loadName_global I.ok.kind hks (Calls.loadGlobal_builtin (by rw [I.ok.glob]; exact I.mod.glob.keeps I.bk) hms (by rw [I.ok.blt]; exact hb1.keeps I.bk) ((hb2 "super" (by decide)).trans (by decide +kernel : bootBuiltins "super" = some (.type "super"))) ⟨rfl, ?_⟩)
  refine wpAny_loadName_free I.ok.kind hkc hcl ⟨_, KX _ _ hcell, rfl⟩ ?_
  refine wpAny_loadName_local I.ok.kind (by rw [hself]; exact hka) hn hself' ?_
  rw [e0]
  refine PySem.ks_wpAny_isType_cls hD1 hD2 ⟨rfl, ?_⟩
  refine PySem.ks_wpAny_call_super hD1 hD2 J.at_ J.cls (fun c e => ?_) (PySem.W.looks_mroIn KX SC.sub) (fun h' e k => ?_)
  · have z := J.no
    unfold PySem.W.notCls at z
    rw [e] at z
    exact Bool.noConfusion z
  have I1 : Inv X ((s.heap.objs.size, PySem.W.ks_superObj D x C) :: pins) σ H { s with heap := h', toks := s.toks } := pin_new I k (Nat.le_refl _) e (fun v z => nomatch z)
  have KX1 := I1.kIn
  cases hc : PySem.W.clsIn X.K C with
  | none =>
    have z := SC.at_
    unfold PySem.W.ks_superIn at z
    rw [hc] at z
    cases z
  | some cd =>
    have hm := SC.at_
    unfold PySem.W.ks_superIn at hm
    rw [hc] at hm
    obtain ⟨of, hof, hofc⟩ : ∃ of, h'.get? f2 = some of ∧ of.cls = .type "function" := by
      have ht' : (X.K.lookup f2).map (·.cls) = some (.type "function") := SC.ty
      cases z : X.K.lookup f2 with
      | none => rw [z] at ht'; cases ht'
      | some of => rw [z] at ht'; exact ⟨of, KX1 _ _ z, Option.some.inj ht'⟩
    refine PySem.ks_wpAny_getMethod_super e (PySem.W.looks_opaque KX1 SK.st) (l₀ := cd.mro) ?_ rfl KX1 hm hof hofc (PySem.W.ks_ne KX J hc) hm1 ?_
    · exact fun A Q E s k q => wpAny_bind ((PySem.W.looks_clsIn KX1 hc) A _ E s k (wpAny_pure q))
    have I2 : Inv X ((h'.objs.size, PySem.W.methodObj (.ref f2) (.ref x)) :: (s.heap.objs.size, PySem.W.ks_superObj D x C) :: pins) σ H { s with heap := h'.push (PySem.W.methodObj (.ref f2) (.ref x)), toks := s.toks + 1 } :=
      pin_new (s := { s with heap := h', toks := s.toks }) I1 (fun _ _ z => Heap.get?_push_of_some _ z) (Nat.le_refl _) (Heap.get?_push_size h' rfl) (fun v z => nomatch z)
    have hq := pin_at I2
    have hL : h'.objs.size ≠ X.env.locals := (I2.pin (h'.objs.size, PySem.W.methodObj (.ref f2) (.ref x)) (List.mem_append_right _ List.mem_cons_self)).2.2.1
    have hb0 : X.base.get? h'.objs.size = none := base_none I1 (Nat.le_refl _)
    refine PySem.W.callWith_M (K := X.K) (h₀ := X.base) (first := []) I.ok.mod.kin (news_at hL hb0 hq) List.mem_cons_self SC.fi (thn (ha.run pos _ _ σ H _ I2 q) fun us s3 ⟨vs3, H2, I3, rv, q2⟩ => ⟨⟨pin_at I3, I3.kIn⟩, ?_⟩) hst hpl
    have z := wpAny_call (PySem.W.method_call (pin_at I3) (run_fnR (us := .ref x :: us) (vs := .ref x :: vs3) F hr hx I3 (.cons rfl rv) q2))
    refine thn z fun v4 s4 ⟨v5, H5, I5, _, q5⟩ => ?_
    exact hu.run pins s4 σ H5 Dn (unpin (unpin I5)) q5

/-! ### a def with the cell __class__, by its body -/
theorem fnr_super {CX : CXT} {P : Program} {w : World} {K : PySem.W.Frag} {mg : Str → Option Value} {base : Heap} {k : Nat} {f cc D : Addr} {F : NF} {N ps : List Str} {sp : Sp} {oc doc pm ct : Value} {od an : Option Addr} {osl : Array (Option Value)}
    (lk : K.lookup f = some ⟨oc, od, .func (PySem.W.fnX F.name F.qual F.params F.body F.scope F.cl .none .none doc pm an (.ref F.c) ct), osl⟩) (hcd : PySem.W.codeIn K (.ref F.c) F.qual = true) (hcl : F.cl = [(("__class__" : Str), cc)])
    (hcell : ∃ cl cld csl, K.lookup cc = some ⟨cl, cld, .cell (some (.ref D)), csl⟩) (S : NScope N ps ["__class__"] F.scope)
    (hb : ∀ (us : List Value), us.length = ps.length → bindArgs (PySem.W.fnX F.name F.qual F.params F.body F.scope F.cl .none .none doc pm an (.ref F.c) ct) ⟨us, []⟩ = pure (ps.zip us))
    (len : ∀ vs H Q E, sp vs H Q E → vs.length = ps.length)
    (hbody : ∀ (A : Around) (outer : List Env) (s : Shared) (H : Hp) (vs : List V) (Q : VK) (E : XK), Room k (A.deeper (envF F f s.heap.objs.size)) → sp vs H Q E →
      ∃ t, PSA (ncx CX P w K mg base N F f A outer s H E) F.body F.body t ∧ t { nx := fun _ H' => Q .non H', rt := Q } (startF N vs [some (.ref D)]) H) :
    FnR P w K mg base CX (k + 1) f sp := by
  intro A outer s H us vs Q E hr e0 r hsp
  have hl := len _ _ _ _ hsp
  have KB : K.In base := e0.mod.kin
  have KX : K.In s.heap := KB.keeps fun b o e => (e0.bs b o e).1
  have lim : s.heap.NoLimit := e0.mod.nolimit.keeps fun b o e => (e0.bs b o e).1
  obtain ⟨cl, cld, csl, hc⟩ := hcell
  have hcl1 : ∀ y c, F.cl.lookup y = some c → y = "__class__" ∧ c = cc := fun y c e => by
    rw [hcl] at e
    by_cases hy : y = ("__class__" : Str)
    · subst hy
      have e2 : some cc = some c := by
        rw [← e]
        simp [List.lookup]
      exact ⟨rfl, (Option.some.inj e2).symm⟩
    · have hb0 : (y == ("__class__" : Str)) = false := beq_eq_false_iff_ne.mpr hy
      rw [List.lookup_cons, hb0] at e
      cases e
  have C : CellsAt F.cl ["__class__"] [some (.ref D)] s.heap H := by
    refine ⟨rfl, fun y c e => ?_, fun x y c e1 e2 => ?_, fun i y e => ?_⟩
    · obtain ⟨_, rfl⟩ := hcl1 y c e
      exact ⟨(e0.bs _ _ (KB _ _ hc)).2, some (.ref D), ⟨_, KX _ _ hc, rfl⟩⟩
    · exact (hcl1 x c e1).1.trans (hcl1 y c e2).1.symm
    · cases i with
      | zero =>
        cases e
        refine ⟨cc, by rw [hcl]; simp [List.lookup], fun v e2 => ?_⟩
        cases e2
        exact ⟨.ref D, rfl, ⟨_, KX _ _ hc, rfl⟩⟩
      | succ i => cases e
  refine codeAny_call_function hr.depth (KX _ _ lk) rfl S.co S.gen rfl (PySem.W.codeRec_of KX hcd) ?_
  rw [hb us (by rw [← r.length]; exact hl)]
  refine wpAny_pure (wpAny_newFunctionEnv S.nocell (fun ⟨n, _⟩ hy => S.par n (List.of_mem_zip hy).1) (fun h₁ hns hsb => ⟨lim.fresh _ hsb, ?_⟩) S.kind)
  show codeAny _ _ (.func F.body (envF F f s.heap.objs.size)) _ _
  refine PySem.ks_codeAny_funcAt ?_
  have kp : ∀ b o, s.heap.get? b = some o → h₁.get? b = some o := fun b o e => hsb.extBut b o (Nat.ne_of_lt (Heap.lt_size e)) (Heap.get?_push_of_some _ e)
  obtain ⟨t, ht, hq⟩ := hbody A outer s H vs Q E (hr.deeper _) hsp
  have I : Inv (ncx CX P w K mg base N F f A outer s H E) [] (startF N vs [some (.ref D)]) H { s with heap := h₁, toks := s.toks + (ps.zip us).length } := inv_startN S hr.hd e0 hl r C hns kp
  refine PySem.ks_wpAt_mono (ht.run [] _ (startF N vs [some (.ref D)]) H _ I hq) (fun fl s' hs => ?_) fun e s' hs => hs
  have fin : ∀ {σ' : L2.St} {H' : Hp} {v : V} {u : Value}, Inv (ncx CX P w K mg base N F f A outer s H E) [] σ' H' s' → L2.RelV v u → Q v H' → CE outer P w H s Q u s' :=
    fun {σ' H' v u} J rv q => ⟨v, H', J.os, J.bare, J.base, J.hok, rv, q⟩
  cases fl with
  | ret u =>
    obtain ⟨v, σ', H', J, rv, q⟩ := hs
    exact fin J rv q
  | next =>
    obtain ⟨σ', H', J, q⟩ := hs
    exact fin (v := V.non) (u := Value.none) J rfl q
  | brk =>
    obtain ⟨_, _, _, q⟩ := hs
    exact False.elim q
  | cont =>
    obtain ⟨_, _, _, q⟩ := hs
    exact False.elim q

/-! ### ways joined behind a statement -/
def tJoin (t u : TS) : TS := fun D σ H => ∃ Mid : L2.St → Hp → Prop, t { D with nx := Mid } σ H ∧ ∀ σ' H', Mid σ' H' → u D σ' H'
theorem pss_join {X : Cx} {st : Stmt} {rest : List Stmt} {t u : TS} (h1 : PS X st t) (h2 : PSs X rest u) : PSs X (st :: rest) (tJoin t u) := by
  refine ⟨fun pins s σ H D I h => ?_⟩
  obtain ⟨Mid, q1, q2⟩ := h
  refine wpAny_execs_cons (thn (h1.run pins s σ H _ I q1) fun f s' hs => ?_)
  cases f with
  | next =>
    obtain ⟨σ', H', I', m⟩ := hs
    exact h2.run pins s' σ' H' D I' (q2 σ' H' m)
  | brk => exact hs
  | cont => exact hs
  | ret u => exact hs

/-! ### x(e, ..), x a local that holds the class at C -/
section
variable {X : Cx} {CX : CXT} {k i : Nat} {f C : Addr} {sp : Sp} {E : XK} {x : Str} {e : Expr} {es : List Expr} {te : TE} {t : TA} {p pos sp_ : Pos}
def tMakeL (i : Nat) (C : Addr) (sp : Sp) (E : XK) (t : TA) : TE := fun σ H Q => σ[i]? = some (some (.ref C)) ∧ tMakeR C sp E t σ H Q
theorem pe_makeL (M : Mk X.K C f) (F : FnR X.prog X.w X.K X.mg X.base CX k f sp) (hr : Room (k + 1) X.A) (hN : X.N[i]? = some x) (hv : Vis X.env.scope x) (hx : Passes CX X E) (ha : PA X (e :: es) t)
    (hdb : (x == ("__debug__" : Str)) = false := by decide) (hcd : (x == ("__classdict__" : Str)) = false := by decide)
    (he : starEach (e :: es) X.env = (false, eval e X.env) :: starEach es X.env := by rfl) (hpl : (backTo pos (starEach es X.env)).any (·.1) = false := by rfl) : PE X (.Call (.Name x p) (e :: es) [] pos) (tMakeL i C sp E t) := by
  refine ⟨fun pins s σ H Q I h => ?_⟩
  obtain ⟨hs, h⟩ := h
  refine wpAny_Call_Name_kw (thn ((pe_var (pos := p) hN hv hdb hcd).run pins s σ H (fun v H1 => v = .ref C ∧ H1 = H) I ⟨.ref C, hs, rfl, rfl⟩) fun u s1 ⟨v, H1, I1, r1, q1⟩ => ?_)
  obtain ⟨rfl, rfl⟩ := q1
  cases r1
  refine PySem.W.callWith_K (h₀ := X.base) I.ok.mod.kin M.kp (thn (ha.run pos pins s1 σ _ _ I1 h) fun us s2 ⟨vs, H2, I2, r, q⟩ => ⟨I2.kIn, ?_⟩) he hpl
  exact run_makeR M F hr hx I2 r q
/-- x(*y), x a local that holds one of several defs -/
def tCallLS (X : Cx) (CX : CXT) (k i : Nat) (E : XK) (te : TE) : TE := fun σ H Q => ∃ f sp, σ[i]? = some (some (.ref f)) ∧ FnR X.prog X.w X.K X.mg X.base CX k f sp ∧ PySem.W.keepIn X.K (.ref f) = true ∧
  te σ H fun y H1 => ∃ a xs, y = V.ref a ∧ (SqT X.K H1 a xs ∨ SqL X.K H1 a xs) ∧ sp xs H1 Q E
theorem pe_callLS (hr : Room k X.A) (hN : X.N[i]? = some x) (hv : Vis X.env.scope x) (hx : Passes CX X E) (he : PE X e te) (hdb : (x == ("__debug__" : Str)) = false := by decide) (hcd : (x == ("__classdict__" : Str)) = false := by decide)
    (hst : starEach [.Starred e sp_] X.env = [(true, eval e X.env)] := by rfl) : PE X (.Call (.Name x p) [.Starred e sp_] [] pos) (tCallLS X CX k i E te) := by
  refine ⟨fun pins s σ H Q I h => ?_⟩
  obtain ⟨f, sp, hs, F, hk, h⟩ := h
  refine wpAny_Call_Name_kw (thn ((pe_var (pos := p) hN hv hdb hcd).run pins s σ H (fun v H1 => v = .ref f ∧ H1 = H) I ⟨.ref f, hs, rfl, rfl⟩) fun u s1 ⟨v, H1, I1, r1, q1⟩ => ?_)
  obtain ⟨rfl, rfl⟩ := q1
  cases r1
  refine PySem.W.callWith_S (h₀ := X.base) I.ok.mod.kin hk (thn (he.run pins s1 σ _ _ I1 h) fun v s2 ⟨y, H2, I2, ry, a, xs, ey, hxs, q⟩ => ?_) hst
  subst ey
  obtain rfl : v = Value.ref a := ry
  exact star_any I2 hxs fun us s3 I3 rv => ⟨I3.kIn, wpAny_call (run_fnR F hr hx I3 rv q)⟩
end
end Own
/-! OwnB: defs that ask that no repr runs around them; repr of data; str of an own instance. -/
namespace Own
open PySem PySem.Spec PyProof.Rows L2
/-! ### repr of data: where no repr runs around -/
theorem call_reprD {X : Cx} (hg : X.A.guards = some []) (hu : X.A.units + 64 < cLine) : CallR X (.builtin "repr") (fun xs H Q => ∃ (a : Addr) (d : PyData), xs = [.ref a] ∧ Dp X.K H (.ref a) d ∧ d.showable = true ∧ d.hasDict = false ∧ d.depth ≤ 60 ∧ d.shown.length ≤ sizeLine ∧ Q (.str d.shown) H) := by
  intro pins s σ H xs us Q I r h
  obtain ⟨a, d, rfl, hd, hs, hn, h60, hz, q⟩ := h
  obtain ⟨u, rfl, ru⟩ := vals1 r
  have hu' : u = .ref a := ru
  subst hu'
  obtain ⟨as, rd⟩ := Dp.reads I d _ _ hd rfl
  exact repr_of_reads' rd hs (PyData.noDict_hsm hn) hg (by omega) (fun _ _ e => e) (fun h' u tk hk => ⟨.str d.shown, H, I.kept hk, ⟨u, rfl⟩, q⟩) hz
/-! ### str(o) by the class's own __str__ -/
theorem call_strO {X : Cx} {C f : Addr} {k : Nat} {sp : Sp} (F : FnR X.prog X.w X.K X.mg X.base CX0 k f sp) (hr : Room (k + 2) X.A) (hs : PySem.W.findIn X.K (.ref C) "__str__" = some (some (.ref f))) (hf : PySem.W.isFn X.K (.ref f) = true) :
    CallR X (.type "str") (fun xs H Q => ∃ (x dx : Addr) (fs : List (Str × V)), xs = [.ref x] ∧ H x = some (.ins C dx fs) ∧ sp [.ref x] H (fun v H' => ∃ y, v = .str y ∧ Q v H') E0) := by
  intro pins s σ H xs us Q I r h
  obtain ⟨x, dx, fs, rfl, hx, q⟩ := h
  obtain ⟨u, rfl, ru⟩ := vals1 r
  have hu' : u = .ref x := ru
  subst hu'
  obtain ⟨mA, O, _⟩ := ins_get I.hok hx
  obtain ⟨od, J, _⟩ := O.look
  refine PySem.W.kso_call (hr.in1.in1.units0) I.kIn J hs hf (wpAny_call (codeAny_mono (F X.A.in1.in1 X.stack s H [.ref x] [.ref x] _ E0 hr.in1.in1 I.env0.in1.in1 (.cons rfl .nil) q) fun r s' hq => ?_))
  cases r with
  | error e => exact False.elim hq
  | ok fl =>
    cases fl with
    | ret u =>
      obtain ⟨v, H', I', rv, ⟨y, rfl, q'⟩⟩ := I.after hq
      obtain ⟨t, rfl⟩ := rv
      exact ⟨.str y, H', I', ⟨t, rfl⟩, q'⟩
    | next => exact False.elim hq
    | brk => exact False.elim hq
    | cont => exact False.elim hq
/-! ### a def that is called where no repr runs -/
structure FnG (P : Program) (w : World) (K : PySem.W.Frag) (mg : Str → Option Value) (base : Heap) (CX : CXT) (k : Nat) (f : Addr) (fd : FuncData) (ps : List Str) (sp : Sp) : Prop where
  len : ∀ vs H Q E, sp vs H Q E → vs.length = ps.length
  run : ∀ (A : Around) (outer : List Env) (s : Shared) (H : Hp) (args : Args) (us : List Value) (vs : List V) (Q : VK) (E : XK), A.guards = some [] → Room k A → Env0 P w K mg base A outer s H → BindsTo s fd args (ps.zip us) → Vals vs us → sp vs H Q E →
    codeAny (model P w) A (.call (.ref f) args) (CR CX outer P w H s Q E) s
theorem fng_of {CX : CXT} {P : Program} {w : World} {K : PySem.W.Frag} {mg : Str → Option Value} {base : Heap} {k : Nat} {f : Addr} {name qual : Str} {params : Arguments} {body : List Stmt} {scope : Scope} {dV kV doc pm cdv ct oc : Value} {an od : Option Addr}
    {osl : Array (Option Value)} {N ps : List Str} {sp : Sp} (lk : K.lookup f = some ⟨oc, od, .func (PySem.W.fnOf name qual params body scope dV kV doc pm an cdv ct), osl⟩) (hcd : PySem.W.codeIn K cdv qual = true) (S : FnScope N ps scope)
    (len : ∀ vs H Q E, sp vs H Q E → vs.length = ps.length)
    (hbody : ∀ (A : Around) (outer : List Env) (s : Shared) (H : Hp) (vs : List V) (Q : VK) (E : XK), (A.deeper (envOfC qual scope s.heap.objs.size f cdv)).guards = some [] → Room k (A.deeper (envOfC qual scope s.heap.objs.size f cdv)) → sp vs H Q E →
      ∃ t, PSs (cxOf CX P w K mg base N qual scope f cdv A outer s H E) body t ∧ t { nx := fun _ H' => Q .non H', rt := Q } (start N vs) H) :
    FnG P w K mg base CX (k + 1) f (PySem.W.fnOf name qual params body scope dV kV doc pm an cdv ct) ps sp := by
  refine ⟨len, fun A outer s H args us vs Q E hg hr e0 hb r hsp => ?_⟩
  have hl := len _ _ _ _ hsp
  have KX : K.In s.heap := e0.mod.kin.keeps fun b o e => (e0.bs b o e).1
  have lim : s.heap.NoLimit := e0.mod.nolimit.keeps fun b o e => (e0.bs b o e).1
  have hkind : ∀ y ∈ ps.zip us, scope.names.lookup y.1 = some .local ∨ (scope.names.lookup y.1 = some .cell ∧ ((cellsFrom (s.heap.objs.size + 1) scope.names []).lookup y.1).isSome = true) := fun ⟨n, v⟩ hy => by
    rcases S.par n (List.of_mem_zip hy).1 with q | q
    · exact .inl q
    · exact .inr ⟨q, PySem.W.cellsFrom_some _ _ _ (.inl q)⟩
  refine codeAny_call_function hr.depth (KX _ _ lk) rfl S.co S.gen rfl (PySem.W.codeRec_of KX hcd) (hb _ _ _ _ ?_)
  refine wpAny_newFunctionEnv_cells S.kind hkind fun env he s1 x => ?_
  subst he
  refine ⟨lim.keeps x.toInCall.keep, codeAny_func ?_⟩
  obtain ⟨t, ht, hq⟩ := hbody A outer s H vs Q E hg (hr.deeper _) hsp
  have I : Inv (cxOf CX P w K mg base N qual scope f cdv A outer s H E) [] (start N vs) H s1 := inv_start S hr.hd e0 hl r x
  refine wpAny_mono (ht.run [] s1 (start N vs) H _ I hq) (fun fl s' hs => ?_) fun e s' hs => hs
  have fin : ∀ {σ' : L2.St} {H' : Hp} {v : V} {u : Value}, Inv (cxOf CX P w K mg base N qual scope f cdv A outer s H E) [] σ' H' s' → RelV v u → Q v H' → CE outer P w H s Q u s' :=
    fun {σ' H' v u} J rv q => ⟨v, H', J.os, J.bare, J.base, J.hok, rv, q⟩
  cases fl with
  | ret u =>
    obtain ⟨v, σ', H', J, rv, q⟩ := hs
    exact fin J rv q
  | next =>
    obtain ⟨σ', H', J, q⟩ := hs
    exact fin (v := V.non) (u := Value.none) J rfl q
  | brk =>
    obtain ⟨_, _, _, q⟩ := hs
    exact False.elim q
  | cont =>
    obtain ⟨_, _, _, q⟩ := hs
    exact False.elim q
theorem fun_okG {P : Program} {w : World} {K : PySem.W.Frag} {mg : Str → Option Value} {base : Heap} {x qual : Str} {st : Stmt} {f : Addr} {fd : FuncData} {N ps : List Str} {k : Nat} {sp : Sp} (F : Fun K x qual st f fd) (S : FnScope N ps (defScope st)) (len : ∀ vs H Q E, sp vs H Q E → vs.length = ps.length)
    (hbody : ∀ (cdv : Value) (A : Around) (outer : List Env) (s : Shared) (H : Hp) (vs : List V) (Q : VK) (E : XK), (A.deeper (envOfC qual (defScope st) s.heap.objs.size f cdv)).guards = some [] → Room k (A.deeper (envOfC qual (defScope st) s.heap.objs.size f cdv)) → sp vs H Q E →
      ∃ t, PSs (cxOf CX0 P w K mg base N qual (defScope st) f cdv A outer s H E).nox (defBody st) t ∧ t { nx := fun _ H' => Q .non H', rt := Q } (start N vs) H) : FnG P w K mg base CX0 (k + 1) f fd ps sp := by
  obtain ⟨oc, od, kV, doc, pm, an, cdv, ct, osl, rfl, lk, hcd⟩ := F.ex
  refine fng_of lk hcd S len fun A outer s H vs Q E hg hr hsp => ?_
  obtain ⟨t, h, q⟩ := hbody cdv A outer s H vs Q E hg hr hsp
  exact ⟨t, h.nox, q⟩
/-! ### the law's end for such a def -/
theorem law_callG {P : Program} {w : World} {K : PySem.W.Frag} {mg mb : Str → Option Value} {CX : CXT} {k : Nat} {fa a : Addr} {fd : FuncData} {x : Str} {sp : Sp} {s₁ : Shared} {vs : List Value} {ns : List Int}
    (KX : K.In s₁.heap) (hns : s₁.heap.Ns mainGlobals mg) (hb : s₁.heap.Ns builtinsNs mb) (hbb : ∀ x : Str, x ≠ "__name__" → mb x = bootBuiltins x) (hlim : s₁.heap.NoLimit) (hg : s₁.gens = #[])
    (ha : s₁.heap.get? a = some { cls := .type "list", data := .seq vs.toArray }) (hi : IntsAre vs ns) (hl : ns.length ≤ sizeLine) (hr : Room k callerA)
    (F : ∀ base : Heap, K.In base → base.Ns mainGlobals mg → FnG P w K mg base CX k fa fd [x] sp) (hbind : ∀ (s : Shared) (u : Value), BindsTo s fd ⟨[u], []⟩ [(x, u)])
    (hsp : ∀ H : Hp, Only H → SqL K H a (ns.map V.int) → sp [.ref a] H (fun v _ => v = .bl true) fun _ _ _ => False)
    (hCX : ∀ H e s', CX [] H s₁ (fun _ _ _ => False) e s' → False) :
    codeAny (model P w) callerA (.call (.ref fa) ⟨[.ref a], []⟩) (fun r s' => r = .ok (.ret (.bool true)) ∧ OldK s₁.heap s'.heap ∧ s'.os = s₁.os ∧ AllBare s'.gens) s₁ := by
  have rv := vals_ints hi
  have lenV := hi.length
  have core : ∀ H : Hp, Only H → SqL K H a (ns.map V.int) → HOk P w H s₁.heap → (∀ b, H b ≠ none → b = a) → (H a ≠ none → K.lookup a = none) →
      codeAny (model P w) callerA (.call (.ref fa) ⟨[.ref a], []⟩) (fun r s' => r = .ok (.ret (.bool true)) ∧ OldK s₁.heap s'.heap ∧ s'.os = s₁.os ∧ AllBare s'.gens) s₁ := by
    intro H hO hS hok hA hK
    have base_of : ∀ {b : Addr} {o : Obj}, s₁.heap.get? b = some o → H b = none → (hidT s₁.heap H).get? b = some o := fun e n => hidT_get e n
    have noA : ∀ {b : Addr} {o : Obj} {es : Array DictEntry} {ep : Nat}, s₁.heap.get? b = some o → o.data = .dict es ep → H b = none := fun {b o es ep} e d => by
      cases q : H b with
      | none => rfl
      | some u =>
        have e' : b = a := hA b (by rw [q]; simp)
        subst e'
        rw [ha] at e; cases e
        have d' : Data.seq vs.toArray _ = Data.dict es ep := d
        cases d'
    have nsK : ∀ {b : Addr} {m : Str → Option Value}, s₁.heap.Ns b m → (hidT s₁.heap H).Ns b m := fun {b m} ⟨o, es, ep, e, d, r⟩ => ⟨o, es, ep, base_of e (noA e d), d, r⟩
    have hKb : K.In (hidT s₁.heap H) := fun b o e => base_of (KX b o e) (by
      cases q : H b with
      | none => rfl
      | some u =>
        have e' : b = a := hA b (by rw [q]; simp)
        subst e'
        rw [hK (by rw [q]; simp)] at e; cases e)
    have hM : Mod K mg (hidT s₁.heap H) := ⟨hKb, nsK hns, ⟨mb, nsK hb, hbb⟩, let ⟨mc, h1, h2⟩ := hlim; ⟨mc, nsK h1, h2⟩⟩
    have e0 : Env0 P w K mg (hidT s₁.heap H) callerA [] s₁ H := ⟨rfl, hM, fun b o e => of_hidT e, Nat.le_of_eq (hidT_size _ _), trivial, fun b hb => absurd (show b ∈ ([] : List Addr) from hb) (by simp), hok, .of_eq hg⟩
    refine codeAny_mono ((F _ hKb (nsK hns)).run callerA [] s₁ H ⟨[.ref a], []⟩ [.ref a] [.ref a] _ _ rfl hr e0 (hbind s₁ (.ref a)) (.cons rfl .nil) (hsp H hO hS)) fun r s' h => ?_
    cases r with
    | error e => exact (hCX H e s' h).elim
    | ok fl =>
      cases fl with
      | next => exact False.elim h
      | brk => exact False.elim h
      | cont => exact False.elim h
      | ret u =>
        obtain ⟨v, H', os, bare, un, hok', r', q⟩ := h
        have q' : v = .bl true := q
        subst q'
        obtain rfl : u = Value.bool true := r'
        refine ⟨rfl, OldK.of_keep fun b o e => ?_, os, bare⟩
        cases q : H b with
        | none => exact un.keep b o e q (by intro z; exact absurd (show b ∈ ([] : List Addr) from z) (by simp)) (by simp)
        | some u =>
          rcases hO b with z | ⟨ob, xs, z⟩
          · rw [q] at z; cases z
          · have z2 := un.frzs b ob _ z
            obtain ⟨e1, _⟩ := hok b _ z
            obtain ⟨e2, _⟩ := hok' b _ z2
            rw [e] at e1; cases e1
            exact e2
  cases hk : K.lookup a with
  | some o =>
    have e := KX a o hk
    rw [ha] at e
    cases e
    refine core (fun _ => none) (fun _ => .inl rfl) (.inr ⟨_, vs.toArray, _, hk, rfl, rfl, rfl, by rw [List.size_toArray, lenV]; exact hl, by simpa using rv⟩) (fun b u z => by have z' : (none : Option HO) = some u := z; cases z') (fun b z => absurd rfl z) fun z => absurd rfl z
  | none =>
    refine core (fun b => if b = a then some (.frz { cls := .type "list", data := .seq vs.toArray } (.lst (ns.map V.int))) else none) (fun b => ?_) (.inl (.inr ⟨{ cls := .type "list", data := .seq vs.toArray }, if_pos rfl⟩)) (fun b u z => ?_) (fun b z => ?_) fun _ => hk
    · by_cases hb : b = a
      · exact .inr ⟨_, _, if_pos hb⟩
      · exact .inl (if_neg hb)
    · by_cases hb : b = a
      · have z' := (if_pos hb).symm.trans z
        cases z'
        subst hb
        exact ⟨ha, by rw [List.length_map]; exact hl, vs, _, rv, ha⟩
      · have z' := (if_neg hb).symm.trans z
        cases z'
    · by_cases hb : b = a
      · exact hb
      · exact absurd (if_neg hb) z
theorem walk_ofG {l : PySem.W.OpenLaw} {n k : Nat} {q : Program} {loose : List Str} {XP : (Str → Option Value) → Heap → Prop} {YP : World → Heap → Prop} {d : DefRec} {K : Params → PySem.W.Frag} {sp : World → Sp} {x : Str}
    (hn : l.most = some n) (hn2 : n ≤ sizeLine) (hdf : d.params.defaults = []) (hr : Room k callerA)
    (hY : ∀ (w : World) (h : Heap), YP w h → (K w.params).In h)
    (F : ∀ (w : World) (mg : Str → Option Value) (fa : Addr) (h : Heap), (K w.params).In h → h.Ns mainGlobals mg → mg d.name = some (.ref fa) →
      ∃ fd : FuncData, (∀ (s : Shared) (u : Value), BindsTo s fd ⟨[u], []⟩ [(x, u)]) ∧
        ∀ base : Heap, (K w.params).In base → base.Ns mainGlobals mg → FnG l.prog w (K w.params) mg base CX0 k fa fd [x] (sp w))
    (hsp : ∀ (w : World) (H : Hp) (a : Addr) (ns : List Int), ns.length ≤ n → Only H → SqL (K w.params) H a (ns.map V.int) → sp w [.ref a] H (fun v _ => v = .bl true) fun _ _ _ => False) :
    PySem.W.WalkO q loose XP YP l.row.toRowW d [] (fun f vs => PySem.call f vs) := by
  refine Att.attach_call hn hdf fun w s₀ s₁ mg mb fa o pm cd doc a vs ns G Y ho hd hcd hmg hobj hints hlen hg => ?_
  have KX := hY w _ Y
  obtain ⟨fd, hb, hF⟩ := F w mg fa _ KX G.T.g hmg
  exact law_callG KX G.T.g G.T.b G.T.builtins G.T.nolimit hg hobj hints (Nat.le_trans hlen hn2) hr hF hb (fun H hO hS => hsp w H a ns hlen hO hS) fun H e s' z => z
/-! ### a written dict has no other key -/
theorem miss_of {K : PySem.W.Frag} {d : Addr} {es : Array DictEntry} {n : Nat} (l : K.lookup d = some ⟨.type "dict", none, .dict es n, #[]⟩) {ks : List Str} (hk : ∀ e ∈ es.toList, ∃ x t, e.key = .str x t ∧ x ∈ ks) {z : Str} (hz : ¬ z ∈ ks) : PySem.W.nsIn K d z = some none := by
  unfold PySem.W.nsIn
  rw [l]
  dsimp only
  have h1 : es.toList.find? (·.key.isStr z) = none := by
    rw [List.find?_eq_none]
    intro e he
    obtain ⟨x, t, e1, e2⟩ := hk e he
    rw [e1, PySem.W.isStr_of]
    intro q
    obtain ⟨t', e3⟩ := Value.isStrOf_shape q
    cases e3
    exact hz e2
  have h2 : es.toList.any (·.refKey) = false := by
    rw [List.any_eq_false]
    intro e he
    obtain ⟨x, t, e1, e2⟩ := hk e he
    simp [DictEntry.refKey, e1]
  rw [h1, h2]
  rfl
end Own
/-! OwnC: a caught exception that is kept behind its except suite. -/
namespace Own
open PySem PySem.Spec PyProof.Rows L2
/-- a caught exception of the class cls, its dict at d, kept at a -/
def XO (cls : Value) (d : Option Addr) (a : Addr) : HO := .ext fun h => ∃ (oe : Obj) (vs : Array Value), h.get? a = some oe ∧ Zc cls d oe ∧ oe.data = .fields vs
theorem xo_ok {P : Program} {w : World} {H : Hp} {h : Heap} {a : Addr} {cls : Value} {d : Option Addr} {oe : Obj} {vs : Array Value} (e : h.get? a = some oe) (z : Zc cls d oe) (q : oe.data = .fields vs) : ObjOk P w H h a (XO cls d a) :=
  ⟨⟨oe, vs, e, z, q⟩, ⟨oe, e⟩, fun _ _ ⟨o, v, q, r⟩ k => ⟨o, v, k o q, r⟩⟩
theorem xo_at {P : Program} {w : World} {H : Hp} {h : Heap} {a : Addr} {cls : Value} {d : Option Addr} (x : HOk P w H h) (e : H a = some (XO cls d a)) : ∃ (oe : Obj) (vs : Array Value), h.get? a = some oe ∧ Zc cls d oe ∧ oe.data = .fields vs := by
  have z : ObjOk P w H h a (.ext fun h => ∃ (oe : Obj) (vs : Array Value), h.get? a = some oe ∧ Zc cls d oe ∧ oe.data = .fields vs) := x a _ e
  exact z.1
section
variable {X : Cx} {pins : List (Addr × Obj)} {σ : L2.St} {H : Hp} {s : Shared}
/-- an object of the heap that was not there at the entry and is not tracked yet is tracked now -/
theorem keepX (I : Inv X pins σ H s) {a : Addr} {oe : Obj} {vs : Array Value} {cls : Value} {d : Option Addr} (n0 : X.s_0.heap.get? a = none) (he : s.heap.get? a = some oe) (hz : Zc cls d oe) (hd : oe.data = .fields vs) (na : H a = none) (nL : a ≠ X.env.locals)
    (np : ∀ p ∈ X.pn ++ pins, p.1 ≠ a) : Inv X pins σ (upd H a (XO cls d a)) s := by
  refine ⟨I.ok, I.os, I.bare, ⟨I.base.keep, I.base.slot, fun b o e n hx => ?_, I.base.there, fun b xs e => ?_, fun b o u e => ?_, fun b ps e => ?_⟩, I.loc, I.cell, ?_, fun x c e => ?_, fun p hp => ?_, I.hok.laidN (fun _ _ z => z) na (xo_ok he hz hd), I.len⟩
  · have hb : b ≠ a := fun z => by rw [z, n0] at e; cases e
    rw [upd_ne hb]
    exact I.base.free b o e n hx
  · have z := I.base.tups b xs e
    rw [upd_ne (ne_of_none z na)]
    exact z
  · have z := I.base.frzs b o u e
    rw [upd_ne (ne_of_none z na)]
    exact z
  · obtain ⟨m, z⟩ := I.base.tbls b ps e
    exact ⟨m, by rw [upd_ne (ne_of_none z na)]; exact z⟩
  · rw [upd_ne nL.symm]
    exact I.free
  · obtain ⟨v, o, ho, hv⟩ := I.cell x c e
    have hc : c ≠ a := fun z => by
      rw [z, he] at ho
      cases ho
      rw [hd] at hv
      cases hv
    rw [upd_ne hc]
    exact I.freeC x c e
  · obtain ⟨e, n, ne, nf, q⟩ := I.pin p hp
    exact ⟨e, by rw [upd_ne (np p hp)]; exact n, ne, nf, q⟩
end
end Own
namespace Own
open PySem PySem.Spec PySem.Calls PyProof.Rows PySem.W
/-- an attribute that is asked for (getAttr?) of an exception of an own class and comes from a descriptor of the class: the descriptor's call decides -/
theorem exc_ask {prog : Program} {w : World} {A : Around} {E : Value → Shared → Prop} {s : Shared} {K : Frag} {x D : Addr} {ox : Obj} {od : Option Obj} {name : Str} {g u : Value} {Q : Option Value → Shared → Prop} (C : L2.ExcC K D)
    (hf : findObj K D od name = some (.bind g u)) (X : K.In s.heap) (I : InstAt s.heap x ox D od)
    (call_ : ∀ (B : Around) (E' : Value → Shared → Prop) (Q' : Value → Shared → Prop), (∀ v, v = Value.ref D → Q' v { s with toks := s.toks + 1 }) → wpAny (model prog w) B (call g [u, .ref x, .ref D]) Q' E' { s with toks := s.toks + 1 })
    (h : Q (some (.ref D)) { s with toks := s.toks + 1 }) : wpAny (model prog w) A (getAttr? (.ref x) name) Q E s := by
  have nob : (Value.builtin "BaseException.__getattribute__" == Value.builtin "object.__getattribute__") = false := by decide +kernel
  obtain ⟨hp, gs, d, t, os⟩ := s
  have cls := I.type (M := model prog w)
  have below : Looks (model prog w) hp (isInstance (.ref x) (.type "BaseException")) true := cls.andThen (looks_subIn X C.hs)
  unfold getAttr? getAttrBy? getAttrBy
  refine wpAny_bind (wpAny_mkText (wpAny_bind (wpAny_attempt (wpAny_holding (wpAny_bind (cls.at (wpAny_bind ((looks_findIn (M := model prog w) X C.hg).at ?_))))))))
  dsimp only
  rw [nob, Bool.and_false, if_neg Bool.false_ne_true]
  unfold getAttrByItsOwn hookBefore
  refine wpAny_bind ?_
  rw [if_pos (show onTheHeap (Value.ref D) = true from rfl)]
  refine (looks_findIn (M := model prog w) X C.hk).at (wpAny_bind (wpAny_attempt (wpAny_holding ?_)))
  unfold callGetattribute
  rw [Bool.false_and, if_neg Bool.false_ne_true]
  unfold boundAndCalled
  rw [PySem.F.excAttr_ValueError.ga.bind (.ref x)]
  refine wpAny_bind (wpAny_pure (wpAny_call (codeAny_call_builtin PySem.F.excAttr_ValueError.ga.plain PySem.F.entry_bexc_ga ?_)))
  refine @check_slot (model prog w) _ _ ⟨hp, gs, d, t + 1, os⟩ "BaseException.__getattribute__" "BaseException" "__getattribute__" (.ref x) [.str name t] [] _ (by decide +kernel) (by decide +kernel) below (PySem.F.args_bexc_ga (.ref x) (.str name t)) ?_
  unfold Builtin.«object.__getattribute__»
  refine wpAny_bind (wpAny_of_eq (a := ((Value.ref x : Value), [Value.str name t])) (by first | rfl | (simp only [slotArgs]; rfl)) ?_)
  refine wpAny_bind (wpAny_pure (wpAny_bind (cls.at (wpAny_bind ((looks_find (M := model prog w) X I hf).at (wpAny_bind (wpAny_holding (call_ _ _ _ fun v hv => ?_))))))))
  subst hv
  refine wpAny_pure ?_
  show wpAny _ _ (handedOut (.ref D)) _ _ _
  rw [handedOut_of (v := .ref D) rfl]
  first
    | exact wpAny_pure (wpAny_pure h)
    | exact wpAny_pure h
    | exact wpAny_pure (wpAny_bind (wpAny_pure (wpAny_pure h)))
theorem kitx_excD {K : Frag} {x D : Addr} {ox : Obj} {od : Obj} (C : L2.ExcC K D) : KitX K (.ref x) (.ref D) (fun h => InstAt h x ox D (some od)) := by
  have Z := handS_kitx_exc (x := x) (ox := ox) C.hg C.hk C.hs C.hd C.ha C.hn C.ht C.hm
  refine ⟨fun _ _ _ I => I.type, fun _ _ X I => ?_, fun h tp dd its n sl X htp => Z.ne h tp dd its n sl X htp, fun X I k => exc_ask C (findObj_data ?_ C.ha C.hn C.ht) X I (fun B E' Q' hq => wpAny_call (class_get X I C.hm (hq _ rfl))) k⟩
  · obtain ⟨cdD, hcD, _⟩ := any_some C.hd
    unfold clsIn at hcD
    split at hcD
    · rename_i c' d' cd' sl' ho
      intro A' Q' E' s' k q
      unfold isType loadHead
      exact wpAny_bind (wpAny_loadPart (k _ _ (X _ _ ho)) (wpAny_pure q))
    · cases hcD
  · obtain ⟨cd, hc, _⟩ := any_some C.hd
    rw [hc]
    rfl
end Own
namespace Own
open PySem PySem.Spec PyProof.Rows L2
/-- isinstance(x, c), x a kept exception with a dict -/
def rIsX (K : PySem.W.Frag) : List V → Hp → VK → Prop := fun xs H Q => ∃ (a D dd : Addr) (fs : List (Str × V)) (c : V) (cv : Value) (b : Bool), xs = [.ref a, c] ∧ H a = some (XO (.ref D) (some dd) a) ∧ H dd = some (.xd fs) ∧ ExcC K D ∧ (∀ u, RelV c u → u = cv) ∧ PySem.W.kitOne K (.ref D) cv = some b ∧ Q (.bl b) H
theorem xo_inst {X : Cx} {pins : List (Addr × Obj)} {σ : L2.St} {H : Hp} {s : Shared} {a D dd : Addr} {fs : List (Str × V)} (I : Inv X pins σ H s) (ha : H a = some (XO (.ref D) (some dd) a)) (hd : H dd = some (.xd fs)) :
    ∃ (oe od : Obj), PySem.W.InstAt s.heap a oe D (some od) ∧ ∃ mA : Str → Option Value, (∀ f, PySem.W.lookIn f od = some (mA f)) ∧ ∀ f, RelO (fs.lookup f) (mA f) := by
  obtain ⟨oe, vs, he, hz, hv⟩ := xo_at I.hok ha
  have hx : ObjOk X.prog X.w H s.heap dd (.xd fs) := I.hok dd _ hd
  obtain ⟨mA, hns, hr⟩ := hx
  obtain ⟨od, ho, hl⟩ := lookIn_ns hns
  exact ⟨oe, od, ⟨he, hz.1, by unfold PySem.W.notCls; rw [hv] <;> rfl, by rw [hz.2]; exact ho⟩, mA, hl, hr⟩
theorem call_isX {X : Cx} : CallR X (.builtin "isinstance") (rIsX X.K) := by
  intro pins s σ H xs us Q I r h
  obtain ⟨a, D, dd, fs, c, cv, b, rfl, ha, hd, C, hcv, e, q⟩ := h
  obtain ⟨u1, u2, rfl, r1, r2⟩ := vals2 r
  obtain rfl : u1 = Value.ref a := r1
  obtain rfl := hcv _ r2
  obtain ⟨oe, od, J, _⟩ := xo_inst I ha hd
  exact PySem.W.kia_one (kitx_excD C) I.kIn J e (fun z => nomatch z) fun tk => ⟨.bl b, H, I.kept (t' := tk) fun _ _ z => z, rfl, q⟩
/-- x.f, x a kept exception -/
def tXk (K : PySem.W.Frag) (f : Str) (te : TE) : TE := fun σ H Q => te σ H fun x H1 => ∃ (a D dd : Addr) (fs : List (Str × V)) (v : V), x = .ref a ∧ H1 a = some (XO (.ref D) (some dd) a) ∧ H1 dd = some (.xd fs) ∧ XfC K D ∧ PySem.W.findIn K (.ref D) f = some none ∧ fs.lookup f = some v ∧ Q v H1
theorem pe_xk {X : Cx} {e : Expr} {te : TE} {pos : Pos} {n : Str} (he : PE X e te) (hb : attributeBase e n X.env (eval e X.env) = eval e X.env := by rfl) : PE X (.Attribute e n pos) (tXk X.K n te) := by
  refine ⟨fun pins s σ H Q I h => ?_⟩
  refine attr_of hb (thn (he.run pins s σ H _ I h) fun u s1 hh => ?_)
  obtain ⟨x, H1, I1, rx, a, D, dd, fs, v, ex, ha, hd, T, hno, l, q⟩ := hh
  subst ex
  obtain rfl : u = Value.ref a := rx
  obtain ⟨oe, od, J, mA, hl, hr⟩ := xo_inst I1 ha hd
  obtain ⟨u, hu, ru⟩ := RelO.some_of (v := v) (o := mA n) (by rw [← l]; exact hr n)
  exact PySem.HandSPX.exc_get I1.kIn J T.ga T.gg T.exC (PySem.W.findObj_own T.hdC hno rfl (by rw [hl, hu])) (handed_of ru) ⟨v, H1, I1.tok _, ru, q⟩
end Own
namespace Own
open PySem PySem.Spec PyProof.Rows L2
/-- the ends of an except suite whose exception is kept at a: the clause's name (slot i) goes, the exception stands -/
def keptE (i : Nat) (a : Addr) (cls : Value) (d : Option Addr) (D : Ends) : Ends where
  nx := fun σ' H' => H' a = none → D.nx (σ'.set i none) (upd H' a (XO cls d a))
  rt := fun v H' => H' a = none → D.rt v (upd H' a (XO cls d a))
  bk := fun σ' H' => H' a = none → D.bk (σ'.set i none) (upd H' a (XO cls d a))
  ct := fun σ' H' => H' a = none → D.ct (σ'.set i none) (upd H' a (XO cls d a))
/-- what a clause 'except x as n' (slot i is n's) that keeps its exception wishes of an exception of the body -/
def wAsK (K : PySem.W.Frag) (c : Value) (i : Nat) (ts : Addr → Value → Option Addr → TS) (Wout : WX) (D : Ends) : WX := fun cls d σ H =>
  ∃ b, PySem.W.exmOne K cls c = some b ∧ (b = true → ∀ a, H a = none → ts a cls d (keptE i a cls d D) (σ.set i (some (.ref a))) H) ∧ (b = false → Wout cls d σ H)
section
variable {X : Cx} {x n : Str} {c : Value} {i : Nat} {body suite : List Stmt} {b₀ : Stmt} {np pos pos' : Pos} {tb : WX → TS} {ts : Addr → Value → Option Addr → TS} {Wout : WX}
/-- an end of the body of a try is one of the try -/
theorem sp_try {pins : List (Addr × Obj)} {xe : Value → Shared → Prop} {D : Ends} {s : Shared} (ok : X.Ok) : ∀ f : Flow, SP (X.tr (X.pn ++ pins) xe) [] D f s → SP X pins D f s
  | .next, ⟨_, _, J, q⟩ => ⟨_, _, J.ofTry ok, q⟩
  | .brk, ⟨_, _, J, q⟩ => ⟨_, _, J.ofTry ok, q⟩
  | .cont, ⟨_, _, J, q⟩ => ⟨_, _, J.ofTry ok, q⟩
  | .ret _, ⟨_, _, _, J, r, q⟩ => ⟨_, _, _, J.ofTry ok, r, q⟩
/-- an end of the suite, the name let go, is one of the try; the exception is tracked from here on -/
theorem sp_kept {pins : List (Addr × Obj)} {D : Ends} {a : Addr} {oe : Obj} {vs : Array Value} {cls : Value} {d : Option Addr} {s : Shared} {E : Value → Shared → Prop} (ok : X.Ok) (hN : X.N.Nodup) (hi : X.N[i]? = some n) (hl : X.env.kindOf n = some .local)
    (z : Zc cls d oe) (hd : oe.data = .fields vs) (n0 : X.s_0.heap.get? a = none) (nL : a ≠ X.env.locals) (np : ∀ p ∈ X.pn ++ pins, p.1 ≠ a) (f : Flow) (h : SP (X.suite a ((a, oe) :: (X.pn ++ pins))) [] (keptE i a cls d D) f s) :
    wpAny (model X.prog X.w) X.A (do bindName X.env n .none; unbindBehindTheSuite X.env n pos') (fun _ s7 => SP X pins D f s7) E s := by
  have go : ∀ {σ : L2.St} {H : Hp}, Inv (X.suite a ((a, oe) :: (X.pn ++ pins))) [] σ H s → (∀ s7, H a = none → Inv X pins (σ.set i none) (upd H a (XO cls d a)) s7 → SP X pins D f s7) →
      wpAny (model X.prog X.w) X.A (do bindName X.env n .none; unbindBehindTheSuite X.env n pos') (fun _ s7 => SP X pins D f s7) E s := fun {σ H} S q => by
    refine gone_ok (X := X.suite a ((a, oe) :: (X.pn ++ pins))) S hN hi hl fun s7 S7 => ?_
    have p7 := S7.pin (a, oe) (List.mem_append_left _ List.mem_cons_self)
    exact q s7 p7.2.1 (keepX (S7.unsuite ok) n0 p7.1 z hd p7.2.1 nL np)
  revert go
  revert h
  cases f with
  | next => exact fun ⟨σ, H, S, q⟩ go => go S fun s7 e J => ⟨_, _, J, q e⟩
  | brk => exact fun ⟨σ, H, S, q⟩ go => go S fun s7 e J => ⟨_, _, J, q e⟩
  | cont => exact fun ⟨σ, H, S, q⟩ go => go S fun s7 e J => ⟨_, _, J, q e⟩
  | ret u => exact fun ⟨v, σ, H, S, r, q⟩ go => go S fun s7 e J => ⟨_, _, _, J, r, q e⟩
/-- a caught exception is a new object -/
theorem caught_new {pins : List (Addr × Obj)} {σ : L2.St} {H : Hp} {sI : Shared} {B : Heap} {a : Addr} (J : Inv X pins σ H sI) (hex : X.ex = []) (nb : ∀ b o, sI.heap.get? b = some o → b ∉ frs X.stack → B.get? b = some o) (Ba : B.get? a = none) (nfr : a ∉ frs X.stack) :
    X.s_0.heap.get? a = none ∧ ∀ p ∈ X.pn ++ pins, p.1 ≠ a := by
  have nI : ∀ o, sI.heap.get? a ≠ some o := fun o e => by
    have z := nb a o e nfr
    rw [Ba] at z
    cases z
  refine ⟨?_, fun p hp z => nI p.2 (by rw [← z]; exact (J.pin p hp).1)⟩
  cases e : X.s_0.heap.get? a with
  | none => rfl
  | some o =>
    obtain ⟨o', z⟩ := J.base.there a o e (by rw [hex]; exact fun z => nomatch z)
    exact absurd z (nI o')
/-- try: body / except x as n: suite, where the suite lets its exception out into a name or a list: it is kept -/
theorem ps_try_keep (hs : X.stack = X.env :: X.outer) (hf : X.env.frame = some X.env.locals) (hex : X.ex = []) (hN : X.N.Nodup) (hi : X.N[i]? = some n) (hln : X.env.kindOf n = some .local) (hc : Names X x c) (tk : Takes X Wout)
    (hb : ∀ (W : WX) (pn : List (Addr × Obj)) (xe : Value → Shared → Prop), Takes (X.tr pn xe) W → PassesOwn (model X.prog X.w) X.A X.env xe → PSs (X.tr pn xe) body (tb W))
    (hsu : ∀ (a : Addr) (oe : Obj) (cls : Value) (d : Option Addr) (pn : List (Addr × Obj)), Zc cls d oe → (∃ vs, oe.data = .fields vs) → PSs (X.suite a ((a, oe) :: pn)) (b₀ :: suite) (ts a cls d)) :
    PS X (.Try body [.ExceptHandler (some (.Name x np)) (some n) (b₀ :: suite) pos'] [] [] pos) (fun D σ H => tb (wAsK X.K c i ts Wout D) D σ H) := by
  refine ⟨fun pins s σ H D I h => wpAny_Try_except ?_⟩
  have ok := I.ok
  refine wpAny_mono ((hb (wAsK X.K c i ts Wout D) (X.pn ++ pins) (fun e s₁ => wpAny (model X.prog X.w) X.A (noteFrame e X.env) (fun _ s₂ => wpAny (model X.prog X.w) X.A (setFlight e none) (fun _ s₃ =>
    wpAny (model X.prog X.w) X.A (handleBy e X.env [.ExceptHandler (some (.Name x np)) (some n) (b₀ :: suite) pos']) (SP X pins D) X.xe s₃) X.xe s₂) X.xe s₁) (fun u s' air => ?_) PassesOwn.looking).run [] s σ H D (I.toTry _) h) (fun f s1 e => ?_) (fun e s1 he => he)
  case refine_2 =>
    have e := sp_try ok f e
    cases f with
    | next => exact wpAny_execs_nil e
    | brk => exact e
    | cont => exact e
    | ret u => exact e
  obtain ⟨a, B, sI, ps, τ, G, cls, d, rfl, JT, nb, up, sky, na, os, ag, b, hmatch, yes, no⟩ := air
  have J : Inv X pins τ G sI := JT.ofTry ok
  show wpAny (model X.prog X.w) X.A (noteFrame (.ref a) X.env) _ _ _
  refine Sky.land (outer := X.outer) Zc.steady (by rw [ok.frames, hs]) hf (by rw [← hs]; exact sky) fun h3 fl3 up3 => ?_
  have nfr : a ∉ frs (X.env :: X.outer) := fun hm => by
    obtain ⟨o3, v3, e3, _, d3⟩ := fl3.there
    obtain ⟨_, o', e', hnf⟩ := fl3.2.2.1.mem hm
    cases e3.symm.trans e'
    exact hnf _ d3
  obtain ⟨n0, apart⟩ := caught_new J hex nb fl3.2.1 (by rw [hs]; exact nfr)
  have nL : a ≠ X.env.locals := fun z => nfr (List.mem_filterMap.mpr ⟨X.env, List.mem_cons_self, by rw [hf, z]⟩)
  have nF : a ∉ X.fs := fun hm => by
    obtain ⟨e, he, q⟩ := List.mem_filterMap.mp hm
    exact nfr (List.mem_filterMap.mpr ⟨e, List.mem_cons_of_mem _ he, q⟩)
  have J3 : Inv X pins τ G { s' with heap := h3 } := J.landed nb fl3.1 (up.trans up3) os ag
  obtain ⟨o3, v3, e3, z3, d3⟩ := fl3.there
  have S3 := J3.suite e3 d3 na nL nF
  have hcls : ∀ {Q : Value → Shared → Prop} {E : Value → Shared → Prop}, Q c { s' with heap := h3 } → wpAny (model X.prog X.w) (X.A.mark (some (.ref a))) (eval (.Name x np) X.env) Q E { s' with heap := h3 } := fun {Q E} q => by
    obtain ⟨hg, hdb, hm | ⟨hm, hv, hnn⟩⟩ := hc
    · exact ld_glob (X := X.suite a ((a, o3) :: (X.pn ++ pins))) S3 hg hm q hdb
    · exact ld_blt (X := X.suite a ((a, o3) :: (X.pn ++ pins))) S3 hg hm hv q hnn hdb
  refine wpAny_handleBy_cons (codeAny_handlers_test (hcls ((PySem.W.exm_one (M := model X.prog X.w) J3.kIn (fun A Q E s k q => wpAny_typeOf_ref (k _ _ e3) (by rw [z3.1]; exact q)) hmatch).here ?_))) (by intro q; cases q)
  cases b with
  | true =>
    refine codeAny_handlers_suite_as (HandSPX.lands_againZ fl3 fun h4 fl4 up4 => ?_)
    obtain ⟨o4, v4, e4, z4, d4⟩ := fl4.there
    have S4 := Inv.suite (J.landed (s' := { s' with heap := h4 }) nb fl4.1 ((up.trans up3).trans up4) os ag) e4 d4 na nL nF
    refine store_ok (X := X.suite a ((a, o4) :: (X.pn ++ pins))) (v := .ref a) S4 hN hi (.inl hln) rfl (fun s5 S5 => ?_) (.inr hln)
    exact wpAny_mono ((hsu a o4 cls d (X.pn ++ pins) z4 ⟨_, d4⟩).run [] s5 _ G _ S5 (yes rfl a na)) (fun f s6 q => sp_kept ok hN hi hln z4 d4 n0 nL apart f q) fun _ _ z => False.elim z
  | false =>
    show wpAny _ X.A (handleBy (.ref a) X.env []) _ _ _
    refine wpAny_handleBy_nil ?_
    obtain ⟨_, _, _, oe, vs, T, oT, _, he, hz, hd, h1, _⟩ := id fl3
    unfold PySem.passOn
    refine wpAny_bind (wpAny_field he hd h1 ?_)
    rw [if_neg (show ¬ ((Value.ref T == Value.none) = true) from by simp)]
    have out : wpAny (model X.prog X.w) X.A (setFlight (.ref a) X.env.frame) (fun _ s4 => wpAny (model X.prog X.w) X.A (throw (.ref a) : Sem Flow) (SP X pins D) X.xe s4) X.xe { s' with heap := h3 } := by
      rw [hf]
      exact HandSPX.setFlight_upZ fl3 fun h4 held up4 => wpAny_throw (tk _ _ ⟨a, B, sI, pins, τ, G, cls, d, rfl, J, nb, (up.trans up3).trans up4, .inr (.inr (by rw [hs]; exact held)), na, os, ag, no rfl⟩)
    first
      | exact wpAny_bind (wpAny_pure (wpAny_bind out))
      | exact wpAny_bind out
end
end Own
namespace Own
open PySem PySem.Spec PyProof.Rows L2 ClX
/-- a classmethod called off its class, which may raise (what it lets out may speak of the slots) -/
def tCMethS (C : Addr) (sp : Sp) (E : L2.St → XK) (ta : TE) (t : TA) : TE := fun σ H Q => ta σ H fun x H1 => x = .ref C ∧ t σ H1 fun vs H2 => sp (.ref C :: vs) H2 Q (E σ)
theorem pe_cmethS {X : Cx} {CX : CXT} {k : Nat} {C p g : Addr} {mc : Value} {sp : Sp} {E : L2.St → XK} {o e : Expr} {es : List Expr} {m : Str} {pos apos : Pos} {ta : TE} {t : TA} {pl : Sem Bool} (he : PE X o ta) (r : CRead X.K C mc) (c : CMet X.K C mc m p g)
    (F : FnR X.prog X.w X.K X.mg X.base CX k g sp) (hr : Room k X.A) (hx : ∀ σ, PassesAt CX X σ (E σ)) (ha : PA X (e :: es) t)
    (hst : starEach (e :: es) X.env = (false, eval e X.env) :: starEach es X.env := by rfl) (hpl : (backTo pos (starEach es X.env)).any (·.1) = false := by rfl)
    (ht : eval (.Call (.Attribute o m apos) (e :: es) [] pos) X.env = (do
      let ov ← eval o X.env
      standAt apos.atName
      let (f, first) ← holding [ov] (getMethod ov m pl)
      callWith pos f first (backTo pos (starEach (e :: es) X.env)) (backToKw pos (keywordEach [] X.env))) := by rfl) :
    PE X (.Call (.Attribute o m apos) (e :: es) [] pos) (tCMethS C sp E ta t) := by
  refine ⟨fun pins s σ H Q I h => ?_⟩
  refine PySem.W.methodCall_KW (pl := pl) (thn (he.run pins s σ H _ I h) fun u s1 ⟨x, H1, I1, rx, ex, q⟩ => ?_) ht
  subst ex
  obtain rfl : u = Value.ref C := rx
  refine getmethcm_ok I1 r c fun s2 I2 => ?_
  refine callwith_cm I2 (base_none I1 (Nat.le_refl _)) c.fi (thn (ha.run pos _ s2 σ H1 _ I2 q) fun us s3 ⟨vs, H2, I3, rv, q2⟩ => ⟨⟨pin_at I3, I3.kIn⟩, ?_⟩) hst hpl
  have z : wpAny (model X.prog X.w) X.A (call (.ref s1.heap.objs.size) us) (EP X ((s1.heap.objs.size, PySem.W.methodObj (.ref g) (.ref C)) :: pins) σ Q) X.xe s3 := by
    refine wpAny_call (PySem.W.method_call (pin_at I3) (codeAny_mono (F X.A X.stack s3 H2 (.ref C :: us) (.ref C :: vs) Q (E σ) hr I3.env0 (.cons rfl rv) q2) fun r s' hq => ?_))
    cases r with
    | error e => exact hx σ _ H2 s3 e s' I3 hq
    | ok fl =>
      cases fl with
      | ret u => exact I3.after hq
      | next => exact False.elim hq
      | brk => exact False.elim hq
      | cont => exact False.elim hq
  exact thn z fun _ _ y => unpinE y
end Own
/-! OwnD: sets of texts, made of a tuple or a list of any length. -/
namespace Own
open PySem PySem.Spec PySem.Calls PyProof.Rows
/-- a set that holds exactly the texts of xs; c tells by its size whether they differ -/
def SetT (prog : Program) (w : World) (h : Heap) (S : Addr) (xs : List Str) : Prop := ∃ c, h.SetOf (strKind prog w) S (fun k => decide (k ∈ xs)) c ∧ c ≤ xs.length ∧ (c = xs.length ↔ xs.Nodup)
theorem SetT.move {prog : Program} {w : World} {h h' : Heap} {S : Addr} {xs : List Str} (T : SetT prog w h S xs) (k : ∀ o, h.get? S = some o → h'.get? S = some o) : SetT prog w h' S xs := by
  obtain ⟨c, ⟨o, es, ep, t, ho, rest⟩, r⟩ := T
  exact ⟨c, ⟨o, es, ep, t, k o ho, rest⟩, r⟩
theorem SetT.more {prog : Program} {w : World} {h' : Heap} {S : Addr} {xs : List Str} {x : Str} {c : Nat} (hc : c ≤ xs.length) (hn : c = xs.length ↔ xs.Nodup)
    (T : h'.SetOf (strKind prog w) S (fun k => decide (k ∈ xs) || decide (k = x)) (if decide (x ∈ xs) then c else c + 1)) : SetT prog w h' S (xs ++ [x]) := by
  refine ⟨if decide (x ∈ xs) then c else c + 1, SetOf_congr T (fun k => by simp [List.mem_append]) rfl, ?_, ?_⟩
  · rw [List.length_append]
    split
    · exact Nat.le_trans hc (Nat.le_add_right _ _)
    · exact Nat.succ_le_succ hc
  · rw [List.length_append, List.length_singleton, List.nodup_append]
    by_cases hx : x ∈ xs
    · rw [decide_eq_true hx, if_pos rfl]
      refine ⟨fun e => by omega, fun e => ?_⟩
      exact absurd rfl (e.2.2 x hx x List.mem_cons_self)
    · rw [decide_eq_false hx, if_neg Bool.false_ne_true]
      refine ⟨fun e => ⟨hn.mp (by omega), by simp, fun a ha b hb => ?_⟩, fun e => by rw [hn.mpr e.1]⟩
      rw [List.mem_singleton] at hb
      subst hb
      exact fun z => hx (z ▸ ha)
section
variable {prog : Program} {w : World} {A : Around} {R : Result → Shared → Prop} {I : Addr} {fp wr : List Addr} {G : Array GenState → Array GenState → Prop} {n : Nat} {P : Nat → Value → Prop} {St : Nat → Shared → Prop}
/-- the loop that fills it -/
theorem fill_texts (W : WalksS prog w A.in1 I fp wr G n P St) (S : Addr) (hS : S ∉ fp) (xs : List Str) (hl : xs.length = n) (hb : n + 1 < scanBound) (hv : ∀ i v, P i v → ∃ x t, xs[i]? = some x ∧ v = .str x t) :
    ∀ (left i : Nat) (s : Shared), i + left = n → St i s → SetT prog w s.heap S (xs.take i) → (∀ s', Moved (S :: wr) G s s' → SetT prog w s'.heap S xs → R (.ok (.ret .none)) s') →
      codeAny (model prog w) A (.builtin "set.update.loop" ⟨[.ref S, .ref I], []⟩) R s := by
  have nw : S ∉ wr := fun h => hS (W.sub _ h)
  have up : ∀ b ∈ wr, b ∈ S :: wr := fun b hb => List.mem_cons_of_mem _ hb
  intro left
  induction left with
  | zero =>
    intro i s e hst T k
    have e : i = n := e
    subst e
    refine codeAny_builtin F.entry_set_update_loop ?_
    rw [Around.under_plainId F.plain_set_update_loop _]
    show wpAny _ A.in1 (pyNext (.ref I) >>= _) _ _ s
    refine wpAny_bind (W.done s _ _ hst fun s' m => wpAny_pure (k s' (m.mono up) ?_))
    rw [List.take_of_length_le (Nat.le_of_eq hl)] at T
    exact T.move fun o e => m.heap S o nw e
  | succ left ih =>
    intro i s e hst T k
    refine codeAny_builtin F.entry_set_update_loop ?_
    rw [Around.under_plainId F.plain_set_update_loop _]
    show wpAny _ A.in1 (pyNext (.ref I) >>= _) _ _ s
    refine wpAny_bind (W.item i s _ _ (by omega) hst fun v s' pv hst' m => ?_)
    obtain ⟨x, t, hx, rfl⟩ := hv i v pv
    obtain ⟨c, T1, hc, hn⟩ := T.move (h' := s'.heap) fun o e => m.heap S o nw e
    have lt : (xs.take i).length = i := by rw [List.length_take]; omega
    show wpAny _ A.in1 (holding [Value.str x t] (setAdd S (.str x t)) >>= _) _ _ s'
    refine wpAny_bind (wpAny_holding ?_)
    unfold setAdd
    refine wpAny_holding (wpAny_bind ((strKind prog w).pyHash (k := x) (strKind_is _ _ _ _) ?_))
    refine wpAny_setAddHashed_of (knd := strKind prog w) (s := { s' with toks := s'.toks + 1 }) (strKind_is _ _ _ _) rfl T1 (by rw [lt] at hc; omega) fun h' sb T2 => ?_
    have T3 : SetT prog w h' S (xs.take (i + 1)) := by
      rw [List.take_add_one, hx]
      exact SetT.more hc hn T2
    refine wpAny_pure ⟨plainId_quiet F.plain_set_update_loop _, ih (i + 1) _ (by omega) (W.frame _ s' _ _ hst' (Nat.le_succ _) fun b hb o e => ?_) T3 fun s2 m2 T4 => k s2 (Moved.trans W.gtrans ((m.mono up).then_heap (Nat.le_succ _) fun b o nb e => ?_) m2) T4⟩
    · rw [sb.2 b fun z => hS (z ▸ hb)]
      exact e
    · rw [sb.2 b fun z => nb (z ▸ List.mem_cons_self)]
      exact e
end
end Own
namespace Own
open PySem PySem.Spec PySem.Calls PyProof.Rows L2 SS
section
variable {prog : Program} {w : World} {A : Around} {E : Value → Shared → Prop} {s : Shared}
abbrev freshSet (led : Bool) : Obj := { cls := .type "set", dict := none, data := .set #[] 0 (.fresh 0 0 led) }
/-- set(x): what __init__ does at the fresh set decides -/
theorem call_set_by {x : Value} {Q : Value → Shared → Prop}
    (fill : ∀ led : Bool, wpAny (model prog w) A.in1.in1 (Builtin.«set.__init__» ⟨[.ref s.heap.objs.size, x], []⟩)
        (fun fin s' => match fin with | .done f => wants (fun r s₂ => r = .none ∧ Q (.ref s.heap.objs.size) s₂) E (.ok f) s' | .again c' => c'.quiet = true ∧ codeAny (model prog w) A.in1 c' (wants (fun r s₂ => r = .none ∧ Q (.ref s.heap.objs.size) s₂) E) s')
        (fun e s' => wants (fun r s₂ => r = .none ∧ Q (.ref s.heap.objs.size) s₂) E (.error e) s') { s with heap := s.heap.push (freshSet led) }) :
    wpAny (model prog w) A (call (.type "set") [x]) Q E s := by
  obtain ⟨c, tl, hmro⟩ := PySem.F.called_set.mro
  have hmade := PySem.F.called_set.made
  have hsub := PySem.F.called_set.sub
  have h1 := PySem.F.called_set.notType
  have h2 := PySem.F.called_set.canCreate
  have hct := PySem.F.typeCall_set_1 x
  refine wpAny_call (codeAny_of_tree ?_)
  show wpAny _ _ (callAny (.type "set") _) _ _ _
  refine wpAny_pure ⟨Code.quiet_builtin _ (by decide +kernel), codeAny_builtin PySem.F.entry_type_call ?_⟩
  rw [Around.under_plain (weight_type_call_type "set" [x] []) rfl]
  repeat (any_goals (first | assumption | wp_step))

  refine codeAny_mono (code_set_new_1 x (E := E) (Q₁ := fun obj s₁ => ∃ led : Bool, obj = .ref s.heap.objs.size ∧ s₁ = { s with heap := s.heap.push (freshSet led) }) fun led => ⟨led, rfl, rfl⟩) fun r s₁ hr => ?_
  cases r with
  | error e => exact hr
  | ok fl =>
    cases fl with
    | ret obj =>
      obtain ⟨led, rfl, rfl⟩ := hr
      have hT : Shared.TypeIs { s with heap := s.heap.push (freshSet led) } (.ref s.heap.objs.size) "set" := ⟨_, Heap.get?_push_size _ rfl, rfl⟩
      have hli := PySem.F.called_set.init.lookup
      have hbi := PySem.F.called_set.init.bind (.ref s.heap.objs.size)
      repeat (any_goals (first | assumption | wp_step))

      refine codeAny_mono (codeAny_call_builtin PySem.F.called_set.init.plain PySem.F.entry_set_init (check_set_init_1 hT (fill led))) fun r₂ s₂ hr₂ => ?_
      cases r₂ with
      | error e => exact hr₂
      | ok fl₂ =>
        cases fl₂ with
        | ret r =>
          obtain ⟨rfl, hq⟩ := hr₂
          repeat (any_goals (first | assumption | wp_step))
        | _ => exact hr₂.elim
    | _ => exact hr.elim
/-- set(l), l a tuple of texts -/
theorem call_set_texts {l : Addr} {items : Array Value} {xs : List Str} {Q : Value → Shared → Prop} (hh : A.handled = none) (hl : s.heap.IsTuple l items) (hi : StrsAre items.toList xs) (hb : xs.length + 1 < scanBound)
    (h : ∀ (h' : Heap) (tk : Nat), SetT prog w h' s.heap.objs.size xs → (∀ b o, b < s.heap.objs.size → s.heap.get? b = some o → h'.get? b = some o) → Q (.ref s.heap.objs.size) { s with heap := h', toks := tk }) :
    wpAny (model prog w) A (call (.type "set") [.ref l]) Q E s := by
  refine call_set_by fun led => ?_
  obtain ⟨hp, g, d, tk, os⟩ := s
  dsimp only at hl h ⊢
  have hS : (hp.push { cls := .type "set", dict := none, data := .set #[] 0 (.fresh 0 0 led) }).get? hp.objs.size = some { cls := .type "set", dict := none, data := .set #[] 0 (.fresh 0 0 led) } := Heap.get?_push_size _ rfl
  have hT : Shared.TypeIs ⟨hp.push { cls := .type "set", dict := none, data := .set #[] 0 (.fresh 0 0 led) }, g, d, tk, os⟩ (.ref hp.objs.size) "set" := ⟨_, hS, rfl⟩
  have hl1 : (hp.push { cls := .type "set", dict := none, data := .set #[] 0 (.fresh 0 0 led) }).IsTuple l items := hl.push _
  obtain ⟨⟨ocls, odict, odata, oslots⟩, hol, hcl, nl, hdl⟩ := id hl1
  simp only at hcl hdl
  subst hcl
  subst hdl
  have hsls := PySem.F.sub_tuple_set
  have hslf := PySem.F.sub_tuple_frozenset
  have hne : (Value.type "tuple" == Value.type "dict") = false := by decide
  unfold Builtin.«set.__init__» noKeywords Builtin.Frozenset.updateFrom
  generalize hPI : pyIter = PI
  wp_walk
  subst hPI
  refine wpAny_pyIter_tuple hl1 (wpAny_bind (wpAny_runValue ?_))
  have lS : l < hp.objs.size := let ⟨_, e, _⟩ := hl; Heap.lt_size e
  have zI : (hp.push (freshSet led)).objs.size = hp.objs.size + 1 := Heap.size_push ..
  have len : xs.length = items.size := by rw [← StrsAre.len_eq hi, Array.length_toList]
  refine fill_texts ((Walks.tuple (A := A.in1.in1.in1) (by simp [hh]) _ l (by rw [zI]; exact Nat.ne_of_lt (Nat.lt_succ_of_lt lS)) items).toS) hp.objs.size (by
      rw [zI]
      simp only [List.mem_cons, List.not_mem_nil, or_false, not_or]
      exact ⟨Nat.ne_of_lt (Nat.lt_succ_self _), Nat.ne_of_gt lS⟩) xs len (by rw [← len]; exact hb) (fun i v e => ?_) items.size 0 _ (by omega) ⟨⟨_, Heap.get?_push_size _ rfl, rfl, rfl⟩, hl1.push _⟩ ?_ fun s' m T => ?_
  · obtain ⟨t, e2⟩ := strs_at hi i v (by rw [Array.getElem?_toList]; exact e)
    have hi' : i < xs.length := by rw [len]; exact (Array.getElem?_eq_some_iff.mp e).1
    refine ⟨xs[i], t, List.getElem?_eq_getElem hi', ?_⟩
    rw [e2, List.getD_eq_getElem?_getD, List.getElem?_eq_getElem hi'] <;> rfl
  · refine ⟨0, SetOf_congr ((setObjOf_fresh (knd := strKind prog w) led).setOf (Heap.get?_push_of_some _ hS) (by unfold scanBound; omega)) (fun k => by simp) rfl, Nat.zero_le _, by simp⟩
  · obtain ⟨h', g', d', tk', os'⟩ := s'
    obtain rfl : g' = g := m.gens
    obtain rfl : d' = d := m.drawn
    obtain rfl : os' = os := m.os
    refine wpAny_pure ?_
    show wpAny _ _ (ret Value.none) _ _ _
    refine wpAny_pure ⟨rfl, h h' tk' T fun b o hb e => ?_⟩
    refine m.heap b o ?_ (Heap.get?_push_of_some _ (Heap.get?_push_of_some _ e))
    rw [zI]
    simp only [List.mem_cons, List.not_mem_nil, or_false, not_or]
    exact ⟨Nat.ne_of_lt hb, Nat.ne_of_lt (Nat.lt_succ_of_lt hb)⟩
end
end Own
namespace Own
open PySem PySem.Spec PyProof.Rows L2
/-- len(set(a)), a a tuple of texts: the number is told by whether they differ -/
def tLenSetT (K : PySem.W.Frag) (ta : TE) : TE := fun σ H Q => ta σ H fun x H1 => ∃ (l : Addr) (xs : List Str), x = .ref l ∧ SqT K H1 l (xs.map V.str) ∧ xs.length ≤ 1000 ∧
  ∀ c : Nat, c ≤ xs.length → (c = xs.length ↔ xs.Nodup) → Q (.int (c : Nat)) H1
theorem pe_lenSetT {X : Cx} {a : Expr} {ta : TE} {p p2 q pos : Pos} (hc : X.calm = true) (hg : Gl X "len") (hm : X.mg "len" = none) (hg2 : Gl X "set") (hm2 : X.mg "set" = none) (ha : PE X a ta)
    (na : starEach [a] X.env = (false, eval a X.env) :: starEach [] X.env := by rfl) : PE X (.Call (.Name "len" p) [.Call (.Name "set" p2) [a] [] q] [] pos) (tLenSetT X.K ta) := by
  refine ⟨fun pins s σ H Q I h => Call_ (ld_blt I hg hm boot_len ?_)⟩
  refine PyProof.Rows.callWith_builtin1 (PyProof.Rows.args_cons ?_ rfl) rfl rfl
  refine Call_ (ld_blt I hg2 hm2 boot_set ?_)
  refine PyProof.Rows.callWith_type1 (PyProof.Rows.args_cons (thn (ha.run pins s σ H _ I h) fun v s1 ⟨x, H1, I1, r1, l, xs, ex, ht, hl, k⟩ => PyProof.Rows.args_nil ?_) na) na rfl
  subst ex
  obtain rfl : v = Value.ref l := r1
  obtain ⟨its, r, pl, _⟩ := I1.tuple ht
  refine call_set_texts (I1.ok.hd hc) pl (by simpa using strsAre_of r) (by unfold scanBound; omega) fun h' tk T keep => PyProof.Rows.args_nil ?_
  obtain ⟨c, ⟨o, es, ep, t, ho, hex, hd, _, _, _, hf, hn⟩, hc1, hc2⟩ := T
  have I2 : Inv X pins σ H1 { s1 with heap := h', toks := tk } := I1.kept fun b o e => keep b o (Heap.lt_size e) e
  exact call_len_set ho hex hd hf (by rw [hn]; omega) ⟨.int (c : Nat), H1, I2.tok _, ⟨_, by rw [hn]⟩, k c hc1 hc2⟩
end Own
/-! OwnE: sorted(t), t a tuple of texts. -/
namespace Own
open PySem PySem.Spec PySem.Calls PyProof.Rows L2
section
variable {prog : Program} {w : World} {A : Around} {E : Value → Shared → Prop} {s : Shared}
/-- the items of a tuple, collected -/
theorem collect_tuple {l : Addr} {vs : List Value} {Q : List Value → Shared → Prop} (hl : s.heap.IsTuple l vs.toArray) (hz : vs.length ≤ sizeLine)
    (h : Q vs { s with heap := (s.heap.push (seqObj "list" #[] 0)).update s.heap.objs.size (Obj.mapSeq (· ++ vs.toArray)) }) : wpAny (model prog w) A (collect (.ref l)) Q E s := by
  obtain ⟨o, ho, hc, n, hd⟩ := hl
  have fresh : (s.heap.push (seqObj "list" #[] 0)).get? s.heap.objs.size = some (seqObj "list" #[] 0) := Heap.get?_push_size _ rfl
  have there : (s.heap.push (seqObj "list" #[] 0)).get? l = some o := Heap.get?_push_of_some _ ho
  have size : ((#[] : Array Value) ++ vs.toArray).size ≤ sizeLine + 1 := by simp only [Array.size_append, List.size_toArray, List.length_nil]; omega
  unfold collect
  refine wpAny_bind (wpAny_runValue (codeAny_builtin entry_proto_collect' ?_))
  show wpAny _ _ (do again (.builtin "list.__iadd__" ⟨[← newList [], .ref l], []⟩)) _ _ s
  refine wpAny_bind (wpAny_newList (wpAny_pure ⟨Code.quiet_builtin _ (by decide +kernel), codeAny_builtin entry_list_iadd' ?_⟩))
  show wpAny _ _ (Builtin.List.listExtendWith (.ref s.heap.objs.size) (.ref l) (.ref s.heap.objs.size)) _ _ { s with heap := s.heap.push (seqObj "list" #[] 0) }
  unfold Builtin.List.listExtendWith
  refine wpAny_bind (wpAny_typeOf (T := "tuple") ⟨o, there, hc⟩ ?_)
  rw [if_pos (show _ = true by rw [show (Value.type "tuple" == Value.type "tuple") = true from rfl]; simp)]
  refine wpAny_bind (listItems_at there hd (wpAny_bind (listItems_at (xs := #[]) (n := 0) fresh rfl ?_)))
  rw [if_neg (by simp)]
  refine wpAny_bind (listUpdate_at (xs := #[]) (n := 0) fresh rfl (wpAny_pure ?_) (Nat.zero_le _) size)
  show wpAny (model prog w) A (do
      let o ← load s.heap.objs.size
      match o.data with
      | .seq xs _ => pure xs.toList
      | _ => unsupported "internal:collect") Q E { s with heap := (s.heap.push (seqObj "list" #[] 0)).update s.heap.objs.size (Obj.mapSeq (· ++ vs.toArray)) }
  refine wpAny_bind (wpAny_load (get?_update_seq fresh _) ?_)
  show wpAny _ _ (pure ((#[] : Array Value) ++ vs.toArray).toList) Q E _
  rw [show ((#[] : Array Value) ++ vs.toArray).toList = vs by simp]
  exact wpAny_pure h
theorem sorted_texts {l : Addr} {vs : List Value} {xs : List Str} {Q : Value → Shared → Prop} (hl : s.heap.IsTuple l vs.toArray) (hS : StrsAre vs xs) (hz : vs.length ≤ sizeLine)
    (h : ∀ (out : Array Value) (ys : List Str), StrsAre out.toList ys → ys.Perm xs → sortedS ys = true → Q (.ref (s.heap.objs.size + 1)) { s with heap := sortedAll s.heap vs out }) :
    wpAny (model prog w) A (call (.builtin "sorted") [.ref l]) Q E s := by
  refine Calls.call_function_entry kind_sorted plain_sorted entry_sorted (args_sorted1 _) ?_
  unfold Builtin.«sorted»
  refine wpAny_bind (m := checkCount "sorted" 1 1 _) (wpAny_pure (wpAny_bind (collect_tuple hl hz (wpAny_bind (wpAny_newList ?_)))))
  have size : ((s.heap.push (seqObj "list" #[] 0)).update s.heap.objs.size (Obj.mapSeq (· ++ vs.toArray))).objs.size = s.heap.objs.size + 1 := by rw [Heap.size_update, size_push']
  have new : (((s.heap.push (seqObj "list" #[] 0)).update s.heap.objs.size (Obj.mapSeq (· ++ vs.toArray))).push (seqObj "list" vs.toArray 0)).get? (s.heap.objs.size + 1) = some (seqObj "list" vs.toArray 0) := by
    rw [← size]
    exact Heap.get?_push_size _ rfl
  show wpAny _ _ _ _ _ { s with heap := ((s.heap.push (seqObj "list" #[] 0)).update s.heap.objs.size (Obj.mapSeq (· ++ vs.toArray))).push (seqObj "list" vs.toArray 0) }
  rw [size]
  refine wpAny_bind (wpAny_holding (wpAny_call_entry slot_list_sort ⟨_, new, rfl⟩ entry_list_sort (list_sort_treeKAny strKind_oneLt new hS.keysOf (fun v₁ v₂ rest e => keyKind_strs (by rw [← e]; exact hS)) hz fun st' hp hs => ⟨_, rfl, ?_⟩) (args_list_sort _)))
  obtain ⟨ys, h1, h2, h3⟩ := sorted_out_str hS hp hs
  exact wpAny_pure ⟨_, rfl, h _ ys h1 h2 h3⟩
end
def rSortedT (K : PySem.W.Frag) : List V → Hp → VK → Prop := fun vs H Q => ∃ (a : Addr) (xs : List Str), vs = [V.ref a] ∧ SqT K H a (xs.map V.str) ∧
  ∀ (ys : List Str) (p : Addr), ys.Perm xs → sortedS ys = true → H p = none → Q (.ref p) (upd H p (.lst (ys.map V.str)))
theorem cr_sortedTup {X : Cx} : CallR X (.builtin "sorted") (rSortedT X.K) := by
  intro pins s σ H vs us Q I r h
  obtain ⟨a, xs, rfl, ht, q⟩ := h
  obtain ⟨its, rv, hl, hz⟩ := I.tuple ht
  rw [Vals.ref1 r]
  refine sorted_texts hl rv.strs (by rw [← rv.length]; exact hz) fun out ys h1 h2 h3 => ?_
  obtain ⟨ep, he⟩ := PyProof.Rows.sortedAll_at s.heap its out
  have len : (ys.map V.str).length ≤ sizeLine := by
    rw [List.length_map] at hz
    rw [List.length_map, h2.length_eq]
    exact hz
  exact ⟨.ref _, upd H (s.heap.objs.size + 1) (.lst (ys.map V.str)), I.laid (t' := s.toks) (fun _ _ => PyProof.Rows.sortedAll_old) (Nat.le_succ _) ⟨len, out.toList, ep, vals_of_strs h1, he⟩, rfl, q ys _ h2 h3 (I.hok.fresh (Nat.le_succ _))⟩
/-- sorted of a list of texts, of any length -/
def rSortedL (K : PySem.W.Frag) : List V → Hp → VK → Prop := fun vs H Q => ∃ (a : Addr) (xs : List Str), vs = [V.ref a] ∧ SqL K H a (xs.map V.str) ∧
  ∀ (ys : List Str) (p : Addr), ys.Perm xs → sortedS ys = true → H p = none → Q (.ref p) (upd H p (.lst (ys.map V.str)))
theorem cr_sortedLst {X : Cx} : CallR X (.builtin "sorted") (rSortedL X.K) := by
  intro pins s σ H vs us Q I r h
  obtain ⟨a, xs, rfl, ht, q⟩ := h
  obtain ⟨its, rv, hl, hz⟩ := I.list ht
  rw [Vals.ref1 r]
  refine PyProof.Rows.sorted_strsAny hl.isList rv.strs (by rw [← rv.length]; exact hz) fun out ys h1 h2 h3 => ?_
  obtain ⟨ep, he⟩ := PyProof.Rows.sortedAll_at s.heap its out
  have len : (ys.map V.str).length ≤ sizeLine := by
    rw [List.length_map] at hz
    rw [List.length_map, h2.length_eq]
    exact hz
  exact ⟨.ref _, upd H (s.heap.objs.size + 1) (.lst (ys.map V.str)), I.laid (t' := s.toks) (fun _ _ => PyProof.Rows.sortedAll_old) (Nat.le_succ _) ⟨len, out.toList, ep, vals_of_strs h1, he⟩, rfl, q ys _ h2 h3 (I.hok.fresh (Nat.le_succ _))⟩
/-- .. of ints -/
def rSortedN (K : PySem.W.Frag) : List V → Hp → VK → Prop := fun vs H Q => ∃ (a : Addr) (ns : List Int), vs = [V.ref a] ∧ SqL K H a (ns.map V.int) ∧
  ∀ (ms : List Int) (p : Addr), ms.Perm ns → ms.Pairwise (· ≤ ·) → H p = none → Q (.ref p) (upd H p (.lst (ms.map V.int)))
theorem cr_sortedInt {X : Cx} : CallR X (.builtin "sorted") (rSortedN X.K) := by
  intro pins s σ H vs us Q I r h
  obtain ⟨a, ns, rfl, ht, q⟩ := h
  obtain ⟨its, rv, hl, hz⟩ := I.list ht
  rw [Vals.ref1 r]
  have hi := rv.ints
  refine PyProof.Rows.sorted_intsAny hl.isList hi (by rw [← rv.length]; exact hz) fun out ms h1 h2 h3 => ?_
  obtain ⟨ep, he⟩ := PyProof.Rows.sortedAll_at s.heap its out
  have len : (ms.map V.int).length ≤ sizeLine := by
    rw [List.length_map] at hz
    rw [List.length_map, h2.length_eq]
    exact hz
  exact ⟨.ref _, upd H (s.heap.objs.size + 1) (.lst (ms.map V.int)), I.laid (t' := s.toks) (fun _ _ => PyProof.Rows.sortedAll_old) (Nat.le_succ _) ⟨len, out.toList, ep, vals_of_ints h1, he⟩, rfl, q ms _ h2 h3 (I.hok.fresh (Nat.le_succ _))⟩
end Own
namespace K5
open PySem L2 Own StX ClX NdefX
/-! ### the text by places -/
def top (i : Nat) : Stmt := PySem.Challenge.pw_stepblocks_k05_diagrams_read_and_written.main.body.getD i (.Pass ⟨0, 0, 0, 0⟩)
abbrev sName : Stmt := top 12
abbrev sDN : Stmt := top (12 + 1)
abbrev sRV : Stmt := top (12 + 2)
abbrev sRP : Stmt := top (12 + 3)
abbrev sIP : Stmt := top (12 + 4)
abbrev sHead : Stmt := top (12 + 5)
abbrev sPort : Stmt := top (12 + 6)
abbrev sRows : Stmt := top (12 + 7)
abbrev sReadHead : Stmt := top (12 + 8)
abbrev sOrder : Stmt := top (12 + 9)
theorem small1 {n : Nat} (h : n ≤ 8) : n ≤ sizeLine := Nat.le_trans h (by decide)
theorem upd_new {H : Hp} {p : Addr} {o : HO} (h : H p = none) : Same H (upd H p o) := fun b u e => by
  rw [upd_ne (ne_of_none e h)]
  exact e
theorem same_put {H H1 : Hp} {p : Addr} {o : HO} (s : Same H H1) (h : H p = none) : Same H (upd H1 p o) := fun b u e => by
  rw [upd_ne (ne_of_none e h)]
  exact s b u e
/-! ### what the texts say -/
def optV : Option Int → V
  | some v => .int v
  | none => .non
def isD (c : Nat) : Bool := decide (48 ≤ c) && decide (c ≤ 57)
def dig10 (x : Str) : Bool := decide (1 ≤ x.length) && decide (x.length ≤ 10) && x.cps.toList.all isD
def readV (x : Str) : Option Int :=
  if dig10 x = true then
    if (⟨#[x.cps.toList.headD 0]⟩ : Str) = "0" ∧ ¬ x = "0" then none
    else if ((NumText.digitsVal x.cps.toList : Nat) : Int) < 4294967296 then some ((NumText.digitsVal x.cps.toList : Nat) : Int) else none
  else none
def words9 : List Str := ["const", "add", "sub", "mul", "less", "equal", "pick", "divide", "delay"]
def readP (x : Str) : Option (Str × Option Int) :=
  if (Txt.partition x " ").1 ∈ words9 then
    if (Txt.partition x " ").1 = "const" ∨ (Txt.partition x " ").1 = "delay" then (readV (Txt.partition x " ").2.2).map fun c => ((Txt.partition x " ").1, some c)
    else if (Txt.partition x " ").2.1.length = 0 then some ((Txt.partition x " ").1, none) else none
  else none
theorem isD_in (c : Nat) : decide (c ∈ (("0123456789" : Str)).cps.toList) = isD c := by
  have e : (("0123456789" : Str)).cps.toList = [48, 49, 50, 51, 52, 53, 54, 55, 56, 57] := by decide +kernel
  rw [e]
  unfold isD
  rw [Bool.eq_iff_iff]
  simp only [Bool.and_eq_true, decide_eq_true_eq, List.mem_cons, List.not_mem_nil, or_false]
  omega
theorem par_len {S : List Nat} : ∀ (l acc : List Nat) {p q : List Nat}, TL.par S acc l = some (p, q) → q.length ≤ l.length
  | [], acc, p, q, h => by cases h
  | c :: r, acc, p, q, h => by
    have h : (if TL.pre S (c :: r) = true then some (acc, (c :: r).drop S.length) else TL.par S (acc ++ [c]) r) = some (p, q) := h
    split at h
    · cases h
      rw [List.length_drop]
      omega
    · have := par_len r _ h
      rw [List.length_cons]
      omega
theorem part_rest (x : Str) : (Txt.partition x " ").2.2.length ≤ x.length := by
  rw [TL.partition_par x " " (by decide +kernel)]
  split
  · rename_i a b e
    have := par_len _ _ e
    simp only [Str.length] at *
    simpa using this
  · exact Nat.zero_le _
/-! ### an instance of Primitive -/
/-! ### names -/
def reserved : List Str := ["block", "part", "end", "self"]
def isL (c : Nat) : Bool := decide (97 ≤ c) && decide (c ≤ 122)
def isNm (x : Str) : Bool := decide (1 ≤ x.length) && decide (x.length ≤ 8) && !decide (x ∈ reserved) && x.cps.toList.all isL
def isDN (x : Str) : Bool := isNm x && !decide (x ∈ words9)
/-- what the texts module has -/
structure Txt (K : PySem.W.Frag) (w : World) (mg : Str → Option Value) : Prop where
  pp : ∃ d es n, mg "PRIMITIVE_PORTS" = some (.ref d) ∧ KDict K w d es n ∧ (∀ z ∈ words9, ∃ u, PySem.W.nsIn K d z = some (some u)) ∧ ∀ z, ¬ z ∈ words9 → PySem.W.nsIn K d z = some none
  ww : ∃ d, mg "WORDS_WITH_VALUE" = some (.ref d) ∧ ∀ H, SqT K H d [.str "const", .str "delay"]
  dg : ∃ t, mg "DIGITS" = some (.str "0123456789" t)
  md : ∃ t, mg "MOST_DIGITS" = some (.int 10 t)
  mo : ∃ t, mg "MODULUS" = some (.int 4294967296 t)
  le : ∃ t, mg "LETTERS" = some (.str "abcdefghijklmnopqrstuvwxyz" t)
  ml : ∃ t, mg "MOST_LETTERS" = some (.int 8 t)
  re : ∃ a, mg "RESERVED_WORDS" = some (.ref a) ∧ ∀ H, SqT K H a (reserved.map V.str)
  is_ : mg "isinstance" = none
  zl : mg "len" = none
  za : mg "all" = none
  zi : mg "int" = none
  zs : mg "str" = none
  zt : mg "tuple" = none
theorem isL_in (c : Nat) : decide (c ∈ (("abcdefghijklmnopqrstuvwxyz" : Str)).cps.toList) = isL c := by
  have e : (("abcdefghijklmnopqrstuvwxyz" : Str)).cps.toList = (List.range 26).map (· + 97) := by decide +kernel
  rw [e]
  unfold isL
  by_cases h : 97 ≤ c ∧ c ≤ 122
  · rw [decide_eq_true h.1, decide_eq_true h.2]
    exact decide_eq_true (List.mem_map.mpr ⟨c - 97, List.mem_range.mpr (by omega), by omega⟩)
  · have : ¬ c ∈ (List.range 26).map (· + 97) := fun hm => by
      obtain ⟨k, hk, rfl⟩ := List.mem_map.mp hm
      have := List.mem_range.mp hk
      omega
    rw [decide_eq_false this]
    by_cases h1 : 97 ≤ c
    · rw [decide_eq_true h1, decide_eq_false (fun h2 => h ⟨h1, h2⟩)]
      rfl
    · rw [decide_eq_false h1]
      rfl
theorem inV_strs (z : Str) (l : List Str) : inV (.str z) (l.map V.str) = decide (z ∈ l) := by
  induction l with
  | nil => rfl
  | cons a r ih =>
    show (eqV (.str a) (.str z) || inV (.str z) (r.map V.str)) = _
    rw [ih]
    have e : eqV (.str a) (.str z) = decide (z = a) := by
      show (a == z) = _
      by_cases h : z = a
      · rw [decide_eq_true h, h]
        exact beq_self_eq_true _
      · rw [decide_eq_false h]
        exact beq_eq_false_iff_ne.mpr fun q => h q.symm
    rw [e]
    by_cases h : z = a
    · simp [h]
    · simp [h]
theorem sl (a b : Str) : (a ++ b).length = a.length + b.length := by rw [TL.len_tl, TL.len_tl a, TL.len_tl b, TL.tl_append, List.length_append]
theorem readP_word {x z : Str} {c : Option Int} (h : readP x = some (z, c)) : z ∈ words9 := by
  unfold readP at h
  split at h
  · rename_i hw
    split at h
    · cases e : readV (Txt.partition x " ").2.2 with
      | none => rw [e] at h; cases h
      | some v => rw [e] at h; cases h; exact hw
    · split at h
      · cases h; exact hw
      · cases h
  · cases h
theorem ww9 (z : Str) (h : z ∈ words9) : inV (.str z) [.str "const", .str "delay"] = decide (z = "const" ∨ z = "delay") := by
  simp only [words9, List.mem_cons, List.not_mem_nil, or_false] at h
  rcases h with rfl | rfl | rfl | rfl | rfl | rfl | rfl | rfl | rfl <;> decide +kernel
def spRV : Sp := fun vs H Q _ => ∃ x : Str, vs = [.str x] ∧ x.length ≤ sizeLine ∧ ∀ H', Same H H' → Q (optV (readV x)) H'
def spRP : Sp := fun vs H Q _ => ∃ x : Str, vs = [.str x] ∧ x.length ≤ sizeLine ∧ (readP x = none → ∀ H', Same H H' → Q .non H') ∧
  (∀ z c, readP x = some (z, c) → ∀ t H', Same H H' → H t = none → H' t = some (.tup [.str z, optV c]) → Q (.ref t) H')
def spName : Sp := fun vs H Q _ => ∃ x : Str, vs = [.str x] ∧ x.length ≤ sizeLine ∧ ∀ H', Same H H' → Q (.bl (isNm x)) H'
def spDN : Sp := fun vs H Q _ => ∃ x : Str, vs = [.str x] ∧ x.length ≤ sizeLine ∧ ∀ H', Same H H' → Q (.bl (isDN x)) H'
def spIP : Sp := fun vs H Q _ => ∃ x : Str, vs = [.str x] ∧ x.length ≤ sizeLine ∧ ∀ H', Same H H' → Q (.bl (readP x).isSome) H'
section
variable {P : Program} {w : World} {K : PySem.W.Frag} {mg : Str → Option Value} {base : Heap}
theorem scRV : FnScope ["text", "value", "sign"] ["text"] (defScope sRV) := ⟨rfl, rfl, rfl, by decide +kernel, rfl, by decide +kernel, by decide +kernel⟩
theorem ok_rv {f : Addr} {fd : FuncData} (F : Fun K "read_value" "read_value" sRV f fd) (T : Txt K w mg) : FnOk P w K mg base CX0 1 f fd ["text"] spRV := by
  refine F.ok scRV (fun vs H Q E h => ?_) (fun cdv A outer s H vs Q E hr h => ?_)
  · obtain ⟨x, rfl, _⟩ := h
    rfl
  obtain ⟨x, rfl, hx, k⟩ := h
  obtain ⟨tD, mD⟩ := T.dg
  obtain ⟨tM, mM⟩ := T.md
  obtain ⟨tO, mO⟩ := T.mo
  refine ⟨_, pss_cons (ps_if (PW.pt (pw_or (pt_not (pt_chain op_le op_le pe_int (pe_callB call_len_str (by rfl) T.zl PySem.boot_len (pa_cons (pv 0) pa_nil)) (pe_glob (v := .int 10) rfl mM ⟨_, rfl⟩)))
      (pw_or1 (pt_not (pt_val (pe_callB (cr_all rfl) (by rfl) T.za (by decide +kernel) (pa_cons (pe_lc (own := [("sign", 2)]) (g := gName 2) rfl scRV.nd (pi_str (pv 0)) (blkOk_by (own := [("sign", 2)]) (N := ["text", "value", "sign"]) (sc := defScope sRV) (by decide +kernel)) (fun _ _ _ _ _ => pg_name (i := 2) scRV.nd rfl (Or.inl rfl)) (fun _ _ _ _ _ => pts_nil)
        (fun _ _ _ _ _ => pe_cmpR op_in_sign (pv 2) (pe_glob (v := .str "0123456789") rfl mD ⟨_, rfl⟩) (by rfl))) pa_nil))))))) (pss_one (ps_ret pe_non)) pss_nil)
    (pss_cons (ps_if (PW.pt (pw_and (pt_cmpR op_eq (pe_ix ix_str (pv 0) pe_int (fun _ _ => rfl)) pe_str (nomark _)) (pw_and1 (pt_cmpR op_ne (pv 0) pe_str (nomark _))))) (pss_one (ps_ret pe_non)) pss_nil)
    (pss_cons (ps_set (i := 1) scRV.nd rfl (.inl rfl) (pe_callTy call_int_str (by rfl) T.zi (by decide +kernel) (pa_cons (pv 0) pa_nil)))
    (pss_one (ps_ret (pe_ifExp (pt_cmpR op_lt (pv 1) (pe_glob (v := .int 4294967296) rfl mO ⟨_, rfl⟩) (nomark _)) (pv 1) pe_non))))), ?_⟩
  have hsz : x.cps.toList.length = x.length := by simp [Str.length]
  have back : ∀ H', Same H H' → readV x = none → Q .non H' := fun H' s' e => by
    have z := k H' s'
    rw [e] at z
    exact z
  refine ⟨_, rfl, _, rfl, hx, _, _, rfl, rfl, _, rfl, ?_⟩
  by_cases h1 : (1 : Int) ≤ (x.length : Int)
  case neg =>
    rw [decide_eq_false h1]
    refine iteF ⟨_, rfl, iteT (back H (Same.refl H) ?_)⟩
    unfold readV dig10
    rw [if_neg]
    rw [decide_eq_false (show ¬ 1 ≤ x.length by omega)]
    simp
  rw [decide_eq_true h1]
  refine iteT ⟨_, _, rfl, rfl, _, rfl, ?_⟩
  by_cases h2 : (x.length : Int) ≤ 10
  case neg =>
    rw [decide_eq_false h2]
    refine iteT (back H (Same.refl H) ?_)
    unfold readV dig10
    rw [if_neg]
    rw [decide_eq_false (show ¬ x.length ≤ 10 by omega)]
    simp
  rw [decide_eq_true h2]
  refine iteF ⟨_, rfl, x, rfl, fun D hD => ?_⟩
  refine lc_it walk_str (fun i H' => Same H H' ∧ H' D = some (.lst ((x.cps.toList.take i).map fun c => V.bl (isD c)))) ⟨upd_new hD, upd_same⟩ (fun _ _ _ _ => True.intro) ?_ ?_
  · rintro i v H1 H2 hi ⟨s1, a1⟩ ⟨rfl, c, hc, rfl⟩
    have hc' : x.cps.toList[i]? = some c := by simpa using hc
    refine ⟨rfl, ?_⟩
    refine ⟨_, rfl, c, _, rfl, rfl, ?_⟩
    rw [isD_in]
    have hl : ((x.cps.toList.take i).map fun c => V.bl (isD c)).length < sizeLine := by
      rw [List.length_map, List.length_take]
      have : i < x.length := hi
      exact Nat.lt_of_le_of_lt (Nat.min_le_left _ _) (by have := small1000 (n := i) (by omega); exact this)
    refine ⟨_, a1, hl, same_put s1 hD, ?_⟩
    rw [upd_same, List.take_succ, hc']
    simp
  rintro H1 ⟨s1, a1⟩
  rw [List.take_of_length_le (show x.cps.toList.length ≤ x.cps.size by simp)] at a1
  refine ⟨D, x.cps.toList.map isD, rfl, .of (by rw [a1, List.map_map]; rfl), true && (x.cps.toList.map isD).all id, by simp, ?_⟩
  have hall : (x.cps.toList.map isD).all id = x.cps.toList.all isD := by rw [List.all_map]; rfl
  rw [hall, Bool.true_and]
  cases h3 : x.cps.toList.all isD with
  | false =>
    refine iteT (back H1 s1 ?_)
    unfold readV dig10
    rw [if_neg]
    rw [h3]
    simp
  | true =>
    have hd : dig10 x = true := by
      unfold dig10
      rw [h3, decide_eq_true (show 1 ≤ x.length by omega), decide_eq_true (show x.length ≤ 10 by omega)]
      rfl
    have hne : x.cps.toList ≠ [] := fun e => by rw [e] at hsz; simp at hsz; omega
    obtain ⟨c0, r0, he⟩ := List.exists_cons_of_ne_nil hne
    have hA : NumText.AllDigits x.cps.toList := fun c hc => by
      have z := List.all_eq_true.mp h3 c hc
      unfold isD at z
      simp only [Bool.and_eq_true, decide_eq_true_eq] at z
      exact z
    have hI : intText? x = some ((NumText.digitsVal x.cps.toList : Nat) : Int) := intText_digits hA hne (by omega)
    refine iteF ⟨_, rfl, x, 0, c0, rfl, rfl, hx, (by rw [he]; exact atI_nat (j := 0) rfl), rfl, _, rfl, ?_⟩
    have hh : x.cps.toList.headD 0 = c0 := by rw [he]; rfl
    have tail : ¬ ((⟨#[x.cps.toList.headD 0]⟩ : Str) = "0" ∧ ¬ x = "0") →
        tSeq (tAsg (tCB (fun xs H Q => ∃ a n, xs = [V.str a] ∧ intText? a = some n ∧ a.length ≤ 640 ∧ Q (.int n) H) (tCons (tVar 0) tNil)) (gName 1))
          (tRet (tIf (tTest (tOp (rI0 fun i j => .bl (decide (i < j))) (tVar 1) (tC (.int 4294967296)))) (tVar 1) (tC .non))) { nx := fun _ H' => Q .non H', rt := Q } [some (.str x), none, none] H1 := by
      intro hn
      have hv : readV x = if ((NumText.digitsVal x.cps.toList : Nat) : Int) < 4294967296 then some ((NumText.digitsVal x.cps.toList : Nat) : Int) else none := by
        unfold readV
        rw [if_pos hd, if_neg hn]
      refine ⟨_, rfl, x, _, rfl, hI, by omega, ?_⟩
      generalize ((NumText.digitsVal x.cps.toList : Nat) : Int) = v at hv
      refine ⟨_, rfl, v, 4294967296, rfl, rfl, _, rfl, ?_⟩
      by_cases h6 : v < 4294967296
      · rw [decide_eq_true h6]
        refine iteT ⟨_, rfl, ?_⟩
        have z := k H1 s1
        rw [hv, if_pos h6] at z
        exact z
      · rw [decide_eq_false h6]
        rw [if_neg h6] at hv
        exact iteF (back H1 s1 hv)
    by_cases h4 : (⟨#[c0]⟩ : Str) = "0"
    · rw [decide_eq_true (show V.str (⟨#[c0]⟩ : Str) = V.str "0" from congrArg V.str h4)]
      refine iteT ⟨_, rfl, rfl, _, rfl, ?_⟩
      by_cases h5 : x = "0"
      · rw [decide_eq_true (show V.str x = V.str "0" from congrArg V.str h5)]
        refine iteF ?_
        exact tail (fun z => z.2 h5)
      · rw [decide_eq_false (show ¬ V.str x = V.str "0" from fun e => h5 (V.str.inj e))]
        refine iteT (back H1 s1 ?_)
        unfold readV
        rw [if_pos hd, if_pos ⟨by rw [hh]; exact h4, h5⟩]
    · rw [decide_eq_false (show ¬ V.str (⟨#[c0]⟩ : Str) = V.str "0" from fun e => h4 (V.str.inj e))]
      refine iteF (iteF ?_)
      exact tail (fun z => h4 (by rw [hh] at z; exact z.1))
theorem scRP : FnScope ["text", "word", "space", "rest", "constant"] ["text"] (defScope sRP) := ⟨rfl, rfl, rfl, by decide +kernel, rfl, by decide +kernel, by decide +kernel⟩
theorem ok_rp {f fV : Addr} {fd fdV : FuncData} (F : Fun K "read_primitive" "read_primitive" sRP f fd) (T : Txt K w mg) (GV : FnOk P w K mg base CX0 1 fV fdV ["text"] spRV) (mV : mg "read_value" = some (.ref fV)) (kV : PySem.W.keepIn K (.ref fV) = true) (bV : Binds K fdV ["text"] []) :
    FnOk P w K mg base CX0 2 f fd ["text"] spRP := by
  refine F.ok scRP (fun vs H Q E h => ?_) (fun cdv A outer s H vs Q E hr h => ?_)
  · obtain ⟨x, rfl, _⟩ := h
    rfl
  obtain ⟨x, rfl, hx, kn, ks⟩ := h
  obtain ⟨d, es, n, hd, D, hP, hM⟩ := T.pp
  obtain ⟨dW, hW, hWs⟩ := T.ww
  refine ⟨_, pss_cons (ps_asg (pe_partition (pv 0) pe_str) (pg_tup (by rfl) (pgs_cons (pg_name (i := 1) scRP.nd rfl (.inl rfl)) (pgs_cons (pg_name (i := 2) scRP.nd rfl (.inl rfl)) (pgs_cons (pg_name (i := 3) scRP.nd rfl (.inl rfl)) pgs_nil)))))
    (pss_cons (ps_if (pt_cmpR (op_notIn_kd D) (pv 1) (pe_glob (v := .ref d) rfl hd rfl) (by rfl)) (pss_one (ps_ret pe_non)) pss_nil)
    (pss_cons (ps_if (pt_cmpR op_notIn_seq (pv 1) (pe_glob (v := .ref dW) rfl hW rfl) (by rfl)) (pss_one (ps_ret (pe_ifExp (pt_truth (pv 2) (by intro _; rfl)) pe_non (pe_tup (pa_cons (pv 1) (pa_cons pe_non pa_nil)))))) pss_nil)
    (pss_cons (ps_set (i := 4) scRP.nd rfl (.inl rfl) (pe_call GV hr rfl mV kV bV .nil pass0 (pa_cons (pv 3) pa_nil)))
    (pss_one (ps_ret (pe_ifExp (pt_cmpR op_isN (pv 4) pe_non (nomark _)) pe_non (pe_tup (pa_cons (pv 1) (pa_cons (pv 4) pa_nil))))))))), ?_⟩
  refine ⟨_, rfl, ⟨_, rfl⟩, _, _, rfl, rfl, by decide +kernel, hx, fun p hp => ?_⟩
  have hrest := part_rest x
  obtain ⟨R, er⟩ : ∃ R, readP x = R := ⟨_, rfl⟩
  rw [er] at kn ks
  unfold readP at er
  have hsp : (Txt.partition x " ").2.1.length ≤ 1 := by
    rw [TL.partition_par x " " (by decide +kernel)]
    split
    · exact (by decide +kernel : (" " : Str).length ≤ 1)
    · exact Nat.zero_le _
  generalize (Txt.partition x " ").1 = z at er
  generalize (Txt.partition x " ").2.1 = sp at er hsp
  generalize (Txt.partition x " ").2.2 = rs at er hrest
  refine ⟨p, _, rfl, .of upd_same, rfl, _, _, rfl, _, _, rfl, _, _, rfl, rfl, ?_⟩
  have s1 := upd_new (o := .tup [V.str z, V.str sp, V.str rs]) hp
  by_cases hz : z ∈ words9
  case neg =>
    rw [if_neg hz] at er
    exact ⟨_, rfl, z, none, rfl, rfl, hM z hz, _, rfl, iteT (kn er.symm _ s1)⟩
  rw [if_pos hz] at er
  obtain ⟨u, h1⟩ := hP z hz
  refine ⟨_, rfl, z, some u, rfl, rfl, h1, _, rfl, iteF ⟨_, rfl, dW, _, rfl, .inr (hWs _), rfl, rfl, _, rfl, ?_⟩⟩
  rw [ww9 z hz]
  by_cases hcd : z = "const" ∨ z = "delay"
  · rw [decide_eq_true hcd]
    rw [if_pos hcd] at er
    refine iteF ⟨_, rfl, rs, rfl, by omega, fun H1 s2 => ?_⟩
    have s3 := s1.trans s2
    cases ev : readV rs with
    | none =>
      rw [ev] at er
      exact ⟨_, rfl, rfl, _, rfl, iteT (kn er.symm _ s3)⟩
    | some v =>
      rw [ev] at er
      refine ⟨_, rfl, rfl, _, rfl, iteF ⟨_, rfl, _, rfl, small1 (by show 2 ≤ 8; decide), fun t ht => ?_⟩⟩
      exact ks z (some v) er.symm t _ (s3.trans (upd_new ht)) (s3.free ht) upd_same
  · rw [decide_eq_false hcd]
    rw [if_neg hcd] at er
    refine iteT ⟨_, rfl, _, ⟨Nat.le_trans hsp (by decide), rfl⟩, ?_⟩
    by_cases hs0 : sp.length = 0
    · rw [if_pos hs0] at er
      rw [show ((sp.length : Int) != 0) = false by simp [hs0]]
      refine iteF ⟨_, rfl, small1 (by show 2 ≤ 8; decide), fun t ht => ?_⟩
      exact ks z none er.symm t _ (s1.trans (upd_new ht)) (s1.free ht) upd_same
    · rw [if_neg hs0] at er
      rw [show ((sp.length : Int) != 0) = true by simp [hs0]]
      exact iteT (kn er.symm _ s1)
abbrev nN : List Str := ["value", "letter"]
theorem scN : FnScope nN ["value"] (defScope sName) := ⟨rfl, rfl, rfl, by decide +kernel, rfl, by decide +kernel, by decide +kernel⟩
theorem ok_name {f : Addr} {fd : FuncData} (F : Fun K "is_name" "is_name" sName f fd) (T : Txt K w mg) : FnOk P w K mg base CX0 1 f fd ["value"] spName := by
  refine F.ok scN (fun vs H Q E h => ?_) (fun cdv A outer s H vs Q E hr h => ?_)
  · obtain ⟨x, rfl, _⟩ := h
    rfl
  obtain ⟨x, rfl, hx, k⟩ := h
  obtain ⟨tL, mL⟩ := T.le
  obtain ⟨tM, mM⟩ := T.ml
  obtain ⟨aR, mR, hR⟩ := T.re
  refine ⟨_, pss_cons (ps_if (PW.pt (pw_or (pt_not (pt_val (pe_callB (id := "isinstance") call_isi (by rfl) T.is_ (by decide +kernel) (pa_cons (pv 0) (pa_cons (pe_bltn (v := .ty "str") rfl T.zs PyProof.Rows.Boot.«str» rfl) pa_nil)))))
        (pw_or1 (pt_not (pt_chain op_le op_le pe_int (pe_callB call_len_str (by rfl) T.zl PySem.boot_len (pa_cons (pv 0) pa_nil)) (pe_glob (v := .int 8) rfl mM ⟨_, rfl⟩)))))) (pss_one (ps_ret pe_bl)) pss_nil)
    (pss_one (ps_ret (pe_and (pe_cmpR op_notIn_seq (pv 0) (pe_glob (v := .ref aR) rfl mR rfl) (by rfl)) (pe_one (pe_callB (cr_all rfl) (by rfl) T.za (by decide +kernel) (pa_cons (pe_lc (own := [("letter", 1)]) (g := gName 1) rfl scN.nd (pi_str (pv 0)) (blkOk_by (own := [("letter", 1)]) (N := nN) (sc := defScope sName) (by decide +kernel)) (fun _ _ _ _ _ => pg_name (i := 1) scN.nd rfl (Or.inl rfl)) (fun _ _ _ _ _ => pts_nil)
        (fun _ _ _ _ _ => pe_cmpR op_in_sign (pv 1) (pe_glob (v := .str "abcdefghijklmnopqrstuvwxyz") rfl mL ⟨_, rfl⟩) (by rfl))) pa_nil)))))), ?_⟩
  refine ⟨_, rfl, .str x, _, _, _, true, rfl, .ty "str", .base (.str x), rfl, _, rfl, ?_⟩
  have hsz : x.cps.toList.length = x.length := by simp [Str.length]
  refine iteF ⟨_, rfl, _, rfl, hx, _, _, rfl, rfl, _, rfl, ?_⟩
  have back : ∀ H', Same H H' → isNm x = false → Q (.bl false) H' := fun H' s' e => by
    have z := k H' s'
    rw [e] at z
    exact z
  by_cases h1 : (1 : Int) ≤ (x.length : Int)
  case neg =>
    rw [decide_eq_false h1]
    refine iteF ⟨_, rfl, iteT (back H (Same.refl H) ?_)⟩
    unfold isNm
    rw [decide_eq_false (show ¬ 1 ≤ x.length by omega)]
    rfl
  rw [decide_eq_true h1]
  refine iteT ⟨_, _, rfl, rfl, _, rfl, ?_⟩
  by_cases h2 : (x.length : Int) ≤ 8
  case neg =>
    rw [decide_eq_false h2]
    refine iteT (back H (Same.refl H) ?_)
    unfold isNm
    rw [decide_eq_false (show ¬ x.length ≤ 8 by omega), Bool.and_false]
    rfl
  rw [decide_eq_true h2]
  refine iteF ⟨_, rfl, aR, _, rfl, .inr (hR H), rfl, rfl, _, rfl, ?_⟩
  show if (!inV (.str x) (reserved.map V.str)) = true then _ else _
  rw [inV_strs]
  by_cases h3 : x ∈ reserved
  · rw [decide_eq_true h3]
    refine iteF (back H (Same.refl H) ?_)
    unfold isNm
    rw [decide_eq_true h3, Bool.not_true, Bool.and_false, Bool.false_and]
  rw [decide_eq_false h3]
  refine iteT ⟨_, rfl, x, rfl, fun D hD => ?_⟩
  refine lc_it walk_str (fun i H' => Same H H' ∧ H' D = some (.lst ((x.cps.toList.take i).map fun c => V.bl (isL c)))) ⟨upd_new hD, upd_same⟩ (fun _ _ _ _ => True.intro) ?_ ?_
  · rintro i v H1 H2 hi ⟨s1, a1⟩ ⟨rfl, c, hc, rfl⟩
    have hc' : x.cps.toList[i]? = some c := by simpa using hc
    refine ⟨rfl, ?_⟩
    refine ⟨_, rfl, c, _, rfl, rfl, ?_⟩
    rw [isL_in]
    have hl : ((x.cps.toList.take i).map fun c => V.bl (isL c)).length < sizeLine := by
      rw [List.length_map, List.length_take]
      have : i < x.length := hi
      exact Nat.lt_of_le_of_lt (Nat.min_le_left _ _) (by have := small1000 (n := i) (by omega); exact this)
    refine ⟨_, a1, hl, same_put s1 hD, ?_⟩
    rw [upd_same, List.take_succ, hc']
    simp
  rintro H1 ⟨s1, a1⟩
  rw [List.take_of_length_le (show x.cps.toList.length ≤ x.cps.size by simp)] at a1
  refine ⟨D, x.cps.toList.map isL, rfl, .of (by rw [a1, List.map_map]; rfl), ?_⟩
  have hall : (x.cps.toList.map isL).all id = x.cps.toList.all isL := by rw [List.all_map]; rfl
  rw [hall]
  have z := k H1 s1
  have e : isNm x = x.cps.toList.all isL := by
    unfold isNm
    rw [decide_eq_true (show 1 ≤ x.length by omega), decide_eq_true (show x.length ≤ 8 by omega), decide_eq_false h3]
    simp
  rw [e] at z
  exact z
end
end K5
namespace K5
open PySem L2 Own StX ClX NdefX
theorem emp (a : Str) : Str.empty ++ a = a := TL.ext_tl (by rw [TL.tl_append]; rfl)
/-- a port's text -/
def portT (a b : Str) : Str := if a.length = 0 then b else a ++ "." ++ b
def total (l : List Str) : Nat := (l.map fun x => x.length + 1).sum
/-- a head's row -/
def headT (name : Str) (ins outs : List Str) : Str := ("block " : Str) ++ name ++ "(" ++ Txt.join " " ins ++ ";" ++ Txt.join "" (outs.map fun o => (" " : Str) ++ o) ++ ")"
def spPort (K : PySem.W.Frag) : Sp := fun vs H Q _ => ∃ (p : Addr) (a b : Str), vs = [.ref p] ∧ SqT K H p [.str a, .str b] ∧ a.length ≤ 200000 ∧ b.length ≤ 200000 ∧ Q (.str (portT a b)) H
def spHead (K : PySem.W.Frag) : Sp := fun vs H Q _ => ∃ (name : Str) (a b : Addr) (ins outs : List Str), vs = [.str name, .ref a, .ref b] ∧ SqT K H a (ins.map V.str) ∧ SqT K H b (outs.map V.str) ∧ name.length ≤ 200000 ∧ total ins ≤ 200000 ∧ total outs ≤ 200000 ∧ outs.length ≤ 200000 ∧
  ∀ H', Same H H' → Q (.str (headT name ins outs)) H'
section
variable {P : Program} {w : World} {K : PySem.W.Frag} {mg : Str → Option Value} {base : Heap}
theorem scDN : FnScope ["text"] ["text"] (defScope sDN) := ⟨rfl, rfl, rfl, by decide +kernel, rfl, by decide +kernel, by decide +kernel⟩
theorem ok_dn {f fN : Addr} {fd fdN : FuncData} (F : Fun K "is_diagram_name" "is_diagram_name" sDN f fd) (T : Txt K w mg) (GN : FnOk P w K mg base CX0 1 fN fdN ["value"] spName) (mN : mg "is_name" = some (.ref fN)) (kN : PySem.W.keepIn K (.ref fN) = true) (bN : Binds K fdN ["value"] []) :
    FnOk P w K mg base CX0 2 f fd ["text"] spDN := by
  refine F.ok scDN (fun vs H Q E h => ?_) (fun cdv A outer s H vs Q E hr h => ?_)
  · obtain ⟨x, rfl, _⟩ := h
    rfl
  obtain ⟨x, rfl, hx, k⟩ := h
  obtain ⟨d, es, n, hd, D, hP, hM⟩ := T.pp
  refine ⟨_, pss_one (ps_ret (pe_and (pe_call GN hr rfl mN kN bN .nil pass0 (pa_cons (pv 0) pa_nil)) (pe_one (pe_cmpR (op_notIn_kd D) (pv 0) (pe_glob (v := .ref d) rfl hd rfl) (by rfl))))), ?_⟩
  refine ⟨_, rfl, x, rfl, hx, fun H1 s1 => ⟨_, rfl, ?_⟩⟩
  have z := k H1 s1
  unfold isDN at z
  cases hn : isNm x with
  | false =>
    rw [hn] at z
    exact iteF z
  | true =>
    rw [hn, Bool.true_and] at z
    by_cases hw : x ∈ words9
    · obtain ⟨u, hu⟩ := hP x hw
      rw [decide_eq_true hw] at z
      exact iteT ⟨_, rfl, x, some u, rfl, rfl, hu, z⟩
    · rw [decide_eq_false hw] at z
      exact iteT ⟨_, rfl, x, none, rfl, rfl, hM x hw, z⟩
theorem scIP : FnScope ["text"] ["text"] (defScope sIP) := ⟨rfl, rfl, rfl, by decide +kernel, rfl, by decide +kernel, by decide +kernel⟩
theorem ok_ip {f fR : Addr} {fd fdR : FuncData} (F : Fun K "is_primitive" "is_primitive" sIP f fd) (GR : FnOk P w K mg base CX0 2 fR fdR ["text"] spRP) (mR : mg "read_primitive" = some (.ref fR)) (kR : PySem.W.keepIn K (.ref fR) = true) (bR : Binds K fdR ["text"] []) :
    FnOk P w K mg base CX0 3 f fd ["text"] spIP := by
  refine F.ok scIP (fun vs H Q E h => ?_) (fun cdv A outer s H vs Q E hr h => ?_)
  · obtain ⟨x, rfl, _⟩ := h
    rfl
  obtain ⟨x, rfl, hx, k⟩ := h
  refine ⟨_, pss_one (ps_ret (pe_cmpR op_notN (pe_call GR hr rfl mR kR bR .nil pass0 (pa_cons (pv 0) pa_nil)) pe_non (nomark _))), ?_⟩
  refine ⟨_, rfl, x, rfl, hx, fun e H1 s1 => ⟨rfl, ?_⟩, fun z c e t H1 s1 ht ht1 => ⟨rfl, ?_⟩⟩
  · have z := k H1 s1
    rw [e] at z
    exact z
  · have q := k H1 s1
    rw [e] at q
    exact q
theorem scPt : FnScope ["port", "part", "name"] ["port"] (defScope sPort) := ⟨rfl, rfl, rfl, by decide +kernel, rfl, by decide +kernel, by decide +kernel⟩
theorem ok_port {f : Addr} {fd : FuncData} (F : Fun K "port_text" "port_text" sPort f fd) : FnOk P w K mg base CX0 1 f fd ["port"] (spPort K) := by
  refine F.ok scPt (fun vs H Q E h => ?_) (fun cdv A outer s H vs Q E hr h => ?_)
  · obtain ⟨p, a, b, rfl, _⟩ := h
    rfl
  obtain ⟨p, a, b, rfl, hp, ha, hb, k⟩ := h
  have sz : ∀ {n : Nat}, n ≤ 1000000 → n ≤ sizeLine := fun h => by rw [sizeLine_eq]; omega
  refine ⟨_, pss_cons (ps_asg (pv 0) (pg_tup (by rfl) (pgs_cons (pg_name (i := 1) scPt.nd rfl (.inl rfl)) (pgs_cons (pg_name (i := 2) scPt.nd rfl (.inl rfl)) pgs_nil))))
    (pss_one (ps_ret (pe_ifExp (pt_truth (pv 1) (by intro _; rfl)) (pe_joined (.cons (pe_fmt (pv 1)) (.cons pe_str (.cons (pe_fmt (pv 2)) .nil)))) (pv 2)))), ?_⟩
  refine ⟨_, rfl, p, _, rfl, hp, rfl, _, _, rfl, _, _, rfl, rfl, ?_⟩
  unfold portT at k
  refine ⟨_, rfl, _, ⟨sz (by omega), rfl⟩, ?_⟩
  by_cases h0 : a.length = 0
  · rw [if_pos h0] at k
    rw [show ((a.length : Int) != 0) = false by simp [h0]]
    exact iteF ⟨_, rfl, k⟩
  · rw [if_neg h0] at k
    rw [show ((a.length : Int) != 0) = true by simp [h0]]
    refine iteT ⟨_, rfl, .inl ⟨a, rfl, sz (by omega), a, rfl, ?_, ".", rfl, ?_, _, rfl, .inl ⟨b, rfl, sz (by omega), b, rfl, ?_, ?_⟩⟩⟩
    · rw [emp]; exact sz (by omega)
    · rw [emp, sl, show ((".": Str)).length = 1 by decide +kernel]; exact sz (by omega)
    · rw [emp, sl, sl, show ((".": Str)).length = 1 by decide +kernel]; exact sz (by omega)
    · rw [emp]; exact k
end
end K5
namespace K5
open PySem L2 Own StX ClX NdefX
theorem join_len (y : Str) : ∀ ts : List Str, (Txt.join y ts).length ≤ (ts.map fun t => t.length + y.length).sum := by
  have h : ∀ ts : List Str, (Str.join y ts).length ≤ (ts.map fun t => t.length + y.length).sum := by
    intro ts
    induction ts with
    | nil => exact Nat.zero_le _
    | cons x r ih =>
      cases r with
      | nil => simp [Str.join]
      | cons z r =>
        show (x ++ y ++ Str.join y (z :: r)).length ≤ _
        rw [sl, sl, List.map_cons, List.sum_cons]
        omega
  intro ts
  rw [TL.join_eq]
  exact h ts
theorem mem_total {x : Str} : ∀ {l : List Str}, x ∈ l → x.length + 1 ≤ total l
  | a :: r, h => by
    have e : total (a :: r) = (a.length + 1) + total r := rfl
    rcases List.mem_cons.mp h with rfl | h
    · omega
    · have := mem_total h
      omega
theorem sum_lens (l : List Str) : (l.map (·.length)).sum + l.length = total l := by
  unfold total
  induction l with
  | nil => rfl
  | cons a r ih =>
    simp only [List.map_cons, List.sum_cons, List.length_cons]
    omega
theorem sum_more (l : List Str) : ((l.map fun o => (" " : Str) ++ o).map fun t => t.length + ("" : Str).length).sum = total l := by
  unfold total
  induction l with
  | nil => rfl
  | cons a r ih =>
    simp only [List.map_cons, List.sum_cons, ih, sl]
    have e1 : ((" " : Str)).length = 1 := by decide +kernel
    have e2 : (("" : Str)).length = 0 := by decide +kernel
    omega
section
variable {P : Program} {w : World} {K : PySem.W.Frag} {mg : Str → Option Value} {base : Heap}
abbrev nH : List Str := ["name", "inputs", "outputs", "before", "behind", "output"]
theorem scHd : FnScope nH ["name", "inputs", "outputs"] (defScope sHead) := ⟨rfl, rfl, rfl, by decide +kernel, rfl, by decide +kernel, by decide +kernel⟩
theorem ok_head {f : Addr} {fd : FuncData} (F : Fun K "head_row" "head_row" sHead f fd) : FnOk P w K mg base CX0 1 f fd ["name", "inputs", "outputs"] (spHead K) := by
  refine F.ok scHd (fun vs H Q E h => ?_) (fun cdv A outer s H vs Q E hr h => ?_)
  · obtain ⟨n, a, b, i, o, rfl, _⟩ := h
    rfl
  obtain ⟨name, a, b, ins, outs, rfl, ha, hb, hn, hi, ho, hol, k⟩ := h
  refine ⟨_, pss_cons (ps_set (i := 3) scHd.nd rfl (.inl rfl) (pe_join pe_str (pv 1)))
    (pss_cons (ps_set (i := 4) scHd.nd rfl (.inl rfl) (pe_join pe_str (pe_lc (own := [("output", 5)]) (g := gName 5) rfl scHd.nd (pi_tup (pv 2)) (blkOk_by (own := [("output", 5)]) (N := nH) (sc := defScope sHead) (by decide +kernel)) (fun _ _ _ _ _ => pg_name (i := 5) scHd.nd rfl (Or.inl rfl)) (fun _ _ _ _ _ => pts_nil)
      (fun _ _ _ _ _ => pe_joined (.cons pe_str (.cons (pe_fmt (pv 5)) .nil))))))
    (pss_one (ps_ret (pe_joined (.cons pe_str (.cons (pe_fmt (pv 0)) (.cons pe_str (.cons (pe_fmt (pv 3)) (.cons pe_str (.cons (pe_fmt (pv 4)) (.cons pe_str .nil))))))))))), ?_⟩
  have sz : ∀ {n : Nat}, n ≤ 2000000 → n ≤ sizeLine := fun h => by rw [sizeLine_eq]; omega
  have e1 : ((" " : Str)).length = 1 := by decide +kernel
  have hsum := sum_lens ins
  refine ⟨⟨_, rfl⟩, _, rfl, _, a, ins, rfl, rfl, .inr ha, by rw [e1]; omega, ?_⟩
  refine ⟨⟨_, rfl⟩, _, rfl, b, rfl, ⟨_, hb⟩, fun D hD => ?_⟩
  refine lc_tup (K := K) (a := b) (xs := outs.map V.str) (te := fun σ H Q => tJs [tC (V.str " "), tFmt (tVar 5)] Str.empty σ H fun out H1 => Q (V.str out) H1) (fun i H' => Same H H' ∧ H' D = some (.lst (((outs.take i).map fun o => (" " : Str) ++ o).map V.str))) ⟨upd_new hD, upd_same⟩ (fun i H' _ p => ?_) ?_ ?_
  · rcases hb with (hb | ⟨o, hb⟩) | hb
    · exact .inl (.inl (p.1 _ _ hb))
    · exact .inl (.inr ⟨o, p.1 _ _ hb⟩)
    · exact .inr hb
  · rintro i v H1 hi' ⟨s1, a1⟩
    rw [List.getElem?_map] at hi'
    obtain ⟨x, hx, rfl⟩ := Option.map_eq_some_iff.mp hi'
    have hxl : x.length + 1 ≤ total outs := mem_total (List.mem_of_getElem? hx)
    have tk : outs.take (i + 1) = outs.take i ++ [x] := by rw [List.take_add_one, hx]; rfl
    refine ⟨rfl, " ", rfl, by rw [emp, e1]; exact sz (by omega), _, rfl, .inl ⟨x, rfl, sz (by omega), x, rfl, by rw [emp, sl, e1]; exact sz (by omega), ?_⟩⟩
    refine ⟨_, a1, by rw [List.length_map, List.length_map, List.length_take]; exact Nat.lt_of_le_of_lt (Nat.le_trans (Nat.min_le_right _ _) hol) (by rw [sizeLine_eq]; omega), same_put s1 hD, ?_⟩
    rw [upd_same, tk, emp]
    simp
  rintro H1 ⟨s1, a1⟩
  rw [List.take_of_length_le (by rw [List.length_map]; exact Nat.le_refl _)] at a1
  have z0 : (("" : Str)).length = 0 := by decide +kernel
  have hj1 := join_len " " ins
  have hj2 := join_len "" (outs.map fun o => (" " : Str) ++ o)
  rw [sum_more] at hj2
  rw [e1] at hj1
  have hj1 : (Txt.join " " ins).length ≤ total ins := hj1
  have hs : ((outs.map fun o => (" " : Str) ++ o).map (·.length)).sum = total outs := by
    have z := sum_more outs
    simp only [z0, Nat.add_zero] at z
    exact z
  refine ⟨"", D, outs.map fun o => (" " : Str) ++ o, rfl, rfl, .inl (.of a1), by rw [hs, z0]; omega, ?_⟩
  have l1 : (("block " : Str)).length = 6 := by decide +kernel
  have l2 : (("(" : Str)).length = 1 := by decide +kernel
  have l3 : ((";" : Str)).length = 1 := by decide +kernel
  have l4 : ((")" : Str)).length = 1 := by decide +kernel
  have kk := k H1 s1
  unfold headT at kk
  generalize Txt.join " " ins = before at hj1 kk ⊢
  generalize Txt.join "" (outs.map fun o => (" " : Str) ++ o) = behind at hj2 kk ⊢
  refine ⟨"block ", rfl, by rw [emp, l1]; exact sz (by omega), _, rfl, .inl ⟨name, rfl, sz (by omega), name, rfl, by rw [emp, sl, l1]; exact sz (by omega), "(", rfl, by rw [emp, sl, sl, l1, l2]; exact sz (by omega), _, rfl, .inl ⟨before, rfl, sz (by omega), before, rfl, by rw [emp, sl, sl, sl, l1, l2]; exact sz (by omega), ";", rfl, by rw [emp, sl, sl, sl, sl, l1, l2, l3]; exact sz (by omega), _, rfl,
    .inl ⟨behind, rfl, sz (by omega), behind, rfl, by rw [emp, sl, sl, sl, sl, sl, l1, l2, l3]; exact sz (by omega), ")", rfl, by rw [emp, sl, sl, sl, sl, sl, sl, l1, l2, l3, l4]; exact sz (by omega), ?_⟩⟩⟩⟩
  rw [emp]
  exact kk
end
end K5
namespace K5
open PySem L2 Own StX ClX NdefX
/-- what a head's row says -/
def headName (row : Str) : Str := (Txt.partition (Txt.removeprefix row "block ") "(").1
def headPorts (row : Str) : Str := Txt.removesuffix (Txt.partition (Txt.removeprefix row "block ") "(").2.2 ")"
def headIns (row : Str) : List Str := Txt.words (Txt.partition (headPorts row) ";").1
def headOuts (row : Str) : List Str := Txt.words (Txt.partition (headPorts row) ";").2.2
def isHead (row : Str) : Bool := decide (headT (headName row) (headIns row) (headOuts row) = row)
def spReadHead (K : PySem.W.Frag) : Sp := fun vs H Q _ => ∃ row : Str, vs = [.str row] ∧ row.length ≤ 190000 ∧ (isHead row = false → ∀ H', Same H H' → Q .non H') ∧
  (isHead row = true → ∀ t a b H', Same H H' → H t = none → H' t = some (.tup [.str (headName row), .ref a, .ref b]) → H' a = some (.tup ((headIns row).map V.str)) → H' b = some (.tup ((headOuts row).map V.str)) → Q (.ref t) H')
theorem par_len1 {S : List Nat} : ∀ (l acc : List Nat) {p q : List Nat}, TL.par S acc l = some (p, q) → p.length ≤ acc.length + l.length
  | [], acc, p, q, h => by cases h
  | c :: r, acc, p, q, h => by
    have h : (if TL.pre S (c :: r) = true then some (acc, (c :: r).drop S.length) else TL.par S (acc ++ [c]) r) = some (p, q) := h
    split at h
    · cases h
      omega
    · have := par_len1 r _ h
      rw [List.length_append, List.length_cons, List.length_nil] at this
      rw [List.length_cons]
      omega
theorem part_le (x y : Str) (hy : TL.tl y ≠ []) : (Txt.partition x y).1.length ≤ x.length ∧ (Txt.partition x y).2.2.length ≤ x.length := by
  rw [TL.partition_par x y hy]
  split
  · rename_i a b e
    have h1 := par_len1 _ _ e
    have h2 := par_len _ _ e
    simp only [Str.length] at *
    exact ⟨by simpa using h1, by simpa using h2⟩
  · exact ⟨Nat.le_refl _, Nat.zero_le _⟩
theorem words_total (x : Str) : total (Txt.words x) ≤ x.length + 1 := by
  rw [← sum_lens]
  exact StrLaws.words_weight x
section
variable {P : Program} {w : World} {K : PySem.W.Frag} {mg : Str → Option Value} {base : Heap}
abbrev nR : List Str := ["row", "name", "_", "ports", "before", "behind", "inputs", "outputs"]
theorem scRh : FnScope nR ["row"] (defScope sReadHead) := ⟨rfl, rfl, rfl, by decide +kernel, rfl, by decide +kernel, by decide +kernel⟩
theorem ok_readhead {f fH : Addr} {fd fdH : FuncData} (F : Fun K "read_head" "read_head" sReadHead f fd) (T : Txt K w mg) (GH : FnOk P w K mg base CX0 1 fH fdH ["name", "inputs", "outputs"] (spHead K)) (mH : mg "head_row" = some (.ref fH)) (kH : PySem.W.keepIn K (.ref fH) = true) (bH : Binds K fdH ["name", "inputs", "outputs"] []) :
    FnOk P w K mg base CX0 2 f fd ["row"] (spReadHead K) := by
  refine F.ok scRh (fun vs H Q E h => ?_) (fun cdv A outer s H vs Q E hr h => ?_)
  · obtain ⟨row, rfl, _⟩ := h
    rfl
  obtain ⟨row, rfl, hrow, kN, kS⟩ := h
  refine ⟨_, pss_cons (ps_asg (pe_partition (pe_m1 PySem.F.slot_str_removeprefix PySem.F.type_str_removeprefix mt_removeprefix (pv 0) pe_str) pe_str) (pg_tup (by rfl) (pgs_cons (pg_name (i := 1) scRh.nd rfl (.inl rfl)) (pgs_cons (pg_name (i := 2) scRh.nd rfl (.inl rfl)) (pgs_cons (pg_name (i := 3) scRh.nd rfl (.inl rfl)) pgs_nil)))))
    (pss_cons (ps_asg (pe_partition (pe_m1 PySem.F.slot_str_removesuffix PySem.F.type_str_removesuffix mt_removesuffix (pv 3) pe_str) pe_str) (pg_tup (by rfl) (pgs_cons (pg_name (i := 4) scRh.nd rfl (.inl rfl)) (pgs_cons (pg_name (i := 2) scRh.nd rfl (.inl rfl)) (pgs_cons (pg_name (i := 5) scRh.nd rfl (.inl rfl)) pgs_nil)))))
    (pss_cons (ps_par (i := 6) (j := 7) rfl scRh.nd rfl rfl (by decide) rfl rfl (pa_cons (pe_callTy call_tuple_of (by rfl) T.zt (by decide +kernel) (pa_cons (pe_words (pv 4)) pa_nil)) (pa_cons (pe_callTy call_tuple_of (by rfl) T.zt (by decide +kernel) (pa_cons (pe_words (pv 5)) pa_nil)) pa_nil)) (by rfl))
    (pss_cons (ps_if (pt_cmpR op_ne (pe_call GH hr rfl mH kH bH .nil pass0 (pa_cons (pv 1) (pa_cons (pv 6) (pa_cons (pv 7) pa_nil)))) (pv 0) (nomark _)) (pss_one (ps_ret pe_non)) pss_nil)
    (pss_one (ps_ret (pe_tup (pa_cons (pv 1) (pa_cons (pv 6) (pa_cons (pv 7) pa_nil))))))))), ?_⟩
  have sz : ∀ {n : Nat}, n ≤ 2000000 → n ≤ sizeLine := fun h => by rw [sizeLine_eq]; omega
  have l0 := PyProof.Rows.len_removeprefix row "block "
  have p1 := part_le (Txt.removeprefix row "block ") "(" (by decide +kernel)
  have l1 := PyProof.Rows.len_removesuffix (Txt.partition (Txt.removeprefix row "block ") "(").2.2 ")"
  have p2 := part_le (headPorts row) ";" (by decide +kernel)
  have hname : (headName row).length ≤ 190000 := Nat.le_trans p1.1 (Nat.le_trans l0 hrow)
  have hports : (headPorts row).length ≤ 190000 := Nat.le_trans l1 (Nat.le_trans p1.2 (Nat.le_trans l0 hrow))
  have w1 := words_total (Txt.partition (headPorts row) ";").1
  have w2 := words_total (Txt.partition (headPorts row) ";").2.2
  refine ⟨_, rfl, ⟨_, rfl⟩, _, _, rfl, rfl, sz (by omega), ⟨_, rfl⟩, _, _, rfl, rfl, by decide +kernel, sz (by omega), fun q1 hq1 => ?_⟩
  refine ⟨q1, _, rfl, .of upd_same, rfl, _, _, rfl, _, _, rfl, _, _, rfl, rfl, ?_⟩
  refine ⟨_, rfl, ⟨_, rfl⟩, _, _, rfl, rfl, sz (by omega), ⟨_, rfl⟩, _, _, rfl, rfl, by decide +kernel, sz (by omega), fun q2 hq2 => ?_⟩
  refine ⟨q2, _, rfl, .of upd_same, rfl, _, _, rfl, _, _, rfl, _, _, rfl, rfl, ?_⟩
  have z1 : (Txt.partition (headPorts row) ";").1.length + 2 ≤ sizeLine := sz (by omega)
  have z2 : (Txt.partition (headPorts row) ";").2.2.length + 2 ≤ sizeLine := sz (by omega)
  refine ⟨_, rfl, ⟨_, rfl⟩, _, rfl, rfl, z1, fun q3 hq3 => ⟨q3, _, rfl, .inl ⟨.of upd_same, fun a ha => ?_⟩⟩⟩
  refine ⟨_, rfl, ⟨_, rfl⟩, _, rfl, rfl, z2, fun q4 hq4 => ⟨q4, _, rfl, .inl ⟨.of upd_same, fun b hb => ⟨_, _, rfl, ?_⟩⟩⟩⟩
  have s1 := upd_new (o := HO.tup [V.str (headName row), .str (Txt.partition (Txt.removeprefix row "block ") "(").2.1, .str (Txt.partition (Txt.removeprefix row "block ") "(").2.2]) hq1
  have s2 := upd_new (o := HO.tup [V.str (Txt.partition (headPorts row) ";").1, .str (Txt.partition (headPorts row) ";").2.1, .str (Txt.partition (headPorts row) ";").2.2]) hq2
  have s3 := upd_new (o := HO.lst ((headIns row).map V.str)) hq3
  have s4 := upd_new (o := HO.tup ((headIns row).map V.str)) ha
  have s5 := upd_new (o := HO.lst ((headOuts row).map V.str)) hq4
  have s6 := upd_new (o := HO.tup ((headOuts row).map V.str)) hb
  obtain ⟨H6, hH6⟩ : ∃ H6, H6 = (upd (upd (upd (upd (upd (upd H q1 (HO.tup [V.str (headName row), .str (Txt.partition (Txt.removeprefix row "block ") "(").2.1, .str (Txt.partition (Txt.removeprefix row "block ") "(").2.2])) q2 (HO.tup [V.str (Txt.partition (headPorts row) ";").1, .str (Txt.partition (headPorts row) ";").2.1, .str (Txt.partition (headPorts row) ";").2.2])) q3 (HO.lst ((headIns row).map V.str))) a (HO.tup ((headIns row).map V.str))) q4 (HO.lst ((headOuts row).map V.str))) b (HO.tup ((headOuts row).map V.str))) := ⟨_, rfl⟩
  have sA : Same H H6 := by rw [hH6]; exact s1.trans (s2.trans (s3.trans (s4.trans (s5.trans s6))))
  have ga : H6 a = some (HO.tup ((headIns row).map V.str)) := by rw [hH6]; exact (s5.trans s6) _ _ upd_same
  have gb : H6 b = some (HO.tup ((headOuts row).map V.str)) := by rw [hH6]; exact upd_same
  show tSeq _ _ _ _ (upd (upd (upd (upd (upd (upd H q1 (HO.tup [V.str (headName row), .str (Txt.partition (Txt.removeprefix row "block ") "(").2.1, .str (Txt.partition (Txt.removeprefix row "block ") "(").2.2])) q2 (HO.tup [V.str (Txt.partition (headPorts row) ";").1, .str (Txt.partition (headPorts row) ";").2.1, .str (Txt.partition (headPorts row) ";").2.2])) q3 (HO.lst ((headIns row).map V.str))) a (HO.tup ((headIns row).map V.str))) q4 (HO.lst ((headOuts row).map V.str))) b (HO.tup ((headOuts row).map V.str)))
  rw [← hH6]
  clear hH6
  have w3 : total (headIns row) ≤ 200000 := by
    have e : total (headIns row) = total (Txt.words (Txt.partition (headPorts row) ";").1) := rfl
    omega
  have w4 : total (headOuts row) ≤ 200000 := by
    have e : total (headOuts row) = total (Txt.words (Txt.partition (headPorts row) ";").2.2) := rfl
    omega
  have w5 : (headOuts row).length ≤ 200000 := by
    have e := sum_lens (headOuts row)
    omega
  refine ⟨_, rfl, _, rfl, _, rfl, headName row, a, b, headIns row, headOuts row, rfl, .of ga, .of gb, by omega, w3, w4, w5, fun H7 s7 => ⟨_, rfl, rfl, _, rfl, ?_⟩⟩
  have s8 := sA.trans s7
  by_cases hh : headT (headName row) (headIns row) (headOuts row) = row
  · have e : isHead row = true := decide_eq_true hh
    rw [decide_eq_true (congrArg V.str hh)]
    refine iteF ⟨_, rfl, _, rfl, _, rfl, small1 (by show 3 ≤ 8; decide), fun t ht => ?_⟩
    have s9 := upd_new (o := HO.tup [V.str (headName row), .ref a, .ref b]) ht
    exact kS e t a b _ (s8.trans s9) (s8.free ht) upd_same (s9 _ _ (s7 _ _ ga)) (s9 _ _ (s7 _ _ gb))
  · have e : isHead row = false := decide_eq_false hh
    rw [decide_eq_false (fun z => hh (V.str.inj z))]
    exact iteT (kN e _ s8)
end
end K5
namespace K5
open PySem L2 Own StX ClX NdefX
abbrev sReadPort : Stmt := inClass (top 23) 5
/-- a port as it is read: the part and the name -/
def readPort (parts own : List Str) (x : Str) : Option (Str × Str) :=
  if (Txt.partition x ".").2.1.length = 0 then (if x ∈ own then some (Str.empty, x) else none)
  else if (Txt.partition x ".").1 ∈ parts ∧ isNm (Txt.partition x ".").2.2 = true then some ((Txt.partition x ".").1, (Txt.partition x ".").2.2) else none
/-- the reader's parts: a dict at d -/
def PartsAt (H : Hp) (d : Addr) (ps : List (Str × Str)) : Prop := H d = some (.dK (ps.map fun p => (Sum.inr p.1, V.str p.2)))
theorem val_parts (z : Str) : ∀ ps : List (Str × Str), (valV (ps.map fun p => ((Sum.inr p.1 : Key), V.str p.2)) (Sum.inr z)).isSome = decide (z ∈ ps.map (·.1))
  | [] => rfl
  | p :: r => by
    have ih := val_parts z r
    unfold valV at *
    rw [List.map_cons, List.map_cons, List.find?_cons]
    by_cases h : z = p.1
    · have e : decide ((Sum.inr p.1 : Key) = Sum.inr z) = true := decide_eq_true (by rw [h])
      rw [e, decide_eq_true (by rw [h]; exact List.mem_cons_self)]
      rfl
    · have e : decide ((Sum.inr p.1 : Key) = Sum.inr z) = false := decide_eq_false fun e => h (Sum.inr.inj e).symm
      rw [e]
      show (Option.map _ (List.find? _ _)).isSome = _
      rw [ih]
      refine decide_eq_decide.mpr ⟨fun q => List.mem_cons_of_mem _ q, fun q => ?_⟩
      rcases List.mem_cons.mp q with q | q
      · exact absurd q h
      · exact q
def spReadPort (K : PySem.W.Frag) (C : Addr) : Sp := fun vs H Q _ => ∃ (p dx d o : Addr) (fs : List (Str × V)) (x : Str) (ps : List (Str × Str)) (own : List Str), vs = [.ref p, .str x, .ref o] ∧ H p = some (.ins C dx fs) ∧ fs.lookup ("parts" : Str) = some (.ref d) ∧ PartsAt H d ps ∧
  SqT K H o (own.map V.str) ∧ x.length ≤ 190000 ∧ (readPort (ps.map (·.1)) own x = none → ∀ H', Same H H' → Q .non H') ∧
  (∀ a b, readPort (ps.map (·.1)) own x = some (a, b) → ∀ t H', Same H H' → H t = none → H' t = some (.tup [.str a, .str b]) → Q (.ref t) H')
section
variable {P : Program} {w : World} {K : PySem.W.Frag} {mg : Str → Option Value} {base : Heap} {C : Addr}
abbrev nRP : List Str := ["self", "text", "own_names", "part", "dot", "name"]
theorem scRdP : FnScope nRP ["self", "text", "own_names"] (defScope sReadPort) := ⟨rfl, rfl, rfl, by decide +kernel, rfl, by decide +kernel, by decide +kernel⟩
theorem ok_readport {f fN : Addr} {fd fdN : FuncData} (F : Fun K "_read_port" "DiagramReader._read_port" sReadPort f fd) (cl : Cls K C) (nP : NoAttr K C "parts") (GN : FnOk P w K mg base CX0 1 fN fdN ["value"] spName) (mN : mg "is_name" = some (.ref fN)) (kN : PySem.W.keepIn K (.ref fN) = true) (bN : Binds K fdN ["value"] []) :
    FnOk P w K mg base CX0 2 f fd ["self", "text", "own_names"] (spReadPort K C) := by
  refine F.ok scRdP (fun vs H Q E h => ?_) (fun cdv A outer s H vs Q E hr h => ?_)
  · obtain ⟨p, dx, d, o, fs, x, ps, own, rfl, _⟩ := h
    rfl
  obtain ⟨p, dx, d, o, fs, x, ps, own, rfl, hp, hf, hd, ho, hx, kN', kS⟩ := h
  have hu1 := Nat.lt_of_le_of_lt (Nat.add_le_add_left (show 1 ≤ 64 by decide) _) hr.units
  refine ⟨_, pss_cons (ps_asg (pe_partition (pv 1) pe_str) (pg_tup (by rfl) (pgs_cons (pg_name (i := 3) scRdP.nd rfl (.inl rfl)) (pgs_cons (pg_name (i := 4) scRdP.nd rfl (.inl rfl)) (pgs_cons (pg_name (i := 5) scRdP.nd rfl (.inl rfl)) pgs_nil)))))
    (pss_cons (ps_if (pt_not (pt_truth (pv 4) (by intro _; rfl))) (pss_one (ps_ret (pe_ifExp (pt_cmpR op_in_seq (pv 1) (pv 2) (by rfl)) (pe_tup (pa_cons pe_str (pa_cons (pv 1) pa_nil))) pe_non))) pss_nil)
    (pss_one (ps_ret (pe_ifExp (PW.pt (pw_and (pt_cmp (pc_din hu1 (pv 3) (pe_fld (pv 0) rfl)) (by rfl)) (pw_and1 (pt_val (pe_call GN (hr.mono (by decide)) rfl mN kN bN .nil pass0 (pa_cons (pv 5) pa_nil)))))) (pe_tup (pa_cons (pv 3) (pa_cons (pv 5) pa_nil))) pe_non)))), ?_⟩
  have sz : ∀ {n : Nat}, n ≤ 2000000 → n ≤ sizeLine := fun h => by rw [sizeLine_eq]; omega
  have pl := part_le x "." (by decide +kernel)
  have hsp : (Txt.partition x ".").2.1.length ≤ 1 := by
    rw [TL.partition_par x "." (by decide +kernel)]
    split
    · exact (by decide +kernel : (("." : Str)).length ≤ 1)
    · exact Nat.zero_le _
  obtain ⟨R, eR⟩ : ∃ R, readPort (ps.map (·.1)) own x = R := ⟨_, rfl⟩
  rw [eR] at kN' kS
  unfold readPort at eR
  refine ⟨_, rfl, ⟨_, rfl⟩, _, _, rfl, rfl, by decide +kernel, sz (by omega), fun q hq => ?_⟩
  have s1 := upd_new (o := HO.tup [V.str (Txt.partition x ".").1, .str (Txt.partition x ".").2.1, .str (Txt.partition x ".").2.2]) hq
  have hp1 := s1 _ _ hp
  have hd1 : PartsAt (upd H q (HO.tup [V.str (Txt.partition x ".").1, .str (Txt.partition x ".").2.1, .str (Txt.partition x ".").2.2])) d ps := s1 _ _ hd
  refine ⟨q, _, rfl, .of upd_same, rfl, _, _, rfl, _, _, rfl, _, _, rfl, rfl, ?_⟩
  generalize (Txt.partition x ".").1 = z at *
  generalize (Txt.partition x ".").2.1 = dt at *
  generalize (Txt.partition x ".").2.2 = n at *
  refine ⟨_, rfl, _, ⟨sz (by omega), rfl⟩, ?_⟩
  by_cases h0 : dt.length = 0
  · rw [if_pos h0] at eR
    rw [show ((dt.length : Int) != 0) = false by simp [h0]]
    have flat : (own.map V.str).all flatV = true := List.all_eq_true.mpr fun y hy => by
      obtain ⟨u, _, rfl⟩ := List.mem_map.mp hy
      rfl
    have ho1 : SqT K (upd H q (HO.tup [V.str z, .str dt, .str n])) o (own.map V.str) := by
      rcases ho with (ho | ⟨u, ho⟩) | ho
      · exact .inl (.inl (s1 _ _ ho))
      · exact .inl (.inr ⟨u, s1 _ _ ho⟩)
      · exact .inr ho
    refine iteT ⟨_, rfl, _, rfl, o, _, rfl, .inr ho1, rfl, flat, _, rfl, ?_⟩
    show if inV (.str x) (own.map V.str) = true then _ else _
    rw [inV_strs]
    by_cases hm : x ∈ own
    · rw [if_pos hm] at eR
      rw [decide_eq_true hm]
      refine iteT ⟨_, rfl, small1 (by show 2 ≤ 8; decide), fun t ht => ?_⟩
      exact kS Str.empty x eR.symm t _ (s1.trans (upd_new ht)) (s1.free ht) upd_same
    · rw [if_neg hm] at eR
      rw [decide_eq_false hm]
      exact iteF (kN' eR.symm _ s1)
  · rw [if_neg h0] at eR
    rw [show ((dt.length : Int) != 0) = true by simp [h0]]
    refine iteF ⟨_, rfl, _, rfl, p, C, dx, _, _, rfl, hp1, cl, nP, hf, d, _, rfl, DGet.k (k := Sum.inr z) hd1, _, rfl, ?_⟩
    rw [val_parts]
    by_cases hz : z ∈ ps.map (·.1)
    · rw [decide_eq_true hz]
      refine iteT ⟨_, rfl, n, rfl, sz (by omega), fun H2 s2 => ⟨_, rfl, ?_⟩⟩
      cases hn : isNm n with
      | true =>
        rw [if_pos ⟨hz, hn⟩] at eR
        refine iteT ⟨_, rfl, _, rfl, small1 (by show 2 ≤ 8; decide), fun t ht => ?_⟩
        exact kS z n eR.symm t _ ((s1.trans s2).trans (upd_new ht)) ((s1.trans s2).free ht) upd_same
      | false =>
        rw [if_neg (fun q => by rw [q.2] at hn; cases hn)] at eR
        exact iteF (kN' eR.symm _ (s1.trans s2))
    · rw [if_neg (fun q => hz q.1)] at eR
      rw [decide_eq_false hz]
      exact iteF (kN' eR.symm _ s1)
end
end K5
namespace K5
open PySem L2 Own StX ClX NdefX
abbrev sTakePart : Stmt := inClass (top 23) 3
/-- all but what stands at a is as it was -/
def SameX (a : Addr) (H H' : Hp) : Prop := ∀ b u, b ≠ a → H b = some u → H' b = some u
theorem SameX.of {a : Addr} {H1 H2 : Hp} (h : Same H1 H2) : SameX a H1 H2 := fun b u _ e => h b u e
theorem SameX.put {a : Addr} {H : Hp} {o : HO} : SameX a H (upd H a o) := fun b u n e => by rw [upd_ne n]; exact e
theorem SameX.trans {a : Addr} {H1 H2 H3 : Hp} (h : SameX a H1 H2) (k : SameX a H2 H3) : SameX a H1 H3 := fun b u n e => k b u n (h b u n e)
def partName (row : Str) : Str := (Txt.partition (Txt.removeprefix row "  part ") " = ").1
def partBlock (row : Str) : Str := (Txt.partition (Txt.removeprefix row "  part ") " = ").2.2
def takePart (ps : List (Str × Str)) (row : Str) : Option (List (Str × Str)) :=
  if ps.length < 16 ∧ isNm (partName row) = true ∧ ¬ partName row ∈ ps.map (·.1) ∧ ((readP (partBlock row)).isSome = true ∨ isDN (partBlock row) = true) then some (ps ++ [(partName row, partBlock row)]) else none
def spTakePart (C : Addr) : Sp := fun vs H Q _ => ∃ (p dx d : Addr) (fs : List (Str × V)) (row : Str) (ps : List (Str × Str)), vs = [.ref p, .str row] ∧ H p = some (.ins C dx fs) ∧ fs.lookup ("parts" : Str) = some (.ref d) ∧ fs.lookup ("_max_parts" : Str) = some (.int 16) ∧ PartsAt H d ps ∧ ps.length ≤ 16 ∧ row.length ≤ 190000 ∧
  (takePart ps row = none → ∀ H', Same H H' → Q (.bl false) H') ∧ (∀ ps', takePart ps row = some ps' → ∀ H', SameX d H H' → PartsAt H' d ps' → Q (.bl true) H')
section
variable {P : Program} {w : World} {K : PySem.W.Frag} {mg : Str → Option Value} {base : Heap} {C : Addr}
abbrev nTP : List Str := ["self", "row", "name", "_", "block"]
theorem scTP : FnScope nTP ["self", "row"] (defScope sTakePart) := ⟨rfl, rfl, rfl, by decide +kernel, rfl, by decide +kernel, by decide +kernel⟩
theorem ok_takepart {f fN fI fD : Addr} {fd fdN fdI fdD : FuncData} (F : Fun K "_take_part" "DiagramReader._take_part" sTakePart f fd) (T : Txt K w mg) (cl : Cls K C) (nP : NoAttr K C "parts") (nM : NoAttr K C "_max_parts")
    (GN : FnOk P w K mg base CX0 1 fN fdN ["value"] spName) (mN : mg "is_name" = some (.ref fN)) (kN : PySem.W.keepIn K (.ref fN) = true) (bN : Binds K fdN ["value"] [])
    (GI : FnOk P w K mg base CX0 3 fI fdI ["text"] spIP) (mI : mg "is_primitive" = some (.ref fI)) (kI : PySem.W.keepIn K (.ref fI) = true) (bI : Binds K fdI ["text"] [])
    (GD : FnOk P w K mg base CX0 2 fD fdD ["text"] spDN) (mD : mg "is_diagram_name" = some (.ref fD)) (kD : PySem.W.keepIn K (.ref fD) = true) (bD : Binds K fdD ["text"] []) :
    FnOk P w K mg base CX0 4 f fd ["self", "row"] (spTakePart C) := by
  refine F.ok scTP (fun vs H Q E h => ?_) (fun cdv A outer s H vs Q E hr h => ?_)
  · obtain ⟨p, dx, d, fs, row, ps, rfl, _⟩ := h
    rfl
  obtain ⟨p, dx, d, fs, row, ps, rfl, hp, hf, hm, hd, hpl, hrow, kF, kT⟩ := h
  have hu1 := Nat.lt_of_le_of_lt (Nat.add_le_add_left (show 1 ≤ 64 by decide) _) hr.units
  refine ⟨_, pss_cons (ps_asg (pe_partition (pe_m1 PySem.F.slot_str_removeprefix PySem.F.type_str_removeprefix mt_removeprefix (pv 1) pe_str) pe_str) (pg_tup (by rfl) (pgs_cons (pg_name (i := 2) scTP.nd rfl (.inl rfl)) (pgs_cons (pg_name (i := 3) scTP.nd rfl (.inl rfl)) (pgs_cons (pg_name (i := 4) scTP.nd rfl (.inl rfl)) pgs_nil)))))
    (pss_cons (ps_if (PW.pt (pw_or (pt_cmpR op_ge (pe_callB call_lenD (by rfl) T.zl PySem.boot_len (pa_cons (pe_fld (pv 0) rfl) pa_nil)) (pe_fld (pv 0) rfl) (nomark _)) (pw_or (pt_not (pt_val (pe_call GN (hr.mono (by decide)) rfl mN kN bN .nil pass0 (pa_cons (pv 2) pa_nil)))) (pw_or1 (pt_cmp (pc_din hu1 (pv 2) (pe_fld (pv 0) rfl)) (by rfl)))))) (pss_one (ps_ret pe_bl)) pss_nil)
    (pss_cons (ps_if (PW.pt (pw_and (pt_not (pt_val (pe_call GI hr rfl mI kI bI .nil pass0 (pa_cons (pv 4) pa_nil)))) (pw_and1 (pt_not (pt_val (pe_call GD (hr.mono (by decide)) rfl mD kD bD .nil pass0 (pa_cons (pv 4) pa_nil))))))) (pss_one (ps_ret pe_bl)) pss_nil)
    (pss_cons (ps_dput hu1 (pe_fld (pv 0) rfl) (pv 2) (pv 4) rfl)
    (pss_one (ps_ret pe_bl))))), ?_⟩
  have sz : ∀ {n : Nat}, n ≤ 2000000 → n ≤ sizeLine := fun h => by rw [sizeLine_eq]; omega
  have l0 := PyProof.Rows.len_removeprefix row "  part "
  have pl := part_le (Txt.removeprefix row "  part ") " = " (by decide +kernel)
  obtain ⟨R, eR⟩ : ∃ R, takePart ps row = R := ⟨_, rfl⟩
  rw [eR] at kF kT
  unfold takePart partName partBlock at eR
  refine ⟨_, rfl, ⟨_, rfl⟩, _, _, rfl, rfl, sz (by omega), ⟨_, rfl⟩, _, _, rfl, rfl, by decide +kernel, sz (by omega), fun q hq => ?_⟩
  have s1 := upd_new (o := HO.tup [V.str (Txt.partition (Txt.removeprefix row "  part ") " = ").1, .str (Txt.partition (Txt.removeprefix row "  part ") " = ").2.1, .str (Txt.partition (Txt.removeprefix row "  part ") " = ").2.2]) hq
  have hp1 := s1 _ _ hp
  have hd1 := s1 _ _ hd
  refine ⟨q, _, rfl, .of upd_same, rfl, _, _, rfl, _, _, rfl, _, _, rfl, rfl, ?_⟩
  generalize (Txt.partition (Txt.removeprefix row "  part ") " = ").1 = z at *
  generalize (Txt.partition (Txt.removeprefix row "  part ") " = ").2.1 = dt at *
  generalize (Txt.partition (Txt.removeprefix row "  part ") " = ").2.2 = n at *
  generalize upd H q (HO.tup [V.str z, .str dt, .str n]) = H1 at s1 hp1 hd1 ⊢
  refine ⟨_, rfl, p, C, dx, _, _, rfl, hp1, cl, nP, hf, d, _, rfl, hd1, _, rfl, p, C, dx, _, _, rfl, hp1, cl, nM, hm, _, _, rfl, rfl, _, rfl, ?_⟩
  have hlen : (ps.map fun p => ((Sum.inr p.1 : Key), V.str p.2)).length = ps.length := List.length_map _
  by_cases hl : ps.length < 16
  case neg =>
    rw [if_neg (fun q => hl q.1)] at eR
    rw [decide_eq_true (show ((((ps.map fun p => ((Sum.inr p.1 : Key), V.str p.2)).length : Nat) : Int)) ≥ 16 by rw [hlen]; omega)]
    exact iteT (kF eR.symm _ s1)
  rw [decide_eq_false (show ¬ ((((ps.map fun p => ((Sum.inr p.1 : Key), V.str p.2)).length : Nat) : Int)) ≥ 16 by rw [hlen]; omega)]
  refine iteF ⟨_, rfl, z, rfl, sz (by omega), fun H2 s2 => ⟨_, rfl, ?_⟩⟩
  cases hn : isNm z with
  | false =>
    rw [if_neg (fun q => by rw [q.2.1] at hn; cases hn)] at eR
    exact iteT (kF eR.symm _ (s1.trans s2))
  | true =>
  refine iteF ⟨_, rfl, _, rfl, p, C, dx, _, _, rfl, s2 _ _ hp1, cl, nP, hf, d, _, rfl, DGet.k (k := Sum.inr z) (s2 _ _ hd1), _, rfl, ?_⟩
  rw [val_parts]
  by_cases hz : z ∈ ps.map (·.1)
  · rw [if_neg (fun q => q.2.2.1 hz)] at eR
    rw [decide_eq_true hz]
    exact iteT (kF eR.symm _ (s1.trans s2))
  rw [decide_eq_false hz]
  refine iteF ⟨_, rfl, n, rfl, sz (by omega), fun H3 s3 => ⟨_, rfl, ?_⟩⟩
  have s13 := s1.trans (s2.trans s3)
  have fin : ∀ H4, Same H1 H4 → ((readP n).isSome = true ∨ isDN n = true) → Q (.bl true) (upd H4 d (.dK (putK (ps.map fun p => ((Sum.inr p.1 : Key), V.str p.2)) (Sum.inr z) (.str n)))) := fun H4 s4 hb => by
    rw [if_pos ⟨hl, hn, hz, hb⟩] at eR
    refine kT _ eR.symm _ ((SameX.of (s1.trans s4)).trans SameX.put) ?_
    have e : putK (ps.map fun p => ((Sum.inr p.1 : Key), V.str p.2)) (Sum.inr z) (.str n) = (ps ++ [(z, n)]).map fun p => ((Sum.inr p.1 : Key), V.str p.2) := by
      unfold putK
      rw [if_neg, List.map_append]
      · rfl
      · intro q
        obtain ⟨kv, hkv, e⟩ := List.any_eq_true.mp q
        obtain ⟨p, hp, rfl⟩ := List.mem_map.mp hkv
        exact hz (List.mem_map.mpr ⟨p, hp, Sum.inr.inj (of_decide_eq_true e)⟩)
    rw [e]
    exact upd_same
  have put : ∀ H4, Same H1 H4 → ((readP n).isSome = true ∨ isDN n = true) → sDPut (tFld K (tVar 0) "parts") (tVar 2) (tVar 4) { nx := tRet (tC (.bl true)) { nx := fun _ H' => Q .non H', rt := Q }, rt := Q } [some (.ref p), some (.str row), some (.str z), some (.str dt), some (.str n)] H4 := fun H4 s4 hb => by
    refine ⟨_, rfl, _, rfl, p, C, dx, _, _, rfl, s4 _ _ hp1, cl, nP, hf, _, rfl, d, _, rfl, DPut.k (k := Sum.inr z) (s4 _ _ hd1) (by rw [hlen, sizeLine_eq]; omega), ?_⟩
    exact fin H4 s4 hb
  cases hr1 : (readP n).isSome with
  | true => exact iteF (put H3 (s2.trans s3) (.inl hr1))
  | false =>
    refine iteT ⟨_, rfl, n, rfl, sz (by omega), fun H4 s4 => ⟨_, rfl, ?_⟩⟩
    cases hd2 : isDN n with
    | true => exact iteF (put H4 (s2.trans (s3.trans s4)) (.inr hd2))
    | false =>
      rw [if_neg (fun q => by rcases q.2.2.2 with q | q <;> simp_all)] at eR
      exact iteT (kF eR.symm _ (s13.trans s4))
end
end K5
namespace K5
open PySem L2 Own StX ClX NdefX
abbrev sTakeWire : Stmt := inClass (top 23) 4
abbrev Port := Str × Str
def keyOf (p : Port) : List Key := [Sum.inr p.1, Sum.inr p.2]
/-- the reader's wires: a dict at d from targets to tuples, the sources -/
def WiresAt (H : Hp) (d : Addr) (ws : List (Port × Port)) : Prop := ∃ as : List Addr, as.length = ws.length ∧ H d = some (.dT ((ws.zip as).map fun q => (keyOf q.1.1, V.ref q.2))) ∧ ∀ (i : Nat) (w : Port × Port) (a : Addr), ws[i]? = some w → as[i]? = some a → H a = some (.tup [.str w.2.1, .str w.2.2])
def wireTarget (parts outs : List Str) (row : Str) : Option Port := readPort parts outs (Txt.partition (Txt.removeprefix row "  ") " <- ").1
def wireSource (parts ins : List Str) (row : Str) : Option Port := readPort parts ins (Txt.partition (Txt.removeprefix row "  ") " <- ").2.2
def takeWire (parts ins outs : List Str) (ws : List (Port × Port)) (row : Str) : Option (List (Port × Port)) :=
  if Txt.startswith row "  " = true then
    match wireTarget parts outs row, wireSource parts ins row with
    | some t, some s => if t ∈ ws.map (·.1) then none else some (ws ++ [(t, s)])
    | _, _ => none
  else none
def spTakeWire (K : PySem.W.Frag) (C : Addr) : Sp := fun vs H Q _ => ∃ (p dx d dw o i : Addr) (fs : List (Str × V)) (row : Str) (ps : List (Str × Str)) (ins outs : List Str) (ws : List (Port × Port)), vs = [.ref p, .str row] ∧ H p = some (.ins C dx fs) ∧ fs.lookup ("parts" : Str) = some (.ref d) ∧ fs.lookup ("wires" : Str) = some (.ref dw) ∧ fs.lookup ("_read_port" : Str) = none ∧
  fs.lookup ("inputs" : Str) = some (.ref i) ∧ fs.lookup ("outputs" : Str) = some (.ref o) ∧ PartsAt H d ps ∧ WiresAt H dw ws ∧ SqT K H i (ins.map V.str) ∧ SqT K H o (outs.map V.str) ∧ ws.length ≤ 1000000 ∧ row.length ≤ 190000 ∧
  (takeWire (ps.map (·.1)) ins outs ws row = none → ∀ H', Same H H' → Q (.bl false) H') ∧ (∀ ws', takeWire (ps.map (·.1)) ins outs ws row = some ws' → ∀ H', SameX dw H H' → WiresAt H' dw ws' → Q (.bl true) H')
/-- a port or None -/
def PV (H : Hp) (v : V) (r : Option Port) : Prop := (r = none ∧ v = .non) ∨ ∃ t a b, r = some (a, b) ∧ v = .ref t ∧ H t = some (.tup [.str a, .str b])
theorem PV.same {H H' : Hp} {v : V} {r : Option Port} (h : PV H v r) (s : Same H H') : PV H' v r := by
  rcases h with h | ⟨t, a, b, h1, h2, h3⟩
  · exact .inl h
  · exact .inr ⟨t, a, b, h1, h2, s _ _ h3⟩
theorem sqT_same {K : PySem.W.Frag} {H H' : Hp} {a : Addr} {xs : List V} (e : Same H H') (h : SqT K H a xs) : SqT K H' a xs := by
  rcases h with (h | ⟨o, h⟩) | h
  · exact .inl (.inl (e _ _ h))
  · exact .inl (.inr ⟨o, e _ _ h⟩)
  · exact .inr h
theorem keyOf_inj {a b : Port} (h : keyOf a = keyOf b) : a = b := by
  obtain ⟨a1, a2⟩ := a
  obtain ⟨b1, b2⟩ := b
  unfold keyOf at h
  simp only [List.cons.injEq, Sum.inr.injEq, and_true] at h
  exact Prod.ext h.1 h.2
theorem any_wires (t : Port) : ∀ (ws : List (Port × Port)) (as : List Addr), as.length = ws.length → (((ws.zip as).map fun q => (keyOf q.1.1, V.ref q.2)).any fun kv => decide (kv.1 = keyOf t)) = decide (t ∈ ws.map (·.1))
  | [], _, _ => rfl
  | _ :: _, [], h => by cases h
  | w :: ws, a :: as, h => by
    rw [List.zip_cons_cons, List.map_cons, List.any_cons, any_wires t ws as (Nat.succ.inj h)]
    by_cases e : t = w.1
    · rw [decide_eq_true (congrArg keyOf e.symm : (keyOf w.1) = keyOf t), decide_eq_true (show t ∈ (w :: ws).map (·.1) by rw [e]; exact List.mem_cons_self)]
      rfl
    · rw [decide_eq_false (fun q => e (keyOf_inj q).symm), Bool.false_or]
      refine decide_eq_decide.mpr ⟨fun q => List.mem_cons_of_mem _ q, fun q => ?_⟩
      rcases List.mem_cons.mp q with q | q
      · exact absurd q e
      · exact q
theorem val_any {κ : Type} [DecidableEq κ] (k : κ) : ∀ l : List (κ × V), (valV l k).isSome = l.any fun kv => decide (kv.1 = k)
  | [] => rfl
  | a :: r => by
    have ih := val_any k r
    unfold valV at *
    rw [List.find?_cons, List.any_cons]
    cases h : decide (a.1 = k) with
    | true => rfl
    | false => exact ih
theorem WiresAt.same {H H' : Hp} {d : Addr} {ws : List (Port × Port)} (h : WiresAt H d ws) (s : Same H H') : WiresAt H' d ws := by
  obtain ⟨as, h1, h2, h3⟩ := h
  exact ⟨as, h1, s _ _ h2, fun i w a e1 e2 => s _ _ (h3 i w a e1 e2)⟩
section
variable {P : Program} {w : World} {K : PySem.W.Frag} {mg : Str → Option Value} {base : Heap} {C : Addr}
abbrev nTW : List Str := ["self", "row", "before", "_", "behind", "target", "source"]
theorem scTW : FnScope nTW ["self", "row"] (defScope sTakeWire) := ⟨rfl, rfl, rfl, by decide +kernel, rfl, by decide +kernel, by decide +kernel⟩
theorem ok_takewire {f fR : Addr} {fd fdR : FuncData} (F : Fun K "_take_wire" "DiagramReader._take_wire" sTakeWire f fd) (T : Txt K w mg) (cl : Cls K C) (nW : NoAttr K C "wires") (nI : NoAttr K C "inputs") (nO : NoAttr K C "outputs")
    (me : Meth K C "_read_port" fR) (GR : FnOk P w K mg base CX0 2 fR fdR ["self", "text", "own_names"] (spReadPort K C)) (bR : Binds K fdR ["self", "text", "own_names"] []) :
    FnOk P w K mg base CX0 3 f fd ["self", "row"] (spTakeWire K C) := by
  refine F.ok scTW (fun vs H Q E h => ?_) (fun cdv A outer s H vs Q E hr h => ?_)
  · obtain ⟨p, dx, d, dw, o, i, fs, row, ps, ins, outs, ws, rfl, _⟩ := h
    rfl
  obtain ⟨p, dx, d, dw, o, i, fs, row, ps, ins, outs, ws, rfl, hp, hf, hw, hm, hi, ho, hd, hW, hI, hO, hwl, hrow, kF, kT⟩ := h
  have hu1 := Nat.lt_of_le_of_lt (Nat.add_le_add_left (show 1 ≤ 64 by decide) _) hr.units
  refine ⟨_, pss_cons (ps_if (pt_not (pt_val (pe_m1 PySem.F.slot_str_startswith PySem.F.type_str_startswith mt_startswith (pv 1) pe_str))) (pss_one (ps_ret pe_bl)) pss_nil)
    (pss_cons (ps_asg (pe_partition (pe_m1 PySem.F.slot_str_removeprefix PySem.F.type_str_removeprefix mt_removeprefix (pv 1) pe_str) pe_str) (pg_tup (by rfl) (pgs_cons (pg_name (i := 2) scTW.nd rfl (.inl rfl)) (pgs_cons (pg_name (i := 3) scTW.nd rfl (.inl rfl)) (pgs_cons (pg_name (i := 4) scTW.nd rfl (.inl rfl)) pgs_nil)))))
    (pss_cons (ps_set (i := 5) scTW.nd rfl (.inl rfl) (pe_meth (pv 0) cl me GR hr bR .nil pass0 (pa_cons (pv 2) (pa_cons (pe_fld (pv 0) rfl) pa_nil))))
    (pss_cons (ps_set (i := 6) scTW.nd rfl (.inl rfl) (pe_meth (pv 0) cl me GR hr bR .nil pass0 (pa_cons (pv 4) (pa_cons (pe_fld (pv 0) rfl) pa_nil))))
    (pss_cons (ps_if (PW.pt (pw_or (pt_cmpR op_isN (pv 5) pe_non (nomark _)) (pw_or (pt_cmpR op_isN (pv 6) pe_non (nomark _)) (pw_or1 (pt_cmp (pc_din hu1 (pv 5) (pe_fld (pv 0) rfl)) (by rfl)))))) (pss_one (ps_ret pe_bl)) pss_nil)
    (pss_cons (ps_dput hu1 (pe_fld (pv 0) rfl) (pv 5) (pv 6) rfl)
    (pss_one (ps_ret pe_bl))))))), ?_⟩
  have sz : ∀ {n : Nat}, n ≤ 2000000 → n ≤ sizeLine := fun h => by rw [sizeLine_eq]; omega
  have l0 := PyProof.Rows.len_removeprefix row "  "
  have pl := part_le (Txt.removeprefix row "  ") " <- " (by decide +kernel)
  obtain ⟨R, eR⟩ : ∃ R, takeWire (ps.map (·.1)) ins outs ws row = R := ⟨_, rfl⟩
  rw [eR] at kF kT
  unfold takeWire wireTarget wireSource at eR
  refine ⟨_, rfl, ⟨_, rfl⟩, _, _, rfl, rfl, _, rfl, ?_⟩
  cases hst : Txt.startswith row "  " with
  | false =>
    rw [if_neg (by rw [hst]; exact Bool.false_ne_true)] at eR
    exact iteT (kF eR.symm _ (Same.refl H))
  | true =>
  rw [if_pos hst] at eR
  refine iteF ⟨_, rfl, ⟨_, rfl⟩, _, _, rfl, rfl, sz (by omega), ⟨_, rfl⟩, _, _, rfl, rfl, by decide +kernel, sz (by omega), fun q hq => ?_⟩
  have s1 := upd_new (o := HO.tup [V.str (Txt.partition (Txt.removeprefix row "  ") " <- ").1, .str (Txt.partition (Txt.removeprefix row "  ") " <- ").2.1, .str (Txt.partition (Txt.removeprefix row "  ") " <- ").2.2]) hq
  refine ⟨q, _, rfl, .of upd_same, rfl, _, _, rfl, _, _, rfl, _, _, rfl, rfl, ?_⟩
  generalize (Txt.partition (Txt.removeprefix row "  ") " <- ").1 = z at *
  generalize (Txt.partition (Txt.removeprefix row "  ") " <- ").2.1 = dt at *
  generalize (Txt.partition (Txt.removeprefix row "  ") " <- ").2.2 = n at *
  generalize upd H q (HO.tup [V.str z, .str dt, .str n]) = H1 at s1 ⊢
  refine ⟨_, rfl, p, dx, _, rfl, s1 _ _ hp, hm, _, rfl, _, rfl, p, C, dx, _, _, rfl, s1 _ _ hp, cl, nO, ho, ?_⟩
  have go : ∀ (x : Str) (o : Addr) (own : List Str) (H2 : Hp) (Q2 : VK) (E2 : XK), Same H H2 → SqT K H o (own.map V.str) → x.length ≤ 190000 → (∀ v H3, Same H2 H3 → PV H3 v (readPort (ps.map (·.1)) own x) → Q2 v H3) → spReadPort K C [.ref p, .str x, .ref o] H2 Q2 E2 := fun x o own H2 Q2 E2 s2 hO hx k =>
    ⟨p, dx, d, o, fs, x, ps, own, rfl, s2 _ _ hp, hf, s2 _ _ hd, sqT_same s2 hO, hx, fun e H3 s3 => k _ _ s3 (.inl ⟨e, rfl⟩), fun a b e t H3 s3 _ ht => k _ _ s3 (.inr ⟨t, a, b, e, rfl, ht⟩)⟩
  dsimp only [tNil, List.append_nil]
  refine go z o outs H1 _ _ s1 hO (by omega) fun tv H2 s2 pv1 => ?_
  refine ⟨_, rfl, p, dx, _, rfl, s2 _ _ (s1 _ _ hp), hm, _, rfl, _, rfl, p, C, dx, _, _, rfl, s2 _ _ (s1 _ _ hp), cl, nI, hi, ?_⟩
  dsimp only [tNil, List.append_nil]
  refine go n i ins H2 _ _ (s1.trans s2) hI (by omega) fun sv H3 s3 pv2 => ?_
  have s13 := s1.trans (s2.trans s3)
  rcases pv1 with ⟨er1, rfl⟩ | ⟨t1, a1, b1, er1, rfl, g1⟩
  · rw [er1] at eR
    exact ⟨_, rfl, rfl, _, rfl, iteT (kF eR.symm _ s13)⟩
  refine ⟨_, rfl, rfl, _, rfl, iteF ?_⟩
  rcases pv2 with ⟨er2, rfl⟩ | ⟨t2, a2, b2, er2, rfl, g2⟩
  · rw [er1, er2] at eR
    exact ⟨_, rfl, rfl, _, rfl, iteT (kF eR.symm _ s13)⟩
  rw [er1, er2] at eR
  obtain ⟨as, hal, hwd, hat⟩ := hW.same s13
  refine ⟨_, rfl, rfl, _, rfl, iteF ⟨_, rfl, _, rfl, p, C, dx, _, _, rfl, s13 _ _ hp, cl, nW, hw, dw, _, rfl, DGet.t (k := [Sum.inr a1, Sum.inr b1]) hwd (s3 _ _ g1), _, rfl, ?_⟩⟩
  rw [val_any]
  show if (((ws.zip as).map fun q => (keyOf q.1.1, V.ref q.2)).any fun kv => decide (kv.1 = keyOf (a1, b1))) = true then _ else _
  have han := any_wires (a1, b1) ws as hal
  rw [han]
  by_cases hm : (a1, b1) ∈ ws.map (·.1)
  · rw [decide_eq_true hm]
    dsimp only at eR
    rw [if_pos hm] at eR
    exact iteT (kF eR.symm _ s13)
  rw [decide_eq_false hm]
  dsimp only at eR
  rw [if_neg hm] at eR
  have hzl : ((ws.zip as).map fun q => (keyOf q.1.1, V.ref q.2)).length < sizeLine := by
    rw [List.length_map, List.length_zip, hal, Nat.min_self, sizeLine_eq]
    omega
  refine iteF ⟨_, rfl, _, rfl, p, C, dx, _, _, rfl, s13 _ _ hp, cl, nW, hw, _, rfl, dw, _, rfl, DPut.t (k := keyOf (a1, b1)) hwd (s3 _ _ g1) hzl, ?_⟩
  have hput : putK ((ws.zip as).map fun q => (keyOf q.1.1, V.ref q.2)) (keyOf (a1, b1)) (V.ref t2) = (((ws ++ [((a1, b1), (a2, b2))]).zip (as ++ [t2])).map fun q => (keyOf q.1.1, V.ref q.2)) := by
    unfold putK
    rw [han, decide_eq_false hm, if_neg Bool.false_ne_true, List.zip_append hal.symm, List.map_append]
    rfl
  refine kT _ eR.symm _ ((SameX.of s13).trans SameX.put) ⟨as ++ [t2], by rw [List.length_append, List.length_append, hal]; rfl, by rw [hput]; exact upd_same, fun j v a e1 e2 => ?_⟩
  have hne : ∀ (b : Addr) (xs : List V), H3 b = some (.tup xs) → b ≠ dw := fun b xs hb e => by
    rw [e, hwd] at hb
    cases hb
  by_cases hj : j < ws.length
  · rw [List.getElem?_append_left hj] at e1
    rw [List.getElem?_append_left (by rw [hal]; exact hj)] at e2
    have g := hat j v a e1 e2
    rw [upd_ne (hne a _ g)]
    exact g
  · rw [List.getElem?_append_right (by omega)] at e1
    rw [List.getElem?_append_right (by rw [hal]; omega), hal] at e2
    cases hk : j - ws.length with
    | zero =>
      rw [hk] at e1 e2
      cases e1
      cases e2
      rw [upd_ne (hne t2 _ g2)]
      exact g2
    | succ k =>
      rw [hk] at e1
      cases e1
end
end K5
/-! OwnF: a field as a target (a.f, b.g = ..). -/
namespace Own
open PySem PySem.Spec PyProof.Rows L2
/-- o.f = .. as a target -/
def gFld (K : PySem.W.Frag) (f : Str) (ta : TE) : TG := fun v σ H Q => ta σ H fun x H1 => ∃ a C dx fs, x = .ref a ∧ H1 a = some (.ins C dx fs) ∧ Cls K C ∧ NoAttr K C f ∧ fs.length < 1000 ∧ Q σ (upd H1 a (.ins C dx (putF f v fs)))
theorem pg_fld {X : Cx} {o : Expr} {ta : TE} {f : Str} {pos : Pos} (ha : PE X o ta) : PG X (.Attribute o f pos) (gFld X.K f ta) := by
  refine ⟨fun pins s σ H v u Q I r h => ?_⟩
  rw [PySem.assign_Attribute]
  refine wpAny_bind (wpAny_holding (thn (ha.run pins s σ H _ I h) fun ov s1 ⟨x, H1, I1, rx, a, C, dx, fs, ex, ea, c, n, l, q⟩ => ?_))
  subst ex
  obtain rfl : ov = Value.ref a := rx
  exact wpAny_bind (wpAny_standAt (wpAny_bind (wpAny_holding (setattr_ok I1 ea c n l r fun s2 I2 => wpAny_release ⟨σ, _, I2, q⟩))))
end Own
namespace K5
open PySem L2 Own StX ClX NdefX
abbrev sTakeHead : Stmt := inClass (top 23) 2
def okHead (row : Str) : Prop := isHead row = true ∧ (headIns row).length ≤ 8 ∧ (headOuts row).length ≤ 8 ∧ isDN (headName row) = true ∧ ((headIns row ++ headOuts row).all isNm) = true ∧ (headIns row ++ headOuts row).Nodup
def spTakeHead (C : Addr) : Sp := fun vs H Q _ => ∃ (p dx : Addr) (fs : List (Str × V)) (row : Str), vs = [.ref p, .str row] ∧ H p = some (.ins C dx fs) ∧ fs.lookup ("_max_ports" : Str) = some (.int 8) ∧ fs.length ≤ 20 ∧ row.length ≤ 190000 ∧
  (¬ okHead row → ∀ H', Same H H' → Q (.bl false) H') ∧
  (okHead row → ∀ a b H', SameX p H H' → H' p = some (.ins C dx (putF "outputs" (.ref b) (putF "inputs" (.ref a) (putF "name" (.str (headName row)) fs)))) → H' a = some (.tup ((headIns row).map V.str)) → H' b = some (.tup ((headOuts row).map V.str)) → Q (.bl true) H')
theorem putF_len {f : Str} {v : V} : ∀ fs : List (Str × V), (putF f v fs).length ≤ fs.length + 1
  | [] => Nat.le_refl _
  | (g, u) :: r => by
    have := putF_len (f := f) (v := v) r
    unfold putF
    split
    · simp
    · simp only [List.length_cons]
      omega
section
variable {P : Program} {w : World} {K : PySem.W.Frag} {mg : Str → Option Value} {base : Heap} {C : Addr}
abbrev nTH : List Str := ["self", "row", "head", "name", "inputs", "outputs", "ports", "port"]
theorem scTH : FnScope nTH ["self", "row"] (defScope sTakeHead) := ⟨rfl, rfl, rfl, by decide +kernel, rfl, by decide +kernel, by decide +kernel⟩
theorem ok_takehead {f fH fN fD : Addr} {fd fdH fdN fdD : FuncData} (F : Fun K "_take_head" "DiagramReader._take_head" sTakeHead f fd) (T : Txt K w mg) (mset : mg "set" = none) (cl : Cls K C) (nM : NoAttr K C "_max_ports") (nN : NoAttr K C "name") (nI : NoAttr K C "inputs") (nO : NoAttr K C "outputs")
    (GH : FnOk P w K mg base CX0 2 fH fdH ["row"] (spReadHead K)) (mH : mg "read_head" = some (.ref fH)) (kH : PySem.W.keepIn K (.ref fH) = true) (bH : Binds K fdH ["row"] [])
    (GN : FnOk P w K mg base CX0 1 fN fdN ["value"] spName) (mN : mg "is_name" = some (.ref fN)) (kN : PySem.W.keepIn K (.ref fN) = true) (bN : Binds K fdN ["value"] [])
    (GD : FnOk P w K mg base CX0 2 fD fdD ["text"] spDN) (mD : mg "is_diagram_name" = some (.ref fD)) (kD : PySem.W.keepIn K (.ref fD) = true) (bD : Binds K fdD ["text"] []) :
    FnOk P w K mg base CX0 3 f fd ["self", "row"] (spTakeHead C) := by
  refine F.ok scTH (fun vs H Q E h => ?_) (fun cdv A outer s H vs Q E hr h => ?_)
  · obtain ⟨p, dx, fs, row, rfl, _⟩ := h
    rfl
  obtain ⟨p, dx, fs, row, rfl, hp, hm, hfl, hrow, kF, kT⟩ := h
  refine ⟨_, pss_cons (ps_set (i := 2) scTH.nd rfl (.inl rfl) (pe_call GH hr rfl mH kH bH .nil pass0 (pa_cons (pv 1) pa_nil)))
    (pss_cons (ps_if (pt_cmpR op_isN (pv 2) pe_non (nomark _)) (pss_one (ps_ret pe_bl)) pss_nil)
    (pss_cons (ps_asg (pv 2) (pg_tup (by rfl) (pgs_cons (pg_name (i := 3) scTH.nd rfl (.inl rfl)) (pgs_cons (pg_name (i := 4) scTH.nd rfl (.inl rfl)) (pgs_cons (pg_name (i := 5) scTH.nd rfl (.inl rfl)) pgs_nil)))))
    (pss_join (ps_set (i := 6) scTH.nd rfl (.inl rfl) (pe_op op_catA (pv 4) (pv 5)))
    (pss_cons (ps_if (PW.pt (pw_or (pt_cmpR op_gt (pe_callB call_len_seq (by rfl) T.zl PySem.boot_len (pa_cons (pv 4) pa_nil)) (pe_fld (pv 0) rfl) (nomark _)) (pw_or1 (pt_cmpR op_gt (pe_callB call_len_seq (by rfl) T.zl PySem.boot_len (pa_cons (pv 5) pa_nil)) (pe_fld (pv 0) rfl) (nomark _))))) (pss_one (ps_ret pe_bl)) pss_nil)
    (pss_cons (ps_if (PW.pt (pw_or (pt_not (pt_val (pe_call GD hr rfl mD kD bD .nil pass0 (pa_cons (pv 3) pa_nil)))) (pw_or1 (pt_not (pt_val (pe_callB (cr_all rfl) (by rfl) T.za (by decide +kernel) (pa_cons (pe_lc (own := [("port", 7)]) (g := gName 7) rfl scTH.nd (pi_tup (pv 6)) (blkOk_by (own := [("port", 7)]) (N := nTH) (sc := defScope sTakeHead) (by decide +kernel)) (fun _ _ _ _ _ => pg_name (i := 7) scTH.nd rfl (Or.inl rfl)) (fun _ _ _ _ _ => pts_nil)
        (fun _ _ _ _ _ => pe_call GN (hr.mono (by decide)) rfl mN kN bN .nil pass0 (pa_cons (pv 7) pa_nil))) pa_nil))))))) (pss_one (ps_ret pe_bl)) pss_nil)
    (pss_cons (ps_if (pt_cmpR op_ne (pe_lenSetT rfl rfl T.zl rfl mset (pv 6)) (pe_callB call_len_seq (by rfl) T.zl PySem.boot_len (pa_cons (pv 6) pa_nil)) (nomark _)) (pss_one (ps_ret pe_bl)) pss_nil)
    (pss_cons (ps_asg (pe_tup (pa_cons (pv 3) (pa_cons (pv 4) (pa_cons (pv 5) pa_nil)))) (pg_tup (by rfl) (pgs_cons (pg_fld (pv 0)) (pgs_cons (pg_fld (pv 0)) (pgs_cons (pg_fld (pv 0)) pgs_nil)))))
    (pss_one (ps_ret pe_bl))))))))), ?_⟩
  have sz : ∀ {n : Nat}, n ≤ 2000000 → n ≤ sizeLine := fun h => by rw [sizeLine_eq]; omega
  have l0 := PyProof.Rows.len_removeprefix row "block "
  have p1 := part_le (Txt.removeprefix row "block ") "(" (by decide +kernel)
  have l1 := PyProof.Rows.len_removesuffix (Txt.partition (Txt.removeprefix row "block ") "(").2.2 ")"
  have p2 := part_le (headPorts row) ";" (by decide +kernel)
  have hname : (headName row).length ≤ 190000 := Nat.le_trans p1.1 (Nat.le_trans l0 hrow)
  have hports : (headPorts row).length ≤ 190000 := Nat.le_trans l1 (Nat.le_trans p1.2 (Nat.le_trans l0 hrow))
  have w1 : total (headIns row) ≤ 190001 := Nat.le_trans (words_total _) (by omega)
  have w2 : total (headOuts row) ≤ 190001 := Nat.le_trans (words_total _) (by omega)
  have n1 := sum_lens (headIns row)
  have n2 := sum_lens (headOuts row)
  refine ⟨_, rfl, row, rfl, hrow, fun e H1 s1 => ?_, fun e t a b H1 s1 ht ht1 ga gb => ?_⟩
  · exact ⟨_, rfl, rfl, _, rfl, iteT (kF (fun q => by have z := q.1; rw [e] at z; cases z) _ s1)⟩
  refine ⟨_, rfl, rfl, _, rfl, iteF ?_⟩
  refine ⟨_, rfl, t, _, rfl, .of ht1, rfl, _, _, rfl, _, _, rfl, _, _, rfl, rfl, ?_⟩
  refine ⟨fun σ H2 => ∃ pp, σ = [some (.ref p), some (.str row), some (.ref t), some (.str (headName row)), some (.ref a), some (.ref b), some (.ref pp), none] ∧ Same H1 H2 ∧ SqT K H2 pp ((headIns row ++ headOuts row).map V.str), ?_, ?_⟩
  · refine ⟨_, rfl, _, rfl, a, b, _, _, rfl, rfl, .of ga, .of gb, by rw [List.length_map, List.length_map]; exact sz (by omega), fun e0 => ⟨b, rfl, Same.refl _, ?_⟩, fun e1 e2 => ⟨a, rfl, Same.refl _, ?_⟩, fun e1 e2 pp hpp => ⟨pp, rfl, upd_new hpp, ?_⟩⟩
    · rw [List.map_append, e0]
      exact .of gb
    · rw [List.map_append, e2, List.append_nil]
      exact .of ga
    · rw [List.map_append]
      exact .of upd_same
  rintro σ H2 ⟨pp, rfl, s2, hS⟩
  have hp2 := s2 _ _ (s1 _ _ hp)
  have ga2 := s2 _ _ ga
  have gb2 := s2 _ _ gb
  have s12 := s1.trans s2
  refine ⟨_, rfl, a, _, rfl, .inr (.of ga2), _, rfl, p, C, dx, _, _, rfl, hp2, cl, nM, hm, _, _, rfl, rfl, _, rfl, ?_⟩
  by_cases h8 : (headIns row).length ≤ 8
  case neg =>
    rw [decide_eq_true (show (8 : Int) < ((((headIns row).map V.str).length : Nat) : Int) by rw [List.length_map]; omega)]
    exact iteT (kF (fun q => h8 q.2.1) _ s12)
  rw [decide_eq_false (show ¬ (8 : Int) < ((((headIns row).map V.str).length : Nat) : Int) by rw [List.length_map]; omega)]
  refine iteF ⟨_, rfl, b, _, rfl, .inr (.of gb2), _, rfl, p, C, dx, _, _, rfl, hp2, cl, nM, hm, _, _, rfl, rfl, _, rfl, ?_⟩
  by_cases h9 : (headOuts row).length ≤ 8
  case neg =>
    rw [decide_eq_true (show (8 : Int) < ((((headOuts row).map V.str).length : Nat) : Int) by rw [List.length_map]; omega)]
    exact iteT (kF (fun q => h9 q.2.2.1) _ s12)
  rw [decide_eq_false (show ¬ (8 : Int) < ((((headOuts row).map V.str).length : Nat) : Int) by rw [List.length_map]; omega)]
  refine iteF ⟨_, rfl, headName row, rfl, sz (by omega), fun H3 s3 => ⟨_, rfl, ?_⟩⟩
  have s13 := s12.trans s3
  cases hdn : isDN (headName row) with
  | false => exact iteT (kF (fun q => by have z := q.2.2.2.1; rw [hdn] at z; cases z) _ s13)
  | true =>
  have hS3 := sqT_same s3 hS
  refine iteF ⟨_, rfl, pp, rfl, ⟨_, hS3⟩, fun D hD => ?_⟩
  refine lc_tup (K := K) (a := pp) (xs := (headIns row ++ headOuts row).map V.str) (fun i H' => Same H3 H' ∧ H' D = some (.lst (((headIns row ++ headOuts row).take i).map fun x => V.bl (isNm x)))) ⟨upd_new hD, upd_same⟩ (fun i H' _ q => sqT_same q.1 hS3) ?_ ?_
  · rintro i v H4 hi ⟨s4, a4⟩
    rw [List.getElem?_map] at hi
    obtain ⟨x, hx, rfl⟩ := Option.map_eq_some_iff.mp hi
    have hxl : x.length ≤ 400000 := by
      rcases List.mem_append.mp (List.mem_of_getElem? hx) with z | z
      · have := mem_total z
        omega
      · have := mem_total z
        omega
    have tk : (headIns row ++ headOuts row).take (i + 1) = (headIns row ++ headOuts row).take i ++ [x] := by rw [List.take_add_one, hx]; rfl
    refine ⟨rfl, _, rfl, x, rfl, sz (by omega), fun H5 s5 => ⟨_, s5 _ _ a4, ?_, same_put (s4.trans s5) hD, ?_⟩⟩
    · rw [List.length_map, List.length_take]
      exact Nat.lt_of_le_of_lt (Nat.min_le_right _ _) (by rw [List.length_append, sizeLine_eq]; omega)
    · rw [upd_same, tk]
      simp
  rintro H4 ⟨s4, a4⟩
  rw [List.take_of_length_le (by rw [List.length_map]; exact Nat.le_refl _)] at a4
  refine ⟨D, (headIns row ++ headOuts row).map isNm, rfl, .of (by rw [a4, List.map_map]; rfl), _, rfl, ?_⟩
  have hall : ((headIns row ++ headOuts row).map isNm).all id = (headIns row ++ headOuts row).all isNm := by rw [List.all_map]; rfl
  rw [hall]
  have s14 := s13.trans s4
  cases hnm : (headIns row ++ headOuts row).all isNm with
  | false => exact iteT (kF (fun q => by have z := q.2.2.2.2.1; rw [hnm] at z; cases z) _ s14)
  | true =>
  have hS4 := sqT_same s4 hS3
  have h16 : (headIns row ++ headOuts row).length ≤ 16 := by rw [List.length_append]; omega
  refine iteF ⟨_, rfl, pp, headIns row ++ headOuts row, rfl, hS4, by omega, fun c hc hcn => ⟨_, rfl, pp, _, rfl, .inr hS4, rfl, _, rfl, ?_⟩⟩
  by_cases hnd : (headIns row ++ headOuts row).Nodup
  case neg =>
    rw [decide_eq_false (show ¬ V.int ((c : Nat) : Int) = V.int (((((headIns row ++ headOuts row).map V.str).length : Nat)) : Int) from fun z => hnd (hcn.mp (by
      have z := V.int.inj z
      rw [List.length_map] at z
      omega)))]
    exact iteT (kF (fun q => hnd q.2.2.2.2.2) _ s14)
  rw [decide_eq_true (show V.int ((c : Nat) : Int) = V.int (((((headIns row ++ headOuts row).map V.str).length : Nat)) : Int) by rw [List.length_map, hcn.mpr hnd])]
  have hp4 := s4 _ _ (s3 _ _ hp2)
  refine iteF ⟨_, rfl, _, rfl, _, rfl, small1 (by show 3 ≤ 8; decide), fun t2 ht2 => ?_⟩
  have s5 := upd_new (o := HO.tup [V.str (headName row), .ref a, .ref b]) ht2
  have hp5 := s5 _ _ hp4
  have L1 := putF_len (f := "name") (v := V.str (headName row)) fs
  have L2 := putF_len (f := "inputs") (v := V.ref a) (putF "name" (V.str (headName row)) fs)
  refine ⟨t2, _, rfl, .of upd_same, rfl, _, _, rfl, _, rfl, p, C, dx, _, rfl, hp5, cl, nN, by omega, _, _, rfl, _, rfl, p, C, dx, _, rfl, upd_same, cl, nI, by omega, _, _, rfl, _, rfl, p, C, dx, _, rfl, upd_same, cl, nO, by omega, rfl, ?_⟩
  have hpa : a ≠ p := fun z => by rw [z, s1 _ _ hp] at ga; cases ga
  have hpb : b ≠ p := fun z => by rw [z, s1 _ _ hp] at gb; cases gb
  have s15 := s14.trans s5
  refine kT ⟨e, h8, h9, hdn, hnm, hnd⟩ a b _ ((SameX.of s15).trans (SameX.put.trans (SameX.put.trans SameX.put))) upd_same ?_ ?_
  · rw [upd_ne hpa, upd_ne hpa, upd_ne hpa]
    exact s5 _ _ (s4 _ _ (s3 _ _ ga2))
  · rw [upd_ne hpb, upd_ne hpb, upd_ne hpb]
    exact s5 _ _ (s4 _ _ (s3 _ _ gb2))
end
end K5
/-! OwnG: the truth of a dict with tuple keys. -/
namespace Own
open PySem PySem.Spec PyProof.Rows L2
section
variable {prog : Program} {w : World} {K : Type} [DecidableEq K] {knd : HeapKind prog w K} {A : Around} {E : Value → Shared → Prop} {s : Shared}
theorem truth_dictH {d : Addr} {xs : List (K × Addr × Value)} {Q : Bool → Shared → Prop} (hd : (d == sysModules) = false) (dd : s.heap.DictOfH knd d xs) (fit : (xs.length : Int) < 2 ^ 63) (q : ∀ s', s' = { s with toks := s.toks + 1 + 1 } → Q (!xs.isEmpty) s') :
    wpAny (model prog w) A (truthy (.ref d)) Q E s := by
  have q := q _ rfl
  have ne : ((xs.length : Int) != 0) = !xs.isEmpty := by cases xs <;> simp <;> omega
  have tl : wpAny (model prog w) A (runValue (.builtin "len" ⟨[.ref d], []⟩)) (fun r t => r = .int xs.length (s.toks + 1) ∧ Q (!xs.isEmpty) t) E s := by
    refine wpAny_runValue (codeAny_builtin entry_len (by
      rw [Around.under_plainId plain_len _]
      refine wpAny_mono (wpAny_len_body_dictH (Q := fun r t => r = .int xs.length (s.toks + 1) ∧ Q (!xs.isEmpty) t) hd dd fit ⟨rfl, q⟩) (fun fin t z => ?_) fun _ _ e => e
      obtain ⟨r, rfl, z⟩ := z
      exact z))
  have ty := dd.typeIs
  unfold truthy
  first
    | refine wpAny_bind (wpAny_callSpecial?_none (name := Str.ofString "__bool__") ty noBool_dict ?_)
    | refine wpAny_bind (wpAny_pure (wpAny_bind (wpAny_callSpecial?_none (name := Str.ofString "__bool__") ty noBool_dict ?_)))
  first
    | refine wpAny_bind (wpAny_specialOf (name := Str.ofString "__len__") ty F.slot_dict_len.lookup ?_)
    | refine wpAny_bind (wpAny_pure (wpAny_bind (wpAny_specialOf (name := Str.ofString "__len__") ty F.slot_dict_len.lookup ?_)))
  first
    | exact wpAny_bind (wpAny_mono tl (fun r t z => by obtain ⟨rfl, z⟩ := z; exact wpAny_pure (ne ▸ z)) fun _ _ e => e)
    | exact wpAny_bind (wpAny_pure (wpAny_bind (wpAny_mono tl (fun r t z => by obtain ⟨rfl, z⟩ := z; exact wpAny_pure (ne ▸ z)) fun _ _ e => e)))
end
/-- not e, e a dict with tuple keys -/
def tNotW (ta : TE) : TE := fun σ H Q => ta σ H fun x H1 => ∃ (a : Addr) (kvs : List (List Key × V)), x = .ref a ∧ H1 a = some (.dT kvs) ∧ Q (.bl kvs.isEmpty) H1
theorem pe_notW {X : Cx} {a : Expr} {ta : TE} {pos : Pos} (ha : PE X a ta) : PE X (.UnaryOp .Not a pos) (tNotW ta) := by
  refine ⟨fun pins s σ H Q I h => ?_⟩
  refine UnaryOp_ (thn (ha.run pins s σ H _ I h) fun v s1 ⟨x, H1, I1, r1, p, kvs, ex, hp, q⟩ => ?_)
  subst ex
  obtain rfl : v = .ref p := r1
  obtain ⟨z, hd, ys, rel, dd⟩ := dt_of I1.hok hp
  have hl : kvs.length = ys.length := Paired.length rel
  have he : (!ys.isEmpty) = !kvs.isEmpty := by
    cases kvs <;> cases ys <;> first | rfl | (simp at hl)
  refine not_of (truth_dictH hd dd (by rw [← hl]; rw [sizeLine_eq] at z; omega) fun t et => ?_)
  rw [et, he]
  exact ⟨.bl (!(!kvs.isEmpty)), H1, I1.tok _, rfl, by rw [Bool.not_not]; exact q⟩
end Own
namespace K5
open PySem L2 Own StX ClX NdefX
abbrev sTake : Stmt := inClass (top 23) 1
/-- a reader's state -/
structure RS where
  head : Option (Str × List Str × List Str)
  parts : List (Str × Str)
  wires : List (Port × Port)
  done : Bool
instance (row : Str) : Decidable (okHead row) := by unfold okHead; infer_instance
def step (st : RS) (row : Str) : Option RS :=
  match st.head with
  | none => if okHead row then some { st with head := some (headName row, headIns row, headOuts row) } else none
  | some (_, ins, outs) =>
    if st.done = true then none
    else if row = "end" then some { st with done := true }
    else if Txt.startswith row "  part " = true then (if st.wires.isEmpty = true then (takePart st.parts row).map fun ps => { st with parts := ps } else none)
    else (takeWire (st.parts.map (·.1)) ins outs st.wires row).map fun ws => { st with wires := ws }
def fsR (nm i o : V) (d dw : Addr) (dn : Bool) : List (Str × V) := [("name", nm), ("inputs", i), ("outputs", o), ("parts", .ref d), ("wires", .ref dw), ("is_done", .bl dn), ("_max_ports", .int 8), ("_max_parts", .int 16)]
def HeadAt (K : PySem.W.Frag) (H : Hp) (nm : V) (i o : Addr) : Option (Str × List Str × List Str) → Prop
  | none => nm = .non
  | some (n, ins, outs) => nm = .str n ∧ SqT K H i (ins.map V.str) ∧ SqT K H o (outs.map V.str)
def RdAt (K : PySem.W.Frag) (C : Addr) (H : Hp) (p d dw : Addr) (st : RS) : Prop := ∃ (dx : Addr) (nm : V) (i o : Addr), H p = some (.ins C dx (fsR nm (.ref i) (.ref o) d dw st.done)) ∧ PartsAt H d st.parts ∧ WiresAt H dw st.wires ∧ HeadAt K H nm i o st.head ∧ st.parts.length ≤ 16
/-- all but the reader's own three objects is as it was -/
def SameR (p d dw : Addr) (H H' : Hp) : Prop := ∀ b u, b ≠ p → b ≠ d → b ≠ dw → H b = some u → H' b = some u
theorem SameR.of {p d dw : Addr} {H H' : Hp} (h : Same H H') : SameR p d dw H H' := fun b u _ _ _ e => h b u e
theorem SameR.of_p {p d dw : Addr} {H H' : Hp} (h : SameX p H H') : SameR p d dw H H' := fun b u n _ _ e => h b u n e
theorem SameR.of_d {p d dw : Addr} {H H' : Hp} (h : SameX d H H') : SameR p d dw H H' := fun b u _ n _ e => h b u n e
theorem SameR.of_w {p d dw : Addr} {H H' : Hp} (h : SameX dw H H') : SameR p d dw H H' := fun b u _ _ n e => h b u n e
theorem SameR.trans {p d dw : Addr} {H H1 H2 : Hp} (h : SameR p d dw H H1) (k : SameR p d dw H1 H2) : SameR p d dw H H2 := fun b u n1 n2 n3 e => k b u n1 n2 n3 (h b u n1 n2 n3 e)
/-- what stands at a is no tuple -/
def NoTup (H : Hp) (a : Addr) : Prop := ∀ xs, H a ≠ some (.tup xs) ∧ ∀ o, H a ≠ some (.frz o (.tup xs))
theorem sqT_X {K : PySem.W.Frag} {H H' : Hp} {a b : Addr} {xs : List V} (e : SameX a H H') (n : NoTup H a) (h : SqT K H b xs) : SqT K H' b xs := by
  rcases h with (h | ⟨o, h⟩) | h
  · exact .inl (.inl (e _ _ (fun z => (n xs).1 (by rw [← z]; exact h)) h))
  · exact .inl (.inr ⟨o, e _ _ (fun z => (n xs).2 o (by rw [← z]; exact h)) h⟩)
  · exact .inr h
theorem WiresAt.X {H H' : Hp} {a d : Addr} {ws : List (Port × Port)} (h : WiresAt H d ws) (e : SameX a H H') (n : NoTup H a) (nd : d ≠ a) : WiresAt H' d ws := by
  obtain ⟨as, h1, h2, h3⟩ := h
  exact ⟨as, h1, e _ _ nd h2, fun i w b e1 e2 => e _ _ (fun z => (n _).1 (by rw [← z]; exact h3 i w b e1 e2)) (h3 i w b e1 e2)⟩
theorem HeadAt.X {K : PySem.W.Frag} {H H' : Hp} {a i o : Addr} {nm : V} {r : Option (Str × List Str × List Str)} (h : HeadAt K H nm i o r) (e : SameX a H H') (n : NoTup H a) : HeadAt K H' nm i o r := by
  cases r with
  | none => exact h
  | some r =>
    obtain ⟨n1, ins, outs⟩ := r
    exact ⟨h.1, sqT_X e n h.2.1, sqT_X e n h.2.2⟩
theorem takePart_len {ps ps' : List (Str × Str)} {row : Str} (h : takePart ps row = some ps') : ps'.length ≤ 16 := by
  unfold takePart at h
  split at h
  · rename_i q
    cases h
    rw [List.length_append]
    have := q.1
    show ps.length + 1 ≤ 16
    omega
  · cases h
def spTake (K : PySem.W.Frag) (C : Addr) : Sp := fun vs H Q _ => ∃ (p d dw : Addr) (row : Str) (st : RS), vs = [.ref p, .str row] ∧ RdAt K C H p d dw st ∧ st.wires.length ≤ 1000000 ∧ row.length ≤ 190000 ∧
  (step st row = none → ∀ H', Same H H' → Q (.bl false) H') ∧ (∀ st', step st row = some st' → ∀ H', SameR p d dw H H' → RdAt K C H' p d dw st' → Q (.bl true) H')
/-- what the reader's class tells -/
structure RdC (P : Program) (w : World) (K : PySem.W.Frag) (mg : Str → Option Value) (base : Heap) (C : Addr) : Prop where
  cl : Cls K C
  nN : NoAttr K C "name"
  nI : NoAttr K C "inputs"
  nO : NoAttr K C "outputs"
  nP : NoAttr K C "parts"
  nW : NoAttr K C "wires"
  nD : NoAttr K C "is_done"
  nA : NoAttr K C "_max_ports"
  nB : NoAttr K C "_max_parts"
section
variable {P : Program} {w : World} {K : PySem.W.Frag} {mg : Str → Option Value} {base : Heap} {C : Addr}
theorem scTk : FnScope ["self", "row"] ["self", "row"] (defScope sTake) := ⟨rfl, rfl, rfl, by decide +kernel, rfl, by decide +kernel, by decide +kernel⟩
theorem ok_take {f fH fP fW : Addr} {fd fdH fdP fdW : FuncData} (F : Fun K "take" "DiagramReader.take" sTake f fd) (R : RdC P w K mg base C)
    (mH : Meth K C "_take_head" fH) (GH : FnOk P w K mg base CX0 3 fH fdH ["self", "row"] (spTakeHead C)) (bH : Binds K fdH ["self", "row"] [])
    (mP : Meth K C "_take_part" fP) (GP : FnOk P w K mg base CX0 4 fP fdP ["self", "row"] (spTakePart C)) (bP : Binds K fdP ["self", "row"] [])
    (mW : Meth K C "_take_wire" fW) (GW : FnOk P w K mg base CX0 3 fW fdW ["self", "row"] (spTakeWire K C)) (bW : Binds K fdW ["self", "row"] []) :
    FnOk P w K mg base CX0 5 f fd ["self", "row"] (spTake K C) := by
  refine F.ok scTk (fun vs H Q E h => ?_) (fun cdv A outer s H vs Q E hr h => ?_)
  · obtain ⟨p, d, dw, row, st, rfl, _⟩ := h
    rfl
  obtain ⟨p, d, dw, row, st, rfl, hR, hwl, hrow, kF, kT⟩ := h
  refine ⟨_, pss_cons (ps_if (pt_cmpR op_isN (pe_fld (pv 0) rfl) pe_non (nomark _)) (pss_one (ps_ret (pe_meth (pv 0) R.cl mH GH (hr.mono (by decide)) bH .nil pass0 (pa_cons (pv 1) pa_nil)))) pss_nil)
    (pss_cons (ps_if (pt_val (pe_fld (pv 0) rfl)) (pss_one (ps_ret pe_bl)) pss_nil)
    (pss_cons (ps_if (pt_cmpR op_eq (pv 1) pe_str (nomark _)) (pss_cons (ps_fld (pv 0) pe_bl rfl) (pss_one (ps_ret pe_bl))) pss_nil)
    (pss_cons (ps_if (pt_val (pe_m1 PySem.F.slot_str_startswith PySem.F.type_str_startswith mt_startswith (pv 1) pe_str)) (pss_one (ps_ret (pe_and (pe_notW (pe_fld (pv 0) rfl)) (pe_one (pe_meth (pv 0) R.cl mP GP hr bP .nil pass0 (pa_cons (pv 1) pa_nil)))))) pss_nil)
    (pss_one (ps_ret (pe_meth (pv 0) R.cl mW GW (hr.mono (by decide)) bW .nil pass0 (pa_cons (pv 1) pa_nil))))))), ?_⟩
  obtain ⟨dx, nm, i, o, hp, hP, hW, hH, h16⟩ := hR
  obtain ⟨hd0, ps, ws, dn⟩ := st
  dsimp only at hp hP hW hH h16 hwl
  have hP' : H d = some (.dK (ps.map fun p => (Sum.inr p.1, V.str p.2))) := hP
  obtain ⟨wd, hwd⟩ : ∃ kvs, H dw = some (.dT kvs) := ⟨_, hW.choose_spec.2.1⟩
  have npd : d ≠ p := fun z => by rw [z, hp] at hP'; cases hP'
  have npw : dw ≠ p := fun z => by rw [z, hp] at hwd; cases hwd
  have ndw : dw ≠ d := fun z => by rw [z, hP'] at hwd; cases hwd
  have tp : NoTup H p := fun xs => ⟨fun z => by (rw [hp] at z; cases z), fun o z => by (rw [hp] at z; cases z)⟩
  have td : NoTup H d := fun xs => ⟨fun z => by (rw [hP'] at z; cases z), fun o z => by (rw [hP'] at z; cases z)⟩
  have tw : NoTup H dw := fun xs => ⟨fun z => by (rw [hwd] at z; cases z), fun o z => by (rw [hwd] at z; cases z)⟩
  cases hd0 with
  | none =>
    have e : nm = .non := hH
    subst e
    refine ⟨_, rfl, p, C, dx, _, _, rfl, hp, R.cl, R.nN, rfl, rfl, _, rfl, iteT ?_⟩
    refine ⟨_, rfl, p, dx, _, rfl, hp, rfl, _, rfl, ?_⟩
    dsimp only [tNil, List.append_nil]
    refine ⟨p, dx, _, row, rfl, hp, rfl, by show 8 ≤ 20; decide, hrow, fun hk H' s' => ?_, fun hk a b H' s' hp' ha hb => ?_⟩
    · exact kF (by show (if okHead row then _ else none) = none; rw [if_neg hk]) H' s'
    · refine kT ⟨some (headName row, headIns row, headOuts row), ps, ws, dn⟩ (by show (if okHead row then _ else none) = _; rw [if_pos hk]) H' (.of_p s') ⟨dx, .str (headName row), a, b, hp', s' _ _ npd hP, hW.X s' tp npw, ⟨rfl, .of ha, .of hb⟩, h16⟩
  | some r =>
  obtain ⟨n, ins, outs⟩ := r
  obtain ⟨rfl, hi, ho⟩ := hH
  refine ⟨_, rfl, p, C, dx, _, _, rfl, hp, R.cl, R.nN, rfl, rfl, _, rfl, iteF ?_⟩
  refine ⟨_, rfl, p, C, dx, _, _, rfl, hp, R.cl, R.nD, rfl, _, rfl, ?_⟩
  cases dn with
  | true => exact iteT (kF rfl H (Same.refl H))
  | false =>
  refine iteF ⟨_, rfl, rfl, _, rfl, ?_⟩
  by_cases he : row = "end"
  · rw [decide_eq_true (congrArg V.str he)]
    refine iteT ⟨_, rfl, p, C, dx, _, rfl, hp, R.cl, R.nD, by show 8 < 1000; decide, ?_⟩
    refine kT ⟨some (n, ins, outs), ps, ws, true⟩ (by show (if false = true then none else if row = "end" then _ else _) = _; rw [if_neg Bool.false_ne_true, if_pos he]) _ (.of_p SameX.put) ⟨dx, .str n, i, o, upd_same, ?_, hW.X SameX.put tp npw, ⟨rfl, sqT_X SameX.put tp hi, sqT_X SameX.put tp ho⟩, h16⟩
    exact (upd_ne npd).trans hP'
  rw [decide_eq_false (fun z => he (V.str.inj z))]
  have estep : step ⟨some (n, ins, outs), ps, ws, false⟩ row = if Txt.startswith row "  part " = true then (if ws.isEmpty = true then (takePart ps row).map fun ps => (⟨some (n, ins, outs), ps, ws, false⟩ : RS) else none) else (takeWire (ps.map (·.1)) ins outs ws row).map fun ws => (⟨some (n, ins, outs), ps, ws, false⟩ : RS) := by
    show (if false = true then none else if row = "end" then _ else _) = _
    rw [if_neg Bool.false_ne_true, if_neg he]
  rw [estep] at kF kT
  refine iteF ⟨_, rfl, ⟨_, rfl⟩, _, _, rfl, rfl, _, rfl, ?_⟩
  cases hst : Txt.startswith row "  part " with
  | true =>
    rw [if_pos hst] at kF kT
    refine iteT ⟨_, rfl, p, C, dx, _, _, rfl, hp, R.cl, R.nW, rfl, dw, _, rfl, hW.choose_spec.2.1, _, rfl, ?_⟩
    have hem : ((ws.zip hW.choose).map fun q => (keyOf q.1.1, V.ref q.2)).isEmpty = ws.isEmpty := by
      have hl := hW.choose_spec.1
      generalize hW.choose = as at hl
      cases ws <;> cases as <;> first | rfl | cases hl
    rw [hem]
    cases hwe : ws.isEmpty with
    | false =>
      rw [if_neg (by rw [hwe]; exact Bool.false_ne_true)] at kF
      exact iteF (kF rfl H (Same.refl H))
    | true =>
    rw [if_pos hwe] at kF kT
    refine iteT ⟨_, rfl, p, dx, _, rfl, hp, rfl, _, rfl, ?_⟩
    dsimp only [tNil, List.append_nil]
    refine ⟨p, dx, d, _, row, ps, rfl, hp, rfl, rfl, hP, h16, hrow, fun e H' s' => kF (by rw [e]; rfl) H' s', fun ps' e H' s' hP1 => ?_⟩
    refine kT ⟨some (n, ins, outs), ps', ws, false⟩ (by rw [e]; rfl) H' (.of_d s') ⟨dx, .str n, i, o, s' _ _ npd.symm hp, hP1, hW.X s' td ndw, ⟨rfl, sqT_X s' td hi, sqT_X s' td ho⟩, takePart_len e⟩
  | false =>
    rw [if_neg (by rw [hst]; exact Bool.false_ne_true)] at kF kT
    refine iteF ⟨_, rfl, p, dx, _, rfl, hp, rfl, _, rfl, ?_⟩
    dsimp only [tNil, List.append_nil]
    refine ⟨p, dx, d, dw, o, i, _, row, ps, ins, outs, ws, rfl, hp, rfl, rfl, rfl, rfl, rfl, hP, hW, hi, ho, hwl, hrow, fun e H' s' => kF (by rw [e]; rfl) H' s', fun ws' e H' s' hW1 => ?_⟩
    refine kT ⟨some (n, ins, outs), ps, ws', false⟩ (by rw [e]; rfl) H' (.of_w s') ⟨dx, .str n, i, o, s' _ _ npw.symm hp, s' _ _ ndw.symm hP, hW1, ⟨rfl, sqT_X s' tw hi, sqT_X s' tw ho⟩, h16⟩
end
end K5
/-! OwnH: a walk whose turn is any statement of the heap; the second source of a comprehension. -/
namespace Own
open PySem PySem.Spec PyProof.Rows L2
theorem out_it {J : It} {n : Nat} {G : Hp → Prop} {Y : Nat → Hp → V → Hp → Prop} (w : Walk J n G Y) {S : Hp} {Qd : Hp → Prop} {B : (Hp → Prop) → V → Hp → Prop} (Pv : Nat → Hp → Prop) (h0 : Pv 0 S) (hG : ∀ i H, i ≤ n → Pv i H → G H)
    (hs : ∀ i x H H', i < n → Pv i H → Y i H x H' → B (Pv (i + 1)) x H') (hd : ∀ H, Pv n H → Qd H) :
    ∃ W : Nat → Nat → Hp → Prop, (∃ m, W 0 m S) ∧ ∀ i m H, W i m H → (J.stop i H ∧ Qd H) ∨ (J.go i H ∧ ∃ Nx : Hp → Prop, (∀ H', Nx H' → ∃ m', m' < m ∧ W (i + 1) m' H') ∧ ∀ x H', J.yld i H x H' → B Nx x H') := by
  refine ⟨fun i m H => m + i = n ∧ Pv i H, ⟨n, rfl, h0⟩, fun i m H hw => ?_⟩
  obtain ⟨hm, p⟩ := hw
  have hi : i ≤ n := by omega
  have q := hG i H hi p
  by_cases hlt : i < n
  · refine .inr ⟨w.goes i H hlt q, Pv (i + 1), fun H' p' => ⟨n - (i + 1), by omega, by omega, p'⟩, fun x H' y => ?_⟩
    exact hs i x H H' hlt p (w.yields i H x H' hlt q y)
  · have e : i = n := by omega
    subst e
    exact .inl ⟨w.stops H q, hd H p⟩
end Own
namespace K5
open PySem L2 Own StX ClX NdefX
/-! ### texts in order -/
def leS (x y : Str) : Prop := x.cps.toList ≤ y.cps.toList
theorem leS_iff {x y : Str} : leS x y ↔ PySem.Spec.ltCps y.cps.toList x.cps.toList = false := by
  rw [PyProof.Rows.ltCps_eq]
  unfold leS
  rw [decide_eq_false_iff_not, List.not_lt]
theorem leS_anti {x y : Str} (h : leS x y) (g : leS y x) : x = y := TL.ext_tl (List.le_antisymm h g)
theorem leS_trans {x y z : Str} (h : leS x y) (g : leS y z) : leS x z := List.le_trans h g
theorem rising_pw : ∀ (l : List Str) (p : Str), PyProof.Rows.risingS p l = true → (p :: l).Pairwise leS
  | [], p, _ => List.pairwise_singleton _ _
  | x :: r, p, h => by
    simp only [PyProof.Rows.risingS, Bool.and_eq_true, Bool.not_eq_true'] at h
    have ih := rising_pw r x h.2
    have hpx : leS p x := leS_iff.mpr h.1
    refine List.pairwise_cons.mpr ⟨fun y hy => ?_, ih⟩
    rcases List.mem_cons.mp hy with rfl | hy
    · exact hpx
    · exact leS_trans hpx ((List.pairwise_cons.mp ih).1 y hy)
theorem sorted_pw {l : List Str} (h : PyProof.Rows.sortedS l = true) : l.Pairwise leS := by
  cases l with
  | nil => exact List.Pairwise.nil
  | cons p r => exact rising_pw r p h
/-- a text put into a rising list -/
def putS (x : Str) : List Str → List Str
  | [] => [x]
  | y :: r => if PySem.Spec.ltCps y.cps.toList x.cps.toList = true then y :: putS x r else x :: y :: r
def sortS : List Str → List Str
  | [] => []
  | x :: r => putS x (sortS r)
theorem putS_perm (x : Str) : ∀ l, (putS x l).Perm (x :: l)
  | [] => List.Perm.refl _
  | y :: r => by
    unfold putS
    split
    · exact ((putS_perm x r).cons y).trans (List.Perm.swap x y r)
    · exact List.Perm.refl _
theorem sortS_perm : ∀ l, (sortS l).Perm l
  | [] => List.Perm.refl _
  | x :: r => (putS_perm x (sortS r)).trans ((sortS_perm r).cons x)
theorem putS_pw (x : Str) : ∀ l, l.Pairwise leS → (putS x l).Pairwise leS
  | [], _ => List.pairwise_singleton _ _
  | y :: r, h => by
    unfold putS
    obtain ⟨h1, h2⟩ := List.pairwise_cons.mp h
    split
    · rename_i q
      refine List.pairwise_cons.mpr ⟨fun z hz => ?_, putS_pw x r h2⟩
      rcases List.mem_cons.mp ((putS_perm x r).mem_iff.mp hz) with rfl | hz
      · have q2 : y.cps.toList < z.cps.toList := by
          rw [PyProof.Rows.ltCps_eq] at q
          exact of_decide_eq_true q
        exact List.le_of_lt q2
      · exact h1 z hz
    · rename_i q
      have hxy : leS x y := leS_iff.mpr (Bool.not_eq_true _ ▸ q)
      refine List.pairwise_cons.mpr ⟨fun z hz => ?_, h⟩
      rcases List.mem_cons.mp hz with rfl | hz
      · exact hxy
      · exact leS_trans hxy (h1 z hz)
theorem sortS_pw : ∀ l, (sortS l).Pairwise leS
  | [] => List.Pairwise.nil
  | x :: r => putS_pw x _ (sortS_pw r)
theorem sortS_eq {l m : List Str} (hl : PyProof.Rows.sortedS l = true) (h : l.Perm m) : l = sortS m :=
  List.Perm.eq_of_pairwise (fun _ _ _ _ => leS_anti) (sorted_pw hl) (sortS_pw m) (h.trans (sortS_perm m).symm)
/-! ### the targets in order -/
def gOf (ws : List (Port × Port)) (p : Str) : List Str := (ws.filter fun w => decide (w.1.1 = p)).map fun w => w.1.2
def orderT (ps : List (Str × Str)) (outs : List Str) (ws : List (Port × Port)) : List Port :=
  (ps.flatMap fun p => (sortS (gOf ws p.1)).map fun n => (p.1, n)) ++ (outs.filter fun o => decide (((Str.empty, o) : Port) ∈ ws.map (·.1))).map fun o => (Str.empty, o)
/-- pairs of texts: tuples at as -/
def PairsAt (H : Hp) (as : List Addr) (ps : List (Str × Str)) : Prop := as.length = ps.length ∧ ∀ (i : Nat) (a : Addr) (p : Str × Str), as[i]? = some a → ps[i]? = some p → H a = some (.tup [.str p.1, .str p.2])
theorem PairsAt.same {H H' : Hp} {as : List Addr} {ps : List (Str × Str)} (h : PairsAt H as ps) (s : Same H H') : PairsAt H' as ps := ⟨h.1, fun i a p e1 e2 => s _ _ (h.2 i a p e1 e2)⟩
theorem PairsAt.keep {H H' : Hp} {as : List Addr} {ps : List (Str × Str)} (h : PairsAt H as ps) (s : ∀ b xs, H b = some (.tup xs) → H' b = some (.tup xs)) : PairsAt H' as ps := ⟨h.1, fun i a p e1 e2 => s _ _ (h.2 i a p e1 e2)⟩
theorem PairsAt.snoc {H : Hp} {as : List Addr} {ps : List (Str × Str)} {t : Addr} {p : Str × Str} (h : PairsAt H as ps) (e : H t = some (.tup [.str p.1, .str p.2])) : PairsAt H (as ++ [t]) (ps ++ [p]) := by
  refine ⟨by rw [List.length_append, List.length_append, h.1]; rfl, fun i a q e1 e2 => ?_⟩
  by_cases hi : i < as.length
  · rw [List.getElem?_append_left hi] at e1
    rw [List.getElem?_append_left (by rw [← h.1]; exact hi)] at e2
    exact h.2 i a q e1 e2
  · rw [List.getElem?_append_right (by omega)] at e1
    rw [List.getElem?_append_right (by rw [← h.1]; omega), ← h.1] at e2
    cases hk : i - as.length with
    | zero =>
      rw [hk] at e1 e2
      cases e1
      cases e2
      exact e
    | succ k =>
      rw [hk] at e1
      cases e1
/-- the dict from parts to lists -/
def nmK (ps : List (Str × Str)) (ls : List Addr) : List (Key × V) := (ps.zip ls).map fun q => (Sum.inr q.1.1, V.ref q.2)
def ListsAt (H0 H : Hp) (ps : List (Str × Str)) (ls : List Addr) (g : Str → List Str) : Prop := ∀ (i : Nat) (p : Str × Str) (l : Addr), ps[i]? = some p → ls[i]? = some l → H0 l = none ∧ H l = some (.lst ((g p.1).map V.str))
theorem nm_snoc {ps : List (Str × Str)} {ls : List Addr} {p : Str × Str} {l : Addr} (h : ls.length = ps.length) : nmK (ps ++ [p]) (ls ++ [l]) = nmK ps ls ++ [(Sum.inr p.1, V.ref l)] := by
  unfold nmK
  rw [List.zip_append h.symm, List.map_append]
  rfl
theorem nm_put {ps : List (Str × Str)} {ls : List Addr} {p : Str × Str} {l : Addr} (h : ls.length = ps.length) (n : ¬ p.1 ∈ ps.map (·.1)) : putK (nmK ps ls) (Sum.inr p.1) (V.ref l) = nmK (ps ++ [p]) (ls ++ [l]) := by
  rw [nm_snoc h]
  unfold putK
  rw [if_neg]
  intro q
  obtain ⟨kv, hkv, e⟩ := List.any_eq_true.mp q
  obtain ⟨⟨r, b⟩, hr, rfl⟩ := List.mem_map.mp hkv
  have e2 : r.1 = p.1 := Sum.inr.inj (of_decide_eq_true e)
  exact n (List.mem_map.mpr ⟨r, (List.of_mem_zip hr).1, e2⟩)
theorem nm_val : ∀ (ps : List (Str × Str)) (ls : List Addr), ls.length = ps.length → (ps.map (·.1)).Nodup → ∀ (i : Nat) (p : Str × Str) (l : Addr), ps[i]? = some p → ls[i]? = some l → valV (nmK ps ls) (Sum.inr p.1) = some (V.ref l)
  | [], _, _, _, i, p, l, e, _ => by cases e
  | _ :: _, [], h, _, _, _, _, _, _ => by cases h
  | q :: ps, m :: ls, h, nd, 0, p, l, e1, e2 => by
    cases e1
    cases e2
    unfold valV nmK
    rw [List.zip_cons_cons, List.map_cons, List.find?_cons, decide_eq_true rfl]
    rfl
  | q :: ps, m :: ls, h, nd, i + 1, p, l, e1, e2 => by
    have ih := nm_val ps ls (Nat.succ.inj h) (List.nodup_cons.mp nd).2 i p l e1 e2
    have hne : ¬ ((Sum.inr q.1 : Key) = Sum.inr p.1) := fun z => (List.nodup_cons.mp nd).1 (by
      have e : q.1 = p.1 := Sum.inr.inj z
      show q.1 ∈ _
      rw [e]
      exact List.mem_map.mpr ⟨p, List.mem_of_getElem? e1, rfl⟩)
    unfold valV nmK at *
    rw [List.zip_cons_cons, List.map_cons, List.find?_cons, decide_eq_false hne]
    exact ih
theorem gOf_snoc {ws : List (Port × Port)} {w : Port × Port} {p : Str} : gOf (ws ++ [w]) p = if w.1.1 = p then gOf ws p ++ [w.1.2] else gOf ws p := by
  unfold gOf
  rw [List.filter_append, List.map_append]
  by_cases h : w.1.1 = p
  · rw [if_pos h]
    simp [h]
  · rw [if_neg h]
    simp [h]
theorem gOf_len (ws : List (Port × Port)) (p : Str) : (gOf ws p).length ≤ ws.length := by
  unfold gOf
  rw [List.length_map]
  exact List.length_filter_le _ _
theorem flat_len {ps : List (Str × Str)} {ws : List (Port × Port)} : (ps.flatMap fun p => (sortS (gOf ws p.1)).map fun n => (p.1, n)).length ≤ ps.length * ws.length := by
  induction ps with
  | nil => exact Nat.zero_le _
  | cons p r ih =>
    rw [List.flatMap_cons, List.length_append, List.length_cons, List.length_map, (sortS_perm _).length_eq, Nat.succ_mul]
    have := gOf_len ws p.1
    omega
end K5
namespace K5
open PySem L2 Own StX ClX NdefX
def spOrder (K : PySem.W.Frag) : Sp := fun vs H Q _ => ∃ (pa o dw : Addr) (as : List Addr) (ps : List (Str × Str)) (outs : List Str) (ws : List (Port × Port)), vs = [.ref pa, .ref o, .ref dw] ∧ SqT K H pa (as.map V.ref) ∧ PairsAt H as ps ∧ SqT K H o (outs.map V.str) ∧ WiresAt H dw ws ∧
  ps.length ≤ 16 ∧ outs.length ≤ 8 ∧ ws.length ≤ 1000000 ∧ (ps.map (·.1)).Nodup ∧ (∀ p ∈ ps, p.1.length ≠ 0) ∧ (∀ w ∈ ws, (w.1.1.length = 0 ∨ w.1.1 ∈ ps.map (·.1)) ∧ w.1.1.length ≤ 200000) ∧
  ∀ L bs H', Same H H' → H' L = some (.lst (bs.map V.ref)) → PairsAt H' bs (orderT ps outs ws) → Q (.ref L) H'
theorem kv_at {ws : List (Port × Port)} {was : List Addr} {i : Nat} {k : List Key} {v : V} (h : ((ws.zip was).map fun q => (keyOf q.1.1, V.ref q.2))[i]? = some (k, v)) : ∃ w, ws[i]? = some w ∧ k = keyOf w.1 := by
  rw [List.getElem?_map] at h
  obtain ⟨⟨w, a⟩, e, h⟩ := Option.map_eq_some_iff.mp h
  have e := (List.getElem?_zip_eq_some.mp e).1
  cases h
  exact ⟨w, e, rfl⟩
theorem tk1 {α : Type} {l : List α} {i : Nat} {x : α} (h : l[i]? = some x) : l.take (i + 1) = l.take i ++ [x] := by rw [List.take_add_one, h]; rfl
section
variable {P : Program} {w : World} {K : PySem.W.Frag} {mg : Str → Option Value} {base : Heap}
abbrev nO : List Str := ["parts", "outputs", "targets", "part", "names", "name", "ordered", "_", "output"]
theorem scO : FnScope nO ["parts", "outputs", "targets"] (defScope sOrder) := ⟨rfl, rfl, rfl, by decide +kernel, rfl, by decide +kernel, by decide +kernel⟩
theorem ok_order {f : Addr} {fd : FuncData} (F : Fun K "order_targets" "order_targets" sOrder f fd) (zso : mg "sorted" = none) : FnOk P w K mg base CX0 1 f fd ["parts", "outputs", "targets"] (spOrder K) := by
  refine F.ok scO (fun vs H Q E h => ?_) (fun cdv A outer s H vs Q E hr h => ?_)
  · obtain ⟨pa, o, dw, as, ps, outs, ws, rfl, _⟩ := h
    rfl
  obtain ⟨pa, o, dw, as, ps, outs, ws, rfl, hpa, hps, ho, hW, h16, ho8, hwl, hnd, hpl, hwk, kk⟩ := h
  have hu1 := Nat.lt_of_le_of_lt (Nat.add_le_add_left (show 1 ≤ 64 by decide) _) hr.units
  refine ⟨_, pss_cons (ps_set (i := 4) scO.nd rfl (.inr rfl) (by exact (pe_dc (own := [("part", 3), ("_", 7)]) (g := gTup K 2 (gCons (gName 3) (gCons (gName 7) gNil))) rfl scO.nd (pi_tup (pv 0)) (blkOk_by (own := [("part", 3), ("_", 7)]) (N := nO) (sc := defScope sOrder) (by decide +kernel)) (fun _ _ _ _ _ => by exact (pg_tup rfl (pgs_cons (pg_name (i := 3) scO.nd rfl (Or.inl rfl)) (pgs_cons (pg_name (i := 7) scO.nd rfl (Or.inl rfl)) pgs_nil)))) (fun _ _ _ _ _ => pts_nil) (fun _ _ _ _ _ => pv 3) (fun _ _ _ _ _ => pe_lst pa_nil))))
    (pss_cons (ps_lock (ps_for PassesOwn.never rfl (pi_keys (pv 2)) (pg_tup (by rfl) (pgs_cons (pg_name (i := 3) scO.nd rfl (.inl rfl)) (pgs_cons (pg_name (i := 5) scO.nd rfl (.inl rfl)) pgs_nil)))
      (pss_one (ps_if (pt_truth (pv 3) (by intro _; rfl)) (pss_one (ps_expr (pe_bm PySem.F.plainAttrs_list PySem.F.slot_list_append PySem.F.type_list_append mt_append (pe_dget hu1 (pv 4) (pv 3) (fun _ _ => rfl)) (pa_cons (pv 5) pa_nil)))) pss_nil))))
    (pss_cons (ps_lock (by exact (ps_setLc2 (i := 6) (own := [("part", 3), ("name", 5)]) (g := gName 3) (g1 := gName 5) (wi1 := iList K (tCB (rSortedL K) (tCons (tDGet (tVar 4) (tVar 3)) tNil))) (vs1 := [5]) rfl scO.nd rfl rfl (sw_true rfl rfl rfl (by decide +kernel)) (pi_keys (pv 4)) (blkOk_by (own := [("part", 3), ("name", 5)]) (N := nO) (sc := defScope sOrder) (by decide +kernel)) (by decide) (fun _ _ _ _ _ => pg_name (i := 3) scO.nd rfl (Or.inl rfl)) (fun _ _ _ _ _ => pts_nil)
      (fun _ _ _ _ _ => by exact (pi_list (pe_callB (id := "sorted") cr_sortedLst (by rfl) zso (by decide +kernel) (pa_cons (pe_dget hu1 (pv 4) (pv 3) (fun _ _ => rfl)) pa_nil)))) (fun _ _ _ _ _ => pg_name (i := 5) scO.nd rfl (Or.inl rfl)) (fun _ _ _ _ _ => pts_nil) (fun _ _ _ _ _ => by exact (pe_tup (pa_cons (pv 3) (pa_cons (pv 5) pa_nil)))))))
    (pss_one (ps_ret (pe_op op_cat (pv 6) (pe_lc (own := [("output", 8)]) (g := gName 8) rfl scO.nd (pi_tup (pv 1)) (blkOk_by (own := [("output", 8)]) (N := nO) (sc := defScope sOrder) (by decide +kernel)) (fun _ _ _ _ _ => pg_name (i := 8) scO.nd rfl (Or.inl rfl)) (fun _ _ _ _ _ => by exact (pts_one (pt_cmp (pc_din hu1 (pe_tup (pa_cons pe_str (pa_cons (pv 8) pa_nil))) (pv 2)) (by rfl))))
      (fun _ _ _ _ _ => by exact (pe_tup (pa_cons pe_str (pa_cons (pv 8) pa_nil)))))))))), ?_⟩
  have sz : ∀ {n : Nat}, n ≤ 16000100 → n ≤ sizeLine := fun h => by rw [sizeLine_eq]; omega
  have hal := hps.1
  -- names = {part: [] for part, _ in parts}
  refine ⟨_, rfl, pa, rfl, ⟨_, hpa⟩, fun dn hdn => ?_⟩
  refine dc_tup (K := K) (a := pa) (xs := as.map V.ref) (fun i H' => Same H H' ∧ ∃ ls : List Addr, ls.length = (ps.take i).length ∧ ls.Nodup ∧ H' dn = some (.dK (nmK (ps.take i) ls)) ∧ ListsAt H H' (ps.take i) ls (fun _ => []))
    ⟨upd_new hdn, [], rfl, List.nodup_nil, upd_same, fun i p l e _ => by cases e⟩ (fun i H' _ q => sqT_same q.1 hpa) ?_ ?_
  · rintro i v H1 hi ⟨s1, ls, hl, hln, hd1, hls⟩
    rw [List.getElem?_map] at hi
    obtain ⟨a, ha, rfl⟩ := Option.map_eq_some_iff.mp hi
    have hilt : i < ps.length := by
      have := (List.getElem?_eq_some_iff.mp ha).1
      omega
    obtain ⟨p, hp⟩ : ∃ p, ps[i]? = some p := ⟨_, List.getElem?_eq_getElem hilt⟩
    have g := s1 _ _ (hps.2 i a p ha hp)
    refine ⟨a, _, rfl, .of g, rfl, _, _, rfl, _, _, rfl, rfl, rfl, ?_⟩
    refine ⟨_, rfl, small1 (by show 0 ≤ 8; decide), fun l hl1 => ⟨_, Sum.inr p.1, rfl, (upd_ne (ne_of_none hd1 hl1)).trans hd1, ?_, same_put (s1.trans (upd_new hl1)) hdn, ls ++ [l], ?_, ?_, ?_, ?_⟩⟩
    · unfold nmK
      rw [List.length_map, List.length_zip, hl, Nat.min_self, List.length_take, sizeLine_eq]
      omega
    · rw [tk1 hp, List.length_append, List.length_append, hl]
      rfl
    · refine List.nodup_append.mpr ⟨hln, List.nodup_cons.mpr ⟨List.not_mem_nil, List.nodup_nil⟩, fun x hx y hy e => ?_⟩
      rw [List.mem_singleton.mp hy] at e
      obtain ⟨j, hj, rfl⟩ := List.getElem_of_mem hx
      have z := (hls j (ps.take i)[j] ls[j] (List.getElem?_eq_getElem (by omega)) (List.getElem?_eq_getElem hj)).2
      rw [e, hl1] at z
      cases z
    · rw [upd_same, tk1 hp, nm_put hl]
      intro hm
      have nd2 : ((ps.take (i + 1)).map (·.1)).Nodup := List.Nodup.sublist ((List.take_sublist _ _).map _) hnd
      rw [tk1 hp, List.map_append] at nd2
      exact (List.nodup_append.mp nd2).2.2 _ hm _ (List.mem_singleton.mpr rfl) rfl
    · intro j q m e1 e2
      rw [tk1 hp] at e1
      have ne1 : m ≠ dn → m ≠ l → upd (upd H1 l (.lst [])) dn (.dK (putK (nmK (ps.take i) ls) (Sum.inr p.1) (V.ref l))) m = H1 m := fun n1 n2 => by rw [upd_ne n1, upd_ne n2]
      by_cases hj : j < ls.length
      · rw [List.getElem?_append_left (by omega)] at e1
        rw [List.getElem?_append_left hj] at e2
        obtain ⟨z1, z2⟩ := hls j q m e1 e2
        refine ⟨z1, (ne1 (fun e => ?_) (ne_of_none z2 hl1)).trans z2⟩
        rw [e, hd1] at z2
        cases z2
      · rw [List.getElem?_append_right (by omega), hl] at e2
        rw [List.getElem?_append_right (by omega)] at e1
        cases hk : j - (ps.take i).length with
        | zero =>
          rw [hk] at e1 e2
          cases e1
          cases e2
          have nld : l ≠ dn := (ne_of_none hd1 hl1).symm
          exact ⟨s1.free hl1, (upd_ne nld).trans upd_same⟩
        | succ k =>
          rw [hk] at e1
          cases e1
  rintro H1 ⟨s1, ls, hl, hln, hd1, hls⟩
  rw [List.take_of_length_le (by rw [List.length_map]; omega)] at hl hd1 hls
  -- for part, name in targets
  obtain ⟨was, hwa, hwd, hwt⟩ := hW
  have hkl : ((ws.zip was).map fun q => (keyOf q.1.1, V.ref q.2)).length = ws.length := by rw [List.length_map, List.length_zip, hwa, Nat.min_self]
  generalize hkvs : ((ws.zip was).map fun q => (keyOf q.1.1, V.ref q.2)) = kvs at hwd hkl
  have ndw : dn ≠ dw := (ne_of_none hwd hdn).symm
  refine ⟨dw, _, s1 _ _ hwd, trivial, fun od => ⟨_, rfl, dw, od, rfl, .inr ⟨kvs, upd_same, ?_⟩⟩⟩
  refine for_it walk_keysT (fun i σ H' => ∃ u v : Option V, σ = [some (.ref pa), some (.ref o), some (.ref dw), u, some (.ref dn), v, none, none, none] ∧ (∀ b z, b ≠ dw → H b = some z → H' b = some z) ∧ H' dw = some (.frz od (.dT kvs)) ∧ H' dn = some (.dK (nmK ps ls)) ∧ ListsAt H H' ps ls (gOf (ws.take i)))
    ⟨none, none, rfl, fun b z n e => (upd_ne n).trans (s1 _ _ e), upd_same, (upd_ne ndw).trans hd1, fun i p l e1 e2 => ?_⟩ (fun i σ H' _ q => ?_) ?turn ?done
  · obtain ⟨z1, z2⟩ := hls i p l e1 e2
    refine ⟨z1, (upd_ne fun e => ?_).trans z2⟩
    rw [e, hwd] at z1
    cases z1
  · obtain ⟨u, v, _, _, z, _⟩ := q
    exact z
  case turn =>
    rintro i x σ H2 H3 hi ⟨u, v, rfl, s2, hf2, hd2, hls2⟩ ⟨rfl, k, vv, q, hk, rfl, hq⟩
    rw [← hkvs] at hk
    obtain ⟨w1, hw1, rfl⟩ := kv_at hk
    have hwm := hwk w1 (List.mem_of_getElem? hw1)
    refine ⟨q, _, rfl, .of hq, rfl, _, _, rfl, _, _, rfl, rfl, ?_⟩
    refine ⟨_, rfl, _, ⟨sz (by have := hwm.2; omega), rfl⟩, ?_⟩
    by_cases h0 : w1.1.1.length = 0
    · rw [show ((w1.1.1.length : Int) != 0) = false by simp [h0]]
      refine iteF ⟨_, _, rfl, s2, hf2, hd2, fun j p l e1 e2 => ?_⟩
      obtain ⟨z1, z2⟩ := hls2 j p l e1 e2
      refine ⟨z1, ?_⟩
      rw [tk1 hw1, gOf_snoc, if_neg (fun e => hpl p (List.mem_of_getElem? e1) (by rw [← e]; exact h0))]
      exact z2
    · rw [show ((w1.1.1.length : Int) != 0) = true by simp [h0]]
      obtain ⟨p1, hp1m, hp1⟩ := List.mem_map.mp (hwm.1.resolve_left h0)
      obtain ⟨j, hj, rfl⟩ := List.getElem_of_mem hp1m
      have hjl : j < ls.length := by omega
      have ej : ps[j]? = some ps[j] := List.getElem?_eq_getElem hj
      have el : ls[j]? = some ls[j] := List.getElem?_eq_getElem hjl
      obtain ⟨z1, z2⟩ := hls2 j _ _ ej el
      have gl : (gOf (ws.take i) ps[j].1).length ≤ 1000000 := Nat.le_trans (gOf_len _ _) (by rw [List.length_take]; omega)
      refine iteT ⟨_, rfl, _, rfl, dn, .ref ls[j], rfl, .inl ⟨_, Sum.inr w1.1.1, .inl hd2, rfl, ?_⟩, .inl ⟨rfl, _, .of z2⟩, _, rfl, ls[j], _, _, rfl, rfl, z2, by rw [List.length_map]; exact Nat.lt_of_le_of_lt gl (by rw [sizeLine_eq]; decide), _, _, rfl, fun b z n e => ?_, ?_, ?_, fun m p l e1 e2 => ?_⟩
      · rw [← hp1, nm_val ps ls hl hnd j _ _ ej el]
      · have nb : b ≠ ls[j] := fun e2 => by rw [e2, z1] at e; cases e
        exact (upd_ne nb).trans (s2 b z n e)
      · have nb : dw ≠ ls[j] := fun e2 => by rw [← e2, hwd] at z1; cases z1
        exact (upd_ne nb).trans hf2
      · have nb : dn ≠ ls[j] := fun e2 => by rw [← e2, hd2] at z2; cases z2
        exact (upd_ne nb).trans hd2
      · obtain ⟨y1, y2⟩ := hls2 m p l e1 e2
        refine ⟨y1, ?_⟩
        rw [tk1 hw1, gOf_snoc]
        by_cases hmj : m = j
        · subst hmj
          rw [ej] at e1
          rw [el] at e2
          cases e1
          cases e2
          rw [if_pos hp1.symm, upd_same, List.map_append]
          rfl
        · have nl : l ≠ ls[j] := fun e => hmj ((List.getElem_inj (h₀ := (List.getElem?_eq_some_iff.mp e2).1) (h₁ := hjl) hln).mp ((List.getElem?_eq_some_iff.mp e2).2.trans e))
          have np : ¬ w1.1.1 = p.1 := fun e => hmj (by
            have e3 : (ps.map (·.1))[m]? = some p.1 := by rw [List.getElem?_map, e1]; rfl
            have e4 : (ps.map (·.1))[j]? = some p.1 := by rw [List.getElem?_map, ej, ← e, ← hp1]; rfl
            have l3 := (List.getElem?_eq_some_iff.mp e3).1
            have l4 := (List.getElem?_eq_some_iff.mp e4).1
            exact (List.getElem_inj (h₀ := l3) (h₁ := l4) hnd).mp ((List.getElem?_eq_some_iff.mp e3).2.trans (List.getElem?_eq_some_iff.mp e4).2.symm))
          rw [if_neg np]
          exact (upd_ne nl).trans y2
  rintro σ H2 ⟨u, v, rfl, s2, hf2, hd2, hls2⟩
  rw [hkl, List.take_length] at hls2
  refine ⟨hf2, ?_⟩
  -- the dict as it was
  have S2 : Same H (upd H2 dw (.dT kvs)) := fun b z e => by
    by_cases hb : b = dw
    · rw [hb] at e ⊢
      rw [upd_same, ← e, hwd]
    · exact (upd_ne hb).trans (s2 b z hb e)
  have hd3 : (upd H2 dw (.dT kvs)) dn = some (.dK (nmK ps ls)) := (upd_ne ndw).trans hd2
  have hls3 : ListsAt H (upd H2 dw (.dT kvs)) ps ls (gOf ws) := fun i p l e1 e2 => by
    obtain ⟨z1, z2⟩ := hls2 i p l e1 e2
    refine ⟨z1, (upd_ne fun e => ?_).trans z2⟩
    rw [e, hwd] at z1
    cases z1
  generalize upd H2 dw (.dT kvs) = H3 at S2 hd3 hls3 ⊢
  -- ordered = [..]
  have hF : ∀ i, ((ps.take i).flatMap fun p => (sortS (gOf ws p.1)).map fun n => (p.1, n)).length ≤ 16000000 := fun i => by
    have h1 := flat_len (ps := ps.take i) (ws := ws)
    have h2 : (ps.take i).length ≤ 16 := Nat.le_trans (by rw [List.length_take]; exact Nat.min_le_right _ _) h16
    have h3 := Nat.mul_le_mul h2 hwl
    exact Nat.le_trans h1 h3
  have hfl : ∀ {a : Addr} {us : List V}, H3 a = some (.tup us) → a ≠ dn := fun {a us} e z => by
    rw [z, hd3] at e
    cases e
  refine ⟨dn, _, hd3, trivial, fun oe => ⟨_, rfl, dn, oe, rfl, .inl ⟨nmK ps ls, upd_same, fun D hD => ?_⟩⟩⟩
  have hDd : D ≠ dn := fun z => by rw [z, upd_same] at hD; cases hD
  have hD3 : H3 D = none := by
    rw [upd_ne hDd] at hD
    exact hD
  have hkn : (nmK ps ls).length = ps.length := by
    unfold nmK
    rw [List.length_map, List.length_zip, hl, Nat.min_self]
  refine out_it walk_keys (fun i H' => (∀ b z, b ≠ dn → H3 b = some z → H' b = some z) ∧ H' dn = some (.frz oe (.dK (nmK ps ls))) ∧ ∃ bs : List Addr, H' D = some (.lst (bs.map V.ref)) ∧ PairsAt H' bs ((ps.take i).flatMap fun p => (sortS (gOf ws p.1)).map fun n => (p.1, n)))
    ⟨fun b z n e => (upd_ne (ne_of_none e hD3)).trans ((upd_ne n).trans e), (upd_ne hDd.symm).trans upd_same, [], upd_same, rfl, fun i a p e _ => by cases e⟩ (fun i H' _ q => q.2.1) ?_ ?_
  · rintro i x H4 H5 hi ⟨s4, hf4, bs, hD4, hb4⟩ ⟨rfl, k, v, hk, rfl⟩
    unfold nmK at hk
    rw [List.getElem?_map] at hk
    obtain ⟨⟨p, l⟩, hz, hk⟩ := Option.map_eq_some_iff.mp hk
    cases hk
    obtain ⟨e1, e2⟩ := List.getElem?_zip_eq_some.mp hz
    have e1 : ps[i]? = some p := e1
    have e2 : ls[i]? = some l := e2
    obtain ⟨z1, z2⟩ := hls3 i p l e1 e2
    have nl : l ≠ dn := fun z => by rw [z, hd3] at z2; cases z2
    have hl4 := s4 _ _ nl z2
    refine ⟨rfl, _, rfl, _, rfl, dn, .ref l, rfl, .inl ⟨_, Sum.inr p.1, .inr ⟨oe, hf4⟩, rfl, (nm_val ps ls hl hnd i p l e1 e2).symm⟩, l, _, rfl, .of hl4, fun ys q hperm hsort hq => ⟨q, rfl, ⟨_, .of upd_same⟩, ?_⟩⟩
    obtain rfl := sortS_eq hsort hperm
    have hqD : q ≠ D := fun z => by rw [z, hD4] at hq; cases hq
    have hqn : q ≠ dn := fun z => by rw [z, hf4] at hq; cases hq
    refine out_it (walk_list (xs := (sortS (gOf ws p.1)).map V.str)) (fun j H' => (∀ b z, b ≠ dn → H3 b = some z → H' b = some z) ∧ H' dn = some (.frz oe (.dK (nmK ps ls))) ∧ H' q = some (.lst ((sortS (gOf ws p.1)).map V.str)) ∧ ∃ bs : List Addr, H' D = some (.lst (bs.map V.ref)) ∧ PairsAt H' bs (((ps.take i).flatMap fun p => (sortS (gOf ws p.1)).map fun n => (p.1, n)) ++ ((sortS (gOf ws p.1)).take j).map fun n => (p.1, n)))
      ⟨fun b z n e => (upd_ne (ne_of_none (s4 b z n e) hq)).trans (s4 b z n e), (upd_ne hqn.symm).trans hf4, upd_same, bs, (upd_ne hqD.symm).trans hD4, ?_⟩ (fun j H' _ z => .of z.2.2.1) ?_ ?_
    · rw [List.take_zero, List.map_nil, List.append_nil]
      exact hb4.same (upd_new hq)
    · rintro j y H6 H7 hj ⟨s6, hf6, hq6, cs, hD6, hc6⟩ ⟨rfl, hy⟩
      rw [List.getElem?_map] at hy
      obtain ⟨n, hn, rfl⟩ := Option.map_eq_some_iff.mp hy
      refine ⟨rfl, _, rfl, _, rfl, small1 (by show 2 ≤ 8; decide), fun t ht => ⟨_, (upd_ne (ne_of_none hD6 ht)).trans hD6, ?_, ?_, ?_, ?_, cs ++ [t], ?_, ?_⟩⟩
      · rw [List.length_map, hc6.1, List.length_append, List.length_map, List.length_take]
        have g1 := hF (i + 1)
        rw [tk1 e1, List.flatMap_append, List.length_append] at g1
        have g2 : ([p].flatMap fun p => (sortS (gOf ws p.1)).map fun n => (p.1, n)).length = (sortS (gOf ws p.1)).length := by simp
        rw [g2] at g1
        exact Nat.lt_of_le_of_lt (show _ ≤ 16000000 by omega) (by rw [sizeLine_eq]; decide)
      · exact fun b z n e => (upd_ne (ne_of_none e hD3)).trans ((upd_ne (ne_of_none (s6 b z n e) ht)).trans (s6 b z n e))
      · exact (upd_ne hDd.symm).trans ((upd_ne (ne_of_none hf6 ht)).trans hf6)
      · exact (upd_ne hqD).trans ((upd_ne (ne_of_none hq6 ht)).trans hq6)
      · rw [upd_same, List.map_append]
        rfl
      · rw [tk1 hn, List.map_append, ← List.append_assoc]
        refine PairsAt.snoc (hc6.keep fun b us e => ?_) ?_
        · have nb : b ≠ D := fun z => by rw [z, hD6] at e; cases e
          exact (upd_ne nb).trans ((upd_ne (ne_of_none e ht)).trans e)
        · exact (upd_ne (ne_of_none hD6 ht).symm).trans upd_same
    · rintro H6 ⟨s6, hf6, hq6, cs, hD6, hc6⟩
      refine ⟨s6, hf6, cs, hD6, ?_⟩
      rw [List.length_map, List.take_length] at hc6
      rw [tk1 e1, List.flatMap_append]
      simpa using hc6
  rintro H4 ⟨s4, hf4, bs, hD4, hb4⟩
  rw [hkn, List.take_length] at hb4
  refine ⟨hf4, ?_⟩
  have S4 : Same H (upd H4 dn (.dK (nmK ps ls))) := fun b z e => by
    have nb := ne_of_none e hdn
    exact (upd_ne nb).trans (s4 b z nb (S2 b z e))
  have hD5 : (upd H4 dn (.dK (nmK ps ls))) D = some (.lst (bs.map V.ref)) := (upd_ne hDd).trans hD4
  have hb5 : PairsAt (upd H4 dn (.dK (nmK ps ls))) bs (ps.flatMap fun p => (sortS (gOf ws p.1)).map fun n => (p.1, n)) := hb4.keep fun b us e => by
    have nb : b ≠ dn := fun z => by rw [z, hf4] at e; cases e
    exact (upd_ne nb).trans e
  generalize upd H4 dn (.dK (nmK ps ls)) = H5 at S4 hD5 hb5 ⊢
  -- .. + [('', output) for output in outputs if ('', output) in targets]
  have hF1 := hF ps.length
  rw [List.take_length] at hF1
  refine ⟨_, rfl, _, rfl, o, rfl, ⟨_, sqT_same S4 ho⟩, fun D2 hD2 => ?_⟩
  refine lc_tup (K := K) (a := o) (xs := outs.map V.str) (fun i H' => Same H5 H' ∧ ∃ cs : List Addr, H' D2 = some (.lst (cs.map V.ref)) ∧ PairsAt H' cs (((outs.take i).filter fun o => decide (((Str.empty, o) : Port) ∈ ws.map (·.1))).map fun o => (Str.empty, o))) ⟨upd_new hD2, [], upd_same, rfl, fun i a p e _ => by cases e⟩ (fun i H' _ q => sqT_same (S4.trans q.1) ho) ?_ ?_
  · rintro i v H6 hi ⟨s6, cs, hD6, hc6⟩
    rw [List.getElem?_map] at hi
    obtain ⟨y, hy, rfl⟩ := Option.map_eq_some_iff.mp hi
    refine ⟨rfl, _, rfl, small1 (by show 2 ≤ 8; decide), fun t ht => ⟨_, rfl, dw, _, rfl, DGet.t (k := keyOf (Str.empty, y)) (((S4.trans s6).trans (upd_new ht)) _ _ hwd) upd_same, _, rfl, ?_⟩⟩
    rw [val_any, ← hkvs, any_wires (Str.empty, y) ws was hwa]
    have cl : cs.length ≤ 8 := by
      rw [hc6.1, List.length_map]
      exact Nat.le_trans (List.length_filter_le _ _) (Nat.le_trans (by rw [List.length_take]; exact Nat.min_le_right _ _) ho8)
    by_cases hm : (((Str.empty, y) : Port) ∈ ws.map (·.1))
    · rw [decide_eq_true hm]
      refine iteT ⟨_, rfl, small1 (by show 2 ≤ 8; decide), fun t2 ht2 => ⟨_, (upd_ne ?_).trans ((upd_ne ?_).trans hD6), by rw [List.length_map]; exact Nat.lt_of_le_of_lt cl (by rw [sizeLine_eq]; decide), ?_, cs ++ [t2], ?_, ?_⟩⟩
      · exact ne_of_none ((upd_ne (ne_of_none hD6 ht)).trans hD6) ht2
      · exact ne_of_none hD6 ht
      · exact same_put (s6.trans ((upd_new ht).trans (upd_new ht2))) hD2
      · rw [upd_same, List.map_append]
        rfl
      · rw [tk1 hy, List.filter_append, List.map_append]
        have ef : ([y].filter fun o => decide (((Str.empty, o) : Port) ∈ ws.map (·.1))) = [y] := by simp [hm]
        rw [ef]
        have hD7 : upd (upd H6 t (.tup [V.str "", .str y])) t2 (.tup [V.str "", .str y]) D2 = some (.lst (cs.map V.ref)) := (upd_ne (ne_of_none ((upd_ne (ne_of_none hD6 ht)).trans hD6) ht2)).trans ((upd_ne (ne_of_none hD6 ht)).trans hD6)
        refine PairsAt.snoc ((hc6.same ((upd_new ht).trans (upd_new (o := HO.tup [V.str "", .str y]) ht2))).keep fun b us e => ?_) ?_
        · have nb : b ≠ D2 := fun z => by rw [z, hD7] at e; cases e
          exact (upd_ne nb).trans e
        · refine (upd_ne fun z => ?_).trans upd_same
          rw [← z, upd_same] at hD7
          cases hD7
    · rw [decide_eq_false hm]
      refine iteF ⟨s6.trans (upd_new ht), cs, (upd_ne (ne_of_none hD6 ht)).trans hD6, ?_⟩
      rw [tk1 hy, List.filter_append]
      have ef : ([y].filter fun o => decide (((Str.empty, o) : Port) ∈ ws.map (·.1))) = [] := by simp [hm]
      rw [ef, List.append_nil]
      exact hc6.same (upd_new ht)
  rintro H6 ⟨s6, cs, hD6, hc6⟩
  rw [List.length_map, List.take_length] at hc6
  refine ⟨D, D2, _, _, rfl, rfl, s6 _ _ hD5, hD6, ?_, fun L hL => ?_⟩
  · have hcl : cs.length ≤ 8 := by
      rw [hc6.1, List.length_map]
      exact Nat.le_trans (List.length_filter_le _ _) ho8
    rw [List.length_map, List.length_map, hb5.1]
    exact sz (by omega)
  refine kk L (bs ++ cs) _ ((S4.trans s6).trans (upd_new hL)) (by rw [upd_same, List.map_append]) ?_
  have hb7 := (hb5.same s6).same (upd_new (o := HO.lst (bs.map V.ref ++ cs.map V.ref)) hL)
  have hc7 := hc6.same (upd_new (o := HO.lst (bs.map V.ref ++ cs.map V.ref)) hL)
  unfold orderT
  refine ⟨by rw [List.length_append, List.length_append, hb7.1, hc7.1], fun i a p e1 e2 => ?_⟩
  by_cases hi : i < bs.length
  · rw [List.getElem?_append_left hi] at e1
    rw [List.getElem?_append_left (by rw [← hb7.1]; exact hi)] at e2
    exact hb7.2 i a p e1 e2
  · rw [List.getElem?_append_right (by omega)] at e1
    rw [List.getElem?_append_right (by rw [← hb7.1]; omega), ← hb7.1] at e2
    exact hc7.2 _ a p e1 e2
end
end K5
namespace K5
open PySem L2 Own StX ClX NdefX
def partT (p : Str × Str) : Str := (("  part " : Str) ++ p.1) ++ " = " ++ p.2
def wireT (w : Port × Port) : Str := (("  " : Str) ++ portT w.1.1 w.1.2) ++ " <- " ++ portT w.2.1 w.2.2
def rowsT (name : Str) (ins outs : List Str) (ps : List (Str × Str)) (ws : List (Port × Port)) : List Str := headT name ins outs :: (ps.map partT ++ (ws.map wireT ++ (["end"] : List Str)))
/-- a diagram's texts are short -/
structure DSm (name : Str) (ins outs : List Str) (ps : List (Str × Str)) (ws : List (Port × Port)) : Prop where
  n : name.length ≤ 8
  il : ins.length ≤ 8
  ol : outs.length ≤ 8
  i : ∀ x ∈ ins, x.length ≤ 8
  o : ∀ x ∈ outs, x.length ≤ 8
  pl : ps.length ≤ 16
  p : ∀ p ∈ ps, p.1.length ≤ 8 ∧ p.2.length ≤ 190000
  wl : ws.length ≤ 330000
  w : ∀ w ∈ ws, (w.1.1.length ≤ 8 ∧ w.1.2.length ≤ 8) ∧ w.2.1.length ≤ 8 ∧ w.2.2.length ≤ 8
theorem total_le {c : Nat} : ∀ {l : List Str}, (∀ x ∈ l, x.length ≤ c) → total l ≤ l.length * (c + 1)
  | [], _ => Nat.zero_le _
  | a :: r, h => by
    have e : total (a :: r) = (a.length + 1) + total r := rfl
    have := total_le (l := r) fun x hx => h x (List.mem_cons_of_mem _ hx)
    have := h a List.mem_cons_self
    rw [List.length_cons, Nat.succ_mul]
    omega
theorem portT_len (a b : Str) : (portT a b).length ≤ a.length + b.length + 1 := by
  unfold portT
  split
  · omega
  · rw [sl, sl, show ((".": Str)).length = 1 by decide +kernel]
    omega
theorem partT_len (p : Str × Str) : (partT p).length = p.1.length + p.2.length + 10 := by
  unfold partT
  rw [sl, sl, sl, show (("  part " : Str)).length = 7 by decide +kernel, show ((" = " : Str)).length = 3 by decide +kernel]
  omega
theorem wireT_len (w : Port × Port) : (wireT w).length ≤ w.1.1.length + w.1.2.length + w.2.1.length + w.2.2.length + 8 := by
  unfold wireT
  have h1 := portT_len w.1.1 w.1.2
  have h2 := portT_len w.2.1 w.2.2
  rw [sl, sl, sl, show (("  " : Str)).length = 2 by decide +kernel, show ((" <- " : Str)).length = 4 by decide +kernel]
  omega
theorem sum_le {c : Nat} : ∀ {l : List Str}, (∀ x ∈ l, x.length ≤ c) → (l.map (·.length)).sum ≤ l.length * c
  | [], _ => Nat.zero_le _
  | a :: r, h => by
    have := sum_le (l := r) fun x hx => h x (List.mem_cons_of_mem _ hx)
    have := h a List.mem_cons_self
    rw [List.map_cons, List.sum_cons, List.length_cons, Nat.succ_mul]
    omega
theorem headT_len {name : Str} {ins outs : List Str} : (headT name ins outs).length ≤ name.length + total ins + total outs + 9 := by
  have hj1 := join_len " " ins
  have hj2 := join_len "" (outs.map fun o => (" " : Str) ++ o)
  rw [sum_more] at hj2
  rw [show ((" " : Str)).length = 1 by decide +kernel] at hj1
  have hj1 : (Txt.join " " ins).length ≤ total ins := hj1
  unfold headT
  rw [sl, sl, sl, sl, sl, sl, show (("block " : Str)).length = 6 by decide +kernel, show (("(" : Str)).length = 1 by decide +kernel, show ((";" : Str)).length = 1 by decide +kernel, show ((")" : Str)).length = 1 by decide +kernel]
  omega
theorem rowsT_len {name : Str} {ins outs : List Str} {ps : List (Str × Str)} {ws : List (Port × Port)} (h : DSm name ins outs ps ws) : ((rowsT name ins outs ps ws).map (·.length)).sum + (rowsT name ins outs ps ws).length ≤ 16700000 := by
  unfold rowsT
  have t1 := total_le h.i
  have t2 := total_le h.o
  have hh := headT_len (name := name) (ins := ins) (outs := outs)
  have p1 := sum_le (c := 190018) (l := ps.map partT) fun x hx => by
    obtain ⟨p, hp, rfl⟩ := List.mem_map.mp hx
    have := h.p p hp
    rw [partT_len]
    omega
  have w1 := sum_le (c := 40) (l := ws.map wireT) fun x hx => by
    obtain ⟨w, hw, rfl⟩ := List.mem_map.mp hx
    have := h.w w hw
    have := wireT_len w
    omega
  have e3 : (("end" : Str)).length = 3 := by decide +kernel
  rw [List.length_map] at p1 w1
  simp only [List.map_cons, List.map_append, List.sum_cons, List.sum_append, List.length_cons, List.length_append, List.map_nil, List.sum_nil, List.length_nil, e3] at *
  have := h.pl
  have := h.wl
  have := h.il
  have := h.ol
  have := h.n
  have a1 := Nat.mul_le_mul_right 190018 h.pl
  have a2 := Nat.mul_le_mul_right 40 h.wl
  have a3 := Nat.mul_le_mul_right (8 + 1) h.il
  have a4 := Nat.mul_le_mul_right (8 + 1) h.ol
  rw [List.length_map, List.length_map]
  omega
/-- pairs of ports: tuples of tuples -/
def WPairsAt (H : Hp) (bs : List Addr) (ws : List (Port × Port)) : Prop := bs.length = ws.length ∧ ∀ (i : Nat) (b : Addr) (w : Port × Port), bs[i]? = some b → ws[i]? = some w → ∃ t s, H b = some (.tup [.ref t, .ref s]) ∧ H t = some (.tup [.str w.1.1, .str w.1.2]) ∧ H s = some (.tup [.str w.2.1, .str w.2.2])
theorem WPairsAt.same {H H' : Hp} {bs : List Addr} {ws : List (Port × Port)} (h : WPairsAt H bs ws) (s : Same H H') : WPairsAt H' bs ws := ⟨h.1, fun i a p e1 e2 => by
  obtain ⟨t, q, z1, z2, z3⟩ := h.2 i a p e1 e2
  exact ⟨t, q, s _ _ z1, s _ _ z2, s _ _ z3⟩⟩
def spRows (K : PySem.W.Frag) : Sp := fun vs H Q _ => ∃ (name : Str) (i o pa wa : Addr) (ins outs : List Str) (as bs : List Addr) (ps : List (Str × Str)) (ws : List (Port × Port)), vs = [.str name, .ref i, .ref o, .ref pa, .ref wa] ∧ SqT K H i (ins.map V.str) ∧ SqT K H o (outs.map V.str) ∧
  SqT K H pa (as.map V.ref) ∧ PairsAt H as ps ∧ SqT K H wa (bs.map V.ref) ∧ WPairsAt H bs ws ∧ DSm name ins outs ps ws ∧ ∀ L H', Same H H' → H' L = some (.lst ((rowsT name ins outs ps ws).map V.str)) → Q (.ref L) H'
section
variable {P : Program} {w : World} {K : PySem.W.Frag} {mg : Str → Option Value} {base : Heap}
abbrev nRw : List Str := ["name", "inputs", "outputs", "parts", "wires", "part_rows", "wire_rows", "part", "block", "target", "source"]
theorem scRw : FnScope nRw ["name", "inputs", "outputs", "parts", "wires"] (defScope sRows) := ⟨rfl, rfl, rfl, by decide +kernel, rfl, by decide +kernel, by decide +kernel⟩
theorem ok_rows {f fH fP : Addr} {fd fdH fdP : FuncData} (F : Fun K "diagram_rows" "diagram_rows" sRows f fd) (GH : FnOk P w K mg base CX0 1 fH fdH ["name", "inputs", "outputs"] (spHead K)) (mH : mg "head_row" = some (.ref fH)) (kH : PySem.W.keepIn K (.ref fH) = true) (bH : Binds K fdH ["name", "inputs", "outputs"] [])
    (GP : FnOk P w K mg base CX0 1 fP fdP ["port"] (spPort K)) (mP : mg "port_text" = some (.ref fP)) (kP : PySem.W.keepIn K (.ref fP) = true) (bP : Binds K fdP ["port"] []) : FnOk P w K mg base CX0 2 f fd ["name", "inputs", "outputs", "parts", "wires"] (spRows K) := by
  refine F.ok scRw (fun vs H Q E h => ?_) (fun cdv A outer s H vs Q E hr h => ?_)
  · obtain ⟨name, i, o, pa, wa, ins, outs, as, bs, ps, ws, rfl, _⟩ := h
    rfl
  obtain ⟨name, i, o, pa, wa, ins, outs, as, bs, ps, ws, rfl, hi, ho, hpa, hps, hwa, hws, hd, k⟩ := h
  refine ⟨_, pss_cons (ps_setLc (i := 5) (own := [("part", 7), ("block", 8)]) (g := gTup K 2 (gCons (gName 7) (gCons (gName 8) gNil))) rfl scRw.nd rfl rfl (sw_true rfl rfl rfl (by decide +kernel)) (pi_tup (pv 3)) (blkOk_by (own := [("part", 7), ("block", 8)]) (N := nRw) (sc := defScope sRows) (by decide +kernel)) (fun _ _ _ _ _ => by exact (pg_tup rfl (pgs_cons (pg_name (i := 7) scRw.nd rfl (Or.inl rfl)) (pgs_cons (pg_name (i := 8) scRw.nd rfl (Or.inl rfl)) pgs_nil)))) (fun _ _ _ _ _ => pts_nil)
      (fun _ _ _ _ _ => by exact (pe_joined (.cons pe_str (.cons (pe_fmt (pv 7)) (.cons pe_str (.cons (pe_fmt (pv 8)) .nil)))))))
    (pss_cons (ps_setLc (i := 6) (own := [("target", 9), ("source", 10)]) (g := gTup K 2 (gCons (gName 9) (gCons (gName 10) gNil))) rfl scRw.nd rfl rfl (sw_true rfl rfl rfl (by decide +kernel)) (pi_tup (pv 4)) (blkOk_by (own := [("target", 9), ("source", 10)]) (N := nRw) (sc := defScope sRows) (by decide +kernel)) (fun _ _ _ _ _ => by exact (pg_tup rfl (pgs_cons (pg_name (i := 9) scRw.nd rfl (Or.inl rfl)) (pgs_cons (pg_name (i := 10) scRw.nd rfl (Or.inl rfl)) pgs_nil)))) (fun _ _ _ _ _ => pts_nil)
      (fun _ _ _ _ _ => by exact (pe_joined (.cons pe_str (.cons (pe_fmt (pe_call GP hr rfl mP kP bP .nil pass0 (pa_cons (pv 9) pa_nil))) (.cons pe_str (.cons (pe_fmt (pe_call GP hr rfl mP kP bP .nil pass0 (pa_cons (pv 10) pa_nil))) .nil)))))))
    (pss_one (ps_ret (pe_lst (pa_cons (pe_call GH hr rfl mH kH bH .nil pass0 (pa_cons (pv 0) (pa_cons (pv 1) (pa_cons (pv 2) pa_nil)))) (pa_star (pv 5) (pa_star (pv 6) (pa_cons pe_str pa_nil)))))))), ?_⟩
  have sz : ∀ {n : Nat}, n ≤ 16000100 → n ≤ sizeLine := fun h => by rw [sizeLine_eq]; omega
  have lp : (("  part " : Str)).length = 7 := by decide +kernel
  have lq : ((" = " : Str)).length = 3 := by decide +kernel
  have lb : (("  " : Str)).length = 2 := by decide +kernel
  have la : ((" <- " : Str)).length = 4 := by decide +kernel
  refine ⟨_, rfl, pa, rfl, ⟨_, hpa⟩, fun D hD => ?_⟩
  refine out_it (walk_tup (xs := as.map V.ref)) (fun j H' => Same H H' ∧ H' D = some (.lst (((ps.take j).map partT).map V.str))) ⟨upd_new hD, upd_same⟩ (fun j H' _ q => sqT_same q.1 hpa) ?_ ?_
  · rintro j x H1 H2 hj ⟨s1, hD1⟩ ⟨rfl, hx⟩
    rw [List.getElem?_map] at hx
    obtain ⟨a, ha, rfl⟩ := Option.map_eq_some_iff.mp hx
    obtain ⟨p, hp⟩ : ∃ p, ps[j]? = some p := ⟨_, List.getElem?_eq_getElem (by have := (List.getElem?_eq_some_iff.mp ha).1; have := hps.1; omega)⟩
    have hm := hd.p p (List.mem_of_getElem? hp)
    refine ⟨a, _, rfl, .of (s1 _ _ (hps.2 j a p ha hp)), rfl, _, _, rfl, _, _, rfl, rfl, rfl, ?_⟩
    refine ⟨"  part ", rfl, by rw [emp, lp]; exact sz (by omega), _, rfl, .inl ⟨p.1, rfl, sz (by omega), p.1, rfl, by rw [emp, sl, lp]; exact sz (by omega), " = ", rfl, by rw [emp, sl, sl, lp, lq]; exact sz (by omega), _, rfl, .inl ⟨p.2, rfl, sz (by omega), p.2, rfl, by rw [emp, sl, sl, sl, lp, lq]; exact sz (by omega), ?_⟩⟩⟩
    refine ⟨_, hD1, by rw [List.length_map, List.length_map, List.length_take]; exact Nat.lt_of_le_of_lt (Nat.le_trans (Nat.min_le_right _ _) hd.pl) (by rw [sizeLine_eq]; decide), same_put s1 hD, ?_⟩
    rw [upd_same, tk1 hp, emp, List.map_append, List.map_append]
    rfl
  rintro H1 ⟨s1, hD1⟩
  rw [List.length_map, hps.1, List.take_length] at hD1
  refine ⟨_, rfl, wa, rfl, ⟨_, sqT_same s1 hwa⟩, fun D2 hD2 => ?_⟩
  refine out_it (walk_tup (xs := bs.map V.ref)) (fun j H' => Same H1 H' ∧ H' D2 = some (.lst (((ws.take j).map wireT).map V.str))) ⟨upd_new hD2, upd_same⟩ (fun j H' _ q => sqT_same (s1.trans q.1) hwa) ?_ ?_
  · rintro j x H2 H3 hj ⟨s2, hD3⟩ ⟨rfl, hx⟩
    rw [List.getElem?_map] at hx
    obtain ⟨b, hb, rfl⟩ := Option.map_eq_some_iff.mp hx
    obtain ⟨w1, hw1⟩ : ∃ w, ws[j]? = some w := ⟨_, List.getElem?_eq_getElem (by have := (List.getElem?_eq_some_iff.mp hb).1; have := hws.1; omega)⟩
    have hm := hd.w w1 (List.mem_of_getElem? hw1)
    obtain ⟨t, sr, z1, z2, z3⟩ := (hws.same (s1.trans s2)).2 j b w1 hb hw1
    have p1 := portT_len w1.1.1 w1.1.2
    have p2 := portT_len w1.2.1 w1.2.2
    refine ⟨b, _, rfl, .of z1, rfl, _, _, rfl, _, _, rfl, rfl, rfl, ?_⟩
    refine ⟨"  ", rfl, by rw [emp, lb]; exact sz (by omega), _, rfl, t, w1.1.1, w1.1.2, rfl, .of z2, by omega, by omega, .inl ⟨_, rfl, sz (by omega), _, rfl, by rw [emp, sl, lb]; exact sz (by omega), " <- ", rfl, by rw [emp, sl, sl, lb, la]; exact sz (by omega), _, rfl, sr, w1.2.1, w1.2.2, rfl, .of z3, by omega, by omega, .inl ⟨_, rfl, sz (by omega), _, rfl, by rw [emp, sl, sl, sl, lb, la]; exact sz (by omega), ?_⟩⟩⟩
    refine ⟨_, hD3, by rw [List.length_map, List.length_map, List.length_take]; exact Nat.lt_of_le_of_lt (Nat.le_trans (Nat.min_le_right _ _) hd.wl) (by rw [sizeLine_eq]; decide), same_put s2 hD2, ?_⟩
    rw [upd_same, tk1 hw1, emp, List.map_append, List.map_append]
    rfl
  rintro H2 ⟨s2, hD3⟩
  rw [List.length_map, hws.1, List.take_length] at hD3
  have t1 := total_le hd.i
  have t2 := total_le hd.o
  have a3 := Nat.mul_le_mul_right (8 + 1) hd.il
  have a4 := Nat.mul_le_mul_right (8 + 1) hd.ol
  have s12 := s1.trans s2
  refine ⟨_, rfl, _, rfl, _, rfl, name, i, o, ins, outs, rfl, sqT_same s12 hi, sqT_same s12 ho, by have := hd.n; omega, by omega, by omega, by have := hd.ol; omega, fun H3 s3 => ?_⟩
  refine ⟨_, rfl, D, _, rfl, .inr (.of (s3 _ _ (s2 _ _ hD1))), _, rfl, D2, _, rfl, .inr (.of (s3 _ _ hD3)), ?_, fun L hL => ?_⟩
  · have := hd.pl
    have := hd.wl
    simp only [List.length_cons, List.length_append, List.length_map, List.length_nil]
    exact sz (by omega)
  · refine k L _ (s12.trans (s3.trans (upd_new hL))) ?_
    rw [upd_same]
    unfold rowsT
    simp only [List.map_cons, List.map_append, List.map_nil]
end
end K5
/-! OwnI: a def with the cell __class__ and cells of its own (parameters that a comprehension reads). -/
namespace Own
open PySem PySem.Spec PyProof.Rows L2 NdefX ClX StX
theorem cells_acc : ∀ (names : List (Str × NameKind)) (n : Nat) (acc : List (Str × Addr)), cellsFrom n names acc = cellsFrom n names [] ++ acc
  | [], _, _ => rfl
  | (x, k) :: r, n, acc => by
    unfold cellsFrom
    split
    · rw [cells_acc r (n + 1) ((x, n) :: acc), cells_acc r (n + 1) [(x, n)], List.append_assoc]
      rfl
    · exact cells_acc r n acc
section
variable {M : Model} {A : Around} {E : Value → Shared → Prop} {s₀ s : Shared} {m cm : Str → Option Value} {env : Env} {cs : List (Str × Addr)}
theorem put_local {n : Str} {v : Value} {Q : Unit → Shared → Prop} (x : InCallC s₀ env.locals m cs cm s) (hk : env.scope.kind = .function) (hl : env.kindOf n = some .local) (q : ∀ t, InCallC s₀ env.locals (fun y => if y = n then some v else m y) cs cm t → Q () t) :
    wpAny M A (storeName env n v) Q E s := by
  have old := x.toInCall.fresh
  obtain ⟨g, tk, es⟩ := x.toInCall.same
  refine wpAny_storeName_local hl x.toInCall.ns (fun h' hn sb => q _ ⟨⟨?_, hn, ?_, old⟩, ?_, x.apart, x.above⟩) (by rw [hk]; rfl)
  · rw [es]
    exact ⟨h', _, rfl⟩
  · intro b o e
    have lt := Nat.lt_of_lt_of_le (Heap.lt_size e) old
    exact sb.extBut b o (Nat.ne_of_lt lt) (x.toInCall.keep b o e)
  · intro k c e
    have ab := x.above k c (mem_of_lookup e)
    exact (x.cell k c e).sameBut sb (Nat.ne_of_gt ab)
theorem put_cell {n : Str} {c : Addr} {v : Value} {Q : Unit → Shared → Prop} (x : InCallC s₀ env.locals m cs cm s) (hk : env.scope.kind = .function) (hl : env.kindOf n = some .cell) (hc : env.cells.lookup n = some c) (hc' : cs.lookup n = some c)
    (q : ∀ t, InCallC s₀ env.locals m cs (fun y => if y = n then some v else cm y) t → Q () t) : wpAny M A (storeName env n v) Q E s := by
  have ab := x.above n c (mem_of_lookup hc')
  obtain ⟨g, tk, es⟩ := x.toInCall.same
  refine wpAny_storeName_cell hk hl hc (x.cell n c hc') fun h' hn sb => q _ ⟨⟨?_, ?_, ?_, x.toInCall.fresh⟩, ?_, x.apart, x.above⟩
  · rw [es]
    exact ⟨h', _, rfl⟩
  · exact x.toInCall.ns.sameBut sb (Nat.ne_of_lt ab)
  · intro b o e
    have lt := Nat.lt_trans (Nat.lt_of_lt_of_le (Heap.lt_size e) x.toInCall.fresh) ab
    exact sb.extBut b o (Nat.ne_of_lt lt) (x.toInCall.keep b o e)
  · intro k d e
    by_cases hkn : k = n
    · subst hkn
      rw [hc'] at e
      cases e
      rw [if_pos rfl]
      exact hn
    · rw [if_neg hkn]
      refine (x.cell k d e).sameBut sb fun z => ?_
      rw [z] at e
      exact hkn (name_of_addr x.apart (mem_of_lookup e) (mem_of_lookup hc'))
theorem put_all (f : Str × Value → PUnit → Sem (ForInStep PUnit)) (hf : ∀ n v u, f (n, v) u = (do storeName env n v; pure (.yield ⟨⟩))) (hk : env.scope.kind = .function) (sub : ∀ n c, cs.lookup n = some c → env.cells.lookup n = some c) :
    ∀ (bs : List (Str × Value)) (m cm : Str → Option Value) (s : Shared) (Q : PUnit → Shared → Prop), InCallC s₀ env.locals m cs cm s → (∀ x ∈ bs, env.kindOf x.1 = some .local ∨ (env.kindOf x.1 = some .cell ∧ ∃ c, cs.lookup x.1 = some c)) →
      (∀ t, InCallC s₀ env.locals (bindL env.kindOf bs m) cs (bindC env.kindOf bs cm) t → Q ⟨⟩ t) → wpAny M A (forIn bs ⟨⟩ f) Q E s
  | [], m, cm, s, Q, x, _, q => by
    rw [List.forIn_nil]
    exact wpAny_pure (q s x)
  | (n, v) :: r, m, cm, s, Q, x, kinds, q => by
    have tl : ∀ y ∈ r, env.kindOf y.1 = some .local ∨ (env.kindOf y.1 = some .cell ∧ ∃ c, cs.lookup y.1 = some c) := fun y hy => kinds y (List.mem_cons_of_mem _ hy)
    rw [List.forIn_cons, hf]
    rcases kinds (n, v) List.mem_cons_self with hl | ⟨hl, c, hc⟩
    · refine wpAny_bind (wpAny_bind (put_local x hk hl fun t y => wpAny_pure (put_all f hf hk sub r _ _ t Q y tl fun u z => q u ?_)))
      rw [show bindL env.kindOf ((n, v) :: r) m = _ from rfl, show bindC env.kindOf ((n, v) :: r) cm = _ from rfl]
      unfold bindL bindC
      rw [if_pos hl, if_pos hl]
      exact z
    · have nl : ¬ env.kindOf n = some .local := by rw [hl]; decide
      refine wpAny_bind (wpAny_bind (put_cell x hk hl (sub n c hc) hc fun t y => wpAny_pure (put_all f hf hk sub r _ _ t Q y tl fun u z => q u ?_)))
      unfold bindL bindC
      rw [if_neg nl, if_neg nl]
      exact z
end
theorem look_app {α : Type} : ∀ {l r : List (Str × α)} {n : Str} {c : α}, l.lookup n = some c → (l ++ r).lookup n = some c
  | (k, v) :: l, r, n, c, h => by
    rw [List.lookup_cons] at h
    rw [List.cons_append, List.lookup_cons]
    cases hb : n == k with
    | true => rw [hb] at h; exact h
    | false =>
      rw [hb] at h
      exact look_app h
/-- its names: the parameters, then __class__, then its locals; parameters may be cells -/
structure DScope (N ps : List Str) (sc : Scope) : Prop where
  kind : sc.kind = .function
  co : sc.isCoroutine = false
  gen : sc.isGenerator = false
  nd : N.Nodup
  pre : N.take (ps.length + 1) = ps ++ (["__class__"] : List Str)
  par : ∀ x ∈ ps, sc.names.lookup x = some .local ∨ sc.names.lookup x = some .cell
  free : ∀ y ∈ sc.names, y.2 = .free → y.1 = "__class__"
  frk : sc.names.lookup ("__class__" : Str) = some .free
  noc : ∀ y ∈ sc.names, y.2 = .cell → y.1 ≠ "__class__"
def dscB (N ps : List Str) (sc : Scope) : Bool :=
  decide (sc.kind = .function) && !sc.isCoroutine && !sc.isGenerator && decide N.Nodup && decide (N.take (ps.length + 1) = ps ++ (["__class__"] : List Str)) && ps.all (fun x => decide (sc.names.lookup x = some .local) || decide (sc.names.lookup x = some .cell)) && sc.names.all (fun y => !decide (y.2 = .free) || decide (y.1 = "__class__")) && decide (sc.names.lookup ("__class__" : Str) = some .free) && sc.names.all (fun y => !decide (y.2 = .cell) || decide (y.1 ≠ "__class__"))
theorem dscope_by {N ps : List Str} {sc : Scope} (h : dscB N ps sc = true) : DScope N ps sc := by
  unfold dscB at h
  simp only [Bool.and_eq_true, Bool.not_eq_true', decide_eq_true_eq, List.all_eq_true, Bool.or_eq_true, decide_eq_false_iff_not] at h
  obtain ⟨⟨⟨⟨⟨⟨⟨⟨h1, h2⟩, h3⟩, h4⟩, h5⟩, h6⟩, h7⟩, h8⟩, h9⟩ := h
  exact ⟨h1, h2, h3, h4, h5, h6, fun y hy e => (h7 y hy).elim (fun z => absurd e z) id, h8, fun y hy e => (h9 y hy).elim (fun z => absurd e z) id⟩
abbrev envD (F : NF) (f L : Addr) : Env := PySem.W.envX F.qual F.scope L f (.ref F.c) (cellsFrom (L + 1) F.scope.names [] ++ F.cl)
def dcx (CX : CXT) (P : Program) (w : World) (K : PySem.W.Frag) (mg : Str → Option Value) (base : Heap) (N : List Str) (F : NF) (f : Addr) (A : Around) (outer : List Env) (s : Shared) (H : Hp) (E : XK) : Cx :=
  { ncx CX P w K mg base N F f A outer s H E with A := A.deeper (envD F f s.heap.objs.size), env := envD F f s.heap.objs.size, stack := envD F f s.heap.objs.size :: outer, xe := fun e s' => wpAny (model P w) (A.deeper (envD F f s.heap.objs.size)) (leaving (envD F f s.heap.objs.size) e) (fun _ s'' => CX outer H s E e s'') (fun e' s'' => CX outer H s E e' s'') s' }
section
variable {CX : CXT} {P : Program} {w : World} {K : PySem.W.Frag} {mg : Str → Option Value} {base : Heap} {N ps : List Str} {F : NF} {f cc D : Addr} {A : Around} {outer : List Env} {s s1 : Shared} {H : Hp} {E : XK} {us : List Value} {vs : List V}
theorem inv_startD (S : DScope N ps F.scope) (hd : A.handled = none) (e0 : Env0 P w K mg base A outer s H) (hl : vs.length = ps.length) (r : Vals vs us) (hcl : F.cl = [(("__class__" : Str), cc)]) (hc0 : H cc = none) (hc1 : s.heap.IsCell cc (some (.ref D)))
    (x : InCallC s s.heap.objs.size (bindL (envD F f s.heap.objs.size).kindOf (ps.zip us) fun _ => none) (cellsFrom (s.heap.objs.size + 1) F.scope.names []) (bindC (envD F f s.heap.objs.size).kindOf (ps.zip us) fun _ => none) s1) :
    Inv (dcx CX P w K mg base N F f A outer s H E) [] (startF N vs [some (.ref D)]) H s1 := by
  have hpl : ps.length + 1 ≤ N.length := by
    have q := congrArg List.length S.pre
    rw [List.length_take, List.length_append] at q
    have : (["__class__"] : List Str).length = 1 := rfl
    omega
  obtain ⟨h1, tk, rfl, hk⟩ := x.done
  have noA : ∀ b : Addr, b ∉ (dcx CX P w K mg base N F f A outer s H E).ex := fun b z => absurd (show b ∈ ([] : List Addr) from z) (by simp)
  have ccell : h1.IsCell cc (some (.ref D)) := by
    obtain ⟨o, ho, hd⟩ := hc1
    exact ⟨o, hk _ _ ho, hd⟩
  have cclt : cc < s.heap.objs.size := by
    obtain ⟨o, ho, _⟩ := hc1
    exact Heap.lt_size ho
  -- the two kinds of cells
  have split : ∀ y c, (cellsFrom (s.heap.objs.size + 1) F.scope.names [] ++ F.cl).lookup y = some c → (cellsFrom (s.heap.objs.size + 1) F.scope.names []).lookup y = some c ∨ (y = "__class__" ∧ c = cc) := fun y c e => by
    rw [List.lookup_append] at e
    cases q : (cellsFrom (s.heap.objs.size + 1) F.scope.names []).lookup y with
    | some d =>
      rw [q] at e
      exact .inl e
    | none =>
      rw [q, hcl] at e
      have e : ([(("__class__" : Str), cc)] : List (Str × Addr)).lookup y = some c := e
      rw [List.lookup_cons] at e
      cases hb : y == ("__class__" : Str) with
      | true =>
        rw [hb] at e
        cases e
        exact .inr ⟨beq_iff_eq.mp hb, rfl⟩
      | false =>
        rw [hb] at e
        cases e
  have noown : (cellsFrom (s.heap.objs.size + 1) F.scope.names []).lookup ("__class__" : Str) = none := by
    cases q : (cellsFrom (s.heap.objs.size + 1) F.scope.names []).lookup ("__class__" : Str) with
    | none => rfl
    | some d =>
      exfalso
      have z : ∀ (names : List (Str × NameKind)) (n : Nat) (acc : List (Str × Addr)) (y : Str) (d : Addr), (y, d) ∈ cellsFrom n names acc → (y, d) ∈ acc ∨ (y, NameKind.cell) ∈ names := by
        intro names
        induction names with
        | nil => exact fun n acc y d h => .inl h
        | cons p r ih =>
          obtain ⟨a, k⟩ := p
          intro n acc y d h
          unfold cellsFrom at h
          split at h
          · rename_i hkc
            rcases ih _ _ _ _ h with q | q
            · rcases List.mem_cons.mp q with q | q
              · cases q
                exact .inr (by rw [eq_of_beq hkc]; exact List.mem_cons_self)
              · exact .inl q
            · exact .inr (List.mem_cons_of_mem _ q)
          · rcases ih _ _ _ _ h with q | q
            · exact .inl q
            · exact .inr (List.mem_cons_of_mem _ q)
      rcases z _ _ _ _ _ (mem_of_lookup q) with q | q
      · cases q
      · exact S.noc _ q rfl rfl
  have mine : (cellsFrom (s.heap.objs.size + 1) F.scope.names [] ++ F.cl).lookup ("__class__" : Str) = some cc := by
    rw [List.lookup_append, noown, hcl]
    simp [List.lookup]
  have ab : ∀ y c, (cellsFrom (s.heap.objs.size + 1) F.scope.names []).lookup y = some c → s.heap.objs.size < c := fun y c e => x.above y c (mem_of_lookup e)
  refine ⟨⟨e0.mod, S.kind, rfl, rfl, Nat.le_refl _, fun y z c e1 e2 => ?_, fun y hy => ?_, fun y c z _ => ?_, fun _ => hd, Around.frames_deeper e0.frames, .inr ⟨rfl, rfl⟩, fun b z => absurd z (noA b), e0.bs, e0.bsz, fun b _ _ => noA b, fun b z => absurd z (noA b), e0.funs, e0.frf⟩,
    rfl, e0.bare, Un.kept hk, ⟨_, x.toInCall.ns, fun i y v e1 e2 e3 => ?_⟩, fun y c e => ?_, e0.hok.fresh (Nat.le_refl _), fun y c e => ?_, fun p hp => absurd (show p ∈ ([] : List (Addr × Obj)) from hp) (by simp), e0.hok.kept hk, ?_⟩
  · rcases split y c e1 with q1 | ⟨q1, q2⟩ <;> rcases split z c e2 with p1 | ⟨p1, p2⟩
    · exact name_of_addr x.apart (mem_of_lookup q1) (mem_of_lookup p1)
    · have := ab _ _ q1
      rw [p2] at this
      exact absurd (Nat.lt_trans cclt this) (Nat.lt_irrefl _)
    · have := ab _ _ p1
      rw [q2] at this
      exact absurd (Nat.lt_trans cclt this) (Nat.lt_irrefl _)
    · rw [q1, p1]
  · have hy : F.scope.names.lookup y = some .cell ∨ F.scope.names.lookup y = some .free := hy
    rcases hy with hy | hy
    · obtain ⟨c, e⟩ := cell_has (n := s.heap.objs.size + 1) hy
      exact ⟨c, look_app e⟩
    · have e : y = "__class__" := S.free _ (mem_of_lookup hy) rfl
      exact ⟨cc, by rw [e]; exact mine⟩
  · have z : false = true := z
    cases z
  · have e1 : N[i]? = some y := e1
    unfold startF at e2
    by_cases h1 : i < ps.length
    · have hq : (ps ++ (["__class__"] : List Str))[i]? = some y := by
        rw [← S.pre, List.getElem?_take_of_lt (by omega)]
        exact e1
      rw [List.getElem?_append_left h1] at hq
      rw [List.getElem?_append_left (by rw [List.length_map]; omega), List.getElem?_map] at e2
      obtain ⟨a, ha, ea⟩ := Option.map_eq_some_iff.mp e2
      cases ea
      obtain ⟨u, hu, rv⟩ := r.get ha
      have ndP : ps.Nodup := by
        have q := S.nd.sublist (List.take_sublist (ps.length + 1) N)
        rw [S.pre] at q
        exact (List.nodup_append.mp q).1
      refine ⟨u, rv, ?_⟩
      rcases S.par y (List.mem_of_getElem? hq) with k | k
      · exact .inl ⟨k, bindL_get ndP hq hu k⟩
      · obtain ⟨c, e⟩ := cell_has (n := s.heap.objs.size + 1) k
        refine .inr ⟨.inl k, c, look_app e, ?_⟩
        have q := x.cell y c e
        rw [bindC_get ndP hq hu (by show F.scope.names.lookup y ≠ _; rw [k]; decide)] at q
        exact q
    · rw [List.getElem?_append_right (by rw [List.length_map]; omega), List.length_map, hl] at e2
      by_cases h2 : i = ps.length
      · have hq : (ps ++ (["__class__"] : List Str))[i]? = some y := by
          rw [← S.pre, List.getElem?_take_of_lt (by omega)]
          exact e1
        rw [h2, List.getElem?_append_right (Nat.le_refl _), Nat.sub_self] at hq
        rw [h2, Nat.sub_self] at e2
        cases hq
        cases e2
        exact ⟨.ref D, rfl, .inr ⟨.inr S.frk, cc, mine, ccell⟩⟩
      · obtain ⟨j, hj⟩ : ∃ j, i - ps.length = j + 1 := ⟨i - ps.length - 1, by omega⟩
        rw [hj, List.singleton_append, List.getElem?_cons_succ, List.getElem?_replicate] at e2
        split at e2 <;> cases e2
  · rcases split y c e with q | ⟨q1, q2⟩
    · exact ⟨_, x.cell y c q⟩
    · exact ⟨_, by rw [q2]; exact ccell⟩
  · rcases split y c e with q | ⟨q1, q2⟩
    · exact e0.hok.fresh (Nat.le_of_lt (ab y c q))
    · rw [q2]
      exact hc0
  · unfold startF
    show _ = N.length
    rw [List.length_append, List.length_append, List.length_map, List.length_replicate]
    have : ([some (.ref D)] : List (Option V)).length = 1 := rfl
    omega
theorem env_clo {M : Model} {B : Around} {E' : Value → Shared → Prop} {binds : List (Str × Value)} {Q : Env → Shared → Prop} (S : DScope N ps F.scope) (hkind : ∀ x ∈ binds, F.scope.names.lookup x.1 = some .local ∨ F.scope.names.lookup x.1 = some .cell)
    (q : ∀ t, InCallC s s.heap.objs.size (bindL (envD F f s.heap.objs.size).kindOf binds fun _ => none) (cellsFrom (s.heap.objs.size + 1) F.scope.names []) (bindC (envD F f s.heap.objs.size).kindOf binds fun _ => none) t → Q (envD F f s.heap.objs.size) t) :
    wpAny M B (newFunctionEnv F.scope mainGlobals F.cl binds (F.qual ++ ".<locals>.") (some f) (.ref F.c) none builtinsNs) Q E' s := by
  simp only [newFunctionEnv, Option.isSome_none, Bool.false_eq_true, if_false]
  refine wpAny_bind (wpAny_alloc (wpAny_bind (wpAny_layCells _ (fun name kind cells => by cases z : kind == NameKind.cell <;> simp [z]) _ _ _ _ ?_)))
  have cok := cellsFrom_ok F.scope.names (s.heap.push { cls := .type "frame", data := .dict #[] }) (s.heap.objs.size + 1) [] ⟨fun _ _ z => (nomatch z), List.Pairwise.nil⟩ (by rw [Heap.size_push]; exact Nat.le_refl _)
  have size : (s.heap.push { cls := .type "frame", data := .dict #[] }).objs.size = s.heap.objs.size + 1 := Heap.size_push ..
  rw [size] at cok
  rw [show ({ s with heap := s.heap.push { cls := .type "frame", data := .dict #[] } } : Shared).heap.objs.size = s.heap.objs.size + 1 from size, cells_acc]
  have start : InCallC s s.heap.objs.size (fun _ => none) (cellsFrom (s.heap.objs.size + 1) F.scope.names []) (fun _ => none) { s with heap := pushCells (s.heap.push { cls := .type "frame", data := .dict #[] }) F.scope.names } :=
    ⟨⟨⟨_, _, rfl⟩, (Heap.Ns.new s.heap (.type "frame")).keeps (pushCells_keeps _ _), fun b o e => pushCells_keeps _ _ b o (Heap.get?_push_of_some _ e), Nat.le_refl _⟩, fun n c e => (cok.empty n c (mem_of_lookup e)).1, cok.apart, fun n c e => (cok.empty n c e).2⟩
  refine wpAny_bind (put_all (s₀ := s) (env := envD F f s.heap.objs.size) (cs := cellsFrom (s.heap.objs.size + 1) F.scope.names []) _ (fun _ _ _ => rfl) S.kind (fun n c e => look_app e) binds (fun _ => none) (fun _ => none) _ _ start (fun y hy => ?_) fun t x => wpAny_pure (q t x))
  rcases hkind y hy with z | z
  · exact .inl z
  · exact .inr ⟨z, cell_has z⟩
theorem fnr_superC {k : Nat} {sp : Sp} {oc doc pm ct : Value} {od an : Option Addr} {osl : Array (Option Value)}
    (lk : K.lookup f = some ⟨oc, od, .func (PySem.W.fnX F.name F.qual F.params F.body F.scope F.cl .none .none doc pm an (.ref F.c) ct), osl⟩) (hcd : PySem.W.codeIn K (.ref F.c) F.qual = true) (hcl : F.cl = [(("__class__" : Str), cc)])
    (hcell : ∃ cl cld csl, K.lookup cc = some ⟨cl, cld, .cell (some (.ref D)), csl⟩) (S : DScope N ps F.scope)
    (hb : ∀ (us : List Value), us.length = ps.length → bindArgs (PySem.W.fnX F.name F.qual F.params F.body F.scope F.cl .none .none doc pm an (.ref F.c) ct) ⟨us, []⟩ = pure (ps.zip us))
    (len : ∀ vs H Q E, sp vs H Q E → vs.length = ps.length)
    (hbody : ∀ (A : Around) (outer : List Env) (s : Shared) (H : Hp) (vs : List V) (Q : VK) (E : XK), Room k (A.deeper (envD F f s.heap.objs.size)) → sp vs H Q E →
      ∃ t, PSA (dcx CX P w K mg base N F f A outer s H E) F.body F.body t ∧ t { nx := fun _ H' => Q .non H', rt := Q } (startF N vs [some (.ref D)]) H) :
    FnR P w K mg base CX (k + 1) f sp := by
  intro A outer s H us vs Q E hr e0 r hsp
  have hl := len _ _ _ _ hsp
  have KB : K.In base := e0.mod.kin
  have KX : K.In s.heap := KB.keeps fun b o e => (e0.bs b o e).1
  have lim : s.heap.NoLimit := e0.mod.nolimit.keeps fun b o e => (e0.bs b o e).1
  obtain ⟨cl, cld, csl, hc⟩ := hcell
  refine codeAny_call_function hr.depth (KX _ _ lk) rfl S.co S.gen rfl (PySem.W.codeRec_of KX hcd) ?_
  rw [hb us (by rw [← r.length]; exact hl)]
  refine wpAny_pure (env_clo (f := f) S (fun ⟨n, _⟩ hy => S.par n (List.of_mem_zip hy).1) fun s1 x => ⟨lim.keeps x.toInCall.keep, ?_⟩)
  show codeAny _ _ (.func F.body (envD F f s.heap.objs.size)) _ _
  refine PySem.ks_codeAny_funcAt ?_
  obtain ⟨t, ht, hq⟩ := hbody A outer s H vs Q E (hr.deeper _) hsp
  have I : Inv (dcx CX P w K mg base N F f A outer s H E) [] (startF N vs [some (.ref D)]) H s1 := inv_startD S hr.hd e0 hl r hcl (e0.bs _ _ (KB _ _ hc)).2 ⟨_, KX _ _ hc, rfl⟩ x
  refine PySem.ks_wpAt_mono (ht.run [] _ (startF N vs [some (.ref D)]) H _ I hq) (fun fl t hs => ?_) fun e t hs => hs
  have fin : ∀ {σ' : L2.St} {H' : Hp} {v : V} {u : Value}, Inv (dcx CX P w K mg base N F f A outer s H E) [] σ' H' t → L2.RelV v u → Q v H' → CE outer P w H s Q u t :=
    fun {σ' H' v u} J rv q => ⟨v, H', J.os, J.bare, J.base, J.hok, rv, q⟩
  cases fl with
  | next =>
    obtain ⟨σ', H', J, q⟩ := hs
    exact fin (v := V.non) (u := Value.none) J rfl q
  | ret u =>
    obtain ⟨v, σ', H', J, rv, q⟩ := hs
    exact fin J rv q
  | cont =>
    obtain ⟨_, _, _, q⟩ := hs
    exact False.elim q
  | brk =>
    obtain ⟨_, _, _, q⟩ := hs
    exact False.elim q
end
end Own
namespace K5
open PySem L2 Own StX ClX NdefX
abbrev sBI : Stmt := inClass (top 25) 0
abbrev sDI : Stmt := inClass (top 26) 2
def spBI (K : PySem.W.Frag) : Sp := fun vs H Q _ => ∃ (p C dx : Addr) (n i o : V), vs = [.ref p, n, i, o] ∧ H p = some (.ins C dx []) ∧ Cls K C ∧ NoAttr K C "name" ∧ NoAttr K C "inputs" ∧ NoAttr K C "outputs" ∧ Q .non (upd H p (.ins C dx [("name", n), ("inputs", i), ("outputs", o)]))
def fsD (n i o : V) (pa wa : Addr) : List (Str × V) := [("name", n), ("inputs", i), ("outputs", o), ("parts", .ref pa), ("wires", .ref wa)]
def srcOf (ws : List (Port × Port)) (t : Port) : Port := ((ws.find? fun w => decide (w.1 = t)).map (·.2)).getD (Str.empty, Str.empty)
def wiresOf (ps : List (Str × Str)) (outs : List Str) (ws : List (Port × Port)) : List (Port × Port) := (orderT ps outs ws).map fun t => (t, srcOf ws t)
theorem val_wire (t : Port) : ∀ (ws : List (Port × Port)) (was : List Addr), was.length = ws.length → t ∈ ws.map (·.1) → ∃ (j : Nat) (w : Port × Port) (a : Addr), ws[j]? = some w ∧ was[j]? = some a ∧ srcOf ws t = w.2 ∧ valV ((ws.zip was).map fun q => (keyOf q.1.1, V.ref q.2)) (keyOf t) = some (V.ref a)
  | [], _, _, h => by cases h
  | _ :: _, [], h, _ => by cases h
  | w :: ws, a :: was, h, hm => by
    by_cases e : w.1 = t
    · refine ⟨0, w, a, rfl, rfl, ?_, ?_⟩
      · unfold srcOf
        rw [List.find?_cons, decide_eq_true e]
        rfl
      · unfold valV
        rw [List.zip_cons_cons, List.map_cons, List.find?_cons, decide_eq_true (congrArg keyOf e)]
        rfl
    · have hm : t ∈ ws.map (·.1) := (List.mem_cons.mp hm).resolve_left fun z => e z.symm
      obtain ⟨j, w1, b, h1, h2, h3, h4⟩ := val_wire t ws was (Nat.succ.inj h) hm
      refine ⟨j + 1, w1, b, h1, h2, ?_, ?_⟩
      · unfold srcOf at *
        rw [List.find?_cons, decide_eq_false e]
        exact h3
      · unfold valV at *
        rw [List.zip_cons_cons, List.map_cons, List.find?_cons, decide_eq_false fun z => e (keyOf_inj z)]
        exact h4
theorem order_mem {ps : List (Str × Str)} {outs : List Str} {ws : List (Port × Port)} {t : Port} (h : t ∈ orderT ps outs ws) : t ∈ ws.map (·.1) := by
  unfold orderT at h
  rcases List.mem_append.mp h with h | h
  · obtain ⟨p, _, h⟩ := List.mem_flatMap.mp h
    obtain ⟨n, hn, rfl⟩ := List.mem_map.mp h
    have hn := (sortS_perm _).mem_iff.mp hn
    unfold gOf at hn
    obtain ⟨w, hw, rfl⟩ := List.mem_map.mp hn
    obtain ⟨hw, e⟩ := List.mem_filter.mp hw
    have e := of_decide_eq_true e
    exact List.mem_map.mpr ⟨w, hw, Prod.ext e rfl⟩
  · obtain ⟨o, ho, rfl⟩ := List.mem_map.mp h
    exact of_decide_eq_true (List.mem_filter.mp ho).2
theorem order_len (ps : List (Str × Str)) (outs : List Str) (ws : List (Port × Port)) : (orderT ps outs ws).length ≤ ps.length * ws.length + outs.length := by
  unfold orderT
  rw [List.length_append, List.length_map]
  have := flat_len (ps := ps) (ws := ws)
  have := List.length_filter_le (fun o => decide (((Str.empty, o) : Port) ∈ ws.map (·.1))) outs
  omega
theorem WPairsAt.keep {H H' : Hp} {bs : List Addr} {ws : List (Port × Port)} (h : WPairsAt H bs ws) (s : ∀ b us, H b = some (.tup us) → H' b = some (.tup us)) : WPairsAt H' bs ws := ⟨h.1, fun i a p e1 e2 => by
  obtain ⟨t, q, z1, z2, z3⟩ := h.2 i a p e1 e2
  exact ⟨t, q, s _ _ z1, s _ _ z2, s _ _ z3⟩⟩
theorem WPairsAt.snoc {H : Hp} {bs : List Addr} {ws : List (Port × Port)} {b t s : Addr} {w : Port × Port} (h : WPairsAt H bs ws) (e1 : H b = some (.tup [.ref t, .ref s])) (e2 : H t = some (.tup [.str w.1.1, .str w.1.2])) (e3 : H s = some (.tup [.str w.2.1, .str w.2.2])) : WPairsAt H (bs ++ [b]) (ws ++ [w]) := by
  refine ⟨by rw [List.length_append, List.length_append, h.1]; rfl, fun i a q z1 z2 => ?_⟩
  by_cases hi : i < bs.length
  · rw [List.getElem?_append_left hi] at z1
    rw [List.getElem?_append_left (by rw [← h.1]; exact hi)] at z2
    exact h.2 i a q z1 z2
  · rw [List.getElem?_append_right (by omega)] at z1
    rw [List.getElem?_append_right (by rw [← h.1]; omega), ← h.1] at z2
    cases hk : i - bs.length with
    | zero =>
      rw [hk] at z1 z2
      cases z1
      cases z2
      exact ⟨t, s, e1, e2, e3⟩
    | succ k =>
      rw [hk] at z1
      cases z1
/-- what a diagram's class tells -/
structure DgC (K : PySem.W.Frag) (mg : Str → Option Value) (C : Addr) : Prop where
  cl : Cls K C
  nN : NoAttr K C "name"
  nI : NoAttr K C "inputs"
  nO : NoAttr K C "outputs"
  nP : NoAttr K C "parts"
  nW : NoAttr K C "wires"
  sup : mg "super" = none
  zt : mg "tuple" = none
/-- what parts and wires must be for the making of a diagram -/
structure DgOk (outs : List Str) (ps : List (Str × Str)) (ws : List (Port × Port)) : Prop where
  pl : ps.length ≤ 16
  ol : outs.length ≤ 8
  wl : ws.length ≤ 20000
  nd : (ps.map (·.1)).Nodup
  ne : ∀ p ∈ ps, p.1.length ≠ 0
  wk : ∀ w ∈ ws, (w.1.1.length = 0 ∨ w.1.1 ∈ ps.map (·.1)) ∧ w.1.1.length ≤ 200000
def spDI (K : PySem.W.Frag) (C : Addr) : Sp := fun vs H Q _ => ∃ (p dx i o pl dw : Addr) (name : Str) (outs : List Str) (as : List Addr) (ps : List (Str × Str)) (ws : List (Port × Port)), vs = [.ref p, .str name, .ref i, .ref o, .ref pl, .ref dw] ∧ H p = some (.ins C dx []) ∧ SqT K H o (outs.map V.str) ∧
  SqL K H pl (as.map V.ref) ∧ PairsAt H as ps ∧ WiresAt H dw ws ∧ DgOk outs ps ws ∧
  ∀ (pa wa : Addr) (bs : List Addr) H', SameX p H H' → H' p = some (.ins C dx (fsD (.str name) (.ref i) (.ref o) pa wa)) → H' pa = some (.tup (as.map V.ref)) → PairsAt H' as ps → H' wa = some (.tup (bs.map V.ref)) → WPairsAt H' bs (wiresOf ps outs ws) → Q .non H'
def nfDI (cc cda : Addr) : NF := ⟨"__init__", "Diagram.__init__", defArgs sDI, defBody sDI, defScope sDI, [("__class__", cc)], cda⟩
abbrev nDI : List Str := ["self", "name", "inputs", "outputs", "parts", "wires", "__class__", "ordered", "target"]
theorem nsDI : DScope nDI ["self", "name", "inputs", "outputs", "parts", "wires"] (defScope sDI) := dscope_by (by decide +kernel)
theorem ndDI : (nDI : List Str).Nodup := by decide +kernel
structure DIn (K : PySem.W.Frag) (P : Program) (C f cc cda fB : Addr) : Prop where
  ex : ∃ oc od osl doc pm an ct, K.lookup f = some ⟨oc, od, .func (PySem.W.fnX "__init__" "Diagram.__init__" (defArgs sDI) (defBody sDI) (defScope sDI) [(("__class__" : Str), cc)] .none .none doc pm an (.ref cda) ct), osl⟩ ∧
    SupK K P f cda cc C (PySem.W.fnX "__init__" "Diagram.__init__" (defArgs sDI) (defBody sDI) (defScope sDI) [(("__class__" : Str), cc)] .none .none doc pm an (.ref cda) ct) "self"
  code : PySem.W.codeIn K (.ref cda) "Diagram.__init__" = true
  sc : SupC K C C "__init__" fB
section
variable {P : Program} {w : World} {K : PySem.W.Frag} {mg : Str → Option Value} {base : Heap} {C : Addr}
theorem scBI : FnScope ["self", "name", "inputs", "outputs"] ["self", "name", "inputs", "outputs"] (defScope sBI) := ⟨rfl, rfl, rfl, by decide +kernel, rfl, by decide +kernel, by decide +kernel⟩
theorem ok_bi {f : Addr} {fd : FuncData} (F : Fun K "__init__" "Block.__init__" sBI f fd) : FnOk P w K mg base CX0 1 f fd ["self", "name", "inputs", "outputs"] (spBI K) := by
  refine F.ok scBI (fun vs H Q E h => ?_) (fun cdv A outer s H vs Q E hr h => ?_)
  · obtain ⟨p, C, dx, n, i, o, rfl, _⟩ := h
    rfl
  obtain ⟨p, C, dx, n, i, o, rfl, hp, c, n1, n2, n3, k⟩ := h
  refine ⟨_, pss_cons (ps_fld (pv 0) (pv 1) rfl) (pss_cons (ps_fld (pv 0) (pv 2) rfl) (pss_one (ps_fld (pv 0) (pv 3) rfl))), ?_⟩
  refine ⟨_, rfl, _, rfl, p, C, dx, [], rfl, hp, c, n1, (by show 0 < 1000; decide), ?_⟩
  refine ⟨_, rfl, _, rfl, p, C, dx, _, rfl, upd_same, c, n2, (by show 1 < 1000; decide), ?_⟩
  refine ⟨_, rfl, _, rfl, p, C, dx, _, rfl, upd_same, c, n3, (by show 2 < 1000; decide), ?_⟩
  rw [upd_upd, upd_upd]
  exact k
theorem ok_di {f cc cda fB fO : Addr} {fdB fdO : FuncData} (Z : DIn K P C f cc cda fB) (T : DgC K mg C) (GB : FnOk P w K mg base CX0 1 fB fdB ["self", "name", "inputs", "outputs"] (spBI K)) (bB : Binds K fdB ["self", "name", "inputs", "outputs"] [])
    (GO : FnOk P w K mg base CX0 1 fO fdO ["parts", "outputs", "targets"] (spOrder K)) (mO : mg "order_targets" = some (.ref fO)) (kO : PySem.W.keepIn K (.ref fO) = true) (bO : Binds K fdO ["parts", "outputs", "targets"] []) : FnR P w K mg base CX0 2 f (spDI K C) := by
  obtain ⟨oc, od, osl, doc, pm, an, ct, lk, SK⟩ := Z.ex
  have GR : FnR P w K mg base CX0 1 fB (spBI K) := by
    have z := GB.raw bB .nil
    simpa only [List.append_nil] using z
  refine fnr_superC (F := nfDI cc cda) (cc := cc) (D := C) lk Z.code rfl SK.cell nsDI (fun us hl => match us, hl with | [_, _, _, _, _, _], _ => rfl) (fun vs H Q E h => ?_) (fun A outer s H vs Q E hr h => ?_)
  · obtain ⟨p, dx, i, o, pl, dw, name, outs, as, ps, ws, rfl, _⟩ := h
    rfl
  obtain ⟨p, dx, i, o, pl, dw, name, outs, as, ps, ws, rfl, hp, ho, hpl, hps, hW, hd, k⟩ := h
  have hu1 := Nat.lt_of_le_of_lt (Nat.add_le_add_left (show 1 ≤ 64 by decide) _) hr.units
  refine ⟨_, psa_super (self := "self") SK rfl rfl rfl rfl rfl rfl rfl T.sup GR hr pass0 (pa_cons (pv 1) (pa_cons (pv 2) (pa_cons (pv 3) pa_nil))) (psa_of
    (pss_cons (ps_fld (pv 0) (pe_callTy call_tuple_of (by rfl) T.zt (by decide +kernel) (pa_cons (pv 4) pa_nil)) rfl)
    (pss_cons (ps_set (i := 7) ndDI rfl (.inl rfl) (pe_call GO hr rfl mO kO bO .nil pass0 (pa_cons (pe_fld (pv 0) rfl) (pa_cons (pv 3) (pa_cons (pv 5) pa_nil)))))
    (pss_one (ps_fld (pv 0) (pe_callTy call_tuple_of (by rfl) T.zt (by decide +kernel) (pa_cons (pe_lc (own := [("target", 8)]) (g := gName 8) rfl ndDI (pi_list (pv 7)) (blkOk_by (own := [("target", 8)]) (N := nDI) (sc := defScope sDI) (by decide +kernel)) (fun _ _ _ _ _ => pg_name (i := 8) ndDI rfl (Or.inl rfl)) (fun _ _ _ _ _ => pts_nil)
      (fun _ _ _ _ _ => by exact (pe_tup (pa_cons (pv 8) (pa_cons (pe_dget hu1 (pv 5) (pv 8) (fun _ _ => rfl)) pa_nil))))) pa_nil)) rfl))))), ?_⟩
  refine ⟨p, C, dx, [], rfl, hp, Z.sc, _, rfl, _, rfl, _, rfl, p, C, dx, _, _, _, rfl, hp, T.cl, T.nN, T.nI, T.nO, ?_⟩
  have tp : NoTup H p := fun xs => ⟨fun z => by (rw [hp] at z; cases z), fun o z => by (rw [hp] at z; cases z)⟩
  have npw : dw ≠ p := fun z => by
    obtain ⟨was, _, hwd, _⟩ := hW
    rw [z, hp] at hwd
    cases hwd
  have npl : pl ≠ p ∨ True := .inr trivial
  have hpl1 : SqL K (upd H p (.ins C dx [("name", .str name), ("inputs", .ref i), ("outputs", .ref o)])) pl (as.map V.ref) := by
    rcases hpl with (z | ⟨q, z⟩) | z
    · exact .inl (.inl ((upd_ne fun e => by rw [e, hp] at z; cases z).trans z))
    · exact .inl (.inr ⟨q, (upd_ne fun e => by rw [e, hp] at z; cases z).trans z⟩)
    · exact .inr z
  refine ⟨_, rfl, pl, _, rfl, .inl ⟨hpl1, fun pa hpa => ⟨_, rfl, p, C, dx, _, rfl, (upd_ne (ne_of_none upd_same hpa)).trans upd_same, T.cl, T.nP, by show 3 < 1000; decide, ?_⟩⟩⟩
  have nap : pa ≠ p := (ne_of_none upd_same hpa).symm
  have X3 : SameX p H (upd (upd (upd H p (.ins C dx [("name", .str name), ("inputs", .ref i), ("outputs", .ref o)])) pa (.tup (as.map V.ref))) p (.ins C dx (putF "parts" (.ref pa) [("name", .str name), ("inputs", .ref i), ("outputs", .ref o)]))) := SameX.put.trans ((SameX.of (upd_new hpa)).trans SameX.put)
  have hp3 : (upd (upd (upd H p (.ins C dx [("name", .str name), ("inputs", .ref i), ("outputs", .ref o)])) pa (.tup (as.map V.ref))) p (.ins C dx (putF "parts" (.ref pa) [("name", .str name), ("inputs", .ref i), ("outputs", .ref o)]))) p = some (.ins C dx [("name", .str name), ("inputs", .ref i), ("outputs", .ref o), ("parts", .ref pa)]) := upd_same
  have ha3 : (upd (upd (upd H p (.ins C dx [("name", .str name), ("inputs", .ref i), ("outputs", .ref o)])) pa (.tup (as.map V.ref))) p (.ins C dx (putF "parts" (.ref pa) [("name", .str name), ("inputs", .ref i), ("outputs", .ref o)]))) pa = some (.tup (as.map V.ref)) := (upd_ne nap).trans upd_same
  generalize (upd (upd (upd H p (.ins C dx [("name", .str name), ("inputs", .ref i), ("outputs", .ref o)])) pa (.tup (as.map V.ref))) p (.ins C dx (putF "parts" (.ref pa) [("name", .str name), ("inputs", .ref i), ("outputs", .ref o)]))) = H3 at X3 hp3 ha3 ⊢
  have hps3 : PairsAt H3 as ps := hps.keep fun b xs e => X3 _ _ (fun z => by rw [z, hp] at e; cases e) e
  have hW3 : WiresAt H3 dw ws := hW.X X3 tp npw
  have ho3 : SqT K H3 o (outs.map V.str) := sqT_X X3 tp ho
  refine ⟨_, rfl, p, C, dx, _, _, rfl, hp3, T.cl, T.nP, rfl, _, rfl, _, rfl, pa, o, dw, as, ps, outs, ws, rfl, .of ha3, hps3, ho3, hW3, hd.pl, hd.ol, by have := hd.wl; omega, hd.nd, hd.ne, hd.wk, fun L bs H4 s4 hL hb => ?_⟩
  obtain ⟨was, hwa, hwd, hwt⟩ := hW3.same s4
  refine ⟨_, rfl, L, rfl, ⟨_, .of hL⟩, fun D hD => ?_⟩
  refine out_it (walk_list (xs := bs.map V.ref)) (fun j H' => Same H4 H' ∧ ∃ cs : List Addr, H' D = some (.lst (cs.map V.ref)) ∧ WPairsAt H' cs (((orderT ps outs ws).take j).map fun t => (t, srcOf ws t)))
    ⟨upd_new hD, [], upd_same, rfl, fun i a p e _ => by cases e⟩ (fun j H' _ q => .of (q.1 _ _ hL)) ?_ ?_
  · rintro j x H5 H6 hj ⟨s5, cs, hD5, hc5⟩ ⟨rfl, hx⟩
    rw [List.getElem?_map] at hx
    obtain ⟨b, hbj, rfl⟩ := Option.map_eq_some_iff.mp hx
    obtain ⟨t, ht⟩ : ∃ t, (orderT ps outs ws)[j]? = some t := ⟨_, List.getElem?_eq_getElem (by have := (List.getElem?_eq_some_iff.mp hbj).1; have := hb.1; omega)⟩
    have gb := s5 _ _ (hb.2 j b t hbj ht)
    obtain ⟨m, w1, a, e1, e2, e3, e4⟩ := val_wire t ws was hwa (order_mem (List.mem_of_getElem? ht))
    have ga := s5 _ _ (hwt m w1 a e1 e2)
    refine ⟨rfl, _, rfl, _, rfl, _, rfl, dw, .ref a, rfl, by rw [← e4]; exact DGet.t (k := keyOf t) (s5 _ _ hwd) gb, small1 (by show 2 ≤ 8; decide), fun q hq => ⟨_, (upd_ne (ne_of_none hD5 hq)).trans hD5, ?_, same_put (s5.trans (upd_new hq)) hD, cs ++ [q], ?_, ?_⟩⟩
    · rw [List.length_map, hc5.1, List.length_map, List.length_take]
      have g1 := order_len ps outs ws
      have g2 := Nat.mul_le_mul hd.pl hd.wl
      have := hd.ol
      exact Nat.lt_of_le_of_lt (Nat.le_trans (Nat.min_le_right _ _) (show _ ≤ 500000 by omega)) (by rw [sizeLine_eq]; decide)
    · rw [upd_same, List.map_append]
      rfl
    · rw [tk1 ht, List.map_append]
      have keep : ∀ c us, H6 c = some (.tup us) → upd (upd H6 q (.tup [.ref b, .ref a])) D (.lst (cs.map V.ref ++ [.ref q])) c = some (.tup us) := fun c us e => by
        have nb : c ≠ D := fun z => by rw [z, hD5] at e; cases e
        exact (upd_ne nb).trans ((upd_ne (ne_of_none e hq)).trans e)
      refine WPairsAt.snoc (w := (t, srcOf ws t)) (t := b) (s := a) (hc5.keep keep) ?_ (keep _ _ gb) ?_
      · exact (upd_ne (ne_of_none hD5 hq).symm).trans upd_same
      · rw [e3]
        exact keep _ _ ga
  rintro H5 ⟨s5, cs, hD5, hc5⟩
  rw [List.length_map, hb.1, List.take_length] at hc5
  have hp5 := s5 _ _ (s4 _ _ hp3)
  refine ⟨D, _, rfl, .inl ⟨.of hD5, fun wa hwa2 => ⟨_, rfl, p, C, dx, _, rfl, (upd_ne (ne_of_none hp5 hwa2)).trans hp5, T.cl, T.nW, by show 4 < 1000; decide, ?_⟩⟩⟩
  have X6 := X3.trans ((SameX.of ((s4.trans s5).trans (upd_new (o := HO.tup (cs.map V.ref)) hwa2))).trans (SameX.put (o := .ins C dx (fsD (.str name) (.ref i) (.ref o) pa wa))))
  have nq : ∀ b us, H5 b = some (.tup us) → upd (upd H5 wa (.tup (cs.map V.ref))) p (.ins C dx (fsD (.str name) (.ref i) (.ref o) pa wa)) b = some (.tup us) := fun b us e => by
    have nb : b ≠ p := fun z => by rw [z, hp5] at e; cases e
    exact (upd_ne nb).trans ((upd_ne (ne_of_none e hwa2)).trans e)
  refine k pa wa cs _ X6 upd_same (nq _ _ (s5 _ _ (s4 _ _ ha3))) (((hps3.same s4).same s5).keep nq) ?_ (hc5.keep nq)
  exact (upd_ne (ne_of_none hp5 hwa2).symm).trans upd_same
end
end K5
namespace K5
open PySem L2 Own StX ClX NdefX
abbrev sRI : Stmt := inClass (top 23) 0
abbrev sOfR : Stmt := inClass (top 26) 4
/-! ### a reader's states -/
def st0 : RS := ⟨none, [], [], false⟩
structure RInv (st : RS) : Prop where
  h0 : st.head = none → st.parts = [] ∧ st.wires = [] ∧ st.done = false
  h1 : ∀ n ins outs, st.head = some (n, ins, outs) → n.length ≤ 8 ∧ ins.length ≤ 8 ∧ outs.length ≤ 8 ∧ (∀ x ∈ ins, x.length ≤ 8) ∧ ∀ x ∈ outs, x.length ≤ 8
  nd : (st.parts.map (·.1)).Nodup
  p : ∀ p ∈ st.parts, p.1.length ≠ 0 ∧ p.1.length ≤ 8 ∧ p.2.length ≤ 190000
  w : ∀ w ∈ st.wires, (w.1.1.length = 0 ∨ w.1.1 ∈ st.parts.map (·.1)) ∧ (w.1.1.length ≤ 8 ∧ w.1.2.length ≤ 8) ∧ w.2.1.length ≤ 8 ∧ w.2.2.length ≤ 8
theorem isNm_len {x : Str} (h : isNm x = true) : 1 ≤ x.length ∧ x.length ≤ 8 := by
  unfold isNm at h
  simp only [Bool.and_eq_true, decide_eq_true_eq] at h
  exact ⟨h.1.1.1, h.1.1.2⟩
theorem rinv0 : RInv st0 := ⟨fun _ => ⟨rfl, rfl, rfl⟩, fun _ _ _ h => by (cases h), List.nodup_nil, fun p h => by (cases h), fun w h => by (cases h)⟩
theorem readPort_ok {parts own : List Str} {x : Str} {p : Port} (h : readPort parts own x = some p) (ho : ∀ y ∈ own, y.length ≤ 8) (hp : ∀ y ∈ parts, y.length ≤ 8) : (p.1.length = 0 ∨ p.1 ∈ parts) ∧ p.1.length ≤ 8 ∧ p.2.length ≤ 8 := by
  unfold readPort at h
  split at h
  · split at h
    · rename_i hm
      cases h
      exact ⟨.inl rfl, Nat.zero_le _, ho _ hm⟩
    · cases h
  · split at h
    · rename_i hm
      cases h
      exact ⟨.inr hm.1, hp _ hm.1, (isNm_len hm.2).2⟩
    · cases h
theorem step_inv {st st' : RS} {row : Str} (h : RInv st) (hr : row.length ≤ 190000) (e : step st row = some st') : RInv st' ∧ st'.wires.length ≤ st.wires.length + 1 := by
  obtain ⟨hd, ps, ws, dn⟩ := st
  unfold step at e
  cases hd with
  | none =>
    dsimp only at e
    split at e
    · rename_i ok
      cases e
      obtain ⟨z1, z2, z3⟩ := h.h0 rfl
      refine ⟨⟨fun q => by (cases q), fun n ins outs q => ?_, h.nd, h.p, h.w⟩, Nat.le_succ _⟩
      cases q
      have hn : isNm (headName row) = true := by
        have := ok.2.2.2.1
        unfold isDN at this
        rw [Bool.and_eq_true] at this
        exact this.1
      have hall := List.all_eq_true.mp ok.2.2.2.2.1
      exact ⟨(isNm_len hn).2, ok.2.1, ok.2.2.1, fun x hx => (isNm_len (hall x (List.mem_append_left _ hx))).2, fun x hx => (isNm_len (hall x (List.mem_append_right _ hx))).2⟩
    · cases e
  | some r =>
    obtain ⟨n, ins, outs⟩ := r
    dsimp only at e
    obtain ⟨q1, q2, q3, q4, q5⟩ := h.h1 n ins outs rfl
    split at e
    · cases e
    split at e
    · cases e
      exact ⟨⟨fun q => by (cases q), h.h1, h.nd, h.p, h.w⟩, Nat.le_succ _⟩
    split at e
    · split at e
      · cases et : takePart ps row with
        | none => rw [et] at e; cases e
        | some ps' =>
          rw [et] at e
          cases e
          unfold takePart at et
          split at et
          · rename_i ok
            cases et
            have l0 := PyProof.Rows.len_removeprefix row "  part "
            have pl := part_le (Txt.removeprefix row "  part ") " = " (by decide +kernel)
            refine ⟨⟨fun q => by (cases q), h.h1, ?_, fun p hp => ?_, fun w hw => ?_⟩, Nat.le_succ _⟩
            · rw [List.map_append]
              refine List.nodup_append.mpr ⟨h.nd, List.nodup_cons.mpr ⟨List.not_mem_nil, List.nodup_nil⟩, fun a ha b hb z => ?_⟩
              rw [List.mem_singleton.mp hb] at z
              rw [z] at ha
              exact ok.2.2.1 ha
            · rcases List.mem_append.mp hp with hp | hp
              · exact h.p p hp
              · rw [List.mem_singleton.mp hp]
                have := isNm_len ok.2.1
                exact ⟨by show (partName row).length ≠ 0; omega, this.2, Nat.le_trans pl.2 (Nat.le_trans l0 hr)⟩
            · obtain ⟨z1, z2⟩ := h.w w hw
              refine ⟨z1.imp id fun z => ?_, z2⟩
              rw [List.map_append]
              exact List.mem_append_left _ z
          · cases et
      · cases e
    · cases et : takeWire (ps.map (·.1)) ins outs ws row with
      | none => rw [et] at e; cases e
      | some ws' =>
        rw [et] at e
        cases e
        unfold takeWire at et
        split at et
        · split at et
          · rename_i t s e1 e2
            split at et
            · cases et
            · cases et
              have hp8 : ∀ y ∈ ps.map (·.1), y.length ≤ 8 := fun y hy => by
                obtain ⟨p, hp, rfl⟩ := List.mem_map.mp hy
                exact (h.p p hp).2.1
              have k1 := readPort_ok e1 q5 hp8
              have k2 := readPort_ok e2 q4 hp8
              refine ⟨⟨fun q => by (cases q), h.h1, h.nd, h.p, fun w hw => ?_⟩, by rw [List.length_append]; exact Nat.le_refl _⟩
              rcases List.mem_append.mp hw with hw | hw
              · exact h.w w hw
              · rw [List.mem_singleton.mp hw]
                exact ⟨k1.1, k1.2, k2.2⟩
          · cases et
        · cases et
theorem rinv_ok {st : RS} {n : Str} {ins outs : List Str} (h : RInv st) (hh : st.head = some (n, ins, outs)) (h16 : st.parts.length ≤ 16) (hw : st.wires.length ≤ 20000) : DgOk outs st.parts st.wires := by
  obtain ⟨q1, q2, q3, q4, q5⟩ := h.h1 n ins outs hh
  exact ⟨h16, q3, hw, h.nd, fun p hp => (h.p p hp).1, fun w hm => ⟨(h.w w hm).1, by have := (h.w w hm).2.1.1; omega⟩⟩
theorem srcOf_mem {ws : List (Port × Port)} {t : Port} (h : t ∈ ws.map (·.1)) : ∃ w ∈ ws, w.1 = t ∧ srcOf ws t = w.2 := by
  obtain ⟨j, w, a, e1, _, e3, _⟩ := val_wire t ws (ws.map fun _ => (0 : Nat)) (List.length_map _) h
  obtain ⟨w0, hw0, e⟩ := List.mem_map.mp h
  cases hf : ws.find? (fun w => decide (w.1 = t)) with
  | none => exact absurd (decide_eq_true e) (Bool.not_eq_true _ ▸ List.find?_eq_none.mp hf w0 hw0)
  | some w1 =>
    have hf2 := List.find?_some hf
    refine ⟨w1, List.mem_of_find?_eq_some hf, of_decide_eq_true hf2, ?_⟩
    unfold srcOf
    rw [hf]
    rfl
theorem rinv_sm {st : RS} {n : Str} {ins outs : List Str} (h : RInv st) (hh : st.head = some (n, ins, outs)) (h16 : st.parts.length ≤ 16) (hw : st.wires.length ≤ 20000) : DSm n ins outs st.parts (wiresOf st.parts outs st.wires) := by
  obtain ⟨q1, q2, q3, q4, q5⟩ := h.h1 n ins outs hh
  refine ⟨q1, q2, q3, q4, q5, h16, fun p hp => (h.p p hp).2, ?_, fun w hm => ?_⟩
  · unfold wiresOf
    rw [List.length_map]
    have g1 := order_len st.parts outs st.wires
    have g2 := Nat.mul_le_mul h16 hw
    omega
  · unfold wiresOf at hm
    obtain ⟨t, ht, rfl⟩ := List.mem_map.mp hm
    obtain ⟨w, hw, rfl, e⟩ := srcOf_mem (order_mem ht)
    have z := (h.w w hw).2
    exact ⟨z.1, by rw [e]; exact z.2⟩
theorem val_part : ∀ (ps : List (Str × Str)), (ps.map (·.1)).Nodup → ∀ (j : Nat) (p : Str × Str), ps[j]? = some p → valV (ps.map fun p => ((Sum.inr p.1 : Key), V.str p.2)) (Sum.inr p.1) = some (V.str p.2)
  | [], _, _, _, e => by cases e
  | q :: ps, nd, 0, p, e => by
    cases e
    unfold valV
    rw [List.map_cons, List.find?_cons, decide_eq_true rfl]
    rfl
  | q :: ps, nd, j + 1, p, e => by
    have ih := val_part ps (List.nodup_cons.mp nd).2 j p e
    have hne : ¬ ((Sum.inr q.1 : Key) = Sum.inr p.1) := fun z => (List.nodup_cons.mp nd).1 (by
      have e2 : q.1 = p.1 := Sum.inr.inj z
      show q.1 ∈ _
      rw [e2]
      exact List.mem_map.mpr ⟨p, List.mem_of_getElem? e, rfl⟩)
    unfold valV at *
    rw [List.map_cons, List.find?_cons, decide_eq_false hne]
    exact ih
/-- a diagram at y -/
def DgAt (K : PySem.W.Frag) (C : Addr) (H : Hp) (y : Addr) (name : Str) (ins outs : List Str) (ps : List (Str × Str)) (ws : List (Port × Port)) : Prop := ∃ (dx i o pa wa : Addr) (as bs : List Addr), H y = some (.ins C dx (fsD (.str name) (.ref i) (.ref o) pa wa)) ∧ SqT K H i (ins.map V.str) ∧ SqT K H o (outs.map V.str) ∧
  H pa = some (.tup (as.map V.ref)) ∧ PairsAt H as ps ∧ H wa = some (.tup (bs.map V.ref)) ∧ WPairsAt H bs ws
theorem DgAt.same {K : PySem.W.Frag} {C : Addr} {H H' : Hp} {y : Addr} {name : Str} {ins outs : List Str} {ps : List (Str × Str)} {ws : List (Port × Port)} (h : DgAt K C H y name ins outs ps ws) (s : Same H H') : DgAt K C H' y name ins outs ps ws := by
  obtain ⟨dx, i, o, pa, wa, as, bs, h1, h2, h3, h4, h5, h6, h7⟩ := h
  exact ⟨dx, i, o, pa, wa, as, bs, s _ _ h1, sqT_same s h2, sqT_same s h3, s _ _ h4, h5.same s, s _ _ h6, h7.same s⟩
def spRI (K : PySem.W.Frag) (C : Addr) : Sp := fun vs H Q _ => ∃ (p dx : Addr), vs = [.ref p, .int 8, .int 16] ∧ H p = some (.ins C dx []) ∧ ∀ d dw H', SameX p H H' → RdAt K C H' p d dw st0 → H d = none → H dw = none → Q .non H'
def spOf (K : PySem.W.Frag) (CR C : Addr) : Sp := fun vs H Q _ => ∃ (p d dw : Addr) (st : RS) (n : Str) (ins outs : List Str), vs = [.ref C, .ref p] ∧ RdAt K CR H p d dw st ∧ RInv st ∧ st.head = some (n, ins, outs) ∧ st.wires.length ≤ 20000 ∧
  ∀ y H', Same H H' → H y = none → DgAt K C H' y n ins outs st.parts (wiresOf st.parts outs st.wires) → Q (.ref y) H'
section
variable {P : Program} {w : World} {K : PySem.W.Frag} {mg : Str → Option Value} {base : Heap} {C CR : Addr}
theorem scRI : FnScope ["self", "max_ports", "max_parts"] ["self", "max_ports", "max_parts"] (defScope sRI) := ⟨rfl, rfl, rfl, by decide +kernel, rfl, by decide +kernel, by decide +kernel⟩
theorem ok_ri {f : Addr} {fd : FuncData} (F : Fun K "__init__" "DiagramReader.__init__" sRI f fd) (R : RdC P w K mg base C) : FnOk P w K mg base CX0 1 f fd ["self", "max_ports", "max_parts"] (spRI K C) := by
  refine F.ok scRI (fun vs H Q E h => ?_) (fun cdv A outer s H vs Q E hr h => ?_)
  · obtain ⟨p, dx, rfl, _⟩ := h
    rfl
  obtain ⟨p, dx, rfl, hp, k⟩ := h
  refine ⟨_, pss_cons (ps_fld (pv 0) pe_non rfl) (pss_cons (ps_fld (pv 0) (pe_tup pa_nil) rfl) (pss_cons (ps_fld (pv 0) (pe_tup pa_nil) rfl) (pss_cons (ps_fld (pv 0) pe_dnewK rfl) (pss_cons (ps_fld (pv 0) pe_dnewT rfl) (pss_cons (ps_fld (pv 0) pe_bl rfl) (pss_cons (ps_fld (pv 0) (pv 1) rfl) (pss_one (ps_fld (pv 0) (pv 2) rfl)))))))), ?_⟩
  refine ⟨_, rfl, p, C, dx, _, rfl, hp, R.cl, R.nN, by show 0 < 1000; decide, ?_⟩
  refine ⟨small1 (by show 0 ≤ 8; decide), fun i hi => ⟨_, rfl, p, C, dx, _, rfl, (upd_ne (ne_of_none upd_same hi)).trans upd_same, R.cl, R.nI, by show 1 < 1000; decide, ?_⟩⟩
  refine ⟨small1 (by show 0 ≤ 8; decide), fun o ho => ⟨_, rfl, p, C, dx, _, rfl, (upd_ne (ne_of_none upd_same ho)).trans upd_same, R.cl, R.nO, by show 2 < 1000; decide, ?_⟩⟩
  refine fun d hd => ⟨_, rfl, p, C, dx, _, rfl, (upd_ne (ne_of_none upd_same hd)).trans upd_same, R.cl, R.nP, by show 3 < 1000; decide, ?_⟩
  refine fun dw hw => ⟨_, rfl, p, C, dx, _, rfl, (upd_ne (ne_of_none upd_same hw)).trans upd_same, R.cl, R.nW, by show 4 < 1000; decide, ?_⟩
  refine ⟨_, rfl, p, C, dx, _, rfl, upd_same, R.cl, R.nD, by show 5 < 1000; decide, ?_⟩
  refine ⟨_, rfl, _, rfl, p, C, dx, _, rfl, upd_same, R.cl, R.nA, by show 6 < 1000; decide, ?_⟩
  refine ⟨_, rfl, _, rfl, p, C, dx, _, rfl, upd_same, R.cl, R.nB, by show 7 < 1000; decide, ?_⟩
  have npd : d ≠ p := (ne_of_none upd_same hd).symm
  have npw : dw ≠ p := (ne_of_none upd_same hw).symm
  have X1 := SameX.put (a := p) (H := H) (o := .ins C dx [("name", .non)])
  have X2 := X1.trans ((SameX.of (upd_new (o := HO.tup []) hi)).trans (SameX.put (o := .ins C dx [("name", .non), ("inputs", .ref i)])))
  have X3 := X2.trans ((SameX.of (upd_new (o := HO.tup []) ho)).trans (SameX.put (o := .ins C dx [("name", .non), ("inputs", .ref i), ("outputs", .ref o)])))
  have X4 := X3.trans ((SameX.of (upd_new (o := HO.dK []) hd)).trans (SameX.put (o := .ins C dx [("name", .non), ("inputs", .ref i), ("outputs", .ref o), ("parts", .ref d)])))
  have X5 := X4.trans (SameX.of (upd_new (o := HO.dT []) hw))
  have free : ∀ {H1 H2 : Hp} {b : Addr}, SameX p H1 H2 → b ≠ p → H2 b = none → H1 b = none := fun {H1 H2 b} x n e => by
    cases z : H1 b with
    | none => rfl
    | some u => rw [x b u n z] at e; cases e
  refine k d dw _ (X5.trans (SameX.put.trans (SameX.put.trans (SameX.put.trans SameX.put)))) ⟨dx, .non, i, o, upd_same, ?_, ?_, rfl, Nat.zero_le _⟩ (free X3 npd hd) (free X4 npw hw)
  · show (upd _ _ _) d = _
    have nd : d ≠ dw := ne_of_none ((upd_ne npd).trans upd_same) hw
    rw [upd_ne npd, upd_ne npd, upd_ne npd, upd_ne npd, upd_ne nd, upd_ne npd, upd_same]
    rfl
  · refine ⟨[], rfl, ?_, fun j w a e _ => by cases e⟩
    rw [upd_ne npw, upd_ne npw, upd_ne npw, upd_ne npw, upd_same]
    rfl
end
end K5
namespace K5
open PySem L2 Own StX ClX NdefX
abbrev sErr : Stmt := inClass (top 2) 0
abbrev sStr : Stmt := inClass (top 26) 6
/-- InvalidText: its class at CI, its __init__ at fI -/
structure ErrC (K : PySem.W.Frag) (mg : Str → Option Value) (CI fI : Addr) : Prop where
  ox : OexC K CI
  ini : PySem.W.findIn K (.ref CI) "__init__" = some (some (.ref fI))
  ty : PySem.W.typeIn K (.ref fI) = some (.type "function")
  row : PySem.W.findIn K (.ref CI) "row" = some none
  m : mg "InvalidText" = some (.ref CI)
def spErr (K : PySem.W.Frag) (CI : Addr) : Sp := fun vs H Q _ => ∃ (a : Addr) (r : Int), vs = [.ref a, .int r] ∧ H a = some (exo a CI none) ∧ ∀ dx, H dx = none → dx ≠ a → Q .non (upd (upd H dx (exd dx [("row", .int r)])) a (exo a CI (some dx)))
def spStr (K : PySem.W.Frag) (C : Addr) : Sp := fun vs H Q _ => ∃ (y : Addr) (n : Str) (ins outs : List Str) (ps : List (Str × Str)) (ws : List (Port × Port)), vs = [.ref y] ∧ DgAt K C H y n ins outs ps ws ∧ DSm n ins outs ps ws ∧ ∀ H', Same H H' → Q (.str (Txt.join "\n" (rowsT n ins outs ps ws))) H'
section
variable {P : Program} {w : World} {K : PySem.W.Frag} {mg : Str → Option Value} {base : Heap} {C CR CI : Addr}
theorem scEr : FnScope ["self", "row"] ["self", "row"] (defScope sErr) := ⟨rfl, rfl, rfl, by decide +kernel, rfl, by decide +kernel, by decide +kernel⟩
theorem ok_err {f fI : Addr} {fd : FuncData} (F : Fun K "__init__" "InvalidText.__init__" sErr f fd) (T : ErrC K mg CI fI) : FnOk P w K mg base CX0 1 f fd ["self", "row"] (spErr K CI) := by
  refine F.ok scEr (fun vs H Q E h => ?_) (fun cdv A outer s H vs Q E hr h => ?_)
  · obtain ⟨a, r, rfl, _⟩ := h
    rfl
  obtain ⟨a, r, rfl, ha, k⟩ := h
  refine ⟨_, pss_one (ps_ost (pv 0) (pv 1)), ?_⟩
  exact ⟨_, rfl, _, rfl, a, CI, rfl, T.ox, T.row, .inl ⟨ha, fun dx h1 h2 => k dx h1 h2⟩⟩
theorem scSt : FnScope ["self"] ["self"] (defScope sStr) := ⟨rfl, rfl, rfl, by decide +kernel, rfl, by decide +kernel, by decide +kernel⟩
theorem ok_str {f fR : Addr} {fd fdR : FuncData} (F : Fun K "__str__" "Diagram.__str__" sStr f fd) (T : DgC K mg C) (GR : FnOk P w K mg base CX0 2 fR fdR ["name", "inputs", "outputs", "parts", "wires"] (spRows K)) (mR : mg "diagram_rows" = some (.ref fR)) (kR : PySem.W.keepIn K (.ref fR) = true) (bR : Binds K fdR ["name", "inputs", "outputs", "parts", "wires"] []) :
    FnOk P w K mg base CX0 3 f fd ["self"] (spStr K C) := by
  refine F.ok scSt (fun vs H Q E h => ?_) (fun cdv A outer s H vs Q E hr h => ?_)
  · obtain ⟨y, n, ins, outs, ps, ws, rfl, _⟩ := h
    rfl
  obtain ⟨y, n, ins, outs, ps, ws, rfl, hy, hd, k⟩ := h
  obtain ⟨dx, i, o, pa, wa, as, bs, h1, h2, h3, h4, h5, h6, h7⟩ := hy
  refine ⟨_, pss_one (ps_ret (pe_join pe_str (pe_call GR hr rfl mR kR bR .nil pass0 (pa_cons (pe_fld (pv 0) rfl) (pa_cons (pe_fld (pv 0) rfl) (pa_cons (pe_fld (pv 0) rfl) (pa_cons (pe_fld (pv 0) rfl) (pa_cons (pe_fld (pv 0) rfl) pa_nil)))))))), ?_⟩
  refine ⟨⟨_, rfl⟩, _, rfl, y, C, dx, _, _, rfl, h1, T.cl, T.nN, rfl, _, rfl, y, C, dx, _, _, rfl, h1, T.cl, T.nI, rfl, _, rfl, y, C, dx, _, _, rfl, h1, T.cl, T.nO, rfl, _, rfl, y, C, dx, _, _, rfl, h1, T.cl, T.nP, rfl, _, rfl, y, C, dx, _, _, rfl, h1, T.cl, T.nW, rfl, ?_⟩
  refine ⟨n, i, o, pa, wa, ins, outs, as, bs, ps, ws, rfl, h2, h3, .of h4, h5, .of h6, h7, hd, fun L H1 s1 hL => ⟨"\n", L, _, rfl, rfl, .inl (.of hL), ?_, k H1 s1⟩⟩
  have := rowsT_len hd
  rw [show (("\n" : Str)).length = 1 by decide +kernel]
  omega
abbrev nOf : List Str := ["cls", "reader", "parts", "part"]
theorem scOf : FnScope nOf ["cls", "reader"] (defScope sOfR) := ⟨rfl, rfl, rfl, by decide +kernel, rfl, by decide +kernel, by decide +kernel⟩
theorem ok_of {f fI : Addr} {fd : FuncData} (F : Fun K "of_reader" "Diagram.of_reader" sOfR f fd) (R : RdC P w K mg base CR) (M : Mk K C fI) (GI : FnR P w K mg base CX0 2 fI (spDI K C)) : FnOk P w K mg base CX0 4 f fd ["cls", "reader"] (spOf K CR C) := by
  refine F.ok scOf (fun vs H Q E h => ?_) (fun cdv A outer s H vs Q E hr h => ?_)
  · obtain ⟨p, d, dw, st, n, ins, outs, rfl, _⟩ := h
    rfl
  obtain ⟨p, d, dw, st, n, ins, outs, rfl, hR, hI, hh, hwl, k⟩ := h
  have hu1 := Nat.lt_of_le_of_lt (Nat.add_le_add_left (show 1 ≤ 64 by decide) _) hr.units
  refine ⟨_, pss_cons (ps_lock (by exact (ps_setLc (i := 2) (own := [("part", 3)]) (g := gName 3) (te := tTup (tCons (tVar 3) (tCons (tDGet (tFld K (tVar 1) "parts") (tVar 3)) tNil))) rfl scOf.nd rfl rfl (sw_true rfl rfl rfl (by decide +kernel)) (pi_keys (pe_fld (pv 1) rfl)) (blkOk_by (own := [("part", 3)]) (N := nOf) (sc := defScope sOfR) (by decide +kernel)) (fun _ _ _ _ _ => pg_name (i := 3) scOf.nd rfl (Or.inl rfl)) (fun _ _ _ _ _ => pts_nil)
      (fun _ _ _ _ _ => by exact (pe_tup (pa_cons (pv 3) (pa_cons (pe_dget hu1 (pe_fld (pv 1) rfl) (pv 3) (fun _ _ => rfl)) pa_nil)))))))
    (pss_one (ps_ret (pe_makeL (i := 0) M GI hr rfl (.inl rfl) pass0 (pa_cons (pe_fld (pv 1) rfl) (pa_cons (pe_fld (pv 1) rfl) (pa_cons (pe_fld (pv 1) rfl) (pa_cons (pv 2) (pa_cons (pe_fld (pv 1) rfl) pa_nil)))))))), ?_⟩
  obtain ⟨dx, nm, i, o, hp, hP, hW, hH, h16⟩ := hR
  obtain ⟨hd0, ps, ws, dn⟩ := st
  dsimp only at hp hP hW hH h16 hwl hh k
  subst hh
  obtain ⟨rfl, hi, ho⟩ := hH
  have hok := rinv_ok hI rfl h16 hwl
  have hP' : H d = some (.dK (ps.map fun p => (Sum.inr p.1, V.str p.2))) := hP
  have npd : p ≠ d := fun z => by rw [z, hP'] at hp; cases hp
  have hkl : (ps.map fun p => ((Sum.inr p.1 : Key), V.str p.2)).length = ps.length := List.length_map _
  refine ⟨d, _, hP', trivial, fun oe => ⟨_, rfl, p, CR, dx, _, _, rfl, (upd_ne npd).trans hp, R.cl, R.nP, rfl, d, oe, rfl, .inl ⟨_, upd_same, fun D hD => ?_⟩⟩⟩
  have nDd : D ≠ d := fun z => by rw [z, upd_same] at hD; cases hD
  have hD0 : H D = none := by
    rw [upd_ne nDd] at hD
    exact hD
  refine out_it walk_keys (fun j H' => (∀ b z, b ≠ d → H b = some z → H' b = some z) ∧ H' d = some (.frz oe (.dK (ps.map fun p => (Sum.inr p.1, V.str p.2)))) ∧ ∃ bs : List Addr, H' D = some (.lst (bs.map V.ref)) ∧ PairsAt H' bs (ps.take j))
    ⟨fun b z n e => (upd_ne (ne_of_none e hD0)).trans ((upd_ne n).trans e), (upd_ne nDd.symm).trans upd_same, [], upd_same, rfl, fun i a p e _ => by cases e⟩ (fun j H' _ q => q.2.1) ?_ ?_
  · rintro j x H1 H2 hj ⟨s1, hf1, bs, hD1, hb1⟩ ⟨rfl, kk, v, hk, rfl⟩
    rw [List.getElem?_map] at hk
    obtain ⟨q, hq, hk⟩ := Option.map_eq_some_iff.mp hk
    cases hk
    refine ⟨rfl, _, rfl, _, rfl, p, CR, dx, _, _, rfl, s1 _ _ npd hp, R.cl, R.nP, rfl, _, rfl, d, .str q.2, rfl, .inl ⟨_, Sum.inr q.1, .inr ⟨oe, hf1⟩, rfl, (val_part ps hI.nd j q hq).symm⟩, small1 (by show 2 ≤ 8; decide), fun t ht => ⟨_, (upd_ne (ne_of_none hD1 ht)).trans hD1, ?_, ?_, ?_, bs ++ [t], ?_, ?_⟩⟩
    · rw [List.length_map, hb1.1, List.length_take]
      exact Nat.lt_of_le_of_lt (Nat.le_trans (Nat.min_le_right _ _) h16) (by rw [sizeLine_eq]; decide)
    · exact fun b z n e => (upd_ne (ne_of_none e hD0)).trans ((upd_ne (ne_of_none (s1 b z n e) ht)).trans (s1 b z n e))
    · exact (upd_ne nDd.symm).trans ((upd_ne (ne_of_none hf1 ht)).trans hf1)
    · rw [upd_same, List.map_append]
      rfl
    · rw [tk1 hq]
      refine PairsAt.snoc (hb1.keep fun b us e => ?_) ?_
      · have nb : b ≠ D := fun z => by rw [z, hD1] at e; cases e
        exact (upd_ne nb).trans ((upd_ne (ne_of_none e ht)).trans e)
      · exact (upd_ne (ne_of_none hD1 ht).symm).trans upd_same
  rintro H1 ⟨s1, hf1, bs, hD1, hb1⟩
  rw [hkl, List.take_length] at hb1
  refine ⟨hf1, ?_⟩
  have S2 : Same H (upd H1 d (.dK (ps.map fun p => (Sum.inr p.1, V.str p.2)))) := fun b z e => by
    by_cases hb : b = d
    · rw [hb] at e ⊢
      rw [upd_same, ← e, hP']
    · exact (upd_ne hb).trans (s1 b z hb e)
  have hD2 : (upd H1 d (.dK (ps.map fun p => (Sum.inr p.1, V.str p.2)))) D = some (.lst (bs.map V.ref)) := (upd_ne nDd).trans hD1
  have hb2 : PairsAt (upd H1 d (.dK (ps.map fun p => (Sum.inr p.1, V.str p.2)))) bs ps := hb1.keep fun b us e => by
    have nb : b ≠ d := fun z => by rw [z, hf1] at e; cases e
    exact (upd_ne nb).trans e
  generalize upd H1 d (.dK (ps.map fun p => (Sum.inr p.1, V.str p.2))) = H2 at S2 hD2 hb2 ⊢
  have hp2 := S2 _ _ hp
  refine ⟨rfl, _, rfl, p, CR, dx, _, _, rfl, hp2, R.cl, R.nN, rfl, _, rfl, p, CR, dx, _, _, rfl, hp2, R.cl, R.nI, rfl, _, rfl, p, CR, dx, _, _, rfl, hp2, R.cl, R.nO, rfl, _, rfl, _, rfl, p, CR, dx, _, _, rfl, hp2, R.cl, R.nW, rfl, fun y dy hy hdy hne => ?_⟩
  have S3 : Same H2 (upd (upd H2 dy (.own y)) y (.ins C dy [])) := same_put (upd_new hdy) hy
  refine ⟨y, dy, i, o, D, dw, n, outs, bs, ps, ws, rfl, upd_same, sqT_same (S2.trans S3) ho, .of (S3 _ _ hD2), hb2.same S3, (hW.same S2).same S3, hok, fun pa wa cs H' X hy' hpa hps' hwa hws => ⟨rfl, ?_⟩⟩
  have S4 : Same H2 H' := fun b z e => X _ _ (ne_of_none e hy) (S3 _ _ e)
  exact k y H' (S2.trans S4) (S2.free hy) ⟨dy, i, o, pa, wa, bs, cs, hy', sqT_same (S2.trans S4) hi, sqT_same (S2.trans S4) ho, hpa, hps', hwa, hws⟩
end
end K5
namespace K5
open PySem L2 Own StX ClX NdefX
abbrev sParse : Stmt := inClass (top 26) 3
/-- a reader over rows: the number of the first wrong one, or the state at the end -/
def run (st : RS) (k : Nat) : List Str → Nat ⊕ RS
  | [] => if st.done = true then .inr st else .inl k
  | r :: rs => match step st r with
    | none => .inl k
    | some st' => run st' (k + 1) rs
def spParse (K : PySem.W.Frag) (CR C CI : Addr) : Sp := fun vs H Q E => ∃ (x : Str), vs = [.ref C, .str x] ∧ x.length ≤ 16000000 ∧ (Txt.split x "\n").length ≤ 20000 ∧ (∀ r ∈ Txt.split x "\n", r.length ≤ 190000) ∧
  (∀ k, run st0 0 (Txt.split x "\n") = .inl k → ∀ d H', Same H H' → H d = none → H' d = some (.xd [("row", .int (k : Nat))]) → E (.ref CI) (some d) H') ∧
  (∀ st n ins outs, run st0 0 (Txt.split x "\n") = .inr st → st.head = some (n, ins, outs) → DSm n ins outs st.parts (wiresOf st.parts outs st.wires) → ∀ y H', Same H H' → H y = none → DgAt K C H' y n ins outs st.parts (wiresOf st.parts outs st.wires) → Q (.ref y) H')
section
variable {P : Program} {w : World} {K : PySem.W.Frag} {mg : Str → Option Value} {base : Heap} {C CR CI : Addr}
abbrev nPa : List Str := ["cls", "text", "rows", "reader", "number", "row"]
theorem scPa : FnScope nPa ["cls", "text"] (defScope sParse) := ⟨rfl, rfl, rfl, by decide +kernel, rfl, by decide +kernel, by decide +kernel⟩
theorem ok_parse {f fT fI fE gO pO : Addr} {fd fdT fdI fdE : FuncData} {mc : Value} (F : Fun K "parse" "Diagram.parse" sParse f fd) (zl : mg "len" = none) (ze : mg "enumerate" = none) (R : RdC P w K mg base CR)
    (mT : Meth K CR "take" fT) (GT : FnOk P w K mg base CX0 5 fT fdT ["self", "row"] (spTake K CR)) (bT : Binds K fdT ["self", "row"] [])
    (M : Mk K CR fI) (GI : FnOk P w K mg base CX0 1 fI fdI ["self", "max_ports", "max_parts"] (spRI K CR)) (mR : mg "DiagramReader" = some (.ref CR)) (bI : Binds K fdI ["self", "max_ports", "max_parts"] [])
    (cr : CRead K C mc) (v8 : ∃ u, CVal K C mc "MAX_PORTS" (.int 8) u) (v16 : ∃ u, CVal K C mc "MAX_PARTS" (.int 16) u) (cm : CMet K C mc "of_reader" pO gO) (GO : FnR P w K mg base CX0 4 gO (spOf K CR C))
    (Er : ErrC K mg CI fE) (GE : FnOk P w K mg base CX0 1 fE fdE ["self", "row"] (spErr K CI)) (bE : Binds K fdE ["self", "row"] []) : FnOk P w K mg base (L2.CX P w) 6 f fd ["cls", "text"] (spParse K CR C CI) := by
  refine F.okX scPa (fun vs H Q E h => ?_) (fun cdv A outer s H vs Q E hr h => ?_)
  · obtain ⟨x, rfl, _⟩ := h
    rfl
  obtain ⟨x, rfl, hx, hrl, hrr, kE, kS⟩ := h
  obtain ⟨u8, v8⟩ := v8
  obtain ⟨u16, v16⟩ := v16
  refine ⟨_, pss_cons (ps_set (i := 2) scPa.nd rfl (.inl rfl) (pe_split (pv 1) pe_str))
    (pss_cons (ps_set (i := 3) scPa.nd rfl (.inl rfl) (pe_make M GI (hr.mono (by decide)) rfl mR bI .nil pass0 (pa_cons (pe_cval (pv 0)) (pa_cons (pe_cval (pv 0)) pa_nil))))
    (pss_cons (ps_for (passes_of rfl) rfl (pi_enum (by rfl) ze (pa_cons (pv 2) pa_nil)) (pg_tup (by rfl) (pgs_cons (pg_name (i := 4) scPa.nd rfl (.inl rfl)) (pgs_cons (pg_name (i := 5) scPa.nd rfl (.inl rfl)) pgs_nil)))
      (pss_one (ps_if (pt_not (pt_val (pe_meth (pv 3) R.cl mT GT hr bT .nil pass0 (pa_cons (pv 5) pa_nil)))) (pss_one (ps_raise rfl (takes_of rfl rfl rfl rfl) (pmk_oex Er.ox Er.ini Er.ty GE (hr.mono (by decide)) bE .nil pass0 rfl Er.m (pa_cons (pv 4) pa_nil)))) pss_nil)))
    (pss_cons (ps_if (pt_not (pt_val (pe_fld (pv 3) rfl))) (pss_one (ps_raise rfl (takes_of rfl rfl rfl rfl) (pmk_oex Er.ox Er.ini Er.ty GE (hr.mono (by decide)) bE .nil pass0 rfl Er.m (pa_cons (pe_callB call_len_seq (by rfl) zl PySem.boot_len (pa_cons (pv 2) pa_nil)) pa_nil)))) pss_nil)
    (pss_one (ps_ret (pe_cmeth (pv 0) cr cm GO (hr.mono (by decide)) pass0 (pa_cons (pv 3) pa_nil))))))), ?_⟩
  have sz : ∀ {n : Nat}, n ≤ 16000100 → n ≤ sizeLine := fun h => by rw [sizeLine_eq]; omega
  refine ⟨_, rfl, ⟨_, rfl⟩, _, _, rfl, rfl, by decide +kernel, sz (by omega), fun rl hrl0 => ?_⟩
  have s1 := upd_new (o := HO.lst ((Txt.split x "\n").map V.str)) hrl0
  have hl1 : upd H rl (HO.lst ((Txt.split x "\n").map V.str)) rl = some (.lst ((Txt.split x "\n").map V.str)) := upd_same
  generalize upd H rl (HO.lst ((Txt.split x "\n").map V.str)) = H1 at s1 hl1 ⊢
  generalize Txt.split x "\n" = rows at *
  refine ⟨_, rfl, C, mc, .int 8, u8, rfl, cr, v8, _, rfl, C, mc, .int 16, u16, rfl, cr, v16, fun p dx hp hdx hne => ?_⟩
  have S2 : Same H1 (upd (upd H1 dx (.own p)) p (.ins CR dx [])) := same_put (upd_new hdx) hp
  refine ⟨p, dx, rfl, upd_same, fun d dw H2 X2 hR hd0 hw0 => ⟨rfl, ?_⟩⟩
  have s2 : Same H1 H2 := fun b z e => X2 _ _ (ne_of_none e hp) (S2 _ _ e)
  have fd0 : H1 d = none := S2.free hd0
  have fw0 : H1 dw = none := S2.free hw0
  -- the rows
  refine ⟨_, rfl, rl, rows.map V.str, rfl, .of (s2 _ _ hl1), ?_⟩
  refine for_it (walk_enum (xs := rows.map V.str)) (fun i σ H' => ∃ (u v : Option V) (st : RS), σ = [some (.ref C), some (.str x), some (.ref rl), some (.ref p), u, v] ∧ Same H1 H' ∧ RdAt K CR H' p d dw st ∧ RInv st ∧ st.wires.length ≤ i ∧ run st0 0 rows = run st i (rows.drop i))
    ⟨none, none, st0, rfl, s2, hR, rinv0, Nat.le_refl _, rfl⟩ (fun i σ H' _ q => ?_) ?turn1 ?done1
  · obtain ⟨_, _, _, _, z, _⟩ := q
    exact .of (z _ _ hl1)
  case turn1 =>
    rintro i z σ H3 H4 hi ⟨u, v, st, rfl, s3, hR3, hI3, hw3, hrun⟩ ⟨T, a, b, rfl, hT, rfl, ea, eb⟩
    cases ea
    have eb : (rows.map V.str)[i]? = some b := eb
    rw [List.getElem?_map] at eb
    obtain ⟨row, hrow, rfl⟩ := Option.map_eq_some_iff.mp eb
    have hdrop : rows.drop i = row :: rows.drop (i + 1) := by
      obtain ⟨hlt, hget⟩ := List.getElem?_eq_some_iff.mp hrow
      rw [← hget]
      exact List.drop_eq_getElem_cons hlt
    have hrow8 := hrr row (List.mem_of_getElem? hrow)
    have hilt : i < rows.length := (List.getElem?_eq_some_iff.mp hrow).1
    have st4 := upd_new (o := HO.tup [V.int (i : Nat), .str row]) hT
    refine ⟨T, _, rfl, .of upd_same, rfl, _, _, rfl, _, _, rfl, rfl, ?_⟩
    generalize upd H3 T (HO.tup [V.int (i : Nat), .str row]) = H4 at st4 ⊢
    have hR4 : RdAt K CR H4 p d dw st := by
      obtain ⟨dx, nm, i, o, h1, h2, h3, h4, h5⟩ := hR3
      refine ⟨dx, nm, i, o, st4 _ _ h1, st4 _ _ h2, h3.same st4, ?_, h5⟩
      cases hh : st.head with
      | none => rw [hh] at h4; exact h4
      | some r =>
        rw [hh] at h4
        obtain ⟨n, ins, outs⟩ := r
        exact ⟨h4.1, sqT_same st4 h4.2.1, sqT_same st4 h4.2.2⟩
    have hpi := hR4
    obtain ⟨dx3, nm3, i3, o3, hp4, _⟩ := hpi
    refine ⟨_, rfl, p, dx3, _, rfl, hp4, rfl, _, rfl, ?_⟩
    dsimp only [tNil, List.append_nil]
    refine ⟨p, d, dw, row, st, rfl, hR4, by omega, hrow8, fun e H5 s5 => ⟨_, rfl, ?_⟩, fun st' e H5 s5 hR5 => ⟨_, rfl, ?_⟩⟩
    · refine iteT ⟨_, rfl, by show 1 ≤ 1000; decide, fun a ha => ⟨a, (i : Nat), rfl, upd_same, fun dx h1 h2 => ?_⟩⟩
      have hdx : H5 dx = none := by rw [← h1, upd_ne h2]
      have s15 := s1.trans (s3.trans (st4.trans s5))
      refine ⟨rfl, dx, _, upd_same, by rw [upd_ne h2]; exact upd_same, hdx, kE i (by rw [hrun, hdrop]; unfold run; rw [e]) dx _ (fun b u q => ?_) (s15.free hdx) upd_same⟩
      have e1 := s15 b u q
      have hb := ne_of_none e1 ha
      have hd := ne_of_none e1 hdx
      rw [upd_ne hd, del_ne hb, upd_ne hb, upd_ne hd, upd_ne hb]
      exact e1
    · obtain ⟨hI5, hw5⟩ := step_inv hI3 hrow8 e
      refine iteF ⟨_, _, st', rfl, fun b u q => ?_, hR5, hI5, by omega, by rw [hrun, hdrop]; show (match step st row with | none => _ | some st' => _) = _; rw [e]⟩
      have e4 := st4 _ _ (s3 b u q)
      exact s5 b u (ne_of_none q hp) (ne_of_none q fd0) (ne_of_none q fw0) e4
  rintro σ H3 ⟨u, v, st, rfl, s3, hR3, hI3, hw3, hrun⟩
  rw [List.length_map] at hw3 hrun
  rw [List.drop_length] at hrun
  have hpi := hR3
  obtain ⟨dx3, nm3, i3, o3, hp3, _, _, _, h16⟩ := hpi
  refine ⟨_, rfl, p, CR, dx3, _, _, rfl, hp3, R.cl, R.nD, rfl, _, rfl, ?_⟩
  cases hdn : st.done with
  | false =>
    refine iteT ⟨_, rfl, rl, _, rfl, .inl (.of (s3 _ _ hl1)), by show 1 ≤ 1000; decide, fun a ha => ⟨a, (rows.length : Nat), by rw [List.length_map]; rfl, upd_same, fun dx h1 h2 => ?_⟩⟩
    have hdx : H3 dx = none := by rw [← h1, upd_ne h2]
    have s13 := s1.trans s3
    refine ⟨rfl, dx, _, upd_same, by rw [upd_ne h2]; exact upd_same, hdx, kE rows.length (by rw [hrun]; unfold run; rw [hdn]; rfl) dx _ (fun b u q => ?_) (s13.free hdx) upd_same⟩
    have e1 := s13 b u q
    have hb := ne_of_none e1 ha
    have hd := ne_of_none e1 hdx
    rw [upd_ne hd, del_ne hb, upd_ne hb, upd_ne hd, upd_ne hb]
    exact e1
  | true =>
    obtain ⟨⟨n, ins, outs⟩, hh⟩ : ∃ r, st.head = some r := by
      cases hh : st.head with
      | none =>
        have := (hI3.h0 hh).2.2
        rw [hdn] at this
        cases this
      | some r => exact ⟨r, rfl⟩
    refine iteF ⟨_, rfl, rfl, _, rfl, p, d, dw, st, n, ins, outs, rfl, hR3, hI3, hh, by omega, fun y H4 s4 hy hD => ?_⟩
    exact kS st n ins outs (by rw [hrun]; unfold run; rw [hdn]; rfl) hh (rinv_sm hI3 hh h16 (by omega)) y H4 ((s1.trans s3).trans s4) ((s1.trans s3).free hy) hD
end
end K5
/-! OwnJ: sep.join(a text). -/
namespace Own
open PySem PySem.Spec PyProof.Rows L2
theorem strs_by : ∀ (vs : List Value) (ys : List Str), vs.length = ys.length → (∀ (i : Nat) (v : Value), vs[i]? = some v → ∃ (y : Str) (t : Tok), ys[i]? = some y ∧ v = .str y t) → StrsAre vs ys
  | [], [], _, _ => .nil
  | [], _ :: _, h, _ => by cases h
  | _ :: _, [], h, _ => by cases h
  | v :: vs, y :: ys, h, k => by
    obtain ⟨z, t, e1, e2⟩ := k 0 v rfl
    cases e1
    subst e2
    exact .cons y t (strs_by vs ys (Nat.succ.inj h) fun i v e => k (i + 1) v e)
def signsOf (y : Str) : List Str := y.cps.toList.map fun c => ⟨#[c]⟩
section
variable {prog : Program} {w : World} {A : Around} {E : Value → Shared → Prop} {s : Shared}
theorem join_signs {x y : Str} {t u : Tok} {Q : Value → Shared → Prop} (hh : A.handled = none) (hy : y.cps.size ≤ sizeLine) (hok : ((signsOf y).map (·.length)).sum + (signsOf y).length * x.length ≤ 16777216)
    (hq : ∀ s' : Shared, (∀ b o, s.heap.get? b = some o → s'.heap.get? b = some o) → s'.gens = s.gens → s'.drawn = s.drawn → s'.os = s.os → ∀ t' k, Q (.str (Txt.join x (signsOf y)) t') { s' with toks := k }) :
    wpAny (model prog w) A (call (.builtin "str.join") [.str x t, .str y u]) Q E s := by
  refine wpAny_call (codeAny_call_builtin F.slot_str_join.plain F.entry_str_join (F.slot_str_join.check _ _ _ _ _ _ _ _ (typeIs_str _ _ _) (F.args_str_join_2 _ _) ?_))
  show wpAny _ A.in1 (typeOf (.str y u) >>= fun ty => _) _ _ s
  refine wpAny_bind (wpAny_typeOf (T := "str") (v := .str y u) rfl ?_)
  show wpAny _ A.in1 ((pyIter (.str y u)).tryCatch _ >>= fun it => collect it >>= fun items => joinTail x items) _ _ s
  refine wpAny_bind (wpAny_tryCatch (wpAny_pyIter_strU ?_))
  have hI : ({ s with heap := s.heap.push { cls := .type (strIterType y), data := .fields #[.str y u, .int 0 0] } } : Shared).heap.IsStrIter s.heap.objs.size (strIterType y) y u 0 := ⟨_, Heap.get?_push_size _ rfl, rfl, rfl⟩
  have hT : strIterType y = "str_ascii_iterator" ∨ strIterType y = "str_iterator" := by
    unfold strIterType
    split
    · exact .inl rfl
    · exact .inr rfl
  refine wpAny_bind (wpAny_collect_strIter hh hT hI (fun s' acc k1 k2 k3 k4 items => ?_) hy)
  have hS : StrsAre acc.toList (signsOf y) := by
    refine strs_by _ _ ?_ fun i v e => ?_
    · unfold signsOf
      rw [List.length_map, Array.length_toList, Array.length_toList, items.1]
    · obtain ⟨c, q, e1, e2⟩ := items.2 i v (by rw [← Array.getElem?_toList]; exact e)
      refine ⟨⟨#[c]⟩, q, ?_, e2⟩
      unfold signsOf
      rw [List.getElem?_map, Array.getElem?_toList, e1]
      rfl
  obtain ⟨l, hl, ht⟩ := strsAre_values hS
  rw [hl]
  rw [← ht] at hok hq
  have ok := joinOk_of hok
  unfold JoinOk at ok
  rw [Bool.not_eq_true'] at ok
  have g : Gives (joinTail x (strValues l)) (joinMade x l) := by
    have z := gives_joinTail x l ok
    cases l with
    | nil => exact z
    | cons p r =>
      cases r with
      | nil => exact z
      | cons q r => exact z
  refine g prog w A (wants Q E) s' (post_join l ⟨joinFit_length ok, hq s' (fun b o e => k1 b o (Nat.ne_of_lt (Heap.lt_size e)) (Heap.get?_push_of_some _ e)) k2 k3 k4⟩)
end
/-- sep.join(y), y a text -/
theorem mt_joinS {X : Cx} (hh : X.A.handled = none) : MtR X "str.join" (fun x xs H Q => ∃ a y : Str, x = .str a ∧ xs = [.str y] ∧ y.cps.size ≤ 1000 ∧ a.length ≤ 1000 ∧ Q (.str (Txt.join a (signsOf y))) H) := by
  intro pins s σ H x xs v us Q I rx rs h
  obtain ⟨a, y, rfl, rfl, hy, ha, q⟩ := h
  obtain ⟨t, rfl⟩ := rx
  cases rs with
  | cons r1 rs =>
    cases rs
    obtain ⟨u, rfl⟩ := r1
    have hl : (signsOf y).length = y.cps.size := by unfold signsOf; rw [List.length_map, Array.length_toList]
    have hs : ((signsOf y).map (·.length)).sum ≤ (signsOf y).length * 1 := by
      unfold signsOf
      generalize y.cps.toList = l
      induction l with
      | nil => exact Nat.zero_le _
      | cons c r ih =>
        simp only [List.map_cons, List.sum_cons, List.length_cons]
        have : ((⟨#[c]⟩ : Str)).length = 1 := rfl
        omega
    refine join_signs hh (by rw [sizeLine_eq]; omega) ?_ fun s' k1 k2 k3 k4 t' k => ?_
    · have := Nat.mul_le_mul (show (signsOf y).length ≤ 1000 by omega) ha
      omega
    · obtain ⟨h', g', d', n', o'⟩ := s'
      have e2 : g' = s.gens := k2
      have e3 : d' = s.drawn := k3
      have e4 : o' = s.os := k4
      subst e2
      subst e3
      subst e4
      exact ⟨.str _, H, I.kept (t' := k) k1, ⟨t', rfl⟩, q⟩
theorem pe_joinS {X : Cx} {o e : Expr} {to te : TE} {apos pos : Pos} (hh : X.A.handled = none) (ho : PE X o to) (he : PE X e te) (hs : starEach [e] X.env = [(false, eval e X.env)] := by rfl) (hbase : attributeBase o "join" X.env (eval o X.env) = eval o X.env := by rfl) (hline : (apos.endLine == pos.line) = true := by rfl) :
    PE X (.Call (.Attribute o "join" apos) [e] [] pos) (tM1 (fun x xs H Q => ∃ a y : Str, x = .str a ∧ xs = [.str y] ∧ y.cps.size ≤ 1000 ∧ a.length ≤ 1000 ∧ Q (.str (Txt.join a (signsOf y))) H) to te) :=
  pe_m1 F.slot_str_join F.type_str_join (mt_joinS hh) ho he hs hbase hline
end Own
namespace K5
open PySem L2 Own StX ClX NdefX
theorem app3 (a b c : Str) : a ++ b ++ c = a ++ (b ++ c) := TL.ext_tl (by rw [TL.tl_append, TL.tl_append, TL.tl_append, TL.tl_append, List.append_assoc])
theorem sub_take (x y : Str) : Builtin.Str.subAt x y 0 = decide (x.cps.toList.take y.length = y.cps.toList) := by
  have e : (x.cps.extract 0 (0 + y.length)).toList = x.cps.toList.take y.length := by simp
  rw [Bool.eq_iff_iff, decide_eq_true_eq, ← e]
  unfold Builtin.Str.subAt
  constructor
  · intro h
    exact congrArg Array.toList (eq_of_beq h)
  · intro h
    exact beq_iff_eq.mpr (Array.toList_inj.mp h)
theorem sub_app (a b : Str) : Builtin.Str.subAt (a ++ b) a 0 = true := by
  rw [sub_take, decide_eq_true_eq]
  have e : (a ++ b).cps.toList = a.cps.toList ++ b.cps.toList := TL.tl_append a b
  rw [e, List.take_append_of_le_length (by rw [Array.length_toList]; exact Nat.le_refl _)]
  rw [List.take_of_length_le (by rw [Array.length_toList]; exact Nat.le_refl _)]
theorem starts_app (a b : Str) : Txt.startswith (a ++ b) a = true := by
  unfold Txt.startswith
  rw [sub_app, Bool.and_true, decide_eq_true_eq, sl]
  omega
theorem rmp_app (a b : Str) : Txt.removeprefix (a ++ b) a = b := by
  rw [StrLaws.removeprefix_eq, sub_app, Bool.and_true, if_pos (by rw [decide_eq_true_eq, sl]; omega)]
  have e : (a ++ b).cps.toList = a.cps.toList ++ b.cps.toList := TL.tl_append a b
  have la : a.cps.toList.length = a.length := Array.length_toList
  have lb : b.cps.toList.length = b.length := Array.length_toList
  refine TL.ext_tl ?_
  show ((((a ++ b).cps.toList.drop a.length).take ((a ++ b).length - a.length)).toArray).toList = b.cps.toList
  rw [e, List.drop_append_of_le_length (by omega), sl, List.drop_of_length_le (by omega), List.nil_append, Nat.add_sub_cancel_left, List.take_of_length_le (by omega)]
theorem nm_tl {x : Str} (h : isNm x = true) {c : Nat} (hc : c ∈ TL.tl x) : 97 ≤ c ∧ c ≤ 122 := by
  unfold isNm at h
  rw [Bool.and_eq_true] at h
  have z := List.all_eq_true.mp h.2 c hc
  unfold isL at z
  rw [Bool.and_eq_true, decide_eq_true_eq, decide_eq_true_eq] at z
  exact z
theorem cut_at (s : Nat) : ∀ l : List Nat, s ∉ l ∨ ∃ p q, l = p ++ (s :: q) ∧ s ∉ p
  | [] => .inl (fun h => nomatch h)
  | c :: r => by
    by_cases hc : c = s
    · exact .inr ⟨[], r, by rw [hc]; rfl, fun h => nomatch h⟩
    · rcases cut_at s r with h | ⟨p, q, rfl, hp⟩
      · refine .inl fun hm => ?_
        rcases List.mem_cons.mp hm with z | z
        · exact hc z.symm
        · exact h z
      · refine .inr ⟨c :: p, q, rfl, fun hm => ?_⟩
        rcases List.mem_cons.mp hm with z | z
        · exact hc z.symm
        · exact hp z
theorem sp32 : (" " : Str) = SX.S [32] := by decide +kernel
/-- a text without a blank -/
theorem no_blank {x : Str} (h : 32 ∉ x.cps.toList) : Txt.split x " " = [x] ∧ Txt.partition x " " = (x, Str.empty, Str.empty) := by
  refine ⟨?_, TL.partition_none (s := 32) (S := []) (by decide +kernel) h⟩
  have e := SX.split_S (a := x.cps.toList) (b := [32]) (by simp) (by decide)
  rw [SX.S_tl, ← sp32] at e
  rw [e]
  have z := SX.spl_join (c := 32) (sep := []) (parts := [x.cps.toList]) (by simp) (fun p hp => by rw [List.mem_singleton] at hp; subst hp; exact h)
  have j : TL.joinL [32] [x.cps.toList] = x.cps.toList := rfl
  rw [j] at z
  rw [z]
  show [SX.S x.cps.toList] = [x]
  rw [SX.S_tl]
/-- a text with one -/
theorem one_blank {x : Str} (h : 32 ∈ x.cps.toList) : ∃ p q : Str, x = p ++ " " ++ q ∧ 32 ∉ p.cps.toList ∧ Txt.split x " " = p :: Txt.split q " " ∧ Txt.partition x " " = (p, (" " : Str), q) := by
  rcases cut_at 32 x.cps.toList with z | ⟨p, q, hpq, hp⟩
  · exact absurd h z
  have ex : x = SX.S p ++ " " ++ SX.S q := by
    rw [sp32, SX.S_cat, SX.S_cat, List.append_assoc]
    rw [← SX.S_tl x, hpq]
    rfl
  refine ⟨SX.S p, SX.S q, ex, hp, ?_, ?_⟩
  · have e := SX.split_S (a := x.cps.toList) (b := [32]) (by simp) (by decide)
    rw [SX.S_tl, ← sp32] at e
    have e2 := SX.split_S (a := q) (b := [32]) (by simp) (by decide)
    rw [← sp32] at e2
    rw [e, e2, hpq]
    have z := SX.spl_free (sep := [32]) (p := p) q (by simp) (SX.free_head hp)
    have j : p ++ ([32] ++ q) = p ++ (32 :: q) := rfl
    rw [j] at z
    rw [z]
    rfl
  · rw [ex]
    exact TL.partition_app (y := " ") (s := 32) (S := []) (by decide +kernel) hp
theorem split_ne (x : Str) : ∃ p r, Txt.split x " " = p :: r := by
  by_cases h : 32 ∈ x.cps.toList
  · obtain ⟨p, q, _, _, e, _⟩ := one_blank h
    exact ⟨p, _, e⟩
  · exact ⟨x, [], (no_blank h).1⟩
theorem split_one {x : Str} {p : Str} (h : Txt.split x " " = [p]) : p = x ∧ 32 ∉ x.cps.toList := by
  by_cases hx : 32 ∈ x.cps.toList
  · obtain ⟨a, q, _, _, e, _⟩ := one_blank hx
    obtain ⟨b, r, e2⟩ := split_ne q
    rw [e, e2] at h
    cases h
  · rw [(no_blank hx).1] at h
    cases h
    exact ⟨rfl, hx⟩
theorem readV_blank {x : Str} (h : 32 ∈ x.cps.toList) : readV x = none := by
  unfold readV
  rw [if_neg]
  unfold dig10
  intro z
  rw [Bool.and_eq_true] at z
  have q := List.all_eq_true.mp z.2 32 h
  revert q
  decide
theorem readV_empty : readV Str.empty = none := by decide +kernel
/-! ### the law's own check -/
def words7 : List Str := ["add", "sub", "mul", "less", "equal", "pick", "divide"]
theorem w9_w7 {z : Str} (h : ¬ (z = "const" ∨ z = "delay")) : z ∈ words9 ↔ z ∈ words7 := by
  simp only [words9, words7, List.mem_cons, List.not_mem_nil, or_false]
  constructor
  · intro q
    rcases q with q | q | q | q | q | q | q | q | q
    · exact absurd (.inl q) h
    · exact .inl q
    · exact .inr (.inl q)
    · exact .inr (.inr (.inl q))
    · exact .inr (.inr (.inr (.inl q)))
    · exact .inr (.inr (.inr (.inr (.inl q))))
    · exact .inr (.inr (.inr (.inr (.inr (.inl q)))))
    · exact .inr (.inr (.inr (.inr (.inr (.inr q)))))
    · exact absurd (.inr q) h
  · intro q
    rcases q with q | q | q | q | q | q | q
    · exact .inr (.inl q)
    · exact .inr (.inr (.inl q))
    · exact .inr (.inr (.inr (.inl q)))
    · exact .inr (.inr (.inr (.inr (.inl q))))
    · exact .inr (.inr (.inr (.inr (.inr (.inl q)))))
    · exact .inr (.inr (.inr (.inr (.inr (.inr (.inl q))))))
    · exact .inr (.inr (.inr (.inr (.inr (.inr (.inr (.inl q)))))))
theorem w7_free {z : Str} (h : z ∈ words7) : 32 ∉ z.cps.toList := by
  simp only [words7, List.mem_cons, List.not_mem_nil, or_false] at h
  rcases h with rfl | rfl | rfl | rfl | rfl | rfl | rfl <;> decide +kernel
theorem cd_w9 {z : Str} (h : z = "const" ∨ z = "delay") : z ∈ words9 := by rcases h with rfl | rfl <;> decide +kernel
/-- two words, the first one const or delay -/
theorem isP_two {x p q : Str} (h : Txt.split x " " = [p, q]) (hp : p = "const" ∨ p = "delay") : (readP x).isSome = (readV q).isSome := by
  have hx : 32 ∈ x.cps.toList := by
    by_cases hx : 32 ∈ x.cps.toList
    · exact hx
    · rw [(no_blank hx).1] at h
      cases h
  obtain ⟨a, b, _, _, e, e2⟩ := one_blank hx
  rw [h] at e
  injection e with e3 e4
  obtain ⟨rfl, _⟩ := split_one e4.symm
  unfold readP
  rw [e2, if_pos (by rw [← e3]; exact cd_w9 hp), if_pos (by rw [← e3]; exact hp)]
  cases readV q <;> rfl
/-- another number of words, the first one const or delay -/
theorem isP_other {x p : Str} {r : List Str} (h : Txt.split x " " = p :: r) (hr : r.length ≠ 1) (hp : p = "const" ∨ p = "delay") : (readP x).isSome = false := by
  by_cases hx : 32 ∈ x.cps.toList
  · obtain ⟨a, b, _, _, e, e2⟩ := one_blank hx
    rw [h] at e
    injection e with e3 e4
    have hb : 32 ∈ b.cps.toList := by
      by_cases hb : 32 ∈ b.cps.toList
      · exact hb
      · rw [(no_blank hb).1] at e4
        rw [e4] at hr
        exact absurd rfl hr
    unfold readP
    rw [e2, if_pos (by rw [← e3]; exact cd_w9 hp), if_pos (by rw [← e3]; exact hp)]
    show (Option.map _ (readV b)).isSome = false
    rw [readV_blank hb]
    rfl
  · obtain ⟨e, e2⟩ := no_blank hx
    rw [h] at e
    injection e with e3 e4
    unfold readP
    rw [e2, if_pos (by rw [← e3]; exact cd_w9 hp), if_pos (by rw [← e3]; exact hp)]
    show (Option.map _ (readV Str.empty)).isSome = false
    rw [readV_empty]
    rfl
/-- the first word neither -/
theorem isP_word {x p : Str} {r : List Str} (h : Txt.split x " " = p :: r) (hp : ¬ (p = "const" ∨ p = "delay")) : (readP x).isSome = decide (x ∈ words7) := by
  by_cases hx : 32 ∈ x.cps.toList
  · obtain ⟨a, b, _, _, e, e2⟩ := one_blank hx
    rw [h] at e
    injection e with e3 e4
    rw [decide_eq_false (fun z => w7_free z hx)]
    unfold readP
    rw [e2]
    by_cases hw : a ∈ words9
    · rw [if_pos hw, if_neg (by rw [← e3]; exact hp), if_neg]
      · rfl
      · show ¬ ((" " : Str)).length = 0
        decide +kernel
    · rw [if_neg hw]
      rfl
  · obtain ⟨e, e2⟩ := no_blank hx
    rw [h] at e
    injection e with e3 e4
    subst e3
    unfold readP
    rw [e2]
    by_cases hw : p ∈ words9
    · rw [if_pos hw, if_neg hp, if_pos (by rfl), decide_eq_true ((w9_w7 hp).mp hw)]
      rfl
    · rw [if_neg hw, decide_eq_false fun z => hw ((w9_w7 hp).mpr z)]
      rfl
/-! ### cuts of texts -/
theorem cut_to (z : Str) (n : Nat) (m : Int) (h : m = (n : Int)) : TL.tl (cutS z none (some m)) = (TL.tl z).take n := by
  subst h
  show ((z.cps.toList.drop (HT.sIx z.length 0 none)).take (HT.sIx z.length z.length (some (n : Int)) - HT.sIx z.length 0 none)) = z.cps.toList.take n
  rw [HT.sIx_nat, HT.sIx_none, List.drop_zero, Nat.sub_zero]
  have la : z.cps.toList.length = z.length := Array.length_toList
  rcases Nat.le_total n z.length with q | q
  · rw [Nat.min_eq_left q]
  · rw [Nat.min_eq_right q, List.take_of_length_le (by omega), List.take_of_length_le (by omega)]
theorem cut_from (z : Str) (n : Nat) (m : Int) (h : m = (n : Int)) : TL.tl (cutS z (some m) none) = (TL.tl z).drop n := by
  subst h
  show ((z.cps.toList.drop (HT.sIx z.length 0 (some (n : Int)))).take (HT.sIx z.length z.length none - HT.sIx z.length 0 (some (n : Int)))) = z.cps.toList.drop n
  have la : z.cps.toList.length = z.length := Array.length_toList
  rw [HT.sIx_nat, HT.sIx_none]
  rcases Nat.le_total n z.length with q | q
  · rw [Nat.min_eq_left q, List.take_of_length_le (by rw [List.length_drop]; omega)]
  · rw [Nat.min_eq_right q, List.drop_of_length_le (by omega), List.drop_of_length_le (by omega), List.take_nil]
theorem sIx_m1 (n d : Nat) : HT.sIx n d (some (-1)) = n - 1 := by
  show (if (-1 : Int) < 0 then ((-1 : Int) + (n : Int)).toNat else min (-1 : Int).toNat n) = n - 1
  rw [if_pos (by decide)]
  omega
theorem cut_but (z : Str) : TL.tl (cutS z none (some (-1))) = (TL.tl z).take (z.length - 1) := by
  show ((z.cps.toList.drop (HT.sIx z.length 0 none)).take (HT.sIx z.length z.length (some (-1)) - HT.sIx z.length 0 none)) = z.cps.toList.take (z.length - 1)
  rw [sIx_m1, HT.sIx_none, List.drop_zero, Nat.sub_zero]
theorem cut_last (z : Str) : TL.tl (cutS z (some (-1)) none) = (TL.tl z).drop (z.length - 1) := by
  show ((z.cps.toList.drop (HT.sIx z.length 0 (some (-1)))).take (HT.sIx z.length z.length none - HT.sIx z.length 0 (some (-1)))) = z.cps.toList.drop (z.length - 1)
  have la : z.cps.toList.length = z.length := Array.length_toList
  rw [sIx_m1, HT.sIx_none, List.take_of_length_le (by rw [List.length_drop]; omega)]
theorem tl_len (z : Str) : (TL.tl z).length = z.length := Array.length_toList
theorem starts_iff (x y : Str) : Txt.startswith x y = decide ((TL.tl x).take y.length = TL.tl y) := by
  unfold Txt.startswith
  rw [sub_take]
  have la : x.cps.toList.length = x.length := tl_len x
  have lb : y.cps.toList.length = y.length := tl_len y
  rw [Bool.eq_iff_iff, Bool.and_eq_true, decide_eq_true_eq, decide_eq_true_eq]
  constructor
  · exact fun h => h.2
  · intro h
    refine ⟨?_, h⟩
    have := congrArg List.length h
    rw [List.length_take] at this
    omega
theorem starts_cut (x y : Str) (m : Int) (h : m = (y.length : Int)) : Txt.startswith x y = decide (cutS x none (some m) = y) := by
  rw [starts_iff, ← cut_to x y.length m h]
  exact decide_eq_decide.mpr ⟨TL.ext_tl, fun z => congrArg TL.tl z⟩
theorem starts_split {x y : Str} (h : Txt.startswith x y = true) : x = y ++ cutS x (some (y.length : Int)) none := by
  rw [starts_iff, decide_eq_true_eq] at h
  refine TL.ext_tl ?_
  rw [TL.tl_append, cut_from x y.length _ rfl, ← h, List.take_append_drop]
theorem rmp_cut {x y : Str} (h : Txt.startswith x y = true) (m : Int) (e : m = (y.length : Int)) : Txt.removeprefix x y = cutS x (some m) none := by
  subst e
  have z := rmp_app y (cutS x (some (y.length : Int)) none)
  rw [← starts_split h] at z
  exact z
/-! ### a text cut at a sign row -/
theorem spl_par_none {S : List Nat} : ∀ (l acc : List Nat), TL.par S acc l = none → TL.spl S 0 acc l = [acc ++ l]
  | [], acc, _ => by rw [TL.spl_nil, List.append_nil]
  | c :: r, acc, h => by
    by_cases p : TL.pre S (c :: r) = true
    · rw [TL.par_hit p] at h
      cases h
    · rw [Bool.not_eq_true] at p
      rw [TL.par_miss p] at h
      rw [TL.spl_miss p, spl_par_none r _ h, List.append_assoc]
      rfl
theorem spl_par_some {S : List Nat} (hS : S ≠ []) : ∀ (l acc p q : List Nat), TL.par S acc l = some (p, q) → TL.spl S 0 acc l = p :: TL.spl S 0 [] q ∧ acc ++ l = p ++ (S ++ q)
  | [], acc, p, q, h => by cases h
  | c :: r, acc, p, q, h => by
    by_cases e : TL.pre S (c :: r) = true
    · rw [TL.par_hit e] at h
      cases h
      rw [TL.spl_hit e, TL.spl_pass]
      have hl : S.length - 1 + 1 = S.length := by
        have := List.length_pos_iff.mpr hS
        omega
      refine ⟨?_, ?_⟩
      · rw [show (c :: r).drop S.length = r.drop (S.length - 1) from by rw [← hl]; rfl]
      · have e2 : (c :: r).take S.length = S := eq_of_beq e
        rw [show S ++ (c :: r).drop S.length = c :: r from by
          have z := List.take_append_drop S.length (c :: r)
          rw [e2] at z
          exact z]
    · rw [Bool.not_eq_true] at e
      rw [TL.par_miss e] at h
      obtain ⟨h1, h2⟩ := spl_par_some hS r _ p q h
      refine ⟨by rw [TL.spl_miss e, h1], ?_⟩
      rw [← h2, List.append_assoc]
      rfl
/-- a separator: not empty, below 256 -/
structure Sep (y : Str) : Prop where
  ne : TL.tl y ≠ []
  k : y.cps.all (· < 256) = true
theorem split_of (x : Str) {y : Str} (h : Sep y) : Txt.split x y = (TL.spl (TL.tl y) 0 [] (TL.tl x)).map fun l => ⟨l.toArray⟩ := by
  have e := TL.split_spl x y h.ne (TL.kind_ok h.k)
  refine TL.map_tl_inj ?_
  rw [e, List.map_map]
  exact (List.map_id _).symm
theorem sep_cases (x : Str) {y : Str} (h : Sep y) : (Txt.split x y = [x] ∧ Txt.partition x y = (x, Str.empty, Str.empty)) ∨ ∃ p q, Txt.split x y = p :: Txt.split q y ∧ Txt.partition x y = (p, y, q) ∧ x = p ++ y ++ q := by
  have e1 := split_of x h
  have e2 := TL.partition_par x y h.ne
  cases e : TL.par (TL.tl y) [] (TL.tl x) with
  | none =>
    rw [e] at e2
    rw [spl_par_none _ _ e] at e1
    refine .inl ⟨e1.trans ?_, e2⟩
    rw [List.nil_append]
    exact congrArg (fun a => [a]) (TL.mk_tl x)
  | some pq =>
    obtain ⟨p, q⟩ := pq
    rw [e] at e2
    obtain ⟨h1, h2⟩ := spl_par_some h.ne _ _ _ _ e
    rw [h1] at e1
    refine .inr ⟨⟨p.toArray⟩, ⟨q.toArray⟩, ?_, e2, TL.ext_tl ?_⟩
    · rw [e1, split_of _ h]
      rfl
    · rw [TL.tl_append, TL.tl_append, TL.tl_mk, TL.tl_mk, List.append_assoc, ← h2]
      rfl
theorem split_free {x y : Str} {s : Nat} {S : List Nat} (ey : TL.tl y = s :: S) (h : Sep y) (hs : s ∉ TL.tl x) : Txt.split x y = [x] := by
  rw [split_of x h, ey, TL.spl_last1 hs]
  rw [List.nil_append]
  exact congrArg (fun a => [a]) (TL.mk_tl x)
theorem sep_in {p y q : Str} {s : Nat} {S : List Nat} (ey : TL.tl y = s :: S) : s ∈ TL.tl (p ++ y ++ q) := by
  rw [TL.tl_append, TL.tl_append, ey]
  exact List.mem_append_left _ (List.mem_append_right _ List.mem_cons_self)
theorem split_cons (x : Str) {y : Str} (h : Sep y) : ∃ p r, Txt.split x y = p :: r := by
  rcases sep_cases x h with ⟨e, _⟩ | ⟨p, q, e, _⟩
  · exact ⟨_, _, e⟩
  · exact ⟨_, _, e⟩
end K5
namespace K5
open PySem L2 Own StX ClX NdefX
theorem sep_sp : Sep " " := ⟨by decide +kernel, by decide +kernel⟩
theorem sep_dot : Sep "." := ⟨by decide +kernel, by decide +kernel⟩
theorem sep_eq : Sep " = " := ⟨by decide +kernel, by decide +kernel⟩
theorem sep_ar : Sep " <- " := ⟨by decide +kernel, by decide +kernel⟩
theorem mem_mid {p y q : Str} {s : Nat} (h : s ∈ TL.tl y) : s ∈ TL.tl (p ++ y ++ q) := by
  rw [TL.tl_append, TL.tl_append]
  exact List.mem_append_left _ (List.mem_append_right _ h)
theorem nm_not {x : Str} {s : Nat} (h : isNm x = true) (k : s < 97) : s ∉ TL.tl x := fun z => by
  have := nm_tl h z
  omega
theorem dn_nm {x : Str} (h : isDN x = true) : isNm x = true := by
  unfold isDN at h
  rw [Bool.and_eq_true] at h
  exact h.1
/-! ### a block -/
def lBlk (x : Str) : Bool := match Txt.split x " " with
  | p :: r => if p = "const" ∨ p = "delay" then decide (r.length = 1) && (readV (r.headD Str.empty)).isSome else decide (x ∈ words7) || isNm x
  | [] => false
theorem blk_eq (x : Str) : lBlk x = ((readP x).isSome || isDN x) := by
  obtain ⟨p, r, e⟩ := split_ne x
  unfold lBlk
  rw [e]
  dsimp only
  by_cases hp : p = "const" ∨ p = "delay"
  · rw [if_pos hp]
    have hd : isDN x = false := by
      rw [← Bool.not_eq_true]
      intro z
      have h32 : 32 ∉ x.cps.toList := nm_not (dn_nm z) (by decide)
      have e2 := (no_blank h32).1
      rw [e2] at e
      injection e with e3 e4
      subst e3
      revert z
      rcases hp with rfl | rfl <;> decide +kernel
    rw [hd, Bool.or_false]
    by_cases hr : r.length = 1
    · obtain ⟨q, rfl⟩ := List.length_eq_one_iff.mp hr
      rw [isP_two e hp]
      rfl
    · rw [isP_other e hr hp, decide_eq_false hr, Bool.false_and]
  · rw [if_neg hp, isP_word e hp]
    by_cases hw : x ∈ words7
    · rw [decide_eq_true hw]
      rfl
    · rw [decide_eq_false hw, Bool.false_or, Bool.false_or]
      unfold isDN
      have : isNm x = true → decide (x ∈ words9) = false := fun z => by
        refine decide_eq_false fun k => hw ((w9_w7 ?_).mp k)
        have h32 : 32 ∉ x.cps.toList := nm_not z (by decide)
        rw [(no_blank h32).1] at e
        injection e with e3 e4
        rw [e3]
        exact hp
      cases hn : isNm x with
      | false => rfl
      | true =>
        rw [this hn]
        rfl
theorem readV_dig {x : Str} (h : (readV x).isSome = true) {c : Nat} (hc : c ∈ TL.tl x) : 48 ≤ c ∧ c ≤ 57 := by
  unfold readV at h
  split at h
  · rename_i d
    unfold dig10 at d
    rw [Bool.and_eq_true] at d
    have z := List.all_eq_true.mp d.2 c hc
    unfold isD at z
    rw [Bool.and_eq_true, decide_eq_true_eq, decide_eq_true_eq] at z
    exact z
  · cases h
theorem w9_tl {z : Str} (h : z ∈ words9) : 61 ∉ TL.tl z := by
  simp only [words9, List.mem_cons, List.not_mem_nil, or_false] at h
  rcases h with rfl | rfl | rfl | rfl | rfl | rfl | rfl | rfl | rfl <;> decide +kernel
theorem blk_61 {x : Str} (h : lBlk x = true) : 61 ∉ TL.tl x := by
  rw [blk_eq, Bool.or_eq_true] at h
  rcases h with h | h
  · rcases sep_cases x sep_sp with ⟨_, e⟩ | ⟨p, q, _, e, ex⟩
    · unfold readP at h
      rw [e] at h
      by_cases hw : x ∈ words9
      · exact w9_tl hw
      · rw [if_neg hw] at h
        cases h
    · unfold readP at h
      rw [e] at h
      dsimp only at h
      by_cases hw : p ∈ words9
      · rw [if_pos hw] at h
        by_cases hc : p = "const" ∨ p = "delay"
        · rw [if_pos hc] at h
          have hq : (readV q).isSome = true := by
            cases z : readV q with
            | none => rw [z] at h; cases h
            | some v => rfl
          intro m
          rw [ex, TL.tl_append, TL.tl_append] at m
          rcases List.mem_append.mp m with m | m
          · rcases List.mem_append.mp m with m | m
            · exact w9_tl hw m
            · revert m
              decide +kernel
          · have := readV_dig hq m
            omega
        · rw [if_neg hc, if_neg (by decide +kernel)] at h
          cases h
      · rw [if_neg hw] at h
        cases h
  · exact nm_not (dn_nm h) (by decide)
/-! ### a port -/
def lPort (own parts : List Str) (x : Str) : Bool :=
  if (Txt.split x ".").length = 1 then decide (x ∈ own) else decide ((Txt.split x ".").length = 2) && decide ((Txt.split x ".").getD 0 Str.empty ∈ parts) && isNm ((Txt.split x ".").getD 1 Str.empty)
theorem port_eq (own parts : List Str) (x : Str) : lPort own parts x = (readPort parts own x).isSome := by
  unfold lPort readPort
  rcases sep_cases x sep_dot with ⟨e1, e2⟩ | ⟨p, q, e1, e2, ex⟩
  · rw [e1, e2]
    dsimp only
    rw [if_pos (show [x].length = 1 from rfl), if_pos (show Str.empty.length = 0 from rfl)]
    by_cases h : x ∈ own
    · rw [decide_eq_true h, if_pos h]
      rfl
    · rw [decide_eq_false h, if_neg h]
      rfl
  · rw [e2]
    dsimp only
    rw [if_neg (by decide +kernel : ¬ (("." : Str)).length = 0)]
    rcases sep_cases q sep_dot with ⟨f1, _⟩ | ⟨p2, q2, f1, _, ex2⟩
    · rw [e1, f1, if_neg (by show ¬ 2 = 1; decide), decide_eq_true (by rfl), Bool.true_and]
      show (decide (p ∈ parts) && isNm q) = _
      by_cases h : p ∈ parts
      · cases hq : isNm q with
        | true =>
          rw [if_pos ⟨h, rfl⟩, decide_eq_true h]
          rfl
        | false =>
          rw [if_neg (fun z => by cases z.2), decide_eq_true h]
          rfl
      · rw [if_neg (fun z => h z.1), decide_eq_false h]
        rfl
    · obtain ⟨a, r, g⟩ := split_cons q2 sep_dot
      rw [e1, f1, g, if_neg (by show ¬ (r.length + 1 + 1 + 1 = 1); omega), decide_eq_false (by show ¬ (r.length + 1 + 1 + 1 = 2); omega), if_neg]
      · rfl
      · intro z
        exact nm_not (s := 46) z.2 (by decide) (by rw [ex2]; exact mem_mid (by decide +kernel))
theorem port_32 {own parts : List Str} {x : Str} {a : Port} (ho : ∀ y ∈ own, isNm y = true) (hp : ∀ y ∈ parts, isNm y = true) (h : readPort parts own x = some a) : 32 ∉ TL.tl x := by
  unfold readPort at h
  rcases sep_cases x sep_dot with ⟨e1, e2⟩ | ⟨p, q, e1, e2, ex⟩
  · rw [e2, if_pos (by rfl)] at h
    by_cases hx : x ∈ own
    · exact nm_not (ho x hx) (by decide)
    · rw [if_neg hx] at h
      cases h
  · rw [e2] at h
    dsimp only at h
    rw [if_neg (by decide +kernel : ¬ (("." : Str)).length = 0)] at h
    by_cases hx : p ∈ parts ∧ isNm q = true
    · intro m
      rw [ex, TL.tl_append, TL.tl_append] at m
      rcases List.mem_append.mp m with m | m
      · rcases List.mem_append.mp m with m | m
        · exact nm_not (hp p hx.1) (by decide) m
        · revert m
          decide +kernel
      · exact nm_not hx.2 (by decide) m
    · rw [if_neg hx] at h
      cases h
theorem port_inj {own parts : List Str} {x y : Str} {a : Port} (hp : ∀ y ∈ parts, isNm y = true) (h : readPort parts own x = some a) (k : readPort parts own y = some a) : x = y := by
  have key : ∀ z : Str, readPort parts own z = some a → (a.1 = Str.empty ∧ z = a.2) ∨ (isNm a.1 = true ∧ z = a.1 ++ "." ++ a.2) := fun z h => by
    unfold readPort at h
    rcases sep_cases z sep_dot with ⟨e1, e2⟩ | ⟨p, q, e1, e2, ex⟩
    · rw [e2, if_pos (by rfl)] at h
      by_cases hx : z ∈ own
      · rw [if_pos hx] at h
        cases h
        exact .inl ⟨rfl, rfl⟩
      · rw [if_neg hx] at h
        cases h
    · rw [e2] at h
      dsimp only at h
      rw [if_neg (by decide +kernel : ¬ (("." : Str)).length = 0)] at h
      by_cases hx : p ∈ parts ∧ isNm q = true
      · rw [if_pos hx] at h
        cases h
        exact .inr ⟨hp p hx.1, ex⟩
      · rw [if_neg hx] at h
        cases h
  have ne : isNm Str.empty = false := by decide +kernel
  rcases key x h with ⟨a1, a2⟩ | ⟨a1, a2⟩
  · rcases key y k with ⟨b1, b2⟩ | ⟨b1, b2⟩
    · rw [a2, b2]
    · rw [a1, ne] at b1
      cases b1
  · rcases key y k with ⟨b1, b2⟩ | ⟨b1, b2⟩
    · rw [b1, ne] at a1
      cases a1
    · rw [a2, b2]
/-! ### a row behind the head -/
def lPartRow (parts targets : List Str) (row : Str) : Option (List Str × List Str) :=
  if (Txt.split (cutS row (some 7) none) " = ").length = 2 ∧ isNm ((Txt.split (cutS row (some 7) none) " = ").getD 0 Str.empty) = true ∧ lBlk ((Txt.split (cutS row (some 7) none) " = ").getD 1 Str.empty) = true ∧ targets = [] ∧ ¬ parts.length = 16 ∧ ¬ (Txt.split (cutS row (some 7) none) " = ").getD 0 Str.empty ∈ parts
  then some (parts ++ [(Txt.split (cutS row (some 7) none) " = ").getD 0 Str.empty], targets) else none
def lWireRow (ins outs parts targets : List Str) (row : Str) : Option (List Str × List Str) :=
  if cutS row none (some 2) = "  " ∧ (Txt.split (cutS row (some 2) none) " <- ").length = 2 ∧ lPort outs parts ((Txt.split (cutS row (some 2) none) " <- ").getD 0 Str.empty) = true ∧ lPort ins parts ((Txt.split (cutS row (some 2) none) " <- ").getD 1 Str.empty) = true ∧ ¬ (Txt.split (cutS row (some 2) none) " <- ").getD 0 Str.empty ∈ targets
  then some (parts, targets ++ [(Txt.split (cutS row (some 2) none) " <- ").getD 0 Str.empty]) else none
def lStep (ins outs parts targets : List Str) (row : Str) : Option (List Str × List Str) :=
  if cutS row none (some 7) = "  part " then lPartRow parts targets row else lWireRow ins outs parts targets row
structure Rel (st : RS) (n : Str) (ins outs parts targets : List Str) : Prop where
  hd : st.head = some (n, ins, outs)
  dn : st.done = false
  ps : st.parts.map (·.1) = parts
  nm : ∀ p ∈ parts, isNm p = true
  le : parts.length ≤ 16
  ts : targets.map (readPort parts outs) = st.wires.map fun w => some w.1
theorem step_rel {st : RS} {n : Str} {ins outs parts targets : List Str} (R : Rel st n ins outs parts targets) (hi : ∀ x ∈ ins, isNm x = true) (ho : ∀ x ∈ outs, isNm x = true) {row : Str} (hr : ¬ row = "end") :
    (lStep ins outs parts targets row = none ∧ step st row = none) ∨ ∃ ps ts st', lStep ins outs parts targets row = some (ps, ts) ∧ step st row = some st' ∧ Rel st' n ins outs ps ts := by
  obtain ⟨hd, ps, ws, dn⟩ := st
  obtain ⟨r1, r2, r3, r4, r5, r6⟩ := R
  dsimp only at r1 r2 r3 r6
  subst r1
  subst r2
  subst r3
  have he : ws.isEmpty = true ↔ targets = [] := by
    cases ws with
    | nil =>
      cases targets with
      | nil => exact ⟨fun _ => rfl, fun _ => rfl⟩
      | cons a b => cases r6
    | cons a b =>
      cases targets with
      | nil => cases r6
      | cons c d => exact ⟨fun z => (by cases z), fun z => (by cases z)⟩
  have hl : ps.length = (ps.map (·.1)).length := (List.length_map _).symm
  unfold lStep step
  dsimp only
  rw [if_neg Bool.false_ne_true, if_neg hr, starts_cut row "  part " 7 (by decide +kernel)]
  by_cases h7 : cutS row none (some 7) = "  part "
  · have hst : Txt.startswith row "  part " = true := by rw [starts_cut row "  part " 7 (by decide +kernel)]; exact decide_eq_true h7
    have erm : Txt.removeprefix row "  part " = cutS row (some 7) none := rmp_cut hst 7 (by decide +kernel)
    rw [if_pos h7, if_pos (decide_eq_true h7)]
    unfold lPartRow takePart partName partBlock
    rw [erm]
    rcases sep_cases (cutS row (some 7) none) sep_eq with ⟨e1, e2⟩ | ⟨p, q, e1, e2, ex⟩
    · refine .inl ⟨by rw [e1, if_neg (fun z => by have := z.1; cases this)], ?_⟩
      rw [e2]
      dsimp only
      by_cases hw : ws.isEmpty = true
      · rw [if_pos hw, if_neg (fun z => by
          have k := z.2.2.2
          revert k
          decide +kernel)]
        rfl
      · rw [if_neg hw]
    · rcases sep_cases q sep_eq with ⟨f1, _⟩ | ⟨p2, q2, f1, _, ex2⟩
      · rw [e1, f1, e2]
        dsimp only
        by_cases hc : isNm p = true ∧ lBlk q = true ∧ targets = [] ∧ ¬ (ps.map (·.1)).length = 16 ∧ ¬ p ∈ ps.map (·.1)
        · refine .inr ⟨ps.map (·.1) ++ [p], targets, ⟨some (n, ins, outs), ps ++ [(p, q)], ws, false⟩, ?_, ?_, ⟨rfl, rfl, ?_, fun x hx => ?_, ?_, ?_⟩⟩
          · exact if_pos ⟨rfl, hc⟩
          · rw [if_pos (he.mpr hc.2.2.1), if_pos]
            · rfl
            · refine ⟨by omega, hc.1, hc.2.2.2.2, ?_⟩
              have := hc.2.1
              rw [blk_eq, Bool.or_eq_true] at this
              exact this
          · rw [List.map_append]
            rfl
          · rcases List.mem_append.mp hx with z | z
            · exact r4 x z
            · rw [List.mem_singleton] at z
              rw [z]
              exact hc.1
          · rw [List.length_append]
            have := hc.2.2.2.1
            show _ + 1 ≤ 16
            omega
          · have := hc.2.2.1
            rw [this] at r6 ⊢
            exact r6
        · refine .inl ⟨if_neg fun z => hc z.2, ?_⟩
          by_cases hw : ws.isEmpty = true
          · rw [if_pos hw, if_neg (fun z => hc ⟨z.2.1, by rw [blk_eq, Bool.or_eq_true]; exact z.2.2.2, he.mp hw, by have := z.1; omega, z.2.2.1⟩)]
            rfl
          · rw [if_neg hw]
      · obtain ⟨a, r, g⟩ := split_cons q2 sep_eq
        refine .inl ⟨by rw [e1, f1, g]; exact if_neg fun z => by have k : r.length + 1 + 1 + 1 = 2 := z.1; omega, ?_⟩
        rw [e2]
        dsimp only
        by_cases hw : ws.isEmpty = true
        · rw [if_pos hw, if_neg (fun z => by
            have k : lBlk q = true := by rw [blk_eq, Bool.or_eq_true]; exact z.2.2.2
            exact blk_61 k (by rw [ex2]; exact mem_mid (by decide +kernel)))]
          rfl
        · rw [if_neg hw]
  · rw [if_neg h7, if_neg (by rw [decide_eq_false h7]; exact Bool.false_ne_true)]
    unfold lWireRow takeWire
    rw [starts_cut row "  " 2 (by decide +kernel)]
    by_cases h2 : cutS row none (some 2) = "  "
    · have hst : Txt.startswith row "  " = true := by rw [starts_cut row "  " 2 (by decide +kernel)]; exact decide_eq_true h2
      have erm : Txt.removeprefix row "  " = cutS row (some 2) none := rmp_cut hst 2 (by decide +kernel)
      rw [if_pos (decide_eq_true h2)]
      unfold wireTarget wireSource
      rw [erm]
      rcases sep_cases (cutS row (some 2) none) sep_ar with ⟨e1, e2⟩ | ⟨p, q, e1, e2, ex⟩
      · refine .inl ⟨by rw [e1, if_neg (fun z => by have := z.2.1; cases this)], ?_⟩
        rw [e2]
        dsimp only
        have : readPort (ps.map (·.1)) ins Str.empty = none := by
          unfold readPort
          rw [if_pos (by decide +kernel), if_neg (fun z => by have := hi _ z; revert this; decide +kernel)]
        rw [this]
        cases readPort (ps.map (·.1)) outs (cutS row (some 2) none) <;> rfl
      · rw [e2]
        dsimp only
        rcases sep_cases q sep_ar with ⟨f1, _⟩ | ⟨p2, q2, f1, _, ex2⟩
        · rw [e1, f1]
          cases ht : readPort (ps.map (·.1)) outs p with
          | none =>
            refine .inl ⟨if_neg fun z => ?_, rfl⟩
            have k : lPort outs (ps.map (·.1)) p = true := z.2.2.1
            rw [port_eq, ht] at k
            cases k
          | some t =>
            cases hs : readPort (ps.map (·.1)) ins q with
            | none =>
              refine .inl ⟨if_neg fun z => ?_, rfl⟩
              have k : lPort ins (ps.map (·.1)) q = true := z.2.2.2.1
              rw [port_eq, hs] at k
              cases k
            | some s =>
              dsimp only
              have hm : p ∈ targets ↔ t ∈ ws.map (·.1) := by
                constructor
                · intro z
                  have k : readPort (ps.map (·.1)) outs p ∈ targets.map (readPort (ps.map (·.1)) outs) := List.mem_map_of_mem z
                  rw [r6, ht] at k
                  obtain ⟨w, hw, e⟩ := List.mem_map.mp k
                  cases e
                  exact List.mem_map_of_mem hw
                · intro z
                  obtain ⟨w, hw, e⟩ := List.mem_map.mp z
                  have k : some t ∈ targets.map (readPort (ps.map (·.1)) outs) := by
                    rw [r6, ← e]
                    exact List.mem_map_of_mem (f := fun w => some w.1) hw
                  obtain ⟨p', hp', e'⟩ := List.mem_map.mp k
                  rw [port_inj r4 ht e']
                  exact hp'
              by_cases hin : p ∈ targets
              · rw [if_pos (hm.mp hin)]
                exact .inl ⟨if_neg fun z => z.2.2.2.2 hin, rfl⟩
              · rw [if_neg (fun z => hin (hm.mpr z))]
                refine .inr ⟨ps.map (·.1), targets ++ [p], ⟨some (n, ins, outs), ps, ws ++ [(t, s)], false⟩, ?_, rfl, ⟨rfl, rfl, rfl, r4, r5, ?_⟩⟩
                · exact if_pos ⟨h2, rfl, by rw [port_eq]; show (readPort (ps.map (·.1)) outs p).isSome = true; rw [ht]; rfl, by rw [port_eq]; show (readPort (ps.map (·.1)) ins q).isSome = true; rw [hs]; rfl, hin⟩
                · rw [List.map_append, List.map_append, r6]
                  show _ ++ [readPort (ps.map (·.1)) outs p] = _
                  rw [ht]
                  rfl
        · obtain ⟨a, r, g⟩ := split_cons q2 sep_ar
          refine .inl ⟨by rw [e1, f1, g]; exact if_neg fun z => by have k : r.length + 1 + 1 + 1 = 2 := z.2.1; omega, ?_⟩
          cases hs : readPort (ps.map (·.1)) ins q with
          | none => cases readPort (ps.map (·.1)) outs p <;> rfl
          | some s => exact absurd (by rw [ex2]; exact mem_mid (by decide +kernel)) (port_32 hi r4 hs)
    · rw [if_neg (fun z => h2 z.1), decide_eq_false h2, if_neg Bool.false_ne_true]
      exact .inl ⟨rfl, rfl⟩
def lRun (ins outs : List Str) (parts targets : List Str) (n : Nat) : List Str → Option Nat
  | [] => some n
  | r :: rs => if r = "end" then (if rs = [] then none else some (n + 1)) else match lStep ins outs parts targets r with
    | none => some n
    | some (p, t) => lRun ins outs p t (n + 1) rs
def wrongOf : Nat ⊕ RS → Option Nat
  | .inl k => some k
  | .inr _ => none
theorem run_rel {n : Str} {ins outs : List Str} (hi : ∀ x ∈ ins, isNm x = true) (ho : ∀ x ∈ outs, isNm x = true) : ∀ (rows : List Str) (k : Nat) (st : RS) (parts targets : List Str), Rel st n ins outs parts targets → wrongOf (run st k rows) = lRun ins outs parts targets k rows
  | [], k, st, parts, targets, R => by
    unfold run lRun
    rw [R.dn, if_neg Bool.false_ne_true]
    rfl
  | r :: rs, k, st, parts, targets, R => by
    unfold run lRun
    by_cases hr : r = "end"
    · rw [if_pos hr]
      have hs : step st r = some { st with done := true } := by
        unfold step
        rw [R.hd, R.dn, hr]
        rfl
      rw [hs]
      dsimp only
      cases rs with
      | nil => rfl
      | cons a b =>
        unfold run
        have hs2 : step { st with done := true } a = none := by
          unfold step
          dsimp only
          rw [R.hd]
          rfl
        rw [hs2]
        rfl
    · rw [if_neg hr]
      rcases step_rel R hi ho hr with ⟨e1, e2⟩ | ⟨ps, ts, st', e1, e2, R'⟩
      · rw [e1, e2]
        rfl
      · rw [e1, e2]
        exact run_rel hi ho rs (k + 1) st' ps ts R'
end K5
namespace K5
open PySem L2 Own StX ClX NdefX
theorem sp_free : ∀ c : Nat, c < 123 → 97 ≤ c → Unicode.isSpace c = false := by decide +kernel
theorem rms_app (a b : Str) : Txt.removesuffix (a ++ b) b = a := by
  rw [StrLaws.removesuffix_eq]
  have e : (a ++ b).cps.toList = a.cps.toList ++ b.cps.toList := TL.tl_append a b
  have la : a.cps.toList.length = a.length := Array.length_toList
  have lb : b.cps.toList.length = b.length := Array.length_toList
  have sb : Builtin.Str.subAt (a ++ b) b a.length = true := by
    have e2 : ((a ++ b).cps.extract a.length (a.length + b.length)).toList = b.cps.toList := by
      rw [Array.toList_extract, List.extract_eq_take_drop, e, List.drop_append_of_le_length (by omega), List.drop_of_length_le (by omega), List.nil_append, List.take_of_length_le (by omega)]
    unfold Builtin.Str.subAt
    exact beq_iff_eq.mpr (Array.toList_inj.mp e2)
  have hl : (a ++ b).length - b.length = a.length := by rw [sl]; omega
  rw [hl, sb, Bool.and_true, if_pos (by rw [decide_eq_true_eq, sl]; omega)]
  refine TL.ext_tl ?_
  show ((((a ++ b).cps.toList.drop 0).take (a.length - 0)).toArray).toList = a.cps.toList
  rw [e, List.drop_zero, Nat.sub_zero, List.take_append_of_le_length (by omega), List.take_of_length_le (by omega)]
def jL (l : List Str) : List Nat := TL.joinL [32] (l.map TL.tl)
def oL : List (List Nat) → List Nat
  | [] => []
  | p :: r => 32 :: TL.joinL [32] (p :: r)
theorem tl_sp : TL.tl (" " : Str) = [32] := by decide +kernel
theorem tl_em : TL.tl ("" : Str) = [] := by decide +kernel
theorem tl_J (l : List Str) : TL.tl (Txt.join " " l) = jL l := by rw [TL.join_eq, TL.tl_join, tl_sp]; rfl
theorem join0 : ∀ l : List (List Nat), TL.joinL [] (l.map fun p => 32 :: p) = oL l
  | [] => rfl
  | [p] => rfl
  | p :: q :: r => by
    show (32 :: p) ++ ([] ++ TL.joinL [] ((q :: r).map fun p => 32 :: p)) = _
    rw [join0 (q :: r)]
    rfl
theorem tl_O (l : List Str) : TL.tl (Txt.join "" (l.map fun o => (" " : Str) ++ o)) = oL (l.map TL.tl) := by
  rw [TL.join_eq, TL.tl_join, tl_em, ← join0, List.map_map, List.map_map]
  congr 1
  refine List.map_congr_left fun x _ => ?_
  show TL.tl ((" " : Str) ++ x) = 32 :: TL.tl x
  rw [TL.tl_append, tl_sp]
  rfl
theorem join_mem : ∀ (l : List (List Nat)) (c : Nat), c ∈ TL.joinL [32] l → c = 32 ∨ ∃ p ∈ l, c ∈ p
  | [], c, h => by cases h
  | [p], c, h => .inr ⟨p, List.mem_singleton.mpr rfl, h⟩
  | p :: q :: r, c, h => by
    have h : c ∈ p ++ ([32] ++ TL.joinL [32] (q :: r)) := h
    rcases List.mem_append.mp h with z | z
    · exact .inr ⟨p, List.mem_cons_self, z⟩
    · rcases List.mem_append.mp z with z | z
      · exact .inl (List.mem_singleton.mp z)
      · rcases join_mem (q :: r) c z with k | ⟨y, hy, k⟩
        · exact .inl k
        · exact .inr ⟨y, List.mem_cons_of_mem _ hy, k⟩
theorem J_not {l : List Str} (h : ∀ x ∈ l, isNm x = true) {s : Nat} (k : s < 97) (k2 : s ≠ 32) : s ∉ TL.tl (Txt.join " " l) := fun z => by
  rw [tl_J] at z
  rcases join_mem _ _ z with e | ⟨p, hp, e⟩
  · exact k2 e
  · obtain ⟨x, hx, rfl⟩ := List.mem_map.mp hp
    exact nm_not (h x hx) k e
theorem nm_sp {x : Str} (h : isNm x = true) : TL.tl x ≠ [] ∧ ∀ c ∈ TL.tl x, Unicode.isSpace c = false := by
  refine ⟨fun e => ?_, fun c hc => ?_⟩
  · have := (isNm_len h).1
    rw [TL.len_tl, e] at this
    cases this
  · have := nm_tl h hc
    exact sp_free c (by omega) this.1
theorem words_J {l : List Str} (h : ∀ x ∈ l, isNm x = true) : Txt.words (Txt.join " " l) = l := by
  refine TL.map_tl_inj ?_
  rw [TL.words_tl, tl_J]
  by_cases e : l = []
  · rw [e]
    decide +kernel
  · refine TL.wfold_join (l.map TL.tl) [] (fun z => e (List.map_eq_nil_iff.mp z)) fun p hp => ?_
    obtain ⟨x, hx, rfl⟩ := List.mem_map.mp hp
    exact nm_sp (h x hx)
theorem words_O {l : List Str} (h : ∀ x ∈ l, isNm x = true) : Txt.words (Txt.join "" (l.map fun o => (" " : Str) ++ o)) = l := by
  refine TL.map_tl_inj ?_
  rw [TL.words_tl, tl_O]
  cases l with
  | nil => decide +kernel
  | cons a r =>
    show TL.wfin ((32 :: TL.joinL [32] ((a :: r).map TL.tl)).foldl TL.wstep ([], [])) = _
    have e : (32 :: TL.joinL [32] ((a :: r).map TL.tl)).foldl TL.wstep ([], []) = (TL.joinL [32] ((a :: r).map TL.tl)).foldl TL.wstep ([], []) := by
      rw [List.foldl_cons]
      have : TL.wstep ([], []) 32 = ([], []) := by decide +kernel
      rw [this]
    rw [e]
    refine TL.wfold_join ((a :: r).map TL.tl) [] (by simp) fun p hp => ?_
    obtain ⟨x, hx, rfl⟩ := List.mem_map.mp hp
    exact nm_sp (h x hx)
/-- a head that is right -/
structure VH (n : Str) (ins outs : List Str) : Prop where
  n : isDN n = true
  all : ∀ x ∈ ins ++ outs, isNm x = true
  nd : (ins ++ outs).Nodup
  il : ins.length ≤ 8
  ol : outs.length ≤ 8
def restT (ins outs : List Str) : Str := Txt.join " " ins ++ (";" ++ (Txt.join "" (outs.map fun o => (" " : Str) ++ o) ++ ")"))
theorem headT_R (n : Str) (ins outs : List Str) : headT n ins outs = ("block " : Str) ++ (n ++ ("(" ++ restT ins outs)) := by
  unfold headT restT
  simp only [app3]
theorem rest_part {ins outs : List Str} (h : ∀ x ∈ ins, isNm x = true) (b : Str) : Txt.partition (Txt.join " " ins ++ (";" ++ b)) ";" = (Txt.join " " ins, (";" : Str), b) := by
  rw [← app3]
  exact TL.partition_app (y := ";") (s := 59) (S := []) (by decide +kernel) (J_not h (by decide) (by decide))
theorem back1 {n : Str} {ins outs : List Str} (V : VH n ins outs) : headName (headT n ins outs) = n ∧ headIns (headT n ins outs) = ins ∧ headOuts (headT n ins outs) = outs := by
  have hi : ∀ x ∈ ins, isNm x = true := fun x hx => V.all x (List.mem_append_left _ hx)
  have ho : ∀ x ∈ outs, isNm x = true := fun x hx => V.all x (List.mem_append_right _ hx)
  have hp : Txt.partition (Txt.removeprefix (headT n ins outs) "block ") "(" = (n, ("(" : Str), restT ins outs) := by
    rw [headT_R, rmp_app, ← app3]
    exact TL.partition_app (y := "(") (s := 40) (S := []) (by decide +kernel) (nm_not (dn_nm V.n) (by decide))
  have hq : headPorts (headT n ins outs) = Txt.join " " ins ++ (";" ++ Txt.join "" (outs.map fun o => (" " : Str) ++ o)) := by
    unfold headPorts
    rw [hp]
    show Txt.removesuffix (restT ins outs) ")" = _
    unfold restT
    rw [← app3, ← app3, rms_app, app3]
  refine ⟨?_, ?_, ?_⟩
  · unfold headName
    rw [hp]
  · unfold headIns
    rw [hq, rest_part (outs := outs) hi]
    exact words_J hi
  · unfold headOuts
    rw [hq, rest_part (outs := outs) hi]
    exact words_O ho
/-! ### the law's own reader of a head -/
def lhM (row : Str) : Str × Str × Str := Txt.partition (Txt.partition row "(").2.2 ";"
def lhName (row : Str) : Str := cutS (Txt.partition row "(").1 (some 6) none
def lhEnds (row : Str) : Str := cutS (lhM row).2.2 none (some (-1))
def lhIns (row : Str) : List Str := if ¬ (lhM row).1 = Str.empty then Txt.split (lhM row).1 " " else []
def lhOuts (row : Str) : List Str := if ¬ lhEnds row = Str.empty then Txt.split (cutS (lhEnds row) (some 1) none) " " else []
structure LH (row : Str) : Prop where
  c1 : cutS row (some (-1)) none = ")"
  c2 : cutS (Txt.partition row "(").1 none (some 6) = "block "
  c3 : ¬ (lhM row).2.1 = Str.empty
  w : headT (lhName row) (lhIns row) (lhOuts row) = row
  v : VH (lhName row) (lhIns row) (lhOuts row)
theorem cut_front {a b : Str} {m : Int} (h : m = (a.length : Int)) : cutS (a ++ b) none (some m) = a := by
  refine TL.ext_tl ?_
  rw [cut_to _ _ _ h, TL.tl_append, List.take_append_of_le_length (by rw [tl_len]; exact Nat.le_refl _), List.take_of_length_le (by rw [tl_len]; exact Nat.le_refl _)]
theorem cut_back {a b : Str} {m : Int} (h : m = (a.length : Int)) : cutS (a ++ b) (some m) none = b := by
  refine TL.ext_tl ?_
  rw [cut_from _ _ _ h, TL.tl_append, List.drop_append_of_le_length (by rw [tl_len]; exact Nat.le_refl _), List.drop_of_length_le (by rw [tl_len]; exact Nat.le_refl _), List.nil_append]
theorem cut_butA {a b : Str} (h : b.length = 1) : cutS (a ++ b) none (some (-1)) = a := by
  refine TL.ext_tl ?_
  rw [cut_but, TL.tl_append, sl, h, Nat.add_sub_cancel, List.take_append_of_le_length (by rw [tl_len]; exact Nat.le_refl _), List.take_of_length_le (by rw [tl_len]; exact Nat.le_refl _)]
theorem cut_lastA {a b : Str} (h : b.length = 1) : cutS (a ++ b) (some (-1)) none = b := by
  refine TL.ext_tl ?_
  rw [cut_last, TL.tl_append, sl, h, Nat.add_sub_cancel, List.drop_append_of_le_length (by rw [tl_len]; exact Nat.le_refl _), List.drop_of_length_le (by rw [tl_len]; exact Nat.le_refl _), List.nil_append]
theorem split_J {l : List Str} (h : ∀ x ∈ l, isNm x = true) (ne : l ≠ []) : Txt.split (Txt.join " " l) " " = l :=
  TL.split_join (y := " ") (s := 32) (S := []) tl_sp (by decide +kernel) ne fun p hp => nm_not (h p hp) (by decide)
theorem J_ne {l : List Str} (h : ∀ x ∈ l, isNm x = true) (ne : l ≠ []) : ¬ Txt.join " " l = Str.empty := fun z => by
  have e := split_J h ne
  rw [z, show Txt.split Str.empty " " = [Str.empty] by decide +kernel] at e
  have := h Str.empty (by rw [← e]; exact List.mem_singleton.mpr rfl)
  revert this
  decide +kernel
theorem O_cons (a : Str) (r : List Str) : Txt.join "" ((a :: r).map fun o => (" " : Str) ++ o) = (" " : Str) ++ Txt.join " " (a :: r) := by
  refine TL.ext_tl ?_
  rw [tl_O, TL.tl_append, tl_sp, tl_J]
  rfl
theorem back2 {n : Str} {ins outs : List Str} (V : VH n ins outs) : cutS (headT n ins outs) (some (-1)) none = ")" ∧ cutS (Txt.partition (headT n ins outs) "(").1 none (some 6) = "block " ∧ ¬ (lhM (headT n ins outs)).2.1 = Str.empty ∧
    lhName (headT n ins outs) = n ∧ lhIns (headT n ins outs) = ins ∧ lhOuts (headT n ins outs) = outs := by
  have hi : ∀ x ∈ ins, isNm x = true := fun x hx => V.all x (List.mem_append_left _ hx)
  have ho : ∀ x ∈ outs, isNm x = true := fun x hx => V.all x (List.mem_append_right _ hx)
  have h40 : 40 ∉ TL.tl (("block " : Str) ++ n) := fun z => by
    rw [TL.tl_append] at z
    rcases List.mem_append.mp z with z | z
    · revert z
      decide +kernel
    · exact nm_not (dn_nm V.n) (by decide) z
  have hp : Txt.partition (headT n ins outs) "(" = (("block " : Str) ++ n, ("(" : Str), restT ins outs) := by
    rw [headT_R, ← app3, ← app3]
    exact TL.partition_app (y := "(") (s := 40) (S := []) (by decide +kernel) h40
  have hm : lhM (headT n ins outs) = (Txt.join " " ins, (";" : Str), Txt.join "" (outs.map fun o => (" " : Str) ++ o) ++ ")") := by
    unfold lhM
    rw [hp]
    exact rest_part (outs := outs) hi _
  have he : lhEnds (headT n ins outs) = Txt.join "" (outs.map fun o => (" " : Str) ++ o) := by
    unfold lhEnds
    rw [hm]
    exact cut_butA (by decide +kernel)
  refine ⟨?_, ?_, ?_, ?_, ?_, ?_⟩
  · have : headT n ins outs = (("block " : Str) ++ n ++ "(" ++ Txt.join " " ins ++ ";" ++ Txt.join "" (outs.map fun o => (" " : Str) ++ o)) ++ ")" := rfl
    rw [this]
    exact cut_lastA (by decide +kernel)
  · rw [hp]
    exact cut_front (by decide +kernel)
  · rw [hm]
    show ¬ (";" : Str) = Str.empty
    decide +kernel
  · unfold lhName
    rw [hp]
    exact cut_back (by decide +kernel)
  · unfold lhIns
    rw [hm]
    dsimp only
    by_cases e : ins = []
    · subst e
      rw [if_neg (fun z => z (by decide +kernel))]
    · rw [if_pos (J_ne hi e)]
      exact split_J hi e
  · unfold lhOuts
    rw [he]
    cases outs with
    | nil => decide +kernel
    | cons a r =>
      rw [O_cons, if_pos]
      · rw [show cutS ((" " : Str) ++ Txt.join " " (a :: r)) (some 1) none = Txt.join " " (a :: r) from cut_back (by decide +kernel)]
        exact split_J ho (by simp)
      · intro z
        have := congrArg TL.tl z
        rw [TL.tl_append, tl_sp] at this
        cases this
theorem VH_ok {row : Str} (h : okHead row) : VH (headName row) (headIns row) (headOuts row) ∧ headT (headName row) (headIns row) (headOuts row) = row :=
  ⟨⟨h.2.2.2.1, fun x hx => List.all_eq_true.mp h.2.2.2.2.1 x hx, h.2.2.2.2.2, h.2.1, h.2.2.1⟩, of_decide_eq_true h.1⟩
theorem head_iff (row : Str) : okHead row ↔ LH row := by
  constructor
  · intro h
    obtain ⟨V, e⟩ := VH_ok h
    obtain ⟨b1, b2, b3, b4, b5, b6⟩ := back2 V
    rw [e] at b1 b2 b3 b4 b5 b6
    exact ⟨b1, b2, b3, by rw [b4, b5, b6]; exact e, by rw [b4, b5, b6]; exact V⟩
  · intro L
    obtain ⟨b1, b2, b3⟩ := back1 L.v
    rw [L.w] at b1 b2 b3
    refine ⟨decide_eq_true (by rw [b1, b2, b3]; exact L.w), by rw [b2]; exact L.v.il, by rw [b3]; exact L.v.ol, by rw [b1]; exact L.v.n, ?_, ?_⟩
    · rw [b2, b3]
      exact List.all_eq_true.mpr L.v.all
    · rw [b2, b3]
      exact L.v.nd
theorem head_same {row : Str} (h : okHead row) : lhIns row = headIns row ∧ lhOuts row = headOuts row := by
  obtain ⟨V, e⟩ := VH_ok h
  obtain ⟨_, _, _, _, b5, b6⟩ := back2 V
  rw [e] at b5 b6
  exact ⟨b5, b6⟩
/-! ### the whole text -/
open Classical in
noncomputable def lHead (row : Str) : Option (List Str × List Str) := if LH row then some (lhIns row, lhOuts row) else none
noncomputable def lWrong (rows : List Str) : Option Nat := match rows with
  | [] => some 0
  | r :: rs => match lHead r with
    | none => some 0
    | some (i, o) => lRun i o [] [] 1 rs
theorem wrong_eq (r : Str) (rs : List Str) : wrongOf (run st0 0 (r :: rs)) = lWrong (r :: rs) := by
  unfold run lWrong lHead
  by_cases h : okHead r
  · have hs : step st0 r = some ⟨some (headName r, headIns r, headOuts r), [], [], false⟩ := by
      unfold step st0
      dsimp only
      rw [if_pos h]
    obtain ⟨h1, h2⟩ := head_same h
    rw [hs]
    dsimp only
    rw [if_pos ((head_iff r).mp h), h1, h2]
    dsimp only
    obtain ⟨V, _⟩ := VH_ok h
    exact run_rel (fun x hx => V.all x (List.mem_append_left _ hx)) (fun x hx => V.all x (List.mem_append_right _ hx)) rs 1 _ [] [] ⟨rfl, rfl, rfl, fun p hp => (by cases hp), Nat.zero_le _, rfl⟩
  · have hs : step st0 r = none := by
      unfold step st0
      dsimp only
      rw [if_neg h]
    rw [hs]
    dsimp only
    rw [if_neg (fun z => h ((head_iff r).mpr z))]
    rfl
end K5
/-! OwnM: sorted(l), l a tracked list of any values that read as data (pairs of texts, say), of any length. -/
namespace Own
open PySem PySem.Spec PySem.Calls PyProof.Rows L2
def rSortedDp (K : PySem.W.Frag) : List V → Hp → VK → Prop := fun vs H Q => ∃ (a : Addr) (bs : List (V × PyData)), vs = [V.ref a] ∧ SqL K H a (bs.map (·.1)) ∧ (∀ b ∈ bs, Dp K H b.1 b.2) ∧ PySem.W.AllAlike (bs.map (·.2)) ∧ PySem.W.Sortable (bs.map (·.2)) ∧ (∀ b ∈ bs, b.2.depth ≤ 8) ∧
  ∀ p, H p = none → Q (.ref p) (upd H p (.lst ((bs.mergeSort (PySem.W.dataLe false (·.2))).map (·.1))))
theorem each_of {X : Cx} {pins : List (Addr × Obj)} {σ : L2.St} {H : Hp} {s : Shared} (I : Inv X pins σ H s) : ∀ (bs : List (V × PyData)) (us : List Value), Vals (bs.map (·.1)) us → (∀ b ∈ bs, Dp X.K H b.1 b.2) →
    PySem.W.EachIs (fun v (b : V × PyData) => RelV b.1 v) us bs ∧ PySem.W.EachIs (fun v (b : V × PyData) => ∃ as, Reads s.heap v b.2 as) us bs
  | [], us, h, _ => by
    cases h
    exact ⟨.nil, .nil⟩
  | b :: r, us, h, hd => by
    cases h with
    | cons p q =>
      obtain ⟨h1, h2⟩ := each_of I r _ q fun c hc => hd c (List.mem_cons_of_mem _ hc)
      exact ⟨.cons p h1, .cons (Dp.reads I _ _ _ (hd b List.mem_cons_self) p) h2⟩
theorem vals_each : ∀ {bs : List (V × PyData)} {us : List Value}, PySem.W.EachIs (fun v (b : V × PyData) => RelV b.1 v) us bs → Vals (bs.map (·.1)) us
  | _, _, .nil => .nil
  | _, _, .cons p q => .cons p (vals_each q)
theorem cr_sortedDp {X : Cx} (hu : X.A.units + 65 < cLine) : CallR X (.builtin "sorted") (rSortedDp X.K) := by
  intro pins s σ H vs us Q I r h
  obtain ⟨a, bs, rfl, ht, hd, hal, hs, hdp, q⟩ := h
  obtain ⟨its, rv, hl, hz⟩ := I.list ht
  rw [Vals.ref1 r]
  obtain ⟨e1, e2⟩ := each_of I bs its rv hd
  refine PySem.W.sorted_data (enc := fun b : V × PyData => b.2) hl.isList e1 e2 hal hs (by rw [List.length_map] at hz; exact hz) (fun b hb => by have := hdp b hb; omega) fun out hlen ho => ?_
  obtain ⟨ep, he⟩ := PyProof.Rows.sortedAll_at s.heap its out.toArray
  have len : ((bs.mergeSort (PySem.W.dataLe false (·.2))).map (·.1)).length ≤ sizeLine := by
    rw [List.length_map] at hz
    rw [List.length_map, List.length_mergeSort]
    exact hz
  exact ⟨.ref _, upd H (s.heap.objs.size + 1) (.lst ((bs.mergeSort (PySem.W.dataLe false (·.2))).map (·.1))), I.laid (t' := s.toks) (fun _ _ => PyProof.Rows.sortedAll_old) (Nat.le_succ _) ⟨len, out, ep, vals_each ho, he⟩, rfl, q _ (I.hok.fresh (Nat.le_succ _))⟩
end Own
namespace K5
open PySem L2 Own StX ClX NdefX
/-! ### numbers as texts -/
theorem tl_int {n : Int} (h : 0 ≤ n) : (Str.ofString (toString n)).cps.toList = TL.numL n.toNat := by
  obtain ⟨k, rfl⟩ : ∃ k : Nat, n = (k : Int) := ⟨n.toNat, by omega⟩
  rw [Int.toNat_natCast]
  exact TL.tl_num k
theorem num_len {n : Int} (h0 : 0 ≤ n) (h1 : n < 4294967296) : (Str.ofString (toString n)).length ≤ 10 := by
  rw [TL.len_tl]
  show (Str.ofString (toString n)).cps.toList.length ≤ 10
  rw [tl_int h0]
  exact TL.numL_len (by decide) (by omega)
theorem numL_head : ∀ n : Nat, 1 ≤ n → ∃ c r, TL.numL n = c :: r ∧ 49 ≤ c ∧ c ≤ 57 := by
  intro n
  induction n using Nat.strongRecOn with
  | _ n ih =>
    intro h
    by_cases h10 : n < 10
    · exact ⟨48 + n, [], TL.numL_lt h10, by omega, by omega⟩
    · obtain ⟨c, r, e, h1, h2⟩ := ih (n / 10) (by omega) (by omega)
      exact ⟨c, r ++ [48 + n % 10], by rw [TL.numL_step (by omega), e]; rfl, h1, h2⟩
theorem readV_num {n : Int} (h0 : 0 ≤ n) (h1 : n < 4294967296) : readV (Str.ofString (toString n)) = some n := by
  have et := tl_int h0
  have hl := num_len h0 h1
  have hlen : (Str.ofString (toString n)).length = (TL.numL n.toNat).length := by rw [TL.len_tl]; exact congrArg List.length et
  have hne := TL.numL_ne n.toNat
  have hpos : 1 ≤ (TL.numL n.toNat).length := by
    cases e : TL.numL n.toNat with
    | nil => exact absurd e hne
    | cons a r => simp
  have hall : (TL.numL n.toNat).all isD = true := List.all_eq_true.mpr fun c hc => by
    have z := TL.numL_digits n.toNat c hc
    unfold isD
    simp only [Bool.and_eq_true, decide_eq_true_eq]
    exact z
  have hd : dig10 (Str.ofString (toString n)) = true := by
    unfold dig10
    rw [et, hall, decide_eq_true (show 1 ≤ (Str.ofString (toString n)).length by omega), decide_eq_true hl]
    rfl
  have hz : ¬ ((⟨#[(Str.ofString (toString n)).cps.toList.headD 0]⟩ : Str) = "0" ∧ ¬ Str.ofString (toString n) = "0") := by
    rintro ⟨z1, z2⟩
    rw [et] at z1
    by_cases hn : n.toNat = 0
    · have : n = 0 := by omega
      subst this
      exact z2 (by decide +kernel)
    · obtain ⟨c, r, e, h2, _⟩ := numL_head n.toNat (by omega)
      rw [e] at z1
      have z3 : ((⟨#[c]⟩ : Str)).cps.toList = (("0" : Str)).cps.toList := congrArg (fun x : Str => x.cps.toList) z1
      rw [show (("0" : Str)).cps.toList = [48] by decide +kernel] at z3
      have : c = 48 := by simpa using z3
      omega
  have hv : ((NumText.digitsVal (Str.ofString (toString n)).cps.toList : Nat) : Int) = n := by
    rw [et, TL.numL_val]
    omega
  unfold readV
  rw [if_pos hd, if_neg hz, hv, if_pos h1]
theorem part_of {z : Str} (h : 32 ∉ z.cps.toList) (y : Str) : Txt.partition (z ++ " " ++ y) " " = (z, (" " : Str), y) := TL.partition_app (y := " ") (s := 32) (S := []) (by decide +kernel) h
theorem readP_num {z : Str} (hz : z = "const" ∨ z = "delay") {n : Int} (h0 : 0 ≤ n) (h1 : n < 4294967296) : readP (z ++ " " ++ Str.ofString (toString n)) = some (z, some n) := by
  have h32 : 32 ∉ z.cps.toList := by rcases hz with rfl | rfl <;> decide +kernel
  have hw : z ∈ words9 := by rcases hz with rfl | rfl <;> decide +kernel
  unfold readP
  rw [part_of h32]
  rw [if_pos hw, if_pos hz, readV_num h0 h1]
  rfl
theorem const_sp (x : Str) : (("const " : Str)) ++ x = ("const" : Str) ++ " " ++ x := by
  have e : (("const " : Str)) = ("const" : Str) ++ " " := by decide +kernel
  rw [e]
theorem delay_sp (x : Str) : (("delay " : Str)) ++ x = ("delay" : Str) ++ " " ++ x := by
  have e : (("delay " : Str)) = ("delay" : Str) ++ " " := by decide +kernel
  rw [e]
/-! ### a valid diagram -/
def PortIn (own parts : List Str) (t : Port) : Prop := (t.1 = Str.empty ∧ t.2 ∈ own) ∨ (t.1 ∈ parts ∧ isNm t.2 = true)
def BlkOk5 (x : Str) : Prop := ((readP x).isSome = true ∨ isDN x = true) ∧ 10 ∉ TL.tl x
structure VD (n : Str) (ins outs : List Str) (ps : List (Str × Str)) (ws : List (Port × Port)) : Prop where
  h : VH n ins outs
  pl : ps.length ≤ 16
  pn : ∀ p ∈ ps, isNm p.1 = true
  pd : (ps.map (·.1)).Nodup
  pb : ∀ p ∈ ps, BlkOk5 p.2
  wn : (ws.map (·.1)).Nodup
  wk : ∀ w ∈ ws, PortIn outs (ps.map (·.1)) w.1 ∧ PortIn ins (ps.map (·.1)) w.2
  bl : ∀ p ∈ ps, p.2.length ≤ 16
  ba : ∀ p ∈ ps, ∀ c ∈ p.2.cps.toList, c < 128
  wl : ws.length ≤ 100
theorem VD.ins {n : Str} {ins outs : List Str} {ps : List (Str × Str)} {ws : List (Port × Port)} (V : VD n ins outs ps ws) : ∀ x ∈ ins, isNm x = true := fun x hx => V.h.all x (List.mem_append_left _ hx)
theorem VD.outs {n : Str} {ins outs : List Str} {ps : List (Str × Str)} {ws : List (Port × Port)} (V : VD n ins outs ps ws) : ∀ x ∈ outs, isNm x = true := fun x hx => V.h.all x (List.mem_append_right _ hx)
theorem VD.pnm {n : Str} {ins outs : List Str} {ps : List (Str × Str)} {ws : List (Port × Port)} (V : VD n ins outs ps ws) : ∀ x ∈ ps.map (·.1), isNm x = true := fun x hx => by
  obtain ⟨p, hp, rfl⟩ := List.mem_map.mp hx
  exact V.pn p hp
theorem port_nil (b : Str) : portT Str.empty b = b := by
  unfold portT
  exact if_pos rfl
theorem port_dot {a b : Str} (h : isNm a = true) : portT a b = a ++ "." ++ b := by
  have := (isNm_len h).1
  unfold portT
  rw [if_neg (by omega)]
theorem read_port {own parts : List Str} (ho : ∀ x ∈ own, isNm x = true) (hp : ∀ x ∈ parts, isNm x = true) {t : Port} (h : PortIn own parts t) : readPort parts own (portT t.1 t.2) = some t := by
  obtain ⟨a, b⟩ := t
  rcases h with ⟨h1, h2⟩ | ⟨h1, h2⟩
  · have h1 : a = Str.empty := h1
    subst h1
    have h2 : b ∈ own := h2
    show readPort parts own (portT Str.empty b) = _
    rw [port_nil]
    unfold readPort
    rw [TL.partition_none (y := ".") (s := 46) (S := []) (by decide +kernel) (nm_not (ho b h2) (by decide))]
    exact (if_pos (show (b, Str.empty, Str.empty).2.1.length = 0 from rfl)).trans (if_pos h2)
  · have h1 : a ∈ parts := h1
    have h2 : isNm b = true := h2
    show readPort parts own (portT a b) = _
    rw [port_dot (hp a h1)]
    unfold readPort
    rw [TL.partition_app (y := ".") (s := 46) (S := []) (by decide +kernel) (nm_not (hp a h1) (by decide))]
    rw [if_neg (by decide +kernel : ¬ (("." : Str)).length = 0), if_pos ⟨h1, h2⟩]
/-- no sign below 46 stands in a port's text -/
theorem port_not {own parts : List Str} (ho : ∀ x ∈ own, isNm x = true) (hp : ∀ x ∈ parts, isNm x = true) {t : Port} (h : PortIn own parts t) {s : Nat} (k : s < 46) : s ∉ TL.tl (portT t.1 t.2) := by
  obtain ⟨a, b⟩ := t
  rcases h with ⟨h1, h2⟩ | ⟨h1, h2⟩
  · have h1 : a = Str.empty := h1
    subst h1
    show s ∉ TL.tl (portT Str.empty b)
    rw [port_nil]
    exact nm_not (ho b h2) (by omega)
  · show s ∉ TL.tl (portT a b)
    rw [port_dot (hp a h1), TL.tl_append, TL.tl_append]
    intro m
    rcases List.mem_append.mp m with m | m
    · rcases List.mem_append.mp m with m | m
      · exact nm_not (hp a h1) (by omega) m
      · have m : s ∈ TL.tl ("." : Str) := m
        rw [show TL.tl ("." : Str) = [46] by decide +kernel, List.mem_singleton] at m
        omega
    · exact nm_not h2 (by omega) m
/-- a port's text is not the word `part` -/
theorem port_part {own parts : List Str} (ho : ∀ x ∈ own, isNm x = true) (hp : ∀ x ∈ parts, isNm x = true) {t : Port} (h : PortIn own parts t) : portT t.1 t.2 ≠ "part" := by
  obtain ⟨a, b⟩ := t
  rcases h with ⟨h1, h2⟩ | ⟨h1, h2⟩
  · have h1 : a = Str.empty := h1
    subst h1
    show portT Str.empty b ≠ _
    rw [port_nil]
    intro e
    have := ho b h2
    rw [e] at this
    revert this
    decide +kernel
  · show portT a b ≠ _
    rw [port_dot (hp a h1)]
    intro e
    have z : 46 ∈ TL.tl (a ++ "." ++ b) := mem_mid (by decide +kernel)
    rw [e] at z
    revert z
    decide +kernel
/-! ### the reader takes the rows -/
theorem head_ok {n : Str} {ins outs : List Str} (V : VH n ins outs) : okHead (headT n ins outs) := by
  obtain ⟨e1, e2, e3⟩ := back1 V
  refine ⟨?_, ?_, ?_, ?_, ?_, ?_⟩
  · unfold isHead
    rw [e1, e2, e3]
    exact decide_eq_true rfl
  · rw [e2]
    exact V.il
  · rw [e3]
    exact V.ol
  · rw [e1]
    exact V.n
  · rw [e2, e3]
    exact List.all_eq_true.mpr V.all
  · rw [e2, e3]
    exact V.nd
theorem step_head {n : Str} {ins outs : List Str} (V : VH n ins outs) : step st0 (headT n ins outs) = some ⟨some (n, ins, outs), [], [], false⟩ := by
  obtain ⟨e1, e2, e3⟩ := back1 V
  unfold step st0
  dsimp only
  rw [if_pos (head_ok V), e1, e2, e3]
theorem row_ne {x y : Str} (h : 32 ∈ TL.tl x) (e : x = y) (k : 32 ∉ TL.tl y) : False := k (e ▸ h)
theorem sp_end : 32 ∉ TL.tl ("end" : Str) := by decide +kernel
theorem part_parts {p : Str × Str} (h : isNm p.1 = true) : partName (partT p) = p.1 ∧ partBlock (partT p) = p.2 ∧ Txt.startswith (partT p) "  part " = true ∧ partT p ≠ "end" := by
  have e : partT p = ("  part " : Str) ++ (p.1 ++ " = " ++ p.2) := by
    unfold partT
    simp only [app3]
  have hp := TL.partition_app (y := " = ") (s := 32) (S := [61, 32]) (by decide +kernel) (a := p.1) (b := p.2) (nm_not h (by decide))
  refine ⟨?_, ?_, ?_, fun z => row_ne ?_ z sp_end⟩
  · unfold partName
    rw [e, rmp_app, hp]
  · unfold partBlock
    rw [e, rmp_app, hp]
  · rw [e, starts_iff, TL.tl_append, decide_eq_true_eq, ← tl_len ("  part " : Str), List.take_left]
  · rw [e, TL.tl_append]
    exact List.mem_append_left _ (by decide +kernel)
theorem step_part {n : Str} {ins outs : List Str} {ps : List (Str × Str)} {p : Str × Str} (h16 : ps.length < 16) (hn : isNm p.1 = true) (hd : p.1 ∉ ps.map (·.1)) (hb : BlkOk5 p.2) :
    step ⟨some (n, ins, outs), ps, [], false⟩ (partT p) = some ⟨some (n, ins, outs), ps ++ [p], [], false⟩ := by
  obtain ⟨e1, e2, e3, e4⟩ := part_parts (p := p) hn
  unfold step
  dsimp only
  rw [if_neg Bool.false_ne_true, if_neg e4, if_pos e3, if_pos (show (([] : List (Port × Port)).isEmpty = true) from rfl)]
  unfold takePart
  rw [e1, e2, if_pos ⟨h16, hn, hd, hb.1⟩]
  rfl
theorem wire_parts {n : Str} {ins outs : List Str} {ps : List (Str × Str)} {ws : List (Port × Port)} (V : VD n ins outs ps ws) {w : Port × Port} (hw : w ∈ ws) :
    wireTarget (ps.map (·.1)) outs (wireT w) = some w.1 ∧ wireSource (ps.map (·.1)) ins (wireT w) = some w.2 ∧ Txt.startswith (wireT w) "  " = true ∧ Txt.startswith (wireT w) "  part " = false ∧ wireT w ≠ "end" := by
  obtain ⟨k1, k2⟩ := V.wk w hw
  have e : wireT w = ("  " : Str) ++ (portT w.1.1 w.1.2 ++ " <- " ++ portT w.2.1 w.2.2) := by
    unfold wireT
    simp only [app3]
  have h32 := port_not V.outs V.pnm k1 (s := 32) (by decide)
  have hp := TL.partition_app (y := " <- ") (s := 32) (S := [60, 45, 32]) (by decide +kernel) (a := portT w.1.1 w.1.2) (b := portT w.2.1 w.2.2) h32
  refine ⟨?_, ?_, ?_, ?_, fun z => row_ne ?_ z sp_end⟩
  · unfold wireTarget
    rw [e, rmp_app, hp]
    exact read_port V.outs V.pnm k1
  · unfold wireSource
    rw [e, rmp_app, hp]
    exact read_port V.ins V.pnm k2
  · rw [e, starts_iff, TL.tl_append, decide_eq_true_eq, ← tl_len ("  " : Str), List.take_left]
  · rw [← Bool.not_eq_true]
    intro z
    have z2 := starts_split z
    generalize cutS (wireT w) (some ((("  part " : Str)).length : Int)) none = r at z2
    rw [e] at z2
    have z3 : portT w.1.1 w.1.2 ++ " <- " ++ portT w.2.1 w.2.2 = ("part" : Str) ++ " " ++ r := by
      have l : ("  part " : Str) ++ r = ("  " : Str) ++ (("part" : Str) ++ " " ++ r) := by
        rw [← app3, ← app3]
        congr 1
      rw [l] at z2
      have := congrArg (fun x => Txt.removeprefix x "  ") z2
      rw [rmp_app, rmp_app] at this
      exact this
    have q1 := TL.partition_app (y := " ") (s := 32) (S := []) (by decide +kernel) (a := portT w.1.1 w.1.2) (b := ("<- " : Str) ++ portT w.2.1 w.2.2) h32
    have q2 := TL.partition_app (y := " ") (s := 32) (S := []) (by decide +kernel) (a := ("part" : Str)) (b := r) (by decide +kernel)
    have l2 : portT w.1.1 w.1.2 ++ " " ++ (("<- " : Str) ++ portT w.2.1 w.2.2) = portT w.1.1 w.1.2 ++ " <- " ++ portT w.2.1 w.2.2 := by
      rw [← app3, app3 (portT w.1.1 w.1.2), app3 (portT w.1.1 w.1.2)]
      have : (" " : Str) ++ "<- " = " <- " := by decide +kernel
      rw [← app3, ← app3, app3 (portT w.1.1 w.1.2), this]
    rw [l2, z3, q2] at q1
    exact port_part V.outs V.pnm k1 (Prod.mk.inj q1).1.symm
  · rw [e, TL.tl_append]
    exact List.mem_append_left _ (by decide +kernel)
theorem step_wire {n : Str} {ins outs : List Str} {ps : List (Str × Str)} {ws us : List (Port × Port)} (V : VD n ins outs ps ws) {w : Port × Port} (hw : w ∈ ws) (hd : w.1 ∉ us.map (·.1)) :
    step ⟨some (n, ins, outs), ps, us, false⟩ (wireT w) = some ⟨some (n, ins, outs), ps, us ++ [w], false⟩ := by
  obtain ⟨e1, e2, e3, e4, e5⟩ := wire_parts V hw
  unfold step
  dsimp only
  rw [if_neg Bool.false_ne_true, if_neg e5, if_neg (by rw [e4]; exact Bool.false_ne_true)]
  unfold takeWire
  rw [if_pos e3, e1, e2]
  dsimp only
  rw [if_neg hd]
  rfl
theorem run_cons {st st' : RS} {r : Str} {rs : List Str} {k : Nat} (h : step st r = some st') : run st k (r :: rs) = run st' (k + 1) rs := by
  show (match step st r with | none => _ | some st' => _) = _
  rw [h]
theorem run_parts {n : Str} {ins outs : List Str} {rest : List Str} : ∀ (ps done : List (Str × Str)) (k : Nat), (done ++ ps).length ≤ 16 → (∀ p ∈ ps, isNm p.1 = true) → ((done ++ ps).map (·.1)).Nodup → (∀ p ∈ ps, BlkOk5 p.2) →
    run ⟨some (n, ins, outs), done, [], false⟩ k (ps.map partT ++ rest) = run ⟨some (n, ins, outs), done ++ ps, [], false⟩ (k + ps.length) rest
  | [], done, k, _, _, _, _ => by rw [List.append_nil]; rfl
  | p :: ps, done, k, h1, h2, h3, h4 => by
    have hd : p.1 ∉ done.map (·.1) := fun z => by
      rw [List.map_append] at h3
      exact (List.nodup_append.mp h3).2.2 _ z _ List.mem_cons_self rfl
    rw [List.map_cons, List.cons_append, run_cons (step_part (by rw [List.length_append, List.length_cons] at h1; omega) (h2 p List.mem_cons_self) hd (h4 p List.mem_cons_self))]
    have e : done ++ p :: ps = (done ++ [p]) ++ ps := by simp
    rw [e] at h1 h3
    rw [run_parts ps (done ++ [p]) (k + 1) h1 (fun q hq => h2 q (List.mem_cons_of_mem _ hq)) h3 (fun q hq => h4 q (List.mem_cons_of_mem _ hq)), List.length_cons, e]
    congr 1
    omega
theorem run_wires {n : Str} {ins outs : List Str} {ps : List (Str × Str)} {ws : List (Port × Port)} (V : VD n ins outs ps ws) {rest : List Str} : ∀ (us done : List (Port × Port)) (k : Nat), (∀ w ∈ us, w ∈ ws) → ((done ++ us).map (·.1)).Nodup →
    run ⟨some (n, ins, outs), ps, done, false⟩ k (us.map wireT ++ rest) = run ⟨some (n, ins, outs), ps, done ++ us, false⟩ (k + us.length) rest
  | [], done, k, _, _ => by rw [List.append_nil]; rfl
  | w :: us, done, k, h1, h3 => by
    have hd : w.1 ∉ done.map (·.1) := fun z => by
      rw [List.map_append] at h3
      exact (List.nodup_append.mp h3).2.2 _ z _ List.mem_cons_self rfl
    rw [List.map_cons, List.cons_append, run_cons (step_wire V (h1 w List.mem_cons_self) hd)]
    have e : done ++ w :: us = (done ++ [w]) ++ us := by simp
    rw [e] at h3
    rw [run_wires V us (done ++ [w]) (k + 1) (fun q hq => h1 q (List.mem_cons_of_mem _ hq)) h3, List.length_cons, e]
    congr 1
    omega
/-- the rows of a valid diagram, its wires in any order, are read -/
theorem run_rows {n : Str} {ins outs : List Str} {ps : List (Str × Str)} {ws us : List (Port × Port)} (V : VD n ins outs ps ws) (hp : us.Perm ws) : run st0 0 (rowsT n ins outs ps us) = .inr ⟨some (n, ins, outs), ps, us, true⟩ := by
  have hn : (us.map (·.1)).Nodup := (hp.map (·.1)).nodup_iff.mpr V.wn
  unfold rowsT
  rw [run_cons (step_head V.h), run_parts ps [] _ V.pl V.pn V.pd V.pb, List.nil_append, run_wires V us [] _ (fun w hw => hp.mem_iff.mp hw) hn, List.nil_append]
  have e : step ⟨some (n, ins, outs), ps, us, false⟩ "end" = some ⟨some (n, ins, outs), ps, us, true⟩ := by
    unfold step
    dsimp only
    rw [if_neg Bool.false_ne_true, if_pos rfl]
  rw [run_cons e]
  rfl
theorem not_app {s : Nat} {a b : Str} (h : s ∉ TL.tl a) (k : s ∉ TL.tl b) : s ∉ TL.tl (a ++ b) := fun z => by
  rw [TL.tl_append] at z
  rcases List.mem_append.mp z with z | z
  · exact h z
  · exact k z
theorem rows_10 {n : Str} {ins outs : List Str} {ps : List (Str × Str)} {ws us : List (Port × Port)} (V : VD n ins outs ps ws) (hp : us.Perm ws) : ∀ r ∈ rowsT n ins outs ps us, 10 ∉ TL.tl r := fun r hr => by
  unfold rowsT at hr
  rcases List.mem_cons.mp hr with rfl | hr
  · unfold headT
    refine not_app (not_app (not_app (not_app (not_app (not_app (by decide +kernel) (nm_not (dn_nm V.h.n) (by decide))) (by decide +kernel)) (J_not V.ins (by decide) (by decide))) (by decide +kernel)) ?_) (by decide +kernel)
    rw [tl_O]
    have : ∀ l : List (List Nat), (∀ p ∈ l, 10 ∉ p) → 10 ∉ oL l := fun l h z => by
      cases l with
      | nil => cases z
      | cons p r =>
        have z : 10 ∈ 32 :: TL.joinL [32] (p :: r) := z
        rcases List.mem_cons.mp z with z | z
        · exact absurd z (by decide)
        · rcases join_mem _ _ z with z | ⟨q, hq, z⟩
          · exact absurd z (by decide)
          · exact h q hq z
    refine this _ fun p hp => ?_
    obtain ⟨o, ho, rfl⟩ := List.mem_map.mp hp
    exact nm_not (V.outs o ho) (by decide)
  · rcases List.mem_append.mp hr with hr | hr
    · obtain ⟨p, hp, rfl⟩ := List.mem_map.mp hr
      unfold partT
      exact not_app (not_app (not_app (by decide +kernel) (nm_not (V.pn p hp) (by decide))) (by decide +kernel)) (V.pb p hp).2
    · rcases List.mem_append.mp hr with hr | hr
      · obtain ⟨w, hw, rfl⟩ := List.mem_map.mp hr
        obtain ⟨k1, k2⟩ := V.wk w (hp.mem_iff.mp hw)
        unfold wireT
        exact not_app (not_app (not_app (by decide +kernel) (port_not V.outs V.pnm k1 (by decide))) (by decide +kernel)) (port_not V.ins V.pnm k2 (by decide))
      · rw [List.mem_singleton.mp hr]
        decide +kernel
/-- the text of the rows, cut at its newlines -/
theorem split_rows {n : Str} {ins outs : List Str} {ps : List (Str × Str)} {ws us : List (Port × Port)} (V : VD n ins outs ps ws) (hp : us.Perm ws) : Txt.split (Txt.join "\n" (rowsT n ins outs ps us)) "\n" = rowsT n ins outs ps us :=
  TL.split_join (y := "\n") (s := 10) (S := []) (by decide +kernel) (by decide +kernel) (by unfold rowsT; exact List.cons_ne_nil _ _) (rows_10 V hp)
end K5
namespace K5
open PySem L2 Own StX ClX NdefX
def Asc (x : Str) : Prop := ∀ c ∈ x.cps.toList, c < 128
structure Sub (p x : Str) : Prop where
  l : p.length ≤ x.length
  m : ∀ c ∈ TL.tl p, c ∈ TL.tl x
theorem Sub.asc {p x : Str} (h : Sub p x) (k : Asc x) : Asc p := fun c e => k c (h.m c e)
theorem sub_cut (x : Str) (lo hi : Option Int) : Sub (cutS x lo hi) x := ⟨cutS_length x lo hi, fun c h => List.mem_of_mem_drop (List.mem_of_mem_take h)⟩
def n32 (x : Str) : Nat := (TL.tl x).count 32
theorem count_cut (x : Str) (lo hi : Option Int) : n32 (cutS x lo hi) ≤ n32 x := by
  unfold n32
  exact ((List.take_sublist _ _).trans (List.drop_sublist _ _)).count_le 32
theorem sum_plus (c : Nat) : ∀ l : List Str, (l.map fun t => t.length + c).sum = (l.map (·.length)).sum + l.length * c
  | [] => by simp
  | a :: r => by
    have := sum_plus c r
    simp only [List.map_cons, List.sum_cons, List.length_cons]
    rw [Nat.succ_mul]
    omega
theorem dS (a b : Str) : decide (V.str a = V.str b) = decide (a = b) := decide_eq_decide.mpr ⟨V.str.inj, congrArg V.str⟩
structure TOk (n b : Nat) (x : Str) : Prop where
  l : x.length ≤ n
  c : n32 x ≤ b
  a : Asc x
theorem asc_ok {x : Str} (h : Asc x) : PyData.canLay0 (.str x) = true := by
  show (x.cps.all (· < 0x110000)) = true
  rw [← Array.all_toList]
  exact List.all_eq_true.mpr fun c hc => decide_eq_true (by have := h c hc; omega)
theorem ascs_shaped (l : List Str) (h : ∀ x ∈ l, Asc x) : SeqAt.shaped (.list (l.map PyData.str)) = true := by
  unfold SeqAt.shaped
  have h1 : ∀ l : List Str, (∀ c ∈ l, Asc c) → PyData.canLayAll0 (l.map PyData.str) = true ∧ PyData.depthAll (l.map PyData.str) ≤ 1 := by
    intro l
    induction l with
    | nil => exact fun _ => ⟨rfl, Nat.zero_le _⟩
    | cons c r ih =>
      intro h
      obtain ⟨a, b⟩ := ih fun d hd => h d (List.mem_cons_of_mem _ hd)
      refine ⟨?_, ?_⟩
      · simp only [List.map_cons, PyData.canLayAll0, a, asc_ok (h c List.mem_cons_self), Bool.and_self]
      · simp only [List.map_cons, PyData.depthAll, PyData.depth]
        omega
  obtain ⟨a, b⟩ := h1 l h
  rw [Bool.and_eq_true]
  refine ⟨by simpa only [PyData.canLay0] using a, decide_eq_true ?_⟩
  simp only [PyData.depth]
  omega
theorem dp_strs {K : PySem.W.Frag} {H : Hp} : ∀ l : List Str, DpAll K H (l.map V.str) (l.map PyData.str)
  | [] => .nil
  | x :: r => .cons (.str _) (dp_strs r)
theorem eqv_empty (l : List Str) : PyData.eqv (.list (l.map PyData.str)) (.list []) = l.isEmpty := by
  cases l <;> rfl
theorem sep_nl : Sep "\n" := ⟨by decide +kernel, by decide +kernel⟩
theorem SameX.new {a p : Addr} {o : HO} {H H1 : Hp} (h : SameX a H H1) (hn : H p = none) : SameX a H (upd H1 p o) := fun b u n e => by
  rw [upd_ne (ne_of_none e hn)]
  exact h b u n e
theorem seqIx {i : Int} {m : Nat} (h0 : 0 ≤ i) (h1 : i < m) : seqIndex? i m = some i.toNat := by
  unfold seqIndex?
  simp only [if_neg (show ¬ i < 0 by omega)]
  rw [if_pos (by rw [Bool.and_eq_true, decide_eq_true_eq, decide_eq_true_eq]; exact ⟨h0, h1⟩)]
theorem ixOk {i : Int} {m : Nat} (h0 : 0 ≤ i) (h1 : i < m) : ixN m i = some i.toNat := by
  unfold ixN
  rw [if_pos h0, if_pos h1]
end K5
/-! OwnK: a text, once or many times. -/
namespace Own
open PySem PySem.Spec PyProof.Rows L2
def repT (x : Str) (n : Int) : Str := ⟨(List.replicate n.toNat x.cps).foldl (· ++ ·) #[]⟩
theorem rep_tl (a : Array Nat) : ∀ (n : Nat) (acc : Array Nat), ((List.replicate n a).foldl (· ++ ·) acc).toList = acc.toList ++ (List.replicate n a.toList).flatten
  | 0, acc => by simp
  | n + 1, acc => by
    rw [List.replicate_succ, List.foldl_cons, rep_tl a n, List.replicate_succ, List.flatten_cons, Array.toList_append, List.append_assoc]
theorem repT_tl (x : Str) (n : Int) : (repT x n).cps.toList = (List.replicate n.toNat x.cps.toList).flatten := by
  unfold repT
  rw [rep_tl]
  rfl
theorem repT_len (x : Str) (n : Int) : (repT x n).length = n.toNat * x.length := by
  have e : (repT x n).length = (repT x n).cps.toList.length := by simp [Str.length]
  rw [e, repT_tl]
  simp [Str.length]
theorem repT_one (x : Str) : repT x 1 = x := by
  unfold repT
  show (⟨(#[] : Array Nat) ++ x.cps⟩ : Str) = x
  rw [Array.empty_append]
def rMulN : R2 := fun x y H Q => ∃ (i : Str) (n : Int), x = .str i ∧ y = .int n ∧ 1 ≤ n ∧ n ≤ 100000 ∧ 0 < i.length ∧ i.length ≤ 100 ∧ Q (.str (repT i n)) H
theorem op_mul_strN {X : Cx} : OpR X (binaryOp .Mult) rMulN := by
  intro pins s σ H x y v u Q I rx ry h
  obtain ⟨i, n, rfl, rfl, h2, h3, h4, h5, q⟩ := h
  obtain ⟨t, rfl⟩ := rx
  obtain ⟨t', rfl⟩ := ry
  have hn1 : ¬ n < 1 := by omega
  have hm : i.length * n.toNat ≤ 10000000 := by
    have : n.toNat ≤ 100000 := by omega
    exact Nat.mul_le_mul h5 this
  have hz : (repT i n).length ≤ sizeLine := by
    rw [repT_len, sizeLine_eq, Nat.mul_comm]
    omega
  refine PySem.P.mul_str (by rw [Bool.or_eq_false_iff]; exact ⟨decide_eq_false (by omega), decide_eq_false (by omega)⟩) (fun _ _ => ?_) (fun _ _ => ?_) ?_
  · have e : ((2 : Int) ^ 63 - 1) = 9223372036854775807 := by decide
    have e2 : (i.length : Int) * n = ((i.length * n.toNat : Nat) : Int) := by
      rw [Int.natCast_mul, Int.toNat_of_nonneg (by omega)]
    have h6 : (i.length : Int) ≤ (2 ^ 63 - 1) / n := Int.le_ediv_of_mul_le (by omega) (by rw [e2, e]; omega)
    omega
  · show decide (i.length * n.toNat > sizeLine) = false
    exact decide_eq_false (by rw [sizeLine_eq]; omega)
  · rw [if_neg hn1]
    by_cases h1 : n = 1
    · subst h1
      have hc : ((1 : Int) == 1 || i.length == 0) = true := rfl
      rw [if_pos hc]
      rw [repT_one] at q
      exact ⟨.str i, H, I, ⟨_, rfl⟩, q⟩
    · have hc : (n == 1 || i.length == 0) = false := by
        rw [Bool.or_eq_false_iff]
        exact ⟨beq_eq_false_iff_ne.mpr h1, beq_eq_false_iff_ne.mpr (by omega)⟩
      rw [if_neg (by rw [hc]; exact Bool.false_ne_true)]
      exact ⟨hz, ⟨.str (repT i n), H, I.tok _, ⟨_, rfl⟩, q⟩⟩
end Own
namespace K5
open PySem L2 Own StX ClX NdefX
abbrev sFeed : Stmt := top 28
abbrev sTakeL : Stmt := top 29
abbrev sPickL : Stmt := top 30
def spFeed (K : PySem.W.Frag) : Sp := fun vs H Q _ => ∃ (a : Addr) (ns : List Int) (k : Int), vs = [.ref a, .int k] ∧ SqL K H a (ns.map V.int) ∧ 0 ≤ k ∧ k ≤ 100 ∧
  ∀ p d s, 0 ≤ d → H p = none → Q (.ref p) (upd H p (.lst [.int d, .int s]))
def spTakeL : Sp := fun vs H Q _ => ∃ (a : Addr) (d s m : Int), vs = [.ref a, .int m] ∧ H a = some (.lst [.int d, .int s]) ∧ 0 ≤ d ∧ 0 < m ∧ m ≤ 8589934592 ∧
  ∀ r d' s', 0 ≤ d' → 0 ≤ r → r < m → Q (.int r) (upd H a (.lst [.int d', .int s']))
def spPickS : Sp := fun vs H Q _ => ∃ (a : Addr) (d s : Int) (z : Str), vs = [.ref a, .str z] ∧ H a = some (.lst [.int d, .int s]) ∧ 0 ≤ d ∧ 0 < z.length ∧ z.length ≤ 1000 ∧
  ∀ c d' s', c ∈ z.cps.toList → 0 ≤ d' → Q (.str ⟨#[c]⟩) (upd H a (.lst [.int d', .int s']))
def spPick : Sp := fun vs H Q _ => ∃ (a l : Addr) (d s : Int) (xs : List V), vs = [.ref a, .ref l] ∧ H a = some (.lst [.int d, .int s]) ∧ 0 ≤ d ∧ a ≠ l ∧ H l = some (.lst xs) ∧ 0 < xs.length ∧ xs.length ≤ 1000 ∧
  ∀ (i : Nat) x d' s', xs[i]? = some x → 0 ≤ d' → Q x (upd H a (.lst [.int d', .int s']))
def rMulZ : R2 := fun x y H Q => ∃ (i : Str) (n : Int), x = .str i ∧ y = .int n ∧ 0 ≤ n ∧ n ≤ 100000 ∧ 0 < i.length ∧ i.length ≤ 100 ∧ Q (.str (repT i n)) H
theorem op_mul_strZ {X : Cx} : OpR X (binaryOp .Mult) rMulZ := by
  intro pins s σ H x y v u Q I rx ry h
  obtain ⟨i, n, ex, ey, h2, h3, h4, h5, q⟩ := h
  by_cases hn : 1 ≤ n
  · exact op_mul_strN pins s σ H x y v u Q I rx ry ⟨i, n, ex, ey, hn, h3, h4, h5, q⟩
  subst ex
  subst ey
  obtain rfl : n = 0 := by omega
  obtain ⟨t, rfl⟩ := rx
  obtain ⟨t', rfl⟩ := ry
  refine PySem.P.mul_str (by rw [Bool.or_eq_false_iff]; exact ⟨decide_eq_false (by omega), decide_eq_false (by omega)⟩) (fun _ _ => ?_) (fun _ _ => ?_) ?_
  · omega
  · show decide (i.length * (0 : Int).toNat > sizeLine) = false
    exact decide_eq_false (by rw [sizeLine_eq]; simp)
  · rw [if_pos (by omega)]
    exact ⟨Nat.zero_le _, .str (repT i 0), H, I.tok _, ⟨_, rfl⟩, q⟩
section
variable {P : Program} {w : World} {K : PySem.W.Frag} {mg : Str → Option Value} {base : Heap}
theorem scFe : FnScope ["script", "k", "cell", "digits", "state"] ["script", "k"] (defScope sFeed) := ⟨rfl, rfl, rfl, by decide +kernel, rfl, by decide +kernel, by decide +kernel⟩
theorem ok_feed {f : Addr} {fd : FuncData} (F : Fun K "_law_feed" "_law_feed" sFeed f fd) (mlen : mg "len" = none) (mmax : mg "max" = none) (mabs : mg "abs" = none) : FnOk P w K mg base CX0 1 f fd ["script", "k"] (spFeed K) := by
  refine F.ok scFe (fun vs H Q E h => ?_) (fun cdv A outer s H vs Q E hr h => ?_)
  · obtain ⟨a, ns, k, rfl, _⟩ := h
    rfl
  obtain ⟨a, ns, k, rfl, hS, h0, h1, q⟩ := h
  refine ⟨_, pss_join (ps_set (i := 2) scFe.nd rfl (.inl rfl) (pe_ifExp (pt_cmpR op_lt (pv 1) (pe_callB call_len_seq (by rfl) mlen PySem.boot_len (pa_cons (pv 0) pa_nil)) (nomark _)) (pe_ix ix_list (pv 0) (pv 1) (fun _ _ => rfl)) (pe_op op_add (pe_op op_mul pe_int (pv 1)) pe_int)))
    (pss_cons (ps_set (i := 3) scFe.nd rfl (.inl rfl) (pe_callB (call_max2 rfl) (by rfl) mmax (by decide +kernel) (pa_cons pe_int (pa_cons (pe_op op_sub (pe_callB call_abs (by rfl) mabs (by decide +kernel) (pa_cons (pv 2) pa_nil)) (pe_op op_pow pe_int pe_int)) pa_nil))))
    (pss_cons (ps_set (i := 4) scFe.nd rfl (.inl rfl) (pe_op op_mod (pe_op op_add (pe_op op_add (pe_op op_mul (pv 2) pe_int) (pe_op op_mul pe_int (pv 1))) pe_int) pe_int))
    (pss_one (ps_ret (pe_lst (pa_cons (pv 3) (pa_cons (pv 4) pa_nil))))))), ?_⟩
  refine ⟨fun σ H' => H' = H ∧ ∃ c : Int, σ = [some (.ref a), some (.int k), some (.int c), none, none], ?_, ?_⟩
  · refine ⟨_, rfl, _, rfl, a, _, rfl, .inl hS, _, _, rfl, rfl, _, rfl, ?_⟩
    by_cases hc : k < (ns.map V.int).length
    · rw [decide_eq_true hc]
      have hj : k.toNat < ns.length := by rw [List.length_map] at hc; omega
      exact iteT ⟨_, rfl, _, rfl, a, _, _, .int (ns[k.toNat]), rfl, rfl, hS, at_of (j := k.toNat) (by omega) (by simp [hj]), rfl, _, rfl⟩
    · rw [decide_eq_false hc]
      exact iteF ⟨_, rfl, _, _, rfl, rfl, .inl ⟨by decide, by decide⟩, _, _, rfl, rfl, rfl, _, rfl⟩
  rintro σ H' ⟨rfl, c, rfl⟩
  refine ⟨_, rfl, _, rfl, _, _, rfl, rfl, ⟨by decide, by decide, by decide⟩, _, _, rfl, rfl, _, _, rfl, ?_⟩
  refine ⟨_, rfl, _, _, rfl, rfl, .inr ⟨by decide, by decide⟩, _, rfl, _, _, rfl, rfl, .inl ⟨by decide, by decide⟩, _, _, rfl, rfl, _, _, rfl, rfl, _, _, rfl, rfl, (by show (0 : Int) < 2305843009213693951; decide), ?_⟩
  refine ⟨_, rfl, _, rfl, small1 (by show 2 ≤ 8; decide), fun p hp => q p _ _ ?_ hp⟩
  split <;> omega
theorem scTkL : FnScope ["feed", "many", "digit"] ["feed", "many"] (defScope sTakeL) := ⟨rfl, rfl, rfl, by decide +kernel, rfl, by decide +kernel, by decide +kernel⟩
theorem log_many {m : Int} (h : 0 < m) (h2 : m ≤ 8589934592) : m.natAbs.log2 < 9000 := by
  have h2 : m.natAbs < 2 ^ 34 := by omega
  exact Nat.lt_trans (PySem.Flt.log2_lt_of (by decide) h2) (by decide)
theorem ok_takeL {f : Addr} {fd : FuncData} (F : Fun K "_law_take" "_law_take" sTakeL f fd) : FnOk P w K mg base CX0 1 f fd ["feed", "many"] spTakeL := by
  refine F.ok scTkL (fun vs H Q E h => ?_) (fun cdv A outer s H vs Q E hr h => ?_)
  · obtain ⟨a, d, s, m, rfl, _⟩ := h
    rfl
  obtain ⟨a, d, s, m, rfl, ha, h0, hm, hm2, k⟩ := h
  have at0 : ∀ x y : Int, atI [V.int x, V.int y] 0 = some (.int x) := fun x y => at_of (j := 0) rfl rfl
  have at1 : ∀ x y : Int, atI [V.int x, V.int y] 1 = some (.int y) := fun x y => at_of (j := 1) rfl rfl
  have ix0 : ixN 2 0 = some 0 := by decide +kernel
  have ix1 : ixN 2 1 = some 1 := by decide +kernel
  refine ⟨_, pss_cons (ps_if (pt_cmpR op_gt (pe_ix ix_list (pv 0) pe_int (fun _ _ => rfl)) pe_int (nomark _))
      (pss_cons (ps_set (i := 2) scTkL.nd rfl (.inl rfl) (pe_op op_mod (pe_ix ix_list (pv 0) pe_int (fun _ _ => rfl)) (pv 1)))
      (pss_cons (ps_asg (pe_op op_fdivW (pe_ix ix_list (pv 0) pe_int (fun _ _ => rfl)) (pv 1)) (pg_sub (pv 0) pe_int set_list))
      (pss_one (ps_ret (pv 2))))) pss_nil)
    (pss_cons (ps_asg (pe_op op_mod (pe_op op_add (pe_op op_mul (pe_ix ix_list (pv 0) pe_int (fun _ _ => rfl)) pe_int) pe_int) pe_int) (pg_sub (pv 0) pe_int set_list))
    (pss_one (ps_ret (pe_op op_mod (pe_op op_fdiv (pe_ix ix_list (pv 0) pe_int (fun _ _ => rfl)) pe_int) (pv 1))))), ?_⟩
  refine ⟨_, rfl, a, _, _, _, rfl, rfl, .of ha, at0 _ _, _, _, rfl, rfl, _, rfl, ?_⟩
  by_cases hc : 0 < d
  · rw [decide_eq_true hc]
    refine iteT ⟨_, rfl, a, _, _, _, rfl, rfl, .of ha, at0 _ _, _, rfl, _, _, rfl, rfl, hm, ?_⟩
    refine ⟨_, rfl, a, _, _, _, rfl, rfl, .of ha, at0 _ _, _, rfl, _, _, rfl, rfl, ⟨hm, log_many hm hm2⟩, _, rfl, a, _, _, 0, rfl, rfl, ha, ix0, ?_⟩
    exact ⟨_, rfl, k _ _ s (Int.ediv_nonneg h0 (by omega)) (Int.emod_nonneg _ (by omega)) (Int.emod_lt_of_pos _ hm)⟩
  · rw [decide_eq_false hc]
    refine iteF ⟨_, rfl, a, _, _, _, rfl, rfl, .of ha, at1 _ _, _, _, rfl, rfl, .inr ⟨by decide, by decide⟩, _, _, rfl, rfl, _, _, rfl, rfl, (by show (0 : Int) < 2305843009213693951; decide), _, rfl, a, _, _, 1, rfl, rfl, ha, ix1, ?_⟩
    refine ⟨_, rfl, a, _, _, _, rfl, rfl, .of upd_same, at1 _ _, _, _, rfl, rfl, ⟨by decide, by decide⟩, _, rfl, _, _, rfl, rfl, hm, ?_⟩
    exact k _ d _ h0 (Int.emod_nonneg _ (by omega)) (Int.emod_lt_of_pos _ hm)

theorem scPk : FnScope ["feed", "some"] ["feed", "some"] (defScope sPickL) := ⟨rfl, rfl, rfl, by decide +kernel, rfl, by decide +kernel, by decide +kernel⟩
theorem ok_picks {f fT : Addr} {fd fdT : FuncData} (F : Fun K "_law_pick" "_law_pick" sPickL f fd) (GT : FnOk P w K mg base CX0 1 fT fdT ["feed", "many"] spTakeL) (mT : mg "_law_take" = some (.ref fT)) (kT : PySem.W.keepIn K (.ref fT) = true) (bT : Binds K fdT ["feed", "many"] []) (mlen : mg "len" = none) :
    FnOk P w K mg base CX0 2 f fd ["feed", "some"] spPickS := by
  refine F.ok scPk (fun vs H Q E h => ?_) (fun cdv A outer s H vs Q E hr h => ?_)
  · obtain ⟨a, d, s, z, rfl, _⟩ := h
    rfl
  obtain ⟨a, d, s, z, rfl, ha, h0, hz0, hz1, k⟩ := h
  refine ⟨_, pss_one (ps_ret (pe_ix ix_str (pv 1) (pe_call GT hr rfl mT kT bT .nil pass0 (pa_cons (pv 0) (pa_cons (pe_callB call_len_str (by rfl) mlen PySem.boot_len (pa_cons (pv 1) pa_nil)) pa_nil))) (fun _ _ => rfl))), ?_⟩
  have hzs : z.length ≤ sizeLine := by rw [sizeLine_eq]; omega
  refine ⟨_, rfl, _, rfl, _, rfl, z, rfl, hzs, a, d, s, z.length, rfl, ha, h0, by omega, by omega, fun r d' s' hd hr0 hr1 => ?_⟩
  have hj : r.toNat < z.cps.toList.length := by
    rw [Array.length_toList]
    show r.toNat < z.length
    omega
  exact ⟨z, r, z.cps.toList[r.toNat], rfl, rfl, hzs, by (have q := atI_nat (xs := z.cps.toList) (j := r.toNat) (List.getElem?_eq_getElem hj); rwa [Int.toNat_of_nonneg hr0] at q), k _ d' s' (List.getElem_mem _) hd⟩
theorem ok_pick {f fT : Addr} {fd fdT : FuncData} (F : Fun K "_law_pick" "_law_pick" sPickL f fd) (GT : FnOk P w K mg base CX0 1 fT fdT ["feed", "many"] spTakeL) (mT : mg "_law_take" = some (.ref fT)) (kT : PySem.W.keepIn K (.ref fT) = true) (bT : Binds K fdT ["feed", "many"] []) (mlen : mg "len" = none) :
    FnOk P w K mg base CX0 2 f fd ["feed", "some"] spPick := by
  refine F.ok scPk (fun vs H Q E h => ?_) (fun cdv A outer s H vs Q E hr h => ?_)
  · obtain ⟨a, l, d, s, xs, rfl, _⟩ := h
    rfl
  obtain ⟨a, l, d, s, xs, rfl, ha, h0, hne, hl, hx0, hx1, k⟩ := h
  refine ⟨_, pss_one (ps_ret (pe_ix ix_list (pv 1) (pe_call GT hr rfl mT kT bT .nil pass0 (pa_cons (pv 0) (pa_cons (pe_callB call_len_seq (by rfl) mlen PySem.boot_len (pa_cons (pv 1) pa_nil)) pa_nil))) (fun _ _ => rfl))), ?_⟩
  refine ⟨_, rfl, _, rfl, _, rfl, l, xs, rfl, .inl (.of hl), a, d, s, xs.length, rfl, ha, h0, by omega, by omega, fun r d' s' hd hr0 hr1 => ?_⟩
  have hj : r.toNat < xs.length := by omega
  exact ⟨l, xs, r, xs[r.toNat], rfl, rfl, .of ((upd_ne (Ne.symm hne)).trans hl), at_of (j := r.toNat) (by omega) (List.getElem?_eq_getElem hj), k r.toNat _ d' s' (List.getElem?_eq_getElem hj) hd⟩
end
end K5
namespace K5
open PySem L2 Own StX ClX NdefX
abbrev sWords : Stmt := top 31
/-- a short text of letters -/
def Wd (n : Nat) (x : Str) : Prop := x.length ≤ n ∧ ∀ c ∈ x.cps.toList, 97 ≤ c ∧ c ≤ 122
theorem Wd.app {m n k : Nat} {x y : Str} (h : Wd m x) (g : Wd n y) (e : m + n ≤ k) : Wd k (x ++ y) := by
  refine ⟨by rw [sl]; have := h.1; have := g.1; omega, fun c hc => ?_⟩
  have hc : c ∈ TL.tl (x ++ y) := hc
  rw [TL.tl_append] at hc
  rcases List.mem_append.mp hc with z | z
  · exact h.2 c z
  · exact g.2 c z
theorem Wd.mono {m n : Nat} {x : Str} (h : Wd m x) (e : m ≤ n) : Wd n x := ⟨Nat.le_trans h.1 e, h.2⟩
theorem Wd.one {c : Nat} (h : 97 ≤ c ∧ c ≤ 122) : Wd 1 (⟨#[c]⟩ : Str) := ⟨Nat.le_refl _, fun d hd => by
  have hd : d ∈ [c] := hd
  rw [List.mem_singleton] at hd
  rw [hd]
  exact h⟩
theorem Wd.rep {c : Nat} (h : 97 ≤ c ∧ c ≤ 122) {r : Int} {n : Nat} (h0 : 0 ≤ r) (h1 : r ≤ n) : Wd n (repT ⟨#[c]⟩ r) := by
  refine ⟨by rw [repT_len]; show r.toNat * 1 ≤ n; omega, fun d hd => ?_⟩
  rw [repT_tl, List.mem_flatten] at hd
  obtain ⟨l, hl, hd⟩ := hd
  rw [List.eq_of_mem_replicate hl] at hd
  have hd : d ∈ [c] := hd
  rw [List.mem_singleton] at hd
  rw [hd]
  exact h
def SameF (a : Addr) (H H' : Hp) : Prop := SameX a H H'
def alphabet : Str := "abcdefghijklmnopqrstuvwxyz"
theorem alpha_len : alphabet.cps.toList.length = 26 := by decide +kernel
theorem alpha_at : ∀ i < 26, alphabet.cps.toList[i]? = some (97 + i) := by decide +kernel
/-- the sign that tells the words apart -/
def keyN (way : Int) (x : Str) : Option Nat := if way = 0 then (TL.tl x).head? else (TL.tl x).getLast?
theorem nm_of {x : Str} (h1 : 1 ≤ x.length) (h : Wd 8 x) (hr : x ∉ reserved) : isNm x = true := by
  unfold isNm
  rw [decide_eq_true h1, decide_eq_true h.1, decide_eq_false hr]
  show (x.cps.toList.all isL) = true
  rw [List.all_eq_true]
  intro c hc
  have := h.2 c hc
  unfold isL
  simp only [Bool.and_eq_true, decide_eq_true_eq]
  omega
theorem res_tl {x : Str} (h : x ∈ reserved) : TL.tl x = [98, 108, 111, 99, 107] ∨ TL.tl x = [112, 97, 114, 116] ∨ TL.tl x = [101, 110, 100] ∨ TL.tl x = [115, 101, 108, 102] := by
  have h : x ∈ (["block", "part", "end", "self"] : List Str) := h
  simp only [List.mem_cons, List.not_mem_nil, or_false] at h
  rcases h with rfl | rfl | rfl | rfl
  · exact .inl (by decide +kernel)
  · exact .inr (.inl (by decide +kernel))
  · exact .inr (.inr (.inl (by decide +kernel)))
  · exact .inr (.inr (.inr (by decide +kernel)))
theorem no_res0 {x : Str} {s c m : Nat} (e : TL.tl x = s :: List.replicate m c) : x ∉ reserved := fun h => by
  have key : ∀ (a b d : Nat) (r : List Nat), s :: List.replicate m c = a :: b :: d :: r → b = d := fun a b d r q => by
    have q1 := congrArg (fun l => l[1]?) q
    have q2 := congrArg (fun l => l[2]?) q
    simp [List.getElem?_replicate] at q1 q2
    omega
  rcases res_tl h with z | z | z | z <;> rw [e] at z <;> exact absurd (key _ _ _ _ z) (by decide)
theorem no_res1 {x : Str} {s c m : Nat} (e : TL.tl x = List.replicate m c ++ [s]) : x ∉ reserved := fun h => by
  have key : ∀ (a b d : Nat) (r : List Nat), List.replicate m c ++ [s] = a :: b :: d :: r → a = b := fun a b d r q => by
    have ql := congrArg List.length q
    rw [List.length_append, List.length_replicate] at ql
    simp only [List.length_cons, List.length_nil] at ql
    have q0 := congrArg (fun l => l[0]?) q
    have q1 := congrArg (fun l => l[1]?) q
    rw [List.getElem?_append_left (by rw [List.length_replicate]; omega), List.getElem?_replicate, if_pos (by omega)] at q0
    rw [List.getElem?_append_left (by rw [List.length_replicate]; omega), List.getElem?_replicate, if_pos (by omega)] at q1
    have z0 : some c = some a := q0
    have z1 : some c = some b := q1
    exact Option.some.inj (z0.symm.trans z1)
  rcases res_tl h with z | z | z | z <;> rw [e] at z <;> exact absurd (key _ _ _ _ z) (by decide)
theorem no_res2 {x : Str} {s m : Nat} (h1 : 1 ≤ m) (e : TL.tl x = List.replicate m 113 ++ [s]) : x ∉ reserved := fun h => by
  have key : ∀ (a : Nat) (r : List Nat), List.replicate m 113 ++ [s] = a :: r → a = 113 := fun a r q => by
    have q0 := congrArg (fun l => l[0]?) q
    rw [List.getElem?_append_left (by rw [List.length_replicate]; omega), List.getElem?_replicate, if_pos (by omega)] at q0
    have z0 : some 113 = some a := q0
    exact (Option.some.inj z0).symm
  rcases res_tl h with z | z | z | z <;> rw [e] at z <;> exact absurd (key _ _ z) (by decide)
theorem rep_tl {c : Nat} {r : Int} : TL.tl (repT ⟨#[c]⟩ r) = List.replicate r.toNat c := by
  show (repT _ r).cps.toList = _
  rw [repT_tl]
  exact List.flatten_replicate_singleton
/-- a word, told by its sign -/
structure WdK (way : Int) (s : Nat) (x : Str) : Prop where
  w : Wd 8 x
  n : isNm x = true
  k : keyN way x = some s
theorem WdK.of {way : Int} {s : Nat} {x : Str} (w : Wd 8 x) (h1 : 1 ≤ x.length) (hr : x ∉ reserved) (k : keyN way x = some s) : WdK way s x := ⟨w, nm_of h1 w hr, k⟩
def sgnK (first : Int) (k : Nat) : Nat := 97 + ((first + 5 * (k : Int)) % 26).toNat
theorem sgn_inj {first : Int} {i j : Nat} (hi : i < 20) (hj : j < 20) (e : sgnK first i = sgnK first j) : i = j := by
  unfold sgnK at e
  have a0 := Int.emod_nonneg (first + 5 * (i : Int)) (show (26 : Int) ≠ 0 by decide)
  have b0 := Int.emod_nonneg (first + 5 * (j : Int)) (show (26 : Int) ≠ 0 by decide)
  omega
theorem words_nodup {first way : Int} {ws : List Str} (hl : ws.length ≤ 20) (h : ∀ (k : Nat) (x : Str), ws[k]? = some x → WdK way (sgnK first k) x) : ws.Nodup := by
  refine List.pairwise_iff_getElem.mpr fun i j hi hj hij e => ?_
  have k1 := (h i _ (List.getElem?_eq_getElem hi)).k
  have k2 := (h j _ (List.getElem?_eq_getElem hj)).k
  rw [e, k2] at k1
  have := sgn_inj (by omega) (by omega) (Option.some.inj k1)
  omega
def spWords : Sp := fun vs H Q _ => ∃ (a : Addr) (d s : Int) (size : Nat), vs = [.ref a, .int size] ∧ H a = some (.lst [.int d, .int s]) ∧ 0 ≤ d ∧ size ≤ 20 ∧
  ∀ (L : Addr) (ws : List Str) d' s' H', SameX a H H' → H' a = some (.lst [.int d', .int s']) → 0 ≤ d' → H L = none → H' L = some (.lst (ws.map V.str)) → ws.length = size → (∀ x ∈ ws, Wd 8 x ∧ isNm x = true) → ws.Nodup → Q (.ref L) H'
section
variable {P : Program} {w : World} {K : PySem.W.Frag} {mg : Str → Option Value} {base : Heap}
abbrev nWo : List Str := ["feed", "size", "letters", "first", "tail", "way", "found", "k", "sign", "name"]
theorem scWo : FnScope nWo ["feed", "size"] (defScope sWords) := ⟨rfl, rfl, rfl, by decide +kernel, rfl, by decide +kernel, by decide +kernel⟩
theorem ok_words {f fT : Addr} {fd fdT : FuncData} (F : Fun K "_law_words" "_law_words" sWords f fd) (GT : FnOk P w K mg base CX0 1 fT fdT ["feed", "many"] spTakeL) (mT : mg "_law_take" = some (.ref fT)) (kT : PySem.W.keepIn K (.ref fT) = true) (bT : Binds K fdT ["feed", "many"] []) (mr : mg "range" = none) :
    FnOk P w K mg base CX0 2 f fd ["feed", "size"] spWords := by
  refine F.ok scWo (fun vs H Q E h => ?_) (fun cdv A outer s H vs Q E hr h => ?_)
  · obtain ⟨a, d, s, size, rfl, _⟩ := h
    rfl
  obtain ⟨a, d, s0, size, rfl, ha, hd, hsz, k⟩ := h
  refine ⟨_, pss_cons (ps_set (i := 2) scWo.nd rfl (.inl rfl) pe_str)
    (pss_cons (ps_par (i := 3) (j := 4) rfl scWo.nd rfl rfl (by decide) rfl rfl (pa_cons (pe_call GT hr rfl mT kT bT .nil pass0 (pa_cons (pv 0) (pa_cons pe_int pa_nil))) (pa_cons (pe_op op_mul_strZ (pe_ix ix_str (pv 2) (pe_call GT hr rfl mT kT bT .nil pass0 (pa_cons (pv 0) (pa_cons pe_int pa_nil))) (fun _ _ => rfl)) (pe_call GT hr rfl mT kT bT .nil pass0 (pa_cons (pv 0) (pa_cons pe_int pa_nil)))) pa_nil)) rfl)
    (pss_cons (ps_set (i := 5) scWo.nd rfl (.inl rfl) (pe_call GT hr rfl mT kT bT .nil pass0 (pa_cons (pv 0) (pa_cons pe_int pa_nil))))
    (pss_cons (ps_set (i := 6) scWo.nd rfl (.inl rfl) (pe_lst pa_nil))
    (pss_cons (ps_for PassesOwn.never rfl (pi_range1 rfl mr (pa_cons (pv 1) pa_nil)) (pg_name (i := 7) scWo.nd rfl (.inl rfl))
      (pss_cons (ps_set (i := 8) scWo.nd rfl (.inl rfl) (pe_ix ix_str (pv 2) (pe_op op_mod (pe_op op_add (pv 3) (pe_op op_mul pe_int (pv 7))) pe_int) (fun _ _ => rfl)))
      (pss_join (ps_set (i := 9) scWo.nd rfl (.inl rfl) (pe_ix ix_list (pe_lst (pa_cons (pe_op op_add_str (pv 8) (pv 4)) (pa_cons (pe_op op_add_str (pv 4) (pv 8)) (pa_cons (pe_op op_add_str (pe_op op_mul_strZ pe_str (pe_op op_add pe_int (pe_op op_fdiv (pv 7) pe_int))) (pv 8)) pa_nil)))) (pv 5) (fun _ _ => rfl)))
      (pss_one (ps_expr (pe_bm PySem.F.plainAttrs_list PySem.F.slot_list_append PySem.F.type_list_append mt_append (pv 6) (pa_cons (pe_ifExp (pt_cmpR op_in_seq (pv 9) (pe_lst (pa_cons pe_str (pa_cons pe_str (pa_cons pe_str (pa_cons pe_str pa_nil))))) (by rfl)) (pe_op op_add_str pe_str (pv 8)) (pv 9)) pa_nil)))))))
    (pss_one (ps_ret (pv 6))))))), ?_⟩
  have big : ∀ {n : Nat}, n ≤ 100000 → n ≤ sizeLine := fun h => by rw [sizeLine_eq]; omega
  have alph : ∀ r : Int, 0 ≤ r → r < 26 → atI alphabet.cps.toList r = some (97 + r.toNat) := fun r h0 h1 => by
    have q := atI_nat (xs := alphabet.cps.toList) (j := r.toNat) (alpha_at _ (by omega))
    rwa [Int.toNat_of_nonneg h0] at q
  refine ⟨_, rfl, a, d, s0, 26, rfl, ha, hd, by decide, by decide, fun first d1 s1 hd1 f0 f1 => ?_⟩
  refine ⟨_, rfl, _, rfl, a, d1, s1, 26, rfl, upd_same, hd1, by decide, by decide, fun tl d2 s2 hd2 t0 t1 => ?_⟩
  refine ⟨alphabet, tl, 97 + tl.toNat, rfl, rfl, big (by decide +kernel), alph tl t0 t1, ?_⟩
  refine ⟨_, rfl, a, d2, s2, 8, rfl, upd_same, hd2, by decide, by decide, fun m d3 s3 hd3 m0 m1 => ?_⟩
  refine ⟨_, m, rfl, rfl, m0, by omega, by show 0 < 1; decide, by show 1 ≤ 100; decide, _, _, rfl, ?_⟩
  refine ⟨_, rfl, a, d3, s3, 3, rfl, upd_same, hd3, by decide, by decide, fun way d4 s4 hd4 w0 w1 => ?_⟩
  have X4 : SameX a H (upd (upd (upd (upd H a (.lst [.int d1, .int s1])) a (.lst [.int d2, .int s2])) a (.lst [.int d3, .int s3])) a (.lst [.int d4, .int s4])) := (SameX.put.trans SameX.put).trans (SameX.put.trans SameX.put)
  have a4 : (upd (upd (upd (upd H a (.lst [.int d1, .int s1])) a (.lst [.int d2, .int s2])) a (.lst [.int d3, .int s3])) a (.lst [.int d4, .int s4])) a = some (.lst [.int d4, .int s4]) := upd_same
  have fr4 : ∀ b, (upd (upd (upd (upd H a (.lst [.int d1, .int s1])) a (.lst [.int d2, .int s2])) a (.lst [.int d3, .int s3])) a (.lst [.int d4, .int s4])) b = none → b ≠ a ∧ H b = none := fun b hb => by
    have hne : b ≠ a := fun e => by rw [e, upd_same] at hb; cases hb
    rw [upd_ne hne, upd_ne hne, upd_ne hne, upd_ne hne] at hb
    exact ⟨hne, hb⟩
  generalize (upd (upd (upd (upd H a (.lst [.int d1, .int s1])) a (.lst [.int d2, .int s2])) a (.lst [.int d3, .int s3])) a (.lst [.int d4, .int s4])) = H4 at X4 a4 fr4 ⊢
  have hTail : Wd 7 (repT ⟨#[97 + tl.toNat]⟩ m) := Wd.rep (by omega) m0 (by omega)
  have hTtl : TL.tl (repT ⟨#[97 + tl.toNat]⟩ m) = List.replicate m.toNat (97 + tl.toNat) := rep_tl
  generalize repT ⟨#[97 + tl.toNat]⟩ m = tail at hTail hTtl ⊢
  refine ⟨small1 (by show 0 ≤ 8; decide), fun L hL => ?_⟩
  obtain ⟨hLa, hLn⟩ := fr4 L hL
  refine ⟨_, rfl, size, rfl, by omega, by omega, ?_⟩
  refine for_range (lo := 0) (fun i σ H' => ∃ (ws : List Str) (u7 u8 u9 : Option V), σ = [some (.ref a), some (.int (size : Nat)), some (.str alphabet), some (.int first), some (.str tail), some (.int way), some (.ref L), u7, u8, u9] ∧ Same H4 H' ∧ H' L = some (.lst (ws.map V.str)) ∧ ws.length = i ∧ ∀ (k : Nat) x, ws[k]? = some x → WdK way (sgnK first k) x)
    ⟨[], _, _, _, rfl, upd_new hL, upd_same, rfl, fun k x h => (by cases h)⟩ ?turn1 ?done1
  case done1 =>
    rintro σ H5 ⟨ws, u7, u8, u9, rfl, s5, hL5, hlen, hw⟩
    exact ⟨_, rfl, k L ws d4 s4 H5 (X4.trans (SameX.of s5)) (s5 _ _ a4) hd4 hLn hL5 (by rw [hlen]; exact Int.toNat_natCast size) (fun x hx => (by
      obtain ⟨i, hi, rfl⟩ := List.getElem_of_mem hx
      have z := hw i _ (List.getElem?_eq_getElem hi)
      exact ⟨z.w, z.n⟩)) (words_nodup (by rw [hlen, Int.toNat_natCast]; exact hsz) hw)⟩
  rintro i σ H5 hi ⟨ws, u7, u8, u9, rfl, s5, hL5, hlen, hw⟩
  have hi : i < size := by have := hi; rw [Int.toNat_natCast] at this; exact this
  have r0 : 0 ≤ (first + 5 * (0 + (i : Int))) % 26 := Int.emod_nonneg _ (by decide)
  have r1 : (first + 5 * (0 + (i : Int))) % 26 < 26 := Int.emod_lt_of_pos _ (by decide)
  refine ⟨_, rfl, _, rfl, _, rfl, _, _, rfl, rfl, .inl ⟨by decide, by decide⟩, _, _, rfl, rfl, _, _, rfl, rfl, (by show (0 : Int) < 26; decide), alphabet, _, _, rfl, rfl, big (by decide +kernel), alph _ r0 r1, ?_⟩
  have hSign : Wd 1 (⟨#[97 + ((first + 5 * (0 + (i : Int))) % 26).toNat]⟩ : Str) := Wd.one (by omega)
  have hSg : TL.tl (⟨#[97 + ((first + 5 * (0 + (i : Int))) % 26).toNat]⟩ : Str) = [sgnK first i] := by
    rw [Int.zero_add]
    rfl
  generalize (⟨#[97 + ((first + 5 * (0 + (i : Int))) % 26).toNat]⟩ : Str) = sign at hSign hSg ⊢
  have lS := hSign.1
  have lT := hTail.1
  have hQ : Wd 5 (repT "q" (1 + (0 + (i : Int)) / 6)) := Wd.rep (c := 113) (by decide) (by omega) (by omega)
  have lQ := hQ.1
  have lS1 : sign.length = 1 := by rw [TL.len_tl, hSg]; rfl
  have hQtl : TL.tl (repT "q" (1 + (0 + (i : Int)) / 6)) = List.replicate (1 + (0 + (i : Int)) / 6).toNat 113 := rep_tl (c := 113)
  refine ⟨fun σ H6 => ∃ name, σ = [some (.ref a), some (.int (size : Nat)), some (.str alphabet), some (.int first), some (.str tail), some (.int way), some (.ref L), some (.int (0 + (i : Int))), some (.str sign), some (.str name)] ∧ Same H5 H6 ∧ WdK way (sgnK first i) name, ?_, ?_⟩
  · refine ⟨_, rfl, _, rfl, _, _, rfl, rfl, big (by omega), _, rfl, _, rfl, _, _, rfl, rfl, big (by omega), _, rfl, _, _, rfl, rfl, ⟨by decide, by decide⟩, _, _, rfl, rfl, "q", _, rfl, rfl, by omega, by omega, by decide, by decide, _, rfl, _, _, rfl, rfl, big (by omega), small1 (by show 3 ≤ 8; decide), fun l hl => ⟨_, rfl, ?_⟩⟩
    have hw3 : way = 0 ∨ way = 1 ∨ way = 2 := by omega
    rcases hw3 with rfl | rfl | rfl
    · exact ⟨l, _, 0, _, rfl, rfl, .of upd_same, at_of (j := 0) rfl rfl, _, rfl, upd_new hl, WdK.of (hSign.app hTail (by decide)) (by rw [sl]; omega) (no_res0 (s := sgnK first i) (m := m.toNat) (c := 97 + tl.toNat) (by rw [TL.tl_append, hSg, hTtl]; rfl)) (by unfold keyN; rw [if_pos rfl, TL.tl_append, hSg]; rfl)⟩
    · exact ⟨l, _, 1, _, rfl, rfl, .of upd_same, at_of (j := 1) rfl rfl, _, rfl, upd_new hl, WdK.of (hTail.app hSign (by decide)) (by rw [sl]; omega) (no_res1 (s := sgnK first i) (m := m.toNat) (c := 97 + tl.toNat) (by rw [TL.tl_append, hSg, hTtl])) (by unfold keyN; rw [if_neg (by decide), TL.tl_append, hSg, List.getLast?_append]; rfl)⟩
    · exact ⟨l, _, 2, _, rfl, rfl, .of upd_same, at_of (j := 2) rfl rfl, _, rfl, upd_new hl, WdK.of (hQ.app hSign (by decide)) (by rw [sl]; omega) (no_res2 (s := sgnK first i) (m := (1 + (0 + (i : Int)) / 6).toNat) (by omega) (by rw [TL.tl_append, hSg, hQtl])) (by unfold keyN; rw [if_neg (by decide), TL.tl_append, hSg, List.getLast?_append]; rfl)⟩
  rintro σ H6 ⟨name, rfl, s6, hName⟩
  have hL6 := s6 _ _ hL5
  have hll : (ws.map V.str).length < sizeLine := by rw [List.length_map, sizeLine_eq]; omega
  refine ⟨_, rfl, .inl ⟨rfl, _, .of hL6⟩, _, rfl, small1 (by show 4 ≤ 8; decide), fun p hp => ⟨p, _, rfl, .inl (.of upd_same), rfl, rfl, _, rfl, ?_⟩⟩
  have s7 := s6.trans (upd_new (o := HO.lst [V.str "end", V.str "part", V.str "self", V.str "block"]) hp)
  have hL7 := (upd_new (o := HO.lst [V.str "end", V.str "part", V.str "self", V.str "block"]) hp) _ _ hL6
  generalize upd H6 p (HO.lst [V.str "end", V.str "part", V.str "self", V.str "block"]) = H7 at s7 hL7 ⊢
  have fin : ∃ (ws' : List Str) (u7 u8 u9 : Option V), ([some (.ref a), some (.int (size : Nat)), some (.str alphabet), some (.int first), some (.str tail), some (.int way), some (.ref L), some (.int (0 + (i : Int))), some (.str sign), some (.str name)] : St) = [some (.ref a), some (.int (size : Nat)), some (.str alphabet), some (.int first), some (.str tail), some (.int way), some (.ref L), u7, u8, u9] ∧ Same H4 (upd H7 L (.lst (ws.map V.str ++ [V.str name]))) ∧ (upd H7 L (.lst (ws.map V.str ++ [V.str name]))) L = some (.lst (ws'.map V.str)) ∧ ws'.length = i + 1 ∧ ∀ (k : Nat) x, ws'[k]? = some x → WdK way (sgnK first k) x :=
    ⟨ws ++ [name], _, _, _, rfl, same_put (s5.trans s7) hL, by rw [upd_same, List.map_append]; rfl, by rw [List.length_append, hlen]; rfl, fun k x hx => by
      by_cases hk : k < ws.length
      · rw [List.getElem?_append_left hk] at hx
        exact hw k x hx
      · rw [List.getElem?_append_right (by omega)] at hx
        cases hz : k - ws.length with
        | zero =>
          rw [hz] at hx
          cases hx
          obtain rfl : k = i := by omega
          exact hName
        | succ z =>
          rw [hz] at hx
          cases hx⟩
  have hnr : name ∉ (["end", "part", "self", "block"] : List Str) := fun z => by
    have q := hName.n
    unfold isNm at q
    have hm : name ∈ reserved := by
      show name ∈ (["block", "part", "end", "self"] : List Str)
      simp only [List.mem_cons, List.not_mem_nil, or_false] at z ⊢
      rcases z with z | z | z | z <;> simp [z]
    rw [decide_eq_true hm] at q
    simp at q
  show if inV (.str name) ((["end", "part", "self", "block"] : List Str).map V.str) = true then _ else _
  rw [inV_strs, decide_eq_false hnr]
  exact iteF ⟨_, rfl, L, _, _, rfl, rfl, hL7, hll, fin⟩
end
end K5
namespace K5
open PySem L2 Own StX ClX NdefX
abbrev sBlock : Stmt := top 32
abbrev sPortL : Stmt := top 34
abbrev sSigns : Stmt := top 43
theorem TOk.mono {m n b c : Nat} {x : Str} (h : TOk m b x) (e : m ≤ n) (f : b ≤ c) : TOk n c x := ⟨Nat.le_trans h.l e, Nat.le_trans h.c f, h.a⟩
theorem TOk.app {m n k b c e : Nat} {x y : Str} (h : TOk m b x) (g : TOk n c y) (i : m + n ≤ k) (j : b + c ≤ e) : TOk k e (x ++ y) := by
  refine ⟨by rw [sl]; have := h.l; have := g.l; omega, ?_, fun d hd => ?_⟩
  · unfold n32
    rw [TL.tl_append, List.count_append]
    have := h.c
    have := g.c
    unfold n32 at *
    omega
  · have hd : d ∈ TL.tl (x ++ y) := hd
    rw [TL.tl_append] at hd
    rcases List.mem_append.mp hd with z | z
    · exact h.a d z
    · exact g.a d z
theorem Wd.tok {n : Nat} {x : Str} (h : Wd n x) : TOk n 0 x := ⟨h.1, by
  unfold n32
  rw [List.count_eq_zero.mpr]
  · exact Nat.le_refl _
  · exact fun z => by have := h.2 32 z; omega, fun c hc => by have := h.2 c hc; omega⟩
theorem TOk.sub {n b : Nat} {x y : Str} (h : TOk n b x) (k : Sub y x) (g : n32 y ≤ n32 x) : TOk n b y := ⟨Nat.le_trans k.l h.l, Nat.le_trans g h.c, k.asc h.a⟩
theorem TOk.cut {n b : Nat} {x : Str} (h : TOk n b x) (lo hi : Option Int) : TOk n b (cutS x lo hi) := h.sub (sub_cut _ _ _) (count_cut _ _ _)
theorem num_tok {n : Nat} (h : n < 4294967296) : TOk 10 0 (Str.ofString (toString ((n : Nat) : Int))) := by
  have e := TL.tl_num n
  refine ⟨?_, ?_, fun c hc => ?_⟩
  · rw [TL.len_tl, e]
    exact TL.numL_len (by decide) (Nat.lt_of_lt_of_le h (by decide))
  · unfold n32
    rw [e, List.count_eq_zero.mpr (TL.numL_free (by decide))]
    exact Nat.le_refl _
  · have hc : c ∈ TL.tl (Str.ofString (toString ((n : Nat) : Int))) := hc
    rw [e] at hc
    have := TL.numL_digits n c hc
    omega
def tokB (n b : Nat) (x : Str) : Bool := decide (x.length ≤ n) && decide (n32 x ≤ b) && x.cps.toList.all fun c => decide (c < 128)
theorem tok_of {n b : Nat} {x : Str} (h : tokB n b x = true) : TOk n b x := by
  unfold tokB at h
  rw [Bool.and_eq_true, Bool.and_eq_true, decide_eq_true_eq, decide_eq_true_eq] at h
  exact ⟨h.1.1, h.1.2, fun c hc => of_decide_eq_true (List.all_eq_true.mp h.2 c hc)⟩
def spBlock : Sp := fun vs H Q _ => ∃ (a l : Addr) (d s : Int) (ws : List Str), vs = [.ref a, .ref l] ∧ H a = some (.lst [.int d, .int s]) ∧ 0 ≤ d ∧ H l = some (.lst (ws.map V.str)) ∧ a ≠ l ∧ 0 < ws.length ∧ ws.length ≤ 20 ∧ (∀ x ∈ ws, Wd 8 x) ∧
  ∀ (x : Str) d' s' H', SameX a H H' → H' a = some (.lst [.int d', .int s']) → 0 ≤ d' → TOk 16 1 x → BlkOk5 x → Q (.str x) H'
theorem num_blk {w : Str} (hw : w = "const " ∨ w = "delay ") {n : Nat} (h : n < 4294967296) : BlkOk5 (w ++ Str.ofString (toString ((n : Nat) : Int))) := by
  have hr : ∀ z : Str, (z = "const" ∨ z = "delay") → (readP (z ++ " " ++ Str.ofString (toString ((n : Nat) : Int)))).isSome = true := fun z hz => by
    rw [readP_num hz (by omega) (by omega)]
    rfl
  have h10 : 10 ∉ TL.tl (Str.ofString (toString ((n : Nat) : Int))) := by
    rw [TL.tl_num n]
    exact TL.numL_free (by decide)
  rcases hw with rfl | rfl
  · refine ⟨.inl ?_, not_app (by decide +kernel) h10⟩
    rw [const_sp]
    exact hr _ (.inl rfl)
  · refine ⟨.inl ?_, not_app (by decide +kernel) h10⟩
    rw [delay_sp]
    exact hr _ (.inr rfl)
def blkB (x : Str) : Bool := (readP x).isSome && !decide (10 ∈ TL.tl x)
theorem plain_blk : ∀ z ∈ words7, blkB z = true := by decide +kernel
theorem plain_ok {z : Str} (h : z ∈ words7) : BlkOk5 z := by
  have q := plain_blk z h
  unfold blkB at q
  rw [Bool.and_eq_true, Bool.not_eq_true', decide_eq_false_iff_not] at q
  exact ⟨.inl q.1, q.2⟩
/-- a name that begins with z is no other word -/
theorem z_name {x : Str} (h : Wd 7 x) : isDN (("z" : Str) ++ x) = true := by
  have w : Wd 8 (("z" : Str) ++ x) := (show Wd 1 ("z" : Str) from ⟨by decide +kernel, by decide +kernel⟩).app h (by decide)
  have hd : (TL.tl (("z" : Str) ++ x)).head? = some 122 := by
    rw [TL.tl_append, show TL.tl ("z" : Str) = [122] by decide +kernel]
    rfl
  have nr : (("z" : Str) ++ x) ∉ reserved := fun z => by
    rcases res_tl z with e | e | e | e <;> rw [e] at hd <;> exact absurd hd (by decide)
  have n9 : (("z" : Str) ++ x) ∉ words9 := fun z => by
    have q : ∀ y ∈ words9, (TL.tl y).head? ≠ some 122 := by decide +kernel
    exact q _ z hd
  unfold isDN
  rw [decide_eq_false n9, nm_of (by rw [sl, show ("z" : Str).length = 1 by decide +kernel]; omega) w nr]
  rfl
theorem z_ok {x : Str} (h : Wd 7 x) : BlkOk5 (("z" : Str) ++ x) := ⟨.inr (z_name h), nm_not (dn_nm (z_name h)) (by decide)⟩
theorem wd_cut {z : Str} {m : Nat} (h : Wd m z) (k : Nat) : Wd k (cutS z none (some (k : Int))) := by
  have e := cut_to z k (k : Int) rfl
  refine ⟨?_, fun c hc => h.2 c ?_⟩
  · rw [TL.len_tl, e, List.length_take]
    exact Nat.min_le_left _ _
  · have hc : c ∈ TL.tl (cutS z none (some (k : Int))) := hc
    rw [e] at hc
    exact List.mem_of_mem_take hc
section
variable {P : Program} {w : World} {K : PySem.W.Frag} {mg : Str → Option Value} {base : Heap}
theorem scBl : FnScope ["feed", "words", "number", "plain", "some"] ["feed", "words"] (defScope sBlock) := ⟨rfl, rfl, rfl, by decide +kernel, rfl, by decide +kernel, by decide +kernel⟩
theorem ok_block {f fT fP : Addr} {fd fdT fdP : FuncData} (F : Fun K "_law_block" "_law_block" sBlock f fd) (GT : FnOk P w K mg base CX0 1 fT fdT ["feed", "many"] spTakeL) (mT : mg "_law_take" = some (.ref fT)) (kT : PySem.W.keepIn K (.ref fT) = true) (bT : Binds K fdT ["feed", "many"] [])
    (GP : FnOk P w K mg base CX0 2 fP fdP ["feed", "some"] spPick) (mP : mg "_law_pick" = some (.ref fP)) (kP : PySem.W.keepIn K (.ref fP) = true) (bP : Binds K fdP ["feed", "some"] []) (zs : mg "str" = none) :
    FnOk P w K mg base CX0 3 f fd ["feed", "words"] spBlock := by
  refine F.ok scBl (fun vs H Q E h => ?_) (fun cdv A outer s H vs Q E hr h => ?_)
  · obtain ⟨a, l, d, s, ws, rfl, _⟩ := h
    rfl
  obtain ⟨a, l, d, s0, ws, rfl, ha, hd, hl, hal, hw0, hw1, hws, k⟩ := h
  have hr1 := hr.mono (show 1 ≤ 2 by decide)
  refine ⟨_, pss_join (ps_set (i := 2) scBl.nd rfl (.inl rfl) (pe_call GP hr rfl mP kP bP .nil pass0 (pa_cons (pv 0) (pa_cons (pe_lst (pa_cons pe_int (pa_cons pe_int (pa_cons pe_int (pa_cons (pe_call GT hr1 rfl mT kT bT .nil pass0 (pa_cons (pv 0) (pa_cons pe_int pa_nil))) pa_nil))))) pa_nil))))
    (pss_cons (ps_set (i := 3) scBl.nd rfl (.inl rfl) (pe_lst (pa_cons pe_str (pa_cons pe_str (pa_cons pe_str (pa_cons pe_str (pa_cons pe_str (pa_cons pe_str (pa_cons pe_str pa_nil)))))))))
    (pss_join (ps_set (i := 4) scBl.nd rfl (.inl rfl) (pe_lst (pa_cons (pe_op op_add_str pe_str (pe_callTy call_str_int (by rfl) zs (by decide +kernel) (pa_cons (pv 2) pa_nil))) (pa_cons (pe_op op_add_str pe_str (pe_callTy call_str_int (by rfl) zs (by decide +kernel) (pa_cons (pv 2) pa_nil))) (pa_cons (pe_call GP hr rfl mP kP bP .nil pass0 (pa_cons (pv 0) (pa_cons (pv 3) pa_nil))) pa_nil)))))
    (pss_one (ps_ret (pe_call GP hr rfl mP kP bP .nil pass0 (pa_cons (pv 0) (pa_cons (pe_op op_cat (pv 4) (pe_lst (pa_cons (pe_op op_add_str pe_str (pe_slice sl_str (pe_call GP hr rfl mP kP bP .nil pass0 (pa_cons (pv 0) (pa_cons (pv 1) pa_nil))) po_none (po_some pe_int))) pa_nil))) pa_nil))))))), ?_⟩
  have big : ∀ {n : Nat}, n ≤ 100000 → n ≤ sizeLine := fun h => by rw [sizeLine_eq]; omega
  -- the number
  refine ⟨fun σ H1 => ∃ (n : Nat) (d1 s1 : Int), σ = [some (.ref a), some (.ref l), some (.int (n : Nat)), none, none] ∧ n < 4294967296 ∧ SameX a H H1 ∧ H1 a = some (.lst [.int d1, .int s1]) ∧ 0 ≤ d1, ?_, ?_⟩
  · refine ⟨_, rfl, _, rfl, a, d, s0, 4294967296, rfl, ha, hd, by decide, by decide, fun r d1 s1 hd1 r0 r1 => ⟨small1 (by show 4 ≤ 8; decide), fun p hp => ?_⟩⟩
    have hpa : p ≠ a := fun e => by rw [e, upd_same] at hp; cases hp
    refine ⟨a, p, d1, s1, _, rfl, (upd_ne (Ne.symm hpa)).trans upd_same, hd1, Ne.symm hpa, upd_same, by show 0 < 4; decide, by show 4 ≤ 1000; decide, fun i x d2 s2 hx hd2 => ?_⟩
    have X2 : SameX a H (upd (upd (upd H a (.lst [.int d1, .int s1])) p (.lst [.int 0, .int 1, .int 4294967295, .int r])) a (.lst [.int d2, .int s2])) := SameX.put.trans ((SameX.of (upd_new hp)).trans SameX.put)
    match i, hx with
    | 0, hx => cases hx; exact ⟨0, d2, s2, rfl, by decide, X2, upd_same, hd2⟩
    | 1, hx => cases hx; exact ⟨1, d2, s2, rfl, by decide, X2, upd_same, hd2⟩
    | 2, hx => cases hx; exact ⟨4294967295, d2, s2, rfl, by decide, X2, upd_same, hd2⟩
    | 3, hx =>
      cases hx
      refine ⟨r.toNat, d2, s2, ?_, by omega, X2, upd_same, hd2⟩
      rw [Int.toNat_of_nonneg r0]
      rfl
    | j + 4, hx => cases hx
  rintro σ H1 ⟨n, d1, s1, rfl, hn, X1, a1, hd1⟩
  have hlog : ((n : Nat) : Int).natAbs.log2 < 1920 := by
    have h2 : ((n : Nat) : Int).natAbs < 2 ^ 34 := by omega
    rcases Nat.eq_zero_or_pos ((n : Nat) : Int).natAbs with z | z
    · rw [z]
      decide
    · exact Nat.lt_trans (PySem.Flt.log2_lt_of (by omega) h2) (by decide)
  have hN := num_tok hn
  have lN := hN.l
  have c1 : TOk 6 1 ("const " : Str) := tok_of (by decide +kernel)
  have c2 : TOk 6 1 ("delay " : Str) := tok_of (by decide +kernel)
  have l1 := c1.l
  have l2 := c2.l
  have w7 : ∀ z ∈ words7, tokB 16 1 z = true := by decide +kernel
  refine ⟨small1 (by show 7 ≤ 8; decide), fun pl hpl => ?_⟩
  have hpa : pl ≠ a := fun e => by rw [e, a1] at hpl; cases hpl
  have S2 := upd_new (o := HO.lst (words7.map V.str)) hpl
  have e2 : upd H1 pl (HO.lst (words7.map V.str)) pl = some (.lst (words7.map V.str)) := upd_same
  have ew : upd H1 pl (HO.lst [V.str "add", V.str "sub", V.str "mul", V.str "less", V.str "equal", V.str "pick", V.str "divide"]) = upd H1 pl (HO.lst (words7.map V.str)) := rfl
  rw [ew]
  have X2 := X1.trans (SameX.of S2)
  have a2 := S2 _ _ a1
  generalize upd H1 pl (HO.lst (words7.map V.str)) = H2 at S2 e2 X2 a2 ⊢
  refine ⟨fun σ H3 => ∃ (so : Addr) (t1 t2 t3 : Str) (d3 s3 : Int), σ = [some (.ref a), some (.ref l), some (.int (n : Nat)), some (.ref pl), some (.ref so)] ∧ SameX a H H3 ∧ H3 a = some (.lst [.int d3, .int s3]) ∧ 0 ≤ d3 ∧ H3 so = some (.lst ([t1, t2, t3].map V.str)) ∧ (TOk 16 1 t1 ∧ BlkOk5 t1) ∧ (TOk 16 1 t2 ∧ BlkOk5 t2) ∧ (TOk 16 1 t3 ∧ BlkOk5 t3), ?_, ?_⟩
  · refine ⟨_, rfl, _, rfl, hlog, _, _, rfl, rfl, big (by omega), _, rfl, _, rfl, hlog, _, _, rfl, rfl, big (by omega), _, rfl, _, rfl, a, pl, d1, s1, _, rfl, a2, hd1, Ne.symm hpa, e2, by show 0 < 7; decide, by show 7 ≤ 1000; decide, fun i x d3 s3 hx hd3 => ?_⟩
    rw [List.getElem?_map] at hx
    obtain ⟨z, hz, rfl⟩ := Option.map_eq_some_iff.mp hx
    have Tz := tok_of (w7 z (List.mem_of_getElem? hz))
    refine ⟨small1 (by show 3 ≤ 8; decide), fun so hso => ⟨so, ("const " : Str) ++ Str.ofString (toString ((n : Nat) : Int)), ("delay " : Str) ++ Str.ofString (toString ((n : Nat) : Int)), z, d3, s3, rfl, (X2.trans SameX.put).trans (SameX.of (upd_new hso)), (upd_new hso) _ _ upd_same, hd3, upd_same, ⟨c1.app hN (by decide) (by decide), num_blk (.inl rfl) hn⟩, ⟨c2.app hN (by decide) (by decide), num_blk (.inr rfl) hn⟩, ⟨Tz, plain_ok (List.mem_of_getElem? hz)⟩⟩⟩
  rintro σ H3 ⟨so, t1, t2, t3, d3, s3, rfl, X3, a3, hd3, hso, T1, T2, T3⟩
  have hl3 := X3 _ _ (Ne.symm hal) hl
  refine ⟨_, rfl, _, rfl, _, rfl, _, rfl, a, l, d3, s3, _, rfl, a3, hd3, hal, hl3, by rw [List.length_map]; exact hw0, by rw [List.length_map]; omega, fun i x d4 s4 hx hd4 => ?_⟩
  rw [List.getElem?_map] at hx
  obtain ⟨z, hz, rfl⟩ := Option.map_eq_some_iff.mp hx
  have Wz := hws z (List.mem_of_getElem? hz)
  have Tz := Wz.tok
  have lz := Wz.1
  have Tc := Tz.cut none (some 7)
  have lc := Tc.l
  have c3 : TOk 1 0 ("z" : Str) := tok_of (by decide +kernel)
  have l3 := c3.l
  have hsa : so ≠ a := fun e => by rw [e, a3] at hso; cases hso
  have hs4 : upd H3 a (.lst [.int d4, .int s4]) so = some (.lst ([t1, t2, t3].map V.str)) := (upd_ne hsa).trans hso
  refine ⟨7, rfl, z, rfl, big (by omega), _, _, rfl, rfl, big (by omega), small1 (by show 1 ≤ 8; decide), fun q hq => ⟨so, q, _, _, rfl, rfl, (upd_new hq) _ _ hs4, upd_same, small1 (by show 4 ≤ 8; decide), fun r hr => ?_⟩⟩
  have a5 := (upd_new (o := HO.lst ([t1, t2, t3].map V.str ++ [V.str (("z" : Str) ++ cutS z none (some 7))])) hr) _ _ ((upd_new (o := HO.lst [V.str (("z" : Str) ++ cutS z none (some 7))]) hq) _ _ (upd_same (H := H3) (a := a) (o := HO.lst [.int d4, .int s4])))
  have hra : r ≠ a := fun e => by rw [← e, upd_same] at a5; cases a5
  have X5 := (X3.trans (SameX.put (o := HO.lst [.int d4, .int s4]))).trans (SameX.of ((upd_new (o := HO.lst [V.str (("z" : Str) ++ cutS z none (some 7))]) hq).trans (upd_new (o := HO.lst ([t1, t2, t3].map V.str ++ [V.str (("z" : Str) ++ cutS z none (some 7))])) hr)))
  refine ⟨a, r, d4, s4, _, rfl, a5, hd4, Ne.symm hra, upd_same, by show 0 < 4; decide, by show 4 ≤ 1000; decide, fun i x d6 s6 hx hd6 => ?_⟩
  have fin : ∀ y : Str, TOk 16 1 y ∧ BlkOk5 y → Q (.str y) (upd (upd (upd (upd H3 a (.lst [.int d4, .int s4])) q (HO.lst [V.str (("z" : Str) ++ cutS z none (some 7))])) r (HO.lst ([t1, t2, t3].map V.str ++ [V.str (("z" : Str) ++ cutS z none (some 7))]))) a (.lst [.int d6, .int s6])) := fun y hy => k y d6 s6 _ (X5.trans SameX.put) upd_same hd6 hy.1 hy.2
  match i, hx with
  | 0, hx => cases hx; exact fin _ T1
  | 1, hx => cases hx; exact fin _ T2
  | 2, hx => cases hx; exact fin _ T3
  | 3, hx => cases hx; exact fin _ ⟨c3.app Tc (by decide) (by decide), z_ok (wd_cut Wz 7)⟩
  | j + 4, hx => cases hx
theorem scPo : FnScope ["port"] ["port"] (defScope sPortL) := ⟨rfl, rfl, rfl, by decide +kernel, rfl, by decide +kernel, by decide +kernel⟩
end
end K5
namespace K5
open PySem L2 Own StX ClX NdefX
section
variable {P : Program} {w : World} {K : PySem.W.Frag} {mg : Str → Option Value} {base : Heap}
theorem scPl : FnScope ["port"] ["port"] (defScope sPortL) := ⟨rfl, rfl, rfl, by decide +kernel, rfl, by decide +kernel, by decide +kernel⟩
theorem ok_portl {f : Addr} {fd : FuncData} (F : Fun K "_law_port" "_law_port" sPortL f fd) : FnOk P w K mg base CX0 1 f fd ["port"] (spPort K) := by
  refine F.ok scPl (fun vs H Q E h => ?_) (fun cdv A outer s H vs Q E hr h => ?_)
  · obtain ⟨p, a, b, rfl, _⟩ := h
    rfl
  obtain ⟨p, a, b, rfl, hp, ha, hb, k⟩ := h
  have sz : ∀ {n : Nat}, n ≤ 1000000 → n ≤ sizeLine := fun h => by rw [sizeLine_eq]; omega
  have hT := hp
  have a0 : atI [V.str a, V.str b] 0 = some (.str a) := at_of (j := 0) rfl rfl
  have a1 : atI [V.str a, V.str b] 1 = some (.str b) := at_of (j := 1) rfl rfl
  have ed : ((".": Str)).length = 1 := by decide +kernel
  refine ⟨_, pss_one (ps_ret (pe_ifExp (pt_cmpR op_eq (pe_ix ix_tup (pv 0) pe_int (fun _ _ => rfl)) pe_str (nomark _)) (pe_ix ix_tup (pv 0) pe_int (fun _ _ => rfl)) (pe_op op_add_str (pe_op op_add_str (pe_ix ix_tup (pv 0) pe_int (fun _ _ => rfl)) pe_str) (pe_ix ix_tup (pv 0) pe_int (fun _ _ => rfl))))), ?_⟩
  unfold portT at k
  refine ⟨_, rfl, p, _, _, _, rfl, rfl, hp, a0, rfl, _, rfl, ?_⟩
  rw [dS]
  by_cases h0 : a = ("" : Str)
  · rw [decide_eq_true h0]
    rw [if_pos (by rw [h0]; decide +kernel)] at k
    exact iteT ⟨_, rfl, p, _, _, _, rfl, rfl, hp, a1, k⟩
  · rw [decide_eq_false h0]
    rw [if_neg (fun z => h0 (TL.ext_tl ((TL.len0_tl a).mp z)))] at k
    exact iteF ⟨_, rfl, p, _, _, _, rfl, rfl, hp, a0, _, _, rfl, rfl, sz (by omega), _, rfl, p, _, _, _, rfl, rfl, hp, a1, _, _, rfl, rfl, sz (by rw [sl]; omega), k⟩
end
end K5
namespace K5
open PySem L2 Own StX ClX NdefX
abbrev sRowsL : Stmt := top 35
/-- a drawn diagram -/
structure Dd where
  nm : Str
  ins : List Str
  outs : List Str
  ps : List (Str × Str)
  ws : List (Port × Port)
/-- it stands at D -/
def DAt (K : PySem.W.Frag) (H : Hp) (D : Addr) (d : Dd) : Prop := ∃ (ti to tp dw : Addr) (as : List Addr), SqT K H D [.str d.nm, .ref ti, .ref to, .ref tp, .ref dw] ∧ SqT K H ti (d.ins.map V.str) ∧ SqT K H to (d.outs.map V.str) ∧ SqT K H tp (as.map V.ref) ∧ PairsAt H as d.ps ∧ WiresAt H dw d.ws
/-- its texts are short -/
structure DOk (d : Dd) : Prop where
  nl : Wd 8 d.nm
  il : d.ins.length ≤ 3
  ol : d.outs.length ≤ 3
  i : ∀ x ∈ d.ins, Wd 8 x
  o : ∀ x ∈ d.outs, Wd 8 x
  pl : d.ps.length ≤ 16
  p : ∀ p ∈ d.ps, Wd 8 p.1 ∧ TOk 16 1 p.2
  wl : d.ws.length ≤ 60
  w : ∀ w ∈ d.ws, Wd 8 w.1.1 ∧ Wd 8 w.1.2 ∧ Wd 8 w.2.1 ∧ Wd 8 w.2.2
def dataP (t : Port) : PyData := .tuple [.str t.1, .str t.2]
/-- ports in the order of tuples -/
def srt (l : List Port) : List Port := l.mergeSort fun a b => PySem.W.dataLe false dataP a b
def ordL (d : Dd) : List Port := (d.ps.flatMap fun p => srt ((d.ws.map (·.1)).filter fun t => decide (t.1 = p.1))) ++ (d.outs.filter fun o => decide (((Str.empty, o) : Port) ∈ d.ws.map (·.1))).map fun o => (Str.empty, o)
def ordW (d : Dd) : List (Port × Port) := (ordL d).map fun t => (t, srcOf d.ws t)
theorem srt_perm (l : List Port) : (srt l).Perm l := List.mergeSort_perm _ _
theorem srt_map (cs : List (Addr × Port)) : ((cs.map fun c => (V.ref c.1, dataP c.2)).mergeSort (PySem.W.dataLe false fun b : V × PyData => b.2)) = (cs.mergeSort fun a b => PySem.W.dataLe false dataP a.2 b.2).map fun c => (V.ref c.1, dataP c.2) :=
  (List.map_mergeSort (f := fun c : Addr × Port => (V.ref c.1, dataP c.2)) (r := fun a b => PySem.W.dataLe false dataP a.2 b.2) (s := PySem.W.dataLe false fun b : V × PyData => b.2) fun a _ b _ => rfl).symm
theorem srt_snd (cs : List (Addr × Port)) : (cs.mergeSort fun a b => PySem.W.dataLe false dataP a.2 b.2).map (·.2) = srt (cs.map (·.2)) :=
  List.map_mergeSort (f := fun c : Addr × Port => c.2) (r := fun a b => PySem.W.dataLe false dataP a.2 b.2) (s := fun a b => PySem.W.dataLe false dataP a b) fun a _ b _ => rfl
theorem ord_len (d : Dd) (h : DOk d) : (ordL d).length ≤ 16 * 60 + 3 := by
  unfold ordL
  rw [List.length_append, List.length_map]
  have h1 := List.length_filter_le (fun o => decide (((Str.empty, o) : Port) ∈ d.ws.map (·.1))) d.outs
  have h2 : ∀ l : List (Str × Str), (l.flatMap fun p => srt ((d.ws.map (·.1)).filter fun t => decide (t.1 = p.1))).length ≤ l.length * 60 := fun l => by
    induction l with
    | nil => exact Nat.zero_le _
    | cons p r ih =>
      rw [List.flatMap_cons, List.length_append, (srt_perm _).length_eq, List.length_cons]
      have h3 := List.length_filter_le (fun t : Port => decide (t.1 = p.1)) (d.ws.map (·.1))
      rw [List.length_map] at h3
      have := h.wl
      omega
  have h4 := h2 d.ps
  have := h.pl
  have := h.ol
  omega
theorem ord_mem {d : Dd} {t : Port} (h : t ∈ ordL d) : t ∈ d.ws.map (·.1) := by
  unfold ordL at h
  rcases List.mem_append.mp h with h | h
  · obtain ⟨p, _, h⟩ := List.mem_flatMap.mp h
    exact (List.mem_filter.mp ((srt_perm _).mem_iff.mp h)).1
  · obtain ⟨o, ho, rfl⟩ := List.mem_map.mp h
    exact of_decide_eq_true (List.mem_filter.mp ho).2
theorem src_mem {d : Dd} {t : Port} (h : t ∈ d.ws.map (·.1)) : (t, srcOf d.ws t) ∈ d.ws := by
  unfold srcOf
  cases e : d.ws.find? fun w => decide (w.1 = t) with
  | none =>
    obtain ⟨w, hw, rfl⟩ := List.mem_map.mp h
    have := List.find?_eq_none.mp e w hw
    simp at this
  | some w =>
    have h1 := List.mem_of_find?_eq_some e
    have h2 : w.1 = t := of_decide_eq_true (List.find?_some (p := fun w : Port × Port => decide (w.1 = t)) e)
    rw [← h2]
    exact h1
theorem ordW_mem {d : Dd} {v : Port × Port} (h : v ∈ ordW d) : v ∈ d.ws := by
  unfold ordW at h
  obtain ⟨t, ht, rfl⟩ := List.mem_map.mp h
  exact src_mem (ord_mem ht)
theorem pairs_of {H : Hp} : ∀ (cs : List (Addr × Port)), (∀ c ∈ cs, H c.1 = some (.tup [.str c.2.1, .str c.2.2])) → PairsAt H (cs.map (·.1)) (cs.map (·.2)) := fun cs h => by
  refine ⟨by rw [List.length_map, List.length_map], fun i a p e1 e2 => ?_⟩
  rw [List.getElem?_map] at e1 e2
  obtain ⟨c, hc, rfl⟩ := Option.map_eq_some_iff.mp e1
  rw [hc] at e2
  cases e2
  exact h c (List.mem_of_getElem? hc)
theorem pairs_mem {H : Hp} {qs : List Addr} {L : List Port} (h : PairsAt H qs L) : ∀ c ∈ qs.zip L, H c.1 = some (.tup [.str c.2.1, .str c.2.2]) := fun c hc => by
  obtain ⟨i, hi, rfl⟩ := List.getElem_of_mem hc
  have e := List.getElem?_eq_getElem hi
  have e2 := List.getElem?_zip_eq_some.mp e
  exact h.2 i _ _ e2.1 e2.2
theorem pairs_app {H : Hp} {as bs : List Addr} {l m : List Port} (h : PairsAt H as l) (g : PairsAt H bs m) : PairsAt H (as ++ bs) (l ++ m) := by
  refine ⟨by rw [List.length_append, List.length_append, h.1, g.1], fun i a p e1 e2 => ?_⟩
  by_cases hi : i < as.length
  · rw [List.getElem?_append_left hi] at e1
    rw [List.getElem?_append_left (by rw [← h.1]; exact hi)] at e2
    exact h.2 i a p e1 e2
  · rw [List.getElem?_append_right (by omega)] at e1
    rw [List.getElem?_append_right (by rw [← h.1]; omega), ← h.1] at e2
    exact g.2 _ a p e1 e2
theorem depth_port (t : Port) : (dataP t).depth ≤ 8 := by
  unfold dataP
  simp [PyData.depth, PyData.depthAll]
theorem alike_ports (l : List Port) : PySem.W.AllAlike (l.map dataP) := fun d hd e he => by
  obtain ⟨a, _, rfl⟩ := List.mem_map.mp hd
  obtain ⟨b, _, rfl⟩ := List.mem_map.mp he
  rfl
theorem sortable_ports (l : List Port) : PySem.W.Sortable (l.map dataP) := .inl fun d hd => by
  obtain ⟨a, _, rfl⟩ := List.mem_map.mp hd
  exact ⟨_, _, rfl⟩
def spRowsL (K : PySem.W.Frag) : Sp := fun vs H Q _ => ∃ (D : Addr) (d : Dd), vs = [.ref D] ∧ DAt K H D d ∧ DOk d ∧
  ∀ (t rl ol : Addr) (bs : List Addr) H', Same H H' → H' t = some (.tup [.ref rl, .ref ol]) → H' rl = some (.lst ((rowsT d.nm d.ins d.outs d.ps (ordW d)).map V.str)) → H' ol = some (.tup (bs.map V.ref)) → WPairsAt H' bs (ordW d) → Q (.ref t) H'
section
variable {P : Program} {w : World} {K : PySem.W.Frag} {mg : Str → Option Value} {base : Heap}
abbrev nRl : List Str := ["diagram", "name", "inputs", "outputs", "parts", "wires", "ends", "rows", "part", "block", "ordered", "target", "output"]
theorem scRl : FnScope nRl ["diagram"] (defScope sRowsL) := ⟨rfl, rfl, rfl, by decide +kernel, rfl, by decide +kernel, by decide +kernel⟩
theorem ok_rowsl {f fP : Addr} {fd fdP : FuncData} (F : Fun K "_law_rows" "_law_rows" sRowsL f fd) (GP : FnOk P w K mg base CX0 1 fP fdP ["port"] (spPort K)) (mP : mg "_law_port" = some (.ref fP)) (kP : PySem.W.keepIn K (.ref fP) = true) (bP : Binds K fdP ["port"] [])
    (zso : mg "sorted" = none) (zt : mg "tuple" = none) : FnOk P w K mg base CX0 2 f fd ["diagram"] (spRowsL K) := by
  refine F.ok scRl (fun vs H Q E h => ?_) (fun cdv A outer s H vs Q E hr h => ?_)
  · obtain ⟨D, d, rfl, _⟩ := h
    rfl
  obtain ⟨D, d, rfl, ⟨ti, to, tp, dw, as, hD, hti, hto, htp, hps, hW⟩, hd, kk⟩ := h
  have hu1 := Nat.lt_of_le_of_lt (Nat.add_le_add_left (show 1 ≤ 64 by decide) _) hr.units
  have hu65 := Nat.lt_of_le_of_lt (Nat.add_le_add_left (show 65 ≤ 16 * 1 + 200 by decide) _) (by have := hr.un; rwa [Nat.add_assoc] at this)
  refine ⟨_, pss_cons (ps_asg (pv 0) (pg_tup (by rfl) (pgs_cons (pg_name (i := 1) scRl.nd rfl (.inl rfl)) (pgs_cons (pg_name (i := 2) scRl.nd rfl (.inl rfl)) (pgs_cons (pg_name (i := 3) scRl.nd rfl (.inl rfl)) (pgs_cons (pg_name (i := 4) scRl.nd rfl (.inl rfl)) (pgs_cons (pg_name (i := 5) scRl.nd rfl (.inr rfl)) pgs_nil)))))))
    (pss_cons (ps_set (i := 6) scRl.nd rfl (.inl rfl) (pe_join pe_str (pe_lc (own := [("output", 12)]) (g := gName 12) (wi := iTup K (tVar 3)) rfl scRl.nd (pi_tup (pv 3)) (blkOk_by (own := [("output", 12)]) (N := nRl) (sc := defScope sRowsL) (by decide +kernel)) (fun _ _ _ _ _ => pg_name (i := 12) scRl.nd rfl (Or.inl rfl)) (fun _ _ _ _ _ => pts_nil) (fun _ _ _ _ _ => by exact (pe_op op_add_str pe_str (pv 12))))))
    (pss_cons (ps_set (i := 7) scRl.nd rfl (.inl rfl) (pe_lst (pa_cons (pe_op op_add_str (pe_op op_add_str (pe_op op_add_str (pe_op op_add_str (pe_op op_add_str (pe_op op_add_str pe_str (pv 1)) pe_str) (pe_join pe_str (pv 2))) pe_str) (pv 6)) pe_str) pa_nil)))
    (pss_cons (ps_set (i := 7) scRl.nd rfl (.inl rfl) (pe_op op_cat (pv 7) (pe_lc (own := [("part", 8), ("block", 9)]) (g := gTup K 2 (gCons (gName 8) (gCons (gName 9) gNil))) (wi := iTup K (tVar 4)) rfl scRl.nd (pi_tup (pv 4)) (blkOk_by (own := [("part", 8), ("block", 9)]) (N := nRl) (sc := defScope sRowsL) (by decide +kernel)) (fun _ _ _ _ _ => by exact (pg_tup rfl (pgs_cons (pg_name (i := 8) scRl.nd rfl (Or.inl rfl)) (pgs_cons (pg_name (i := 9) scRl.nd rfl (Or.inl rfl)) pgs_nil)))) (fun _ _ _ _ _ => pts_nil)
      (fun _ _ _ _ _ => by exact (pe_op op_add_str (pe_op op_add_str (pe_op op_add_str pe_str (pv 8)) pe_str) (pv 9))))))
    (pss_cons (ps_set (i := 10) scRl.nd rfl (.inl rfl) (pe_lst pa_nil))
    (pss_cons (ps_for PassesOwn.never rfl (pi_tup (pv 4)) (pg_tup (by rfl) (pgs_cons (pg_name (i := 8) scRl.nd rfl (.inr rfl)) (pgs_cons (pg_name (i := 9) scRl.nd rfl (.inl rfl)) pgs_nil)))
      (pss_one (ps_set (i := 10) scRl.nd rfl (.inl rfl) (pe_op op_cat (pv 10) (pe_lock (pe_callB (id := "sorted") (cr_sortedDp hu65) (by rfl) zso (by decide +kernel) (pa_cons (pe_lc (own := [("target", 11)]) (g := gName 11) (wi := iKeys (tVar 5)) rfl scRl.nd (pi_keys (pv 5)) (blkOk_by (own := [("target", 11)]) (N := nRl) (sc := defScope sRowsL) (by decide +kernel)) (fun _ _ _ _ _ => pg_name (i := 11) scRl.nd rfl (Or.inl rfl)) (fun _ _ _ _ _ => by exact (pts_one (pt_cmpR op_eq (pe_ix (show IxR _ (rIxT K) from ix_tup) (pv 11) pe_int (fun _ _ => rfl)) (pv 8) (nomark _)))) (fun _ _ _ _ _ => pv 11)) pa_nil)))))))
    (pss_cons (ps_set (i := 10) scRl.nd rfl (.inl rfl) (pe_op op_cat (pv 10) (pe_lc (own := [("output", 12)]) (g := gName 12) (wi := iTup K (tVar 3)) rfl scRl.nd (pi_tup (pv 3)) (blkOk_by (own := [("output", 12)]) (N := nRl) (sc := defScope sRowsL) (by decide +kernel)) (fun _ _ _ _ _ => pg_name (i := 12) scRl.nd rfl (Or.inl rfl)) (fun _ _ _ _ _ => by exact (pts_one (pt_cmp (pc_din hu1 (pe_tup (pa_cons pe_str (pa_cons (pv 12) pa_nil))) (pv 5)) (by rfl))))
      (fun _ _ _ _ _ => by exact (pe_tup (pa_cons pe_str (pa_cons (pv 12) pa_nil)))))))
    (pss_cons (ps_for PassesOwn.never rfl (pi_list (pv 10)) (pg_name (i := 11) scRl.nd rfl (.inl rfl))
      (pss_one (ps_expr (pe_bm PySem.F.plainAttrs_list PySem.F.slot_list_append PySem.F.type_list_append mt_append (pv 7) (pa_cons (pe_op op_add_str (pe_op op_add_str (pe_op op_add_str pe_str (pe_call GP hr rfl mP kP bP .nil pass0 (pa_cons (pv 11) pa_nil))) pe_str) (pe_call GP hr rfl mP kP bP .nil pass0 (pa_cons (pe_dget hu1 (pv 5) (pv 11) (fun _ _ => rfl)) pa_nil))) pa_nil)))))
    (pss_one (ps_ret (pe_tup (pa_cons (pe_op op_cat (pv 7) (pe_lst (pa_cons pe_str pa_nil))) (pa_cons (pe_callTy call_tuple_of (by rfl) zt (by decide +kernel) (pa_cons (pe_lc (own := [("target", 11)]) (g := gName 11) (wi := iList K (tVar 10)) rfl scRl.nd (pi_list (pv 10)) (blkOk_by (own := [("target", 11)]) (N := nRl) (sc := defScope sRowsL) (by decide +kernel)) (fun _ _ _ _ _ => pg_name (i := 11) scRl.nd rfl (Or.inl rfl)) (fun _ _ _ _ _ => pts_nil)
      (fun _ _ _ _ _ => by exact (pe_tup (pa_cons (pv 11) (pa_cons (pe_dget hu1 (pv 5) (pv 11) (fun _ _ => rfl)) pa_nil))))) pa_nil)) pa_nil)))))))))))), ?_⟩
  have big : ∀ {n : Nat}, n ≤ 100000 → n ≤ sizeLine := fun h => by rw [sizeLine_eq]; omega
  have lt : ∀ {n : Nat}, n ≤ 100000 → n < sizeLine := fun h => by rw [sizeLine_eq]; omega
  have l1 : ((" " : Str)).length = 1 := by decide +kernel
  have l0 : (("" : Str)).length = 0 := by decide +kernel
  have lb : (("block " : Str)).length = 6 := by decide +kernel
  have lo : (("(" : Str)).length = 1 := by decide +kernel
  have ls : ((";" : Str)).length = 1 := by decide +kernel
  have lc : ((")" : Str)).length = 1 := by decide +kernel
  have lp : (("  part " : Str)).length = 7 := by decide +kernel
  have lq : ((" = " : Str)).length = 3 := by decide +kernel
  have l2 : (("  " : Str)).length = 2 := by decide +kernel
  have la : ((" <- " : Str)).length = 4 := by decide +kernel
  have il := hd.il
  have ol := hd.ol
  have pl := hd.pl
  have nl := hd.nl.1
  have wl := hd.wl
  refine ⟨_, rfl, D, _, rfl, hD, rfl, _, _, rfl, _, _, rfl, _, _, rfl, _, _, rfl, _, _, rfl, rfl, ?_⟩
  -- ends
  refine ⟨⟨_, rfl⟩, _, rfl, to, rfl, ⟨_, hto⟩, fun D1 hD1 => ?_⟩
  refine lc_tup (K := K) (a := to) (xs := d.outs.map V.str) (fun i H' => Same H H' ∧ H' D1 = some (.lst (((d.outs.take i).map fun o => (" " : Str) ++ o).map V.str))) ⟨upd_new hD1, upd_same⟩ (fun i H' _ q => sqT_same q.1 hto) ?_ ?_
  · rintro i v H1 hi ⟨s1, e1⟩
    rw [List.getElem?_map] at hi
    obtain ⟨y, hy, rfl⟩ := Option.map_eq_some_iff.mp hi
    have hy8 := (hd.o y (List.mem_of_getElem? hy)).1
    refine ⟨rfl, _, rfl, _, _, rfl, rfl, big (by omega), _, e1, lt ?_, same_put s1 hD1, ?_⟩
    · rw [List.length_map, List.length_map, List.length_take]
      omega
    · rw [upd_same, tk1 hy, List.map_append, List.map_append]
      rfl
  rintro H1 ⟨S1, e1⟩
  rw [List.length_map, List.take_length] at e1
  have ht1 : ∀ {l : List Str} {c : Nat}, (∀ x ∈ l, x.length ≤ c) → (l.map (·.length)).sum ≤ l.length * c := fun {l c} h => by
    induction l with
    | nil => exact Nat.zero_le _
    | cons x r ih =>
      have h1 := h x List.mem_cons_self
      have h2 := ih fun y hy => h y (List.mem_cons_of_mem _ hy)
      rw [List.map_cons, List.sum_cons, List.length_cons]
      have : (r.length + 1) * c = r.length * c + c := Nat.succ_mul _ _
      omega
  have so : ((d.outs.map fun o => (" " : Str) ++ o).map (·.length)).sum ≤ 3 * 9 := by
    refine Nat.le_trans (ht1 (c := 9) fun x hx => ?_) (by rw [List.length_map]; omega)
    obtain ⟨o, ho, rfl⟩ := List.mem_map.mp hx
    have := (hd.o o ho).1
    rw [sl]
    omega
  have si : (d.ins.map (·.length)).sum ≤ 3 * 8 := Nat.le_trans (ht1 (c := 8) fun x hx => (hd.i x hx).1) (by omega)
  have lE := join_len "" (d.outs.map fun o => (" " : Str) ++ o)
  have lI := join_len " " d.ins
  rw [sum_plus, l0, Nat.mul_zero, Nat.add_zero] at lE
  rw [sum_plus, l1] at lI
  refine ⟨"", D1, _, rfl, rfl, .inl (.of e1), by rw [l0]; omega, ?_⟩
  -- rows
  refine ⟨_, rfl, _, _, rfl, rfl, big (by omega), _, _, rfl, rfl, big (by rw [sl]; omega), ⟨_, rfl⟩, _, rfl, " ", ti, d.ins, rfl, rfl, .inr (sqT_same S1 hti), by rw [l1]; omega, ?_⟩
  refine ⟨_, _, rfl, rfl, big (by rw [sl, sl]; omega), _, _, rfl, rfl, big (by rw [sl, sl, sl]; omega), _, rfl, _, _, rfl, rfl, big (by rw [sl, sl, sl, sl]; omega), _, _, rfl, rfl, big (by rw [sl, sl, sl, sl, sl]; omega), small1 (by show 1 ≤ 8; decide), fun R hR => ?_⟩
  -- the rows of parts
  have S2 := S1.trans (upd_new (o := HO.lst [V.str (headT d.nm d.ins d.outs)]) hR)
  have eR : upd H1 R (HO.lst [V.str (headT d.nm d.ins d.outs)]) R = some (.lst [V.str (headT d.nm d.ins d.outs)]) := upd_same
  have hH : ("block " : Str) ++ d.nm ++ "(" ++ Txt.join " " d.ins ++ ";" ++ Txt.join "" (d.outs.map fun o => (" " : Str) ++ o) ++ ")" = headT d.nm d.ins d.outs := rfl
  rw [hH]
  generalize hhd : headT d.nm d.ins d.outs = hd0 at S2 eR ⊢
  generalize upd H1 R (HO.lst [V.str hd0]) = H2 at S2 eR ⊢
  have htp2 := sqT_same S2 htp
  have hal := hps.1
  refine ⟨_, rfl, _, rfl, tp, rfl, ⟨_, htp2⟩, fun D2 hD2 => ?_⟩
  refine out_it (walk_tup (xs := as.map V.ref)) (fun j H' => Same H2 H' ∧ H' D2 = some (.lst (((d.ps.take j).map partT).map V.str))) ⟨upd_new hD2, upd_same⟩ (fun j H' _ q => sqT_same q.1 htp2) ?_ ?_
  · rintro j x H3 H4 hj ⟨s3, e3⟩ ⟨rfl, hx⟩
    rw [List.getElem?_map] at hx
    obtain ⟨a, ha, rfl⟩ := Option.map_eq_some_iff.mp hx
    obtain ⟨p, hp⟩ : ∃ p, d.ps[j]? = some p := ⟨_, List.getElem?_eq_getElem (by have := (List.getElem?_eq_some_iff.mp ha).1; omega)⟩
    have hm := hd.p p (List.mem_of_getElem? hp)
    have h1 := hm.1.1
    have h2 := hm.2.l
    refine ⟨a, _, rfl, .of ((S2.trans s3) _ _ (hps.2 j a p ha hp)), rfl, _, _, rfl, _, _, rfl, rfl, rfl, ?_⟩
    refine ⟨_, rfl, _, _, rfl, rfl, big (by omega), _, _, rfl, rfl, big (by rw [sl]; omega), _, rfl, _, _, rfl, rfl, big (by rw [sl, sl]; omega), _, e3, lt ?_, same_put s3 hD2, ?_⟩
    · rw [List.length_map, List.length_map, List.length_take]
      omega
    · rw [upd_same, tk1 hp, List.map_append, List.map_append]
      rfl
  rintro H3 ⟨s3, e3⟩
  rw [List.length_map, hal, List.take_length] at e3
  refine ⟨R, D2, _, _, rfl, rfl, s3 _ _ eR, e3, by rw [List.length_map, List.length_map]; exact big (by show 1 + _ ≤ _; omega), fun R2 hR2 => ?_⟩
  have S3 := S2.trans s3
  -- ordered
  refine ⟨small1 (by show 0 ≤ 8; decide), fun O hO => ?_⟩
  have S4 := S3.trans ((upd_new (o := HO.lst ([V.str hd0] ++ (d.ps.map partT).map V.str)) hR2).trans (upd_new (o := HO.lst []) hO))
  have eR4 : upd (upd H3 R2 (HO.lst ([V.str hd0] ++ (d.ps.map partT).map V.str))) O (HO.lst []) R2 = some (.lst ((hd0 :: d.ps.map partT).map V.str)) := (upd_new hO) _ _ upd_same
  have eO4 : upd (upd H3 R2 (HO.lst ([V.str hd0] ++ (d.ps.map partT).map V.str))) O (HO.lst []) O = some (.lst (([] : List Addr).map V.ref)) := upd_same
  have hHR2 : H R2 = none := S3.free hR2
  generalize upd (upd H3 R2 (HO.lst ([V.str hd0] ++ (d.ps.map partT).map V.str))) O (HO.lst []) = H4 at S4 eR4 eO4 ⊢
  have hor : O ≠ R2 := fun e => by
    rw [e, eR4] at eO4
    cases eO4
  have htp4 := sqT_same S4 htp
  refine ⟨_, rfl, tp, rfl, ⟨_, htp4⟩, ?_⟩
  generalize hen : Txt.join ("" : Str) (d.outs.map fun o => (" " : Str) ++ o) = ends
  have flt : ∀ i, ((d.ps.take i).flatMap fun p => srt ((d.ws.map (·.1)).filter fun t => decide (t.1 = p.1))).length ≤ 16 * 60 := fun i => by
    have h2 : ∀ l : List (Str × Str), (l.flatMap fun p => srt ((d.ws.map (·.1)).filter fun t => decide (t.1 = p.1))).length ≤ l.length * 60 := fun l => by
      induction l with
      | nil => exact Nat.zero_le _
      | cons p r ih =>
        rw [List.flatMap_cons, List.length_append, (srt_perm _).length_eq, List.length_cons]
        have h3 := List.length_filter_le (fun t : Port => decide (t.1 = p.1)) (d.ws.map (·.1))
        rw [List.length_map] at h3
        omega
    have h4 := h2 (d.ps.take i)
    have h5 : (d.ps.take i).length ≤ 16 := by rw [List.length_take]; omega
    omega
  refine for_it (walk_tup (xs := as.map V.ref)) (fun i σ H' => ∃ (u8 u9 : Option V) (O : Addr) (cs : List Addr), σ = [some (.ref D), some (.str d.nm), some (.ref ti), some (.ref to), some (.ref tp), some (.ref dw), some (.str ends), some (.ref R2), u8, u9, some (.ref O), none, none] ∧ Same H4 H' ∧ H' O = some (.lst (cs.map V.ref)) ∧ PairsAt H' cs ((d.ps.take i).flatMap fun p => srt ((d.ws.map (·.1)).filter fun t => decide (t.1 = p.1))))
    ⟨none, none, O, [], rfl, Same.refl _, eO4, rfl, fun i a p e _ => by cases e⟩ (fun i σ H' _ q => ?_) ?turn1 ?done1
  · obtain ⟨_, _, _, _, _, z, _⟩ := q
    exact sqT_same z htp4
  case turn1 =>
    rintro i x σ H5 H6 hi ⟨u8, u9, O, cs, rfl, s5, eO, hc⟩ ⟨rfl, hx⟩
    rw [List.getElem?_map] at hx
    obtain ⟨a, ha, rfl⟩ := Option.map_eq_some_iff.mp hx
    obtain ⟨p, hp⟩ : ∃ p, d.ps[i]? = some p := ⟨_, List.getElem?_eq_getElem (by have := (List.getElem?_eq_some_iff.mp ha).1; omega)⟩
    have S5 := S4.trans s5
    obtain ⟨was, hwa, hwd, hwt⟩ := hW.same S5
    have hkl : ((d.ws.zip was).map fun q => (keyOf q.1.1, V.ref q.2)).length = d.ws.length := by rw [List.length_map, List.length_zip, hwa, Nat.min_self]
    refine ⟨a, _, rfl, .of (S5 _ _ (hps.2 i a p ha hp)), rfl, _, _, rfl, _, _, rfl, rfl, ?_⟩
    generalize hkvs : ((d.ws.zip was).map fun q => (keyOf q.1.1, V.ref q.2)) = kvs at hwd hkl
    refine ⟨_, rfl, dw, _, hwd, trivial, fun od => ⟨_, rfl, dw, od, rfl, .inr ⟨kvs, upd_same, fun Dn hDn => ?_⟩⟩⟩
    have hnd : Dn ≠ dw := fun e => by rw [e, upd_same] at hDn; cases hDn
    have hD5 : H6 Dn = none := by rw [upd_ne hnd] at hDn; exact hDn
    refine out_it walk_keysT (fun j H' => (∀ b z, b ≠ dw → H6 b = some z → H' b = some z) ∧ H' dw = some (.frz od (.dT kvs)) ∧ ∃ qs : List Addr, H' Dn = some (.lst (qs.map V.ref)) ∧ PairsAt H' qs (((d.ws.take j).map (·.1)).filter fun t => decide (t.1 = p.1)))
      ⟨fun b z n e => (upd_ne (ne_of_none e hD5)).trans ((upd_ne n).trans e), (upd_ne hnd.symm).trans upd_same, [], upd_same, rfl, fun i a p e _ => by cases e⟩ (fun j H' _ q => q.2.1) ?_ ?_
    · rintro j y H7 H8 hj ⟨s7, f7, qs, e7, h7⟩ ⟨rfl, k, v, q, hk, rfl, hq⟩
      rw [← hkvs] at hk
      obtain ⟨w1, hw1, rfl⟩ := kv_at hk
      have a0 : atI [V.str w1.1.1, V.str w1.1.2] 0 = some (.str w1.1.1) := at_of (j := 0) rfl rfl
      refine ⟨rfl, _, rfl, q, _, _, _, rfl, rfl, .of hq, a0, _, rfl, rfl, _, rfl, ?_⟩
      rw [dS]
      by_cases he : w1.1.1 = p.1
      · rw [decide_eq_true he]
        have lq : qs.length ≤ 60 := by
          rw [h7.1]
          refine Nat.le_trans (List.length_filter_le _ _) ?_
          rw [List.length_map, List.length_take]
          omega
        refine iteT ⟨_, rfl, _, e7, lt (by rw [List.length_map]; omega), fun b z n e => (upd_ne (ne_of_none e hD5)).trans (s7 b z n e), (upd_ne hnd.symm).trans f7, qs ++ [q], ?_, ?_⟩
        · rw [upd_same, List.map_append]
          rfl
        · rw [tk1 hw1, List.map_append, List.filter_append]
          have ef : (([w1].map (·.1)).filter fun t : Port => decide (t.1 = p.1)) = [w1.1] := by simp [he]
          rw [ef]
          refine PairsAt.snoc (h7.keep fun b us e => (upd_ne fun z => ?_).trans e) ((upd_ne fun z => ?_).trans hq)
          · rw [z, e7] at e
            cases e
          · rw [z, e7] at hq
            cases hq
      · rw [decide_eq_false he]
        refine iteF ⟨s7, f7, qs, e7, ?_⟩
        rw [tk1 hw1, List.map_append, List.filter_append]
        have ef : (([w1].map (·.1)).filter fun t : Port => decide (t.1 = p.1)) = [] := by simp [he]
        rw [ef, List.append_nil]
        exact h7
    rintro H7 ⟨s7, f7, qs, e7, h7⟩
    rw [hkl, List.take_length] at h7
    generalize hL : ((d.ws.map (·.1)).filter fun t => decide (t.1 = p.1)) = L at h7
    have m1 : (qs.zip L).map (·.1) = qs := List.map_fst_zip (Nat.le_of_eq h7.1)
    have m2 : (qs.zip L).map (·.2) = L := List.map_snd_zip (Nat.le_of_eq h7.1.symm)
    have hm := pairs_mem h7
    have hperm := List.mergeSort_perm (qs.zip L) fun a b => PySem.W.dataLe false dataP a.2 b.2
    have hsn := srt_snd (qs.zip L)
    rw [m2] at hsn
    have b1 : (((qs.zip L).map fun c => (V.ref c.1, dataP c.2)).map (·.1)) = qs.map V.ref := by
      rw [List.map_map]
      exact (List.map_map (l := qs.zip L) (g := V.ref) (f := (·.1))).symm.trans (by rw [m1])
    have b2 : (((qs.zip L).map fun c => (V.ref c.1, dataP c.2)).map (·.2)) = L.map dataP := by
      rw [List.map_map]
      exact (List.map_map (l := qs.zip L) (g := dataP) (f := (·.2))).symm.trans (by rw [m2])
    refine ⟨Dn, (qs.zip L).map fun c => (V.ref c.1, dataP c.2), rfl, by rw [b1]; exact .of e7, fun b hb => ?_, by rw [b2]; exact alike_ports L, by rw [b2]; exact sortable_ports L, fun b hb => ?_, fun N hN => ?_⟩
    · obtain ⟨c, hc, rfl⟩ := List.mem_map.mp hb
      exact .tup (.of (hm c hc)) (.cons (.str _) (.cons (.str _) .nil))
    · obtain ⟨c, hc, rfl⟩ := List.mem_map.mp hb
      show (dataP c.2).depth ≤ 8
      exact depth_port c.2
    rw [srt_map, List.map_map]
    generalize (qs.zip L).mergeSort (fun a b => PySem.W.dataLe false dataP a.2 b.2) = cs2 at hperm hsn ⊢
    have b3 : cs2.map ((fun x : V × PyData => x.1) ∘ fun c : Addr × Port => (V.ref c.1, dataP c.2)) = (cs2.map (·.1)).map V.ref := by
      rw [List.map_map]
      rfl
    rw [b3]
    have hP2 : PairsAt H7 (cs2.map (·.1)) (srt L) := by
      rw [← hsn]
      exact pairs_of cs2 fun c hc => hm c (hperm.mem_iff.mp hc)
    have nNd : N ≠ dw := fun e => by rw [e, f7] at hN; cases hN
    refine ⟨(upd_ne nNd.symm).trans f7, ?_⟩
    have S7 : Same H6 (upd (upd H7 N (.lst ((cs2.map (·.1)).map V.ref))) dw (.dT kvs)) := fun b z e => by
      by_cases hb : b = dw
      · rw [hb] at e ⊢
        rw [upd_same, ← e, hwd]
      · exact (upd_ne hb).trans ((upd_ne (ne_of_none (s7 b z hb e) hN)).trans (s7 b z hb e))
    have eN : upd (upd H7 N (.lst ((cs2.map (·.1)).map V.ref))) dw (.dT kvs) N = some (.lst ((cs2.map (·.1)).map V.ref)) := (upd_ne nNd).trans upd_same
    have hP3 : PairsAt (upd (upd H7 N (.lst ((cs2.map (·.1)).map V.ref))) dw (.dT kvs)) (cs2.map (·.1)) (srt L) := hP2.keep fun b us e => by
      have nb : b ≠ dw := fun z => by rw [z, f7] at e; cases e
      exact (upd_ne nb).trans ((upd_ne (ne_of_none e hN)).trans e)
    generalize upd (upd H7 N (.lst ((cs2.map (·.1)).map V.ref))) dw (.dT kvs) = H8 at S7 eN hP3 ⊢
    have lc1 : cs.length ≤ 16 * 60 := by rw [hc.1]; exact flt i
    have lc2 : (cs2.map (·.1)).length ≤ 60 := by
      rw [hP2.1, (srt_perm L).length_eq, ← hL]
      refine Nat.le_trans (List.length_filter_le _ _) ?_
      rw [List.length_map]
      omega
    refine ⟨O, N, _, _, rfl, rfl, S7 _ _ eO, eN, by rw [List.length_map, List.length_map]; exact big (by omega), fun O2 hO2 => ?_⟩
    refine ⟨_, _, O2, cs ++ cs2.map (·.1), rfl, s5.trans (S7.trans (upd_new hO2)), by rw [upd_same, List.map_append], ?_⟩
    rw [tk1 hp, List.flatMap_append]
    have e9 : ([p].flatMap fun p => srt ((d.ws.map (·.1)).filter fun t => decide (t.1 = p.1))) = srt L := by
      rw [← hL]
      simp
    rw [e9]
    exact pairs_app ((hc.same S7).same (upd_new hO2)) (hP3.same (upd_new hO2))
  rintro σ H5 ⟨u8, u9, O5, cs, rfl, s5, eO5, hc⟩
  rw [List.length_map, hal, List.take_length] at hc
  have S5 := S4.trans s5
  have hto5 := sqT_same S5 hto
  obtain ⟨was, hwa, hwd, hwt⟩ := hW.same S5
  have fl := flt d.ps.length
  rw [List.take_length] at fl
  -- .. + [("", output) ..]
  refine ⟨_, rfl, _, rfl, to, rfl, ⟨_, hto5⟩, fun D6 hD6 => ?_⟩
  refine lc_tup (K := K) (a := to) (xs := d.outs.map V.str) (fun i H' => Same H5 H' ∧ ∃ es : List Addr, H' D6 = some (.lst (es.map V.ref)) ∧ PairsAt H' es (((d.outs.take i).filter fun o => decide (((Str.empty, o) : Port) ∈ d.ws.map (·.1))).map fun o => (Str.empty, o))) ⟨upd_new hD6, [], upd_same, rfl, fun i a p e _ => by cases e⟩ (fun i H' _ q => sqT_same q.1 hto5) ?_ ?_
  · rintro i v H6 hi ⟨s6, es, e6, h6⟩
    rw [List.getElem?_map] at hi
    obtain ⟨y, hy, rfl⟩ := Option.map_eq_some_iff.mp hi
    refine ⟨rfl, _, rfl, small1 (by show 2 ≤ 8; decide), fun t ht => ⟨_, rfl, dw, _, rfl, DGet.t (k := keyOf (Str.empty, y)) ((s6.trans (upd_new ht)) _ _ hwd) upd_same, _, rfl, ?_⟩⟩
    rw [val_any, any_wires (Str.empty, y) d.ws was hwa]
    have cl : es.length ≤ 3 := by
      rw [h6.1, List.length_map]
      refine Nat.le_trans (List.length_filter_le _ _) ?_
      rw [List.length_take]
      omega
    by_cases hm : (((Str.empty, y) : Port) ∈ d.ws.map (·.1))
    · rw [decide_eq_true hm]
      have e7 : upd H6 t (.tup [V.str "", .str y]) D6 = some (.lst (es.map V.ref)) := (upd_new ht) _ _ e6
      refine iteT ⟨_, rfl, small1 (by show 2 ≤ 8; decide), fun t2 ht2 => ⟨_, (upd_new ht2) _ _ e7, lt (by rw [List.length_map]; omega), same_put (s6.trans ((upd_new ht).trans (upd_new ht2))) hD6, es ++ [t2], ?_, ?_⟩⟩
      · rw [upd_same, List.map_append]
        rfl
      · rw [tk1 hy, List.filter_append, List.map_append]
        have ef : ([y].filter fun o => decide (((Str.empty, o) : Port) ∈ d.ws.map (·.1))) = [y] := by simp [hm]
        rw [ef]
        have e8 := (upd_new (o := HO.tup [V.str "", .str y]) ht2) _ _ e7
        refine PairsAt.snoc ((h6.same ((upd_new ht).trans (upd_new (o := HO.tup [V.str "", .str y]) ht2))).keep fun b us e => (upd_ne fun z => ?_).trans e) ((upd_ne fun z => ?_).trans upd_same)
        · rw [z, e8] at e
          cases e
        · rw [← z, upd_same] at e8
          cases e8
    · rw [decide_eq_false hm]
      refine iteF ⟨s6.trans (upd_new ht), es, (upd_new ht) _ _ e6, ?_⟩
      rw [tk1 hy, List.filter_append]
      have ef : ([y].filter fun o => decide (((Str.empty, o) : Port) ∈ d.ws.map (·.1))) = [] := by simp [hm]
      rw [ef, List.append_nil]
      exact h6.same (upd_new ht)
  rintro H6 ⟨s6, es, e6, h6⟩
  rw [List.length_map, List.take_length] at h6
  have le : es.length ≤ 3 := by
    rw [h6.1, List.length_map]
    exact Nat.le_trans (List.length_filter_le _ _) ol
  have lcs : cs.length ≤ 16 * 60 := by rw [hc.1]; exact fl
  refine ⟨O5, D6, _, _, rfl, rfl, s6 _ _ eO5, e6, by rw [List.length_map, List.length_map]; exact big (by omega), fun O2 hO2 => ?_⟩
  have S6 := S5.trans (s6.trans (upd_new (o := HO.lst (cs.map V.ref ++ es.map V.ref)) hO2))
  have eO7 : upd H6 O2 (HO.lst (cs.map V.ref ++ es.map V.ref)) O2 = some (.lst ((cs ++ es).map V.ref)) := by rw [upd_same, List.map_append]
  have eR7 := (s6.trans (upd_new (o := HO.lst (cs.map V.ref ++ es.map V.ref)) hO2)) _ _ (s5 _ _ eR4)
  have hP7 : PairsAt (upd H6 O2 (HO.lst (cs.map V.ref ++ es.map V.ref))) (cs ++ es) (ordL d) := pairs_app ((hc.same s6).same (upd_new hO2)) (h6.same (upd_new hO2))
  have hOR : O2 ≠ R2 := (ne_of_none (s6 _ _ (s5 _ _ eR4)) hO2).symm
  have hHO2 : H6 O2 = none := hO2
  generalize upd H6 O2 (HO.lst (cs.map V.ref ++ es.map V.ref)) = H7 at S6 eO7 eR7 hP7 ⊢
  clear e6 h6 eO5 hc
  generalize hqs : cs ++ es = qs at eO7 hP7
  have lo7 := ord_len d hd
  -- for target in ordered
  obtain ⟨was, hwa, hwd, hwt⟩ := hW.same S6
  have wq : ∀ (j : Nat) (q : Addr), qs[j]? = some q → ∃ (t : Port) (a : Addr) (w1 : Port × Port), (ordL d)[j]? = some t ∧ H7 q = some (.tup [.str t.1, .str t.2]) ∧ srcOf d.ws t = w1.2 ∧ (t, srcOf d.ws t) ∈ d.ws ∧ H7 a = some (.tup [.str w1.2.1, .str w1.2.2]) ∧ valV ((d.ws.zip was).map fun q => (keyOf q.1.1, V.ref q.2)) (keyOf t) = some (V.ref a) := fun j q hq => by
    obtain ⟨t, ht⟩ : ∃ t, (ordL d)[j]? = some t := ⟨_, List.getElem?_eq_getElem (by have := (List.getElem?_eq_some_iff.mp hq).1; have := hP7.1; omega)⟩
    have hm := ord_mem (List.mem_of_getElem? ht)
    obtain ⟨m, w1, a, e1, e2, e3, e4⟩ := val_wire t d.ws was hwa hm
    exact ⟨t, a, w1, ht, hP7.2 j q t hq ht, e3, src_mem hm, hwt m w1 a e1 e2, e4⟩
  refine ⟨_, rfl, O2, rfl, ⟨_, .of eO7⟩, ?_⟩
  refine for_it (walk_list (xs := qs.map V.ref)) (fun j σ H' => ∃ u11 : Option V, σ = [some (.ref D), some (.str d.nm), some (.ref ti), some (.ref to), some (.ref tp), some (.ref dw), some (.str ends), some (.ref R2), u8, u9, some (.ref O2), u11, none] ∧ SameX R2 H7 H' ∧ H' R2 = some (.lst ((hd0 :: (d.ps.map partT ++ ((ordW d).take j).map wireT)).map V.str)))
    ⟨none, rfl, fun b u _ e => e, by rw [List.take_zero, List.map_nil, List.append_nil]; exact eR7⟩ (fun j σ H' _ q => ?_) ?turn2 ?done2
  · obtain ⟨_, _, z, _⟩ := q
    exact .of (z _ _ hOR eO7)
  case turn2 =>
    rintro j x σ H8 H9 hj ⟨u11, rfl, x8, eR8⟩ ⟨rfl, hx⟩
    rw [List.getElem?_map] at hx
    obtain ⟨q, hq, rfl⟩ := Option.map_eq_some_iff.mp hx
    obtain ⟨t, a, w1, ht, g1, e3, hmem, g2, e4⟩ := wq j q hq
    have nR : ∀ b us, H7 b = some (.tup us) → b ≠ R2 := fun b us e z => by
      rw [z, eR7] at e
      cases e
    have k1 := x8 _ _ (nR _ _ g1) g1
    have k2 := x8 _ _ (nR _ _ g2) g2
    have kw : H9 dw = some (HO.dT ((d.ws.zip was).map fun q => (keyOf q.1.1, V.ref q.2))) := x8 _ _ (fun z => by rw [z, eR7] at hwd; cases hwd) hwd
    have hs := hd.w _ hmem
    rw [e3] at hs
    have h1 := hs.1.1
    have h2 := hs.2.1.1
    have h3 := hs.2.2.1.1
    have h4 := hs.2.2.2.1
    dsimp only at h1 h2 h3 h4
    have p1 := portT_len t.1 t.2
    have p2 := portT_len w1.2.1 w1.2.2
    refine ⟨_, rfl, .inl ⟨rfl, _, .of eR8⟩, _, rfl, q, t.1, t.2, rfl, .of k1, by omega, by omega, _, _, rfl, rfl, big (by omega), _, _, rfl, rfl, big (by rw [sl]; omega), _, rfl, _, rfl, dw, .ref a, rfl, by rw [← e4]; exact DGet.t (k := keyOf t) kw k1, a, w1.2.1, w1.2.2, rfl, .of k2, by omega, by omega, _, _, rfl, rfl, big (by rw [sl, sl]; omega), R2, _, _, rfl, rfl, eR8, ?_, ?_⟩
    · rw [List.length_map, List.length_cons, List.length_append, List.length_map, List.length_map, List.length_take]
      have : (ordW d).length = (ordL d).length := by unfold ordW; rw [List.length_map]
      exact lt (by omega)
    · refine ⟨_, rfl, x8.trans SameX.put, ?_⟩
      have e5 : (ordW d)[j]? = some (t, w1.2) := by
        unfold ordW
        rw [List.getElem?_map, ht, ← e3]
        rfl
      rw [upd_same, tk1 e5]
      simp only [List.map_append, List.map_cons, List.map_nil, List.append_assoc, List.cons_append]
      rfl
  rintro σ H8 ⟨u11, rfl, x8, eR8⟩
  have lqs : (ordW d).length = qs.length := by
    unfold ordW
    rw [List.length_map, hP7.1]
  rw [List.length_map, ← lqs, List.take_length] at eR8
  have nR : ∀ b us, H7 b = some (.tup us) → b ≠ R2 := fun b us e z => by
    rw [z, eR7] at e
    cases e
  have S8 : Same H H8 := fun b u e => x8 _ _ (ne_of_none e hHR2) (S6 _ _ e)
  have eO8 := x8 _ _ hOR eO7
  -- the end
  refine ⟨_, rfl, small1 (by show 1 ≤ 8; decide), fun L1 hL1 => ⟨R2, L1, _, _, rfl, rfl, (upd_new hL1) _ _ eR8, upd_same, ?_, fun R3 hR3 => ?_⟩⟩
  · rw [List.length_map, List.length_cons, List.length_append, List.length_map, List.length_map]
    have : (ordW d).length = (ordL d).length := by unfold ordW; rw [List.length_map]
    exact big (by show _ + 1 ≤ _; omega)
  have s9 := (upd_new (o := HO.lst [V.str "end"]) hL1).trans (upd_new (o := HO.lst (List.map V.str (hd0 :: (d.ps.map partT ++ (ordW d).map wireT)) ++ [V.str "end"])) hR3)
  have eR9 : upd (upd H8 L1 (HO.lst [V.str "end"])) R3 (HO.lst (List.map V.str (hd0 :: (d.ps.map partT ++ (ordW d).map wireT)) ++ [V.str "end"])) R3 = some (.lst (List.map V.str (hd0 :: (d.ps.map partT ++ (ordW d).map wireT)) ++ [V.str "end"])) := upd_same
  generalize upd (upd H8 L1 (HO.lst [V.str "end"])) R3 (HO.lst (List.map V.str (hd0 :: (d.ps.map partT ++ (ordW d).map wireT)) ++ [V.str "end"])) = H9 at s9 eR9 ⊢
  refine ⟨_, rfl, O2, rfl, ⟨_, .of (s9 _ _ eO8)⟩, fun D9 hD9 => ?_⟩
  refine out_it (walk_list (xs := qs.map V.ref)) (fun j H' => Same H9 H' ∧ ∃ cs : List Addr, H' D9 = some (.lst (cs.map V.ref)) ∧ WPairsAt H' cs ((ordW d).take j))
    ⟨upd_new hD9, [], upd_same, rfl, fun i a p e _ => by cases e⟩ (fun j H' _ q => .of (q.1 _ _ (s9 _ _ eO8))) ?_ ?_
  · rintro j x H10 H11 hj ⟨s11, cs, e11, hc11⟩ ⟨rfl, hx⟩
    rw [List.getElem?_map] at hx
    obtain ⟨q, hq, rfl⟩ := Option.map_eq_some_iff.mp hx
    obtain ⟨t, a, w1, ht, g1, e3, hmem, g2, e4⟩ := wq j q hq
    have k1 := s11 _ _ (s9 _ _ (x8 _ _ (nR _ _ g1) g1))
    have k2 := s11 _ _ (s9 _ _ (x8 _ _ (nR _ _ g2) g2))
    have kw : H11 dw = some (HO.dT ((d.ws.zip was).map fun q => (keyOf q.1.1, V.ref q.2))) := s11 _ _ (s9 _ _ (x8 _ _ (fun z => by rw [z, eR7] at hwd; cases hwd) hwd))
    have e5 : (ordW d)[j]? = some (t, w1.2) := by
      unfold ordW
      rw [List.getElem?_map, ht, ← e3]
      rfl
    refine ⟨rfl, _, rfl, _, rfl, _, rfl, dw, .ref a, rfl, by rw [← e4]; exact DGet.t (k := keyOf t) kw k1, small1 (by show 2 ≤ 8; decide), fun r hr => ⟨_, (upd_new hr) _ _ e11, ?_, same_put (s11.trans (upd_new hr)) hD9, cs ++ [r], ?_, ?_⟩⟩
    · rw [List.length_map, hc11.1, List.length_take]
      have : (ordW d).length = (ordL d).length := by unfold ordW; rw [List.length_map]
      exact lt (by omega)
    · rw [upd_same, List.map_append]
      rfl
    · rw [tk1 e5]
      have e12 := (upd_new (o := HO.tup [V.ref q, V.ref a]) hr) _ _ e11
      have keep : ∀ c us, H11 c = some (.tup us) → upd (upd H11 r (.tup [.ref q, .ref a])) D9 (.lst (cs.map V.ref ++ [.ref r])) c = some (.tup us) := fun c us e => by
        have nb : c ≠ D9 := fun z => by rw [z, e11] at e; cases e
        exact (upd_ne nb).trans ((upd_ne (ne_of_none e hr)).trans e)
      refine WPairsAt.snoc (w := (t, w1.2)) (t := q) (s := a) (hc11.keep keep) ((upd_ne fun z => ?_).trans upd_same) (keep _ _ k1) (keep _ _ k2)
      rw [← z, upd_same] at e12
      cases e12
  rintro H10 ⟨s10, cs, e10, hc10⟩
  rw [List.length_map, ← lqs, List.take_length] at hc10
  refine ⟨D9, _, rfl, .inl ⟨.of e10, fun ta hta => ⟨small1 (by show 2 ≤ 8; decide), fun T hT => ?_⟩⟩⟩
  have s12 := (upd_new (o := HO.tup (cs.map V.ref)) hta).trans (upd_new (o := HO.tup [.ref R3, .ref ta]) hT)
  refine kk T R3 ta cs _ (S8.trans (s9.trans (s10.trans s12))) upd_same (s12 _ _ (s10 _ _ ?_)) ((upd_new hT) _ _ upd_same) (hc10.same s12)
  rw [eR9]
  unfold rowsT
  rw [hhd]
  simp only [List.map_append, List.map_cons, List.map_nil, List.append_assoc, List.cons_append]
end
end K5
/-! OwnL: len(set(l)), l a list of texts. -/
namespace Own
open PySem PySem.Spec PySem.Calls PyProof.Rows L2 SS
section
variable {prog : Program} {w : World} {A : Around} {E : Value → Shared → Prop} {s : Shared}
/-- set(l), l a list of texts -/
theorem call_set_lst {l : Addr} {items : Array Value} {xs : List Str} {Q : Value → Shared → Prop} (hh : A.handled = none) (hl : s.heap.IsList l items) (hi : StrsAre items.toList xs) (hb : xs.length + 1 < scanBound)
    (h : ∀ (h' : Heap) (tk : Nat), SetT prog w h' s.heap.objs.size xs → (∀ b o, b < s.heap.objs.size → s.heap.get? b = some o → h'.get? b = some o) → Q (.ref s.heap.objs.size) { s with heap := h', toks := tk }) :
    wpAny (model prog w) A (call (.type "set") [.ref l]) Q E s := by
  refine call_set_by fun led => ?_
  obtain ⟨hp, g, d, tk, os⟩ := s
  dsimp only at hl h ⊢
  have hS : (hp.push { cls := .type "set", dict := none, data := .set #[] 0 (.fresh 0 0 led) }).get? hp.objs.size = some { cls := .type "set", dict := none, data := .set #[] 0 (.fresh 0 0 led) } := Heap.get?_push_size _ rfl
  have hT : Shared.TypeIs ⟨hp.push { cls := .type "set", dict := none, data := .set #[] 0 (.fresh 0 0 led) }, g, d, tk, os⟩ (.ref hp.objs.size) "set" := ⟨_, hS, rfl⟩
  have hl1 : (hp.push { cls := .type "set", dict := none, data := .set #[] 0 (.fresh 0 0 led) }).IsList l items := hl.push _
  obtain ⟨⟨ocls, odict, odata, oslots⟩, hol, hcl, nl, hdl⟩ := id hl1
  simp only at hcl hdl
  subst hcl
  subst hdl
  have hsls := PySem.F.sub_list_set
  have hslf := PySem.F.sub_list_frozenset
  have hne : (Value.type "list" == Value.type "dict") = false := by decide
  unfold Builtin.«set.__init__» noKeywords Builtin.Frozenset.updateFrom
  generalize hPI : pyIter = PI
  wp_walk
  subst hPI
  refine wpAny_pyIter_list hl1 (wpAny_bind (wpAny_runValue ?_))
  have lS : l < hp.objs.size := let ⟨_, e, _⟩ := hl; Heap.lt_size e
  have zI : (hp.push (freshSet led)).objs.size = hp.objs.size + 1 := Heap.size_push ..
  have len : xs.length = items.size := by rw [← StrsAre.len_eq hi, Array.length_toList]
  refine fill_texts ((Walks.list (A := A.in1.in1.in1) (by simp [hh]) _ l (by rw [zI]; exact Nat.ne_of_lt (Nat.lt_succ_of_lt lS)) items).toS) hp.objs.size (by
      rw [zI]
      simp only [List.mem_cons, List.not_mem_nil, or_false, not_or]
      exact ⟨Nat.ne_of_lt (Nat.lt_succ_self _), Nat.ne_of_gt lS⟩) xs len (by rw [← len]; exact hb) (fun i v e => ?_) items.size 0 _ (by omega) ⟨⟨_, Heap.get?_push_size _ rfl, rfl, rfl⟩, hl1.push _⟩ ?_ fun s' m T => ?_
  · obtain ⟨t, e2⟩ := strs_at hi i v (by rw [Array.getElem?_toList]; exact e)
    have hi' : i < xs.length := by rw [len]; exact (Array.getElem?_eq_some_iff.mp e).1
    refine ⟨xs[i], t, List.getElem?_eq_getElem hi', ?_⟩
    rw [e2, List.getD_eq_getElem?_getD, List.getElem?_eq_getElem hi'] <;> rfl
  · refine ⟨0, SetOf_congr ((setObjOf_fresh (knd := strKind prog w) led).setOf (Heap.get?_push_of_some _ hS) (by unfold scanBound; omega)) (fun k => by simp) rfl, Nat.zero_le _, by simp⟩
  · obtain ⟨h', g', d', tk', os'⟩ := s'
    obtain rfl : g' = g := m.gens
    obtain rfl : d' = d := m.drawn
    obtain rfl : os' = os := m.os
    refine wpAny_pure ?_
    show wpAny _ _ (ret Value.none) _ _ _
    refine wpAny_pure ⟨rfl, h h' tk' T fun b o hb e => ?_⟩
    refine m.heap b o ?_ (Heap.get?_push_of_some _ (Heap.get?_push_of_some _ e))
    rw [zI]
    simp only [List.mem_cons, List.not_mem_nil, or_false, not_or]
    exact ⟨Nat.ne_of_lt hb, Nat.ne_of_lt (Nat.lt_succ_of_lt hb)⟩
end
end Own
namespace Own
open PySem PySem.Spec PyProof.Rows L2
/-- len(set(a)), a a list of texts: the number is told by whether they differ -/
def tLenSetL (K : PySem.W.Frag) (ta : TE) : TE := fun σ H Q => ta σ H fun x H1 => ∃ (l : Addr) (xs : List Str), x = .ref l ∧ SqL K H1 l (xs.map V.str) ∧ xs.length ≤ 4000 ∧
  ∀ c : Nat, c ≤ xs.length → (c = xs.length ↔ xs.Nodup) → Q (.int (c : Nat)) H1
theorem pe_lenSetL {X : Cx} {a : Expr} {ta : TE} {p p2 q pos : Pos} (hc : X.calm = true) (hg : Gl X "len") (hm : X.mg "len" = none) (hg2 : Gl X "set") (hm2 : X.mg "set" = none) (ha : PE X a ta)
    (na : starEach [a] X.env = (false, eval a X.env) :: starEach [] X.env := by rfl) : PE X (.Call (.Name "len" p) [.Call (.Name "set" p2) [a] [] q] [] pos) (tLenSetL X.K ta) := by
  refine ⟨fun pins s σ H Q I h => Call_ (ld_blt I hg hm boot_len ?_)⟩
  refine PyProof.Rows.callWith_builtin1 (PyProof.Rows.args_cons ?_ rfl) rfl rfl
  refine Call_ (ld_blt I hg2 hm2 boot_set ?_)
  refine PyProof.Rows.callWith_type1 (PyProof.Rows.args_cons (thn (ha.run pins s σ H _ I h) fun v s1 ⟨x, H1, I1, r1, l, xs, ex, ht, hl, k⟩ => PyProof.Rows.args_nil ?_) na) na rfl
  subst ex
  obtain rfl : v = Value.ref l := r1
  obtain ⟨its, r, pl, _⟩ := I1.list ht
  refine call_set_lst (I1.ok.hd hc) pl.isList (by simpa using strsAre_of r) (by unfold scanBound; omega) fun h' tk T keep => PyProof.Rows.args_nil ?_
  obtain ⟨c, ⟨o, es, ep, t, ho, hex, hd, _, _, _, hf, hn⟩, hc1, hc2⟩ := T
  have I2 : Inv X pins σ H1 { s1 with heap := h', toks := tk } := I1.kept fun b o e => keep b o (Heap.lt_size e) e
  exact call_len_set ho hex hd hf (by rw [hn]; omega) ⟨.int (c : Nat), H1, I2.tok _, ⟨_, by rw [hn]⟩, k c hc1 hc2⟩
end Own
/-! OwnN: sorted(set(l)), l a list of texts. -/
namespace Own
open PySem PySem.Spec PySem.Calls PyProof.Rows L2 SS
def txtOf (e : Int × Value) : Str := match e.2 with | .str x _ => x | _ => Str.empty
/-- the set's order can be told -/
def OrdOk (w : World) (t : SetTable) : Prop := Ris t.place.toList ∧ (w.params.followText "set-order" = true ∨ t.led = true)
/-- the entries are those texts of which S speaks, each once -/
structure EnT (prog : Program) (w : World) (l : List (Int × Value)) (xs : List Str) : Prop where
  el : ElemsOf (strKind prog w) l
  st : ∀ e ∈ l, ∃ tk, e.2 = .str (txtOf e) tk
  nd : (l.map txtOf).Nodup
  mem : ∀ x, x ∈ l.map txtOf ↔ x ∈ xs
/-- the set of the texts xs at a -/
def SetW (prog : Program) (w : World) (h : Heap) (a : Addr) (xs : List Str) : Prop :=
  ∃ o es ep t, h.get? a = some o ∧ o.ExactSet ∧ o.data = .set es ep t ∧ EnT prog w es.toList xs ∧ es.size ≤ xs.length ∧ es.size < scanBound ∧ t.fits es.size = true ∧ OrdOk w t
theorem SetW.move {prog : Program} {w : World} {h h' : Heap} {a : Addr} {xs : List Str} (T : SetW prog w h a xs) (k : ∀ o, h.get? a = some o → h'.get? a = some o) : SetW prog w h' a xs := by
  obtain ⟨o, es, ep, t, e, r⟩ := T
  exact ⟨o, es, ep, t, k o e, r⟩
theorem EnT.perm {prog : Program} {w : World} {l l' : List (Int × Value)} {xs : List Str} (T : EnT prog w l xs) (p : l'.Perm l) : EnT prog w l' xs :=
  ⟨T.el.perm p, fun e he => T.st e (p.mem_iff.mp he), (p.map txtOf).nodup_iff.mpr T.nd, fun x => (p.map txtOf).mem_iff.trans (T.mem x)⟩
theorem EnT.push {prog : Program} {w : World} {l : List (Int × Value)} {xs : List Str} {x : Str} {tk : Tok} (T : EnT prog w l xs) (hx : x ∉ xs) : EnT prog w (l ++ [((strKind prog w).hash x, Value.str x tk)]) (xs ++ [x]) := by
  refine ⟨T.el.push (strKind_is _ _ _ _) rfl, fun e he => ?_, ?_, fun y => ?_⟩
  · rcases List.mem_append.mp he with z | z
    · exact T.st e z
    · rw [List.mem_singleton.mp z]
      exact ⟨tk, rfl⟩
  · rw [List.map_append, List.nodup_append]
    refine ⟨T.nd, by simp, fun a ha b hb => ?_⟩
    obtain rfl : b = x := List.mem_singleton.mp hb
    exact fun z => hx ((T.mem _).mp (z ▸ ha))
  · rw [List.map_append, List.mem_append, List.mem_append, T.mem y]
    exact Iff.rfl
theorem EnT.same {prog : Program} {w : World} {l : List (Int × Value)} {xs : List Str} {x : Str} (T : EnT prog w l xs) (hx : x ∈ xs) : EnT prog w l (xs ++ [x]) :=
  ⟨T.el, T.st, T.nd, fun y => by
    rw [List.mem_append, T.mem y]
    refine ⟨.inl, fun z => z.elim id fun z => ?_⟩
    rw [List.mem_singleton.mp z]
    exact hx⟩
section
variable {prog : Program} {w : World} {A : Around} {E : Value → Shared → Prop} {s : Shared}
/-- what follows where a new entry has been laid -/
theorem store_tail {g : Bool → Sem Unit} (hg : ∀ (b : Bool) (s' : Shared) (Q' : Unit → Shared → Prop), Q' () s' → wpAny (model prog w) A (g b) Q' E s')
    {a : Addr} {o : Obj} {es : Array (Int × Value)} {ep : Nat} {t : SetTable} (e0 : s.heap.get? a = some o) (ex : o.ExactSet) (ed : o.data = .set es ep t)
    {fs : Array (Int × Value)} {t2 : SetTable} {ys : List Str} (T : EnT prog w fs.toList ys) (zl : fs.size ≤ ys.length) (zb : fs.size < scanBound) (zf : t2.fits fs.size = true) (zo : OrdOk w t2) {wd : Bool} {R : Option Bool → Shared → Prop}
    (k : ∀ h', Heap.SameBut a s.heap h' → SetW prog w h' a ys → R (some true) { s with heap := h' }) :
    wpAny (model prog w) A (do
        storeSet a fs t2
        if (!wd && t2.tooFull) = true then do
            g (relayAll t2 fs (SetTable.grown fs.size)).2.2
            storeSet a (relayAll t2 fs (SetTable.grown fs.size)).1 (relayAll t2 fs (SetTable.grown fs.size)).2.1
            pure (some true)
          else pure (some true)) R E s := by
  have f1 := store_at (es' := fs) (t' := t2) e0 ed
  have b1 := Heap.SameBut.update s.heap a (Obj.putSet fs t2)
  refine wpAny_bind (wpAny_storeSet_of e0 ed ?_ (fits_of_scanBound zb))
  split
  · have q1 := relayAll_perm t2 fs (SetTable.grown fs.size)
    have q2 := relayAll_fits t2 fs (SetTable.grown fs.size)
    have q3 := relayAll_ris t2 fs (SetTable.grown fs.size)
    have q4 := relayAll_led t2 fs (SetTable.grown fs.size)
    generalize relayAll t2 fs (SetTable.grown fs.size) = L at q1 q2 q3 q4 ⊢
    obtain ⟨gs, t3, gave⟩ := L
    dsimp only at q1 q2 q3 q4 ⊢
    have zs : gs.size = fs.size := by
      have := q1.length_eq
      rwa [Array.length_toList, Array.length_toList] at this
    refine wpAny_bind (hg _ _ _ (wpAny_bind (wpAny_storeSet_of f1 rfl (wpAny_pure (k _ (b1.trans (Heap.SameBut.update _ a _)) ?_)) (fits_of_scanBound (by omega)))))
    exact ⟨_, gs, _, t3, store_at (es' := gs) (t' := t3) f1 rfl, ex, rfl, T.perm q1, by omega, by omega, q2, q3, zo.2.imp id fun z => q4.trans z⟩
  · exact wpAny_pure (k _ b1 ⟨_, fs, _, t2, f1, ex, rfl, T, zl, zb, zf, zo⟩)
/-- a text is added -/
theorem addW {a : Addr} {xs : List Str} {x : Str} {tk : Tok} {Q : Bool → Shared → Prop} (T : SetW prog w s.heap a xs) (room : xs.length + 1 < scanBound)
    (k : ∀ h' b, Heap.SameBut a s.heap h' → SetW prog w h' a (xs ++ [x]) → Q b { s with heap := h' }) : wpAny (model prog w) A (setAddHashed a (.str x tk) ((strKind prog w).hash x)) Q E s := by
  obtain ⟨o, es, ep, t, e0, ex, ed, T, zl, zb, zf, zo⟩ := T
  have key : (strKind prog w).is x (.str x tk) = true := strKind_is _ _ _ _
  have sc : (Value.str x tk).scannable = true := rfl
  have lx : (xs ++ [x]).length = xs.length + 1 := by rw [List.length_append]; rfl
  unfold setAddHashed setAddHashedIn
  refine wpAny_holding (wpAny_bind (wpAny_setState_of e0 ed zf ?_))
  dsimp only
  rw [byScan_of sc zb T.el]
  simp only [↓reduceIte]
  unfold setAddByScan
  refine wpAny_bind (wpAny_bind (wpAny_rule (wpAny_bind (wpAny_setScan_of key e0 ed zf T.el ?_))))
  cases hr : List.findIdx? (fun e => (strKind prog w).is x e.2) es.toList with
  | some j =>
    dsimp only
    obtain ⟨hj, pj, _⟩ := List.findIdx?_eq_some_iff_getElem.mp hr
    have hx : x ∈ xs := by
      refine (T.mem x).mp (List.mem_map.mpr ⟨es.toList[j], List.getElem_mem hj, ?_⟩)
      obtain ⟨tk2, e2⟩ := T.st _ (List.getElem_mem hj)
      rw [e2] at pj
      exact (strKind prog w).inj _ _ _ (strKind_is _ _ _ _) pj
    exact wpAny_pure (wpAny_pure (k s.heap _ (Heap.SameBut.refl a s.heap) ⟨o, es, ep, t, e0, ex, ed, T.same hx, by omega, zb, zf, zo⟩))
  | none =>
    dsimp only
    have hx : x ∉ xs := fun z => by
      obtain ⟨e, he, q⟩ := List.mem_map.mp ((T.mem x).mpr z)
      obtain ⟨tk2, e2⟩ := T.st e he
      have c := List.findIdx?_eq_none_iff.mp hr e he
      rw [e2, q, show (strKind prog w).is x (.str x tk2) = true from strKind_is _ _ _ _] at c
      cases c
    have way : ∀ (b : Bool) {s' : Shared} {Q' : Unit → Shared → Prop}, Q' () s' → wpAny (model prog w) A (match b with | true => rule "set.scan.the-table-gave-way" | false => pure ()) Q' E s' := fun b s' Q' q => by
      cases b
      · exact wpAny_pure q
      · exact wpAny_rule q
    have q1 := layNew_perm t es ((strKind prog w).hash x) (.str x tk)
    have q2 := layNew_fits t es ((strKind prog w).hash x) (.str x tk)
    have q3 := layNew_ris t es ((strKind prog w).hash x) (.str x tk) zo.1
    have q4 := layNew_led t es ((strKind prog w).hash x) (.str x tk)
    generalize layNew t es ((strKind prog w).hash x) (.str x tk) = L at q1 q2 q3 q4 ⊢
    obtain ⟨fs, t1, wd, gave⟩ := L
    dsimp only at q1 q2 q3 q4 ⊢
    rw [Array.toList_push] at q1
    have T1 : EnT prog w fs.toList (xs ++ [x]) := (T.push hx).perm q1
    have zs : fs.size = es.size + 1 := by
      have := q1.length_eq
      rwa [Array.length_toList, List.length_append, Array.length_toList] at this
    have zo1 : OrdOk w t1 := ⟨q3, zo.2.imp id fun z => q4.trans z⟩
    refine wpAny_bind (way _ ?_)
    split
    · refine wpAny_bind ?_
      rw [hashByValue_scannable 8 sc]
      refine wpAny_pure (store_tail ?_ e0 ex ed T1 (by omega) (by omega) ?_ ?_ fun h' sb r => ?_)
      · intro b s' Q' q
        exact way b q
      · split
        · exact q2
        · exact SetTable.fits_plain_off q2
      · split
        · exact zo1
        · exact zo1
      · dsimp only
        exact wpAny_pure (k h' _ sb r)
    · refine wpAny_bind (wpAny_pure ?_)
      simp only [↓reduceIte]
      refine store_tail ?_ e0 ex ed T1 (by omega) (by omega) q2 zo1 fun h' sb r => ?_
      · intro b s' Q' q
        exact way b q
      · dsimp only
        exact wpAny_pure (k h' _ sb r)
end
end Own
namespace Own
open PySem PySem.Spec PySem.Calls PyProof.Rows L2 SS
section
variable {prog : Program} {w : World} {A : Around} {R : Result → Shared → Prop} {I : Addr} {fp wr : List Addr} {G : Array GenState → Array GenState → Prop} {n : Nat} {P : Nat → Value → Prop} {St : Nat → Shared → Prop}
/-- the loop that fills it, the order told -/
theorem fillW (W : WalksS prog w A.in1 I fp wr G n P St) (S : Addr) (hS : S ∉ fp) (xs : List Str) (hl : xs.length = n) (hb : n + 1 < scanBound) (hv : ∀ i v, P i v → ∃ x t, xs[i]? = some x ∧ v = .str x t) :
    ∀ (left i : Nat) (s : Shared), i + left = n → St i s → SetW prog w s.heap S (xs.take i) → (∀ s', Moved (S :: wr) G s s' → SetW prog w s'.heap S xs → R (.ok (.ret .none)) s') →
      codeAny (model prog w) A (.builtin "set.update.loop" ⟨[.ref S, .ref I], []⟩) R s := by
  have nw : S ∉ wr := fun h => hS (W.sub _ h)
  have up : ∀ b ∈ wr, b ∈ S :: wr := fun b hb => List.mem_cons_of_mem _ hb
  intro left
  induction left with
  | zero =>
    intro i s e hst T k
    have e : i = n := e
    subst e
    refine codeAny_builtin F.entry_set_update_loop ?_
    rw [Around.under_plainId F.plain_set_update_loop _]
    show wpAny _ A.in1 (pyNext (.ref I) >>= _) _ _ s
    refine wpAny_bind (W.done s _ _ hst fun s' m => wpAny_pure (k s' (m.mono up) ?_))
    rw [List.take_of_length_le (Nat.le_of_eq hl)] at T
    exact T.move fun o e => m.heap S o nw e
  | succ left ih =>
    intro i s e hst T k
    refine codeAny_builtin F.entry_set_update_loop ?_
    rw [Around.under_plainId F.plain_set_update_loop _]
    show wpAny _ A.in1 (pyNext (.ref I) >>= _) _ _ s
    refine wpAny_bind (W.item i s _ _ (by omega) hst fun v s' pv hst' m => ?_)
    obtain ⟨x, t, hx, rfl⟩ := hv i v pv
    have T1 : SetW prog w s'.heap S (xs.take i) := T.move fun o e => m.heap S o nw e
    have lt : (xs.take i).length = i := by rw [List.length_take]; omega
    show wpAny _ A.in1 (holding [Value.str x t] (setAdd S (.str x t)) >>= _) _ _ s'
    refine wpAny_bind (wpAny_holding ?_)
    unfold setAdd
    refine wpAny_holding (wpAny_bind ((strKind prog w).pyHash (k := x) (strKind_is _ _ _ _) ?_))
    refine addW (s := { s' with toks := s'.toks + 1 }) T1 (by rw [lt]; omega) fun h' b sb T2 => ?_
    have T3 : SetW prog w h' S (xs.take (i + 1)) := by
      rw [List.take_add_one, hx]
      exact T2
    refine wpAny_pure ⟨plainId_quiet F.plain_set_update_loop _, ih (i + 1) _ (by omega) (W.frame _ s' _ _ hst' (Nat.le_succ _) fun b hb o e => ?_) T3 fun s2 m2 T4 => k s2 (Moved.trans W.gtrans ((m.mono up).then_heap (Nat.le_succ _) fun b o nb e => ?_) m2) T4⟩
    · rw [sb.2 b fun z => hS (z ▸ hb)]
      exact e
    · rw [sb.2 b fun z => nb (z ▸ List.mem_cons_self)]
      exact e
end
section
variable {prog : Program} {w : World} {A : Around} {E : Value → Shared → Prop} {s : Shared}
/-- a fresh set in the world's order -/
abbrev ledSet (w : World) : Obj := freshSet (!w.params.followText "set-order")
theorem ledSet_new {h : Heap} {a : Addr} (e : h.get? a = some (ledSet w)) : SetW prog w h a [] :=
  ⟨_, #[], 0, _, e, ⟨rfl, rfl, rfl⟩, rfl, ⟨(fun e he => by simp at he), (fun e he => by simp at he), by simp, (fun x => by simp)⟩, Nat.le_refl _, by decide, rfl, List.Pairwise.nil, by
    show _ ∨ (!w.params.followText "set-order") = true
    cases w.params.followText "set-order"
    · exact .inr rfl
    · exact .inl rfl⟩
/-- set(x), the order told: what __init__ does at the fresh set decides -/
theorem call_setW_by {x : Value} {Q : Value → Shared → Prop}
    (fill : wpAny (model prog w) A.in1.in1 (Builtin.«set.__init__» ⟨[.ref s.heap.objs.size, x], []⟩)
        (fun fin s' => match fin with | .done f => wants (fun r s₂ => r = .none ∧ Q (.ref s.heap.objs.size) s₂) E (.ok f) s' | .again c' => c'.quiet = true ∧ codeAny (model prog w) A.in1 c' (wants (fun r s₂ => r = .none ∧ Q (.ref s.heap.objs.size) s₂) E) s')
        (fun e s' => wants (fun r s₂ => r = .none ∧ Q (.ref s.heap.objs.size) s₂) E (.error e) s') { s with heap := s.heap.push (ledSet w) }) :
    wpAny (model prog w) A (call (.type "set") [x]) Q E s := by
  obtain ⟨c, tl, hmro⟩ := PySem.F.called_set.mro
  have hmade := PySem.F.called_set.made
  have hsub := PySem.F.called_set.sub
  have h1 := PySem.F.called_set.notType
  have h2 := PySem.F.called_set.canCreate
  have hct := PySem.F.typeCall_set_1 x
  refine wpAny_call (codeAny_of_tree ?_)
  show wpAny _ _ (callAny (.type "set") _) _ _ _
  refine wpAny_pure ⟨Code.quiet_builtin _ (by decide +kernel), codeAny_builtin PySem.F.entry_type_call ?_⟩
  rw [Around.under_plain (weight_type_call_type "set" [x] []) rfl]
  repeat (any_goals (first | assumption | wp_step))

  refine codeAny_mono (code_set_led1 x (E := E) (Q₁ := fun obj s₁ => obj = .ref s.heap.objs.size ∧ s₁ = { s with heap := s.heap.push (ledSet w) }) ⟨rfl, rfl⟩) fun r s₁ hr => ?_
  cases r with
  | error e => exact hr
  | ok fl =>
    cases fl with
    | ret obj =>
      obtain ⟨rfl, rfl⟩ := hr
      have hT : Shared.TypeIs { s with heap := s.heap.push (ledSet w) } (.ref s.heap.objs.size) "set" := ⟨_, Heap.get?_push_size _ rfl, rfl⟩
      have hli := PySem.F.called_set.init.lookup
      have hbi := PySem.F.called_set.init.bind (.ref s.heap.objs.size)
      repeat (any_goals (first | assumption | wp_step))

      refine codeAny_mono (codeAny_call_builtin PySem.F.called_set.init.plain PySem.F.entry_set_init (check_set_init_1 hT fill)) fun r₂ s₂ hr₂ => ?_
      cases r₂ with
      | error e => exact hr₂
      | ok fl₂ =>
        cases fl₂ with
        | ret r =>
          obtain ⟨rfl, hq⟩ := hr₂
          repeat (any_goals (first | assumption | wp_step))
        | _ => exact hr₂.elim
    | _ => exact hr.elim
/-- set(l), l a list of texts, the order told -/
theorem call_setW_lst {l : Addr} {items : Array Value} {xs : List Str} {Q : Value → Shared → Prop} (hh : A.handled = none) (hl : s.heap.IsList l items) (hi : StrsAre items.toList xs) (hb : xs.length + 1 < scanBound)
    (h : ∀ (h' : Heap) (tk : Nat), SetW prog w h' s.heap.objs.size xs → (∀ b o, s.heap.get? b = some o → h'.get? b = some o) → Q (.ref s.heap.objs.size) { s with heap := h', toks := tk }) :
    wpAny (model prog w) A (call (.type "set") [.ref l]) Q E s := by
  refine call_setW_by ?_
  obtain ⟨hp, g, d, tk, os⟩ := s
  dsimp only at hl h ⊢
  have hS : (hp.push (ledSet w)).get? hp.objs.size = some (ledSet w) := Heap.get?_push_size _ rfl
  have hT : Shared.TypeIs ⟨hp.push (ledSet w), g, d, tk, os⟩ (.ref hp.objs.size) "set" := ⟨_, hS, rfl⟩
  have hl1 : (hp.push (ledSet w)).IsList l items := hl.push _
  obtain ⟨⟨ocls, odict, odata, oslots⟩, hol, hcl, nl, hdl⟩ := id hl1
  simp only at hcl hdl
  subst hcl
  subst hdl
  have hsls := PySem.F.sub_list_set
  have hslf := PySem.F.sub_list_frozenset
  have hne : (Value.type "list" == Value.type "dict") = false := by decide
  unfold Builtin.«set.__init__» noKeywords Builtin.Frozenset.updateFrom
  generalize hPI : pyIter = PI
  wp_walk
  subst hPI
  refine wpAny_pyIter_list hl1 (wpAny_bind (wpAny_runValue ?_))
  have lS : l < hp.objs.size := let ⟨_, e, _⟩ := hl; Heap.lt_size e
  have zI : (hp.push (ledSet w)).objs.size = hp.objs.size + 1 := Heap.size_push ..
  have len : xs.length = items.size := by rw [← StrsAre.len_eq hi, Array.length_toList]
  refine fillW ((Walks.list (A := A.in1.in1.in1) (by simp [hh]) _ l (by rw [zI]; exact Nat.ne_of_lt (Nat.lt_succ_of_lt lS)) items).toS) hp.objs.size (by
      rw [zI]
      simp only [List.mem_cons, List.not_mem_nil, or_false, not_or]
      exact ⟨Nat.ne_of_lt (Nat.lt_succ_self _), Nat.ne_of_gt lS⟩) xs len (by rw [← len]; exact hb) (fun i v e => ?_) items.size 0 _ (by omega) ⟨⟨_, Heap.get?_push_size _ rfl, rfl, rfl⟩, hl1.push _⟩ ?_ fun s' m T => ?_
  · obtain ⟨t, e2⟩ := strs_at hi i v (by rw [Array.getElem?_toList]; exact e)
    have hi' : i < xs.length := by rw [len]; exact (Array.getElem?_eq_some_iff.mp e).1
    refine ⟨xs[i], t, List.getElem?_eq_getElem hi', ?_⟩
    rw [e2, List.getD_eq_getElem?_getD, List.getElem?_eq_getElem hi'] <;> rfl
  · exact ledSet_new (Heap.get?_push_of_some _ hS)
  · obtain ⟨h', g', d', tk', os'⟩ := s'
    obtain rfl : g' = g := m.gens
    obtain rfl : d' = d := m.drawn
    obtain rfl : os' = os := m.os
    refine wpAny_pure ?_
    show wpAny _ _ (ret Value.none) _ _ _
    refine wpAny_pure ⟨rfl, h h' tk' T fun b o e => ?_⟩
    have hb := Heap.lt_size e
    refine m.heap b o ?_ (Heap.get?_push_of_some _ (Heap.get?_push_of_some _ e))
    rw [zI]
    simp only [List.mem_cons, List.not_mem_nil, or_false, not_or]
    exact ⟨Nat.ne_of_lt hb, Nat.ne_of_lt (Nat.lt_succ_of_lt hb)⟩
theorem strs_txts : ∀ (l : List (Int × Value)) (us : List Value), us = l.map (·.2) → (∀ e ∈ l, ∃ tk, e.2 = .str (txtOf e) tk) → StrsAre us (l.map txtOf)
  | [], us, e, _ => by
    subst e
    exact .nil
  | e :: l, us, q, h => by
    subst q
    obtain ⟨tk, z⟩ := h e List.mem_cons_self
    rw [List.map_cons, List.map_cons]
    generalize txtOf e = x at z ⊢
    rw [z]
    exact .cons x tk (strs_txts l _ rfl fun c hc => h c (List.mem_cons_of_mem _ hc))
theorem perm_texts {l : List (Int × Value)} (h : ∀ e ∈ l, ∃ tk, e.2 = .str (txtOf e) tk) {us : List Value} (p : us.Perm (l.map (·.2))) : ∃ ys : List Str, StrsAre us ys ∧ ys.Perm (l.map txtOf) := by
  have key : ∀ v ∈ us, ∃ x tk, v = .str x tk := fun v hv => by
    obtain ⟨e, he, rfl⟩ := List.mem_map.mp (p.mem_iff.mp hv)
    obtain ⟨tk, z⟩ := h e he
    exact ⟨_, tk, z⟩
  have mk : ∀ (vs : List Value), (∀ v ∈ vs, ∃ x tk, v = .str x tk) → StrsAre vs (vs.map fun v => txtOf (0, v)) := fun vs => by
    induction vs with
    | nil => exact fun _ => .nil
    | cons v r ih =>
      intro q
      obtain ⟨x, tk, rfl⟩ := q v List.mem_cons_self
      exact .cons x tk (ih fun u hu => q u (List.mem_cons_of_mem _ hu))
  refine ⟨_, mk us key, ?_⟩
  have := p.map fun v => txtOf (0, v)
  rwa [List.map_map] at this
/-- sorted(a), a the set of the texts xs -/
theorem sortedW {a : Addr} {xs : List Str} {Q : Value → Shared → Prop} (T : SetW prog w s.heap a xs) (hh : A.handled = none)
    (k : ∀ s' p (out : Array Value) (c : Nat) (ys : List Str), (∀ b o, s.heap.get? b = some o → s'.heap.get? b = some o) → s'.gens = s.gens → s'.os = s.os → s.heap.objs.size ≤ p →
      s'.heap.get? p = some (seqObj "list" out c) → StrsAre out.toList ys → sortedS ys = true → ys.Nodup → (∀ x, x ∈ ys ↔ x ∈ xs) → ys.length ≤ xs.length → Q (.ref p) s') :
    wpAny (model prog w) A (call (.builtin "sorted") [.ref a]) Q E s := by
  obtain ⟨o, es, ep, t, e0, ex, ed, T, zl, zb, zf, zo⟩ := T
  refine Calls.call_function_entry kind_sorted plain_sorted entry_sorted (args_sorted1 _) ?_
  unfold Builtin.«sorted»
  refine wpAny_bind (m := checkCount "sorted" 1 1 _) (wpAny_pure ?_)
  refine wpAny_bind (collect_set (A := A.in1) hh ⟨o, e0, ex.1, ed⟩ zf zb zo.1 zo.2 fun s1 vs k1 hz g1 o1 pm => ?_)
  obtain ⟨us, hS, pu⟩ := perm_texts T.st pm
  have zv : vs.length ≤ sizeLine := by
    rw [pm.length_eq, List.length_map, Array.length_toList]
    exact fits_of_scanBound zb
  refine wpAny_bind (wpAny_newList ?_ zv)
  have new : (s1.heap.push (seqObj "list" vs.toArray 0)).get? s1.heap.objs.size = some (seqObj "list" vs.toArray 0) := Heap.get?_push_size _ rfl
  refine wpAny_bind (wpAny_holding (wpAny_call_entry slot_list_sort ⟨_, new, rfl⟩ entry_list_sort (list_sort_treeKAny strKind_oneLt new hS.keysOf (fun v₁ v₂ rest e => keyKind_strs (by rw [← e]; exact hS)) zv fun st' hp hs => ⟨_, rfl, ?_⟩) (args_list_sort _)))
  obtain ⟨ys, y1, y2, y3⟩ := sorted_out_str hS hp hs
  obtain ⟨c, hc⟩ := sortedHeap_at (vs := vs) (out := (arrOf st').map (·.2)) new
  have py : ys.Perm (es.toList.map txtOf) := y2.trans pu
  refine wpAny_pure ⟨_, rfl, k _ s1.heap.objs.size _ c ys (fun b u e => ?_) g1 o1 hz hc y1 y3 (py.nodup_iff.mpr T.nd) (fun x => py.mem_iff.trans (T.mem x)) ?_⟩
  · have q := k1 b u e
    have hlt := Heap.lt_size q
    show (sortedHeap (s1.heap.push (seqObj "list" vs.toArray 0)) s1.heap.objs.size vs _).get? b = some u
    rw [sortedHeap_old (Nat.ne_of_lt hlt) (by rw [size_push']; exact Nat.lt_succ_of_lt hlt)]
    exact Heap.get?_push_of_some _ q
  · rw [py.length_eq, List.length_map, Array.length_toList]
    exact zl
end
end Own
namespace Own
open PySem PySem.Spec PyProof.Rows L2
/-- sorted(set(a)), a a list of texts -/
def tSortSet (K : PySem.W.Frag) (ta : TE) : TE := fun σ H Q => ta σ H fun x H1 => ∃ (l : Addr) (xs : List Str), x = .ref l ∧ SqL K H1 l (xs.map V.str) ∧ xs.length ≤ 4000 ∧
  ∀ (ys : List Str) (p : Addr), sortedS ys = true → ys.Nodup → (∀ x, x ∈ ys ↔ x ∈ xs) → ys.length ≤ xs.length → H1 p = none → Q (.ref p) (upd H1 p (.lst (ys.map V.str)))
theorem pe_sortSet {X : Cx} {a : Expr} {ta : TE} {p p2 q pos : Pos} (hc : X.calm = true) (hg : Gl X "sorted") (hm : X.mg "sorted" = none) (hbs : bootBuiltins "sorted" = some (.builtin "sorted")) (hg2 : Gl X "set") (hm2 : X.mg "set" = none) (ha : PE X a ta)
    (na : starEach [a] X.env = (false, eval a X.env) :: starEach [] X.env := by rfl) : PE X (.Call (.Name "sorted" p) [.Call (.Name "set" p2) [a] [] q] [] pos) (tSortSet X.K ta) := by
  refine ⟨fun pins s σ H Q I h => Call_ (ld_blt I hg hm hbs ?_)⟩
  refine PyProof.Rows.callWith_builtin1 (PyProof.Rows.args_cons ?_ rfl) rfl rfl
  refine Call_ (ld_blt I hg2 hm2 boot_set ?_)
  refine PyProof.Rows.callWith_type1 (PyProof.Rows.args_cons (thn (ha.run pins s σ H _ I h) fun v s1 ⟨x, H1, I1, r1, l, xs, ex, ht, hl, k⟩ => PyProof.Rows.args_nil ?_) na) na rfl
  subst ex
  obtain rfl : v = Value.ref l := r1
  obtain ⟨its, r, pl, _⟩ := I1.list ht
  refine call_setW_lst (I1.ok.hd hc) pl.isList (by simpa using strsAre_of r) (by unfold scanBound; omega) fun h' tk T keep => PyProof.Rows.args_nil ?_
  have I2 : Inv X pins σ H1 { s1 with heap := h', toks := tk } := I1.kept fun b o e => keep b o e
  have T2 : SetW X.prog X.w ({ s1 with heap := h', toks := tk } : Shared).heap s1.heap.objs.size xs := T
  generalize ({ s1 with heap := h', toks := tk } : Shared) = S2 at I2 T2 ⊢
  refine sortedW T2 (I2.ok.hd hc) fun s' p out c ys k2 g2 o2 hp hgt hi hs hn hmem hlen => ?_
  have hno : H1 p = none := I2.hok.fresh hp
  have zl : (ys.map V.str).length ≤ sizeLine := by rw [List.length_map, sizeLine_eq]; omega
  have J : Inv X pins σ (upd H1 p (.lst (ys.map V.str))) { S2 with heap := s'.heap, gens := s'.gens, drawn := s'.drawn, toks := s'.toks } :=
    I2.call (ch := []) (Un.laid k2 hp hno) (I2.hok.laid k2 hp ⟨zl, out.toList, c, vals_of_strs hi, hgt⟩) (by rw [g2]; exact I2.bare) (fun _ z => nomatch z)
  have e : s' = { S2 with heap := s'.heap, gens := s'.gens, drawn := s'.drawn, toks := s'.toks } := by
    cases s'
    cases S2
    cases o2
    rfl
  rw [e]
  exact ⟨.ref p, _, J, rfl, k ys p hs hn hmem hlen hno⟩
end Own
namespace K5
open PySem L2 Own StX ClX NdefX
abbrev sDgm : Stmt := top 33
/-- the text of a block -/
abbrev BlkT (words : List Str) (x : Str) : Prop := TOk 16 1 x ∧ BlkOk5 x
def prtW : List Str := ["in", "a", "b", "c", "out", "rest"]
abbrev PrtT (words : List Str) (x : Str) : Prop := x ∈ prtW ∨ x ∈ words
/-- what a drawn diagram is, made of the words -/
structure DGen (words : List Str) (d : Dd) : Prop where
  nm : ∃ y, words[13]? = some y ∧ d.nm = ("z" : Str) ++ cutS y none (some 7)
  ins : ∃ i, i ≤ 3 ∧ d.ins = words.take i
  outs : ∃ j, j ≤ 3 ∧ d.outs = (words.drop 4).take j
  pn : ∃ k n, (k = 0 ∨ k = 4 ∨ k = 8) ∧ n ≤ 4 ∧ d.ps.map (·.1) = (words.drop k).take n
  pb : ∀ p ∈ d.ps, BlkT words p.2
  wl : d.ws.length ≤ 40
  wk : ∀ w ∈ d.ws, (w.1.1 = Str.empty ∧ w.1.2 ∈ d.outs) ∨ (w.1.1 ∈ d.ps.map (·.1) ∧ PrtT words w.1.2)
  wv : ∀ w ∈ d.ws, (w.2.1 = Str.empty ∧ w.2.2 ∈ d.ins) ∨ (w.2.1 ∈ d.ps.map (·.1) ∧ PrtT words w.2.2)
  wn : (d.ws.map (·.1)).Nodup
def spDgmG (K : PySem.W.Frag) : Sp := fun vs H Q _ => ∃ (a l : Addr) (d s : Int) (ws : List Str), vs = [.ref a, .ref l] ∧ H a = some (.lst [.int d, .int s]) ∧ 0 ≤ d ∧ H l = some (.lst (ws.map V.str)) ∧ a ≠ l ∧ ws.length = 14 ∧ (∀ x ∈ ws, Wd 8 x ∧ isNm x = true) ∧ ws.Nodup ∧
  ∀ (D : Addr) d' s' H' dd, SameX a H H' → H' a = some (.lst [.int d', .int s']) → 0 ≤ d' → DAt K H' D dd → DGen ws dd → Q (.ref D) H'
theorem cut_low (xs : List V) (n : Nat) : cutV xs none (some (n : Int)) = xs.take n := by
  unfold cutV
  rw [HT.sIx_nat, HT.sIx_none, List.drop_zero, Nat.sub_zero]
  rcases Nat.le_total n xs.length with q | q
  · rw [Nat.min_eq_left q]
  · rw [Nat.min_eq_right q, List.take_length, List.take_of_length_le q]
theorem cut_mid (xs : List V) (m n : Nat) (h : m + n ≤ xs.length) : cutV xs (some (m : Int)) (some ((m + n : Nat) : Int)) = (xs.drop m).take n := by
  unfold cutV
  rw [HT.sIx_nat, HT.sIx_nat, Nat.min_eq_left h, Nat.min_eq_left (by omega), Nat.add_sub_cancel_left]
theorem putX {a p : Addr} {H H1 : Hp} {o : HO} (x : SameX a H H1) (h : H p = none) : SameX a H (upd H1 p o) := fun b u n e => (upd_ne (ne_of_none e h)).trans (x b u n e)
theorem SameX.tups {a : Addr} {H H' : Hp} {l : List V} (x : SameX a H H') (e : H a = some (.lst l)) : ∀ b us, H b = some (.tup us) → H' b = some (.tup us) := fun b us q => x _ _ (fun z => by rw [z, e] at q; cases q) q
def okT (x : Str) : Prop := ∀ c ∈ x.cps.toList, c < 1114112
def shortP (p : Port) : Prop := okT p.1 ∧ okT p.2
theorem strOk_of {x : Str} (h : okT x) : PyData.strOk x = true := by
  unfold PyData.strOk
  rw [← Array.all_toList, List.all_eq_true]
  exact fun c hc => decide_eq_true (h c hc)
theorem okT_wd {n : Nat} {x : Str} (h : Wd n x) : okT x := fun c hc => by
  have := h.2 c hc
  omega
theorem okT_prt {ws : List Str} {x : Str} (hw : ∀ y ∈ ws, Wd 8 y) (h : PrtT ws x) : okT x := by
  rcases h with h | h
  · have z : ∀ y ∈ prtW, y.cps.toList.all (fun c => decide (c < 1114112)) = true := by decide +kernel
    exact fun c hc => of_decide_eq_true (List.all_eq_true.mp (z x h) c hc)
  · exact okT_wd (hw x h)
theorem okT_nil : okT ("" : Str) := fun c hc => by
  have hc : c ∈ ([] : List Nat) := hc
  cases hc
theorem portsD_lay : ∀ l : List Port, (∀ p ∈ l, shortP p) → PyData.canLayAll0 (l.map dataP) = true
  | [], _ => by simp [PyData.canLayAll0]
  | p :: r, h => by
    have h1 := h p List.mem_cons_self
    simp [PyData.canLayAll0, dataP, PyData.canLay0, portsD_lay r (fun q hq => h q (List.mem_cons_of_mem _ hq)), strOk_of h1.1, strOk_of h1.2]
theorem portsD_depth : ∀ l : List Port, PyData.depthAll (l.map dataP) ≤ 2
  | [] => by simp [PyData.depthAll]
  | p :: r => by
    have h1 := portsD_depth r
    have h2 : (dataP p).depth ≤ 2 := by simp [dataP, PyData.depth, PyData.depthAll]
    simp only [List.map_cons, PyData.depthAll]
    omega
theorem portsD_ok (l : List Port) (h : ∀ p ∈ l, shortP p) : SeqAt.shaped (.list (l.map dataP)) = true := by
  have h1 := portsD_depth l
  unfold SeqAt.shaped
  rw [Bool.and_eq_true]
  refine ⟨by simp only [PyData.canLay0]; exact portsD_lay l h, decide_eq_true ?_⟩
  simp only [PyData.depth]
  omega
theorem portsD_nil (l : List Port) : PyData.eqv (.list (l.map dataP)) (.list []) = l.isEmpty := by
  cases l <;> simp [PyData.eqv, PyData.eqvAll]
theorem dp_ports {K : PySem.W.Frag} {H : Hp} : ∀ (as : List Addr) (l : List Port), PairsAt H as l → DpAll K H (as.map V.ref) (l.map dataP)
  | [], [], _ => .nil
  | [], _ :: _, h => by cases h.1
  | _ :: _, [], h => by cases h.1
  | a :: as, p :: l, h => .cons (.tup (.of (h.2 0 a p rfl rfl)) (.cons (.str _) (.cons (.str _) .nil))) (dp_ports as l ⟨Nat.succ.inj h.1, fun i b q e1 e2 => h.2 (i + 1) b q e1 e2⟩)
section
variable {P : Program} {w : World} {K : PySem.W.Frag} {mg : Str → Option Value} {base : Heap}
abbrev nDi : List Str := ["feed", "words", "inputs", "outputs", "at", "parts", "ports", "targets", "part", "block", "wires", "target", "sources", "word", "name", "port"]
theorem scDi : FnScope nDi ["feed", "words"] (defScope sDgm) := ⟨rfl, rfl, rfl, by decide +kernel, rfl, by decide +kernel, by decide +kernel⟩
theorem ok_dgm {f fT fP fB : Addr} {fd fdT fdP fdB : FuncData} (F : Fun K "_law_diagram" "_law_diagram" sDgm f fd)
    (GT : FnOk P w K mg base CX0 1 fT fdT ["feed", "many"] spTakeL) (mT : mg "_law_take" = some (.ref fT)) (kT : PySem.W.keepIn K (.ref fT) = true) (bT : Binds K fdT ["feed", "many"] [])
    (GP : FnOk P w K mg base CX0 2 fP fdP ["feed", "some"] spPick) (mP : mg "_law_pick" = some (.ref fP)) (kP : PySem.W.keepIn K (.ref fP) = true) (bP : Binds K fdP ["feed", "some"] [])
    (GB : FnOk P w K mg base CX0 3 fB fdB ["feed", "words"] spBlock) (mB : mg "_law_block" = some (.ref fB)) (kB : PySem.W.keepIn K (.ref fB) = true) (bB : Binds K fdB ["feed", "words"] [])
    (zso : mg "sorted" = none) (zse : mg "set" = none) (zt : mg "tuple" = none) : FnOk P w K mg base CX0 4 f fd ["feed", "words"] (spDgmG K) := by
  refine F.ok scDi (fun vs H Q E h => ?_) (fun cdv A outer s H vs Q E hr h => ?_)
  · obtain ⟨a, l, d, s, ws, rfl, _⟩ := h
    rfl
  obtain ⟨a, l, d, s0, ws, rfl, ha, hd, hl, hal, h14, hwd, hwn, kk⟩ := h
  have hr1 := hr.mono (show 1 ≤ 3 by decide)
  have hr2 := hr.mono (show 2 ≤ 3 by decide)
  have hu := hr.units
  have hu1 := Nat.lt_of_le_of_lt (Nat.add_le_add_left (show 1 ≤ 64 by decide) _) hr.units
  refine ⟨_, pss_cons (ps_par (i := 2) (j := 3) rfl scDi.nd rfl rfl (by decide) rfl rfl (pa_cons (pe_slice sl_list (pv 1) po_none (po_some (pe_call GT hr1 rfl mT kT bT .nil pass0 (pa_cons (pv 0) (pa_cons pe_int pa_nil))))) (pa_cons (pe_slice sl_list (pv 1) (po_some pe_int) (po_some (pe_op op_add pe_int (pe_call GT hr1 rfl mT kT bT .nil pass0 (pa_cons (pv 0) (pa_cons pe_int pa_nil)))))) pa_nil)) rfl)
    (pss_cons (ps_set (i := 4) scDi.nd rfl (.inl rfl) (pe_call GP hr2 rfl mP kP bP .nil pass0 (pa_cons (pv 0) (pa_cons (pe_lst (pa_cons pe_int (pa_cons pe_int (pa_cons pe_int (pa_cons pe_int pa_nil))))) pa_nil))))
    (pss_cons (ps_setLc (i := 5) (own := [("word", 13)]) (g := gName 13) rfl scDi.nd rfl rfl (sw_true rfl rfl rfl (by decide +kernel)) (pi_list (pe_slice sl_list (pv 1) (po_some (pv 4)) (po_some (pe_op op_add (pv 4) (pe_call GT hr1 rfl mT kT bT .nil pass0 (pa_cons (pv 0) (pa_cons pe_int pa_nil))))))) (blkOk_by (own := [("word", 13)]) (N := nDi) (sc := defScope sDgm) (by decide +kernel)) (fun _ _ _ _ _ => pg_name (i := 13) scDi.nd rfl (Or.inl rfl)) (fun _ _ _ _ _ => pts_nil)
      (fun _ _ _ _ _ => by exact (pe_tup (pa_cons (pv 13) (pa_cons (pe_call GB hr rfl mB kB bB .nil pass0 (pa_cons (pv 0) (pa_cons (pv 1) pa_nil))) pa_nil)))))
    (pss_cons (ps_set (i := 6) scDi.nd rfl (.inr rfl) (pe_sortSet rfl (by rfl) zso (by decide +kernel) (by rfl) zse (pe_lst (pa_cons pe_str (pa_cons pe_str (pa_cons pe_str (pa_cons pe_str (pa_cons pe_str (pa_cons pe_str (pa_cons (pe_ix ix_list (pv 1) pe_int (fun _ _ => rfl)) (pa_cons (pe_ix ix_list (pv 1) pe_int (fun _ _ => rfl)) pa_nil)))))))))))
    (pss_cons (ps_setLc (i := 7) (own := [("name", 14)]) (g := gName 14) rfl scDi.nd rfl rfl (sw_true rfl rfl rfl (by decide +kernel)) (pi_list (pv 3)) (blkOk_by (own := [("name", 14)]) (N := nDi) (sc := defScope sDgm) (by decide +kernel)) (fun _ _ _ _ _ => pg_name (i := 14) scDi.nd rfl (Or.inl rfl)) (fun _ _ _ _ _ => pts_nil)
      (fun _ _ _ _ _ => by exact (pe_tup (pa_cons pe_str (pa_cons (pv 14) pa_nil)))))
    (pss_cons (ps_for PassesOwn.never rfl (pi_list (pv 5)) (pg_tup (by rfl) (pgs_cons (pg_name (i := 8) scDi.nd rfl (.inr rfl)) (pgs_cons (pg_name (i := 9) scDi.nd rfl (.inl rfl)) pgs_nil)))
      (pss_one (ps_set (i := 7) scDi.nd rfl (.inl rfl) (pe_op op_cat (pv 7) (pe_lc (own := [("port", 15)]) (g := gName 15) rfl scDi.nd (pi_list (pe_slice sl_list (pv 6) po_none (po_some (pe_call GT hr1 rfl mT kT bT .nil pass0 (pa_cons (pv 0) (pa_cons pe_int pa_nil)))))) (blkOk_by (own := [("port", 15)]) (N := nDi) (sc := defScope sDgm) (by decide +kernel)) (fun _ _ _ _ _ => pg_name (i := 15) scDi.nd rfl (Or.inl rfl)) (fun _ _ _ _ _ => pts_nil)
        (fun _ _ _ _ _ => by exact (pe_tup (pa_cons (pv 8) (pa_cons (pv 15) pa_nil)))))))))
    (pss_cons (ps_set (i := 10) scDi.nd rfl (.inl rfl) pe_dnewT)
    (pss_cons (ps_for PassesOwn.never rfl (pi_list (pv 7)) (pg_name (i := 11) scDi.nd rfl (.inl rfl))
      (pss_cons (ps_setLc (i := 12) (own := [("name", 14)]) (g := gName 14) rfl scDi.nd rfl rfl (sw_true rfl rfl rfl (by decide +kernel)) (pi_list (pv 2)) (blkOk_by (own := [("name", 14)]) (N := nDi) (sc := defScope sDgm) (by decide +kernel)) (fun _ _ _ _ _ => pg_name (i := 14) scDi.nd rfl (Or.inl rfl)) (fun _ _ _ _ _ => pts_nil)
        (fun _ _ _ _ _ => by exact (pe_tup (pa_cons pe_str (pa_cons (pv 14) pa_nil)))))
      (pss_cons (ps_set (i := 12) scDi.nd rfl (.inl rfl) (pe_op op_cat (pv 12) (pe_lc (own := [("part", 8)]) (g := gName 8) rfl scDi.nd (pi_list (pv 5)) (blkOk_by (own := [("part", 8)]) (N := nDi) (sc := defScope sDgm) (by decide +kernel)) (fun _ _ _ _ _ => pg_name (i := 8) scDi.nd rfl (Or.inl rfl)) (fun _ _ _ _ _ => pts_nil)
        (fun _ _ _ _ _ => by exact (pe_tup (pa_cons (pe_ix (show IxR _ (rIxT K) from ix_tup) (pv 8) pe_int (fun _ _ => rfl)) (pa_cons (pe_call GP hr2 rfl mP kP bP .nil pass0 (pa_cons (pv 0) (pa_cons (pv 6) pa_nil))) pa_nil)))))))
      (pss_one (ps_if (PW.pt (pw_and (pt_cmpR (op_neD hu) (pv 12) (pe_lst pa_nil) (nomark _)) (pw_and1 (pt_cmpR op_gt (pe_call GT hr1 rfl mT kT bT .nil pass0 (pa_cons (pv 0) (pa_cons pe_int pa_nil))) pe_int (nomark _))))) (pss_one (ps_dput hu1 (pv 10) (pv 11) (pe_call GP hr2 rfl mP kP bP .nil pass0 (pa_cons (pv 0) (pa_cons (pv 12) pa_nil))) rfl)) pss_nil)))))
    (pss_one (ps_ret (pe_tup (pa_cons (pe_op op_add_str pe_str (pe_slice sl_str (pe_ix ix_list (pv 1) pe_int (fun _ _ => rfl)) po_none (po_some pe_int))) (pa_cons (pe_callTy call_tuple_of (by rfl) zt (by decide +kernel) (pa_cons (pv 2) pa_nil)) (pa_cons (pe_callTy call_tuple_of (by rfl) zt (by decide +kernel) (pa_cons (pv 3) pa_nil)) (pa_cons (pe_callTy call_tuple_of (by rfl) zt (by decide +kernel) (pa_cons (pv 5) pa_nil)) (pa_cons (pv 10) pa_nil))))))))))))))), ?_⟩
  have big : ∀ {n : Nat}, n ≤ 100000 → n ≤ sizeLine := fun h => by rw [sizeLine_eq]; omega
  have lt : ∀ {n : Nat}, n ≤ 100000 → n < sizeLine := fun h => by rw [sizeLine_eq]; omega
  have hml : (ws.map V.str).length = 14 := by rw [List.length_map]; exact h14
  have hw8 : ∀ y ∈ ws, Wd 8 y := fun y hy => (hwd y hy).1
  -- inputs, outputs
  refine ⟨_, rfl, _, rfl, a, d, s0, 4, rfl, ha, hd, by decide, by decide, fun r1 d1 s1 hd1 r10 r11 => ?_⟩
  obtain ⟨n1, rfl⟩ : ∃ n : Nat, r1 = (n : Int) := ⟨r1.toNat, by omega⟩
  have X1 : SameX a H (upd H a (.lst [.int d1, .int s1])) := SameX.put
  have a1 : (upd H a (.lst [.int d1, .int s1])) a = some (.lst [.int d1, .int s1]) := upd_same
  generalize upd H a (.lst [.int d1, .int s1]) = H1 at X1 a1 ⊢
  refine ⟨(n1 : Int), rfl, l, _, rfl, .of (X1 _ _ hal.symm hl), fun li hli => ?_⟩
  have i1 : upd H1 li (.lst (cutV (ws.map V.str) none (some (n1 : Int)))) li = some (.lst ((ws.take n1).map V.str)) := by rw [upd_same, cut_low, List.map_take]
  have X2 := X1.trans (SameX.of (upd_new (o := HO.lst (cutV (ws.map V.str) none (some (n1 : Int)))) hli))
  have a2 := (upd_new (o := HO.lst (cutV (ws.map V.str) none (some (n1 : Int)))) hli) _ _ a1
  have nli : li ≠ a := (ne_of_none a1 hli).symm
  generalize upd H1 li (.lst (cutV (ws.map V.str) none (some (n1 : Int)))) = H2 at i1 X2 a2 ⊢
  refine ⟨_, rfl, 4, rfl, _, rfl, a, d1, s1, 4, rfl, a2, hd1, by decide, by decide, fun r2 d3 s3 hd3 r20 r21 => ?_⟩
  obtain ⟨n2, rfl⟩ : ∃ n : Nat, r2 = (n : Int) := ⟨r2.toNat, by omega⟩
  have X3 : SameX a H (upd H2 a (.lst [.int d3, .int s3])) := X2.trans SameX.put
  have a3 : (upd H2 a (.lst [.int d3, .int s3])) a = some (.lst [.int d3, .int s3]) := upd_same
  have i3 : (upd H2 a (.lst [.int d3, .int s3])) li = some (.lst ((ws.take n1).map V.str)) := (upd_ne nli).trans i1
  generalize upd H2 a (.lst [.int d3, .int s3]) = H3 at X3 a3 i3 ⊢
  have e42 : (4 : Int) + (n2 : Int) = ((4 + n2 : Nat) : Int) := by omega
  have c2 : cutV (ws.map V.str) (some 4) (some (4 + (n2 : Int))) = ((ws.drop 4).take n2).map V.str := by
    rw [e42, List.map_take, List.map_drop]
    exact cut_mid _ 4 n2 (by omega)
  refine ⟨_, _, rfl, rfl, 4 + (n2 : Int), rfl, l, _, rfl, .of (X3 _ _ hal.symm hl), fun lo hlo => ⟨_, _, rfl, ?_⟩⟩
  rw [c2]
  have X4 := X3.trans (SameX.of (upd_new (o := HO.lst (((ws.drop 4).take n2).map V.str)) hlo))
  have a4 := (upd_new (o := HO.lst (((ws.drop 4).take n2).map V.str)) hlo) _ _ a3
  have i4 := (upd_new (o := HO.lst (((ws.drop 4).take n2).map V.str)) hlo) _ _ i3
  have o4 : upd H3 lo (.lst (((ws.drop 4).take n2).map V.str)) lo = some (.lst (((ws.drop 4).take n2).map V.str)) := upd_same
  have nlo : lo ≠ a := (ne_of_none a3 hlo).symm
  generalize upd H3 lo (.lst (((ws.drop 4).take n2).map V.str)) = H4 at X4 a4 i4 o4 ⊢
  -- at
  refine ⟨_, rfl, small1 (by show 4 ≤ 8; decide), fun la hla => ?_⟩
  refine ⟨a, la, d3, s3, _, rfl, (upd_new hla) _ _ a4, hd3, ne_of_none a4 hla, upd_same, by show 0 < 4; decide, by show 4 ≤ 1000; decide, fun g x d5 s5 hx hd5 => ?_⟩
  obtain ⟨k, rfl, hk⟩ : ∃ k : Nat, x = V.int (k : Nat) ∧ (k = 0 ∨ k = 4 ∨ k = 8) := by
    match g, hx with
    | 0, hx => cases hx; exact ⟨8, rfl, by decide⟩
    | 1, hx => cases hx; exact ⟨8, rfl, by decide⟩
    | 2, hx => cases hx; exact ⟨0, rfl, by decide⟩
    | 3, hx => cases hx; exact ⟨4, rfl, by decide⟩
    | g + 4, hx => cases hx
  have S5 := upd_new (o := HO.lst [V.int 8, V.int 8, V.int 0, V.int 4]) hla
  have X5 : SameX a H (upd (upd H4 la (.lst [V.int 8, V.int 8, V.int 0, V.int 4])) a (.lst [.int d5, .int s5])) := X4.trans ((SameX.of S5).trans SameX.put)
  have a5 : (upd (upd H4 la (.lst [V.int 8, V.int 8, V.int 0, V.int 4])) a (.lst [.int d5, .int s5])) a = some (.lst [.int d5, .int s5]) := upd_same
  have i5 : (upd (upd H4 la (.lst [V.int 8, V.int 8, V.int 0, V.int 4])) a (.lst [.int d5, .int s5])) li = some (.lst ((ws.take n1).map V.str)) := (upd_ne nli).trans (S5 _ _ i4)
  have o5 : (upd (upd H4 la (.lst [V.int 8, V.int 8, V.int 0, V.int 4])) a (.lst [.int d5, .int s5])) lo = some (.lst (((ws.drop 4).take n2).map V.str)) := (upd_ne nlo).trans (S5 _ _ o4)
  generalize upd (upd H4 la (.lst [V.int 8, V.int 8, V.int 0, V.int 4])) a (.lst [.int d5, .int s5]) = H5 at X5 a5 i5 o5 ⊢
  -- parts
  refine ⟨_, rfl, _, rfl, (k : Int), rfl, _, rfl, _, rfl, a, d5, s5, 5, rfl, a5, hd5, by decide, by decide, fun r3 d6 s6 hd6 r30 r31 => ?_⟩
  obtain ⟨n3, rfl⟩ : ∃ n : Nat, r3 = (n : Int) := ⟨r3.toNat, by omega⟩
  have X6 : SameX a H (upd H5 a (.lst [.int d6, .int s6])) := X5.trans SameX.put
  have a6 : (upd H5 a (.lst [.int d6, .int s6])) a = some (.lst [.int d6, .int s6]) := upd_same
  have i6 := (upd_ne (o := HO.lst [.int d6, .int s6]) (H := H5) nli).trans i5
  have o6 := (upd_ne (o := HO.lst [.int d6, .int s6]) (H := H5) nlo).trans o5
  generalize upd H5 a (.lst [.int d6, .int s6]) = H6 at X6 a6 i6 o6 ⊢
  have ek : (k : Int) + (n3 : Int) = ((k + n3 : Nat) : Int) := by omega
  have c3 : cutV (ws.map V.str) (some (k : Int)) (some ((k : Int) + (n3 : Int))) = ((ws.drop k).take n3).map V.str := by
    rw [ek, List.map_take, List.map_drop]
    exact cut_mid _ k n3 (by omega)
  refine ⟨_, _, rfl, rfl, (k : Int) + (n3 : Int), rfl, l, _, rfl, .of (X6 _ _ hal.symm hl), fun lw hlw => ?_⟩
  rw [c3]
  generalize hW : (ws.drop k).take n3 = W
  have hWl : W.length ≤ 4 := by rw [← hW, List.length_take]; omega
  have hWm : ∀ x ∈ W, x ∈ ws := fun x hx => by
    rw [← hW] at hx
    exact List.mem_of_mem_drop (List.mem_of_mem_take hx)
  refine ⟨lw, rfl, ⟨_, .of upd_same⟩, fun lp hlp => ?_⟩
  have S7 := (upd_new (o := HO.lst (W.map V.str)) hlw)
  have w7 : upd H6 lw (.lst (W.map V.str)) lw = some (.lst (W.map V.str)) := upd_same
  have X7 := X6.trans (SameX.of S7)
  have a7 := S7 _ _ a6
  have i7 := S7 _ _ i6
  have o7 := S7 _ _ o6
  generalize upd H6 lw (.lst (W.map V.str)) = H7 at S7 w7 X7 a7 i7 o7 hlp ⊢
  have nlp : lp ≠ a := (ne_of_none a7 hlp).symm
  have nlw : lw ≠ a := fun e => by
    rw [e] at w7
    exact ne_of_none a6 hlw e.symm
  refine out_it (walk_list (xs := W.map V.str)) (fun j H' => ∃ (d s : Int) (as : List Addr) (ps : List (Str × Str)), SameX a H7 H' ∧ H' a = some (.lst [.int d, .int s]) ∧ 0 ≤ d ∧ H' lp = some (.lst (as.map V.ref)) ∧ PairsAt H' as ps ∧ ps.map (·.1) = W.take j ∧ ∀ p ∈ ps, BlkT ws p.2)
    ⟨d6, s6, [], [], SameX.of (upd_new hlp), (upd_new hlp) _ _ a7, hd6, upd_same, ⟨rfl, fun i a p e _ => by cases e⟩, by rw [List.take_zero]; rfl, fun p hp => by cases hp⟩ (fun j H' _ q => ?_) ?_ ?_
  · obtain ⟨_, _, _, _, z, _⟩ := q
    exact .of (z _ _ nlw w7)
  · rintro j x H8 H9 hj ⟨d, s, as, ps, x8, a8, hd8, e8, p8, n8, b8⟩ ⟨rfl, hx⟩
    rw [List.getElem?_map] at hx
    obtain ⟨y, hy, rfl⟩ := Option.map_eq_some_iff.mp hx
    refine ⟨rfl, _, rfl, _, rfl, _, rfl, a, l, d, s, ws, rfl, a8, hd8, x8 _ _ hal.symm (X7 _ _ hal.symm hl), hal, by omega, by omega, hw8, fun b d' s' H10 x10 a10 hd10 hb hb2 => ⟨small1 (by show 2 ≤ 8; decide), fun t ht => ⟨_, (upd_new ht) _ _ (x10 _ _ nlp e8), lt ?_, d', s', as ++ [t], ps ++ [(y, b)], ?_, ?_, hd10, ?_, ?_, ?_, fun p hp => ?_⟩⟩⟩
    · have : ps.length = (W.take j).length := by rw [← n8, List.length_map]
      rw [List.length_map, p8.1, this, List.length_take]
      omega
    · exact putX (x8.trans (x10.trans (SameX.of (upd_new ht)))) hlp
    · exact (upd_ne nlp.symm).trans ((upd_new ht) _ _ a10)
    · rw [upd_same, List.map_append]
      rfl
    · have e11 := (upd_new (o := HO.tup [V.str y, V.str b]) ht) _ _ (x10 _ _ nlp e8)
      refine PairsAt.snoc ((p8.keep (x10.tups a8)).same (upd_new ht) |>.keep fun c us e => (upd_ne fun z => ?_).trans e) ((upd_ne fun z => ?_).trans upd_same)
      · rw [z, e11] at e
        cases e
      · rw [← z, upd_same] at e11
        cases e11
    · rw [List.map_append, n8, tk1 hy]
      rfl
    · rcases List.mem_append.mp hp with z | z
      · exact b8 p z
      · rw [List.mem_singleton.mp z]
        exact ⟨hb, hb2⟩
  rintro H8 ⟨d8, s8, as, ps, x8, a8, hd8, e8, p8, n8, b8⟩
  rw [List.length_map, List.take_length] at n8
  have X8 := X7.trans x8
  have i8 := x8 _ _ nli i7
  have o8 := x8 _ _ nlo o7
  clear x8
  have hpsl : ps.length ≤ 4 := by
    have : ps.length = W.length := by rw [← n8, List.length_map]
    omega
  have hal8 : as.length = ps.length := p8.1
  have g0 : ws[0]? = some ws[0] := List.getElem?_eq_getElem (by omega)
  have g12 : ws[12]? = some ws[12] := List.getElem?_eq_getElem (by omega)
  have hl8 := X8 _ _ hal.symm hl
  -- ports
  refine ⟨_, rfl, l, _, _, _, rfl, rfl, .of hl8, at_of (j := 0) rfl (by rw [List.getElem?_map, g0]; rfl), _, rfl, l, _, _, _, rfl, rfl, .of hl8, at_of (j := 12) rfl (by rw [List.getElem?_map, g12]; rfl), small1 (by show 8 ≤ 8; decide), fun q hq => ?_⟩
  refine ⟨q, ["in", "a", "b", "c", "out", "rest", ws[0], ws[12]], rfl, .of upd_same, by show 8 ≤ 4000; decide, fun ys po _ hyn hym hyl hpo => ?_⟩
  have hyl : ys.length ≤ 8 := hyl
  have hyp : ∀ y ∈ ys, PrtT ws y := fun y hy => by
    have h := (hym y).mp hy
    simp only [List.mem_cons, List.not_mem_nil, or_false] at h
    rcases h with h | h | h | h | h | h | h | h
    · exact .inl (h ▸ by decide +kernel)
    · exact .inl (h ▸ by decide +kernel)
    · exact .inl (h ▸ by decide +kernel)
    · exact .inl (h ▸ by decide +kernel)
    · exact .inl (h ▸ by decide +kernel)
    · exact .inl (h ▸ by decide +kernel)
    · exact .inr (h ▸ List.mem_of_getElem? g0)
    · exact .inr (h ▸ List.mem_of_getElem? g12)
  have hy0 : 0 < ys.length := List.length_pos_of_mem ((hym "in").mpr List.mem_cons_self)
  have S9 := (upd_new (o := HO.lst [V.str "in", V.str "a", V.str "b", V.str "c", V.str "out", V.str "rest", V.str ws[0], V.str ws[12]]) hq).trans (upd_new (o := HO.lst (ys.map V.str)) hpo)
  have y9 : upd (upd H8 q (HO.lst [V.str "in", V.str "a", V.str "b", V.str "c", V.str "out", V.str "rest", V.str ws[0], V.str ws[12]])) po (.lst (ys.map V.str)) po = some (.lst (ys.map V.str)) := upd_same
  generalize upd (upd H8 q (HO.lst [V.str "in", V.str "a", V.str "b", V.str "c", V.str "out", V.str "rest", V.str ws[0], V.str ws[12]])) po (.lst (ys.map V.str)) = H9 at S9 y9 ⊢
  have X9 := X8.trans (SameX.of S9)
  have a9 := S9 _ _ a8
  have i9 := S9 _ _ i8
  have o9 := S9 _ _ o8
  have e9 := S9 _ _ e8
  have p9 := p8.same S9
  have npo : po ≠ a := fun e => by
    rw [e, a9] at y9
    cases ys with
    | nil => exact absurd hy0 (Nat.lt_irrefl _)
    | cons y r => cases y9
  clear X8 a8 i8 o8 e8 p8 X7 a7 i7 o7 X6 a6 i6 o6 X5 a5 i5 o5 X4 a4 i4 o4 X3 a3 i3 X2 a2 i1 X1 a1
  generalize hO : (ws.drop 4).take n2 = outs at o9
  generalize hI : ws.take n1 = ins at i9
  have hOl : outs.length ≤ 3 := by rw [← hO, List.length_take]; omega
  have hIl : ins.length ≤ 3 := by rw [← hI, List.length_take]; omega
  have hOw : ∀ x ∈ outs, x ∈ ws := fun x hx => by
    rw [← hO] at hx
    exact List.mem_of_mem_drop (List.mem_of_mem_take hx)
  have hIw : ∀ x ∈ ins, x ∈ ws := fun x hx => by
    rw [← hI] at hx
    exact List.mem_of_mem_take hx
  -- targets
  refine ⟨_, rfl, lo, rfl, ⟨_, .of o9⟩, fun T hT => ?_⟩
  refine out_it (walk_list (xs := outs.map V.str)) (fun j H' => Same H9 H' ∧ ∃ cs : List Addr, H' T = some (.lst (cs.map V.ref)) ∧ PairsAt H' cs ((outs.take j).map fun o => ((Str.empty, o) : Port)))
    ⟨upd_new hT, [], upd_same, rfl, fun i a p e _ => by cases e⟩ (fun j H' _ q => .of (q.1 _ _ o9)) ?_ ?_
  · rintro j x H10 H11 hj ⟨s10, cs, e10, c10⟩ ⟨rfl, hx⟩
    rw [List.getElem?_map] at hx
    obtain ⟨y, hy, rfl⟩ := Option.map_eq_some_iff.mp hx
    refine ⟨rfl, _, rfl, small1 (by show 2 ≤ 8; decide), fun t ht => ⟨_, (upd_new ht) _ _ e10, lt ?_, same_put (s10.trans (upd_new ht)) hT, cs ++ [t], ?_, ?_⟩⟩
    · rw [List.length_map, c10.1, List.length_map, List.length_take]
      omega
    · rw [upd_same, List.map_append]
      rfl
    · rw [tk1 hy, List.map_append]
      have e11 := (upd_new (o := HO.tup [V.str "", V.str y]) ht) _ _ e10
      refine PairsAt.snoc ((c10.same (upd_new ht)).keep fun c us e => (upd_ne fun z => ?_).trans e) ((upd_ne fun z => ?_).trans upd_same)
      · rw [z, e11] at e
        cases e
      · rw [← z, upd_same] at e11
        cases e11
  rintro H10 ⟨s10, cs, e10, c10⟩
  rw [List.length_map, List.take_length] at c10
  have X10 := X9.trans (SameX.of s10)
  have a10 := s10 _ _ a9
  have i10 := s10 _ _ i9
  have o10 := s10 _ _ o9
  have e10p := s10 _ _ e9
  have p10 := p9.same s10
  have y10 := s10 _ _ y9
  clear s10 X9 a9 i9 o9 e9 p9 y9 S9
  -- a part's targets
  generalize htg : outs.map (fun o => ((Str.empty, o) : Port)) = tg0 at c10
  have tg0l : tg0.length ≤ 3 := by rw [← htg, List.length_map]; exact hOl
  have hon : outs.Nodup := by
    rw [← hO]
    exact List.Nodup.sublist (List.Sublist.trans (List.take_sublist _ _) (List.drop_sublist _ _)) hwn
  have htn : tg0.Nodup := by
    rw [← htg]
    exact List.Pairwise.map _ (fun x y hxy e => hxy (Prod.mk.inj e).2) hon
  have hpn : (ps.map (·.1)).Nodup := by
    rw [n8, ← hW]
    exact List.Nodup.sublist (List.Sublist.trans (List.take_sublist _ _) (List.drop_sublist _ _)) hwn
  have hpne : ∀ p ∈ ps, p.1 ≠ Str.empty := fun p hp e => by
    have h1 : p.1 ∈ W := by
      rw [← n8]
      exact List.mem_map.mpr ⟨p, hp, rfl⟩
    have h2 := (isNm_len (hwd _ (hWm _ h1)).2).1
    rw [e] at h2
    exact absurd h2 (by decide)
  refine ⟨_, rfl, lp, rfl, ⟨_, .of e10p⟩, ?_⟩
  refine for_it (walk_list (xs := as.map V.ref)) (fun j σ H' => ∃ (u8 u9 : Option V) (T : Addr) (cs : List Addr) (tg : List Port) (d s : Int), σ = [some (.ref a), some (.ref l), some (.ref li), some (.ref lo), some (.int (k : Int)), some (.ref lp), some (.ref po), some (.ref T), u8, u9, none, none, none, none, none, none] ∧ SameX a H10 H' ∧ H' a = some (.lst [.int d, .int s]) ∧ 0 ≤ d ∧ H' T = some (.lst (cs.map V.ref)) ∧ PairsAt H' cs tg ∧ tg.length ≤ 3 + 8 * j ∧ tg.Nodup ∧
      ∀ t ∈ tg, (t.1 = Str.empty ∧ t.2 ∈ outs) ∨ (t.1 ∈ (ps.take j).map (·.1) ∧ PrtT ws t.2))
    ⟨none, none, T, cs, tg0, d8, s8, rfl, fun b u _ e => e, a10, hd8, e10, c10, by omega, htn, fun t ht => ?_⟩ (fun j σ H' _ q => ?_) ?turn1 ?done1
  · rw [← htg] at ht
    obtain ⟨o, ho, rfl⟩ := List.mem_map.mp ht
    exact .inl ⟨rfl, ho⟩
  · obtain ⟨_, _, _, _, _, _, _, _, z, _⟩ := q
    exact .of (z _ _ nlp e10p)
  case turn1 =>
    rintro j x σ H11 H12 hj ⟨u8, u9, T, cs, tg, d, s, rfl, x11, a11, hd11, e11, c11, l11, n11, m11⟩ ⟨rfl, hx⟩
    rw [List.getElem?_map] at hx
    obtain ⟨ap, hap, rfl⟩ := Option.map_eq_some_iff.mp hx
    obtain ⟨p, hp⟩ : ∃ p, ps[j]? = some p := ⟨_, List.getElem?_eq_getElem (by have := (List.getElem?_eq_some_iff.mp hap).1; omega)⟩
    have gp := x11.tups a10 _ _ (p10.2 j ap p hap hp)
    have hj4 : j < 4 := by have := (List.getElem?_eq_some_iff.mp hp).1; omega
    refine ⟨ap, _, rfl, .of gp, rfl, _, _, rfl, _, _, rfl, rfl, ?_⟩
    refine ⟨_, rfl, _, rfl, _, rfl, a, d, s, 9, rfl, a11, hd11, by decide, by decide, fun r d' s' hd' r0 r1 => ?_⟩
    obtain ⟨n, rfl⟩ : ∃ n : Nat, r = (n : Int) := ⟨r.toNat, by omega⟩
    have nT : T ≠ a := fun e => by
      rw [e, a11] at e11
      have e11 := Option.some.inj e11
      cases cs <;> cases e11
    have x12 : SameX a H10 (upd H12 a (.lst [.int d', .int s'])) := x11.trans SameX.put
    have a12 : (upd H12 a (.lst [.int d', .int s'])) a = some (.lst [.int d', .int s']) := upd_same
    have e12 := (upd_ne (o := HO.lst [.int d', .int s']) (H := H12) nT).trans e11
    have c12 := c11.keep ((SameX.put (o := HO.lst [.int d', .int s'])).tups a11)
    generalize upd H12 a (.lst [.int d', .int s']) = H13 at x12 a12 e12 c12 ⊢
    refine ⟨(n : Int), rfl, po, _, rfl, .of (x12 _ _ npo y10), fun q hq => ?_⟩
    rw [cut_low, ← List.map_take]
    refine ⟨q, rfl, ⟨_, .of upd_same⟩, fun D hD => ?_⟩
    have s14 := upd_new (o := HO.lst ((ys.take n).map V.str)) hq
    have x14 := x12.trans (SameX.of s14)
    have a14 := s14 _ _ a12
    have e14 := s14 _ _ e12
    have c14 := c12.same s14
    have q14 : upd H13 q (.lst ((ys.take n).map V.str)) q = some (.lst ((ys.take n).map V.str)) := upd_same
    generalize upd H13 q (.lst ((ys.take n).map V.str)) = H14 at x14 a14 e14 c14 q14 hD ⊢
    clear s14 x12 a12 e12 c12
    refine out_it (walk_list (xs := (ys.take n).map V.str)) (fun i H' => Same H14 H' ∧ ∃ ds : List Addr, H' D = some (.lst (ds.map V.ref)) ∧ PairsAt H' ds (((ys.take n).take i).map fun y => ((p.1, y) : Port)))
      ⟨upd_new hD, [], upd_same, rfl, fun i a p e _ => by cases e⟩ (fun i H' _ z => .of (z.1 _ _ q14)) ?_ ?_
    · rintro i x H15 H16 hi ⟨s15, ds, e15, c15⟩ ⟨rfl, hx⟩
      rw [List.getElem?_map] at hx
      obtain ⟨y, hy, rfl⟩ := Option.map_eq_some_iff.mp hx
      refine ⟨rfl, _, rfl, _, rfl, small1 (by show 2 ≤ 8; decide), fun t ht => ⟨_, (upd_new ht) _ _ e15, lt ?_, same_put (s15.trans (upd_new ht)) hD, ds ++ [t], ?_, ?_⟩⟩
      · rw [List.length_map, c15.1, List.length_map, List.length_take, List.length_take]
        omega
      · rw [upd_same, List.map_append]
        rfl
      · rw [tk1 hy, List.map_append]
        have e16 := (upd_new (o := HO.tup [V.str p.1, V.str y]) ht) _ _ e15
        refine PairsAt.snoc ((c15.same (upd_new ht)).keep fun c us e => (upd_ne fun z => ?_).trans e) ((upd_ne fun z => ?_).trans upd_same)
        · rw [z, e16] at e
          cases e
        · rw [← z, upd_same] at e16
          cases e16
    rintro H15 ⟨s15, ds, e15, c15⟩
    rw [List.length_map, List.take_length] at c15
    have lds : ds.length ≤ 8 := by
      rw [c15.1, List.length_map, List.length_take]
      omega
    refine ⟨T, D, _, _, rfl, rfl, s15 _ _ e14, e15, by rw [List.length_map, List.length_map, c11.1]; exact big (by omega), fun T2 hT2 => ?_⟩
    have s16 := s15.trans (upd_new (o := HO.lst (cs.map V.ref ++ ds.map V.ref)) hT2)
    refine ⟨_, _, T2, cs ++ ds, tg ++ (ys.take n).map (fun y => ((p.1, y) : Port)), d', s', rfl, x14.trans (SameX.of s16), s16 _ _ a14, hd', by rw [upd_same, List.map_append], pairs_app (c14.same s16) (c15.same (upd_new hT2)), ?_, ?_, fun t ht => ?_⟩
    · rw [List.length_append, List.length_map, List.length_take]
      omega
    · refine List.nodup_append.mpr ⟨n11, List.Pairwise.map _ (fun x y hxy e => hxy (Prod.mk.inj e).2) (List.Nodup.sublist (List.take_sublist _ _) hyn), fun t ht u hu e => ?_⟩
      subst e
      obtain ⟨y, hy, rfl⟩ := List.mem_map.mp hu
      rcases m11 _ ht with ⟨z, _⟩ | ⟨z, _⟩
      · exact hpne p (List.mem_of_getElem? hp) z
      · have nd2 := List.Nodup.sublist ((List.take_sublist (j + 1) ps).map (·.1)) hpn
        rw [tk1 hp, List.map_append] at nd2
        exact (List.nodup_append.mp nd2).2.2 _ z _ (List.mem_singleton.mpr rfl) rfl
    · rcases List.mem_append.mp ht with ht | ht
      · rcases m11 t ht with z | ⟨z, z2⟩
        · exact .inl z
        · refine .inr ⟨?_, z2⟩
          rw [tk1 hp, List.map_append]
          exact List.mem_append_left _ z
      · obtain ⟨y, hy, rfl⟩ := List.mem_map.mp ht
        refine .inr ⟨?_, hyp y (List.mem_of_mem_take hy)⟩
        rw [tk1 hp, List.map_append]
        exact List.mem_append_right _ (List.mem_singleton.mpr rfl)
  rintro σ H11 ⟨u8, u9, T, cs, tg, d11, s11, rfl, x11, a11, hd11, e11, c11, l11, n11, m11⟩
  rw [List.length_map, hal8, List.take_length] at m11
  have ltg : tg.length ≤ 35 := by
    rw [List.length_map] at l11
    omega
  have hlT := X10.trans x11
  -- wires
  refine fun dw hdw => ?_
  have s12 := upd_new (o := HO.dT []) hdw
  have d12 : upd H11 dw (.dT []) dw = some (.dT []) := upd_same
  have keepD : ∀ b u, H11 b = some u → b ≠ dw := fun b u e => ne_of_none e hdw
  have nTd := keepD _ _ e11
  have nad := keepD _ _ a11
  have nld := keepD _ _ (hlT _ _ hal.symm hl)
  have nlid := keepD _ _ (x11 _ _ nli i10)
  have nlod := keepD _ _ (x11 _ _ nlo o10)
  have nlpd := keepD _ _ (x11 _ _ nlp e10p)
  have npod := keepD _ _ (x11 _ _ npo y10)
  have hl12 := s12 _ _ (hlT _ _ hal.symm hl)
  have i12 := s12 _ _ (x11 _ _ nli i10)
  have o12 := s12 _ _ (x11 _ _ nlo o10)
  have e12p := s12 _ _ (x11 _ _ nlp e10p)
  have y12 := s12 _ _ (x11 _ _ npo y10)
  have e12 := s12 _ _ e11
  have a12 := s12 _ _ a11
  have c12 := c11.same s12
  have p12 := (p10.keep (x11.tups a10)).same s12
  have hHdw : H dw = none := by
    cases e : H dw with
    | none => rfl
    | some u =>
      by_cases hb : dw = a
      · exact absurd hb.symm nad
      · rw [hlT _ _ hb e] at hdw
        cases hdw
  have X12 := hlT.trans (SameX.of s12)
  have nT : T ≠ a := fun e => by
    rw [e, a11] at e11
    have e11 := Option.some.inj e11
    cases cs <;> cases e11
  generalize upd H11 dw (.dT []) = H12 at s12 d12 hl12 i12 o12 e12p y12 e12 a12 c12 p12 X12 ⊢
  clear X10 a10 i10 o10 e10p p10 y10 x11 a11 e11 c11 hlT
  refine ⟨_, rfl, T, rfl, ⟨_, .of e12⟩, ?_⟩
  refine for_it (walk_list (xs := cs.map V.ref)) (fun j σ H' => ∃ (u11 u12 : Option V) (d s : Int) (wl : List (Port × Port)), σ = [some (.ref a), some (.ref l), some (.ref li), some (.ref lo), some (.int (k : Int)), some (.ref lp), some (.ref po), some (.ref T), u8, u9, some (.ref dw), u11, u12, none, none, none] ∧ (∀ b u, b ≠ a → b ≠ dw → H12 b = some u → H' b = some u) ∧ H' a = some (.lst [.int d, .int s]) ∧ 0 ≤ d ∧ WiresAt H' dw wl ∧ (wl.map (·.1)).Sublist (tg.take j) ∧
      ∀ w ∈ wl, (w.2.1 = Str.empty ∧ w.2.2 ∈ ins) ∨ (w.2.1 ∈ ps.map (·.1) ∧ PrtT ws w.2.2))
    ⟨none, none, d11, s11, [], rfl, fun b u _ _ e => e, a12, hd11, ⟨[], rfl, d12, fun i w a e _ => by cases e⟩, List.nil_sublist _, fun w hw => by cases hw⟩ (fun j σ H' _ q => ?_) ?turn2 ?done2
  · obtain ⟨_, _, _, _, _, _, z, _⟩ := q
    exact .of (z _ _ nT nTd e12)
  case turn2 =>
    rintro j x σ H13 H14 hj ⟨u11, u12, d, s, wl, rfl, k13, a13, hd13, w13, b13, v13⟩ ⟨rfl, hx⟩
    rw [List.getElem?_map] at hx
    obtain ⟨tq, htq, rfl⟩ := Option.map_eq_some_iff.mp hx
    obtain ⟨t, ht⟩ : ∃ t, tg[j]? = some t := ⟨_, List.getElem?_eq_getElem (by have := (List.getElem?_eq_some_iff.mp htq).1; have := c12.1; omega)⟩
    have ktup : ∀ b us, H12 b = some (.tup us) → H14 b = some (.tup us) := fun b us e => k13 b _ (fun z => by rw [z, a12] at e; cases e) (fun z => by rw [z, d12] at e; cases e) e
    have gt := ktup _ _ (c12.2 j tq t htq ht)
    have i14 := k13 _ _ nli nlid i12
    have p14 := p12.keep ktup
    have e14p := k13 _ _ nlp nlpd e12p
    have y14 := k13 _ _ npo npod y12
    -- sources
    refine ⟨_, rfl, li, rfl, ⟨_, .of i14⟩, fun D hD => ?_⟩
    refine out_it (walk_list (xs := ins.map V.str)) (fun i H' => Same H14 H' ∧ ∃ ds : List Addr, H' D = some (.lst (ds.map V.ref)) ∧ PairsAt H' ds ((ins.take i).map fun o => ((Str.empty, o) : Port)))
      ⟨upd_new hD, [], upd_same, rfl, fun i a p e _ => by cases e⟩ (fun i H' _ q => .of (q.1 _ _ i14)) ?_ ?_
    · rintro i x H15 H16 hi ⟨s15, ds, e15, c15⟩ ⟨rfl, hx⟩
      rw [List.getElem?_map] at hx
      obtain ⟨y, hy, rfl⟩ := Option.map_eq_some_iff.mp hx
      refine ⟨rfl, _, rfl, small1 (by show 2 ≤ 8; decide), fun r hr => ⟨_, (upd_new hr) _ _ e15, lt ?_, same_put (s15.trans (upd_new hr)) hD, ds ++ [r], ?_, ?_⟩⟩
      · rw [List.length_map, c15.1, List.length_map, List.length_take]
        omega
      · rw [upd_same, List.map_append]
        rfl
      · rw [tk1 hy, List.map_append]
        have e16 := (upd_new (o := HO.tup [V.str "", V.str y]) hr) _ _ e15
        refine PairsAt.snoc ((c15.same (upd_new hr)).keep fun c us e => (upd_ne fun z => ?_).trans e) ((upd_ne fun z => ?_).trans upd_same)
        · rw [z, e16] at e
          cases e
        · rw [← z, upd_same] at e16
          cases e16
    rintro H15 ⟨s15, ds, e15, c15⟩
    rw [List.length_map, List.take_length] at c15
    have a15 := s15 _ _ a13
    have nD : D ≠ a := (ne_of_none a13 hD).symm
    refine ⟨_, rfl, _, rfl, lp, rfl, ⟨_, .of (s15 _ _ e14p)⟩, fun D2 hD2 => ?_⟩
    have nD2 : D2 ≠ a := (ne_of_none a15 hD2).symm
    refine out_it (walk_list (xs := as.map V.ref)) (fun i H' => ∃ (d s : Int) (fs : List Addr) (sr : List Port), SameX a H15 H' ∧ H' a = some (.lst [.int d, .int s]) ∧ 0 ≤ d ∧ H' D2 = some (.lst (fs.map V.ref)) ∧ PairsAt H' fs sr ∧ sr.length = (ps.take i).length ∧ ∀ z ∈ sr, z.1 ∈ ps.map (·.1) ∧ PrtT ws z.2)
      ⟨d, s, [], [], SameX.of (upd_new hD2), (upd_new hD2) _ _ a15, hd13, upd_same, ⟨rfl, fun i a p e _ => by cases e⟩, rfl, fun p hp => by cases hp⟩ (fun i H' _ q => ?_) ?_ ?_
    · obtain ⟨_, _, _, _, z, _⟩ := q
      exact .of (z _ _ nlp (s15 _ _ e14p))
    · rintro i x H16 H17 hi ⟨d, s, fs, sr, x16, a16, hd16, e16, c16, l16, m16⟩ ⟨rfl, hx⟩
      rw [List.getElem?_map] at hx
      obtain ⟨ap, hap, rfl⟩ := Option.map_eq_some_iff.mp hx
      obtain ⟨p, hp⟩ : ∃ p, ps[i]? = some p := ⟨_, List.getElem?_eq_getElem (by have := (List.getElem?_eq_some_iff.mp hap).1; omega)⟩
      have gp := x16.tups a15 _ _ (s15 _ _ (p14.2 i ap p hap hp))
      have a0 : atI [V.str p.1, V.str p.2] 0 = some (.str p.1) := at_of (j := 0) rfl rfl
      refine ⟨rfl, _, rfl, ap, _, _, _, rfl, rfl, .of gp, a0, _, rfl, _, rfl, a, po, d, s, _, rfl, a16, hd16, npo.symm, x16 _ _ npo (s15 _ _ y14), by rw [List.length_map]; exact hy0, by rw [List.length_map]; omega, fun g x d' s' hx hd' => ?_⟩
      rw [List.getElem?_map] at hx
      obtain ⟨y, hy, rfl⟩ := Option.map_eq_some_iff.mp hx
      refine ⟨small1 (by show 2 ≤ 8; decide), fun r hr => ⟨_, (upd_new hr) _ _ ((upd_ne nD2).trans e16), lt ?_, d', s', fs ++ [r], sr ++ [(p.1, y)], ?_, ?_, hd', ?_, ?_, ?_, fun z hz => ?_⟩⟩
      · rw [List.length_map, c16.1, l16, List.length_take]
        omega
      · exact putX (x16.trans (SameX.put.trans (SameX.of (upd_new hr)))) hD2
      · exact (upd_ne nD2.symm).trans ((upd_new hr) _ _ upd_same)
      · rw [upd_same, List.map_append]
        rfl
      · have e17 := (upd_new (o := HO.tup [V.str p.1, V.str y]) hr) _ _ ((upd_ne (o := HO.lst [.int d', .int s']) nD2).trans e16)
        refine PairsAt.snoc (((c16.keep (SameX.put.tups a16)).same (upd_new hr)).keep fun c us e => (upd_ne fun z => ?_).trans e) ((upd_ne fun z => ?_).trans upd_same)
        · rw [z, e17] at e
          cases e
        · rw [← z, upd_same] at e17
          cases e17
      · rw [List.length_append, l16, tk1 hp, List.length_append]
        rfl
      · rcases List.mem_append.mp hz with z1 | z1
        · exact m16 z z1
        · rw [List.mem_singleton.mp z1]
          exact ⟨List.mem_map.mpr ⟨p, List.mem_of_getElem? hp, rfl⟩, hyp y (List.mem_of_getElem? hy)⟩
    rintro H16 ⟨d16, s16, fs, sr, x16, a16, hd16, e16, c16, l16, m16⟩
    rw [List.length_map, hal8, List.take_length] at l16
    refine ⟨D, D2, _, _, rfl, rfl, x16 _ _ nD e15, e16, by rw [List.length_map, List.length_map, c15.1, c16.1, List.length_map]; exact big (by omega), fun SR hSR => ?_⟩
    have s17 := upd_new (o := HO.lst (ds.map V.ref ++ fs.map V.ref)) hSR
    have e17 : upd H16 SR (.lst (ds.map V.ref ++ fs.map V.ref)) SR = some (.lst ((ds ++ fs).map V.ref)) := by rw [upd_same, List.map_append]
    have x17 : SameX a H14 (upd H16 SR (.lst (ds.map V.ref ++ fs.map V.ref))) := (SameX.of s15).trans (x16.trans (SameX.of s17))
    have a17 := s17 _ _ a16
    have c17 := pairs_app ((c15.keep (x16.tups a15)).same s17) (c16.same s17)
    have nSR : SR ≠ a := (ne_of_none a16 hSR).symm
    generalize upd H16 SR (.lst (ds.map V.ref ++ fs.map V.ref)) = H17 at e17 x17 a17 c17 ⊢
    generalize hS : (ins.map fun o => ((Str.empty, o) : Port)) ++ sr = S at c17
    generalize ds ++ fs = qs at e17 c17
    have hSm : ∀ z ∈ S, (z.1 = Str.empty ∧ z.2 ∈ ins) ∨ (z.1 ∈ ps.map (·.1) ∧ PrtT ws z.2) := fun z hz => by
      rw [← hS] at hz
      rcases List.mem_append.mp hz with z1 | z1
      · obtain ⟨o, ho, rfl⟩ := List.mem_map.mp z1
        exact .inl ⟨rfl, ho⟩
      · exact .inr (m16 z z1)
    have hSs : ∀ z ∈ S, shortP z := fun z hz => by
      rcases hSm z hz with ⟨z1, z2⟩ | ⟨z1, z2⟩
      · exact ⟨by rw [z1]; exact okT_nil, okT_wd (hw8 _ (hIw _ z2))⟩
      · refine ⟨okT_wd (hw8 _ (hWm _ ?_)), okT_prt hw8 z2⟩
        rw [← n8]
        exact z1
    have hSl : S.length ≤ 7 := by
      rw [← hS, List.length_append, List.length_map, l16]
      omega
    have fin : ∀ (d s : Int) (H' : Hp), SameX a H14 H' → H' a = some (.lst [.int d, .int s]) → 0 ≤ d → ∃ (u11' u12' : Option V) (d s : Int) (wl : List (Port × Port)), ([some (.ref a), some (.ref l), some (.ref li), some (.ref lo), some (.int (k : Int)), some (.ref lp), some (.ref po), some (.ref T), u8, u9, some (.ref dw), some (.ref tq), some (.ref SR), none, none, none] : St) = [some (.ref a), some (.ref l), some (.ref li), some (.ref lo), some (.int (k : Int)), some (.ref lp), some (.ref po), some (.ref T), u8, u9, some (.ref dw), u11', u12', none, none, none] ∧ (∀ b u, b ≠ a → b ≠ dw → H12 b = some u → H' b = some u) ∧ H' a = some (.lst [.int d, .int s]) ∧ 0 ≤ d ∧ WiresAt H' dw wl ∧ (wl.map (·.1)).Sublist (tg.take (j + 1)) ∧
      ∀ w ∈ wl, (w.2.1 = Str.empty ∧ w.2.2 ∈ ins) ∨ (w.2.1 ∈ ps.map (·.1) ∧ PrtT ws w.2.2) := fun d s H' x' a' hd' => by
      obtain ⟨was, h1, h2, h3⟩ := w13
      refine ⟨_, _, d, s, wl, rfl, fun b u n m e => x' b u n (k13 b u n m e), a', hd', ⟨was, h1, x' _ _ nad.symm h2, fun i w b e1 e2 => x'.tups a13 _ _ (h3 i w b e1 e2)⟩, b13.trans (List.take_sublist_take_left (Nat.le_succ j)), v13⟩
    refine ⟨_, rfl, small1 (by show 0 ≤ 8; decide), fun z hz => ⟨.list (S.map dataP), .list [], .lst (.of ((upd_new hz) _ _ e17)) (dp_ports _ _ (c17.same (upd_new hz))), .lst (.of upd_same) .nil, portsD_ok S hSs, portsD_ok [] (fun p hp => by cases hp), _, rfl, ?_⟩⟩
    rw [portsD_nil]
    have x18 := x17.trans (SameX.of (upd_new (o := HO.lst []) hz))
    have a18 := (upd_new (o := HO.lst []) hz) _ _ a17
    have e18 := (upd_new (o := HO.lst []) hz) _ _ e17
    have c18 := c17.same (upd_new (o := HO.lst []) hz)
    generalize upd H17 z (.lst []) = H18 at x18 a18 e18 c18 ⊢
    cases hE : S.isEmpty with
    | true => exact iteF (iteF (fin _ _ _ x18 a18 hd16))
    | false =>
    refine iteT ⟨_, rfl, a, d16, s16, 3, rfl, a18, hd16, by decide, by decide, fun r d19 s19 hd19 r0 r1 => ⟨_, _, rfl, rfl, _, rfl, ?_⟩⟩
    have x19 : SameX a H14 (upd H18 a (.lst [.int d19, .int s19])) := x18.trans SameX.put
    have a19 : (upd H18 a (.lst [.int d19, .int s19])) a = some (.lst [.int d19, .int s19]) := upd_same
    have e19 := (upd_ne (o := HO.lst [.int d19, .int s19]) (H := H18) nSR).trans e18
    have c19 := c18.keep ((SameX.put (o := HO.lst [.int d19, .int s19])).tups a18)
    generalize upd H18 a (.lst [.int d19, .int s19]) = H19 at x19 a19 e19 c19 ⊢
    by_cases hr0 : 0 < r
    case neg =>
      rw [decide_eq_false hr0]
      exact iteF (fin _ _ _ x19 a19 hd19)
    rw [decide_eq_true hr0]
    have hS0 : 0 < S.length := by
      cases S with
      | nil => cases hE
      | cons z r => exact Nat.succ_pos _
    refine iteT ⟨_, rfl, _, rfl, a, SR, d19, s19, _, rfl, a19, hd19, nSR.symm, e19, by rw [List.length_map, c19.1]; exact hS0, by rw [List.length_map, c19.1]; omega, fun g x d20 s20 hx hd20 => ?_⟩
    rw [List.getElem?_map] at hx
    obtain ⟨sq, hsq, rfl⟩ := Option.map_eq_some_iff.mp hx
    obtain ⟨so, hso⟩ : ∃ so, S[g]? = some so := ⟨_, List.getElem?_eq_getElem (by have := (List.getElem?_eq_some_iff.mp hsq).1; have := c19.1; omega)⟩
    have x20 : SameX a H14 (upd H19 a (.lst [.int d20, .int s20])) := x19.trans SameX.put
    have a20 : (upd H19 a (.lst [.int d20, .int s20])) a = some (.lst [.int d20, .int s20]) := upd_same
    have g20 := (SameX.put (o := HO.lst [.int d20, .int s20])).tups a19 _ _ (c19.2 g sq so hsq hso)
    generalize upd H19 a (.lst [.int d20, .int s20]) = H20 at x20 a20 g20 ⊢
    obtain ⟨was, hwa, hwd13, hwt⟩ := w13
    have hwd20 := x20 _ _ nad.symm hwd13
    have lwl : wl.length ≤ 35 := by
      have := b13.length_le
      rw [List.length_map, List.length_take] at this
      omega
    have hzl : ((wl.zip was).map fun q => (keyOf q.1.1, V.ref q.2)).length < sizeLine := by
      rw [List.length_map, List.length_zip, hwa, Nat.min_self]
      exact lt (by omega)
    refine ⟨_, rfl, _, rfl, dw, _, rfl, DPut.t (k := keyOf t) hwd20 (x20.tups a13 _ _ gt) hzl, ?_⟩
    have hnm : t ∉ wl.map (·.1) := fun z => by
      have z2 := b13.subset z
      have nd2 := List.Nodup.sublist (List.take_sublist (j + 1) tg) n11
      rw [tk1 ht] at nd2
      exact (List.nodup_append.mp nd2).2.2 _ z2 _ (List.mem_singleton.mpr rfl) rfl
    have hput : putK ((wl.zip was).map fun q => (keyOf q.1.1, V.ref q.2)) (keyOf t) (V.ref sq) = (((wl ++ [(t, so)]).zip (was ++ [sq])).map fun q => (keyOf q.1.1, V.ref q.2)) := by
      unfold putK
      rw [any_wires t wl was hwa, decide_eq_false hnm, if_neg Bool.false_ne_true, List.zip_append hwa.symm, List.map_append]
      rfl
    have ndt : ∀ b us, H20 b = some (.tup us) → b ≠ dw := fun b us e z => by
      rw [z, hwd20] at e
      cases e
    refine ⟨_, _, d20, s20, wl ++ [(t, so)], rfl, fun b u n m e => (upd_ne m).trans (x20 b u n (k13 b u n m e)), (upd_ne nad).trans a20, hd20, ⟨was ++ [sq], by rw [List.length_append, List.length_append, hwa]; rfl, by rw [hput]; exact upd_same, fun i w b e1 e2 => ?_⟩, ?_, fun w hw => ?_⟩
    · by_cases hi : i < wl.length
      · rw [List.getElem?_append_left hi] at e1
        rw [List.getElem?_append_left (by rw [hwa]; exact hi)] at e2
        have z := x20.tups a13 _ _ (hwt i w b e1 e2)
        exact (upd_ne (ndt _ _ z)).trans z
      · rw [List.getElem?_append_right (by omega)] at e1
        rw [List.getElem?_append_right (by rw [hwa]; omega), hwa] at e2
        cases hk2 : i - wl.length with
        | zero =>
          rw [hk2] at e1 e2
          cases e1
          cases e2
          exact (upd_ne (ndt _ _ g20)).trans g20
        | succ m =>
          rw [hk2] at e1
          cases e1
    · rw [tk1 ht, List.map_append]
      exact List.Sublist.append b13 (List.Sublist.refl _)
    · rcases List.mem_append.mp hw with z1 | z1
      · exact v13 w z1
      · rw [List.mem_singleton.mp z1]
        exact hSm so (List.mem_of_getElem? hso)
  rintro σ H13 ⟨u11, u12, d13, s13, wl, rfl, k13, a13, hd13, w13, b13, v13⟩
  -- the end
  have g13 : ws[13]? = some ws[13] := List.getElem?_eq_getElem (by omega)
  have w13l := (hw8 _ (List.mem_of_getElem? g13)).1
  have cl7 := (((hw8 _ (List.mem_of_getElem? g13)).tok.cut none (some 7)).l)
  have lz : (("z" : Str)).length = 1 := by decide +kernel
  have ktup : ∀ b us, H12 b = some (.tup us) → H13 b = some (.tup us) := fun b us e => k13 b _ (fun z => by rw [z, a12] at e; cases e) (fun z => by rw [z, d12] at e; cases e) e
  have X13 : SameX a H H13 := fun b u n e => k13 b u n (ne_of_none e hHdw) (X12 b u n e)
  have p13 := p12.keep ktup
  have i13 := k13 _ _ nli nlid i12
  have o13 := k13 _ _ nlo nlod o12
  have e13 := k13 _ _ nlp nlpd e12p
  refine ⟨_, rfl, l, _, _, _, rfl, rfl, .of (X13 _ _ hal.symm hl), at_of (j := 13) rfl (by rw [List.getElem?_map, g13]; rfl), 7, rfl, ws[13], rfl, big (by omega), _, _, rfl, rfl, big (by omega), ?_⟩
  refine ⟨_, rfl, li, _, rfl, .inl ⟨.of i13, fun ti hti => ?_⟩⟩
  have s14 := upd_new (o := HO.tup (ins.map V.str)) hti
  refine ⟨_, rfl, lo, _, rfl, .inl ⟨.of (s14 _ _ o13), fun to hto => ?_⟩⟩
  have s15 := s14.trans (upd_new (o := HO.tup (outs.map V.str)) hto)
  refine ⟨_, rfl, lp, _, rfl, .inl ⟨.of (s15 _ _ e13), fun tp htp => ?_⟩⟩
  have s16 := s15.trans (upd_new (o := HO.tup (as.map V.ref)) htp)
  refine ⟨_, rfl, small1 (by show 5 ≤ 8; decide), fun D hD => ?_⟩
  have s17 := s16.trans (upd_new (o := HO.tup [.str (("z" : Str) ++ cutS ws[13] none (some 7)), .ref ti, .ref to, .ref tp, .ref dw]) hD)
  refine kk D d13 s13 _ ⟨("z" : Str) ++ cutS ws[13] none (some 7), ins, outs, ps, wl⟩ (X13.trans (SameX.of s17)) (s17 _ _ a13) hd13 ⟨ti, to, tp, dw, as, .of upd_same, ?_, ?_, ?_, p13.same s17, w13.same s17⟩ ⟨⟨_, g13, rfl⟩, ⟨n1, by omega, hI.symm⟩, ⟨n2, by omega, hO.symm⟩, ⟨k, n3, hk, by omega, ?_⟩, b8, ?_, fun w hw => ?_, v13, ?_⟩
  · exact .of ((upd_new hD) _ _ ((upd_new htp) _ _ ((upd_new hto) _ _ upd_same)))
  · exact .of ((upd_new hD) _ _ ((upd_new htp) _ _ upd_same))
  · exact .of ((upd_new hD) _ _ upd_same)
  · rw [hW]
    exact n8
  · have := b13.length_le
    rw [List.length_map, List.length_take] at this
    show wl.length ≤ 40
    omega
  · exact m11 w.1 (List.mem_of_mem_take (b13.subset (List.mem_map.mpr ⟨w, hw, rfl⟩)))
  · exact b13.nodup (List.Nodup.sublist (List.take_sublist _ _) n11)
end
end K5
namespace K5
open PySem L2 Own StX ClX NdefX
theorem prt_wd {ws : List Str} {x : Str} (hw : ∀ y ∈ ws, Wd 8 y) (h : PrtT ws x) : Wd 8 x := by
  rcases h with h | h
  · have h : x ∈ (["in", "a", "b", "c", "out", "rest"] : List Str) := h
    have z : ∀ y ∈ (["in", "a", "b", "c", "out", "rest"] : List Str), (decide (y.length ≤ 8) && y.cps.toList.all fun c => decide (97 ≤ c) && decide (c ≤ 122)) = true := by decide +kernel
    have q := z x h
    rw [Bool.and_eq_true, decide_eq_true_eq] at q
    refine ⟨q.1, fun c hc => ?_⟩
    have := List.all_eq_true.mp q.2 c hc
    rw [Bool.and_eq_true, decide_eq_true_eq, decide_eq_true_eq] at this
    exact this
  · exact hw x h
theorem wd_nil : Wd 8 Str.empty := ⟨Nat.zero_le _, fun c hc => by
  have hc : c ∈ ([] : List Nat) := hc
  cases hc⟩
theorem dok_of {ws : List Str} {d : Dd} (h : DGen ws d) (hw : ∀ x ∈ ws, Wd 8 x) : DOk d := by
  obtain ⟨y, hy, en⟩ := h.nm
  obtain ⟨i, hi, ei⟩ := h.ins
  obtain ⟨j, hj, eo⟩ := h.outs
  obtain ⟨k, n, hk, hn, ep⟩ := h.pn
  have hz : Wd 1 ("z" : Str) := ⟨by decide +kernel, by decide +kernel⟩
  have hI : ∀ x ∈ d.ins, Wd 8 x := fun x hx => by
    rw [ei] at hx
    exact hw x (List.mem_of_mem_take hx)
  have hO : ∀ x ∈ d.outs, Wd 8 x := fun x hx => by
    rw [eo] at hx
    exact hw x (List.mem_of_mem_drop (List.mem_of_mem_take hx))
  have hP : ∀ x ∈ d.ps.map (·.1), Wd 8 x := fun x hx => by
    rw [ep] at hx
    exact hw x (List.mem_of_mem_drop (List.mem_of_mem_take hx))
  have pl : d.ps.length ≤ 4 := by
    have := congrArg List.length ep
    rw [List.length_map, List.length_take] at this
    omega
  refine ⟨?_, ?_, ?_, hI, hO, by omega, fun p hp => ⟨hP _ (List.mem_map.mpr ⟨p, hp, rfl⟩), (h.pb p hp).1⟩, by have := h.wl; omega, fun w hw2 => ?_⟩
  · rw [en]
    exact hz.app (wd_cut (hw y (List.mem_of_getElem? hy)) 7) (by decide)
  · rw [ei, List.length_take]
    omega
  · rw [eo, List.length_take]
    omega
  · have a := h.wk w hw2
    have b := h.wv w hw2
    have ha : Wd 8 w.1.1 ∧ Wd 8 w.1.2 := by
      rcases a with ⟨z1, z2⟩ | ⟨z1, z2⟩
      · exact ⟨z1 ▸ wd_nil, hO _ z2⟩
      · exact ⟨hP _ z1, prt_wd hw z2⟩
    have hb : Wd 8 w.2.1 ∧ Wd 8 w.2.2 := by
      rcases b with ⟨z1, z2⟩ | ⟨z1, z2⟩
      · exact ⟨z1 ▸ wd_nil, hI _ z2⟩
      · exact ⟨hP _ z1, prt_wd hw z2⟩
    exact ⟨ha.1, ha.2, hb.1, hb.2⟩
theorem count_two {ks : List Port} (n : Str) (r : List Str) (hn : n ∉ r) : (ks.filter fun t => decide (t.1 = n)).length + (ks.filter fun t => decide (t.1 ∈ r)).length ≤ (ks.filter fun t => decide (t.1 ∈ n :: r)).length := by
  induction ks with
  | nil => exact Nat.le_refl _
  | cons t ks ih =>
    simp only [List.filter_cons]
    by_cases h1 : t.1 = n
    · have h2 : t.1 ∉ r := h1 ▸ hn
      have h3 : t.1 ∈ n :: r := h1 ▸ List.mem_cons_self
      rw [decide_eq_true h1, decide_eq_false h2, decide_eq_true h3]
      simp only [↓reduceIte, List.length_cons, Bool.false_eq_true]
      omega
    · by_cases h2 : t.1 ∈ r
      · rw [decide_eq_false h1, decide_eq_true h2, decide_eq_true (List.mem_cons_of_mem n h2)]
        simp only [↓reduceIte, List.length_cons, Bool.false_eq_true]
        omega
      · have h3 : t.1 ∉ n :: r := fun z => (List.mem_cons.mp z).elim h1 h2
        rw [decide_eq_false h1, decide_eq_false h2, decide_eq_false h3]
        simp only [↓reduceIte, Bool.false_eq_true]
        exact ih
theorem flat_count (ks : List Port) : ∀ ps : List (Str × Str), (ps.map (·.1)).Nodup → (ps.flatMap fun p => srt (ks.filter fun t => decide (t.1 = p.1))).length ≤ (ks.filter fun t => decide (t.1 ∈ ps.map (·.1))).length
  | [], _ => Nat.zero_le _
  | p :: r, h => by
    obtain ⟨h1, h2⟩ := List.nodup_cons.mp h
    rw [List.flatMap_cons, List.length_append, (srt_perm _).length_eq]
    have := flat_count ks r h2
    have := count_two (ks := ks) p.1 (r.map (·.1)) h1
    show _ ≤ (ks.filter fun t => decide (t.1 ∈ p.1 :: r.map (·.1))).length
    omega
theorem ord_short {ws : List Str} {d : Dd} (h : DGen ws d) (hn : ws.Nodup) : (ordW d).length ≤ 43 := by
  obtain ⟨j, hj, eo⟩ := h.outs
  obtain ⟨k, n, hk, hn2, ep⟩ := h.pn
  have nd : (d.ps.map (·.1)).Nodup := by
    rw [ep]
    exact List.Nodup.sublist (List.Sublist.trans (List.take_sublist _ _) (List.drop_sublist _ _)) hn
  have h1 := flat_count (d.ws.map (·.1)) d.ps nd
  have h2 := List.length_filter_le (fun t : Port => decide (t.1 ∈ d.ps.map (·.1))) (d.ws.map (·.1))
  have h3 := List.length_filter_le (fun o => decide (((Str.empty, o) : Port) ∈ d.ws.map (·.1))) d.outs
  have h4 : d.outs.length ≤ 3 := by
    rw [eo, List.length_take]
    omega
  have := h.wl
  unfold ordW ordL
  rw [List.length_map, List.length_append, List.length_map]
  rw [List.length_map] at h2
  omega
/-! ### a drawn diagram is valid -/
theorem prt_nm {ws : List Str} {x : Str} (hw : ∀ y ∈ ws, isNm y = true) (h : PrtT ws x) : isNm x = true := by
  rcases h with h | h
  · have z : ∀ y ∈ prtW, isNm y = true := by decide +kernel
    exact z x h
  · exact hw x h
theorem vd_of {ws : List Str} {d : Dd} (h : DGen ws d) (hw : ∀ x ∈ ws, Wd 8 x ∧ isNm x = true) (hn : ws.Nodup) : VD d.nm d.ins d.outs d.ps d.ws := by
  obtain ⟨y, hy, en⟩ := h.nm
  obtain ⟨i, hi, ei⟩ := h.ins
  obtain ⟨j, hj, eo⟩ := h.outs
  obtain ⟨k, n, hk, hn2, ep⟩ := h.pn
  have wn : ∀ x ∈ ws, isNm x = true := fun x hx => (hw x hx).2
  have hI : ∀ x ∈ d.ins, isNm x = true := fun x hx => by
    rw [ei] at hx
    exact wn x (List.mem_of_mem_take hx)
  have hO : ∀ x ∈ d.outs, isNm x = true := fun x hx => by
    rw [eo] at hx
    exact wn x (List.mem_of_mem_drop (List.mem_of_mem_take hx))
  have hP : ∀ x ∈ d.ps.map (·.1), isNm x = true := fun x hx => by
    rw [ep] at hx
    exact wn x (List.mem_of_mem_drop (List.mem_of_mem_take hx))
  have pl : d.ps.length ≤ 4 := by
    have := congrArg List.length ep
    rw [List.length_map, List.length_take] at this
    omega
  have hsplit : (ws.take 4 ++ ws.drop 4).Nodup := by
    rw [List.take_append_drop]
    exact hn
  obtain ⟨n1, n2, n3⟩ := List.nodup_append.mp hsplit
  refine ⟨⟨?_, fun x hx => (List.mem_append.mp hx).elim (hI x) (hO x), ?_, ?_, ?_⟩, by omega, fun p hp => hP _ (List.mem_map.mpr ⟨p, hp, rfl⟩), ?_, fun p hp => (h.pb p hp).2, h.wn, fun w hw2 => ⟨?_, ?_⟩, fun p hp => (h.pb p hp).1.l, fun p hp => (h.pb p hp).1.a, Nat.le_trans h.wl (by decide)⟩
  · rw [en]
    exact z_name (wd_cut (hw y (List.mem_of_getElem? hy)).1 7)
  · rw [ei, eo]
    have s1 : (ws.take i).Sublist (ws.take 4) := List.take_sublist_take_left (by omega)
    refine List.nodup_append.mpr ⟨List.Nodup.sublist s1 n1, List.Nodup.sublist (List.take_sublist _ _) n2, fun a ha b hb => n3 a (s1.subset ha) b (List.mem_of_mem_take hb)⟩
  · rw [ei, List.length_take]
    omega
  · rw [eo, List.length_take]
    omega
  · rw [ep]
    exact List.Nodup.sublist (List.Sublist.trans (List.take_sublist _ _) (List.drop_sublist _ _)) hn
  · rcases h.wk w hw2 with z | ⟨z1, z2⟩
    · exact .inl z
    · exact .inr ⟨z1, prt_nm wn z2⟩
  · rcases h.wv w hw2 with z | ⟨z1, z2⟩
    · exact .inl z
    · exact .inr ⟨z1, prt_nm wn z2⟩
/-! ### the two orders are one -/
theorem perm_of {α : Type} [DecidableEq α] {l m : List α} (hl : l.Nodup) (hm : m.Nodup) (h : ∀ a, a ∈ l ↔ a ∈ m) : l.Perm m := by
  rw [List.perm_iff_count]
  intro a
  by_cases ha : a ∈ l
  · have h1 := List.nodup_iff_count.mp hl a
    have h2 := List.nodup_iff_count.mp hm a
    have h3 := List.count_pos_iff.mpr ha
    have h4 := List.count_pos_iff.mpr ((h a).mp ha)
    omega
  · rw [List.count_eq_zero.mpr ha, List.count_eq_zero.mpr fun z => ha ((h a).mpr z)]
theorem le_same (p a b : Str) : PySem.W.dataLe false dataP (p, a) (p, b) = true ↔ leS a b := by
  have k : ∀ x : Str, PySem.W.keyToks (dataP (p, x)) = [.inl 1, .inr p.cps.toList, .inl 1, .inr x.cps.toList, .inl 0] := fun x => by
    unfold dataP
    simp [PySem.W.keyToks, PySem.W.keyToksAll]
  show (!(PyProof.Rows.lexLt PyProof.Rows.itemOrd (PySem.W.keyToks (dataP (p, b))) (PySem.W.keyToks (dataP (p, a))))) = true ↔ _
  rw [k, k]
  unfold leS
  simp [PyProof.Rows.lexLt, PyProof.Rows.itemLt, List.lt_irrefl]
theorem srt_pw (l : List Port) : (srt l).Pairwise fun a b => PySem.W.dataLe false dataP a b = true := by
  have T := PySem.W.sortLe_total (PyProof.Rows.listOrd PyProof.Rows.itemOrd) false fun b => PySem.W.keyToks (dataP b)
  exact List.pairwise_mergeSort (fun a b c => T.trans a b c) (fun a b => by rw [Bool.or_eq_true]; exact T.total a b) l
theorem srt_names (p : Str) (l : List Port) (h : ∀ t ∈ l, t.1 = p) (m : List Str) (hm : m.Perm (l.map (·.2))) : (sortS m).map (fun n => (p, n)) = srt l := by
  have h2 : ∀ t ∈ srt l, t.1 = p := fun t ht => h t ((srt_perm l).mem_iff.mp ht)
  have e : srt l = ((srt l).map (·.2)).map fun n => (p, n) := by
    rw [List.map_map]
    refine (List.map_id _).symm.trans (List.map_congr_left fun t ht => ?_)
    have := h2 t ht
    obtain ⟨a, b⟩ := t
    have : a = p := this
    rw [this]
    rfl
  have pw : ((srt l).map (·.2)).Pairwise leS := by
    refine List.pairwise_map.mpr (List.Pairwise.imp_of_mem ?_ (srt_pw l))
    intro a b ha hb hab
    have ea := h2 a ha
    have eb := h2 b hb
    obtain ⟨a1, a2⟩ := a
    obtain ⟨b1, b2⟩ := b
    have ea : a1 = p := ea
    have eb : b1 = p := eb
    subst ea
    subst eb
    exact (le_same _ _ _).mp hab
  have := List.Perm.eq_of_pairwise (fun _ _ _ _ => leS_anti) (sortS_pw m) pw ((sortS_perm m).trans (hm.trans ((srt_perm l).symm.map (·.2))))
  rw [e, ← this]
/-- what is asked of a diagram's data here -/
structure OD (d : Dd) : Prop where
  pd : (d.ps.map (·.1)).Nodup
  pe : ∀ p ∈ d.ps, p.1 ≠ Str.empty
  od : d.outs.Nodup
  wn : (d.ws.map (·.1)).Nodup
theorem od_of {n : Str} {ins outs : List Str} {ps : List (Str × Str)} {ws : List (Port × Port)} (V : VD n ins outs ps ws) : OD ⟨n, ins, outs, ps, ws⟩ :=
  ⟨V.pd, fun p hp e => by
    have := (isNm_len (V.pn p hp)).1
    rw [e] at this
    exact absurd this (by decide), (List.nodup_append.mp V.h.nd).2.1, V.wn⟩
theorem fl_mem {d : Dd} {t : Port} : t ∈ (d.ps.flatMap fun p => srt ((d.ws.map (·.1)).filter fun t => decide (t.1 = p.1))) ↔ t.1 ∈ d.ps.map (·.1) ∧ t ∈ d.ws.map (·.1) := by
  rw [List.mem_flatMap]
  constructor
  · rintro ⟨p, hp, ht⟩
    obtain ⟨h1, h2⟩ := List.mem_filter.mp ((srt_perm _).mem_iff.mp ht)
    exact ⟨List.mem_map.mpr ⟨p, hp, (of_decide_eq_true h2).symm⟩, h1⟩
  · rintro ⟨h1, h2⟩
    obtain ⟨p, hp, e⟩ := List.mem_map.mp h1
    exact ⟨p, hp, (srt_perm _).mem_iff.mpr (List.mem_filter.mpr ⟨h2, decide_eq_true e.symm⟩)⟩
theorem ordL_mem {d : Dd} {t : Port} : t ∈ ordL d ↔ t ∈ d.ws.map (·.1) ∧ (t.1 ∈ d.ps.map (·.1) ∨ (t.1 = Str.empty ∧ t.2 ∈ d.outs)) := by
  unfold ordL
  rw [List.mem_append, fl_mem]
  constructor
  · rintro (⟨h1, h2⟩ | h)
    · exact ⟨h2, .inl h1⟩
    · obtain ⟨o, ho, rfl⟩ := List.mem_map.mp h
      obtain ⟨h1, h2⟩ := List.mem_filter.mp ho
      exact ⟨of_decide_eq_true h2, .inr ⟨rfl, h1⟩⟩
  · rintro ⟨h1, h2 | ⟨h2, h3⟩⟩
    · exact .inl ⟨h2, h1⟩
    · obtain ⟨a, b⟩ := t
      have h2 : a = Str.empty := h2
      subst h2
      exact .inr (List.mem_map.mpr ⟨b, List.mem_filter.mpr ⟨h3, decide_eq_true h1⟩, rfl⟩)
theorem fl_nodup : ∀ (ps : List (Str × Str)) (ks : List Port), (ps.map (·.1)).Nodup → ks.Nodup → (ps.flatMap fun p => srt (ks.filter fun t => decide (t.1 = p.1))).Nodup
  | [], _, _, _ => List.nodup_nil
  | p :: r, ks, h, k => by
    obtain ⟨h1, h2⟩ := List.nodup_cons.mp h
    rw [List.flatMap_cons]
    refine List.nodup_append.mpr ⟨(srt_perm _).nodup_iff.mpr (List.Nodup.sublist List.filter_sublist k), fl_nodup r ks h2 k, fun a ha b hb e => ?_⟩
    subst e
    have e1 := of_decide_eq_true (List.mem_filter.mp ((srt_perm _).mem_iff.mp ha)).2
    obtain ⟨q, hq, hb⟩ := List.mem_flatMap.mp hb
    have e2 := of_decide_eq_true (List.mem_filter.mp ((srt_perm _).mem_iff.mp hb)).2
    exact h1 (List.mem_map.mpr ⟨q, hq, e2.symm.trans e1⟩)
theorem ordL_nodup {d : Dd} (h : OD d) : (ordL d).Nodup := by
  unfold ordL
  refine List.nodup_append.mpr ⟨fl_nodup _ _ h.pd h.wn, List.Pairwise.map _ (fun x y hxy e => hxy (Prod.mk.inj e).2) (List.Nodup.sublist List.filter_sublist h.od), fun a ha b hb e => ?_⟩
  subst e
  obtain ⟨o, _, rfl⟩ := List.mem_map.mp hb
  have h1 := (fl_mem.mp ha).1
  obtain ⟨p, hp, e⟩ := List.mem_map.mp h1
  exact h.pe p hp e
theorem ordW_keys (d : Dd) : (ordW d).map (·.1) = ordL d := by
  unfold ordW
  rw [List.map_map]
  exact List.map_id _
theorem src_of {us : List (Port × Port)} (hn : (us.map (·.1)).Nodup) {t s : Port} (h : (t, s) ∈ us) : srcOf us t = s := by
  induction us with
  | nil => cases h
  | cons w r ih =>
    obtain ⟨h1, h2⟩ := List.nodup_cons.mp hn
    unfold srcOf
    rw [List.find?_cons]
    rcases List.mem_cons.mp h with z | z
    · rw [← z, decide_eq_true rfl]
      rfl
    · have : w.1 ≠ t := fun e => h1 (List.mem_map.mpr ⟨(t, s), z, e.symm⟩)
      rw [decide_eq_false this]
      exact ih h2 z
theorem order_eq {d : Dd} (h : OD d) {us : List (Port × Port)} (hp : us.Perm (ordW d)) : orderT d.ps d.outs us = ordL d := by
  have kp : (us.map (·.1)).Perm (ordL d) := by
    rw [← ordW_keys]
    exact hp.map _
  have kn := kp.nodup_iff.mpr (ordL_nodup h)
  unfold orderT
  rw [show ordL d = (d.ps.flatMap fun p => srt ((d.ws.map (·.1)).filter fun t => decide (t.1 = p.1))) ++ (d.outs.filter fun o => decide (((Str.empty, o) : Port) ∈ d.ws.map (·.1))).map (fun o => (Str.empty, o)) from rfl]
  congr 1
  · unfold List.flatMap
    congr 1
    refine List.map_congr_left fun p hpm => ?_
    refine srt_names p.1 _ (fun t ht => of_decide_eq_true (List.mem_filter.mp ht).2) _ ?_
    have e1 : gOf us p.1 = (((us.map (·.1)).filter fun t => decide (t.1 = p.1))).map (·.2) := by
      unfold gOf
      rw [List.filter_map, List.map_map]
      rfl
    rw [e1]
    refine List.Perm.map _ (perm_of (List.Nodup.sublist List.filter_sublist kn) (List.Nodup.sublist List.filter_sublist h.wn) fun t => ?_)
    rw [List.mem_filter, List.mem_filter, kp.mem_iff, ordL_mem]
    constructor
    · exact fun z => ⟨z.1.1, z.2⟩
    · exact fun z => ⟨⟨z.1, .inl (List.mem_map.mpr ⟨p, hpm, (of_decide_eq_true z.2).symm⟩)⟩, z.2⟩
  · congr 1
    refine List.filter_congr fun o ho => decide_eq_decide.mpr ?_
    rw [kp.mem_iff, ordL_mem]
    exact ⟨fun z => z.1, fun z => ⟨z, .inr ⟨rfl, ho⟩⟩⟩
theorem wires_eq {d : Dd} (h : OD d) {us : List (Port × Port)} (hp : us.Perm (ordW d)) : wiresOf d.ps d.outs us = ordW d := by
  have kp : (us.map (·.1)).Perm (ordL d) := by
    rw [← ordW_keys]
    exact hp.map _
  have kn := kp.nodup_iff.mpr (ordL_nodup h)
  unfold wiresOf
  rw [order_eq h hp]
  unfold ordW
  refine List.map_congr_left fun t ht => ?_
  have : (t, srcOf d.ws t) ∈ us := by
    rw [hp.mem_iff]
    unfold ordW
    exact List.mem_map.mpr ⟨t, ht, rfl⟩
  rw [src_of kn this]
end K5
namespace K5
open PySem L2 Own StX ClX NdefX
abbrev sOrdL : Stmt := top 36
theorem pass0x {X : Cx} : Passes (L2.CX X.prog X.w) X E0 := fun _ _ _ _ _ _ _ ⟨_, _, _, _, _, _, _, _, _, _, _, _, h⟩ => h.elim
theorem kit_self {K : PySem.W.Frag} (C : Addr) : PySem.W.kitOne K (.ref C) (.ref C) = some true := by
  unfold PySem.W.kitOne
  rw [show ((Value.ref C) == (Value.ref C)) = true from beq_self_eq_true _]
  rfl
/-! ### how long rows are -/
theorem sum_le5 {l : List Str} {c : Nat} (h : ∀ x ∈ l, x.length ≤ c) : (l.map (·.length)).sum ≤ l.length * c := by
  induction l with
  | nil => exact Nat.zero_le _
  | cons x r ih =>
    have h1 := h x List.mem_cons_self
    have h2 := ih fun y hy => h y (List.mem_cons_of_mem _ hy)
    rw [List.map_cons, List.sum_cons, List.length_cons]
    have : (r.length + 1) * c = r.length * c + c := Nat.succ_mul _ _
    omega
theorem port_le {own parts : List Str} (ho : ∀ x ∈ own, isNm x = true) (hp : ∀ x ∈ parts, isNm x = true) {t : Port} (h : PortIn own parts t) : t.1.length ≤ 8 ∧ t.2.length ≤ 8 ∧ (portT t.1 t.2).length ≤ 17 := by
  have q := portT_len t.1 t.2
  rcases h with ⟨h1, h2⟩ | ⟨h1, h2⟩
  · have := (isNm_len (ho _ h2)).2
    rw [h1] at q ⊢
    have z : Str.empty.length = 0 := rfl
    omega
  · have := (isNm_len (hp _ h1)).2
    have := (isNm_len h2).2
    omega
theorem head_le {n : Str} {ins outs : List Str} (V : VH n ins outs) : (headT n ins outs).length ≤ 170 := by
  have h1 : ∀ x ∈ ins, x.length ≤ 8 := fun x hx => (isNm_len (V.all x (List.mem_append_left _ hx))).2
  have h2 : ∀ x ∈ outs.map (fun o => (" " : Str) ++ o), x.length ≤ 9 := fun x hx => by
    obtain ⟨o, ho, rfl⟩ := List.mem_map.mp hx
    have := (isNm_len (V.all o (List.mem_append_right _ ho))).2
    rw [sl, show (" " : Str).length = 1 by decide +kernel]
    omega
  have a := join_len " " ins
  have b := join_len "" (outs.map fun o => (" " : Str) ++ o)
  rw [sum_plus, show (" " : Str).length = 1 by decide +kernel] at a
  rw [sum_plus, show ("" : Str).length = 0 by decide +kernel] at b
  have c := sum_le5 h1
  have d := sum_le5 h2
  rw [List.length_map] at d b
  have e := Nat.mul_le_mul_right 8 V.il
  have f := Nat.mul_le_mul_right 9 V.ol
  have g := (isNm_len (dn_nm V.n)).2
  have := V.il
  unfold headT
  rw [sl, sl, sl, sl, sl, sl, show ("block " : Str).length = 6 by decide +kernel, show ("(" : Str).length = 1 by decide +kernel, show (";" : Str).length = 1 by decide +kernel, show (")" : Str).length = 1 by decide +kernel]
  omega
theorem rows_le {n : Str} {ins outs : List Str} {ps : List (Str × Str)} {ws us : List (Port × Port)} (V : VD n ins outs ps ws) (hp : us.Perm ws) : (∀ r ∈ rowsT n ins outs ps us, r.length ≤ 170) ∧ (rowsT n ins outs ps us).length ≤ 118 := by
  constructor
  · intro r hr
    unfold rowsT at hr
    rcases List.mem_cons.mp hr with rfl | hr
    · exact head_le V.h
    · rcases List.mem_append.mp hr with hr | hr
      · obtain ⟨p, hp, rfl⟩ := List.mem_map.mp hr
        have := (isNm_len (V.pn p hp)).2
        have := V.bl p hp
        unfold partT
        rw [sl, sl, sl, show ("  part " : Str).length = 7 by decide +kernel, show (" = " : Str).length = 3 by decide +kernel]
        omega
      · rcases List.mem_append.mp hr with hr | hr
        · obtain ⟨w, hw, rfl⟩ := List.mem_map.mp hr
          obtain ⟨k1, k2⟩ := V.wk w (hp.mem_iff.mp hw)
          have := (port_le V.outs V.pnm k1).2.2
          have := (port_le V.ins V.pnm k2).2.2
          unfold wireT
          rw [sl, sl, sl, show ("  " : Str).length = 2 by decide +kernel, show (" <- " : Str).length = 4 by decide +kernel]
          omega
        · rw [List.mem_singleton.mp hr]
          decide +kernel
  · unfold rowsT
    have := V.pl
    have := V.wl
    have := hp.length_eq
    simp only [List.length_cons, List.length_append, List.length_map, List.length_nil]
    omega
theorem text_le {n : Str} {ins outs : List Str} {ps : List (Str × Str)} {ws us : List (Port × Port)} (V : VD n ins outs ps ws) (hp : us.Perm ws) : (Txt.join "\n" (rowsT n ins outs ps us)).length ≤ 21000 ∧ ((rowsT n ins outs ps us).map (·.length)).sum ≤ 118 * 170 := by
  obtain ⟨h1, h2⟩ := rows_le V hp
  have a := join_len "\n" (rowsT n ins outs ps us)
  rw [sum_plus, show ("\n" : Str).length = 1 by decide +kernel] at a
  have b := sum_le5 h1
  have c := Nat.mul_le_mul_right 170 h2
  omega
/-- a text whose rows are those of a valid diagram is parsed -/
theorem parse_sp {K : PySem.W.Frag} {CR C CI : Addr} {d : Dd} (V : VD d.nm d.ins d.outs d.ps (ordW d)) (O : OD d) {us : List (Port × Port)} (hp : us.Perm (ordW d)) {H : Hp} {Q : VK}
    (k : ∀ y H', Same H H' → H y = none → DgAt K C H' y d.nm d.ins d.outs d.ps (ordW d) → DSm d.nm d.ins d.outs d.ps (ordW d) → Q (.ref y) H') : spParse K CR C CI [.ref C, .str (Txt.join "\n" (rowsT d.nm d.ins d.outs d.ps us))] H Q E0 := by
  obtain ⟨h1, h2⟩ := rows_le V hp
  obtain ⟨h3, _⟩ := text_le V hp
  have hr := run_rows V hp
  refine ⟨_, rfl, by omega, by rw [split_rows V hp]; omega, by rw [split_rows V hp]; exact fun r hr => Nat.le_trans (h1 r hr) (by decide), fun kk e => ?_, fun st n ins outs e hh hd y H' s' hy hD => ?_⟩
  · rw [split_rows V hp, hr] at e
    cases e
  · rw [split_rows V hp, hr] at e
    cases e
    cases hh
    have we : wiresOf d.ps d.outs us = ordW d := wires_eq O hp
    dsimp only at hd hD
    rw [we] at hd hD
    exact k y H' s' hy hD hd
theorem filter_two {α : Type} (l : List α) (p : α → Bool) : (l.filter p).length + (l.filter fun a => !p a).length = l.length := by
  induction l with
  | nil => rfl
  | cons a r ih =>
    rw [List.filter_cons, List.filter_cons]
    cases p a <;> simp <;> omega
theorem nodup_le {α : Type} [DecidableEq α] : ∀ {l m : List α}, l.Nodup → (∀ a ∈ l, a ∈ m) → l.length ≤ m.length
  | [], _, _, _ => Nat.zero_le _
  | a :: r, m, h, k => by
    obtain ⟨h1, h2⟩ := List.nodup_cons.mp h
    have hm := k a List.mem_cons_self
    have := nodup_le (l := r) (m := m.erase a) h2 fun b hb => (List.mem_erase_of_ne (fun e => h1 (by rw [← e]; exact hb))).mpr (k b (List.mem_cons_of_mem _ hb))
    rw [List.length_erase_of_mem hm] at this
    have := List.length_pos_of_mem hm
    rw [List.length_cons]
    omega
/-- the rows of a diagram in its own order: its wires are valid again -/
theorem vd_ord {d : Dd} (V : VD d.nm d.ins d.outs d.ps d.ws) : VD d.nm d.ins d.outs d.ps (ordW d) := by
  have O : OD d := od_of V
  have kn : ((ordW d).map (·.1)).Nodup := by
    rw [ordW_keys]
    exact ordL_nodup O
  have wl : (ordW d).length ≤ 100 := by
    have h1 := flat_count (d.ws.map (·.1)) d.ps O.pd
    have h2 : ((d.outs.filter fun o => decide (((Str.empty, o) : Port) ∈ d.ws.map (·.1))).map fun o => ((Str.empty, o) : Port)).length ≤ ((d.ws.map (·.1)).filter fun t => !decide (t.1 ∈ d.ps.map (·.1))).length := by
      have hs : ∀ t ∈ ((d.outs.filter fun o => decide (((Str.empty, o) : Port) ∈ d.ws.map (·.1))).map fun o => ((Str.empty, o) : Port)), t ∈ ((d.ws.map (·.1)).filter fun t => !decide (t.1 ∈ d.ps.map (·.1))) := fun t ht => by
        obtain ⟨o, ho, rfl⟩ := List.mem_map.mp ht
        refine List.mem_filter.mpr ⟨of_decide_eq_true (List.mem_filter.mp ho).2, ?_⟩
        rw [Bool.not_eq_true', decide_eq_false_iff_not]
        intro z
        obtain ⟨p, hp, e⟩ := List.mem_map.mp z
        exact O.pe p hp e
      have hn : ((d.outs.filter fun o => decide (((Str.empty, o) : Port) ∈ d.ws.map (·.1))).map fun o => ((Str.empty, o) : Port)).Nodup := List.Pairwise.map _ (fun x y hxy e => hxy (Prod.mk.inj e).2) (List.Nodup.sublist List.filter_sublist O.od)
      exact nodup_le hn hs
    have h3 := filter_two (d.ws.map (·.1)) fun t => decide (t.1 ∈ d.ps.map (·.1))
    have := V.wl
    rw [List.length_map] at h3
    unfold ordW ordL
    rw [List.length_map, List.length_append]
    omega
  exact ⟨V.h, V.pl, V.pn, V.pd, V.pb, kn, fun w hw => V.wk w (ordW_mem hw), V.bl, V.ba, wl⟩
end K5
namespace K5
open PySem L2 Own StX ClX NdefX
/-! ### rows are plain -/
theorem asc_app {a b : Str} (h : Asc a) (k : Asc b) : Asc (a ++ b) := fun c hc => by
  have hc : c ∈ TL.tl (a ++ b) := hc
  rw [TL.tl_append] at hc
  exact (List.mem_append.mp hc).elim (h c) (k c)
def ascB (x : Str) : Bool := x.cps.toList.all fun c => decide (c < 128)
theorem asc_of {x : Str} (h : ascB x = true) : Asc x := fun c hc => of_decide_eq_true (List.all_eq_true.mp h c hc)
theorem asc_nm {x : Str} (h : isNm x = true) : Asc x := fun c hc => by
  have := nm_tl h (c := c) hc
  omega
theorem asc_port {own parts : List Str} (ho : ∀ x ∈ own, isNm x = true) (hp : ∀ x ∈ parts, isNm x = true) {t : Port} (h : PortIn own parts t) : Asc (portT t.1 t.2) := by
  obtain ⟨a, b⟩ := t
  rcases h with ⟨h1, h2⟩ | ⟨h1, h2⟩
  · have h1 : a = Str.empty := h1
    subst h1
    show Asc (portT Str.empty b)
    rw [port_nil]
    exact asc_nm (ho b h2)
  · show Asc (portT a b)
    rw [port_dot (hp a h1)]
    exact asc_app (asc_app (asc_nm (hp a h1)) (asc_of (by decide +kernel))) (asc_nm h2)
theorem asc_rows {n : Str} {ins outs : List Str} {ps : List (Str × Str)} {ws us : List (Port × Port)} (V : VD n ins outs ps ws) (hp : us.Perm ws) : ∀ r ∈ rowsT n ins outs ps us, Asc r := by
  intro r hr
  unfold rowsT at hr
  rcases List.mem_cons.mp hr with rfl | hr
  · have hJ : Asc (Txt.join " " ins) := fun c hc => by
      have hc : c ∈ TL.tl (Txt.join " " ins) := hc
      rw [tl_J] at hc
      rcases join_mem _ _ hc with z | ⟨q, hq, z⟩
      · omega
      · obtain ⟨x, hx, rfl⟩ := List.mem_map.mp hq
        exact asc_nm (V.ins x hx) c z
    have hO : Asc (Txt.join "" (outs.map fun o => (" " : Str) ++ o)) := fun c hc => by
      have hc : c ∈ TL.tl (Txt.join "" (outs.map fun o => (" " : Str) ++ o)) := hc
      rw [tl_O] at hc
      cases e : outs.map TL.tl with
      | nil =>
        rw [e] at hc
        cases hc
      | cons p q =>
        rw [e] at hc
        have hc : c ∈ 32 :: TL.joinL [32] (p :: q) := hc
        rcases List.mem_cons.mp hc with z | z
        · omega
        · rw [← e] at z
          rcases join_mem _ _ z with z | ⟨q, hq, z⟩
          · omega
          · obtain ⟨x, hx, rfl⟩ := List.mem_map.mp hq
            exact asc_nm (V.outs x hx) c z
    unfold headT
    exact asc_app (asc_app (asc_app (asc_app (asc_app (asc_app (asc_of (by decide +kernel)) (asc_nm (dn_nm V.h.n))) (asc_of (by decide +kernel))) hJ) (asc_of (by decide +kernel))) hO) (asc_of (by decide +kernel))
  · rcases List.mem_append.mp hr with hr | hr
    · obtain ⟨p, hp, rfl⟩ := List.mem_map.mp hr
      unfold partT
      exact asc_app (asc_app (asc_app (asc_of (by decide +kernel)) (asc_nm (V.pn p hp))) (asc_of (by decide +kernel))) (V.ba p hp)
    · rcases List.mem_append.mp hr with hr | hr
      · obtain ⟨w, hw, rfl⟩ := List.mem_map.mp hr
        obtain ⟨k1, k2⟩ := V.wk w (hp.mem_iff.mp hw)
        unfold wireT
        exact asc_app (asc_app (asc_app (asc_of (by decide +kernel)) (asc_port V.outs V.pnm k1)) (asc_of (by decide +kernel))) (asc_port V.ins V.pnm k2)
      · rw [List.mem_singleton.mp hr]
        exact asc_of (by decide +kernel)
theorem map_erase {α β : Type} (f : α → β) : ∀ (l : List α) (i : Nat), (l.map f).eraseIdx i = (l.eraseIdx i).map f
  | [], _ => rfl
  | _ :: _, 0 => rfl
  | a :: r, i + 1 => by
    show f a :: (r.map f).eraseIdx i = f a :: (r.eraseIdx i).map f
    rw [map_erase f r i]
/-! ### the wires' rows in another order -/
def spOrdL : Sp := fun vs H Q _ => ∃ (a r : Addr) (d s : Int) (pre wr : List Str) (last : Str) (c : Int), vs = [.ref a, .ref r, .int c] ∧ H a = some (.lst [.int d, .int s]) ∧ 0 ≤ d ∧ H r = some (.lst ((pre ++ wr ++ [last]).map V.str)) ∧ a ≠ r ∧ c = (wr.length : Nat) ∧ (∀ x ∈ wr, Asc x) ∧ (pre ++ wr ++ [last]).length ≤ 500 ∧
  ∀ (L : Addr) (mx : List Str) d' s' H', SameX a H H' → H' a = some (.lst [.int d', .int s']) → 0 ≤ d' → H' L = some (.lst ((pre ++ mx ++ [last]).map V.str)) → mx.Perm wr → Q (.ref L) H'
theorem sIx_neg1 (n d : Nat) : HT.sIx n d (some (-1)) = n - 1 := sIx_m1 n d
theorem cut_wires (pre wr : List Str) (last : Str) : cutV ((pre ++ wr ++ [last]).map V.str) (some ((pre.length : Nat) : Int)) (some (-1)) = wr.map V.str := by
  unfold cutV
  have l : ((pre ++ wr ++ [last]).map V.str).length = pre.length + wr.length + 1 := by
    rw [List.length_map, List.length_append, List.length_append]
    rfl
  rw [HT.sIx_nat, sIx_neg1, l, Nat.min_eq_left (by omega), show pre.length + wr.length + 1 - 1 - pre.length = wr.length by omega, List.map_append, List.map_append, List.append_assoc, ← List.length_map (f := V.str) (as := pre), List.drop_left, ← List.length_map (f := V.str) (as := wr), List.take_left]
theorem cut_pre (pre wr : List Str) (last : Str) : cutV ((pre ++ wr ++ [last]).map V.str) none (some ((pre.length : Nat) : Int)) = pre.map V.str := by
  rw [cut_low, List.append_assoc, List.map_append, ← List.length_map (f := V.str) (as := pre), List.take_left]
theorem cut_end (pre wr : List Str) (last : Str) : cutV ((pre ++ wr ++ [last]).map V.str) (some (-1)) none = [V.str last] := by
  unfold cutV
  have l : ((pre ++ wr ++ [last]).map V.str).length = (pre ++ wr).length + 1 := by
    rw [List.length_map, List.length_append]
    rfl
  rw [sIx_neg1, HT.sIx_none, l, Nat.add_sub_cancel, show (pre ++ wr).length + 1 - (pre ++ wr).length = 1 by omega, List.map_append, ← List.length_map (f := V.str) (as := pre ++ wr), List.drop_left]
  rfl
section
variable {P : Program} {w : World} {K : PySem.W.Frag} {mg : Str → Option Value} {base : Heap}
abbrev nOl : List Str := ["feed", "rows", "count", "start", "wires", "mixed"]
theorem scOl : FnScope nOl ["feed", "rows", "count"] (defScope sOrdL) := ⟨rfl, rfl, rfl, by decide +kernel, rfl, by decide +kernel, by decide +kernel⟩
theorem ok_ordl {f fT : Addr} {fd fdT : FuncData} (F : Fun K "_law_order" "_law_order" sOrdL f fd) (GT : FnOk P w K mg base CX0 1 fT fdT ["feed", "many"] spTakeL) (mT : mg "_law_take" = some (.ref fT)) (kT : PySem.W.keepIn K (.ref fT) = true) (bT : Binds K fdT ["feed", "many"] []) (zl : mg "len" = none) :
    FnOk P w K mg base CX0 2 f fd ["feed", "rows", "count"] spOrdL := by
  refine F.ok scOl (fun vs H Q E h => ?_) (fun cdv A outer s H vs Q E hr h => ?_)
  · obtain ⟨a, r, d, s, pre, wr, last, c, rfl, _⟩ := h
    rfl
  obtain ⟨a, r, d, s0, pre, wr, last, c, rfl, ha, hd, hrl, har, rfl, hasc, hlen, kk⟩ := h
  have hu := hr.units
  refine ⟨_, pss_cons (ps_set (i := 3) scOl.nd rfl (.inl rfl) (pe_op op_sub (pe_op op_sub (pe_callB call_len_seq (by rfl) zl PySem.boot_len (pa_cons (pv 1) pa_nil)) pe_int) (pv 2)))
    (pss_cons (ps_set (i := 4) scOl.nd rfl (.inl rfl) (pe_slice sl_list (pv 1) (po_some (pv 3)) (po_some (pe_un un_neg pe_int))))
    (pss_cons (ps_set (i := 5) scOl.nd rfl (.inl rfl) (pe_lst pa_nil))
    (pss_cons (ps_while PassesOwn.never (pt_cmpR (op_neD hu) (pv 4) (pe_lst pa_nil) (nomark _))
      (pss_one (ps_expr (pe_bm PySem.F.plainAttrs_list PySem.F.slot_list_append PySem.F.type_list_append mt_append (pv 5) (pa_cons (pe_bm PySem.F.plainAttrs_list PySem.F.slot_list_pop PySem.F.type_list_pop mt_popAt (pv 4) (pa_cons (pe_call GT hr rfl mT kT bT .nil pass0 (pa_cons (pv 0) (pa_cons (pe_callB call_len_seq (by rfl) zl PySem.boot_len (pa_cons (pv 4) pa_nil)) pa_nil))) pa_nil)) pa_nil)))))
    (pss_one (ps_ret (pe_op op_cat (pe_op op_cat (pe_slice sl_list (pv 1) po_none (po_some (pv 3))) (pv 5)) (pe_slice sl_list (pv 1) (po_some (pe_un un_neg pe_int)) po_none))))))), ?_⟩
  have big : ∀ {n : Nat}, n ≤ 100000 → n ≤ sizeLine := fun h => by rw [sizeLine_eq]; omega
  have lt : ∀ {n : Nat}, n ≤ 100000 → n < sizeLine := fun h => by rw [sizeLine_eq]; omega
  have hl : ((pre ++ wr ++ [last]).map V.str).length = pre.length + wr.length + 1 := by
    rw [List.length_map, List.length_append, List.length_append]
    rfl
  have hlp : pre.length + wr.length + 1 ≤ 500 := by
    rw [List.length_append, List.length_append] at hlen
    exact hlen
  have est : (((pre ++ wr ++ [last]).map V.str).length : Int) - 1 - ((wr.length : Nat) : Int) = ((pre.length : Nat) : Int) := by
    rw [hl]
    omega
  refine ⟨_, rfl, r, _, rfl, .inl (.of hrl), _, _, rfl, rfl, _, rfl, _, _, rfl, rfl, ?_⟩
  show gName 3 (V.int ((((pre ++ wr ++ [last]).map V.str).length : Int) - 1 - ((wr.length : Nat) : Int))) _ _ _
  rw [est]
  refine ⟨_, rfl, _, rfl, _, rfl, 1, rfl, -1, rfl, r, _, rfl, .of hrl, fun wl hwl => ?_⟩
  rw [cut_wires]
  have s1 := upd_new (o := HO.lst (wr.map V.str)) hwl
  have e1 : upd H wl (.lst (wr.map V.str)) wl = some (.lst (wr.map V.str)) := upd_same
  generalize upd H wl (.lst (wr.map V.str)) = H1 at s1 e1 ⊢
  refine ⟨small1 (by show 0 ≤ 8; decide), fun ml hml => ?_⟩
  have s2 := upd_new (o := HO.lst []) hml
  have e2 : upd H1 ml (.lst []) ml = some (.lst (([] : List Str).map V.str)) := upd_same
  have nwm : wl ≠ ml := ne_of_none e1 hml
  have hHml : H ml = none := s1.free hml
  have naw : a ≠ wl := ne_of_none ha hwl
  have nam : a ≠ ml := ne_of_none ha hHml
  refine ⟨fun m σ H' => ∃ (d s : Int) (rest mx : List Str), σ = [some (.ref a), some (.ref r), some (.int ((wr.length : Nat) : Int)), some (.int ((pre.length : Nat) : Int)), some (.ref wl), some (.ref ml)] ∧ m = rest.length ∧ SameX a H H' ∧ H' a = some (.lst [.int d, .int s]) ∧ 0 ≤ d ∧ H' wl = some (.lst (rest.map V.str)) ∧ H' ml = some (.lst (mx.map V.str)) ∧ (mx ++ rest).Perm wr,
    ⟨wr.length, d, s0, wr, [], rfl, rfl, SameX.of (s1.trans s2), s2 _ _ (s1 _ _ ha), hd, s2 _ _ e1, e2, List.Perm.refl _⟩, ?_⟩
  rintro m σ H3 ⟨d3, s3, rest, mx, rfl, rfl, x3, a3, hd3, w3, m3, p3⟩
  have hra : ∀ x ∈ rest, Asc x := fun x hx => hasc x (p3.mem_iff.mp (List.mem_append_right _ hx))
  have hpl := p3.length_eq
  rw [List.length_append] at hpl
  refine ⟨_, rfl, small1 (by show 0 ≤ 8; decide), fun z hz => ⟨.list (rest.map PyData.str), .list [], .lst (.of ((upd_new hz) _ _ w3)) (dp_strs _), .lst (.of upd_same) .nil, ascs_shaped _ hra, ascs_shaped [] (fun x hx => by cases hx), _, rfl, ?_⟩⟩
  rw [eqv_empty]
  have s4 := upd_new (o := HO.lst []) hz
  have x4 := x3.trans (SameX.of s4)
  have a4 := s4 _ _ a3
  have w4 := s4 _ _ w3
  have m4 := s4 _ _ m3
  generalize upd H3 z (.lst []) = H4 at x4 a4 w4 m4 ⊢
  cases rest with
  | nil =>
    rw [List.append_nil] at p3
    refine iteF ?_
    have hr4 := x4 _ _ har.symm hrl
    refine ⟨_, rfl, _, rfl, _, rfl, r, _, rfl, .of hr4, fun q1 hq1 => ?_⟩
    rw [cut_pre]
    have s5 := upd_new (o := HO.lst (pre.map V.str)) hq1
    refine ⟨_, rfl, q1, ml, _, _, rfl, rfl, upd_same, s5 _ _ m4, by rw [List.length_map, List.length_map]; exact big (by rw [List.length_nil] at hpl; omega), fun q2 hq2 => ?_⟩
    have s6 := s5.trans (upd_new (o := HO.lst (pre.map V.str ++ mx.map V.str)) hq2)
    refine ⟨_, rfl, 1, rfl, -1, rfl, r, _, rfl, .of (s6 _ _ hr4), fun q3 hq3 => ?_⟩
    rw [cut_end]
    have s7 := s6.trans (upd_new (o := HO.lst [V.str last]) hq3)
    refine ⟨q2, q3, _, _, rfl, rfl, (upd_new hq3) _ _ upd_same, upd_same, by rw [List.length_append, List.length_map, List.length_map]; exact big (by rw [List.length_nil] at hpl; show _ + 1 ≤ _; omega), fun q4 hq4 => ?_⟩
    have s8 := s7.trans (upd_new (o := HO.lst (pre.map V.str ++ mx.map V.str ++ [V.str last])) hq4)
    exact kk q4 mx d3 s3 _ (x4.trans (SameX.of s8)) (s8 _ _ a4) hd3 (by rw [upd_same, List.map_append, List.map_append]; rfl) p3
  | cons y0 rs =>
    refine iteT ?_
    have hrl0 : ((y0 :: rs).map V.str).length = (y0 :: rs).length := List.length_map _
    have hr500 : (y0 :: rs).length ≤ 500 := by omega
    refine ⟨fun σ' H' => ∃ m', m' < (y0 :: rs).length ∧ ∃ (d s : Int) (rest mx : List Str), σ' = [some (.ref a), some (.ref r), some (.int ((wr.length : Nat) : Int)), some (.int ((pre.length : Nat) : Int)), some (.ref wl), some (.ref ml)] ∧ m' = rest.length ∧ SameX a H H' ∧ H' a = some (.lst [.int d, .int s]) ∧ 0 ≤ d ∧ H' wl = some (.lst (rest.map V.str)) ∧ H' ml = some (.lst (mx.map V.str)) ∧ (mx ++ rest).Perm wr, fun σ' H' h => h, ?_⟩
    have hpos : 0 < (y0 :: rs).length := Nat.succ_pos _
    generalize (y0 :: rs) = rest at hra w4 p3 hpl hrl0 hr500 hpos ⊢
    refine ⟨_, rfl, .inl ⟨rfl, _, .of m4⟩, _, rfl, .inl ⟨rfl, _, .of w4⟩, _, rfl, _, rfl, wl, _, rfl, .inl (.of w4), a, d3, s3, _, rfl, a4, hd3, by omega, by omega, fun g d5 s5 hd5 g0 g1 => ?_⟩
    have x5 : SameX a H (upd H4 a (.lst [.int d5, .int s5])) := x4.trans SameX.put
    have a5 : (upd H4 a (.lst [.int d5, .int s5])) a = some (.lst [.int d5, .int s5]) := upd_same
    have w5 := (upd_ne (o := HO.lst [.int d5, .int s5]) (H := H4) naw.symm).trans w4
    have m5 := (upd_ne (o := HO.lst [.int d5, .int s5]) (H := H4) nam.symm).trans m4
    generalize upd H4 a (.lst [.int d5, .int s5]) = H5 at x5 a5 w5 m5 ⊢
    have hk : g.toNat < rest.length := by omega
    obtain ⟨y, hy⟩ : ∃ y, rest[g.toNat]? = some y := ⟨_, List.getElem?_eq_getElem hk⟩
    refine ⟨wl, _, g, g.toNat, .str y, rfl, rfl, w5, by omega, by omega, seqIx g0 (by rw [hrl0]; omega), by rw [List.getElem?_map, hy]; rfl, ml, _, _, rfl, rfl, (upd_ne nwm.symm).trans m5, by rw [List.length_map]; exact lt (by omega), ?_⟩
    refine ⟨(rest.eraseIdx g.toNat).length, ?_, d5, s5, rest.eraseIdx g.toNat, mx ++ [y], rfl, rfl, ?_, ?_, hd5, ?_, ?_, ?_⟩
    · rw [List.length_eraseIdx, if_pos hk]
      omega
    · exact putX (putX x5 hwl) hHml
    · exact (upd_ne nam).trans ((upd_ne naw).trans a5)
    · rw [upd_ne nwm, upd_same, map_erase]
    · rw [upd_same, List.map_append]
      rfl
    · refine List.Perm.trans ?_ p3
      rw [List.append_assoc]
      exact List.Perm.append_left _ (erase_perm rest _ _ hy)
end
end K5
/-! OwnO: list(a text). -/
namespace Own
open PySem PySem.Spec PyProof.Rows L2
theorem call_list_text {X : Cx} (hc : X.calm = true) : CallR X (.type "list") (fun xs H Q => ∃ x : Str, xs = [.str x] ∧ x.length ≤ 1000 ∧ ∀ p, H p = none → Q (.ref p) (upd H p (.lst ((signsOf x).map V.str)))) := by
  intro pins s σ H xs us Q I r h
  obtain ⟨x, rfl, hx, q⟩ := h
  obtain ⟨u, rfl, ru⟩ := vals1 r
  obtain ⟨t, rfl⟩ := ru
  have hx2 : x.cps.size ≤ 1000 := hx
  refine call_list_str (I.ok.hd hc) x t (hn := by rw [sizeLine_eq]; omega) fun h' tk acc c k hS hacc => ?_
  have hA : StrsAre acc.toList (signsOf x) := by
    refine strs_by _ _ ?_ fun i v e => ?_
    · unfold signsOf
      rw [List.length_map, Array.length_toList, Array.length_toList, hacc.1]
    · obtain ⟨c, u, e1, e2⟩ := hacc.2 i v (by rw [← Array.getElem?_toList]; exact e)
      refine ⟨⟨#[c]⟩, u, ?_, e2⟩
      unfold signsOf
      rw [List.getElem?_map, Array.getElem?_toList, e1]
      rfl
  have len : ((signsOf x).map V.str).length ≤ sizeLine := by
    rw [List.length_map]
    unfold signsOf
    rw [List.length_map, Array.length_toList, sizeLine_eq]
    omega
  exact ⟨.ref _, upd H s.heap.objs.size (.lst ((signsOf x).map V.str)), I.laid (t' := tk) k (Nat.le_refl _) ⟨len, acc.toList, c, vals_of_strs hA, by rw [Array.toArray_toList]; exact hS⟩, rfl, q _ (I.hok.fresh (Nat.le_refl _))⟩
end Own
namespace K5
open PySem L2 Own StX ClX NdefX
abbrev sMany : Stmt := top 37
/-- Diagram.parse and str, callable; the class -/
structure Par (P : Program) (w : World) (K : PySem.W.Frag) (mg : Str → Option Value) (base : Heap) (CR C CI : Addr) : Prop where
  cm : ∃ mc p g, CRead K C mc ∧ CMet K C mc "parse" p g ∧ FnR P w K mg base (L2.CX P w) 6 g (spParse K CR C CI) ∧ (∃ u, CVal K C mc "MAX_PORTS" (.int 8) u) ∧ ∃ u, CVal K C mc "MAX_PARTS" (.int 16) u
  st : ∃ g, PySem.W.findIn K (.ref C) "__str__" = some (some (.ref g)) ∧ PySem.W.isFn K (.ref g) = true ∧ FnR P w K mg base CX0 3 g (spStr K C)
  mD : mg "Diagram" = some (.ref C)
  zs : mg "str" = none
  dg : DgC K mg C
  bl : ∃ B, mg "Block" = some (.ref B) ∧ PySem.W.kitOne K (.ref C) (.ref B) = some true
  ha : PySem.W.findIn K (.ref C) "__class__" = some (some (.builtin "object.__class__"))
  hn : PySem.W.specialIn K (.builtin "object.__class__") "__get__" = some (some (.builtin "getset_descriptor.__get__"))
  hk : PySem.W.takesIn K (.builtin "object.__class__") = some true
  hm : PySem.W.mroIn K C (.type "object") = some true
  isi : mg "isinstance" = none
  c8 : ∃ u, Con K C "MAX_PORTS" (.int 8) u
  c16 : ∃ u, Con K C "MAX_PARTS" (.int 16) u
/-! ### data of ports and wires -/
def wireD (w : Port × Port) : PyData := .tuple [dataP w.1, dataP w.2]
def shortW (w : Port × Port) : Prop := shortP w.1 ∧ shortP w.2
theorem port_lay {p : Port} (h : shortP p) : (dataP p).canLay0 = true := by simp [dataP, PyData.canLay0, PyData.canLayAll0, strOk_of h.1, strOk_of h.2]
theorem wiresD_lay : ∀ l : List (Port × Port), (∀ w ∈ l, shortW w) → PyData.canLayAll0 (l.map wireD) = true
  | [], _ => by simp [PyData.canLayAll0]
  | w :: r, h => by
    have h1 := h w List.mem_cons_self
    simp [PyData.canLayAll0, wireD, PyData.canLay0, port_lay h1.1, port_lay h1.2, wiresD_lay r (fun q hq => h q (List.mem_cons_of_mem _ hq))]
theorem port_depth (p : Port) : (dataP p).depth ≤ 2 := by simp [dataP, PyData.depth, PyData.depthAll]
theorem wireD_depth (w : Port × Port) : (wireD w).depth ≤ 3 := by
  have := port_depth w.1
  have := port_depth w.2
  simp only [wireD, PyData.depth, PyData.depthAll]
  omega
theorem depths {l : List PyData} {n : Nat} (h : ∀ d ∈ l, d.depth ≤ n) : PyData.depthAll l ≤ n := by
  induction l with
  | nil => simp [PyData.depthAll]
  | cons d r ih =>
    have h1 := h d List.mem_cons_self
    have h2 := ih fun e he => h e (List.mem_cons_of_mem _ he)
    simp only [PyData.depthAll]
    omega
theorem ports_shape {l : List Port} (h : ∀ p ∈ l, shortP p) : SeqAt.shaped (.tuple (l.map dataP)) = true := by
  have h1 := portsD_depth l
  unfold SeqAt.shaped
  rw [Bool.and_eq_true]
  refine ⟨by simp only [PyData.canLay0]; exact portsD_lay l h, decide_eq_true ?_⟩
  simp only [PyData.depth]
  omega
theorem wires_shape {l : List (Port × Port)} (h : ∀ w ∈ l, shortW w) : SeqAt.shaped (.tuple (l.map wireD)) = true := by
  have h1 : PyData.depthAll (l.map wireD) ≤ 3 := depths fun d hd => by
    obtain ⟨w, _, rfl⟩ := List.mem_map.mp hd
    exact wireD_depth w
  unfold SeqAt.shaped
  rw [Bool.and_eq_true]
  refine ⟨by simp only [PyData.canLay0]; exact wiresD_lay l h, decide_eq_true ?_⟩
  simp only [PyData.depth]
  omega
theorem eqv_shaped {d : PyData} (h : SeqAt.shaped d = true) : PyData.eqv d d = true := by
  unfold SeqAt.shaped at h
  rw [Bool.and_eq_true] at h
  exact PySem.SeqAt.eqv_refl d h.1
theorem dp_port {K : PySem.W.Frag} {H : Hp} {a : Addr} {p : Port} (h : H a = some (.tup [.str p.1, .str p.2])) : Dp K H (.ref a) (dataP p) := .tup (.of h) (.cons (.str _) (.cons (.str _) .nil))
theorem dp_wires {K : PySem.W.Frag} {H : Hp} : ∀ (bs : List Addr) (l : List (Port × Port)), WPairsAt H bs l → DpAll K H (bs.map V.ref) (l.map wireD)
  | [], [], _ => .nil
  | [], _ :: _, h => by cases h.1
  | _ :: _, [], h => by cases h.1
  | b :: bs, w :: l, h => by
    obtain ⟨t, s, h1, h2, h3⟩ := h.2 0 b w rfl rfl
    exact .cons (.tup (.of h1) (.cons (dp_port h2) (.cons (dp_port h3) .nil))) (dp_wires bs l ⟨Nat.succ.inj h.1, fun i c q e1 e2 => h.2 (i + 1) c q e1 e2⟩)
theorem okT_asc {x : Str} (h : Asc x) : okT x := fun c hc => by
  have := h c hc
  omega
theorem okT_nm {x : Str} (h : isNm x = true) : okT x := okT_asc (asc_nm h)
theorem short_port {own parts : List Str} (ho : ∀ x ∈ own, isNm x = true) (hp : ∀ x ∈ parts, isNm x = true) {t : Port} (h : PortIn own parts t) : shortP t := by
  rcases h with ⟨h1, h2⟩ | ⟨h1, h2⟩
  · exact ⟨by rw [h1]; exact okT_nil, okT_nm (ho _ h2)⟩
  · exact ⟨okT_nm (hp _ h1), okT_nm h2⟩
theorem short_wire {n : Str} {ins outs : List Str} {ps : List (Str × Str)} {ws : List (Port × Port)} (V : VD n ins outs ps ws) : ∀ w ∈ ws, shortW w := fun w hw => by
  obtain ⟨k1, k2⟩ := V.wk w hw
  exact ⟨short_port V.outs V.pnm k1, short_port V.ins V.pnm k2⟩
theorem short_part {n : Str} {ins outs : List Str} {ps : List (Str × Str)} {ws : List (Port × Port)} (V : VD n ins outs ps ws) : ∀ p ∈ ps, shortP p := fun p hp => ⟨okT_nm (V.pn p hp), okT_asc (V.ba p hp)⟩
/-! ### rows in another order are rows of a diagram whose wires are in another order -/
theorem perm_map_inv {α β : Type} {f : α → β} : ∀ {l k : List β}, l.Perm k → ∀ m : List α, k = m.map f → ∃ u : List α, l = u.map f ∧ u.Perm m := by
  intro l k h
  induction h with
  | nil =>
    intro m e
    cases m with
    | nil => exact ⟨[], rfl, List.Perm.refl _⟩
    | cons a r => cases e
  | cons x _ ih =>
    intro m e
    cases m with
    | nil => cases e
    | cons a r =>
      injection e with e1 e2
      obtain ⟨u, h1, h2⟩ := ih r e2
      exact ⟨a :: u, by rw [List.map_cons, e1, h1], h2.cons a⟩
  | swap x y r =>
    intro m e
    match m, e with
    | a :: b :: s, e =>
      injection e with e1 e2
      injection e2 with e2 e3
      exact ⟨b :: a :: s, by rw [List.map_cons, List.map_cons, ← e1, ← e2, e3], List.Perm.swap a b s⟩
  | trans _ _ ih1 ih2 =>
    intro m e
    obtain ⟨u, h1, h2⟩ := ih2 m e
    obtain ⟨v, h3, h4⟩ := ih1 u h1
    exact ⟨v, h3, h4.trans h2⟩
theorem rowsT_split (n : Str) (ins outs : List Str) (ps : List (Str × Str)) (us : List (Port × Port)) : rowsT n ins outs ps us = (headT n ins outs :: ps.map partT) ++ us.map wireT ++ [("end" : Str)] := by
  unfold rowsT
  simp only [List.cons_append, List.append_assoc]
/-! ### a diagram of many parts -/
def letters16 : Str := "abcdefghijklmnop"
def nameL : List Str := signsOf letters16
theorem nameL_nm : ∀ x ∈ nameL, isNm x = true := by decide +kernel
theorem nameL_nd : nameL.Nodup := by decide +kernel
theorem nameL_len : nameL.length = 16 := by decide +kernel
def manyD (names : List Str) (ws : List (Port × Port)) : Dd := ⟨"many", ["x"], ["y"], names.map fun n => (n, "add"), ws⟩
theorem add_blk : BlkOk5 ("add" : Str) := plain_ok (by decide +kernel)
theorem many_vh : VH "many" ["x"] ["y"] := ⟨by decide +kernel, by decide +kernel, by decide +kernel, by decide, by decide⟩
structure WM (names : List Str) (j : Nat) (ws : List (Port × Port)) : Prop where
  ks : ∀ w ∈ ws, w.1.1 ∈ names.take j ∧ (w.1.2 = "b" ∨ w.1.2 = "a")
  sr : ∀ w ∈ ws, w.2 = (Str.empty, ("x" : Str)) ∨ (w.2.1 ∈ names ∧ w.2.2 = ("out" : Str))
  nd : (ws.map (·.1)).Nodup
  len : ws.length ≤ 2 * j
theorem many_vd {names : List Str} (h : ∀ x ∈ names, isNm x = true) (hd : names.Nodup) (hl : names.length ≤ 16) {ws : List (Port × Port)} (W : WM names names.length ws) : VD "many" ["x"] ["y"] (names.map fun n => (n, ("add" : Str))) ws := by
  have e : (names.map fun n => (n, ("add" : Str))).map (·.1) = names := by
    rw [List.map_map]
    exact List.map_id _
  refine ⟨many_vh, by rw [List.length_map]; exact hl, fun p hp => ?_, by rw [e]; exact hd, fun p hp => ?_, W.nd, fun w hw => ⟨?_, ?_⟩, fun p hp => ?_, fun p hp => ?_, by have := W.len; omega⟩
  · obtain ⟨n, hn, rfl⟩ := List.mem_map.mp hp
    exact h n hn
  · obtain ⟨n, hn, rfl⟩ := List.mem_map.mp hp
    exact add_blk
  · rw [e]
    obtain ⟨h1, h2⟩ := W.ks w hw
    rw [List.take_length] at h1
    refine .inr ⟨h1, ?_⟩
    rcases h2 with z | z <;> rw [z] <;> decide +kernel
  · rw [e]
    rcases W.sr w hw with z | ⟨z1, z2⟩
    · rw [z]
      exact .inl ⟨rfl, List.mem_singleton.mpr rfl⟩
    · exact .inr ⟨z1, by rw [z2]; decide +kernel⟩
  · obtain ⟨n, hn, rfl⟩ := List.mem_map.mp hp
    show ("add" : Str).length ≤ 16
    decide +kernel
  · obtain ⟨n, hn, rfl⟩ := List.mem_map.mp hp
    exact asc_of (x := "add") (by decide +kernel)
theorem wd_nm {x : Str} (h : isNm x = true) : Wd 8 x := ⟨(isNm_len h).2, fun c hc => nm_tl h hc⟩
theorem vd_dok {d : Dd} (V : VD d.nm d.ins d.outs d.ps d.ws) (hi : d.ins.length ≤ 3) (ho : d.outs.length ≤ 3) (hb : ∀ p ∈ d.ps, n32 p.2 ≤ 1) (hw : d.ws.length ≤ 60) : DOk d := by
  have hp : ∀ {own : List Str} {t : Port}, (∀ x ∈ own, isNm x = true) → PortIn own (d.ps.map (·.1)) t → Wd 8 t.1 ∧ Wd 8 t.2 := fun {own t} ho h => by
    rcases h with ⟨h1, h2⟩ | ⟨h1, h2⟩
    · exact ⟨by rw [h1]; exact wd_nil, wd_nm (ho _ h2)⟩
    · exact ⟨wd_nm (V.pnm _ h1), wd_nm h2⟩
  refine ⟨wd_nm (dn_nm V.h.n), hi, ho, fun x hx => wd_nm (V.ins x hx), fun x hx => wd_nm (V.outs x hx), V.pl, fun p hp => ⟨wd_nm (V.pn p hp), ⟨V.bl p hp, hb p hp, V.ba p hp⟩⟩, hw, fun w hw2 => ?_⟩
  obtain ⟨k1, k2⟩ := V.wk w hw2
  exact ⟨(hp V.outs k1).1, (hp V.outs k1).2, (hp V.ins k2).1, (hp V.ins k2).2⟩
theorem WiresAt.put {H : Hp} {dw sq : Addr} {wl : List (Port × Port)} {t s : Port} (W : WiresAt H dw wl) (hn : t ∉ wl.map (·.1)) (hs : H sq = some (.tup [.str s.1, .str s.2])) : ∃ kvs, H dw = some (.dT kvs) ∧ kvs.length = wl.length ∧ WiresAt (upd H dw (.dT (putK kvs (keyOf t) (V.ref sq)))) dw (wl ++ [(t, s)]) := by
  obtain ⟨was, hwa, hwd, hwt⟩ := W
  refine ⟨_, hwd, by rw [List.length_map, List.length_zip, hwa, Nat.min_self], ?_⟩
  have hput : putK ((wl.zip was).map fun q => (keyOf q.1.1, V.ref q.2)) (keyOf t) (V.ref sq) = (((wl ++ [(t, s)]).zip (was ++ [sq])).map fun q => (keyOf q.1.1, V.ref q.2)) := by
    unfold putK
    rw [any_wires t wl was hwa, decide_eq_false hn, if_neg Bool.false_ne_true, List.zip_append hwa.symm, List.map_append]
    rfl
  have ndt : ∀ b us, H b = some (.tup us) → b ≠ dw := fun b us e z => by
    rw [z, hwd] at e
    cases e
  refine ⟨was ++ [sq], by rw [List.length_append, List.length_append, hwa]; rfl, by rw [hput]; exact upd_same, fun i w b e1 e2 => ?_⟩
  by_cases hi : i < wl.length
  · rw [List.getElem?_append_left hi] at e1
    rw [List.getElem?_append_left (by rw [hwa]; exact hi)] at e2
    have z := hwt i w b e1 e2
    exact (upd_ne (ndt _ _ z)).trans z
  · rw [List.getElem?_append_right (by omega)] at e1
    rw [List.getElem?_append_right (by rw [hwa]; omega), hwa] at e2
    cases hk2 : i - wl.length with
    | zero =>
      rw [hk2] at e1 e2
      cases e1
      cases e2
      exact (upd_ne (ndt _ _ hs)).trans hs
    | succ m =>
      rw [hk2] at e1
      cases e1
theorem cut_high (xs : List V) (n : Nat) : cutV xs (some (n : Int)) none = xs.drop n := by
  unfold cutV
  rw [HT.sIx_nat, HT.sIx_none]
  rcases Nat.le_total n xs.length with q | q
  · rw [Nat.min_eq_left q, List.take_of_length_le (by rw [List.length_drop]; exact Nat.le_refl _)]
  · rw [Nat.min_eq_right q, List.drop_length, List.drop_of_length_le q, List.take_nil]
def spMany : Sp := fun vs H Q _ => ∃ (a : Addr) (d s : Int), vs = [.ref a] ∧ H a = some (.lst [.int d, .int s]) ∧ 0 ≤ d ∧ ∀ d' s' H', SameX a H H' → H' a = some (.lst [.int d', .int s']) → 0 ≤ d' → Q (.bl true) H'
section
variable {P : Program} {w : World} {K : PySem.W.Frag} {mg : Str → Option Value} {base : Heap} {CR C CI : Addr}
abbrev nMy : List Str := ["feed", "size", "names", "shift", "name", "parts", "wires", "k", "rows", "ordered", "mixed", "diagram"]
theorem scMy : FnScope nMy ["feed"] (defScope sMany) := ⟨rfl, rfl, rfl, by decide +kernel, rfl, by decide +kernel, by decide +kernel⟩
theorem ok_many {f fT fR fO : Addr} {fd fdT fdR fdO : FuncData} (F : Fun K "_law_many_right" "_law_many_right" sMany f fd) (Pa : Par P w K mg base CR C CI)
    (GT : FnOk P w K mg base CX0 1 fT fdT ["feed", "many"] spTakeL) (mT : mg "_law_take" = some (.ref fT)) (kT : PySem.W.keepIn K (.ref fT) = true) (bT : Binds K fdT ["feed", "many"] [])
    (GR : FnOk P w K mg base CX0 2 fR fdR ["diagram"] (spRowsL K)) (mR : mg "_law_rows" = some (.ref fR)) (kR : PySem.W.keepIn K (.ref fR) = true) (bR : Binds K fdR ["diagram"] [])
    (GO : FnOk P w K mg base CX0 2 fO fdO ["feed", "rows", "count"] spOrdL) (mO : mg "_law_order" = some (.ref fO)) (kO : PySem.W.keepIn K (.ref fO) = true) (bO : Binds K fdO ["feed", "rows", "count"] [])
    (zl : mg "len" = none) (ze : mg "enumerate" = none) (zli : mg "list" = none) : FnOk P w K mg base CX0 7 f fd ["feed"] spMany := by
  refine F.ok scMy (fun vs H Q E h => ?_) (fun cdv A outer s H vs Q E hr h => ?_)
  · obtain ⟨a, d, s, rfl, _⟩ := h
    rfl
  obtain ⟨a, d, s0, rfl, ha, hd, kk⟩ := h
  have hr1 := hr.mono (show 1 ≤ 6 by decide)
  have hr2 := hr.mono (show 2 ≤ 6 by decide)
  have hr5 := hr.mono (show 5 ≤ 6 by decide)
  have hu := hr.units
  have hu1 := Nat.lt_of_le_of_lt (Nat.add_le_add_left (show 1 ≤ 64 by decide) _) hr.units
  obtain ⟨mc, pp, gp, cr, cm, G, _, _⟩ := Pa.cm
  obtain ⟨gs, fs, is_, GS⟩ := Pa.st
  refine ⟨_, pss_cons (ps_set (i := 1) scMy.nd rfl (.inl rfl) (pe_op op_add pe_int (pe_call GT hr1 rfl mT kT bT .nil pass0 (pa_cons (pv 0) (pa_cons pe_int pa_nil)))))
    (pss_cons (ps_set (i := 2) scMy.nd rfl (.inl rfl) (pe_slice sl_list (pe_callTy (call_list_text rfl) (by rfl) zli (by decide +kernel) (pa_cons pe_str pa_nil)) po_none (po_some (pv 1))))
    (pss_cons (ps_set (i := 3) scMy.nd rfl (.inl rfl) (pe_call GT hr1 rfl mT kT bT .nil pass0 (pa_cons (pv 0) (pa_cons (pv 1) pa_nil))))
    (pss_cons (ps_set (i := 2) scMy.nd rfl (.inl rfl) (pe_op op_cat (pe_slice sl_list (pv 2) (po_some (pv 3)) po_none) (pe_slice sl_list (pv 2) po_none (po_some (pv 3)))))
    (pss_cons (ps_setLc (i := 5) (own := [("name", 4)]) (g := gName 4) rfl scMy.nd rfl rfl (sw_true rfl rfl rfl (by decide +kernel)) (pi_list (pv 2)) (blkOk_by (own := [("name", 4)]) (N := nMy) (sc := defScope sMany) (by decide +kernel)) (fun _ _ _ _ _ => pg_name (i := 4) scMy.nd rfl (Or.inl rfl)) (fun _ _ _ _ _ => pts_nil)
      (fun _ _ _ _ _ => by exact (pe_tup (pa_cons (pv 4) (pa_cons pe_str pa_nil)))))
    (pss_cons (ps_set (i := 6) scMy.nd rfl (.inl rfl) pe_dnewT)
    (pss_cons (ps_for PassesOwn.never rfl (pi_enum (by rfl) ze (pa_cons (pv 2) pa_nil)) (pg_tup (by rfl) (pgs_cons (pg_name (i := 7) scMy.nd rfl (.inl rfl)) (pgs_cons (pg_name (i := 4) scMy.nd rfl (.inl rfl)) pgs_nil)))
      (pss_cons (ps_dput hu1 (pv 6) (pe_tup (pa_cons (pv 4) (pa_cons pe_str pa_nil))) (pe_tup (pa_cons pe_str (pa_cons pe_str pa_nil))) rfl)
      (pss_one (ps_dput hu1 (pv 6) (pe_tup (pa_cons (pv 4) (pa_cons pe_str pa_nil))) (pe_tup (pa_cons (pe_ix ix_list (pv 2) (pe_op op_sub (pv 7) pe_int) (fun _ _ => rfl)) (pa_cons pe_str pa_nil))) rfl))))
    (pss_cons (ps_asg (pe_call GR hr2 rfl mR kR bR .nil pass0 (pa_cons (pe_tup (pa_cons pe_str (pa_cons (pe_tup (pa_cons pe_str pa_nil)) (pa_cons (pe_tup (pa_cons pe_str pa_nil)) (pa_cons (pe_callTy call_tuple_of (by rfl) Pa.dg.zt (by decide +kernel) (pa_cons (pv 5) pa_nil)) (pa_cons (pv 6) pa_nil)))))) pa_nil)) (pg_tup (by rfl) (pgs_cons (pg_name (i := 8) scMy.nd rfl (.inl rfl)) (pgs_cons (pg_name (i := 9) scMy.nd rfl (.inl rfl)) pgs_nil))))
    (pss_cons (ps_set (i := 10) scMy.nd rfl (.inl rfl) (pe_join pe_str (pe_call GO hr2 rfl mO kO bO .nil pass0 (pa_cons (pv 0) (pa_cons (pv 8) (pa_cons (pe_callB call_len_seq (by rfl) zl PySem.boot_len (pa_cons (pv 9) pa_nil)) pa_nil))))))
    (pss_cons (ps_set (i := 11) scMy.nd rfl (.inl rfl) (pe_cmeth (pe_glob (v := .ref C) rfl Pa.mD rfl) cr cm G hr pass0x (pa_cons (pv 10) pa_nil)))
    (pss_one (ps_ret (pe_and (pe_cmpR op_eq (pe_callTy (call_strO GS hr5 fs is_) (by rfl) Pa.zs (by decide +kernel) (pa_cons (pv 11) pa_nil)) (pe_join pe_str (pv 8)) (nomark _)) (pe_and (pe_cmpR (op_eqD hu) (pe_fld (pv 11) rfl) (pv 9) (nomark _)) (pe_one (pe_cmpR (op_eqD hu) (pe_fld (pv 11) rfl) (pe_callTy call_tuple_of (by rfl) Pa.dg.zt (by decide +kernel) (pa_cons (pv 5) pa_nil)) (nomark _)))))))))))))))), ?_⟩
  have big : ∀ {n : Nat}, n ≤ 100000 → n ≤ sizeLine := fun h => by rw [sizeLine_eq]; omega
  have lt : ∀ {n : Nat}, n ≤ 100000 → n < sizeLine := fun h => by rw [sizeLine_eq]; omega
  refine ⟨_, rfl, a, d, s0, 6, rfl, ha, hd, by decide, by decide, fun r1 d1 s1 hd1 r10 r11 => ⟨_, _, rfl, rfl, ?_⟩⟩
  obtain ⟨n1, rfl⟩ : ∃ n : Nat, r1 = (n : Int) := ⟨r1.toNat, by omega⟩
  have X1 : SameX a H (upd H a (.lst [.int d1, .int s1])) := SameX.put
  have a1 : (upd H a (.lst [.int d1, .int s1])) a = some (.lst [.int d1, .int s1]) := upd_same
  generalize upd H a (.lst [.int d1, .int s1]) = H1 at X1 a1 ⊢
  have e11 : (11 : Int) + (n1 : Int) = ((11 + n1 : Nat) : Int) := by omega
  refine ⟨_, rfl, by decide +kernel, fun l0 hl0 => ⟨_, rfl, _, rfl, l0, _, rfl, .of upd_same, fun l1 hl1 => ?_⟩⟩
  have s2 := (upd_new (o := HO.lst ((signsOf "abcdefghijklmnop").map V.str)) hl0).trans (upd_new (o := HO.lst (cutV ((signsOf "abcdefghijklmnop").map V.str) none (some (11 + (n1 : Int))))) hl1)
  have i2 : upd (upd H1 l0 (.lst ((signsOf "abcdefghijklmnop").map V.str))) l1 (.lst (cutV ((signsOf "abcdefghijklmnop").map V.str) none (some (11 + (n1 : Int))))) l1 = some (.lst ((nameL.take (11 + n1)).map V.str)) := by
    rw [upd_same, e11, cut_low, ← List.map_take]
    rfl
  have X2 := X1.trans (SameX.of s2)
  have a2 := s2 _ _ a1
  generalize upd (upd H1 l0 (.lst ((signsOf "abcdefghijklmnop").map V.str))) l1 (.lst (cutV ((signsOf "abcdefghijklmnop").map V.str) none (some (11 + (n1 : Int))))) = H2 at i2 X2 a2 ⊢
  have hNl : (nameL.take (11 + n1)).length = 11 + n1 := by
    rw [List.length_take, nameL_len]
    omega
  have hNn : (nameL.take (11 + n1)).Nodup := List.Nodup.sublist (List.take_sublist _ _) nameL_nd
  have hNv : ∀ x ∈ nameL.take (11 + n1), isNm x = true := fun x hx => nameL_nm x (List.mem_of_mem_take hx)
  have hNle : 11 + n1 ≤ 16 := by omega
  generalize nameL.take (11 + n1) = N at i2 hNl hNn hNv
  refine ⟨_, rfl, _, rfl, a, d1, s1, _, rfl, a2, hd1, by omega, by omega, fun r2 d3 s3 hd3 r20 r21 => ?_⟩
  obtain ⟨n2, rfl⟩ : ∃ n : Nat, r2 = (n : Int) := ⟨r2.toNat, by omega⟩
  have nl1 : l1 ≠ a := fun e => by
    rw [e, a2] at i2
    have i2 := Option.some.inj i2
    cases N <;> cases i2
  have X3 : SameX a H (upd H2 a (.lst [.int d3, .int s3])) := X2.trans SameX.put
  have a3 : (upd H2 a (.lst [.int d3, .int s3])) a = some (.lst [.int d3, .int s3]) := upd_same
  have i3 := (upd_ne (o := HO.lst [.int d3, .int s3]) (H := H2) nl1).trans i2
  generalize upd H2 a (.lst [.int d3, .int s3]) = H3 at X3 a3 i3 ⊢
  refine ⟨_, rfl, _, rfl, _, rfl, l1, _, rfl, .of i3, fun l2 hl2 => ?_⟩
  rw [cut_high, ← List.map_drop]
  have s4 := upd_new (o := HO.lst ((N.drop n2).map V.str)) hl2
  refine ⟨_, rfl, _, rfl, _, rfl, l1, _, rfl, .of (s4 _ _ i3), fun l3 hl3 => ?_⟩
  rw [cut_low, ← List.map_take]
  have s5 := s4.trans (upd_new (o := HO.lst ((N.take n2).map V.str)) hl3)
  refine ⟨l2, l3, _, _, rfl, rfl, (upd_new hl3) _ _ upd_same, upd_same, by rw [List.length_map, List.length_map, List.length_drop, List.length_take]; exact big (by omega), fun l4 hl4 => ?_⟩
  have s6 := s5.trans (upd_new (o := HO.lst ((N.drop n2).map V.str ++ (N.take n2).map V.str)) hl4)
  have i6 : upd (upd (upd H3 l2 (.lst ((N.drop n2).map V.str))) l3 (.lst ((N.take n2).map V.str))) l4 (.lst ((N.drop n2).map V.str ++ (N.take n2).map V.str)) l4 = some (.lst ((N.drop n2 ++ N.take n2).map V.str)) := by rw [upd_same, List.map_append]
  have X6 := X3.trans (SameX.of s6)
  have a6 := s6 _ _ a3
  generalize upd (upd (upd H3 l2 (.lst ((N.drop n2).map V.str))) l3 (.lst ((N.take n2).map V.str))) l4 (.lst ((N.drop n2).map V.str ++ (N.take n2).map V.str)) = H6 at i6 X6 a6 ⊢
  have hMp : (N.drop n2 ++ N.take n2).Perm N := by
    refine List.perm_append_comm.trans ?_
    rw [List.take_append_drop]
  have hMl := hMp.length_eq
  have hMn := hMp.nodup_iff.mpr hNn
  have hMv : ∀ x ∈ N.drop n2 ++ N.take n2, isNm x = true := fun x hx => hNv x (hMp.mem_iff.mp hx)
  generalize N.drop n2 ++ N.take n2 = M at i6 hMp hMl hMn hMv
  rw [hNl] at hMl
  clear hMp hNv hNn i2 i3 s2 s4 s5 s6
  have nl4 : l4 ≠ a := fun e => by
    rw [e, a6] at i6
    have i6 := Option.some.inj i6
    cases M <;> cases i6
  -- parts
  refine ⟨_, rfl, l4, rfl, ⟨_, .of i6⟩, fun lp hlp => ?_⟩
  refine out_it (walk_list (xs := M.map V.str)) (fun j H' => Same H6 H' ∧ ∃ as : List Addr, H' lp = some (.lst (as.map V.ref)) ∧ PairsAt H' as ((M.take j).map fun n => (n, ("add" : Str))))
    ⟨upd_new hlp, [], upd_same, rfl, fun i a p e _ => by cases e⟩ (fun j H' _ q => .of (q.1 _ _ i6)) ?_ ?_
  · rintro j x H7 H8 hj ⟨s7, as, e7, c7⟩ ⟨rfl, hx⟩
    rw [List.getElem?_map] at hx
    obtain ⟨y, hy, rfl⟩ := Option.map_eq_some_iff.mp hx
    refine ⟨rfl, _, rfl, small1 (by show 2 ≤ 8; decide), fun t ht => ⟨_, (upd_new ht) _ _ e7, lt ?_, same_put (s7.trans (upd_new ht)) hlp, as ++ [t], ?_, ?_⟩⟩
    · rw [List.length_map, c7.1, List.length_map, List.length_take]
      omega
    · rw [upd_same, List.map_append]
      rfl
    · rw [tk1 hy, List.map_append]
      have e8 := (upd_new (o := HO.tup [V.str y, V.str "add"]) ht) _ _ e7
      refine PairsAt.snoc ((c7.same (upd_new ht)).keep fun c us e => (upd_ne fun z => ?_).trans e) ((upd_ne fun z => ?_).trans upd_same)
      · rw [z, e8] at e
        cases e
      · rw [← z, upd_same] at e8
        cases e8
  rintro H7 ⟨s7, as, e7, c7⟩
  rw [List.length_map, List.take_length] at c7
  have X7 := X6.trans (SameX.of s7)
  have a7 := s7 _ _ a6
  have i7 := s7 _ _ i6
  have nlp : lp ≠ a := (ne_of_none a6 hlp).symm
  clear s7 X6 a6 i6
  -- wires
  refine fun dw hdw => ?_
  have s8 := upd_new (o := HO.dT []) hdw
  have d8 : upd H7 dw (.dT []) dw = some (.dT []) := upd_same
  have nad : a ≠ dw := ne_of_none a7 hdw
  have nl4d : l4 ≠ dw := ne_of_none i7 hdw
  have nlpd : lp ≠ dw := ne_of_none e7 hdw
  have hHdw : H dw = none := by
    cases e : H dw with
    | none => rfl
    | some u =>
      rw [X7 _ _ nad.symm e] at hdw
      cases hdw
  have X8 := X7.trans (SameX.of s8)
  have a8 := s8 _ _ a7
  have i8 := s8 _ _ i7
  have e8 := s8 _ _ e7
  have c8 := c7.same s8
  generalize upd H7 dw (.dT []) = H8 at s8 d8 X8 a8 i8 e8 c8 ⊢
  clear X7 a7 i7 e7 c7
  refine ⟨_, rfl, l4, _, rfl, .of i8, ?_⟩
  have size_eq : ((fun i j => V.int (i + j)) 11 (n1 : Int)) = V.int (11 + (n1 : Int)) := rfl
  refine for_it (walk_enum (xs := M.map V.str)) (fun j σ H' => ∃ (u4 u7 : Option V) (wl : List (Port × Port)), σ = [some (.ref a), some (.int (11 + (n1 : Int))), some (.ref l4), some (.int (n2 : Int)), u4, some (.ref lp), some (.ref dw), u7, none, none, none, none] ∧ (∀ b u, b ≠ dw → H8 b = some u → H' b = some u) ∧ WiresAt H' dw wl ∧ WM M j wl)
    ⟨none, none, [], rfl, fun b u _ e => e, ⟨[], rfl, d8, fun i w a e _ => (by cases e)⟩, ⟨fun w hw => (by cases hw), fun w hw => (by cases hw), List.nodup_nil, Nat.zero_le _⟩⟩ (fun j σ H' _ q => ?_) ?turn1 ?done1
  · obtain ⟨_, _, _, _, z, _⟩ := q
    exact .of (z _ _ nl4d i8)
  case turn1 =>
    rintro j x σ H9 H10 hj ⟨u4, u7, wl, rfl, k9, w9, m9⟩ ⟨tp, x1, y1, rfl, htp, rfl, hx1, hy1⟩
    cases hx1
    have hy1 : (M.map V.str)[j]? = some y1 := hy1
    rw [List.getElem?_map] at hy1
    obtain ⟨nm, hnm, rfl⟩ := Option.map_eq_some_iff.mp hy1
    have hj16 : j < 16 := by have := (List.getElem?_eq_some_iff.mp hnm).1; omega
    have hjM : j < M.length := (List.getElem?_eq_some_iff.mp hnm).1
    have s10 := upd_new (o := HO.tup [V.int (j : Nat), V.str nm]) htp
    have g10 : upd H9 tp (.tup [V.int (j : Nat), V.str nm]) tp = some (.tup [V.int (j : Nat), V.str nm]) := upd_same
    have k10 : ∀ b u, b ≠ dw → H8 b = some u → upd H9 tp (.tup [V.int (j : Nat), V.str nm]) b = some u := fun b u n e => s10 _ _ (k9 b u n e)
    have w10 := w9.same s10
    generalize upd H9 tp (.tup [V.int (j : Nat), V.str nm]) = H10 at s10 g10 k10 w10 ⊢
    refine ⟨tp, _, rfl, .of g10, rfl, _, _, rfl, _, _, rfl, rfl, ?_⟩
    -- wires[(name, "b")] = ("", "x")
    refine ⟨small1 (by show 2 ≤ 8; decide), fun v1 hv1 => ⟨_, rfl, _, rfl, small1 (by show 2 ≤ 8; decide), fun q1 hq1 => ?_⟩⟩
    have s11 := (upd_new (o := HO.tup [V.str "", V.str "x"]) hv1).trans (upd_new (o := HO.tup [V.str nm, V.str "b"]) hq1)
    have g11 : upd (upd H10 v1 (.tup [V.str "", V.str "x"])) q1 (.tup [V.str nm, V.str "b"]) v1 = some (.tup [V.str "", V.str "x"]) := (upd_new hq1) _ _ upd_same
    have e11 : upd (upd H10 v1 (.tup [V.str "", V.str "x"])) q1 (.tup [V.str nm, V.str "b"]) q1 = some (.tup [V.str nm, V.str "b"]) := upd_same
    generalize upd (upd H10 v1 (.tup [V.str "", V.str "x"])) q1 (.tup [V.str nm, V.str "b"]) = H11 at s11 g11 e11 ⊢
    have hfresh : nm ∉ M.take j := fun z => by
      have nd2 := List.Nodup.sublist (List.take_sublist (j + 1) M) hMn
      rw [tk1 hnm] at nd2
      exact (List.nodup_append.mp nd2).2.2 _ z _ (List.mem_singleton.mpr rfl) rfl
    have hnb : ((nm, "b") : Port) ∉ wl.map (·.1) := fun z => by
      obtain ⟨w, hw, e⟩ := List.mem_map.mp z
      have := (m9.ks w hw).1
      rw [e] at this
      exact hfresh this
    obtain ⟨kvs, hk1, hk2, w12⟩ := WiresAt.put (t := (nm, "b")) (s := (Str.empty, "x")) (w10.same s11) hnb g11
    refine ⟨dw, _, rfl, DPut.t (k := keyOf (nm, "b")) hk1 e11 (by rw [hk2]; have := m9.len; exact lt (by omega)), ?_⟩
    have k12 : ∀ b u, b ≠ dw → H8 b = some u → upd H11 dw (.dT (putK kvs (keyOf (nm, "b")) (V.ref v1))) b = some u := fun b u n e => (upd_ne n).trans (s11 _ _ (k10 b u n e))
    generalize upd H11 dw (.dT (putK kvs (keyOf (nm, "b")) (V.ref v1))) = H12 at w12 k12 ⊢
    -- wires[(name, "a")] = (names[k - 1], "out")
    obtain ⟨pm, hpm, hpa⟩ : ∃ pm, pm ∈ M ∧ atI (M.map V.str) ((j : Int) - 1) = some (.str pm) := by
      by_cases h0 : j = 0
      · have hl : M.length - 1 < M.length := by omega
        refine ⟨M[M.length - 1], List.getElem_mem hl, ?_⟩
        have e1 : ((j : Int) - 1) = -1 := by omega
        rw [e1]
        have e2 : ixN (M.map V.str).length (-1) = some (M.length - 1) := by
          rw [List.length_map]
          unfold ixN
          have e3 : (-1 + (M.length : Int)) = ((M.length - 1 : Nat) : Int) := by omega
          simp [e3]
          omega
        unfold atI
        rw [e2]
        show (M.map V.str)[M.length - 1]? = _
        rw [List.getElem?_map, List.getElem?_eq_getElem hl]
        rfl
      · have hl : j - 1 < M.length := by omega
        exact ⟨M[j - 1], List.getElem_mem hl, at_of (j := j - 1) (by omega) (by rw [List.getElem?_map, List.getElem?_eq_getElem hl]; rfl)⟩
    refine ⟨_, rfl, _, rfl, _, _, rfl, rfl, l4, _, _, _, rfl, rfl, .of (k12 _ _ nl4d i8), hpa, small1 (by show 2 ≤ 8; decide), fun v2 hv2 => ⟨_, rfl, _, rfl, small1 (by show 2 ≤ 8; decide), fun q2 hq2 => ?_⟩⟩
    have s13 := (upd_new (o := HO.tup [V.str pm, V.str "out"]) hv2).trans (upd_new (o := HO.tup [V.str nm, V.str "a"]) hq2)
    have g13 : upd (upd H12 v2 (.tup [V.str pm, V.str "out"])) q2 (.tup [V.str nm, V.str "a"]) v2 = some (.tup [V.str pm, V.str "out"]) := (upd_new hq2) _ _ upd_same
    have e13 : upd (upd H12 v2 (.tup [V.str pm, V.str "out"])) q2 (.tup [V.str nm, V.str "a"]) q2 = some (.tup [V.str nm, V.str "a"]) := upd_same
    generalize upd (upd H12 v2 (.tup [V.str pm, V.str "out"])) q2 (.tup [V.str nm, V.str "a"]) = H13 at s13 g13 e13 ⊢
    have hna : ((nm, "a") : Port) ∉ (wl ++ [(((nm, "b") : Port), ((Str.empty, "x") : Port))]).map (·.1) := fun z => by
      obtain ⟨w, hw, e⟩ := List.mem_map.mp z
      rcases List.mem_append.mp hw with hw | hw
      · have := (m9.ks w hw).1
        rw [e] at this
        exact hfresh this
      · rw [List.mem_singleton.mp hw] at e
        have e := (Prod.mk.inj e).2
        revert e
        decide +kernel
    obtain ⟨kvs2, hk3, hk4, w14⟩ := WiresAt.put (t := (nm, "a")) (s := (pm, "out")) (w12.same s13) hna g13
    refine ⟨dw, _, rfl, DPut.t (k := keyOf (nm, "a")) hk3 e13 (by rw [hk4, List.length_append]; have := m9.len; exact lt (by show _ + 1 ≤ _; omega)), ?_⟩
    refine ⟨_, _, (wl ++ [(((nm, "b") : Port), ((Str.empty, "x") : Port))]) ++ [(((nm, "a") : Port), ((pm, "out") : Port))], rfl, fun b u n e => (upd_ne n).trans (s13 _ _ (k12 b u n e)), w14, ⟨fun w hw => ?_, fun w hw => ?_, ?_, ?_⟩⟩
    · have hnt : nm ∈ M.take (j + 1) := by
        rw [tk1 hnm]
        exact List.mem_append_right _ (List.mem_singleton.mpr rfl)
      rcases List.mem_append.mp hw with hw | hw
      · rcases List.mem_append.mp hw with hw | hw
        · refine ⟨?_, (m9.ks w hw).2⟩
          rw [tk1 hnm]
          exact List.mem_append_left _ (m9.ks w hw).1
        · rw [List.mem_singleton.mp hw]
          exact ⟨hnt, .inl rfl⟩
      · rw [List.mem_singleton.mp hw]
        exact ⟨hnt, .inr rfl⟩
    · rcases List.mem_append.mp hw with hw | hw
      · rcases List.mem_append.mp hw with hw | hw
        · exact m9.sr w hw
        · rw [List.mem_singleton.mp hw]
          exact .inl rfl
      · rw [List.mem_singleton.mp hw]
        exact .inr ⟨hpm, rfl⟩
    · rw [List.map_append]
      refine List.nodup_append.mpr ⟨?_, by simp, fun x hx y hy e => ?_⟩
      · rw [List.map_append]
        refine List.nodup_append.mpr ⟨m9.nd, by simp, fun x hx y hy e => ?_⟩
        rw [List.map_cons, List.map_nil] at hy
        rw [e, List.mem_singleton.mp hy] at hx
        exact hnb hx
      · rw [List.map_cons, List.map_nil] at hy
        rw [e, List.mem_singleton.mp hy] at hx
        exact hna hx
    · rw [List.length_append, List.length_append]
      have := m9.len
      show _ + 1 + 1 ≤ _
      omega
  rintro σ H9 ⟨u4, u7, wl, rfl, k9, w9, m9⟩
  rw [List.length_map] at m9
  have X9 : SameX a H H9 := fun b u n e => k9 b u (ne_of_none e hHdw) (X8 _ _ n e)
  have a9 := k9 _ _ nad a8
  have e9 := k9 _ _ nlpd e8
  have c9 : PairsAt H9 as (M.map fun n => (n, ("add" : Str))) := c8.keep fun b us e => k9 b _ (fun z => by rw [z, d8] at e; cases e) e
  have V0 := many_vd hMv hMn (by omega) m9
  have DOK : DOk (manyD M wl) := vd_dok (d := manyD M wl) V0 (by show 1 ≤ 3; decide) (by show 1 ≤ 3; decide) (fun p hp => by
    obtain ⟨n, hn, rfl⟩ := List.mem_map.mp hp
    show n32 ("add" : Str) ≤ 1
    decide +kernel) (by have := m9.len; show wl.length ≤ 60; omega)
  have OO : OD (manyD M wl) := od_of V0
  have VW := vd_ord (d := manyD M wl) V0
  -- the rows
  refine ⟨small1 (by show 1 ≤ 8; decide), fun ti hti => ⟨small1 (by show 1 ≤ 8; decide), fun to hto => ⟨_, rfl, lp, _, rfl, .inl ⟨.of ((upd_new hto) _ _ ((upd_new hti) _ _ e9)), fun tp htp => ⟨_, rfl, small1 (by show 5 ≤ 8; decide), fun D hD => ?_⟩⟩⟩⟩⟩
  have s10 := (upd_new (o := HO.tup [V.str "x"]) hti).trans ((upd_new (o := HO.tup [V.str "y"]) hto).trans ((upd_new (o := HO.tup (as.map V.ref)) htp).trans (upd_new (o := HO.tup [V.str "many", .ref ti, .ref to, .ref tp, .ref dw]) hD)))
  have g1 := (upd_new (o := HO.tup [V.str "many", .ref ti, .ref to, .ref tp, .ref dw]) hD) _ _ ((upd_new (o := HO.tup (as.map V.ref)) htp) _ _ ((upd_new (o := HO.tup [V.str "y"]) hto) _ _ (upd_same (H := H9) (a := ti) (o := HO.tup [V.str "x"]))))
  have g2 := (upd_new (o := HO.tup [V.str "many", .ref ti, .ref to, .ref tp, .ref dw]) hD) _ _ ((upd_new (o := HO.tup (as.map V.ref)) htp) _ _ (upd_same (H := upd H9 ti (HO.tup [V.str "x"])) (a := to) (o := HO.tup [V.str "y"])))
  have g3 := (upd_new (o := HO.tup [V.str "many", .ref ti, .ref to, .ref tp, .ref dw]) hD) _ _ (upd_same (H := upd (upd H9 ti (HO.tup [V.str "x"])) to (HO.tup [V.str "y"])) (a := tp) (o := HO.tup (as.map V.ref)))
  have g4 := upd_same (H := upd (upd (upd H9 ti (HO.tup [V.str "x"])) to (HO.tup [V.str "y"])) tp (HO.tup (as.map V.ref))) (a := D) (o := HO.tup [V.str "many", .ref ti, .ref to, .ref tp, .ref dw])
  generalize upd (upd (upd (upd H9 ti (HO.tup [V.str "x"])) to (HO.tup [V.str "y"])) tp (HO.tup (as.map V.ref))) D (HO.tup [V.str "many", .ref ti, .ref to, .ref tp, .ref dw]) = H10 at s10 g1 g2 g3 g4 ⊢
  refine ⟨D, manyD M wl, rfl, ⟨ti, to, tp, dw, as, .of g4, .of g1, .of g2, .of g3, c9.same s10, w9.same s10⟩, DOK, fun t rl ol bs H11 s11 ht hrl hol hWP => ?_⟩
  refine ⟨t, _, rfl, .of ht, rfl, _, _, rfl, _, _, rfl, rfl, ?_⟩
  have s911 := s10.trans s11
  have a11 := s911 _ _ a9
  have hbl : (bs.map V.ref).length = (ordW (manyD M wl)).length := by rw [List.length_map, hWP.1]
  have hspl := rowsT_split "many" ["x"] ["y"] (M.map fun n => (n, ("add" : Str))) (ordW (manyD M wl))
  have hrl2 : H11 rl = some (.lst (((headT "many" ["x"] ["y"] :: (M.map fun n => (n, ("add" : Str))).map partT) ++ (ordW (manyD M wl)).map wireT ++ [("end" : Str)]).map V.str)) := by
    rw [← hspl]
    exact hrl
  have hAsc := asc_rows VW (List.Perm.refl _)
  obtain ⟨hR1, hR2⟩ := rows_le VW (List.Perm.refl _)
  have nrl : a ≠ rl := fun e => by
    rw [← e, a11] at hrl
    have hrl := Option.some.inj hrl
    cases hrl
  have hwA : ∀ x ∈ (ordW (manyD M wl)).map wireT, Asc x := fun x hx => hAsc x (by
    show x ∈ rowsT "many" ["x"] ["y"] (M.map fun n => (n, ("add" : Str))) (ordW (manyD M wl))
    rw [hspl]
    exact List.mem_append_left _ (List.mem_append_right _ hx))
  have hl5 : ((headT "many" ["x"] ["y"] :: (M.map fun n => (n, ("add" : Str))).map partT) ++ (ordW (manyD M wl)).map wireT ++ [("end" : Str)]).length ≤ 500 := by
    rw [← hspl]
    exact Nat.le_trans hR2 (by decide)
  refine ⟨⟨_, rfl⟩, _, rfl, _, rfl, _, rfl, ol, _, rfl, .inr (.of hol), a, rl, d3, s3, _, _, _, _, rfl, a11, hd3, hrl2, nrl, by rw [hbl, List.length_map], hwA, hl5, fun L mx d12 s12 H12 x12 a12 hd12 hL hperm => ?_⟩
  obtain ⟨us, rfl, hus⟩ := perm_map_inv hperm _ rfl
  have hrow : (headT "many" ["x"] ["y"] :: (M.map fun n => (n, ("add" : Str))).map partT) ++ us.map wireT ++ [("end" : Str)] = rowsT "many" ["x"] ["y"] (M.map fun n => (n, ("add" : Str))) us := (rowsT_split _ _ _ _ _).symm
  rw [hrow] at hL
  obtain ⟨hT1, hT2⟩ := text_le VW hus
  obtain ⟨hR3, hR4⟩ := rows_le VW hus
  have l1 : (("\n" : Str)).length = 1 := by decide +kernel
  refine ⟨"\n", L, _, rfl, rfl, .inl (.of hL), by rw [l1]; exact Nat.le_trans (Nat.add_le_add hT2 (Nat.mul_le_mul_right 1 hR4)) (by decide), ?_⟩
  -- parse
  refine ⟨rfl, _, rfl, ?_⟩
  dsimp only [tNil, List.append_nil]
  refine parse_sp (d := manyD M wl) VW OO hus fun y H13 s13 hy hD hsm => ?_
  obtain ⟨dx, yi, yo, pa, wa, as2, bs2, e1, e2, e3, e4, e5, e6, e7⟩ := id hD
  have hrl13 := s13 _ _ (x12 _ _ nrl.symm hrl)
  have hol13 := s13 _ _ (x12 _ _ (fun z => by rw [z, a11] at hol; cases hol) hol)
  have hlp13 := s13 _ _ (x12 _ _ nlp (s911 _ _ e9))
  have htx := text_le VW (List.Perm.refl _)
  have hr0 := rows_le VW (List.Perm.refl _)
  refine ⟨_, rfl, y, dx, _, rfl, e1, y, _, _, _, _, _, rfl, hD, hsm, fun H14 s14 => ⟨_, rfl, ?_⟩⟩
  refine ⟨⟨_, rfl⟩, _, rfl, "\n", rl, _, rfl, rfl, .inl (.of (s14 _ _ hrl13)), by rw [l1]; exact Nat.le_trans (Nat.add_le_add htx.2 (Nat.mul_le_mul_right 1 hr0.2)) (by decide), rfl, _, rfl, ?_⟩
  rw [dS, decide_eq_true rfl]
  have wsh := wires_shape (short_wire VW)
  have psh : SeqAt.shaped (.tuple ((M.map fun n => (n, ("add" : Str))).map dataP)) = true := ports_shape (short_part VW)
  have dW1 : Dp K H14 (.ref wa) (.tuple ((ordW (manyD M wl)).map wireD)) := .tup (.of (s14 _ _ e6)) (dp_wires _ _ (e7.same s14))
  have kt : ∀ b us, H11 b = some (.tup us) → H14 b = some (.tup us) := fun b us e => s14 _ _ (s13 _ _ (x12 _ _ (fun z => by rw [z, a11] at e; cases e) e))
  have dW2 : Dp K H14 (.ref ol) (.tuple ((ordW (manyD M wl)).map wireD)) := .tup (.of (kt _ _ hol)) (dp_wires _ _ (hWP.keep kt))
  refine iteT ⟨_, rfl, y, C, dx, _, _, rfl, s14 _ _ e1, Pa.dg.cl, Pa.dg.nW, rfl, _, rfl, _, _, dW1, dW2, wsh, wsh, _, rfl, ?_⟩
  rw [eqv_shaped wsh]
  have dP1 : Dp K H14 (.ref pa) (.tuple ((M.map fun n => (n, ("add" : Str))).map dataP)) := .tup (.of (s14 _ _ e4)) (dp_ports _ _ (e5.same s14))
  refine iteT ⟨_, rfl, y, C, dx, _, _, rfl, s14 _ _ e1, Pa.dg.cl, Pa.dg.nP, rfl, _, rfl, lp, _, rfl, .inl ⟨.of (s14 _ _ hlp13), fun tq htq => ?_⟩⟩
  have dP2 : Dp K (upd H14 tq (.tup (as.map V.ref))) (.ref tq) (.tuple ((M.map fun n => (n, ("add" : Str))).map dataP)) := .tup (.of upd_same) (dp_ports _ _ (((c9.same s911).keep kt).same (upd_new htq)))
  have dP3 : Dp K (upd H14 tq (.tup (as.map V.ref))) (.ref pa) (.tuple ((M.map fun n => (n, ("add" : Str))).map dataP)) := .tup (.of ((upd_new htq) _ _ (s14 _ _ e4))) (dp_ports _ _ ((e5.same s14).same (upd_new htq)))
  refine ⟨_, _, dP3, dP2, psh, psh, ?_⟩
  rw [eqv_shaped psh]
  exact kk d12 s12 _ (X9.trans ((SameX.of s911).trans (x12.trans (SameX.of (s13.trans (s14.trans (upd_new htq))))))) ((upd_new htq) _ _ (s14 _ _ (s13 _ _ a12))) hd12
end
end K5
namespace K5
open PySem L2 Own StX ClX NdefX PyProof.Rows
abbrev sLaw : Stmt := top 38
/-! ### what is told of a diagram is shown short -/
theorem jn_len : ∀ ts : List Str, (Str.join ", " ts).length ≤ (ts.map fun t => t.length + 2).sum
  | [] => Nat.zero_le _
  | t :: r => by
    have z := join_length_add (t :: r) (by simp)
    have p : piled (t :: r) = ((t :: r).map fun t => t.length + 2).sum := rfl
    omega
theorem tup_len (ts : List Str) : (tupleText ts).length ≤ (ts.map fun t => t.length + 2).sum + 3 := by
  unfold tupleText
  rw [sl, sl]
  have h1 := jn_len ts
  have h2 : (("(" : Str)).length = 1 := by decide +kernel
  have h3 : ((if ts.length == 1 then ",)" else ")" : String) : Str).length ≤ 2 := by
    split <;> decide +kernel
  omega
theorem shownAll_map : ∀ l : List PyData, PyData.shownAll l = l.map PyData.shown
  | [] => by simp [PyData.shownAll]
  | d :: r => by simp [PyData.shownAll, shownAll_map r]
theorem shown_tup {l : List PyData} {c n : Nat} (h : ∀ d ∈ l, d.shown.length ≤ c) (hn : l.length ≤ n) : (PyData.tuple l).shown.length ≤ n * (c + 2) + 3 := by
  have q := tup_len (PyData.shownAll l)
  have e : (PyData.tuple l).shown = tupleText (PyData.shownAll l) := by simp [PyData.shown]
  rw [e]
  rw [shownAll_map] at q ⊢
  have s : ∀ (m : List PyData) (k : Nat), m.length ≤ k → (∀ d ∈ m, d.shown.length ≤ c) → ((m.map PyData.shown).map fun t => t.length + 2).sum ≤ k * (c + 2) := fun m => by
    induction m with
    | nil => exact fun k _ _ => Nat.zero_le _
    | cons d r ih =>
      intro k hk hm
      cases k with
      | zero => cases hk
      | succ k =>
        have i := ih k (Nat.le_of_succ_le_succ hk) fun z hz => hm z (List.mem_cons_of_mem _ hz)
        have g := hm d List.mem_cons_self
        rw [List.map_cons, List.map_cons, List.sum_cons, Nat.succ_mul]
        omega
  have := s l n hn h
  omega
theorem shown_str {x : Str} {n : Nat} (h : x.length ≤ n) (a : Asc x) : (PyData.str x).shown.length ≤ 10 * n + 2 := by
  have e : (PyData.str x).shown = reprText x := by simp [PyData.shown]
  rw [e]
  have := PySem.StrLaws.reprText_len x fun c hc => Nat.lt_of_lt_of_le (a c hc) (by decide)
  omega
theorem showables {l : List PyData} (h : ∀ d ∈ l, d.showable = true) : PyData.showableAll l = true := by
  induction l with
  | nil => simp [PyData.showableAll]
  | cons d r ih => simp [PyData.showableAll, h d List.mem_cons_self, ih fun e he => h e (List.mem_cons_of_mem _ he)]
theorem hasDicts {l : List PyData} (h : ∀ d ∈ l, d.hasDict = false) : PyData.hasDictAll l = false := by
  induction l with
  | nil => simp [PyData.hasDictAll]
  | cons d r ih => simp [PyData.hasDictAll, h d List.mem_cons_self, ih fun e he => h e (List.mem_cons_of_mem _ he)]
structure Sh (n c : Nat) (x : PyData) : Prop where
  s : x.showable = true
  h : x.hasDict = false
  d : x.depth ≤ n
  l : x.shown.length ≤ c
theorem Sh.str {x : Str} {n : Nat} (h : x.length ≤ n) (a : Asc x) : Sh 0 (10 * n + 2) (.str x) := ⟨by simp [PyData.showable], by simp [PyData.hasDict], by simp [PyData.depth], shown_str h a⟩
theorem Sh.tup {l : List PyData} {k c n : Nat} (h : ∀ d ∈ l, Sh k c d) (hn : l.length ≤ n) : Sh (k + 1) (n * (c + 2) + 3) (.tuple l) := by
  refine ⟨?_, ?_, ?_, shown_tup (fun d hd => (h d hd).l) hn⟩
  · simp only [PyData.showable]
    exact showables fun d hd => (h d hd).s
  · simp only [PyData.hasDict]
    exact hasDicts fun d hd => (h d hd).h
  · have := depths fun d hd => (h d hd).d
    simp only [PyData.depth]
    omega
theorem Sh.mono {n m c e : Nat} {d : PyData} (h : Sh n c d) (a : n ≤ m) (b : c ≤ e) : Sh m e d := ⟨h.s, h.h, Nat.le_trans h.d a, Nat.le_trans h.l b⟩
/-- all that is told of a diagram -/
def dgD (d : Dd) : PyData := .tuple [.str d.nm, .tuple (d.ins.map .str), .tuple (d.outs.map .str), .tuple (d.ps.map dataP), .tuple ((ordW d).map wireD)]
theorem sh_names {l : List Str} (h : ∀ x ∈ l, isNm x = true) (hl : l.length ≤ 8) : Sh 1 700 (.tuple (l.map .str)) :=
  (Sh.tup (k := 0) (c := 82) (n := 8) (fun d hd => by
    obtain ⟨x, hx, rfl⟩ := List.mem_map.mp hd
    exact Sh.str (isNm_len (h x hx)).2 (asc_nm (h x hx))) (by rw [List.length_map]; exact hl)).mono (by decide) (by decide)
theorem sh_port {p : Port} (h1 : p.1.length ≤ 16) (a1 : Asc p.1) (h2 : p.2.length ≤ 16) (a2 : Asc p.2) : Sh 1 400 (dataP p) :=
  (Sh.tup (k := 0) (c := 162) (n := 2) (fun d hd => by
    simp only [List.mem_cons, List.not_mem_nil, or_false] at hd
    rcases hd with rfl | rfl
    · exact Sh.str h1 a1
    · exact Sh.str h2 a2) (Nat.le_refl _)).mono (by decide) (by decide)
theorem sh_in {own parts : List Str} (ho : ∀ x ∈ own, isNm x = true) (hp : ∀ x ∈ parts, isNm x = true) {t : Port} (h : PortIn own parts t) : Sh 1 400 (dataP t) := by
  have q := port_le ho hp h
  rcases h with ⟨h1, h2⟩ | ⟨h1, h2⟩
  · exact sh_port (by omega) (by rw [h1]; exact asc_of (by decide +kernel)) (by omega) (asc_nm (ho _ h2))
  · exact sh_port (by omega) (asc_nm (hp _ h1)) (by omega) (asc_nm h2)
theorem sh_dg {d : Dd} (V : VD d.nm d.ins d.outs d.ps (ordW d)) : Sh 60 500000 (dgD d) := by
  have w : Sh 3 90000 (.tuple ((ordW d).map wireD)) := (Sh.tup (k := 2) (c := 807) (n := 100) (fun e he => by
    obtain ⟨v, hv, rfl⟩ := List.mem_map.mp he
    obtain ⟨k1, k2⟩ := V.wk v hv
    exact (Sh.tup (k := 1) (c := 400) (n := 2) (fun e he => by
      simp only [List.mem_cons, List.not_mem_nil, or_false] at he
      rcases he with rfl | rfl
      · exact sh_in V.outs V.pnm k1
      · exact sh_in V.ins V.pnm k2) (Nat.le_refl _)).mono (by decide) (by decide)) (by rw [List.length_map]; exact V.wl)).mono (by decide) (by decide)
  have p : Sh 2 7000 (.tuple (d.ps.map dataP)) := (Sh.tup (k := 1) (c := 400) (n := 16) (fun e he => by
    obtain ⟨q, hq, rfl⟩ := List.mem_map.mp he
    exact sh_port (Nat.le_trans (isNm_len (V.pn q hq)).2 (by decide)) (asc_nm (V.pn q hq)) (V.bl q hq) (V.ba q hq)) (by rw [List.length_map]; exact V.pl)).mono (by decide) (by decide)
  have n : Sh 0 82 (.str d.nm) := Sh.str (isNm_len (dn_nm V.h.n)).2 (asc_nm (dn_nm V.h.n))
  have z : Sh 4 (5 * (90000 + 2) + 3) (dgD d) := Sh.tup (k := 3) (c := 90000) (n := 5) (fun e he => by
    simp only [List.mem_cons, List.not_mem_nil, or_false] at he
    rcases he with rfl | rfl | rfl | rfl | rfl
    · exact n.mono (by decide) (by decide)
    · exact (sh_names V.ins V.h.il).mono (by decide) (by decide)
    · exact (sh_names V.outs V.h.ol).mono (by decide) (by decide)
    · exact p.mono (by decide) (by decide)
    · exact w.mono (by decide) (by decide)) (Nat.le_refl _)
  exact z.mono (by decide) (by decide)
end K5
namespace K5
open PySem L2 Own StX ClX NdefX
def spLaw (K : PySem.W.Frag) : Sp := fun vs H Q _ => ∃ (a : Addr) (ns : List Int), vs = [.ref a] ∧ SqL K H a (ns.map V.int) ∧ ns.length ≤ 63 ∧ ∀ H', Q (.bl true) H'
theorem same_of {p : Addr} {H H1 H2 : Hp} (s : Same H H1) (x : SameX p H1 H2) (h : H p = none) : Same H H2 := fun b u e => x b u (ne_of_none e h) (s b u e)
theorem dp_strT {K : PySem.W.Frag} {H : Hp} {a : Addr} {xs : List Str} (h : SqT K H a (xs.map V.str)) : Dp K H (.ref a) (.tuple (xs.map PyData.str)) := .tup h (dp_strs xs)
theorem eqv2 : PyData.eqv (.list [.int 8, .int 16]) (.list [.int 8, .int 16]) = true := by decide +kernel
theorem sh2 : SeqAt.shaped (.list [.int 8, .int 16]) = true := by decide +kernel
theorem ne_str {a b : Str} (h : a = b) {A B : Prop} (q : B) : if (!decide (V.str a = V.str b)) = true then A else B := by
  rw [decide_eq_true (congrArg V.str h)]
  exact iteF q
section
variable {P : Program} {w : World} {K : PySem.W.Frag} {mg : Str → Option Value} {base : Heap} {CR C CI : Addr}
abbrev nL : List Str := ["script", "k", "feed", "words", "drawn", "rows", "wires", "text", "mixed", "start", "turned", "one", "diagram", "told"]
theorem scL : FnScope nL ["script"] (defScope sLaw) := ⟨rfl, rfl, rfl, by decide +kernel, rfl, by decide +kernel, by decide +kernel⟩
theorem ok_law {f fF fW fD fR fO fM : Addr} {fd fdF fdW fdD fdR fdO fdM : FuncData} (F : Fun K "law" "law" sLaw f fd) (Pa : Par P w K mg base CR C CI)
    (GF : FnOk P w K mg base CX0 1 fF fdF ["script", "k"] (spFeed K)) (mF : mg "_law_feed" = some (.ref fF)) (kF : PySem.W.keepIn K (.ref fF) = true) (bF : Binds K fdF ["script", "k"] [])
    (GW : FnOk P w K mg base CX0 2 fW fdW ["feed", "size"] spWords) (mW : mg "_law_words" = some (.ref fW)) (kW : PySem.W.keepIn K (.ref fW) = true) (bW : Binds K fdW ["feed", "size"] [])
    (GD : FnOk P w K mg base CX0 4 fD fdD ["feed", "words"] (spDgmG K)) (mD : mg "_law_diagram" = some (.ref fD)) (kD : PySem.W.keepIn K (.ref fD) = true) (bD : Binds K fdD ["feed", "words"] [])
    (GR : FnOk P w K mg base CX0 2 fR fdR ["diagram"] (spRowsL K)) (mR : mg "_law_rows" = some (.ref fR)) (kR : PySem.W.keepIn K (.ref fR) = true) (bR : Binds K fdR ["diagram"] [])
    (GO : FnOk P w K mg base CX0 2 fO fdO ["feed", "rows", "count"] spOrdL) (mO : mg "_law_order" = some (.ref fO)) (kO : PySem.W.keepIn K (.ref fO) = true) (bO : Binds K fdO ["feed", "rows", "count"] [])
    (GM : FnOk P w K mg base CX0 7 fM fdM ["feed"] spMany) (mM : mg "_law_many_right" = some (.ref fM)) (kM : PySem.W.keepIn K (.ref fM) = true) (bM : Binds K fdM ["feed"] [])
    (mlen : mg "len" = none) (mmax : mg "max" = none) (mmin : mg "min" = none) (mrange : mg "range" = none) (mrepr : mg "repr" = none) : FnG P w K mg base CX0 8 f fd ["script"] (spLaw K) := by
  refine fun_okG F scL (fun vs H Q E h => ?_) (fun cdv A outer s H vs Q E hg hr h => ?_)
  · obtain ⟨a, ns, rfl, _⟩ := h
    rfl
  obtain ⟨a, ns, rfl, hS, hlen, k⟩ := h
  have hr1 := hr.mono (show 1 ≤ 7 by decide)
  have hr2 := hr.mono (show 2 ≤ 7 by decide)
  have hr4 := hr.mono (show 4 ≤ 7 by decide)
  have hr5 := hr.mono (show 5 ≤ 7 by decide)
  have hr6 := hr.mono (show 6 ≤ 7 by decide)
  have hu := hr.units
  obtain ⟨mc, pp, gp, cr, cm, G, ⟨u8, v8⟩, ⟨u16, v16⟩⟩ := Pa.cm
  obtain ⟨gs, fs, is_, GS⟩ := Pa.st
  obtain ⟨B, mB, kB⟩ := Pa.bl
  obtain ⟨w8, c8⟩ := Pa.c8
  obtain ⟨w16, c16⟩ := Pa.c16
  refine ⟨_, pss_cons (ps_if (pt_not (pt_val (pe_call GM hr rfl mM kM bM .nil pass0 (pa_cons (pe_call GF hr1 rfl mF kF bF .nil pass0 (pa_cons (pv 0) (pa_cons pe_int pa_nil))) pa_nil)))) (pss_one (ps_ret pe_bl)) pss_nil)
    (pss_cons (ps_for PassesOwn.never rfl (pi_range1 rfl mrange (pa_cons (pe_callB (call_max2 rfl) (by rfl) mmax (by decide +kernel) (pa_cons pe_int (pa_cons (pe_callB (call_min2 rfl) (by rfl) mmin (by decide +kernel) (pa_cons pe_int (pa_cons (pe_callB call_len_seq (by rfl) mlen PySem.boot_len (pa_cons (pv 0) pa_nil)) pa_nil))) pa_nil))) pa_nil)) (pg_name (i := 1) scL.nd rfl (.inl rfl))
      (pss_cons (ps_set (i := 2) scL.nd rfl (.inl rfl) (pe_call GF hr1 rfl mF kF bF .nil pass0 (pa_cons (pv 0) (pa_cons (pv 1) pa_nil))))
      (pss_cons (ps_set (i := 3) scL.nd rfl (.inl rfl) (pe_call GW hr2 rfl mW kW bW .nil pass0 (pa_cons (pv 2) (pa_cons pe_int pa_nil))))
      (pss_cons (ps_set (i := 4) scL.nd rfl (.inl rfl) (pe_call GD hr4 rfl mD kD bD .nil pass0 (pa_cons (pv 2) (pa_cons (pv 3) pa_nil))))
      (pss_cons (ps_asg (pe_call GR hr2 rfl mR kR bR .nil pass0 (pa_cons (pv 4) pa_nil)) (pg_tup (by rfl) (pgs_cons (pg_name (i := 5) scL.nd rfl (.inl rfl)) (pgs_cons (pg_name (i := 6) scL.nd rfl (.inl rfl)) pgs_nil))))
      (pss_cons (ps_set (i := 7) scL.nd rfl (.inl rfl) (pe_join pe_str (pv 5)))
      (pss_cons (ps_set (i := 8) scL.nd rfl (.inl rfl) (pe_join pe_str (pe_call GO hr2 rfl mO kO bO .nil pass0 (pa_cons (pv 2) (pa_cons (pv 5) (pa_cons (pe_callB call_len_seq (by rfl) mlen PySem.boot_len (pa_cons (pv 6) pa_nil)) pa_nil))))))
      (pss_cons (ps_set (i := 9) scL.nd rfl (.inl rfl) (pe_op op_sub (pe_op op_sub (pe_callB call_len_seq (by rfl) mlen PySem.boot_len (pa_cons (pv 5) pa_nil)) pe_int) (pe_callB call_len_seq (by rfl) mlen PySem.boot_len (pa_cons (pv 6) pa_nil))))
      (pss_cons (ps_set (i := 10) scL.nd rfl (.inl rfl) (pe_join pe_str (pe_op op_cat (pe_op op_cat (pe_slice sl_list (pv 5) po_none (po_some (pv 9))) (pe_revL (pe_slice sl_list (pv 5) (po_some (pv 9)) (po_some (pe_un un_neg pe_int))))) (pe_slice sl_list (pv 5) (po_some (pe_un un_neg pe_int)) po_none))))
      (pss_one (ps_for PassesOwn.never rfl (pi_list (pe_lst (pa_cons (pv 7) (pa_cons (pv 8) (pa_cons (pv 10) (pa_cons (pv 7) pa_nil)))))) (pg_name (i := 11) scL.nd rfl (.inl rfl))
        (pss_cons (ps_set (i := 12) scL.nd rfl (.inl rfl) (pe_cmeth (pe_glob (v := .ref C) rfl Pa.mD rfl) cr cm G hr6 pass0x (pa_cons (pv 11) pa_nil)))
        (pss_cons (ps_if (PW.pt (pw_or (pt_not (pt_val (pe_callB (id := "isinstance") call_isi (by rfl) Pa.isi (by decide +kernel) (pa_cons (pv 12) (pa_cons (pe_glob (v := .ref C) rfl Pa.mD rfl) pa_nil)))))
              (pw_or (pt_not (pt_val (pe_callB (id := "isinstance") call_isi (by rfl) Pa.isi (by decide +kernel) (pa_cons (pv 12) (pa_cons (pe_glob (v := .ref B) rfl mB rfl) pa_nil)))))
              (pw_or1 (pt_cmpR op_ne (pe_callTy (call_strO GS hr5 fs is_) (by rfl) Pa.zs (by decide +kernel) (pa_cons (pv 12) pa_nil)) (pv 7) (nomark _)))))) (pss_one (ps_ret pe_bl)) pss_nil)
        (pss_cons (ps_set (i := 13) scL.nd rfl (.inl rfl) (pe_tup (pa_cons (pe_fld (pv 12) rfl) (pa_cons (pe_fld (pv 12) rfl) (pa_cons (pe_fld (pv 12) rfl) (pa_cons (pe_fld (pv 12) rfl) (pa_cons (pe_fld (pv 12) rfl) pa_nil)))))))
        (pss_cons (ps_if (pt_cmpR op_ne (pe_callB (call_reprD hg hu) (by rfl) mrepr (by decide +kernel) (pa_cons (pv 13) pa_nil)) (pe_callB (call_reprD hg hu) (by rfl) mrepr (by decide +kernel) (pa_cons (pe_op op_catT (pe_slice sl_tup (pv 4) po_none (po_some pe_int)) (pe_tup (pa_cons (pv 6) pa_nil))) pa_nil)) (nomark _)) (pss_one (ps_ret pe_bl)) pss_nil)
        (pss_one (ps_if (pt_cmpR (op_neD hu) (pe_lst (pa_cons (pe_con (pv 12) rfl) (pa_cons (pe_con (pv 12) rfl) pa_nil))) (pe_lst (pa_cons pe_int (pa_cons pe_int pa_nil))) (nomark _)) (pss_one (ps_ret pe_bl)) pss_nil)))))))))))))))))
    (pss_one (ps_ret (pe_cmpR (op_eqD hu) (pe_lst (pa_cons (pe_cval (pe_glob (v := .ref C) rfl Pa.mD rfl)) (pa_cons (pe_cval (pe_glob (v := .ref C) rfl Pa.mD rfl)) pa_nil))) (pe_lst (pa_cons pe_int (pa_cons pe_int pa_nil))) (nomark _))))), ?_⟩
  have big : ∀ {n : Nat}, n ≤ 100000 → n ≤ sizeLine := fun h => by rw [sizeLine_eq]; omega
  have l1 : (("\n" : Str)).length = 1 := by decide +kernel
  -- a diagram of many parts
  refine ⟨_, rfl, a, ns, 0, rfl, hS, by decide, by decide, fun p0 d0 st0 hd0 hp0 => ?_⟩
  refine ⟨p0, d0, st0, rfl, upd_same, hd0, fun d1 st1 H1 x1 a1 hd1 => ⟨true, rfl, iteF ?_⟩⟩
  have s1 : Same H H1 := same_of (upd_new hp0) x1 hp0
  clear x1 a1 hd1 hd0 hp0
  refine ⟨_, rfl, a, _, rfl, .inl (s1.seq hS), _, _, rfl, _, _, rfl, _, rfl, by split <;> split <;> omega, by split <;> split <;> omega, ?_⟩
  refine for_range (lo := 0) (fun i σ H2 => ∃ v1 v2 v3 v4 v5 v6 v7 v8 v9 v10 v11 v12 v13, σ = [some (.ref a), v1, v2, v3, v4, v5, v6, v7, v8, v9, v10, v11, v12, v13] ∧ Same H H2) ⟨_, _, _, _, _, _, _, _, _, _, _, _, _, rfl, s1⟩ ?turn1 ?done1
  case done1 =>
    rintro σ H2 ⟨x1, x2, x3, x4, x5, x6, x7, x8, x9, x10, x11, x12, x13, rfl, s2⟩
    refine ⟨C, mc, _, u8, rfl, cr, v8, C, mc, _, u16, rfl, cr, v16, small1 (by show 2 ≤ 8; decide), fun q0 hq0 => ⟨small1 (by show 2 ≤ 8; decide), fun q1 hq1 => ?_⟩⟩
    refine ⟨.list [.int 8, .int 16], .list [.int 8, .int 16], .lst (.of ((upd_new hq1) _ _ upd_same)) (.cons (.int _) (.cons (.int _) .nil)), .lst (.of upd_same) (.cons (.int _) (.cons (.int _) .nil)), sh2, sh2, ?_⟩
    rw [eqv2]
    exact k _
  rintro i σ H2 hi ⟨x1, x2, x3, x4, x5, x6, x7, x8, x9, x10, x11, x12, x13, rfl, s2⟩
  have hi5 : i < 5 := by
    have hi := hi
    rw [List.length_map] at hi
    split at hi <;> split at hi <;> omega
  refine ⟨_, rfl, _, rfl, a, ns, _, rfl, s2.seq hS, by omega, by omega, fun p d st hd hp => ?_⟩
  have s3 : Same H (upd H2 p (.lst [.int d, .int st])) := s2.trans (upd_new hp)
  have a3 : upd H2 p (.lst [.int d, .int st]) p = some (.lst [.int d, .int st]) := upd_same
  have hHp : H p = none := s2.free hp
  -- words, diagram, rows
  refine ⟨_, rfl, p, d, st, 14, rfl, a3, hd, by decide, fun L ws d4 st4 H4 x4 a4 hd4 hLn hL hwl hwv hwn => ?_⟩
  have nPL : p ≠ L := ne_of_none a3 hLn
  have x34 := x4
  generalize upd H2 p (.lst [.int d, .int st]) = H3 at s3 a3 x4 x34 hLn ⊢
  refine ⟨_, rfl, _, rfl, p, L, d4, st4, ws, rfl, a4, hd4, hL, nPL, hwl, hwv, hwn, fun D d5 st5 H5 dd x5 a5 hd5 hD hG => ?_⟩
  have s5 : Same H H5 := fun b u e => x5 _ _ (ne_of_none e hHp) (x4 _ _ (ne_of_none e hHp) (s3 _ _ e))
  have VA0 := vd_of hG hwv hwn
  have DOK := dok_of hG (fun x hx => (hwv x hx).1)
  have O := od_of VA0
  have VW := vd_ord VA0
  refine ⟨_, rfl, D, dd, rfl, hD, DOK, fun t rl ol bs H6 s6 ht hrl hol hWP => ?_⟩
  refine ⟨t, _, rfl, .of ht, rfl, _, _, rfl, _, _, rfl, rfl, ?_⟩
  have hD6 : DAt K H6 D dd := by
    obtain ⟨ti, to, tp, dw, as, q1, q2, q3, q4, q5, q6⟩ := hD
    exact ⟨ti, to, tp, dw, as, sqT_same s6 q1, sqT_same s6 q2, sqT_same s6 q3, sqT_same s6 q4, q5.same s6, q6.same s6⟩
  have a6 := s6 _ _ a5
  obtain ⟨hT1, hT2⟩ := text_le VW (List.Perm.refl _)
  obtain ⟨hR1, hR2⟩ := rows_le VW (List.Perm.refl _)
  refine ⟨⟨_, rfl⟩, _, rfl, "\n", rl, _, rfl, rfl, .inl (.of hrl), by rw [l1]; exact Nat.le_trans (Nat.add_le_add hT2 (Nat.mul_le_mul_right 1 hR2)) (by decide), ?_⟩
  have hbl : (bs.map V.ref).length = (ordW dd).length := by rw [List.length_map, hWP.1]
  have hspl := rowsT_split dd.nm dd.ins dd.outs dd.ps (ordW dd)
  have hAsc := asc_rows VW (List.Perm.refl _)
  have nrl : p ≠ rl := fun e => by
    rw [← e, a6] at hrl
    have hrl := Option.some.inj hrl
    cases hrl
  have hrl2 : H6 rl = some (.lst (((headT dd.nm dd.ins dd.outs :: dd.ps.map partT) ++ (ordW dd).map wireT ++ [("end" : Str)]).map V.str)) := by
    rw [← hspl]
    exact hrl
  have hwA : ∀ x ∈ (ordW dd).map wireT, Asc x := fun x hx => hAsc x (by
    rw [hspl]
    exact List.mem_append_left _ (List.mem_append_right _ hx))
  have hl5 : ((headT dd.nm dd.ins dd.outs :: dd.ps.map partT) ++ (ordW dd).map wireT ++ [("end" : Str)]).length ≤ 500 := by
    rw [← hspl]
    exact Nat.le_trans hR2 (by decide)
  refine ⟨⟨_, rfl⟩, _, rfl, _, rfl, _, rfl, ol, _, rfl, .inr (.of hol), p, rl, d5, st5, _, _, _, _, rfl, a6, hd5, hrl2, nrl, by rw [hbl, List.length_map], hwA, hl5, fun M mx d7 st7 H7 x7 a7 hd7 hM hperm => ?_⟩
  obtain ⟨us, rfl, hus⟩ := perm_map_inv hperm _ rfl
  have hrow : ∀ us, (headT dd.nm dd.ins dd.outs :: dd.ps.map partT) ++ us.map wireT ++ [("end" : Str)] = rowsT dd.nm dd.ins dd.outs dd.ps us := fun us => (rowsT_split _ _ _ _ _).symm
  rw [hrow] at hM
  obtain ⟨hT3, hT4⟩ := text_le VW hus
  obtain ⟨hR3, hR4⟩ := rows_le VW hus
  refine ⟨"\n", M, _, rfl, rfl, .inl (.of hM), by rw [l1]; exact Nat.le_trans (Nat.add_le_add hT4 (Nat.mul_le_mul_right 1 hR4)) (by decide), ?_⟩
  have kt : ∀ b us, H6 b = some (.tup us) → H7 b = some (.tup us) := fun b us e => x7 _ _ (fun z => by rw [z, a6] at e; cases e) e
  have hrl7 := x7 _ _ nrl.symm hrl2
  have hol7 := kt _ _ hol
  have hWP7 := hWP.keep kt
  -- start, turned
  refine ⟨_, rfl, rl, _, rfl, .inl (.of hrl7), _, _, rfl, rfl, _, rfl, ol, _, rfl, .inr (.of hol7), _, _, rfl, rfl, ?_⟩
  generalize hpre : headT dd.nm dd.ins dd.outs :: dd.ps.map partT = pre at *
  have est : (((pre ++ (ordW dd).map wireT ++ [("end" : Str)]).map V.str).length : Int) - 1 - ((bs.map V.ref).length : Int) = ((pre.length : Nat) : Int) := by
    rw [hbl, List.length_map, List.length_append, List.length_append, List.length_map]
    show ((pre.length + (ordW dd).length + 1 : Nat) : Int) - 1 - _ = _
    omega
  show gName 9 (V.int ((((pre ++ (ordW dd).map wireT ++ [("end" : Str)]).map V.str).length : Int) - 1 - ((bs.map V.ref).length : Int))) _ _ _
  rw [est]
  refine ⟨⟨_, rfl⟩, _, rfl, _, rfl, _, rfl, rl, _, rfl, .of hrl7, fun q1 hq1 => ?_⟩
  rw [cut_pre]
  have g1 := upd_same (H := H7) (a := q1) (o := HO.lst (pre.map V.str))
  have t8 := upd_new (o := HO.lst (pre.map V.str)) hq1
  generalize upd H7 q1 (.lst (pre.map V.str)) = H8 at t8 g1 ⊢
  refine ⟨_, rfl, _, rfl, _, rfl, 1, rfl, -1, rfl, rl, _, rfl, .of (t8 _ _ hrl7), fun q2 hq2 => ?_⟩
  rw [cut_wires]
  have g2 := upd_same (H := H8) (a := q2) (o := HO.lst (((ordW dd).map wireT).map V.str))
  have t9 := upd_new (o := HO.lst (((ordW dd).map wireT).map V.str)) hq2
  generalize upd H8 q2 (.lst (((ordW dd).map wireT).map V.str)) = H9 at t9 g2 ⊢
  refine ⟨q2, _, rfl, .of g2, fun q3 hq3 => ?_⟩
  have g3 := upd_same (H := H9) (a := q3) (o := HO.lst (((ordW dd).map wireT).map V.str).reverse)
  have t10 := upd_new (o := HO.lst (((ordW dd).map wireT).map V.str).reverse) hq3
  generalize upd H9 q3 (.lst (((ordW dd).map wireT).map V.str).reverse) = H10 at t10 g3 ⊢
  have hl6 : (pre.map V.str).length + ((((ordW dd).map wireT).map V.str).reverse).length ≤ 500 := by
    rw [List.length_append, List.length_append] at hl5
    rw [List.length_reverse, List.length_map, List.length_map]
    omega
  refine ⟨q1, q3, _, _, rfl, rfl, t10 _ _ (t9 _ _ g1), g3, big (by omega), fun q4 hq4 => ?_⟩
  have g4 := upd_same (H := H10) (a := q4) (o := HO.lst (pre.map V.str ++ (((ordW dd).map wireT).map V.str).reverse))
  have t11 := upd_new (o := HO.lst (pre.map V.str ++ (((ordW dd).map wireT).map V.str).reverse)) hq4
  generalize upd H10 q4 (.lst (pre.map V.str ++ (((ordW dd).map wireT).map V.str).reverse)) = H11 at t11 g4 ⊢
  refine ⟨_, rfl, 1, rfl, -1, rfl, rl, _, rfl, .of (t11 _ _ (t10 _ _ (t9 _ _ (t8 _ _ hrl7)))), fun q5 hq5 => ?_⟩
  rw [cut_end]
  have t12 := upd_new (o := HO.lst [V.str "end"]) hq5
  have g5 := upd_same (H := H11) (a := q5) (o := HO.lst [V.str "end"])
  generalize upd H11 q5 (.lst [V.str "end"]) = H12 at t12 g5 ⊢
  refine ⟨q4, q5, _, _, rfl, rfl, t12 _ _ g4, g5, by rw [List.length_append]; exact big (by show _ + 1 ≤ _; omega), fun q6 hq6 => ?_⟩
  have hturn : pre.map V.str ++ (((ordW dd).map wireT).map V.str).reverse ++ [V.str "end"] = (rowsT dd.nm dd.ins dd.outs dd.ps (ordW dd).reverse).map V.str := by
    rw [← hrow, List.map_append, List.map_append, List.map_reverse, List.map_reverse]
    rfl
  rw [hturn]
  have g6 := upd_same (H := H12) (a := q6) (o := HO.lst ((rowsT dd.nm dd.ins dd.outs dd.ps (ordW dd).reverse).map V.str))
  have t13 := upd_new (o := HO.lst ((rowsT dd.nm dd.ins dd.outs dd.ps (ordW dd).reverse).map V.str)) hq6
  generalize upd H12 q6 (.lst ((rowsT dd.nm dd.ins dd.outs dd.ps (ordW dd).reverse).map V.str)) = H13 at t13 g6 ⊢
  have hrv : (ordW dd).reverse.Perm (ordW dd) := List.reverse_perm _
  obtain ⟨hT5, hT6⟩ := text_le VW hrv
  obtain ⟨hR5, hR6⟩ := rows_le VW hrv
  refine ⟨"\n", q6, _, rfl, rfl, .inl (.of g6), by rw [l1]; exact Nat.le_trans (Nat.add_le_add hT6 (Nat.mul_le_mul_right 1 hR6)) (by decide), ?_⟩
  have s713 : Same H7 H13 := t8.trans (t9.trans (t10.trans (t11.trans (t12.trans t13))))
  have s13 : Same H H13 := fun b u e => s713 _ _ (x7 _ _ (ne_of_none e hHp) (s6 _ _ (s5 _ _ e)))
  have nt6 : NoTup H6 p := fun xs => ⟨fun z => by (rw [a6] at z; cases z), fun o z => by (rw [a6] at z; cases z)⟩
  have hD13 : ∃ (ti to tp dw : Addr) (as : List Addr), SqT K H13 D [.str dd.nm, .ref ti, .ref to, .ref tp, .ref dw] ∧ SqT K H13 ti (dd.ins.map V.str) ∧ SqT K H13 to (dd.outs.map V.str) ∧ SqT K H13 tp (as.map V.ref) ∧ PairsAt H13 as dd.ps := by
    obtain ⟨ti, to, tp, dw, as, q1, q2, q3, q4, q5, q6⟩ := hD6
    exact ⟨ti, to, tp, dw, as, sqT_same s713 (sqT_X x7 nt6 q1), sqT_same s713 (sqT_X x7 nt6 q2), sqT_same s713 (sqT_X x7 nt6 q3), sqT_same s713 (sqT_X x7 nt6 q4), (q5.keep kt).same s713⟩
  have hol13 := s713 _ _ hol7
  have hWP13 := hWP7.same s713
  clear hD hD6 hol hol7 hWP hWP7 t8 t9 t10 t11 t12 t13 g1 g2 g3 g4 g5 g6 hrl hrl2 hrl7
  -- the four texts
  refine ⟨_, rfl, _, rfl, _, rfl, _, rfl, small1 (by show 4 ≤ 8; decide), fun q hq => ?_⟩
  have g14 := upd_same (H := H13) (a := q) (o := HO.lst [V.str (Txt.join "\n" (rowsT dd.nm dd.ins dd.outs dd.ps (ordW dd))), V.str (Txt.join "\n" (rowsT dd.nm dd.ins dd.outs dd.ps us)), V.str (Txt.join "\n" (rowsT dd.nm dd.ins dd.outs dd.ps (ordW dd).reverse)), V.str (Txt.join "\n" (rowsT dd.nm dd.ins dd.outs dd.ps (ordW dd)))])
  have t14 := upd_new (o := HO.lst [V.str (Txt.join "\n" (rowsT dd.nm dd.ins dd.outs dd.ps (ordW dd))), V.str (Txt.join "\n" (rowsT dd.nm dd.ins dd.outs dd.ps us)), V.str (Txt.join "\n" (rowsT dd.nm dd.ins dd.outs dd.ps (ordW dd).reverse)), V.str (Txt.join "\n" (rowsT dd.nm dd.ins dd.outs dd.ps (ordW dd)))]) hq
  generalize upd H13 q (HO.lst [V.str (Txt.join "\n" (rowsT dd.nm dd.ins dd.outs dd.ps (ordW dd))), V.str (Txt.join "\n" (rowsT dd.nm dd.ins dd.outs dd.ps us)), V.str (Txt.join "\n" (rowsT dd.nm dd.ins dd.outs dd.ps (ordW dd).reverse)), V.str (Txt.join "\n" (rowsT dd.nm dd.ins dd.outs dd.ps (ordW dd)))]) = H14 at t14 g14 ⊢
  refine ⟨q, rfl, ⟨_, .of g14⟩, for_list (K := K) (a := q) (xs := [V.str (Txt.join "\n" (rowsT dd.nm dd.ins dd.outs dd.ps (ordW dd))), V.str (Txt.join "\n" (rowsT dd.nm dd.ins dd.outs dd.ps us)), V.str (Txt.join "\n" (rowsT dd.nm dd.ins dd.outs dd.ps (ordW dd).reverse)), V.str (Txt.join "\n" (rowsT dd.nm dd.ins dd.outs dd.ps (ordW dd)))])
    (fun m σ H' => ∃ v11 v12 v13, σ = [some (.ref a), some (.int (0 + (i : Int))), some (.ref p), some (.ref L), some (.ref D), some (.ref rl), some (.ref ol), some (.str (Txt.join "\n" (rowsT dd.nm dd.ins dd.outs dd.ps (ordW dd)))), some (.str (Txt.join "\n" (rowsT dd.nm dd.ins dd.outs dd.ps us))), some (.int ((pre.length : Nat) : Int)), some (.str (Txt.join "\n" (rowsT dd.nm dd.ins dd.outs dd.ps (ordW dd).reverse))), v11, v12, v13] ∧ Same H14 H')
    ⟨_, _, _, rfl, Same.refl _⟩ (fun m σ H' _ ⟨_, _, _, _, z⟩ => .of (z _ _ g14)) ?turn2 ?done2⟩
  case done2 =>
    rintro σ H' ⟨w11, w12, w13, rfl, z⟩
    exact ⟨_, _, _, _, _, _, _, _, _, _, _, _, _, rfl, s13.trans (t14.trans z)⟩
  rintro m v σ H15 hv ⟨w11, w12, w13, rfl, s15⟩
  obtain ⟨vs, rfl, hvs⟩ : ∃ vs, v = V.str (Txt.join "\n" (rowsT dd.nm dd.ins dd.outs dd.ps vs)) ∧ vs.Perm (ordW dd) := by
    have hv := List.mem_of_getElem? hv
    simp only [List.mem_cons, List.not_mem_nil, or_false] at hv
    rcases hv with rfl | rfl | rfl | rfl
    · exact ⟨_, rfl, List.Perm.refl _⟩
    · exact ⟨_, rfl, hus⟩
    · exact ⟨_, rfl, hrv⟩
    · exact ⟨_, rfl, List.Perm.refl _⟩
  refine ⟨rfl, _, rfl, ?_⟩
  dsimp only [tNil, List.append_nil]
  refine parse_sp VW O hvs fun y H16 s16 hy hY hsm => ?_
  obtain ⟨dx, yi, yo, pa, wa, as2, bs2, e1, e2, e3, e4, e5, e6, e7⟩ := id hY
  have ty : TyX K H16 (.ref y) (.ref C) := .base (.ins e1 Pa.dg.cl Pa.ha Pa.hn Pa.hk Pa.hm)
  refine ⟨_, rfl, .ref y, .ref C, .ref C, .ref C, true, rfl, .own C, ty, kit_self C, true, rfl, iteF ?_⟩
  refine ⟨_, rfl, .ref y, .ref B, .ref C, .ref B, true, rfl, .own B, ty, kB, true, rfl, iteF ?_⟩
  refine ⟨_, rfl, y, dx, _, rfl, e1, y, _, _, _, _, _, rfl, hY, hsm, fun H17 s17 => ⟨_, rfl, _, rfl, rfl, _, rfl, ne_str rfl ?_⟩⟩
  have f1 := s17 _ _ e1
  -- what is told
  refine ⟨_, rfl, y, C, dx, _, _, rfl, f1, Pa.dg.cl, Pa.dg.nN, rfl, _, rfl, y, C, dx, _, _, rfl, f1, Pa.dg.cl, Pa.dg.nI, rfl, _, rfl, y, C, dx, _, _, rfl, f1, Pa.dg.cl, Pa.dg.nO, rfl, _, rfl, y, C, dx, _, _, rfl, f1, Pa.dg.cl, Pa.dg.nP, rfl, _, rfl, y, C, dx, _, _, rfl, f1, Pa.dg.cl, Pa.dg.nW, rfl, small1 (by show 5 ≤ 8; decide), fun t1 ht1 => ?_⟩
  have g18 := upd_same (H := H17) (a := t1) (o := HO.tup [V.str dd.nm, .ref yi, .ref yo, .ref pa, .ref wa])
  have s18 := upd_new (o := HO.tup [V.str dd.nm, .ref yi, .ref yo, .ref pa, .ref wa]) ht1
  generalize upd H17 t1 (HO.tup [V.str dd.nm, .ref yi, .ref yo, .ref pa, .ref wa]) = H18 at s18 g18 ⊢
  have z18 := s17.trans s18
  have sh := sh_dg VW
  have shl : (dgD dd).shown.length ≤ sizeLine := Nat.le_trans sh.l (by rw [sizeLine_eq]; decide)
  have dp1 : Dp K H18 (.ref t1) (dgD dd) := .tup (.of g18) (.cons (.str _) (.cons (dp_strT (sqT_same z18 e2)) (.cons (dp_strT (sqT_same z18 e3)) (.cons (.tup (.of (z18 _ _ e4)) (dp_ports _ _ (e5.same z18))) (.cons (.tup (.of (z18 _ _ e6)) (dp_wires _ _ (e7.same z18))) .nil)))))
  have z1418 := s15.trans (s16.trans z18)
  have z1318 := t14.trans z1418
  refine ⟨_, rfl, t1, dgD dd, rfl, dp1, sh.s, sh.h, sh.d, shl, ?_⟩
  obtain ⟨ti, to, tp, dw, as, h1, h2, h3, h4, h5⟩ := hD13
  have ecut : cutV [V.str dd.nm, .ref ti, .ref to, .ref tp, .ref dw] none (some 4) = [V.str dd.nm, .ref ti, .ref to, .ref tp] := rfl
  refine ⟨_, rfl, 4, rfl, D, _, rfl, sqT_same z1318 h1, by show ¬ (HT.sIx 5 0 none = 0 ∧ HT.sIx 5 5 (some 4) = 5); decide, fun q1 hq1 => ?_⟩
  rw [ecut]
  have b1 := upd_same (H := H18) (a := q1) (o := HO.tup [V.str dd.nm, .ref ti, .ref to, .ref tp])
  have b2 := upd_new (o := HO.tup [V.str dd.nm, .ref ti, .ref to, .ref tp]) hq1
  generalize upd H18 q1 (HO.tup [V.str dd.nm, .ref ti, .ref to, .ref tp]) = H19 at b1 b2 ⊢
  refine ⟨_, rfl, small1 (by show 1 ≤ 8; decide), fun q2 hq2 => ?_⟩
  have b3 := upd_same (H := H19) (a := q2) (o := HO.tup [V.ref ol])
  have b4 := upd_new (o := HO.tup [V.ref ol]) hq2
  have b5 := b4 _ _ b1
  generalize upd H19 q2 (HO.tup [V.ref ol]) = H20 at b3 b4 b5 ⊢
  refine ⟨q1, q2, [V.str dd.nm, .ref ti, .ref to, .ref tp], [.ref ol], rfl, rfl, .of b5, .of b3, (fun z => by cases z), big (by show 4 + 1 ≤ _; decide), (fun z => by cases z), fun _ q3 hq3 => ?_⟩
  have b6 : upd H20 q3 (HO.tup ([V.str dd.nm, .ref ti, .ref to, .ref tp] ++ [V.ref ol])) q3 = some (.tup [V.str dd.nm, .ref ti, .ref to, .ref tp, .ref ol]) := upd_same
  have b7 := upd_new (o := HO.tup ([V.str dd.nm, .ref ti, .ref to, .ref tp] ++ [V.ref ol])) hq3
  generalize upd H20 q3 (HO.tup ([V.str dd.nm, .ref ti, .ref to, .ref tp] ++ [V.ref ol])) = H21 at b6 b7 ⊢
  have z3 := b2.trans (b4.trans b7)
  have z4 := z1318.trans z3
  have dp2 : Dp K H21 (.ref q3) (dgD dd) := .tup (.of b6) (.cons (.str _) (.cons (dp_strT (sqT_same z4 h2)) (.cons (dp_strT (sqT_same z4 h3)) (.cons (.tup (sqT_same z4 h4) (dp_ports _ _ (h5.same z4))) (.cons (.tup (.of (z4 _ _ hol13)) (dp_wires _ _ (hWP13.same z4))) .nil)))))
  have f4 := z3 _ _ (s18 _ _ f1)
  have zz := z1418.trans z3
  have shs := sh.s
  have shh := sh.h
  have shd := sh.d
  generalize dgD dd = dq at dp2 shs shh shd shl ⊢
  refine ⟨q3, dq, rfl, dp2, shs, shh, shd, shl, rfl, _, rfl, ne_str rfl ?_⟩
  refine ⟨_, rfl, y, C, dx, _, _, w8, rfl, f4, Pa.dg.cl, c8, rfl, _, rfl, y, C, dx, _, _, w16, rfl, f4, Pa.dg.cl, c16, rfl, small1 (by show 2 ≤ 8; decide), fun q4 hq4 => ⟨small1 (by show 2 ≤ 8; decide), fun q5 hq5 => ?_⟩⟩
  refine ⟨.list [.int 8, .int 16], .list [.int 8, .int 16], .lst (.of ((upd_new hq5) _ _ upd_same)) (.cons (.int _) (.cons (.int _) .nil)), .lst (.of upd_same) (.cons (.int _) (.cons (.int _) .nil)), sh2, sh2, _, rfl, ?_⟩
  rw [eqv2]
  exact iteF ⟨_, _, _, rfl, zz.trans ((upd_new hq4).trans (upd_new hq5))⟩
end
end K5
namespace K5
open PySem L2 Own StX ClX NdefX
theorem all_mk {w : World} {K : PySem.W.Frag} {h : Heap} {mg : Str → Option Value} {fa C B : Addr} (X : K.In h) (G : h.Ns mainGlobals mg) (hfa : mg "law" = some (.ref fa))
    {CR CI : Addr} {fNA : Addr} {odNA anNA : Option Addr} {slNA : Array (Option Value)} {ocNA kVNA dcNA pmNA cdNA ctNA : Value} {fDN : Addr} {odDN anDN : Option Addr} {slDN : Array (Option Value)} {ocDN kVDN dcDN pmDN cdDN ctDN : Value} {fRV : Addr} {odRV anRV : Option Addr} {slRV : Array (Option Value)} {ocRV kVRV dcRV pmRV cdRV ctRV : Value} {fRP : Addr} {odRP anRP : Option Addr} {slRP : Array (Option Value)} {ocRP kVRP dcRP pmRP cdRP ctRP : Value} {fIP : Addr} {odIP anIP : Option Addr} {slIP : Array (Option Value)} {ocIP kVIP dcIP pmIP cdIP ctIP : Value} {fHR : Addr} {odHR anHR : Option Addr} {slHR : Array (Option Value)} {ocHR kVHR dcHR pmHR cdHR ctHR : Value} {fPT : Addr} {odPT anPT : Option Addr} {slPT : Array (Option Value)} {ocPT kVPT dcPT pmPT cdPT ctPT : Value} {fRW : Addr} {odRW anRW : Option Addr} {slRW : Array (Option Value)} {ocRW kVRW dcRW pmRW cdRW ctRW : Value} {fRH : Addr} {odRH anRH : Option Addr} {slRH : Array (Option Value)} {ocRH kVRH dcRH pmRH cdRH ctRH : Value} {fOT : Addr} {odOT anOT : Option Addr} {slOT : Array (Option Value)} {ocOT kVOT dcOT pmOT cdOT ctOT : Value} {fRI : Addr} {odRI anRI : Option Addr} {slRI : Array (Option Value)} {ocRI kVRI dcRI pmRI cdRI ctRI : Value} {fTA : Addr} {odTA anTA : Option Addr} {slTA : Array (Option Value)} {ocTA kVTA dcTA pmTA cdTA ctTA : Value} {fTH : Addr} {odTH anTH : Option Addr} {slTH : Array (Option Value)} {ocTH kVTH dcTH pmTH cdTH ctTH : Value} {fTP : Addr} {odTP anTP : Option Addr} {slTP : Array (Option Value)} {ocTP kVTP dcTP pmTP cdTP ctTP : Value} {fTW : Addr} {odTW anTW : Option Addr} {slTW : Array (Option Value)} {ocTW kVTW dcTW pmTW cdTW ctTW : Value} {fPO : Addr} {odPO anPO : Option Addr} {slPO : Array (Option Value)} {ocPO kVPO dcPO pmPO cdPO ctPO : Value} {fBI : Addr} {odBI anBI : Option Addr} {slBI : Array (Option Value)} {ocBI kVBI dcBI pmBI cdBI ctBI : Value} {fPA : Addr} {odPA anPA : Option Addr} {slPA : Array (Option Value)} {ocPA kVPA dcPA pmPA cdPA ctPA : Value} {pPA : Addr} {restPA : List Value} {fOF : Addr} {odOF anOF : Option Addr} {slOF : Array (Option Value)} {ocOF kVOF dcOF pmOF cdOF ctOF : Value} {pOF : Addr} {restOF : List Value} {fST : Addr} {odST anST : Option Addr} {slST : Array (Option Value)} {ocST kVST dcST pmST cdST ctST : Value} {fDI cc cda : Addr} {odPI anPI cldPI cddPI : Option Addr} {slPI cslPI ccsPI : Array (Option Value)} {ocPI dcPI pmPI ctPI clPI cclPI : Value} {vsPI : Array Value} {tfPI : Tok} {cdD : ClassData} {tv8 tv16 : Tok} {tkM tkD tkW tkL tkE : Tok} {dP dW dE : Addr} {esP : Array DictEntry} {nP nW nE : Nat} {ddW ddE : Option Addr} {slW slE : Array (Option Value)} {tW1 tW2 tE1 tE2 tE3 tE4 : Tok} {kk1 : Tok} {kk2 : Tok} {kk3 : Tok} {kk4 : Tok} {kk5 : Tok} {kk6 : Tok} {kk7 : Tok} {kk8 : Tok} {kk9 : Tok} {t1 : Addr} {t2 : Addr} {t3 : Addr} {t4 : Addr} {t5 : Addr} {t6 : Addr} {t7 : Addr} {t8 : Addr} {t9 : Addr} {BE NE : Addr} {nmE qE : Str} {bsE subE : List Value} {snE : List Str} {abE : Bool} {colE : Option Bool} {ddEE : Option Addr} {k0E k1E k2E k3E k5E : Option Value} {cdB : ClassData} {tc8 tc16 : Tok} {fER : Addr} {odER anER : Option Addr} {slER : Array (Option Value)} {ocER kVER dcER pmER cdER ctER : Value} {fFE : Addr} {odFE anFE : Option Addr} {slFE : Array (Option Value)} {ocFE kVFE dcFE pmFE cdFE ctFE : Value} {fTK : Addr} {odTK anTK : Option Addr} {slTK : Array (Option Value)} {ocTK kVTK dcTK pmTK cdTK ctTK : Value} {fPK : Addr} {odPK anPK : Option Addr} {slPK : Array (Option Value)} {ocPK kVPK dcPK pmPK cdPK ctPK : Value} {fWO : Addr} {odWO anWO : Option Addr} {slWO : Array (Option Value)} {ocWO kVWO dcWO pmWO cdWO ctWO : Value} {fBK : Addr} {odBK anBK : Option Addr} {slBK : Array (Option Value)} {ocBK kVBK dcBK pmBK cdBK ctBK : Value} {fDG : Addr} {odDG anDG : Option Addr} {slDG : Array (Option Value)} {ocDG kVDG dcDG pmDG cdDG ctDG : Value} {fLP : Addr} {odLP anLP : Option Addr} {slLP : Array (Option Value)} {ocLP kVLP dcLP pmLP cdLP ctLP : Value} {fLW : Addr} {odLW anLW : Option Addr} {slLW : Array (Option Value)} {ocLW kVLW dcLW pmLW cdLW ctLW : Value} {fOL : Addr} {odOL anOL : Option Addr} {slOL : Array (Option Value)} {ocOL kVOL dcOL pmOL cdOL ctOL : Value} {fMY : Addr} {odMY anMY : Option Addr} {slMY : Array (Option Value)} {ocMY kVMY dcMY pmMY cdMY ctMY : Value} {fLA : Addr} {odLA anLA : Option Addr} {slLA : Array (Option Value)} {ocLA kVLA dcLA pmLA cdLA ctLA : Value}
    (aC : PySem.W.nsIn K mainGlobals "Diagram" = some (some (.ref C)))
    (aB : PySem.W.nsIn K mainGlobals "Block" = some (some (.ref B)))
    (aCR : PySem.W.nsIn K mainGlobals "DiagramReader" = some (some (.ref CR)))
    (aCI : PySem.W.nsIn K mainGlobals "InvalidText" = some (some (.ref CI)))
    (aNA : PySem.W.nsIn K mainGlobals "is_name" = some (some (.ref fNA)))
    (lNA : K.lookup fNA = some ⟨ocNA, odNA, .func (PySem.W.fnOf "is_name" "is_name" (defArgs sName) (defBody sName) (defScope sName) .none kVNA dcNA pmNA anNA cdNA ctNA), slNA⟩)
    (cNA : PySem.W.codeIn K cdNA "is_name" = true)
    (kNA : PySem.W.keepIn K (.ref fNA) = true)
    (aDN : PySem.W.nsIn K mainGlobals "is_diagram_name" = some (some (.ref fDN)))
    (lDN : K.lookup fDN = some ⟨ocDN, odDN, .func (PySem.W.fnOf "is_diagram_name" "is_diagram_name" (defArgs sDN) (defBody sDN) (defScope sDN) .none kVDN dcDN pmDN anDN cdDN ctDN), slDN⟩)
    (cDN : PySem.W.codeIn K cdDN "is_diagram_name" = true)
    (kDN : PySem.W.keepIn K (.ref fDN) = true)
    (aRV : PySem.W.nsIn K mainGlobals "read_value" = some (some (.ref fRV)))
    (lRV : K.lookup fRV = some ⟨ocRV, odRV, .func (PySem.W.fnOf "read_value" "read_value" (defArgs sRV) (defBody sRV) (defScope sRV) .none kVRV dcRV pmRV anRV cdRV ctRV), slRV⟩)
    (cRV : PySem.W.codeIn K cdRV "read_value" = true)
    (kRV : PySem.W.keepIn K (.ref fRV) = true)
    (aRP : PySem.W.nsIn K mainGlobals "read_primitive" = some (some (.ref fRP)))
    (lRP : K.lookup fRP = some ⟨ocRP, odRP, .func (PySem.W.fnOf "read_primitive" "read_primitive" (defArgs sRP) (defBody sRP) (defScope sRP) .none kVRP dcRP pmRP anRP cdRP ctRP), slRP⟩)
    (cRP : PySem.W.codeIn K cdRP "read_primitive" = true)
    (kRP : PySem.W.keepIn K (.ref fRP) = true)
    (aIP : PySem.W.nsIn K mainGlobals "is_primitive" = some (some (.ref fIP)))
    (lIP : K.lookup fIP = some ⟨ocIP, odIP, .func (PySem.W.fnOf "is_primitive" "is_primitive" (defArgs sIP) (defBody sIP) (defScope sIP) .none kVIP dcIP pmIP anIP cdIP ctIP), slIP⟩)
    (cIP : PySem.W.codeIn K cdIP "is_primitive" = true)
    (kIP : PySem.W.keepIn K (.ref fIP) = true)
    (aHR : PySem.W.nsIn K mainGlobals "head_row" = some (some (.ref fHR)))
    (lHR : K.lookup fHR = some ⟨ocHR, odHR, .func (PySem.W.fnOf "head_row" "head_row" (defArgs sHead) (defBody sHead) (defScope sHead) .none kVHR dcHR pmHR anHR cdHR ctHR), slHR⟩)
    (cHR : PySem.W.codeIn K cdHR "head_row" = true)
    (kHR : PySem.W.keepIn K (.ref fHR) = true)
    (aPT : PySem.W.nsIn K mainGlobals "port_text" = some (some (.ref fPT)))
    (lPT : K.lookup fPT = some ⟨ocPT, odPT, .func (PySem.W.fnOf "port_text" "port_text" (defArgs sPort) (defBody sPort) (defScope sPort) .none kVPT dcPT pmPT anPT cdPT ctPT), slPT⟩)
    (cPT : PySem.W.codeIn K cdPT "port_text" = true)
    (kPT : PySem.W.keepIn K (.ref fPT) = true)
    (aRW : PySem.W.nsIn K mainGlobals "diagram_rows" = some (some (.ref fRW)))
    (lRW : K.lookup fRW = some ⟨ocRW, odRW, .func (PySem.W.fnOf "diagram_rows" "diagram_rows" (defArgs sRows) (defBody sRows) (defScope sRows) .none kVRW dcRW pmRW anRW cdRW ctRW), slRW⟩)
    (cRW : PySem.W.codeIn K cdRW "diagram_rows" = true)
    (kRW : PySem.W.keepIn K (.ref fRW) = true)
    (aRH : PySem.W.nsIn K mainGlobals "read_head" = some (some (.ref fRH)))
    (lRH : K.lookup fRH = some ⟨ocRH, odRH, .func (PySem.W.fnOf "read_head" "read_head" (defArgs sReadHead) (defBody sReadHead) (defScope sReadHead) .none kVRH dcRH pmRH anRH cdRH ctRH), slRH⟩)
    (cRH : PySem.W.codeIn K cdRH "read_head" = true)
    (kRH : PySem.W.keepIn K (.ref fRH) = true)
    (aOT : PySem.W.nsIn K mainGlobals "order_targets" = some (some (.ref fOT)))
    (lOT : K.lookup fOT = some ⟨ocOT, odOT, .func (PySem.W.fnOf "order_targets" "order_targets" (defArgs sOrder) (defBody sOrder) (defScope sOrder) .none kVOT dcOT pmOT anOT cdOT ctOT), slOT⟩)
    (cOT : PySem.W.codeIn K cdOT "order_targets" = true)
    (kOT : PySem.W.keepIn K (.ref fOT) = true)
    (aRI : PySem.W.findIn K (.ref CR) "__init__" = some (some (.ref fRI)))
    (iRI : PySem.W.isFn K (.ref fRI) = true)
    (lRI : K.lookup fRI = some ⟨ocRI, odRI, .func (PySem.W.fnOf "__init__" "DiagramReader.__init__" (defArgs sRI) (defBody sRI) (defScope sRI) .none kVRI dcRI pmRI anRI cdRI ctRI), slRI⟩)
    (cRI : PySem.W.codeIn K cdRI "DiagramReader.__init__" = true)
    (kRI : PySem.W.keepIn K (.ref fRI) = true)
    (aTA : PySem.W.findIn K (.ref CR) "take" = some (some (.ref fTA)))
    (iTA : PySem.W.isFn K (.ref fTA) = true)
    (lTA : K.lookup fTA = some ⟨ocTA, odTA, .func (PySem.W.fnOf "take" "DiagramReader.take" (defArgs sTake) (defBody sTake) (defScope sTake) .none kVTA dcTA pmTA anTA cdTA ctTA), slTA⟩)
    (cTA : PySem.W.codeIn K cdTA "DiagramReader.take" = true)
    (kTA : PySem.W.keepIn K (.ref fTA) = true)
    (aTH : PySem.W.findIn K (.ref CR) "_take_head" = some (some (.ref fTH)))
    (iTH : PySem.W.isFn K (.ref fTH) = true)
    (lTH : K.lookup fTH = some ⟨ocTH, odTH, .func (PySem.W.fnOf "_take_head" "DiagramReader._take_head" (defArgs sTakeHead) (defBody sTakeHead) (defScope sTakeHead) .none kVTH dcTH pmTH anTH cdTH ctTH), slTH⟩)
    (cTH : PySem.W.codeIn K cdTH "DiagramReader._take_head" = true)
    (kTH : PySem.W.keepIn K (.ref fTH) = true)
    (aTP : PySem.W.findIn K (.ref CR) "_take_part" = some (some (.ref fTP)))
    (iTP : PySem.W.isFn K (.ref fTP) = true)
    (lTP : K.lookup fTP = some ⟨ocTP, odTP, .func (PySem.W.fnOf "_take_part" "DiagramReader._take_part" (defArgs sTakePart) (defBody sTakePart) (defScope sTakePart) .none kVTP dcTP pmTP anTP cdTP ctTP), slTP⟩)
    (cTP : PySem.W.codeIn K cdTP "DiagramReader._take_part" = true)
    (kTP : PySem.W.keepIn K (.ref fTP) = true)
    (aTW : PySem.W.findIn K (.ref CR) "_take_wire" = some (some (.ref fTW)))
    (iTW : PySem.W.isFn K (.ref fTW) = true)
    (lTW : K.lookup fTW = some ⟨ocTW, odTW, .func (PySem.W.fnOf "_take_wire" "DiagramReader._take_wire" (defArgs sTakeWire) (defBody sTakeWire) (defScope sTakeWire) .none kVTW dcTW pmTW anTW cdTW ctTW), slTW⟩)
    (cTW : PySem.W.codeIn K cdTW "DiagramReader._take_wire" = true)
    (kTW : PySem.W.keepIn K (.ref fTW) = true)
    (aPO : PySem.W.findIn K (.ref CR) "_read_port" = some (some (.ref fPO)))
    (iPO : PySem.W.isFn K (.ref fPO) = true)
    (lPO : K.lookup fPO = some ⟨ocPO, odPO, .func (PySem.W.fnOf "_read_port" "DiagramReader._read_port" (defArgs sReadPort) (defBody sReadPort) (defScope sReadPort) .none kVPO dcPO pmPO anPO cdPO ctPO), slPO⟩)
    (cPO : PySem.W.codeIn K cdPO "DiagramReader._read_port" = true)
    (kPO : PySem.W.keepIn K (.ref fPO) = true)
    (aBI : PySem.W.findIn K (.ref B) "__init__" = some (some (.ref fBI)))
    (iBI : PySem.W.isFn K (.ref fBI) = true)
    (lBI : K.lookup fBI = some ⟨ocBI, odBI, .func (PySem.W.fnOf "__init__" "Block.__init__" (defArgs sBI) (defBody sBI) (defScope sBI) .none kVBI dcBI pmBI anBI cdBI ctBI), slBI⟩)
    (cBI : PySem.W.codeIn K cdBI "Block.__init__" = true)
    (kBI : PySem.W.keepIn K (.ref fBI) = true)
    (aPA : PySem.W.findCls K (.ref C) (.type "type") "parse" = some (.get (.builtin "classmethod.__get__") (.ref pPA) .none (.ref C)))
    (rPA : PySem.W.recIn K pPA "classmethod" = some (.ref fPA :: restPA))
    (iPA : PySem.W.fnIn K fPA = true)
    (lPA : K.lookup fPA = some ⟨ocPA, odPA, .func (PySem.W.fnOf "parse" "Diagram.parse" (defArgs sParse) (defBody sParse) (defScope sParse) .none kVPA dcPA pmPA anPA cdPA ctPA), slPA⟩)
    (cPA : PySem.W.codeIn K cdPA "Diagram.parse" = true)
    (kPA : PySem.W.keepIn K (.ref fPA) = true)
    (aOF : PySem.W.findCls K (.ref C) (.type "type") "of_reader" = some (.get (.builtin "classmethod.__get__") (.ref pOF) .none (.ref C)))
    (rOF : PySem.W.recIn K pOF "classmethod" = some (.ref fOF :: restOF))
    (iOF : PySem.W.fnIn K fOF = true)
    (lOF : K.lookup fOF = some ⟨ocOF, odOF, .func (PySem.W.fnOf "of_reader" "Diagram.of_reader" (defArgs sOfR) (defBody sOfR) (defScope sOfR) .none kVOF dcOF pmOF anOF cdOF ctOF), slOF⟩)
    (cOF : PySem.W.codeIn K cdOF "Diagram.of_reader" = true)
    (kOF : PySem.W.keepIn K (.ref fOF) = true)
    (aST : PySem.W.findIn K (.ref C) "__str__" = some (some (.ref fST)))
    (iST : PySem.W.isFn K (.ref fST) = true)
    (lST : K.lookup fST = some ⟨ocST, odST, .func (PySem.W.fnOf "__str__" "Diagram.__str__" (defArgs sStr) (defBody sStr) (defScope sStr) .none kVST dcST pmST anST cdST ctST), slST⟩)
    (cST : PySem.W.codeIn K cdST "Diagram.__str__" = true)
    (kST : PySem.W.keepIn K (.ref fST) = true)
    (aPI : PySem.W.findIn K (.ref C) "__init__" = some (some (.ref fDI)))
    (iPI : PySem.W.isFn K (.ref fDI) = true)
    (lPI : K.lookup fDI = some ⟨ocPI, odPI, .func (PySem.W.fnX "__init__" "Diagram.__init__" (defArgs sDI) (defBody sDI) (defScope sDI) [(("__class__" : Str), cc)] .none .none dcPI pmPI anPI (.ref cda) ctPI), slPI⟩)
    (cPI : PySem.W.codeIn K (.ref cda) "Diagram.__init__" = true)
    (lcd : K.lookup cda = some ⟨cclPI, cddPI, .fields vsPI, ccsPI⟩)
    (vcd : vsPI[2]? = some (.str PySem.Challenge.pw_stepblocks_k05_diagrams_read_and_written.main.file tfPI))
    (lcc : K.lookup cc = some ⟨clPI, cldPI, .cell (some (.ref C)), cslPI⟩)
    (tpa : PySem.W.nsIn K PySem.cStatics "thirdparty.any" = some none)
    (sbs : PySem.W.mroIn K C (.ref C) = some true)
    (sat : PySem.W.ks_superIn K C C "__init__" = some (some (.ref fBI)))
    (sty : PySem.W.typeIn K (.ref fBI) = some (.type "function"))
    (sdc : PySem.W.clsIn K C = some cdD)
    (sfi : PySem.W.fnIn K fBI = true)
    (pg : PySem.W.plainGet K C Str.empty = true)
    (hd : PySem.W.hasDictIn K C = true)
    (po : PySem.W.plainOver K C = true)
    (sa : PySem.W.findIn K (.ref C) "__setattr__" = some (some (.builtin "object.__setattr__")))
    (mk : PySem.W.makesIn K C = true)
    (kc : PySem.W.keepIn K (.ref C) = true)
    (pgR : PySem.W.plainGet K CR Str.empty = true)
    (hdR : PySem.W.hasDictIn K CR = true)
    (poR : PySem.W.plainOver K CR = true)
    (saR : PySem.W.findIn K (.ref CR) "__setattr__" = some (some (.builtin "object.__setattr__")))
    (mkR : PySem.W.makesIn K CR = true)
    (kcR : PySem.W.keepIn K (.ref CR) = true)
    (rdC : PySem.W.readsIn K C (.type "type") = true)
    (gaC : PySem.W.specialIn K (.ref C) "__getattribute__" = some (some (.builtin "type.__getattribute__")))
    (v8 : PySem.W.findCls K (.ref C) (.type "type") "MAX_PORTS" = some (.val (.int 8 tv8)))
    (v16 : PySem.W.findCls K (.ref C) (.type "type") "MAX_PARTS" = some (.val (.int 16 tv16)))
    (gnN : PySem.W.findIn K (.ref C) "name" = some none)
    (gnI : PySem.W.findIn K (.ref C) "inputs" = some none)
    (gnO : PySem.W.findIn K (.ref C) "outputs" = some none)
    (gnP : PySem.W.findIn K (.ref C) "parts" = some none)
    (gnW : PySem.W.findIn K (.ref C) "wires" = some none)
    (rN : PySem.W.findIn K (.ref CR) "name" = some none)
    (rI : PySem.W.findIn K (.ref CR) "inputs" = some none)
    (rO : PySem.W.findIn K (.ref CR) "outputs" = some none)
    (rP : PySem.W.findIn K (.ref CR) "parts" = some none)
    (rW : PySem.W.findIn K (.ref CR) "wires" = some none)
    (rD : PySem.W.findIn K (.ref CR) "is_done" = some none)
    (rA : PySem.W.findIn K (.ref CR) "_max_ports" = some none)
    (rB : PySem.W.findIn K (.ref CR) "_max_parts" = some none)
    (aMo : PySem.W.nsIn K mainGlobals "MODULUS" = some (some (.int 4294967296 tkM)))
    (aMd : PySem.W.nsIn K mainGlobals "MOST_DIGITS" = some (some (.int 10 tkD)))
    (aDg : PySem.W.nsIn K mainGlobals "DIGITS" = some (some (.str "0123456789" tkW)))
    (aLe : PySem.W.nsIn K mainGlobals "LETTERS" = some (some (.str "abcdefghijklmnopqrstuvwxyz" tkL)))
    (aMl : PySem.W.nsIn K mainGlobals "MOST_LETTERS" = some (some (.int 8 tkE)))
    (aP : PySem.W.nsIn K mainGlobals "PRIMITIVE_PORTS" = some (some (.ref dP)))
    (lP : K.lookup dP = some ⟨.type "dict", none, .dict esP nP, #[]⟩)
    (qP : PySem.W.KeysLit w.params esP.toList)
    (oP : (dP == sysModules) = false)
    (kP : esP.toList.map (·.key) = [.str "const" kk1, .str "add" kk2, .str "sub" kk3, .str "mul" kk4, .str "less" kk5, .str "equal" kk6, .str "pick" kk7, .str "divide" kk8, .str "delay" kk9])
    (aW : PySem.W.nsIn K mainGlobals "WORDS_WITH_VALUE" = some (some (.ref dW)))
    (lW : K.lookup dW = some ⟨.type "tuple", ddW, .seq #[.str "const" tW1, .str "delay" tW2] nW, slW⟩)
    (aE : PySem.W.nsIn K mainGlobals "RESERVED_WORDS" = some (some (.ref dE)))
    (lE : K.lookup dE = some ⟨.type "tuple", ddE, .seq #[.str "block" tE1, .str "part" tE2, .str "end" tE3, .str "self" tE4] nE, slE⟩)
    (u1 : PySem.W.nsIn K dP "const" = some (some (.ref t1)))
    (u2 : PySem.W.nsIn K dP "add" = some (some (.ref t2)))
    (u3 : PySem.W.nsIn K dP "sub" = some (some (.ref t3)))
    (u4 : PySem.W.nsIn K dP "mul" = some (some (.ref t4)))
    (u5 : PySem.W.nsIn K dP "less" = some (some (.ref t5)))
    (u6 : PySem.W.nsIn K dP "equal" = some (some (.ref t6)))
    (u7 : PySem.W.nsIn K dP "pick" = some (some (.ref t7)))
    (u8 : PySem.W.nsIn K dP "divide" = some (some (.ref t8)))
    (u9 : PySem.W.nsIn K dP "delay" = some (some (.ref t9)))
    (zsuper : PySem.W.nsIn K mainGlobals "super" = some none)
    (zlen : PySem.W.nsIn K mainGlobals "len" = some none)
    (zall : PySem.W.nsIn K mainGlobals "all" = some none)
    (zint : PySem.W.nsIn K mainGlobals "int" = some none)
    (zstr : PySem.W.nsIn K mainGlobals "str" = some none)
    (ztuple : PySem.W.nsIn K mainGlobals "tuple" = some none)
    (zisinstance : PySem.W.nsIn K mainGlobals "isinstance" = some none)
    (zset : PySem.W.nsIn K mainGlobals "set" = some none)
    (zsorted : PySem.W.nsIn K mainGlobals "sorted" = some none)
    (zenumerate : PySem.W.nsIn K mainGlobals "enumerate" = some none)
    (zmax : PySem.W.nsIn K mainGlobals "max" = some none)
    (zmin : PySem.W.nsIn K mainGlobals "min" = some none)
    (zabs : PySem.W.nsIn K mainGlobals "abs" = some none)
    (zrange : PySem.W.nsIn K mainGlobals "range" = some none)
    (zrepr : PySem.W.nsIn K mainGlobals "repr" = some none)
    (zlist : PySem.W.nsIn K mainGlobals "list" = some none)
    (aBE : PySem.W.nsIn K mainGlobals "BlockError" = some (some (.ref BE)))
    (xE : K.lookup CI = some (excClassObj nmE qE CI NE bsE [.ref BE, .type "ValueError", .type "Exception", .type "BaseException", .type "object"] true snE subE abE colE ddEE k0E k1E k2E k3E k5E "ValueError.__new__"))
    (eSa : PySem.W.findIn K (.ref CI) "__setattr__" = some (some (.builtin "object.__setattr__")))
    (eGa : PySem.W.findIn K (.ref CI) "__getattribute__" = some (some (.builtin "BaseException.__getattribute__")))
    (eGg : PySem.W.findIn K (.ref CI) "__getattr__" = some none)
    (eRow : PySem.W.findIn K (.ref CI) "row" = some none)
    (eEx : PySem.W.subIn K (.ref CI) (.type "BaseException") = some true)
    (eTy : PySem.W.typeIn K (.ref CI) = some (.type "type"))
    (eK : PySem.W.keepIn K (.ref CI) = true)
    (eHd : PySem.W.hasDictIn K CI = true)
    (eSelf : PySem.W.subIn K (.ref CI) (.ref CI) = some true)
    (ohn : PySem.W.specialIn K (.builtin "object.__class__") "__get__" = some (some (.builtin "getset_descriptor.__get__")))
    (ohk : PySem.W.takesIn K (.builtin "object.__class__") = some true)
    (bcl : PySem.W.clsIn K B = some cdB)
    (bty : PySem.W.typeIn K (.ref B) = some (.type "type"))
    (bsu : PySem.W.subIn K (.ref C) (.ref B) = some true)
    (bne : ¬ (C = B))
    (fi8 : PySem.W.findIn K (.ref C) "MAX_PORTS" = some (some (.int 8 tc8)))
    (fi16 : PySem.W.findIn K (.ref C) "MAX_PARTS" = some (some (.int 16 tc16)))
    (fg8 : PySem.W.specialIn K (.int 8 tc8) "__get__" = some none)
    (fg16 : PySem.W.specialIn K (.int 16 tc16) "__get__" = some none)
    (oha : PySem.W.findIn K (.ref C) "__class__" = some (some (.builtin "object.__class__")))
    (ohm : PySem.W.mroIn K C (.type "object") = some true)
    (aER : PySem.W.findIn K (.ref CI) "__init__" = some (some (.ref fER)))
    (iER : PySem.W.isFn K (.ref fER) = true)
    (lER : K.lookup fER = some ⟨ocER, odER, .func (PySem.W.fnOf "__init__" "InvalidText.__init__" (defArgs sErr) (defBody sErr) (defScope sErr) .none kVER dcER pmER anER cdER ctER), slER⟩)
    (cER : PySem.W.codeIn K cdER "InvalidText.__init__" = true)
    (kER : PySem.W.keepIn K (.ref fER) = true)
    (tER : PySem.W.typeIn K (.ref fER) = some (.type "function"))
    (aFE : PySem.W.nsIn K mainGlobals "_law_feed" = some (some (.ref fFE)))
    (lFE : K.lookup fFE = some ⟨ocFE, odFE, .func (PySem.W.fnOf "_law_feed" "_law_feed" (defArgs sFeed) (defBody sFeed) (defScope sFeed) .none kVFE dcFE pmFE anFE cdFE ctFE), slFE⟩)
    (cFE : PySem.W.codeIn K cdFE "_law_feed" = true)
    (kFE : PySem.W.keepIn K (.ref fFE) = true)
    (aTK : PySem.W.nsIn K mainGlobals "_law_take" = some (some (.ref fTK)))
    (lTK : K.lookup fTK = some ⟨ocTK, odTK, .func (PySem.W.fnOf "_law_take" "_law_take" (defArgs sTakeL) (defBody sTakeL) (defScope sTakeL) .none kVTK dcTK pmTK anTK cdTK ctTK), slTK⟩)
    (cTK : PySem.W.codeIn K cdTK "_law_take" = true)
    (kTK : PySem.W.keepIn K (.ref fTK) = true)
    (aPK : PySem.W.nsIn K mainGlobals "_law_pick" = some (some (.ref fPK)))
    (lPK : K.lookup fPK = some ⟨ocPK, odPK, .func (PySem.W.fnOf "_law_pick" "_law_pick" (defArgs sPickL) (defBody sPickL) (defScope sPickL) .none kVPK dcPK pmPK anPK cdPK ctPK), slPK⟩)
    (cPK : PySem.W.codeIn K cdPK "_law_pick" = true)
    (kPK : PySem.W.keepIn K (.ref fPK) = true)
    (aWO : PySem.W.nsIn K mainGlobals "_law_words" = some (some (.ref fWO)))
    (lWO : K.lookup fWO = some ⟨ocWO, odWO, .func (PySem.W.fnOf "_law_words" "_law_words" (defArgs sWords) (defBody sWords) (defScope sWords) .none kVWO dcWO pmWO anWO cdWO ctWO), slWO⟩)
    (cWO : PySem.W.codeIn K cdWO "_law_words" = true)
    (kWO : PySem.W.keepIn K (.ref fWO) = true)
    (aBK : PySem.W.nsIn K mainGlobals "_law_block" = some (some (.ref fBK)))
    (lBK : K.lookup fBK = some ⟨ocBK, odBK, .func (PySem.W.fnOf "_law_block" "_law_block" (defArgs sBlock) (defBody sBlock) (defScope sBlock) .none kVBK dcBK pmBK anBK cdBK ctBK), slBK⟩)
    (cBK : PySem.W.codeIn K cdBK "_law_block" = true)
    (kBK : PySem.W.keepIn K (.ref fBK) = true)
    (aDG : PySem.W.nsIn K mainGlobals "_law_diagram" = some (some (.ref fDG)))
    (lDG : K.lookup fDG = some ⟨ocDG, odDG, .func (PySem.W.fnOf "_law_diagram" "_law_diagram" (defArgs sDgm) (defBody sDgm) (defScope sDgm) .none kVDG dcDG pmDG anDG cdDG ctDG), slDG⟩)
    (cDG : PySem.W.codeIn K cdDG "_law_diagram" = true)
    (kDG : PySem.W.keepIn K (.ref fDG) = true)
    (aLP : PySem.W.nsIn K mainGlobals "_law_port" = some (some (.ref fLP)))
    (lLP : K.lookup fLP = some ⟨ocLP, odLP, .func (PySem.W.fnOf "_law_port" "_law_port" (defArgs sPortL) (defBody sPortL) (defScope sPortL) .none kVLP dcLP pmLP anLP cdLP ctLP), slLP⟩)
    (cLP : PySem.W.codeIn K cdLP "_law_port" = true)
    (kLP : PySem.W.keepIn K (.ref fLP) = true)
    (aLW : PySem.W.nsIn K mainGlobals "_law_rows" = some (some (.ref fLW)))
    (lLW : K.lookup fLW = some ⟨ocLW, odLW, .func (PySem.W.fnOf "_law_rows" "_law_rows" (defArgs sRowsL) (defBody sRowsL) (defScope sRowsL) .none kVLW dcLW pmLW anLW cdLW ctLW), slLW⟩)
    (cLW : PySem.W.codeIn K cdLW "_law_rows" = true)
    (kLW : PySem.W.keepIn K (.ref fLW) = true)
    (aOL : PySem.W.nsIn K mainGlobals "_law_order" = some (some (.ref fOL)))
    (lOL : K.lookup fOL = some ⟨ocOL, odOL, .func (PySem.W.fnOf "_law_order" "_law_order" (defArgs sOrdL) (defBody sOrdL) (defScope sOrdL) .none kVOL dcOL pmOL anOL cdOL ctOL), slOL⟩)
    (cOL : PySem.W.codeIn K cdOL "_law_order" = true)
    (kOL : PySem.W.keepIn K (.ref fOL) = true)
    (aMY : PySem.W.nsIn K mainGlobals "_law_many_right" = some (some (.ref fMY)))
    (lMY : K.lookup fMY = some ⟨ocMY, odMY, .func (PySem.W.fnOf "_law_many_right" "_law_many_right" (defArgs sMany) (defBody sMany) (defScope sMany) .none kVMY dcMY pmMY anMY cdMY ctMY), slMY⟩)
    (cMY : PySem.W.codeIn K cdMY "_law_many_right" = true)
    (kMY : PySem.W.keepIn K (.ref fMY) = true)
    (aLA : PySem.W.nsIn K mainGlobals "law" = some (some (.ref fLA)))
    (lLA : K.lookup fLA = some ⟨ocLA, odLA, .func (PySem.W.fnOf "law" "law" (defArgs sLaw) (defBody sLaw) (defScope sLaw) .none kVLA dcLA pmLA anLA cdLA ctLA), slLA⟩)
    (cLA : PySem.W.codeIn K cdLA "law" = true)
    (kLA : PySem.W.keepIn K (.ref fLA) = true) :
    ∃ fd : FuncData, (∀ (s : Shared) (v : Value), BindsTo s fd ⟨[v], []⟩ [("script", v)]) ∧ ∀ base : Heap, K.In base → base.Ns mainGlobals mg → FnG PySem.Challenge.pw_stepblocks_k05_diagrams_read_and_written w K mg base CX0 8 fa fd ["script"] (spLaw K) := by
  have e := hfa.symm.trans (PySem.W.mg_of X G aLA)
  cases e
  have D : KDict K w dP esP nP := ⟨lP, qP, oP⟩
  have keysP : ∀ e ∈ esP.toList, ∃ x t, e.key = .str x t ∧ x ∈ words9 := fun e he => by
    have z : e.key ∈ esP.toList.map (·.key) := List.mem_map_of_mem he
    rw [kP] at z
    simp only [List.mem_cons, List.not_mem_nil, or_false] at z
    rcases z with z | z | z | z | z | z | z | z | z <;> exact ⟨_, _, z, by decide +kernel⟩
  have T : Txt K w mg := by
    refine ⟨⟨dP, esP, nP, PySem.W.mg_of X G aP, D, fun z hz => ?_, fun z hz => miss_of lP keysP hz⟩,
      ⟨dW, PySem.W.mg_of X G aW, fun H => .inr ⟨_, _, _, lW, rfl, rfl, (by decide +kernel : 2 ≤ sizeLine), .cons ⟨_, rfl⟩ (.cons ⟨_, rfl⟩ .nil)⟩⟩, ⟨_, PySem.W.mg_of X G aDg⟩, ⟨_, PySem.W.mg_of X G aMd⟩, ⟨_, PySem.W.mg_of X G aMo⟩, ⟨_, PySem.W.mg_of X G aLe⟩, ⟨_, PySem.W.mg_of X G aMl⟩,
      ⟨dE, PySem.W.mg_of X G aE, fun H => .inr ⟨_, _, _, lE, rfl, rfl, (by decide +kernel : 4 ≤ sizeLine), .cons ⟨_, rfl⟩ (.cons ⟨_, rfl⟩ (.cons ⟨_, rfl⟩ (.cons ⟨_, rfl⟩ .nil)))⟩⟩,
      PySem.W.mg_none_of X G zisinstance, PySem.W.mg_none_of X G zlen, PySem.W.mg_none_of X G zall, PySem.W.mg_none_of X G zint, PySem.W.mg_none_of X G zstr, PySem.W.mg_none_of X G ztuple⟩
    simp only [words9, List.mem_cons, List.not_mem_nil, or_false] at hz
    rcases hz with rfl | rfl | rfl | rfl | rfl | rfl | rfl | rfl | rfl
    · exact ⟨_, u1⟩
    · exact ⟨_, u2⟩
    · exact ⟨_, u3⟩
    · exact ⟨_, u4⟩
    · exact ⟨_, u5⟩
    · exact ⟨_, u6⟩
    · exact ⟨_, u7⟩
    · exact ⟨_, u8⟩
    · exact ⟨_, u9⟩
  have FNA := fun_mk (st := sName) lNA cNA kNA
  have bNA := FNA.binds (ps := ["value"]) fun _ _ _ _ _ _ us hl => match us, hl with | [_], _ => rfl
  have FDN := fun_mk (st := sDN) lDN cDN kDN
  have bDN := FDN.binds (ps := ["text"]) fun _ _ _ _ _ _ us hl => match us, hl with | [_], _ => rfl
  have FRV := fun_mk (st := sRV) lRV cRV kRV
  have bRV := FRV.binds (ps := ["text"]) fun _ _ _ _ _ _ us hl => match us, hl with | [_], _ => rfl
  have FRP := fun_mk (st := sRP) lRP cRP kRP
  have bRP := FRP.binds (ps := ["text"]) fun _ _ _ _ _ _ us hl => match us, hl with | [_], _ => rfl
  have FIP := fun_mk (st := sIP) lIP cIP kIP
  have bIP := FIP.binds (ps := ["text"]) fun _ _ _ _ _ _ us hl => match us, hl with | [_], _ => rfl
  have FHR := fun_mk (st := sHead) lHR cHR kHR
  have bHR := FHR.binds (ps := ["name", "inputs", "outputs"]) fun _ _ _ _ _ _ us hl => match us, hl with | [_, _, _], _ => rfl
  have FPT := fun_mk (st := sPort) lPT cPT kPT
  have bPT := FPT.binds (ps := ["port"]) fun _ _ _ _ _ _ us hl => match us, hl with | [_], _ => rfl
  have FRW := fun_mk (st := sRows) lRW cRW kRW
  have bRW := FRW.binds (ps := ["name", "inputs", "outputs", "parts", "wires"]) fun _ _ _ _ _ _ us hl => match us, hl with | [_, _, _, _, _], _ => rfl
  have FRH := fun_mk (st := sReadHead) lRH cRH kRH
  have bRH := FRH.binds (ps := ["row"]) fun _ _ _ _ _ _ us hl => match us, hl with | [_], _ => rfl
  have FOT := fun_mk (st := sOrder) lOT cOT kOT
  have bOT := FOT.binds (ps := ["parts", "outputs", "targets"]) fun _ _ _ _ _ _ us hl => match us, hl with | [_, _, _], _ => rfl
  have FRI := fun_mk (st := sRI) lRI cRI kRI
  have bRI := FRI.binds (ps := ["self", "max_ports", "max_parts"]) fun _ _ _ _ _ _ us hl => match us, hl with | [_, _, _], _ => rfl
  have FTA := fun_mk (st := sTake) lTA cTA kTA
  have bTA := FTA.binds (ps := ["self", "row"]) fun _ _ _ _ _ _ us hl => match us, hl with | [_, _], _ => rfl
  have FTH := fun_mk (st := sTakeHead) lTH cTH kTH
  have bTH := FTH.binds (ps := ["self", "row"]) fun _ _ _ _ _ _ us hl => match us, hl with | [_, _], _ => rfl
  have FTP := fun_mk (st := sTakePart) lTP cTP kTP
  have bTP := FTP.binds (ps := ["self", "row"]) fun _ _ _ _ _ _ us hl => match us, hl with | [_, _], _ => rfl
  have FTW := fun_mk (st := sTakeWire) lTW cTW kTW
  have bTW := FTW.binds (ps := ["self", "row"]) fun _ _ _ _ _ _ us hl => match us, hl with | [_, _], _ => rfl
  have FPO := fun_mk (st := sReadPort) lPO cPO kPO
  have bPO := FPO.binds (ps := ["self", "text", "own_names"]) fun _ _ _ _ _ _ us hl => match us, hl with | [_, _, _], _ => rfl
  have FBI := fun_mk (st := sBI) lBI cBI kBI
  have bBI := FBI.binds (ps := ["self", "name", "inputs", "outputs"]) fun _ _ _ _ _ _ us hl => match us, hl with | [_, _, _, _], _ => rfl
  have FPA := fun_mk (st := sParse) lPA cPA kPA
  have bPA := FPA.binds (ps := ["cls", "text"]) fun _ _ _ _ _ _ us hl => match us, hl with | [_, _], _ => rfl
  have FOF := fun_mk (st := sOfR) lOF cOF kOF
  have bOF := FOF.binds (ps := ["cls", "reader"]) fun _ _ _ _ _ _ us hl => match us, hl with | [_, _], _ => rfl
  have FST := fun_mk (st := sStr) lST cST kST
  have bST := FST.binds (ps := ["self"]) fun _ _ _ _ _ _ us hl => match us, hl with | [_], _ => rfl
  have FER := fun_mk (st := sErr) lER cER kER
  have bER := FER.binds (ps := ["self", "row"]) fun _ _ _ _ _ _ us hl => match us, hl with | [_, _], _ => rfl
  have FFE := fun_mk (st := sFeed) lFE cFE kFE
  have bFE := FFE.binds (ps := ["script", "k"]) fun _ _ _ _ _ _ us hl => match us, hl with | [_, _], _ => rfl
  have FTK := fun_mk (st := sTakeL) lTK cTK kTK
  have bTK := FTK.binds (ps := ["feed", "many"]) fun _ _ _ _ _ _ us hl => match us, hl with | [_, _], _ => rfl
  have FPK := fun_mk (st := sPickL) lPK cPK kPK
  have bPK := FPK.binds (ps := ["feed", "some"]) fun _ _ _ _ _ _ us hl => match us, hl with | [_, _], _ => rfl
  have FWO := fun_mk (st := sWords) lWO cWO kWO
  have bWO := FWO.binds (ps := ["feed", "size"]) fun _ _ _ _ _ _ us hl => match us, hl with | [_, _], _ => rfl
  have FBK := fun_mk (st := sBlock) lBK cBK kBK
  have bBK := FBK.binds (ps := ["feed", "words"]) fun _ _ _ _ _ _ us hl => match us, hl with | [_, _], _ => rfl
  have FDG := fun_mk (st := sDgm) lDG cDG kDG
  have bDG := FDG.binds (ps := ["feed", "words"]) fun _ _ _ _ _ _ us hl => match us, hl with | [_, _], _ => rfl
  have FLP := fun_mk (st := sPortL) lLP cLP kLP
  have bLP := FLP.binds (ps := ["port"]) fun _ _ _ _ _ _ us hl => match us, hl with | [_], _ => rfl
  have FLW := fun_mk (st := sRowsL) lLW cLW kLW
  have bLW := FLW.binds (ps := ["diagram"]) fun _ _ _ _ _ _ us hl => match us, hl with | [_], _ => rfl
  have FOL := fun_mk (st := sOrdL) lOL cOL kOL
  have bOL := FOL.binds (ps := ["feed", "rows", "count"]) fun _ _ _ _ _ _ us hl => match us, hl with | [_, _, _], _ => rfl
  have FMY := fun_mk (st := sMany) lMY cMY kMY
  have bMY := FMY.binds (ps := ["feed"]) fun _ _ _ _ _ _ us hl => match us, hl with | [_], _ => rfl
  have FLA := fun_mk (st := sLaw) lLA cLA kLA
  have bLA := FLA.binds (ps := ["script"]) fun _ _ _ _ _ _ us hl => match us, hl with | [_], _ => rfl
  refine ⟨PySem.W.fnOf "law" "law" (defArgs sLaw) (defBody sLaw) (defScope sLaw) .none kVLA dcLA pmLA anLA cdLA ctLA, fun s v => .of_eq rfl, fun base _ _ => ?_⟩
  have GNA : FnOk PySem.Challenge.pw_stepblocks_k05_diagrams_read_and_written w K mg base CX0 1 fNA _ ["value"] spName := ok_name FNA T
  have GDN : FnOk PySem.Challenge.pw_stepblocks_k05_diagrams_read_and_written w K mg base CX0 2 fDN _ ["text"] spDN := ok_dn FDN T GNA (PySem.W.mg_of X G aNA) kNA bNA
  have GRV : FnOk PySem.Challenge.pw_stepblocks_k05_diagrams_read_and_written w K mg base CX0 1 fRV _ ["text"] spRV := ok_rv FRV T
  have GRP : FnOk PySem.Challenge.pw_stepblocks_k05_diagrams_read_and_written w K mg base CX0 2 fRP _ ["text"] spRP := ok_rp FRP T GRV (PySem.W.mg_of X G aRV) kRV bRV
  have GIP : FnOk PySem.Challenge.pw_stepblocks_k05_diagrams_read_and_written w K mg base CX0 3 fIP _ ["text"] spIP := ok_ip FIP GRP (PySem.W.mg_of X G aRP) kRP bRP
  have GHR : FnOk PySem.Challenge.pw_stepblocks_k05_diagrams_read_and_written w K mg base CX0 1 fHR _ ["name", "inputs", "outputs"] (spHead K) := ok_head FHR 
  have GPT : FnOk PySem.Challenge.pw_stepblocks_k05_diagrams_read_and_written w K mg base CX0 1 fPT _ ["port"] (spPort K) := ok_port FPT 
  have GRW : FnOk PySem.Challenge.pw_stepblocks_k05_diagrams_read_and_written w K mg base CX0 2 fRW _ ["name", "inputs", "outputs", "parts", "wires"] (spRows K) := ok_rows FRW GHR (PySem.W.mg_of X G aHR) kHR bHR GPT (PySem.W.mg_of X G aPT) kPT bPT
  have GRH : FnOk PySem.Challenge.pw_stepblocks_k05_diagrams_read_and_written w K mg base CX0 2 fRH _ ["row"] (spReadHead K) := ok_readhead FRH T GHR (PySem.W.mg_of X G aHR) kHR bHR
  have GOT : FnOk PySem.Challenge.pw_stepblocks_k05_diagrams_read_and_written w K mg base CX0 1 fOT _ ["parts", "outputs", "targets"] (spOrder K) := ok_order FOT (PySem.W.mg_none_of X G zsorted)
  have clR : Cls K CR := ⟨pgR, hdR, poR, saR⟩
  have R : RdC PySem.Challenge.pw_stepblocks_k05_diagrams_read_and_written w K mg base CR := ⟨clR, rN, rI, rO, rP, rW, rD, rA, rB⟩
  have Dg : DgC K mg C := ⟨⟨pg, hd, po, sa⟩, gnN, gnI, gnO, gnP, gnW, PySem.W.mg_none_of X G zsuper, PySem.W.mg_none_of X G ztuple⟩
  have GRI : FnOk PySem.Challenge.pw_stepblocks_k05_diagrams_read_and_written w K mg base CX0 1 fRI _ ["self", "max_ports", "max_parts"] (spRI K CR) := ok_ri FRI R
  have GPO : FnOk PySem.Challenge.pw_stepblocks_k05_diagrams_read_and_written w K mg base CX0 2 fPO _ ["self", "text", "own_names"] (spReadPort K CR) := ok_readport FPO clR rP GNA (PySem.W.mg_of X G aNA) kNA bNA
  have GTW : FnOk PySem.Challenge.pw_stepblocks_k05_diagrams_read_and_written w K mg base CX0 3 fTW _ ["self", "row"] (spTakeWire K CR) := ok_takewire FTW T clR rW rI rO ⟨aPO, iPO, kPO⟩ GPO bPO
  have GTP : FnOk PySem.Challenge.pw_stepblocks_k05_diagrams_read_and_written w K mg base CX0 4 fTP _ ["self", "row"] (spTakePart CR) := ok_takepart FTP T clR rP rB GNA (PySem.W.mg_of X G aNA) kNA bNA GIP (PySem.W.mg_of X G aIP) kIP bIP GDN (PySem.W.mg_of X G aDN) kDN bDN
  have GTH : FnOk PySem.Challenge.pw_stepblocks_k05_diagrams_read_and_written w K mg base CX0 3 fTH _ ["self", "row"] (spTakeHead CR) := ok_takehead FTH T (PySem.W.mg_none_of X G zset) clR rA rN rI rO GRH (PySem.W.mg_of X G aRH) kRH bRH GNA (PySem.W.mg_of X G aNA) kNA bNA GDN (PySem.W.mg_of X G aDN) kDN bDN
  have GTA : FnOk PySem.Challenge.pw_stepblocks_k05_diagrams_read_and_written w K mg base CX0 5 fTA _ ["self", "row"] (spTake K CR) := ok_take FTA R ⟨aTH, iTH, kTH⟩ GTH bTH ⟨aTP, iTP, kTP⟩ GTP bTP ⟨aTW, iTW, kTW⟩ GTW bTW
  have DI : DIn K PySem.Challenge.pw_stepblocks_k05_diagrams_read_and_written C fDI cc cda fBI := ⟨⟨_, _, _, _, _, _, _, lPI, ⟨_, _, _, lPI⟩, ⟨_, rfl, rfl⟩, ⟨_, _, _, _, _, _, lcd, vcd, beq_self_eq_true _⟩, ⟨_, _, _, lcc⟩, by decide +kernel, tpa⟩, cPI, ⟨sbs, sat, sty, ⟨_, sdc⟩, sfi⟩⟩
  have GB : FnOk PySem.Challenge.pw_stepblocks_k05_diagrams_read_and_written w K mg base CX0 1 fBI _ ["self", "name", "inputs", "outputs"] (spBI K) := ok_bi FBI
  have GI := ok_di DI Dg GB bBI GOT (PySem.W.mg_of X G aOT) kOT bOT
  have GOF : FnOk PySem.Challenge.pw_stepblocks_k05_diagrams_read_and_written w K mg base CX0 4 fOF _ ["cls", "reader"] (spOf K CR C) := ok_of FOF R ⟨mk, aPI, iPI, kc⟩ GI
  have raw : ∀ {k : Nat} {f : Addr} {fd : FuncData} {ps : List Str} {sp : Sp}, FnOk PySem.Challenge.pw_stepblocks_k05_diagrams_read_and_written w K mg base CX0 k f fd ps sp → Binds K fd ps [] → FnR PySem.Challenge.pw_stepblocks_k05_diagrams_read_and_written w K mg base CX0 k f sp := fun g b => by
    have z := g.raw b .nil
    simpa only [List.append_nil] using z
  have Er : ErrC K mg CI fER := ⟨⟨⟨nmE, qE, NE, bsE, _, snE, subE, abE, colE, ddEE, k0E, k1E, k2E, k3E, k5E, xE, by rfl⟩, eSa, eEx, eTy, eK⟩, aER, tER, eRow, PySem.W.mg_of X G aCI⟩
  have GER : FnOk PySem.Challenge.pw_stepblocks_k05_diagrams_read_and_written w K mg base CX0 1 fER _ ["self", "row"] (spErr K CI) := ok_err FER Er
  have cr : CRead K C (.type "type") := ⟨rdC, gaC⟩
  have GPA : FnOk PySem.Challenge.pw_stepblocks_k05_diagrams_read_and_written w K mg base (L2.CX PySem.Challenge.pw_stepblocks_k05_diagrams_read_and_written w) 6 fPA _ ["cls", "text"] (spParse K CR C CI) := ok_parse FPA (PySem.W.mg_none_of X G zlen) (PySem.W.mg_none_of X G zenumerate) R ⟨aTA, iTA, kTA⟩ GTA bTA ⟨mkR, aRI, iRI, kcR⟩ GRI (PySem.W.mg_of X G aCR) bRI cr ⟨_, v8, ⟨_, rfl⟩⟩ ⟨_, v16, ⟨_, rfl⟩⟩ ⟨aOF, ⟨_, rOF⟩, iOF⟩ (raw GOF bOF) Er GER bER
  have rawX : FnR PySem.Challenge.pw_stepblocks_k05_diagrams_read_and_written w K mg base (L2.CX PySem.Challenge.pw_stepblocks_k05_diagrams_read_and_written w) 6 fPA (spParse K CR C CI) := by
    have z := GPA.raw bPA .nil
    simpa only [List.append_nil] using z
  have GST : FnOk PySem.Challenge.pw_stepblocks_k05_diagrams_read_and_written w K mg base CX0 3 fST _ ["self"] (spStr K C) := ok_str FST Dg GRW (PySem.W.mg_of X G aRW) kRW bRW
  have kB : PySem.W.kitOne K (.ref C) (.ref B) = some true := by
    unfold PySem.W.kitOne
    have hb : ((Value.ref C) == (Value.ref B)) = false := by
      cases e : ((Value.ref C) == (Value.ref B)) with
      | false => rfl
      | true => exact absurd (Value.ref.inj (eq_of_beq e)) bne
    rw [hb, if_neg Bool.false_ne_true]
    unfold PySem.W.kitCls
    dsimp only
    rw [bcl, bty, if_pos (by rfl)]
    exact bsu
  have Pa : Par PySem.Challenge.pw_stepblocks_k05_diagrams_read_and_written w K mg base CR C CI := ⟨⟨.type "type", pPA, fPA, cr, ⟨aPA, ⟨_, rPA⟩, iPA⟩, rawX, ⟨_, v8, ⟨_, rfl⟩⟩, ⟨_, v16, ⟨_, rfl⟩⟩⟩, ⟨fST, aST, iST, raw GST bST⟩, PySem.W.mg_of X G aC, PySem.W.mg_none_of X G zstr, Dg, ⟨B, PySem.W.mg_of X G aB, kB⟩, oha, ohn, ohk, ohm, PySem.W.mg_none_of X G zisinstance, ⟨_, ⟨fi8, ⟨_, rfl⟩, fg8, by decide +kernel⟩⟩, ⟨_, ⟨fi16, ⟨_, rfl⟩, fg16, by decide +kernel⟩⟩⟩
  have GFE : FnOk PySem.Challenge.pw_stepblocks_k05_diagrams_read_and_written w K mg base CX0 1 fFE _ ["script", "k"] (spFeed K) := ok_feed FFE (PySem.W.mg_none_of X G zlen) (PySem.W.mg_none_of X G zmax) (PySem.W.mg_none_of X G zabs)
  have GTK : FnOk PySem.Challenge.pw_stepblocks_k05_diagrams_read_and_written w K mg base CX0 1 fTK _ ["feed", "many"] spTakeL := ok_takeL FTK 
  have GPK : FnOk PySem.Challenge.pw_stepblocks_k05_diagrams_read_and_written w K mg base CX0 2 fPK _ ["feed", "some"] spPick := ok_pick FPK GTK (PySem.W.mg_of X G aTK) kTK bTK (PySem.W.mg_none_of X G zlen)
  have GPS : FnOk PySem.Challenge.pw_stepblocks_k05_diagrams_read_and_written w K mg base CX0 2 fPK _ ["feed", "some"] spPickS := ok_picks FPK GTK (PySem.W.mg_of X G aTK) kTK bTK (PySem.W.mg_none_of X G zlen)
  have GWO : FnOk PySem.Challenge.pw_stepblocks_k05_diagrams_read_and_written w K mg base CX0 2 fWO _ ["feed", "size"] spWords := ok_words FWO GTK (PySem.W.mg_of X G aTK) kTK bTK (PySem.W.mg_none_of X G zrange)
  have GBK : FnOk PySem.Challenge.pw_stepblocks_k05_diagrams_read_and_written w K mg base CX0 3 fBK _ ["feed", "words"] spBlock := ok_block FBK GTK (PySem.W.mg_of X G aTK) kTK bTK GPK (PySem.W.mg_of X G aPK) kPK bPK (PySem.W.mg_none_of X G zstr)
  have GDG : FnOk PySem.Challenge.pw_stepblocks_k05_diagrams_read_and_written w K mg base CX0 4 fDG _ ["feed", "words"] (spDgmG K) := ok_dgm FDG GTK (PySem.W.mg_of X G aTK) kTK bTK GPK (PySem.W.mg_of X G aPK) kPK bPK GBK (PySem.W.mg_of X G aBK) kBK bBK (PySem.W.mg_none_of X G zsorted) (PySem.W.mg_none_of X G zset) (PySem.W.mg_none_of X G ztuple)
  have GLP : FnOk PySem.Challenge.pw_stepblocks_k05_diagrams_read_and_written w K mg base CX0 1 fLP _ ["port"] (spPort K) := ok_portl FLP 
  have GLW : FnOk PySem.Challenge.pw_stepblocks_k05_diagrams_read_and_written w K mg base CX0 2 fLW _ ["diagram"] (spRowsL K) := ok_rowsl FLW GLP (PySem.W.mg_of X G aLP) kLP bLP (PySem.W.mg_none_of X G zsorted) (PySem.W.mg_none_of X G ztuple)
  have GOL : FnOk PySem.Challenge.pw_stepblocks_k05_diagrams_read_and_written w K mg base CX0 2 fOL _ ["feed", "rows", "count"] spOrdL := ok_ordl FOL GTK (PySem.W.mg_of X G aTK) kTK bTK (PySem.W.mg_none_of X G zlen)
  have GMY : FnOk PySem.Challenge.pw_stepblocks_k05_diagrams_read_and_written w K mg base CX0 7 fMY _ ["feed"] spMany := ok_many FMY Pa GTK (PySem.W.mg_of X G aTK) kTK bTK GLW (PySem.W.mg_of X G aLW) kLW bLW GOL (PySem.W.mg_of X G aOL) kOL bOL (PySem.W.mg_none_of X G zlen) (PySem.W.mg_none_of X G zenumerate) (PySem.W.mg_none_of X G zlist)
  exact ok_law FLA Pa GFE (PySem.W.mg_of X G aFE) kFE bFE GWO (PySem.W.mg_of X G aWO) kWO bWO GDG (PySem.W.mg_of X G aDG) kDG bDG GLW (PySem.W.mg_of X G aLW) kLW bLW GOL (PySem.W.mg_of X G aOL) kOL bOL GMY (PySem.W.mg_of X G aMY) kMY bMY (PySem.W.mg_none_of X G zlen) (PySem.W.mg_none_of X G zmax) (PySem.W.mg_none_of X G zmin) (PySem.W.mg_none_of X G zrange) (PySem.W.mg_none_of X G zrepr)
theorem walk {l : PySem.W.OpenLaw} {q : Program} {loose : List Str} {XP : (Str → Option Value) → Heap → Prop} {YP : World → Heap → Prop} {d : DefRec} {K : Params → PySem.W.Frag} (hn : l.most = some 63) (hdf : d.params.defaults = [])
    (hY : ∀ (w : World) (h : Heap), YP w h → (K w.params).In h)
    (F : ∀ (w : World) (mg : Str → Option Value) (fa : Addr) (h : Heap), (K w.params).In h → h.Ns mainGlobals mg → mg d.name = some (.ref fa) →
      ∃ fd : FuncData, (∀ (s : Shared) (u : Value), BindsTo s fd ⟨[u], []⟩ [("script", u)]) ∧ ∀ base : Heap, (K w.params).In base → base.Ns mainGlobals mg → FnG l.prog w (K w.params) mg base CX0 8 fa fd ["script"] (spLaw (K w.params))) :
    PySem.W.WalkO q loose XP YP l.row.toRowW d [] (fun f vs => PySem.call f vs) :=
  walk_ofG (n := 63) (k := 8) (x := "script") (sp := fun w => spLaw (K w.params)) hn (by decide) hdf ⟨rfl, by decide, by decide⟩ hY F (fun _ _ a ns hl _ hS => ⟨a, ns, rfl, hS, hl, fun _ => rfl⟩)
end K5
open PySem PySem.W PyProof.Rows
set_option maxRecDepth 100000 in
set_option maxHeartbeats 0 in
theorem PySem.Challenge.cw_stepblocks_k05_diagrams_read_and_written_holds : PySem.Challenge.rw_stepblocks_k05_diagrams_read_and_written.Holds := by
  w_on; o_law; k_head; (case hw => w_witness2)
  k_fill
  refine K5.walk (l := PySem.Challenge.rw_stepblocks_k05_diagrams_read_and_written) rfl rfl (fun w h Y => PySem.W.kIn_of Y) ?F
  case F =>
    intro w mg fa h KX G hmg
    refine' K5.all_mk KX G hmg ?aC ?aB ?aCR ?aCI ?aNA ?lNA ?cNA ?kNA ?aDN ?lDN ?cDN ?kDN ?aRV ?lRV ?cRV ?kRV ?aRP ?lRP ?cRP ?kRP ?aIP ?lIP ?cIP ?kIP ?aHR ?lHR ?cHR ?kHR ?aPT ?lPT ?cPT ?kPT ?aRW ?lRW ?cRW ?kRW ?aRH ?lRH ?cRH ?kRH ?aOT ?lOT ?cOT ?kOT ?aRI ?iRI ?lRI ?cRI ?kRI ?aTA ?iTA ?lTA ?cTA ?kTA ?aTH ?iTH ?lTH ?cTH ?kTH ?aTP ?iTP ?lTP ?cTP ?kTP ?aTW ?iTW ?lTW ?cTW ?kTW ?aPO ?iPO ?lPO ?cPO ?kPO ?aBI ?iBI ?lBI ?cBI ?kBI ?aPA ?rPA ?iPA ?lPA ?cPA ?kPA ?aOF ?rOF ?iOF ?lOF ?cOF ?kOF ?aST ?iST ?lST ?cST ?kST ?aPI ?iPI ?lPI ?cPI ?lcd ?vcd ?lcc ?tpa ?sbs ?sat ?sty ?sdc ?sfi ?pg ?hd ?po ?sa ?mk ?kc ?pgR ?hdR ?poR ?saR ?mkR ?kcR ?rdC ?gaC ?v8 ?v16 ?gnN ?gnI ?gnO ?gnP ?gnW ?rN ?rI ?rO ?rP ?rW ?rD ?rA ?rB ?aMo ?aMd ?aDg ?aLe ?aMl ?aP ?lP ?qP ?oP ?kP ?aW ?lW ?aE ?lE ?u1 ?u2 ?u3 ?u4 ?u5 ?u6 ?u7 ?u8 ?u9 ?zsuper ?zlen ?zall ?zint ?zstr ?ztuple ?zisinstance ?zset ?zsorted ?zenumerate ?zmax ?zmin ?zabs ?zrange ?zrepr ?zlist ?aBE ?xE ?eSa ?eGa ?eGg ?eRow ?eEx ?eTy ?eK ?eHd ?eSelf ?ohn ?ohk ?bcl ?bty ?bsu ?bne ?fi8 ?fi16 ?fg8 ?fg16 ?oha ?ohm ?aER ?iER ?lER ?cER ?kER ?tER ?aFE ?lFE ?cFE ?kFE ?aTK ?lTK ?cTK ?kTK ?aPK ?lPK ?cPK ?kPK ?aWO ?lWO ?cWO ?kWO ?aBK ?lBK ?cBK ?kBK ?aDG ?lDG ?cDG ?kDG ?aLP ?lLP ?cLP ?kLP ?aLW ?lLW ?cLW ?kLW ?aOL ?lOL ?cOL ?kOL ?aMY ?lMY ?cMY ?kMY ?aLA ?lLA ?cLA ?kLA
    (case aC => k_is); (case aB => k_is); (case aCR => k_is); (case aCI => k_is); (case aNA => k_is); (case lNA => k_is); (case cNA => k_is); (case kNA => k_is)
    (case aDN => k_is); (case lDN => k_is); (case cDN => k_is); (case kDN => k_is); (case aRV => k_is); (case lRV => k_is); (case cRV => k_is); (case kRV => k_is)
    (case aRP => k_is); (case lRP => k_is); (case cRP => k_is); (case kRP => k_is); (case aIP => k_is); (case lIP => k_is); (case cIP => k_is); (case kIP => k_is)
    (case aHR => k_is); (case lHR => k_is); (case cHR => k_is); (case kHR => k_is); (case aPT => k_is); (case lPT => k_is); (case cPT => k_is); (case kPT => k_is)
    (case aRW => k_is); (case lRW => k_is); (case cRW => k_is); (case kRW => k_is); (case aRH => k_is); (case lRH => k_is); (case cRH => k_is); (case kRH => k_is)
    (case aOT => k_is); (case lOT => k_is); (case cOT => k_is); (case kOT => k_is); (case aRI => k_is); (case iRI => k_is); (case lRI => k_is); (case cRI => k_is)
    (case kRI => k_is); (case aTA => k_is); (case iTA => k_is); (case lTA => k_is); (case cTA => k_is); (case kTA => k_is); (case aTH => k_is); (case iTH => k_is)
    (case lTH => k_is); (case cTH => k_is); (case kTH => k_is); (case aTP => k_is); (case iTP => k_is); (case lTP => k_is); (case cTP => k_is); (case kTP => k_is)
    (case aTW => k_is); (case iTW => k_is); (case lTW => k_is); (case cTW => k_is); (case kTW => k_is); (case aPO => k_is); (case iPO => k_is); (case lPO => k_is)
    (case cPO => k_is); (case kPO => k_is); (case aBI => k_is); (case iBI => k_is); (case lBI => k_is); (case cBI => k_is); (case kBI => k_is); (case aPA => k_is)
    (case rPA => k_is); (case iPA => k_is); (case lPA => k_is); (case cPA => k_is); (case kPA => k_is); (case aOF => k_is); (case rOF => k_is); (case iOF => k_is)
    (case lOF => k_is); (case cOF => k_is); (case kOF => k_is); (case aST => k_is); (case iST => k_is); (case lST => k_is); (case cST => k_is); (case kST => k_is)
    (case aPI => k_is); (case iPI => k_is); (case lPI => k_is); (case cPI => k_is); (case lcd => k_is); (case vcd => exact rfl); (case lcc => k_is); (case tpa => k_is)
    (case sbs => k_is); (case sat => ks_is); (case sty => k_is); (case sdc => k_is); (case sfi => k_is); (case pg => k_is); (case hd => k_is); (case po => k_is)
    (case sa => k_is); (case mk => k_is); (case kc => k_is); (case pgR => k_is); (case hdR => k_is); (case poR => k_is); (case saR => k_is); (case mkR => k_is)
    (case kcR => k_is); (case rdC => k_is); (case gaC => k_is); (case v8 => k_is); (case v16 => k_is); (case gnN => k_is); (case gnI => k_is); (case gnO => k_is)
    (case gnP => k_is); (case gnW => k_is); (case rN => k_is); (case rI => k_is); (case rO => k_is); (case rP => k_is); (case rW => k_is); (case rD => k_is)
    (case rA => k_is); (case rB => k_is); (case aMo => k_is); (case aMd => k_is); (case aDg => k_is); (case aLe => k_is); (case aMl => k_is); (case aP => k_is)
    (case lP => k_is); (case qP => k_keys); (case oP => decide); (case kP => exact rfl); (case aW => k_is); (case lW => k_is); (case aE => k_is); (case lE => k_is)
    (case u1 => k_is); (case u2 => k_is); (case u3 => k_is); (case u4 => k_is); (case u5 => k_is); (case u6 => k_is); (case u7 => k_is); (case u8 => k_is)
    (case u9 => k_is); (case zsuper => k_is); (case zlen => k_is); (case zall => k_is); (case zint => k_is); (case zstr => k_is); (case ztuple => k_is); (case zisinstance => k_is)
    (case zset => k_is); (case zsorted => k_is); (case zenumerate => k_is); (case zmax => k_is); (case zmin => k_is); (case zabs => k_is); (case zrange => k_is); (case zrepr => k_is)
    (case zlist => k_is); (case aBE => k_is); (case xE => k_is); (case eSa => k_is); (case eGa => k_is); (case eGg => k_is); (case eRow => k_is); (case eEx => k_is)
    (case eTy => k_is); (case eK => k_is); (case eHd => k_is); (case eSelf => k_is); (case ohn => k_is); (case ohk => k_is); (case bcl => k_is); (case bty => k_is)
    (case bsu => k_is); (case bne => decide); (case fi8 => k_is); (case fi16 => k_is); (case fg8 => k_is); (case fg16 => k_is); (case oha => k_is); (case ohm => k_is)
    (case aER => k_is); (case iER => k_is); (case lER => k_is); (case cER => k_is); (case kER => k_is); (case tER => k_is); (case aFE => k_is); (case lFE => k_is)
    (case cFE => k_is); (case kFE => k_is); (case aTK => k_is); (case lTK => k_is); (case cTK => k_is); (case kTK => k_is); (case aPK => k_is); (case lPK => k_is)
    (case cPK => k_is); (case kPK => k_is); (case aWO => k_is); (case lWO => k_is); (case cWO => k_is); (case kWO => k_is); (case aBK => k_is); (case lBK => k_is)
    (case cBK => k_is); (case kBK => k_is); (case aDG => k_is); (case lDG => k_is); (case cDG => k_is); (case kDG => k_is); (case aLP => k_is); (case lLP => k_is)
    (case cLP => k_is); (case kLP => k_is); (case aLW => k_is); (case lLW => k_is); (case cLW => k_is); (case kLW => k_is); (case aOL => k_is); (case lOL => k_is)
    (case cOL => k_is); (case kOL => k_is); (case aMY => k_is); (case lMY => k_is); (case cMY => k_is); (case kMY => k_is); (case aLA => k_is); (case lLA => k_is)
    (case cLA => k_is); (case kLA => k_is)
